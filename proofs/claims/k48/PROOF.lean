import PyProof.Rows.All
import Wide.All
import OpenK.AllK
import Wide.FinOn
import HandS.ForMost
import HandS.Style
import HandS.Flow
import KE.GoesMore
import KE.GoesEnum
import KE.KTupSum
import PyProof.ReprRoads
import PyProof.ReprLen
import HandS.IsInst
import HandS.TupLe
import HandS.SetKeys
import HandS.SortRule
import HandS.More
import HandS.SortInts
import HandS.Zip
import HandS.Conv
import HandS.TupAny
import PyProof.P3In
import HandS.Deep
import HandS.Iter
import HandS.Text
import HandS.Walk
import PyProof.StrOps2
import KE.GoesZip
import HandS.DictComp
import HandS.DictTup
import KE.KItemsList
import KE.KRevSl
import HandS.TupMul
import HandS.ForExc
import PyProof.NeKinds
import HandS.SortKw
import KE.DataMinMax
import KE.SortData
import PyProof.CallFns
import PyProof.TupleOfSeq
import PySem.Challenge.RW_keepsort_k48_settled_tables_counted
set_option Elab.async false
set_option linter.all false
set_option maxRecDepth 100000
set_option maxHeartbeats 4000000
namespace KS
open PySem PySem.Spec PyProof.Rows L2
/-- three whole numbers: the state, the digits left, how many draws -/
def PoolO (o : Option HO) : Prop := ∃ a b c : Int, o = some (.lst [.int a, .int b, .int c]) ∧ 0 ≤ a ∧ a < 2147483249 ∧ 0 ≤ b
/-- what stood, but at p, stands -/
def KeepX (p : Addr) (H H' : Hp) : Prop := ∀ b o, b ≠ p → H b = some o → H' b = some o
theorem KeepX.refl (p : Addr) (H : Hp) : KeepX p H H := fun _ _ _ e => e
theorem KeepX.trans {p : Addr} {H H1 H2 : Hp} (a : KeepX p H H1) (b : KeepX p H1 H2) : KeepX p H H2 := fun c o n e => b c o n (a c o n e)
theorem KeepX.of_same {p : Addr} {H H1 : Hp} (a : Same H H1) : KeepX p H H1 := fun c o _ e => a c o e
theorem same_new {H : Hp} {p : Addr} {o : HO} (h : H p = none) : Same H (upd H p o) := fun b x e => by
  rw [upd_ne (ne_of_none e h)]
  exact e
theorem keepX_upd {H : Hp} {p : Addr} {o : HO} : KeepX p H (upd H p o) := fun b x n e => by
  rw [upd_ne n]
  exact e
theorem PoolO.same {H H' : Hp} {p : Addr} (s : Same H H') (h : PoolO (H p)) : PoolO (H' p) := by
  obtain ⟨a, b, c, e, r⟩ := h
  exact ⟨a, b, c, s _ _ e, r⟩
theorem PoolO.ne {H : Hp} {p q : Addr} (h : PoolO (H p)) (n : H q = none) : p ≠ q := by
  obtain ⟨a, b, c, e, r⟩ := h
  exact ne_of_none e n
theorem same_seqT {K : PySem.W.Frag} {H H' : Hp} {a : Addr} {xs : List V} (e : Same H H') (h : SqT K H a xs) : SqT K H' a xs := by
  rcases h with (h | ⟨o, h⟩) | h
  · exact .inl (.inl (e _ _ h))
  · exact .inl (.inr ⟨o, e _ _ h⟩)
  · exact .inr h
theorem keepX_seqT {K : PySem.W.Frag} {H H' : Hp} {a p : Addr} {xs : List V} (hp : PoolO (H p)) (e : KeepX p H H') (h : SqT K H a xs) : SqT K H' a xs := by
  obtain ⟨x, y, z, ep, _⟩ := hp
  rcases h with (h | ⟨o, h⟩) | h
  · exact .inl (.inl (e _ _ (fun q => by rw [q, ep] at h; cases h) h))
  · exact .inl (.inr ⟨o, e _ _ (fun q => by rw [q, ep] at h; cases h) h⟩)
  · exact .inr h
theorem int_mod_bd (x : Int) {m : Int} (h : 0 < m) : 0 ≤ x % m ∧ x % m < m := ⟨Int.emod_nonneg x (by omega), Int.emod_lt_of_pos x h⟩
def spCell (K : PySem.W.Frag) : Sp := fun vs H Q _ => ∃ (a : Addr) (ns : List Int) (k : Nat), vs = [.ref a, .int k] ∧ SqL K H a (ns.map V.int) ∧ k ≤ 63 ∧ ∀ H' n, Same H H' → Q (.int n) H'
def spPool : Sp := fun vs H Q _ => ∃ (n : Int), vs = [.int n] ∧ ∀ H' p, Same H H' → H p = none → PoolO (H' p) → Q (.ref p) H'
def spDraw : Sp := fun vs H Q _ => ∃ (p : Addr) (m : Int), vs = [.ref p, .int m] ∧ PoolO (H p) ∧ 0 < m ∧ m < 1073741824 ∧ ∀ H' r, KeepX p H H' → PoolO (H' p) → 0 ≤ r → r < m → Q (.int r) H'
end KS
namespace KS
open PySem PySem.Spec PyProof.Rows L2
open Sem (wp)
open AutoSeq1 (wpAny_loadPart')
/-! ### sum(t), t a tuple of whole numbers -/
def rSumT (K : PySem.W.Frag) : List V → Hp → VK → Prop := fun vs H Q => ∃ (a : Addr) (ns : List Int), vs = [V.ref a] ∧ SqT K H a (ns.map V.int) ∧ Q (.int ns.sum) H
theorem cr_sumT {X : Cx} (hc : X.calm = true) : CallR X (.builtin "sum") (rSumT X.K) := by
  intro pins s σ H vs us Q I r h
  obtain ⟨a, ns, rfl, hs, q⟩ := h
  obtain ⟨its, rv, hl, _⟩ := I.tuple hs
  rw [Vals.ref1 r]
  have hi := rv.ints
  obtain ⟨xs, e⟩ := hi.allInts.items
  have hn : numsOf (intItems xs).toList = ns := by
    rw [← e]
    exact hi.numsOf
  rw [nums_intItems] at hn
  have hl2 : s.heap.IsTuple a (intItems xs) := by
    rw [← e]
    exact hl
  refine PySem.W.ktm_sumG (I.ok.hd hc) hl2 fun h' tk t' hk => ⟨.int ns.sum, H, I.kept hk, ⟨t', ?_⟩, q⟩
  rw [preSum_eq, List.take_of_length_le (by simp), hn]
/-- tuple(x), x a list or a tuple -/
def rTupOf (K : PySem.W.Frag) : List V → Hp → VK → Prop := fun xs H Q => ∃ p ys, xs = [.ref p] ∧ ((SqL K H p ys ∧ ∀ l, H l = none → Q (.ref l) (upd H l (.tup ys))) ∨ (SqT K H p ys ∧ Q (.ref p) H))
theorem cr_tupOf {X : Cx} : CallR X (.type "tuple") (rTupOf X.K) := call_tuple_of
/-! ### enumerate(t), t a tuple -/
abbrev tupItO (l : Addr) : Obj := { cls := .type "tuple_iterator", data := .fields #[.ref l, .int 0 0] }
abbrev enumO (it : Addr) : Obj := { cls := .type "enumerate", data := .fields #[.none, .bool false, .ref it, rawInt 0, .none, .none] }
theorem meets_enumT (l : Addr) (items : Array Value) (n : Nat) (dct : Option Addr) (sl : Array (Option Value)) :
    Meets (Builtin.«enumerate.__new__» ⟨[.type "enumerate", .ref l], []⟩) (fun _ R s =>
      s.heap.get? l = some { cls := .type "tuple", dict := dct, data := .seq items n, slots := sl } ∧
      R (.ok (.ret (.ref (s.heap.push (tupItO l)).objs.size))) { s with heap := (s.heap.push (tupItO l)).push (enumO s.heap.objs.size) }) :=
  .of_wp fun prog w A R s h => by
    obtain ⟨hp, g, d, tk, os⟩ := s
    obtain ⟨hl, h⟩ := h
    have hsub := sub_enumerate
    have hT : Heap.IsTuple (Shared.heap ⟨hp, g, d, tk, os⟩) l items := ⟨_, hl, rfl, n, rfl⟩
    wp_walk using wpAny_loadPart' hl
    refine wpAny_stack_any fun st => wpAny_pure ?_
    split
    · rename_i c _ _ _ _ _
      cases (c == Value.type "enumerate")
      · wp_walk using wpAny_loadPart' hl, wpAny_pyIter_tuple hT
        exact ⟨_, rfl, h⟩
      · wp_walk using wpAny_loadPart' hl, wpAny_pyIter_tuple hT
        exact ⟨_, rfl, h⟩
    · wp_walk using wpAny_loadPart' hl, wpAny_pyIter_tuple hT
      exact ⟨_, rfl, h⟩
theorem call_enumT {prog : Program} {w : World} {A : Around} {E : Value → Shared → Prop} {s : Shared} {l : Addr} {items : Array Value} {Q : Value → Shared → Prop} (hL : s.heap.IsTuple l items)
    (h : ∀ h', IsEnum h' (s.heap.objs.size + 1) s.heap.objs.size 0 .none → h'.IsTupleIter s.heap.objs.size l 0 →
      (∀ b o, s.heap.get? b = some o → h'.get? b = some o) → Q (.ref (s.heap.objs.size + 1)) { s with heap := h' }) :
    wpAny (model prog w) A (call (.type "enumerate") [.ref l]) Q E s := by
  obtain ⟨⟨c, dct, dt, sl⟩, hl, hc, n, hd⟩ := hL
  replace hc : c = .type "tuple" := hc
  replace hd : dt = .seq items n := hd
  subst hc
  subst hd
  refine callType_new F.called_enumerate (by decide) (F.typeCall_enumerate_1 _) (F.newCall_enumerate_1 _)
    (fun obj => F.args_object_init_2 obj _) F.entry_enumerate_new (meets_enumT l items n dct sl) ⟨hl, ?_⟩
  generalize hg1 : s.heap.push (tupItO l) = g1
  have hz : g1.objs.size = s.heap.objs.size + 1 := by
    rw [← hg1]
    exact Heap.size_push ..
  have hit : g1.get? s.heap.objs.size = some (tupItO l) := by
    rw [← hg1]
    exact Heap.get?_push_size _ rfl
  have hold : ∀ b o, s.heap.get? b = some o → g1.get? b = some o := fun b o e => by
    rw [← hg1]
    exact Heap.get?_push_of_some _ e
  show _ ∧ _
  rw [hz]
  have he : IsEnum (g1.push (enumO s.heap.objs.size))
      (s.heap.objs.size + 1) s.heap.objs.size 0 .none := by
    have z := Heap.get?_push_size g1 (o := enumO s.heap.objs.size) rfl
    rw [hz] at z
    exact z
  exact ⟨⟨_, he, rfl⟩, h _ he ⟨tupItO l, Heap.get?_push_of_some _ hit, rfl, rfl⟩ fun b o x => Heap.get?_push_of_some _ (hold b o x)⟩
/-- the pairs (i, item i) of the tuple at a, each a new tuple -/
def IteT (K : PySem.W.Frag) (a : Addr) : It :=
  ⟨fun i H => ∃ (xs : List V) (x : V), SqT K H a xs ∧ xs[i]? = some x,
   fun i H v H' => ∃ T x, v = .ref T ∧ H T = none ∧ H' = upd H T (.tup [.int (i : Nat), x]) ∧ ∀ xs, SqT K H a xs → xs[i]? = some x,
   fun i H => ∃ xs : List V, SqT K H a xs ∧ xs.length ≤ i⟩
theorem turn_enumT {P : Program} {w : World} {K : PySem.W.Frag} {elts : List Expr} {kk : Nat} {tpos : Pos} (a e it : Addr) :
    Turn P w K (.Tuple elts kk tpos) (IteT K a) [e, it] e
      (fun i h => (∃ old, IsEnum h e it ((i : Nat) : Int) old) ∧ h.IsTupleIter it a i ∧ e ≠ it) where
  mem := by simp
  obj := fun i h st b hb => by
    obtain ⟨⟨old, he⟩, ⟨o, ho, hc, hd⟩, _⟩ := st
    rcases (by simpa using hb : b = e ∨ b = it) with z | z
    · subst z
      exact ⟨_, he, fun v q => nomatch q⟩
    · subst z
      exact ⟨o, ho, fun v q => by rw [hd] at q; cases q⟩
  keep := fun i h h' st k => by
    obtain ⟨⟨old, he⟩, hi, hne⟩ := st
    exact ⟨⟨old, k e (by simp) _ he⟩, hi.at fun o q => k it (by simp) o q, hne⟩
  item := by
    intro X hP hw hK hc i pins s σ H E I hf st hg
    subst hP hw hK
    obtain ⟨⟨old, he⟩, hit, hne⟩ := st
    obtain ⟨xs, x, hq, hx⟩ := hg
    obtain ⟨its, rv, p, hz⟩ := I.tuple hq
    have p1 : s.heap.IsTuple a its.toArray := p
    obtain ⟨u0, hu0, ru0⟩ := rv.get hx
    have hel : e < s.heap.objs.size := Heap.lt_size he
    have hil : it < s.heap.objs.size := by
      obtain ⟨_, q, _⟩ := hit
      exact Heap.lt_size q
    have hai : a ≠ it := fun z => by
      obtain ⟨o1, g1, c1, _⟩ := p1
      obtain ⟨o2, g2, c2, _⟩ := hit
      rw [z, g2] at g1
      cases g1
      rw [c1] at c2
      injection c2 with c3
      exact absurd c3 (by decide)
    have hea : e ≠ a := fun z => by
      obtain ⟨o1, g1, c1, _⟩ := p1
      have g2 : s.heap.get? e = some _ := he
      rw [z, g1] at g2
      cases g2
      have c2 : Value.type "enumerate" = Value.type "tuple" := c1
      injection c2 with c3
      exact absurd c3 (by decide)
    have hlt : i < its.toArray.size := by
      have z : i < its.length := (List.getElem?_eq_some_iff.mp hu0).1
      simpa using z
    have DD : Draws X.prog X.w X.A.in1 it [it, a] its.toArray.size (fun i v => its.toArray[i]? = some v) (fun i h => h.IsTupleIter it a i ∧ h.IsTuple a its.toArray) :=
      Draws.tuple (show X.A.in1.handled = none from I.ok.hd hc) it a hai its.toArray
    refine wpAny_pyNext_enum_itemD DD he ⟨hit, p1⟩ hlt hne (by simp [hne, hea]) fun u h' tk hu ho hst hT hsz hk => ?_
    have eu : u = u0 := by
      have z : its[i]? = some u := by simpa using hu
      rw [hu0] at z
      exact (Option.some.inj z).symm
    subst eu
    refine ⟨_, rfl, wpAny_letOwnedTupleGo_enum (s := { s with heap := h', toks := tk + 1 }) ho fun h'' he' sb => ?_⟩
    have hT2 : h''.get? s.heap.objs.size = some { cls := .type "tuple", data := .seq #[.int i tk, u] } := (sb.2 _ (Nat.ne_of_gt hel)).trans hT
    have new : ObjOk X.prog X.w (upd H s.heap.objs.size (.tup [.int (i : Nat), x])) h'' s.heap.objs.size (.tup [.int (i : Nat), x]) :=
      ⟨by show 2 ≤ sizeLine; decide, [.int i tk, u], .cons ⟨_, rfl⟩ (.cons ru0 .nil), ⟨_, hT2, rfl, _, rfl⟩⟩
    have I1 : Inv X pins σ (upd H s.heap.objs.size (.tup [.int (i : Nat), x])) { s with heap := h'', toks := tk + 1 } :=
      I.turnedNew (ch := [e, it]) (fun b ob hb q => (sb.2 b (fun z => hb (by simp [z]))).trans
        (hk b ob (fun z => hb (by simp [z])) (fun z => hb (by simp [z])) q)) hf (Nat.le_refl _) new
    refine ⟨.ref s.heap.objs.size, _, I1, rfl, ⟨_, x, rfl, I.hok.fresh (Nat.le_refl _), rfl, fun ys hy => ?_⟩,
      ⟨⟨u, ?_⟩, hst.1.at fun o q => (sb.2 it (Ne.symm hne)).trans q, hne⟩, fun b hb => ?_⟩
    · rw [I.tuple_inj hy hq]
      exact hx
    · have e1 : ((i + 1 : Nat) : Int) = (i : Int) + 1 := by omega
      rw [e1]
      exact he'
    · have hb' : b < s.heap.objs.size := by
        rcases (by simpa using hb : b = e ∨ b = it) with z | z
        · rw [z]
          exact hel
        · rw [z]
          exact hil
      rw [upd_ne (Nat.ne_of_lt hb')]
      exact (hf b hb).1
  done := by
    intro X hP hw hK hc i pins s σ H E I hf st hg
    subst hP hw hK
    obtain ⟨⟨old, he⟩, hit, hne⟩ := st
    obtain ⟨xs, hq, hx⟩ := hg
    obtain ⟨its, rv, p, hz⟩ := I.tuple hq
    have p1 : s.heap.IsTuple a its.toArray := p
    obtain ⟨f0, f1, f2, f3, f4, f5⟩ := hf it (by simp)
    have hl := rv.length
    have DD : Draws X.prog X.w X.A.in1 it [it, a] i (fun _ _ => True) (fun j h => j = i ∧ h.IsTupleIter it a i ∧ h.IsTuple a its.toArray) :=
      { live := fun _ _ st => let ⟨o, ho, _⟩ := st.2.1; ⟨o, ho⟩
        frame := fun _ _ _ st hk => ⟨st.1, st.2.1.at fun o e => hk it (by simp) o e, st.2.2.at fun o e => hk a (by simp) o e⟩
        item := fun j s Q E hj st hQ => absurd st.1 (by omega)
        done := fun s Q E st hE => wpAny_nextOf_tuple_end (show X.A.in1.handled = none from I.ok.hd hc) st.2.1 st.2.2 (by simp; omega) hE }
    exact wpAny_pyNext_enum_endD DD he ⟨rfl, hit, p1⟩ fun h' eb => ⟨rfl, I.turned (t' := s.toks) (fun b o hb q => eb b o hb q) f0 f1 f3 f4 f5⟩
  self := fun A i s Q E st h => by
    obtain ⟨⟨_, he⟩, _⟩ := st
    exact wpAny_pyIter_enum he h
def iEnumT (K : PySem.W.Frag) (ta : TA) : TI := fun σ H R => ta σ H fun vs H1 => ∃ a xs, vs = [.ref a] ∧ SqT K H1 a xs ∧ R (IteT K a) H1
theorem pi_enumT {X : Cx} {e : Expr} {ta : TA} {p pos tpos : Pos} {elts : List Expr} {kk : Nat} (hg : Gl X "enumerate") (hm : X.mg "enumerate" = none) (ha : PA X [e] ta)
    (hs : starEach [e] X.env = [(false, eval e X.env)] := by rfl) : PI X (.Tuple elts kk tpos) (.Call (.Name "enumerate" p) [e] [] pos) (iEnumT X.K ta) := by
  refine ⟨fun pins s σ H R I h => ?_⟩
  refine Call_ (ld_blt I hg hm boot_enumerate (PyProof.Rows.callWith_type1 (thn (ha.run pos pins s σ H _ I h) fun us s1 hh => ?_) hs rfl))
  obtain ⟨vs, H1, I1, r1, a, xs, ex, hq, q⟩ := hh
  subst ex
  cases r1 with
  | cons r rr =>
    cases rr
    cases r
    obtain ⟨its, rv, p1, hz⟩ := I1.tuple hq
    refine call_enumT (items := its.toArray) p1 fun h' he hit hk => wpAny_pyIter_enum he ?_
    have I2 : Inv X pins σ H1 { s1 with heap := h' } := I1.kept (t' := s1.toks) hk
    refine ⟨s1.heap.objs.size + 1, [s1.heap.objs.size + 1, s1.heap.objs.size], _, _, H1, rfl, I2, turn_enumT a (s1.heap.objs.size + 1) s1.heap.objs.size,
      ⟨⟨.none, he⟩, hit, Nat.succ_ne_self _⟩, fun b hb => ?_, q⟩
    have hle : s1.heap.objs.size ≤ b := by
      rcases (by simpa using hb : b = s1.heap.objs.size + 1 ∨ b = s1.heap.objs.size) with z | z
      · rw [z]
        exact Nat.le_succ _
      · rw [z]
        exact Nat.le_refl _
    exact I1.fpOk hle (I1.hok.fresh hle)
/-- a for over enumerate(t): Pv at each turn; the pair stands in a new tuple at T -/
theorem for_enumT {K : PySem.W.Frag} {a : Addr} {xs : List V} {g : TG} {tb : TS} {D : Ends} {σ : L2.St} {H : Hp} (Pv : Nat → L2.St → Hp → Prop) (h0 : Pv 0 σ H)
    (hl : ∀ i σ H, i ≤ xs.length → Pv i σ H → SqT K H a xs)
    (hs : ∀ i x σ H T, xs[i]? = some x → Pv i σ H → H T = none → g (.ref T) σ (upd H T (.tup [.int (i : Nat), x])) fun σ2 H2 => tb { D with nx := Pv (i + 1), ct := Pv (i + 1), bk := D.nx } σ2 H2)
    (hd : ∀ σ H, Pv xs.length σ H → D.nx σ H) :
    ∃ W : Nat → Nat → L2.St → Hp → Prop, (∃ m, W 0 m σ H) ∧ ∀ i m σ H, W i m σ H →
      ((IteT K a).stop i H ∧ D.nx σ H) ∨ ((IteT K a).go i H ∧ ∃ N : L2.St → Hp → Prop, (∀ σ' H', N σ' H' → ∃ m', m' < m ∧ W (i + 1) m' σ' H') ∧
        ∀ x H', (IteT K a).yld i H x H' → g x σ H' fun σ2 H2 => tb { D with nx := N, ct := N, bk := D.nx } σ2 H2) := by
  refine ⟨fun i m σ H => m = xs.length - i ∧ i ≤ xs.length ∧ Pv i σ H, ⟨xs.length, by simp, Nat.zero_le _, h0⟩, ?_⟩
  rintro i m σ H ⟨rfl, hi, p⟩
  have q := hl i σ H hi p
  by_cases hlt : i < xs.length
  · refine .inr ⟨⟨xs, xs[i], q, by simp [hlt]⟩, Pv (i + 1), fun σ' H' p' => ⟨xs.length - (i + 1), by omega, rfl, hlt, p'⟩, fun x H' y => ?_⟩
    obtain ⟨T, x1, rfl, nT, rfl, hx⟩ := y
    exact hs i x1 σ H T (hx _ q) p nT
  · have e : i = xs.length := by omega
    subst e
    exact .inl ⟨⟨xs, q, Nat.le_refl _⟩, hd σ H p⟩
end KS
namespace KS
open PySem PySem.Spec PyProof.Rows L2
/-! ### promises of defs that are only called where no repr is under way -/
structure FnG (P : Program) (w : World) (K : PySem.W.Frag) (mg : Str → Option Value) (base : Heap) (k : Nat) (f : Addr) (fd : FuncData) (ps : List Str) (sp : Sp) : Prop where
  len : ∀ vs H Q E, sp vs H Q E → vs.length = ps.length
  run : ∀ (A : Around) (outer : List Env) (s : Shared) (H : Hp) (args : Args) (us : List Value) (vs : List V) (Q : VK) (E : XK),
    Room k A → A.guards = some [] → Env0 P w K mg base A outer s H → BindsTo s fd args (ps.zip us) → Vals vs us → sp vs H Q E →
    codeAny (model P w) A (.call (.ref f) args) (CR CX0 outer P w H s Q E) s
section
variable {P : Program} {w : World} {K : PySem.W.Frag} {mg : Str → Option Value} {base : Heap}
theorem okG {x qual : Str} {st : Stmt} {f : Addr} {fd : FuncData} {N ps : List Str} {k : Nat} {sp : Sp} (F : Fun K x qual st f fd) (S : FnScope N ps (defScope st))
    (len : ∀ vs H Q E, sp vs H Q E → vs.length = ps.length)
    (hbody : ∀ (cdv : Value) (A : Around) (outer : List Env) (s : Shared) (H : Hp) (vs : List V) (Q : VK) (E : XK),
      Room k (A.deeper (envOfC qual (defScope st) s.heap.objs.size f cdv)) → A.guards = some [] → sp vs H Q E →
      ∃ t, PSs (cxOf CX0 P w K mg base N qual (defScope st) f cdv A outer s H E).nox (defBody st) t ∧ t { nx := fun _ H' => Q .non H', rt := Q } (start N vs) H) :
    FnG P w K mg base (k + 1) f fd ps sp := by
  obtain ⟨oc, od, kV, doc, pm, an, cdv, ct, osl, rfl, lk, hcd⟩ := F.ex
  refine ⟨len, fun A outer s H args us vs Q E hr hgd e0 hb r hsp => ?_⟩
  have hl := len _ _ _ _ hsp
  have kept : ∀ b o, base.get? b = some o → s.heap.get? b = some o := fun b o e => (e0.bs b o e).1
  have KX : K.In s.heap := e0.mod.kin.keeps kept
  have lim : s.heap.NoLimit := e0.mod.nolimit.keeps kept
  have hkind : ∀ y ∈ ps.zip us, (defScope st).names.lookup y.1 = some .local ∨
      ((defScope st).names.lookup y.1 = some .cell ∧ ((cellsFrom (s.heap.objs.size + 1) (defScope st).names []).lookup y.1).isSome = true) := by
    rintro ⟨n, v⟩ hy
    rcases S.par n (List.of_mem_zip hy).1 with q | q
    · left
      exact q
    · right
      exact ⟨q, PySem.W.cellsFrom_some _ _ _ (.inl q)⟩
  refine codeAny_call_function hr.depth (KX _ _ lk) rfl S.co S.gen rfl
    (PySem.W.codeRec_of KX hcd) (hb _ _ _ _ ?_)
  refine wpAny_newFunctionEnv_cells S.kind hkind fun env he s1 x => ?_
  subst he
  refine ⟨lim.keeps x.toInCall.keep, codeAny_func ?_⟩
  obtain ⟨t, ht0, hq⟩ := hbody cdv A outer s H vs Q E (hr.deeper _) hgd hsp
  have ht := ht0.nox
  have I := inv_start (CX := CX0) (E := E) (cd := cdv) (qual := qual) (f := f) S hr.hd e0 hl r x
  refine wpAny_mono (ht.run [] s1 (start N vs) H _ I hq) (fun fl s' hs => ?_)
    fun e s' hs => hs
  cases fl with
  | ret u =>
    obtain ⟨v, σ', H', J, rv, q⟩ := hs
    exact ⟨v, H', J.os, J.bare, J.base, J.hok, rv, q⟩
  | next =>
    obtain ⟨σ', H', J, q⟩ := hs
    exact ⟨V.non, H', J.os, J.bare, J.base, J.hok, rfl, q⟩
  | brk =>
    obtain ⟨_, _, _, q⟩ := hs
    cases q
  | cont =>
    obtain ⟨_, _, _, q⟩ := hs
    cases q
end
section
variable {X : Cx} {k : Nat} {f : Addr} {fd : FuncData} {ps : List Str} {sp : Sp} {x : Str} {p pos : Pos} {e : Expr} {es : List Expr} {t : TA}
theorem pe_callG (F : FnG X.prog X.w X.K X.mg X.base k f fd ps sp) (hr : Room k X.A) (hgd : X.A.guards = some []) (hg : Gl X x) (hm : X.mg x = some (.ref f))
    (hk : PySem.W.keepIn X.K (.ref f) = true) (hb : Binds X.K fd ps []) (ha : PA X (e :: es) t) (hdb : (x == ("__debug__" : Str)) = false := by decide)
    (he : starEach (e :: es) X.env = (false, eval e X.env) :: starEach es X.env := by rfl)
    (hpl : (backTo pos (starEach es X.env)).any (·.1) = false := by rfl) :
    PE X (.Call (.Name x p) (e :: es) [] pos) (tCall sp [] E0 t) := by
  refine ⟨fun pins s σ H Q I h => wpAny_Call_Name_kw (ld_glob I hg hm ?_ hdb)⟩
  refine PySem.W.callWith_K (h₀ := X.base) I.ok.mod.kin hk (thn (ha.run pos pins s σ H _ I h) fun us s1 hh => ?_) he hpl
  obtain ⟨vs, H1, I1, r, q⟩ := hh
  refine ⟨I1.kIn, ?_⟩
  have q1 : sp (vs ++ []) H1 Q E0 := q
  rw [List.append_nil] at q1
  have hl : (us ++ []).length = ps.length := by
    rw [List.append_nil, ← r.length]
    exact F.len _ _ _ _ q1
  have bb := hb s1 us I1.kIn hl
  rw [List.append_nil] at bb
  refine wpAny_call (codeAny_mono (F.run X.A X.stack s1 H1 ⟨us, []⟩ us vs Q E0 hr hgd I1.env0 bb r q1) fun z s' hq => ?_)
  cases z with
  | error e => cases hq
  | ok fl =>
    cases fl with
    | ret u => exact I1.after hq
    | next => cases hq
    | brk => cases hq
    | cont => cases hq
/-- repr(x), x a list or tuple of plain data, where no repr is under way -/
theorem call_reprD (hgd : X.A.guards = some []) (hu : X.A.units + 100 < cLine) : CallR X (.builtin "repr") (fun xs H Q => ∃ (a : Addr) (d : PyData), xs = [.ref a] ∧ Dp X.K H (.ref a) d ∧
    d.showable = true ∧ d.hasDict = false ∧ d.shown.length ≤ sizeLine ∧ d.depth ≤ 64 ∧ Q (.str d.shown) H) := by
  intro pins s σ H xs us Q I r h
  obtain ⟨a, d, rfl, hd, h1, h2, h3, h4, q⟩ := h
  rw [Vals.ref1 r]
  obtain ⟨as, R⟩ := Dp.reads I d (.ref a) (.ref a) hd rfl
  exact repr_of_reads' R h1 (PyData.noDict_hsm h2) hgd (by omega) (fun _ _ e => e) (fun h' u tk hk => ⟨.str d.shown, H, I.kept hk, ⟨u, rfl⟩, q⟩) h3
end
/-! ### the end of a row whose law has such a promise -/
theorem law_callG {P : Program} {w : World} {K : PySem.W.Frag} {mg mb : Str → Option Value} {k : Nat} {fa a : Addr} {fd : FuncData} {x : Str} {sp : Sp} {s₁ : Shared} {vs : List Value} {ns : List Int}
    (KX : K.In s₁.heap) (hns : s₁.heap.Ns mainGlobals mg) (hb : s₁.heap.Ns builtinsNs mb) (hbb : ∀ x : Str, x ≠ "__name__" → mb x = bootBuiltins x) (hlim : s₁.heap.NoLimit) (hg : s₁.gens = #[])
    (ha : s₁.heap.get? a = some { cls := .type "list", data := .seq vs.toArray }) (hi : IntsAre vs ns) (hl : ns.length ≤ sizeLine) (hr : Room k callerA)
    (F : ∀ base : Heap, K.In base → base.Ns mainGlobals mg → FnG P w K mg base k fa fd [x] sp)
    (hbind : ∀ (s : Shared) (u : Value), BindsTo s fd ⟨[u], []⟩ [(x, u)])
    (hsp : ∀ H : Hp, Only H → SqL K H a (ns.map V.int) → sp [.ref a] H (fun v _ => v = .bl true) fun _ _ _ => False) :
    codeAny (model P w) callerA (.call (.ref fa) ⟨[.ref a], []⟩)
      (fun r s' => r = .ok (.ret (.bool true)) ∧ OldK s₁.heap s'.heap ∧ s'.os = s₁.os ∧ AllBare s'.gens) s₁ := by
  have rv := vals_ints hi
  have lenV := hi.length
  have core : ∀ H : Hp, Only H → SqL K H a (ns.map V.int) → HOk P w H s₁.heap → (∀ b, H b ≠ none → b = a) → (H a ≠ none → K.lookup a = none) →
      codeAny (model P w) callerA (.call (.ref fa) ⟨[.ref a], []⟩)
        (fun r s' => r = .ok (.ret (.bool true)) ∧ OldK s₁.heap s'.heap ∧ s'.os = s₁.os ∧ AllBare s'.gens) s₁ := by
    intro H hO hS hok hA hK
    have only_a : ∀ {b : Addr} {u : HO}, H b = some u → b = a := fun {b u} q => hA b (by
      rw [q]
      simp)
    have noA : ∀ {b : Addr} {o : Obj} {es : Array DictEntry} {ep : Nat}, s₁.heap.get? b = some o → o.data = .dict es ep → H b = none := by
      intro b o es ep e d
      cases q : H b with
      | none => rfl
      | some u =>
        have e' := only_a q
        subst e'
        rw [ha] at e
        cases e
        have d' : Data.seq vs.toArray _ = Data.dict es ep := d
        cases d'
    have nsK : ∀ {b : Addr} {m : Str → Option Value}, s₁.heap.Ns b m → (hidT s₁.heap H).Ns b m := by
      rintro b m ⟨o, es, ep, e, d, r⟩
      exact ⟨o, es, ep, hidT_get e (noA e d), d, r⟩
    have hKb : K.In (hidT s₁.heap H) := by
      intro b o e
      refine hidT_get (KX b o e) ?_
      cases q : H b with
      | none => rfl
      | some u =>
        have e' := only_a q
        subst e'
        rw [hK (by rw [q]; simp)] at e
        cases e
    have hM : Mod K mg (hidT s₁.heap H) := by
      obtain ⟨mc, h1, h2⟩ := hlim
      exact ⟨hKb, nsK hns, ⟨mb, nsK hb, hbb⟩, ⟨mc, nsK h1, h2⟩⟩
    have e0 : Env0 P w K mg (hidT s₁.heap H) callerA [] s₁ H :=
      ⟨rfl, hM, fun b o e => of_hidT e, Nat.le_of_eq (hidT_size _ _), trivial,
        fun b hb => absurd (show b ∈ ([] : List Addr) from hb) (by simp), hok, .of_eq hg⟩
    have go := (F _ hKb (nsK hns)).run callerA [] s₁ H ⟨[.ref a], []⟩ [.ref a] [.ref a] _ _ hr rfl e0 (hbind s₁ (.ref a)) (.cons rfl .nil) (hsp H hO hS)
    refine codeAny_mono go fun r s' h => ?_
    cases r with
    | error e => cases h
    | ok fl =>
      cases fl with
      | next => cases h
      | brk => cases h
      | cont => cases h
      | ret u =>
        obtain ⟨v, H', os, bare, un, hok', r', q⟩ := h
        have q' : v = .bl true := q
        subst q'
        obtain rfl : u = Value.bool true := r'
        refine ⟨rfl, OldK.of_keep fun b o e => ?_, os, bare⟩
        cases q : H b with
        | none =>
          exact un.keep b o e q (fun z => absurd (show b ∈ ([] : List Addr) from z) (by simp)) (by simp)
        | some u =>
          rcases hO b with z | ⟨ob, xs, z⟩
          · rw [q] at z
            cases z
          · obtain ⟨e1, _⟩ := hok b _ z
            obtain ⟨e2, _⟩ := hok' b _ (un.frzs b ob _ z)
            rw [e] at e1
            cases e1
            exact e2
  cases hk : K.lookup a with
  | some o =>
    have e := KX a o hk
    rw [ha] at e
    cases e
    have sq : SqL K (fun _ => none) a (ns.map V.int) :=
      .inr ⟨_, vs.toArray, _, hk, rfl, rfl, rfl, by rw [List.size_toArray, lenV]; exact hl, by simpa using rv⟩
    exact core (fun _ => none) (fun _ => .inl rfl) sq (fun b u z => by cases z) (fun b z => absurd rfl z) fun z => absurd rfl z
  | none =>
    refine core (fun b => if b = a then some (.frz { cls := .type "list", data := .seq vs.toArray } (.lst (ns.map V.int))) else none)
      (fun b => ?_) (.inl (.inr ⟨{ cls := .type "list", data := .seq vs.toArray }, if_pos rfl⟩)) (fun b u z => ?_) (fun b z => ?_) fun _ => hk
    · by_cases hb : b = a
      · exact .inr ⟨_, _, if_pos hb⟩
      · exact .inl (if_neg hb)
    · by_cases hb : b = a
      · have z' := (if_pos hb).symm.trans z
        cases z'
        subst hb
        exact ⟨ha, by rw [List.length_map]; exact hl, vs, _, rv, ha⟩
      · have z' := (if_neg hb).symm.trans z
        cases z'
    · by_cases hb : b = a
      · exact hb
      · exact absurd (if_neg hb) z
theorem walk_ofG {l : PySem.W.OpenLaw} {n k : Nat} {q : Program} {loose : List Str} {XP : (Str → Option Value) → Heap → Prop} {YP : World → Heap → Prop} {d : DefRec} {K : Params → PySem.W.Frag} {sp : World → Sp} {x : Str}
    (hn : l.most = some n) (hn2 : n ≤ sizeLine) (hdf : d.params.defaults = []) (hr : Room k callerA) (hY : ∀ (w : World) (h : Heap), YP w h → (K w.params).In h)
    (F : ∀ (w : World) (mg : Str → Option Value) (fa : Addr) (h : Heap), (K w.params).In h → h.Ns mainGlobals mg → mg d.name = some (.ref fa) →
      ∃ fd : FuncData, (∀ (s : Shared) (u : Value), BindsTo s fd ⟨[u], []⟩ [(x, u)]) ∧
        ∀ base : Heap, (K w.params).In base → base.Ns mainGlobals mg → FnG l.prog w (K w.params) mg base k fa fd [x] (sp w))
    (hsp : ∀ (w : World) (H : Hp) (a : Addr) (ns : List Int), ns.length ≤ n → Only H → SqL (K w.params) H a (ns.map V.int) →
      sp w [.ref a] H (fun v _ => v = .bl true) fun _ _ _ => False) :
    PySem.W.WalkO q loose XP YP l.row.toRowW d [] (fun f vs => PySem.call f vs) := by
  refine Att.attach_call hn hdf fun w s₀ s₁ mg mb fa o pm cd doc a vs ns G Y ho hd hcd hmg hobj hints hlen hg => ?_
  obtain ⟨fd, hb, hF⟩ := F w mg fa _ (hY w _ Y) G.T.g hmg
  exact law_callG (hY w _ Y) G.T.g G.T.b G.T.builtins G.T.nolimit hg hobj hints (Nat.le_trans hlen hn2) hr hF hb
    (fun H hO hS => hsp w H a ns hlen hO hS)
end KS
namespace KS
open PySem PySem.Spec PyProof.Rows L2
/-! ### cells and plans -/
abbrev Cell := Int × Int
def CellAt (K : PySem.W.Frag) (H : Hp) (x : V) (c : Cell) : Prop := ∃ t, x = .ref t ∧ SqT K H t [.int c.1, .int c.2]
abbrev CellsAt (K : PySem.W.Frag) (H : Hp) : List V → List Cell → Prop := Paired (CellAt K H)
def lt2 (a b : Cell) : Prop := a.1 < b.1 ∨ (a.1 = b.1 ∧ a.2 < b.2)
def InGrid (c : Cell) : Prop := 0 ≤ c.1 ∧ c.1 ≤ 7 ∧ 0 ≤ c.2 ∧ c.2 ≤ 7
structure Good (cs : List Cell) : Prop where
  asc : cs.Pairwise lt2
  grid : ∀ c ∈ cs, InGrid c
  ne : cs ≠ []
/-- tuples are kept -/
def KT (K : PySem.W.Frag) (H H' : Hp) : Prop := ∀ a xs, SqT K H a xs → SqT K H' a xs
section
variable {K : PySem.W.Frag} {H H1 H2 H' : Hp}
theorem KT.trans (a : KT K H H1) (b : KT K H1 H2) : KT K H H2 := fun x xs h => b x xs (a x xs h)
theorem KT.of_same (a : Same H H1) : KT K H H1 := fun _ _ h => same_seqT a h
theorem KT.of_keepX {p : Addr} (hp : PoolO (H p)) (a : KeepX p H H1) : KT K H H1 := fun _ _ h => keepX_seqT hp a h
theorem KT.upd {e : Addr} {ys : List V} {o : HO} (h : H e = some (.lst ys)) : KT K H (upd H e o) := fun a xs q => by
  rcases q with (q | ⟨ob, q⟩) | q
  · exact .inl (.inl (by rw [upd_ne (ne_of q h (by intro z; cases z))]; exact q))
  · exact .inl (.inr ⟨ob, by rw [upd_ne (ne_of q h (by intro z; cases z))]; exact q⟩)
  · exact .inr q
theorem CellAt.kt {x : V} {c : Cell} (k : KT K H H') (h : CellAt K H x c) : CellAt K H' x c := by
  obtain ⟨t, e, q⟩ := h
  exact ⟨t, e, k _ _ q⟩
theorem cells_kt {xs : List V} {cs : List Cell} (k : KT K H H') (h : CellsAt K H xs cs) : CellsAt K H' xs cs := Paired.mono (fun _ _ q => q.kt k) h
end
theorem paired_append {α β : Type} {F : α → β → Prop} : ∀ {l₁ l₁' : List α} {l₂ l₂' : List β}, Paired F l₁ l₂ → Paired F l₁' l₂' → Paired F (l₁ ++ l₁') (l₂ ++ l₂')
  | _, _, _, _, .nil, h => h
  | _, _, _, _, .cons r t, h => .cons r (paired_append t h)
theorem paired_get {α β : Type} {F : α → β → Prop} : ∀ {l₁ : List α} {l₂ : List β} {i : Nat} {x : α}, Paired F l₁ l₂ → l₁[i]? = some x → ∃ y, l₂[i]? = some y ∧ F x y
  | _, _, _, _, .nil, h => by simp at h
  | _, _, 0, _, .cons r t, h => by
    simp at h
    subst h
    exact ⟨_, rfl, r⟩
  | _, _, i + 1, _, .cons r t, h => by
    simp at h
    obtain ⟨y, e, f⟩ := paired_get t h
    exact ⟨y, by simpa using e, f⟩
theorem paired_erase {α β : Type} {F : α → β → Prop} : ∀ {l₁ : List α} {l₂ : List β} (i : Nat), Paired F l₁ l₂ → Paired F (l₁.eraseIdx i) (l₂.eraseIdx i)
  | _, _, _, .nil => .nil
  | _, _, 0, .cons r t => t
  | _, _, i + 1, .cons r t => .cons r (paired_erase i t)
/-- the cells of one row -/
def rowCells (r c : Int) (n : Nat) : List Cell := (List.range n).map fun (s : Nat) => (r, c + (s : Int))
theorem rowCells_succ (r c : Int) (n : Nat) : rowCells r c (n + 1) = rowCells r c n ++ [(r, c + (n : Int))] := by
  unfold rowCells
  rw [List.range_succ, List.map_append]
  rfl
theorem rowCells_mem {r c : Int} {n : Nat} {x : Cell} (h : x ∈ rowCells r c n) : x.1 = r ∧ c ≤ x.2 ∧ x.2 < c + n := by
  unfold rowCells at h
  obtain ⟨s, hs, rfl⟩ := List.mem_map.mp h
  have := List.mem_range.mp hs
  refine ⟨rfl, ?_, ?_⟩ <;> show _ <;> simp <;> omega
theorem rowCells_asc (r c : Int) : ∀ n : Nat, (rowCells r c n).Pairwise lt2
  | 0 => List.Pairwise.nil
  | n + 1 => by
    rw [rowCells_succ, List.pairwise_append]
    refine ⟨rowCells_asc r c n, List.pairwise_singleton _ _, fun a ha b hb => ?_⟩
    obtain ⟨e1, e2, e3⟩ := rowCells_mem ha
    rw [List.mem_singleton] at hb
    subst hb
    exact .inr ⟨e1, e3⟩
theorem rowCells_len (r c : Int) (n : Nat) : (rowCells r c n).length = n := by
  unfold rowCells
  rw [List.length_map, List.length_range]
def PlanAt (K : PySem.W.Frag) (H : Hp) (a : Addr) (cs : List Cell) : Prop := ∃ xs, SqT K H a xs ∧ CellsAt K H xs cs
theorem PlanAt.kt {K : PySem.W.Frag} {H H' : Hp} {a : Addr} {cs : List Cell} (k : KT K H H') (h : PlanAt K H a cs) : PlanAt K H' a cs := by
  obtain ⟨xs, h1, h2⟩ := h
  exact ⟨xs, k _ _ h1, cells_kt k h2⟩
def spPlan (K : PySem.W.Frag) : Sp := fun vs H Q _ => ∃ (p : Addr) (m : Int), vs = [.ref p, .int m] ∧ PoolO (H p) ∧ 1 ≤ m ∧ m ≤ 24 ∧
  ∀ H' a cs, KeepX p H H' → PoolO (H' p) → PlanAt K H' a cs → Good cs → (cs.length : Int) ≤ m → H a = none → Q (.ref a) H'
/-- where _law_plan stands behind its first loop -/
structure PlSt (K : PySem.W.Frag) (p : Addr) (H : Hp) (m mode wide high top left : Int) (σ : L2.St) (H' : Hp) : Prop where
  ex : ∃ (e : Addr) (xs : List V) (cs : List Cell) (y8 y9 y10 : Option V),
    σ = [some (.ref p), some (.int m), some (.int mode), some (.int wide), some (.int high), some (.int top), some (.int left), some (.ref e), y8, y9, y10, none, none] ∧
    H e = none ∧ e ≠ p ∧ H' e = some (.lst xs) ∧ CellsAt K H' xs cs ∧ Good cs ∧ cs.length ≤ 64
  kx : KeepX p H H'
  po : PoolO (H' p)
/-- every = [spot for spot in every if ..] or every -/
def tFil (K : PySem.W.Frag) (tc : TT) : TS := tAsg (tOrT K (tLc (iList K (tVar 7)) (gName 12) tc (tVar 12) [12]) (tVar 7)) (gName 7)
theorem small64 {n : Nat} (h : n ≤ 64) : n < sizeLine := by
  rw [sizeLine_eq]
  omega
theorem fil_ok {K : PySem.W.Frag} {p : Addr} {H : Hp} {m mode wide high top left : Int} {tc : TT} {D : Ends} {σ : L2.St} {H' : Hp} (h : PlSt K p H m mode wide high top left σ H')
    (htc : ∀ (t : Addr) (c : Cell) (H2 : Hp) (R : Bool → Hp → Prop), SqT K H2 t [.int c.1, .int c.2] → PoolO (H2 p) → (∀ b H3, KeepX p H2 H3 → PoolO (H3 p) → R b H3) → tc (σ.set 12 (some (.ref t))) H2 R)
    (k : ∀ σ' H'', PlSt K p H m mode wide high top left σ' H'' → D.nx σ' H'') : tFil K tc D σ H' := by
  obtain ⟨⟨e, xs, cs, y8, y9, y10, rfl, he0, hep, he, hc, gd, hl⟩, kx, po⟩ := h
  have hlen := Paired.length hc
  refine ⟨_, rfl, e, rfl, ⟨_, SqL.of he⟩, fun d nd => ?_⟩
  have ned : e ≠ d := ne_of_none he nd
  have npd : p ≠ d := po.ne nd
  refine lc_list (K := K) (a := e) (xs := xs) (fun i H2 => ∃ (acc : List V) (cs' : List Cell), H2 d = some (.lst acc) ∧ CellsAt K H2 acc cs' ∧ cs'.Sublist (cs.take i) ∧
    KeepX p H H2 ∧ PoolO (H2 p) ∧ H2 e = some (.lst xs) ∧ CellsAt K H2 xs cs) ?_ ?_ ?_ ?_
  · have s1 := same_new (o := .lst []) nd
    refine ⟨[], [], upd_same, .nil, List.nil_sublist _, kx.trans (.of_same s1), po.same s1, s1 _ _ he, cells_kt (.of_same s1) hc⟩
  · rintro i H2 _ ⟨acc, cs', _, _, _, _, _, h6, _⟩
    exact SqL.of h6
  · rintro i x H2 hi ⟨acc, cs', h1, h2, h3, h4, h5, h6, h7⟩
    obtain ⟨c, hci, t, rfl, ht⟩ := paired_get h7 hi
    have hlt : i < cs.length := (List.getElem?_eq_some_iff.mp hci).1
    have tk : cs.take (i + 1) = cs.take i ++ [c] := by
      rw [List.take_add_one, hci]
      rfl
    refine ⟨rfl, htc t c H2 _ ht h5 (fun b H3 k3 p3 => ?_)⟩
    have q3 : KT K H2 H3 := KT.of_keepX h5 k3
    have hd3 : H3 d = some (.lst acc) := k3 _ _ (Ne.symm npd) h1
    have he3 : H3 e = some (.lst xs) := k3 _ _ hep h6
    have hal : acc.length ≤ 64 := by
      rw [Paired.length h2]
      exact Nat.le_trans h3.length_le (by rw [List.length_take]; omega)
    refine ite2 (fun _ => ?_) (fun _ => ?_)
    · refine ⟨_, rfl, acc, hd3, small64 hal, acc ++ [.ref t], cs' ++ [c], upd_same, ?_, ?_, ?_, ?_, ?_, ?_⟩
      · exact cells_kt (q3.trans (KT.upd hd3)) (paired_append h2 (.cons ⟨t, rfl, ht⟩ .nil))
      · rw [tk]
        exact List.Sublist.append h3 (List.Sublist.refl _)
      · intro b o n e2
        rw [upd_ne (fun z => by
          subst z
          have q := kx b o n e2
          rw [nd] at q
          cases q)]
        exact k3 _ _ n (h4 _ _ n e2)
      · rw [upd_ne npd]
        exact p3
      · rw [upd_ne ned]
        exact he3
      · exact cells_kt (q3.trans (KT.upd hd3)) h7
    · refine ⟨acc, cs', hd3, cells_kt q3 h2, ?_, h4.trans k3, p3, he3, cells_kt q3 h7⟩
      rw [tk]
      exact List.Sublist.trans h3 (List.sublist_append_left _ _)
  · rintro H2 ⟨acc, cs', h1, h2, h3, h4, h5, h6, h7⟩
    have h3' : cs'.Sublist cs := List.Sublist.trans h3 (List.take_sublist _ _)
    refine ⟨!acc.isEmpty, .inl ⟨acc, SqL.of h1, rfl⟩, ite2 (fun e1 => ?_) (fun e1 => ?_)⟩
    · refine k _ _ ⟨⟨d, acc, cs', y8, y9, y10, rfl, ?_, Ne.symm npd, h1, h2, ⟨gd.asc.sublist h3', fun c hc => gd.grid c (h3'.subset hc), ?_⟩, Nat.le_trans h3'.length_le hl⟩, h4, h5⟩
      · cases q : H d with
        | none => rfl
        | some o =>
          have z := kx d o (Ne.symm npd) q
          rw [nd] at z
          cases z
      · intro z
        subst z
        cases h2
        cases e1
    · exact ⟨_, rfl, k _ _ ⟨⟨e, xs, cs, y8, y9, y10, rfl, he0, hep, h6, h7, gd, hl⟩, h4, h5⟩⟩
end KS
namespace KS
open PySem PySem.Spec PyProof.Rows L2
abbrev tDr (tm : TE) : TE := tCall spDraw [] E0 (tCons (tVar 0) (tCons tm tNil))
abbrev rAdd : V → V → Hp → VK → Prop := rI0 fun i j => .int (i + j)
/-- if mode == 2: high, wide = 1 + draw(pool, 8), 1 + draw(pool, 8) -/
theorem par_if {p : Addr} {m mode wide high : Int} {σr : L2.St} {H2 : Hp} {D : Ends} (po : PoolO (H2 p)) (hw : 1 ≤ wide ∧ wide ≤ 8) (hh : 1 ≤ high ∧ high ≤ 8)
    (k : ∀ (wide' high' : Int) (H3 : Hp), KeepX p H2 H3 → PoolO (H3 p) → 1 ≤ wide' ∧ wide' ≤ 8 → 1 ≤ high' ∧ high' ≤ 8 → D.nx (some (.ref p) :: some (.int m) :: some (.int mode) :: some (.int wide') :: some (.int high') :: σr) H3) :
    tIfS (tTest (tOp rEq (tVar 2) (tC (.int 2)))) (tPar 4 3 (tCons (tOp rAdd (tC (.int 1)) (tDr (tC (.int 8)))) (tCons (tOp rAdd (tC (.int 1)) (tDr (tC (.int 8)))) tNil))) tNext D
      (some (.ref p) :: some (.int m) :: some (.int mode) :: some (.int wide) :: some (.int high) :: σr) H2 := by
  refine ⟨_, rfl, rfl, _, rfl, ite2 (fun e => ?_) (fun e => ?_)⟩
  · refine ⟨_, rfl, p, 8, rfl, po, by decide, by decide, fun H3 a k3 po3 a0 a1 => ?_⟩
    refine ⟨_, _, rfl, rfl, _, rfl, p, 8, rfl, po3, by decide, by decide, fun H4 b k4 po4 b0 b1 => ?_⟩
    exact ⟨_, _, rfl, rfl, _, _, rfl, k (1 + b) (1 + a) H4 (k3.trans k4) po4 ⟨by omega, by omega⟩ ⟨by omega, by omega⟩⟩
  · exact k wide high H2 (KeepX.refl _ _) po hw hh
/-- if mode == n: every = [spot for spot in every if ..] or every -/
theorem fil_if {K : PySem.W.Frag} {p : Addr} {H : Hp} {m mode wide high top left n : Int} {tc : TT} {D : Ends} {σ : L2.St} {H' : Hp} (h : PlSt K p H m mode wide high top left σ H')
    (htc : ∀ (t : Addr) (c : Cell) (H2 : Hp) (R : Bool → Hp → Prop), SqT K H2 t [.int c.1, .int c.2] → PoolO (H2 p) → (∀ b H3, KeepX p H2 H3 → PoolO (H3 p) → R b H3) → tc (σ.set 12 (some (.ref t))) H2 R)
    (k : ∀ σ' H'', PlSt K p H m mode wide high top left σ' H'' → D.nx σ' H'') : tIfS (tTest (tOp rEq (tVar 2) (tC (.int n)))) (tFil K tc) tNext D σ H' := by
  obtain ⟨e, xs, cs, y8, y9, y10, es, rest⟩ := h.ex
  refine ⟨.int mode, by rw [es]; rfl, rfl, _, rfl, ite2 (fun e => ?_) (fun e => ?_)⟩
  · exact fil_ok h htc k
  · exact k _ _ h
theorem draw_test {K : PySem.W.Frag} {p : Addr} {H : Hp} {m mode wide high top left n : Int} {σ : L2.St} {H' : Hp} (h : PlSt K p H m mode wide high top left σ H') (n0 : 0 < n) (n1 : n < 1073741824)
    (t : Addr) (c : Cell) (H2 : Hp) (R : Bool → Hp → Prop) (ht : SqT K H2 t [.int c.1, .int c.2]) (po : PoolO (H2 p)) (k : ∀ b H3, KeepX p H2 H3 → PoolO (H3 p) → R b H3) :
    tTest (tOp (rI0 fun i j => .bl (decide (i > j))) (tDr (tC (.int n))) (tC (.int 0))) (σ.set 12 (some (.ref t))) H2 R := by
  obtain ⟨e, xs, cs, y8, y9, y10, es, rest⟩ := h.ex
  subst es
  exact ⟨_, rfl, p, n, rfl, po, n0, n1, fun H3 r k3 po3 r0 r1 => ⟨_, _, rfl, rfl, _, rfl, k _ _ k3 po3⟩⟩
end KS
namespace KS
open PySem PySem.Spec PyProof.Rows L2
abbrev rSub : V → V → Hp → VK → Prop := rI0 fun i j => .int (i - j)
abbrev rLe : V → V → Hp → VK → Prop := rI0 fun i j => .bl (decide (i ≤ j))
theorem fil3_if {K : PySem.W.Frag} {p : Addr} {H : Hp} {m mode wide high top left : Int} {D : Ends} {σ : L2.St} {H' : Hp} (h : PlSt K p H m mode wide high top left σ H')
    (k : ∀ σ' H'', PlSt K p H m mode wide high top left σ' H'' → D.nx σ' H'') :
    tIfS (tTest (tOp rEq (tVar 2) (tC (.int 3)))) (tSeq (tAsg (tOp rAdd (tOp rAdd (tVar 5) (tVar 6)) (tDr (tC (.int 4)))) (gName 9))
      (tSeq (tAsg (tOp rSub (tOp rSub (tOp rAdd (tOp rAdd (tOp rAdd (tVar 5) (tVar 6)) (tVar 4)) (tVar 3)) (tC (.int 2))) (tDr (tC (.int 4)))) (gName 10))
      (tFil K (tTest (tChain rLe rLe (tVar 9) (tCB (rSumT K) (tCons (tVar 12) tNil)) (tVar 10)))))) tNext D σ H' := by
  obtain ⟨⟨e, xs, cs, y8, y9, y10, rfl, he0, hep, he, hc, gd, hl⟩, kx, po⟩ := id h
  refine ⟨_, rfl, rfl, _, rfl, ite2 (fun e => ?_) (fun e => ?_)⟩
  · refine ⟨_, rfl, _, rfl, _, _, rfl, rfl, _, rfl, p, 4, rfl, po, by decide, by decide, fun H1 a k1 po1 _ _ => ⟨_, _, rfl, rfl, ?_⟩⟩
    refine ⟨_, rfl, _, rfl, _, _, rfl, rfl, _, rfl, _, _, rfl, rfl, _, rfl, _, _, rfl, rfl, _, _, rfl, rfl, _, rfl, p, 4, rfl, po1, by decide, by decide, fun H2 b k2 po2 _ _ => ⟨_, _, rfl, rfl, ?_⟩⟩
    have k12 := k1.trans k2
    refine fil_ok (p := p) (H := H) (m := m) (mode := mode) (wide := wide) (high := high) (top := top) (left := left)
      ⟨⟨_, xs, cs, y8, _, _, rfl, he0, hep, k12 _ _ hep he, cells_kt (KT.of_keepX po k12) hc, gd, hl⟩, kx.trans k12, po2⟩ (fun t c H3 R ht p3 kk => ?_) k
    refine ⟨_, rfl, _, rfl, t, [c.1, c.2], rfl, ht, _, _, rfl, rfl, _, rfl, ite2 (fun e1 => ?_) (fun e1 => ?_)⟩
    · exact ⟨_, rfl, _, _, rfl, rfl, _, rfl, kk _ _ (KeepX.refl _ _) p3⟩
    · exact ⟨_, rfl, kk _ _ (KeepX.refl _ _) p3⟩
  · exact k _ _ h
end KS
namespace KS
open PySem PySem.Spec PyProof.Rows L2
theorem tyx_tup {K : PySem.W.Frag} {H : Hp} {a : Addr} {xs : List V} (h : SqT K H a xs) : TyX K H (.ref a) (.type "tuple") := by
  rcases h with (h | ⟨o, h⟩) | h
  · exact .base (.tup h)
  · exact .fTuple h
  · obtain ⟨o, its, n, e, c, r⟩ := h
    exact .kTuple e c
theorem bl_true {p : Prop} [Decidable p] (h : p) : V.bl (decide p) = V.bl true := by rw [decide_eq_true h]
theorem bl_false {p : Prop} [Decidable p] (h : ¬ p) : V.bl (decide p) = V.bl false := by rw [decide_eq_false h]
/-- a number of a row or column -/
def Place (v : Int) : Prop := 0 ≤ v ∧ v ≤ 7
def spWhole : Sp := fun vs H Q _ => ∃ i : Int, vs = [.int i] ∧ Q (.bl true) H
def spBetween : Sp := fun vs H Q _ => ∃ i lo hi : Int, vs = [.int i, .int lo, .int hi] ∧ lo ≤ i ∧ i ≤ hi ∧ Q (.bl true) H
def spPlace : Sp := fun vs H Q _ => ∃ i : Int, vs = [.int i] ∧ Place i ∧ Q (.bl true) H
def spIsCell (K : PySem.W.Frag) : Sp := fun vs H Q _ => ∃ (a : Addr) (c : Cell), vs = [.ref a] ∧ SqT K H a [.int c.1, .int c.2] ∧ InGrid c ∧ Q (.bl true) H
def spCheck (K : PySem.W.Frag) : Sp := fun vs H Q _ => ∃ (a : Addr) (cs : List Cell), vs = [.ref a] ∧ PlanAt K H a cs ∧ Good cs ∧ cs.length ≤ 24 ∧ ∀ H', Same H H' → Q .non H'
theorem good_step {cs : List Cell} (g : cs.Pairwise lt2) {i : Nat} {a b : Cell} (h1 : cs[i]? = some a) (h2 : cs[i + 1]? = some b) : lt2 a b := by
  obtain ⟨l1, e1⟩ := List.getElem?_eq_some_iff.mp h1
  obtain ⟨l2, e2⟩ := List.getElem?_eq_some_iff.mp h2
  have := (List.pairwise_iff_getElem.mp g) i (i + 1) l1 l2 (by omega)
  rw [e1, e2] at this
  exact this
theorem not_le2 {a b : Cell} (h : lt2 a b) : Ob.lexAt (fun j => decide (([b.1, b.2] : List Int).getD j 0 = ([a.1, a.2] : List Int).getD j 0)) (fun j => decide (([b.1, b.2] : List Int).getD j 0 ≤ ([a.1, a.2] : List Int).getD j 0)) (decide (([b.1, b.2] : List Int).length ≤ ([a.1, a.2] : List Int).length)) 0 (min ([b.1, b.2] : List Int).length ([a.1, a.2] : List Int).length) = false := by
  show Ob.lexAt _ _ _ 0 2 = false
  rw [Ob.lexAt_succ, Ob.lexAt_succ]
  show (if decide (b.1 = a.1) = true then (if decide (b.2 = a.2) = true then _ else decide (b.2 ≤ a.2)) else decide (b.1 ≤ a.1)) = false
  rcases h with h | ⟨h1, h2⟩
  · rw [if_neg (by simp; omega)]
    simp
    omega
  · rw [if_pos (by simp; omega), if_neg (by simp; omega)]
    simp
    omega
end KS
namespace KS
open PySem PySem.Spec PyProof.Rows L2
/-! ### f(k = v, ..), keywords alone -/
structure KwBinds (fd : FuncData) (ps ks : List Str) (g : List Value → List Value) (gV : List V → List V) : Prop where
  to : ∀ (s : Shared) (ws : List Value), (g ws).length = ps.length → BindsTo s fd ⟨[], ks.zip ws⟩ (ps.zip (g ws))
  rel : ∀ {zs : List V} {ws : List Value}, Vals zs ws → Vals (gV zs) (g ws)
def tCallKw (sp : Sp) (gV : List V → List V) (E : XK) (tk : TA) : TE := fun σ H Q => tk σ H fun zs H2 => sp (gV zs) H2 Q E
section
variable {X : Cx} {CX : CXT} {k : Nat} {f : Addr} {fd : FuncData} {ps ks : List Str} {sp : Sp} {E : XK} {x : Str} {p pos : Pos} {kws : List Keyword} {tk : TA} {g : List Value → List Value} {gV : List V → List V}
theorem pe_callKw (F : FnOk X.prog X.w X.K X.mg X.base CX k f fd ps sp) (hr : Room k X.A) (hg : Gl X x) (hm : X.mg x = some (.ref f)) (hk : PySem.W.keepIn X.K (.ref f) = true) (hb : KwBinds fd ps ks g gV)
    (hx : Passes CX X E) (hkw : PK X kws tk) (hall : (backToKw pos (keywordEach kws X.env)).all (·.1.isSome) = true := by rfl)
    (hks : (backToKw pos (keywordEach kws X.env)).filterMap (·.1) = ks := by rfl) (hdb : (x == ("__debug__" : Str)) = false := by decide)
    (hpl : ((backTo pos (starEach [] X.env)).any (·.1) || (backToKw pos (keywordEach kws X.env)).any (·.1.isNone)) = false := by rfl) :
    PE X (.Call (.Name x p) [] kws pos) (tCallKw sp gV E tk) := by
  refine ⟨fun pins s σ H Q I h => wpAny_Call_Name_kw (ld_glob I hg hm ?_ hdb)⟩
  refine PySem.W.callWith_KW0 (h₀ := X.base) I.ok.mod.kin hk hall ?_ hpl
  refine thn (hkw.run pos pins s σ H _ I h) fun ws s2 hh => ?_
  obtain ⟨zs, H2, I2, rz, q2⟩ := hh
  refine ⟨I2.kIn, ?_⟩
  rw [hks]
  have r2 := hb.rel rz
  have hl : (g ws).length = ps.length := by
    rw [← r2.length]
    exact F.len _ _ _ _ q2
  show wpAny _ _ (call (.ref f) [] (ks.zip ws)) _ _ _
  refine wpAny_call (codeAny_mono (F.run X.A X.stack s2 H2 ⟨[], ks.zip ws⟩ (g ws) (gV zs) Q E hr I2.env0 (hb.to s2 ws hl) r2 q2) fun z s' hq => ?_)
  cases z with
  | error e => exact hx pins σ H2 s2 e s' I2 hq
  | ok fl =>
    cases fl with
    | ret u => exact I2.after hq
    | next => cases hq
    | brk => cases hq
    | cont => cases hq
end
theorem kw_binds {K : PySem.W.Frag} {x qual : Str} {st : Stmt} {f : Addr} {fd : FuncData} {ps ks : List Str} {g : List Value → List Value} {gV : List V → List V} (F : Fun K x qual st f fd)
    (h : ∀ (kV doc pm : Value) (an : Option Addr) (cdv ct : Value) (ws : List Value), (g ws).length = ps.length →
      bindArgs (PySem.W.fnOf x qual (defArgs st) (defBody st) (defScope st) .none kV doc pm an cdv ct) ⟨[], ks.zip ws⟩ = pure (ps.zip (g ws)))
    (rel : ∀ {zs : List V} {ws : List Value}, Vals zs ws → Vals (gV zs) (g ws)) : KwBinds fd ps ks g gV := by
  obtain ⟨oc, od, kV, doc, pm, an, cdv, ct, osl, rfl, lk, hcd⟩ := F.ex
  exact ⟨fun s ws hl => .of_eq (h kV doc pm an cdv ct ws hl), rel⟩
/-- two keywords, in the other order -/
def swap2 {α : Type} : List α → List α
  | [a, b] => [b, a]
  | _ => []
theorem swap2_rel {zs : List V} {ws : List Value} (r : Vals zs ws) : Vals (swap2 zs) (swap2 ws) := by
  cases r with
  | nil => exact .nil
  | cons r1 r2 =>
    cases r2 with
    | nil => exact .nil
    | cons r3 r4 =>
      cases r4 with
      | nil => exact .cons r3 (.cons r1 .nil)
      | cons _ _ => exact .nil
/-! ### lines, as numbers -/
/-- row (false) or column (true) of a cell -/
def pick (b : Bool) (c : Cell) : Int := if b = true then c.2 else c.1
/-- the indexes below i of cells in line r -/
def idxs (b : Bool) (cs : List Cell) (i : Nat) (r : Int) : List Int := ((List.range i).filter fun j => decide ((cs[j]?).map (pick b) = some r)).map fun (j : Nat) => (j : Int)
theorem idxs_zero (b : Bool) (cs : List Cell) (r : Int) : idxs b cs 0 r = [] := rfl
theorem idxs_hit {b : Bool} {cs : List Cell} {i : Nat} {c : Cell} (h : cs[i]? = some c) : idxs b cs (i + 1) (pick b c) = idxs b cs i (pick b c) ++ [(i : Int)] := by
  unfold idxs
  rw [List.range_succ, List.filter_append, List.map_append]
  congr 1
  rw [List.filter_cons_of_pos (by simp [h])]
  rfl
theorem idxs_miss {b : Bool} {cs : List Cell} {i : Nat} {c : Cell} {r : Int} (h : cs[i]? = some c) (n : pick b c ≠ r) : idxs b cs (i + 1) r = idxs b cs i r := by
  unfold idxs
  rw [List.range_succ, List.filter_append, List.map_append]
  rw [List.filter_cons_of_neg (by simp [h, n])]
  simp
def lnsOf (b : Bool) (cs : List Cell) : List (List Int) := ((List.range 8).map fun (r : Nat) => idxs b cs cs.length (r : Int)).filter fun l => decide (l ≠ [])
theorem idxs_mem {b : Bool} {cs : List Cell} {i : Nat} {r x : Int} (h : x ∈ idxs b cs i r) : 0 ≤ x ∧ x < (i : Int) := by
  unfold idxs at h
  obtain ⟨j, hj, rfl⟩ := List.mem_map.mp h
  have := List.mem_range.mp (List.mem_filter.mp hj).1
  omega
theorem idxs_len (b : Bool) (cs : List Cell) (i : Nat) (r : Int) : (idxs b cs i r).length ≤ i := by
  unfold idxs
  rw [List.length_map]
  exact Nat.le_trans (List.length_filter_le _ _) (by simp)
theorem idxs_grid {b : Bool} {cs : List Cell} {i : Nat} {r : Int} (g : ∀ c ∈ cs, InGrid c) (h : idxs b cs i r ≠ []) : 0 ≤ r ∧ r < 8 := by
  cases e : idxs b cs i r with
  | nil => exact absurd e h
  | cons x l =>
    have hx : x ∈ idxs b cs i r := by
      rw [e]
      exact List.mem_cons_self
    unfold idxs at hx
    obtain ⟨j, hj, rfl⟩ := List.mem_map.mp hx
    have q := of_decide_eq_true (List.mem_filter.mp hj).2
    cases z : cs[j]? with
    | none =>
      rw [z] at q
      cases q
    | some c =>
      rw [z] at q
      have q' : pick b c = r := Option.some.inj q
      have gc := g c (List.mem_of_getElem? z)
      unfold pick at q'
      unfold InGrid at gc
      split at q' <;> omega
/-- two strictly ascending lists with the same members are one -/
theorem asc_ext : ∀ {l m : List Int}, l.Pairwise (· < ·) → m.Pairwise (· < ·) → (∀ x, x ∈ l ↔ x ∈ m) → l = m
  | [], [], _, _, _ => rfl
  | [], y :: m, _, _, h => absurd ((h y).mpr List.mem_cons_self) (by simp)
  | x :: l, [], _, _, h => absurd ((h x).mp List.mem_cons_self) (by simp)
  | x :: l, y :: m, h1, h2, h => by
    rw [List.pairwise_cons] at h1 h2
    have e : x = y := by
      rcases List.mem_cons.mp ((h x).mp List.mem_cons_self) with z | z
      · exact z
      · rcases List.mem_cons.mp ((h y).mpr List.mem_cons_self) with z2 | z2
        · exact z2.symm
        · have a := h2.1 x z
          have b := h1.1 y z2
          omega
    subst e
    congr 1
    refine asc_ext h1.2 h2.2 fun z => ⟨fun hz => ?_, fun hz => ?_⟩
    · rcases List.mem_cons.mp ((h z).mp (List.mem_cons_of_mem _ hz)) with e | e
      · have := h1.1 z hz
        omega
      · exact e
    · rcases List.mem_cons.mp ((h z).mpr (List.mem_cons_of_mem _ hz)) with e | e
      · have := h2.1 z hz
        omega
      · exact e
theorem strict_of {l : List Int} (h : l.Pairwise (· ≤ ·)) (n : l.Nodup) : l.Pairwise (· < ·) := by
  rw [List.nodup_iff_pairwise_ne] at n
  exact (h.and n).imp fun {a b} q => by omega
/-- the lines in use, by number -/
def usedOf (b : Bool) (cs : List Cell) : List Int := ((List.range 8).map fun (r : Nat) => (r : Int)).filter fun r => decide (idxs b cs cs.length r ≠ [])
theorem used_asc (b : Bool) (cs : List Cell) : (usedOf b cs).Pairwise (· < ·) := by
  unfold usedOf
  exact List.Pairwise.sublist List.filter_sublist (by decide)
theorem used_lines (b : Bool) (cs : List Cell) : (usedOf b cs).map (fun r => idxs b cs cs.length r) = lnsOf b cs := by
  unfold usedOf lnsOf
  rw [List.filter_map, List.filter_map, List.map_map]
  rfl
theorem used_mem {b : Bool} {cs : List Cell} (g : ∀ c ∈ cs, InGrid c) (r : Int) : r ∈ usedOf b cs ↔ idxs b cs cs.length r ≠ [] := by
  unfold usedOf
  rw [List.mem_filter]
  refine ⟨fun h => of_decide_eq_true h.2, fun h => ⟨?_, decide_eq_true h⟩⟩
  have := idxs_grid g h
  rw [List.mem_map]
  exact ⟨r.toNat, List.mem_range.mpr (by omega), by omega⟩
/-! ### lines, in the heap -/
def TupI (K : PySem.W.Frag) (H : Hp) (x : V) (l : List Int) : Prop := ∃ t, x = .ref t ∧ SqT K H t (l.map V.int)
def LstI (H : Hp) (x : V) (l : List Int) : Prop := ∃ t, x = .ref t ∧ H t = some (.lst (l.map V.int))
abbrev lineD (l : List Int) : PyData := .tuple (l.map PyData.int)
abbrev linesD (ls : List (List Int)) : PyData := .tuple (ls.map lineD)
theorem dp_ints {K : PySem.W.Frag} {H : Hp} : ∀ l : List Int, DpAll K H (l.map V.int) (l.map PyData.int)
  | [] => .nil
  | x :: l => .cons (.int x) (dp_ints l)
theorem dp_lines {K : PySem.W.Frag} {H : Hp} : ∀ {xs : List V} {ls : List (List Int)}, Paired (TupI K H) xs ls → DpAll K H xs (ls.map lineD)
  | _, _, .nil => .nil
  | _, _, .cons ⟨t, e, h⟩ r => by
    subst e
    exact .cons (.tup h (dp_ints _)) (dp_lines r)
theorem tupI_kt {K : PySem.W.Frag} {H H' : Hp} (k : KT K H H') {xs : List V} {ls : List (List Int)} (h : Paired (TupI K H) xs ls) : Paired (TupI K H') xs ls :=
  Paired.mono (fun _ _ ⟨t, e, q⟩ => ⟨t, e, k _ _ q⟩) h
def spIsKind : Sp := fun vs H Q _ => ∃ b : Bool, vs = [.str (if b = true then "C" else "R")] ∧ ∀ H', Same H H' → Q (.bl true) H'
def spKind : Sp := fun vs H Q _ => ∃ b : Bool, vs = [.str (if b = true then "C" else "R")] ∧ ∀ H', Same H H' → Q .non H'
def spLines (K : PySem.W.Frag) : Sp := fun vs H Q _ => ∃ (a : Addr) (b : Bool) (cs : List Cell), vs = [.ref a, .str (if b = true then "C" else "R")] ∧ PlanAt K H a cs ∧ Good cs ∧ cs.length ≤ 24 ∧
  ∀ H' p xs, Same H H' → SqT K H' p xs → Paired (TupI K H') xs (lnsOf b cs) → Q (.ref p) H'
def spLawLines (K : PySem.W.Frag) : Sp := fun vs H Q _ => ∃ (a : Addr) (b : Bool) (cs : List Cell), vs = [.ref a, .str (if b = true then "C" else "R")] ∧ PlanAt K H a cs ∧ cs.length ≤ 24 ∧
  ∀ H' p xs, Same H H' → H' p = some (.lst xs) → Paired (LstI H') xs (lnsOf b cs) → Q (.ref p) H'
end KS
namespace KS
open PySem PySem.Spec PyProof.Rows L2
/-- 0 if kind == "R" else 1 -/
theorem side_ok {b : Bool} {σ : L2.St} {H : Hp} {Q : VK} (hσ : σ[1]? = some (some (.str (if b = true then "C" else "R")))) (k : Q (.int (if b = true then 1 else 0)) H) :
    tIf (tTest (tOp rEq (tVar 1) (tC (.str "R")))) (tC (.int 0)) (tC (.int 1)) σ H Q := by
  refine ⟨_, hσ, by cases b <;> rfl, _, rfl, ?_⟩
  cases b
  · rw [if_pos (by decide +kernel)]
    exact k
  · rw [if_neg (by decide +kernel)]
    exact k
theorem at_pick {b : Bool} {c : Cell} : atI [V.int c.1, V.int c.2] (if b = true then 1 else 0) = some (V.int (pick b c)) := by
  cases b <;> rfl
/-- the dict of lines behind i cells -/
structure Grp (b : Bool) (cs : List Cell) (i : Nat) (d : Addr) (kvs : List (Key × V)) (ad : Int → Addr) (H : Hp) : Prop where
  dict : H d = some (.dK kvs)
  keys : ∃ ks : List Int, kvs.map (·.1) = ks.map Sum.inl ∧ ks.Nodup ∧ ks.length ≤ i
  val : ∀ r : Int, valV kvs (.inl r) = if idxs b cs i r = [] then none else some (.ref (ad r))
  lst : ∀ r : Int, idxs b cs i r ≠ [] → H (ad r) = some (.lst ((idxs b cs i r).map V.int))
  inj : ∀ r r' : Int, idxs b cs i r ≠ [] → idxs b cs i r' ≠ [] → ad r = ad r' → r = r'
theorem Grp.same {b : Bool} {cs : List Cell} {i : Nat} {d : Addr} {kvs : List (Key × V)} {ad : Int → Addr} {H H' : Hp} (g : Grp b cs i d kvs ad H) (s : Same H H') : Grp b cs i d kvs ad H' :=
  ⟨s _ _ g.dict, g.keys, g.val, fun r h => s _ _ (g.lst r h), g.inj⟩
theorem Grp.more {b : Bool} {cs : List Cell} {i : Nat} {d : Addr} {kvs : List (Key × V)} {ad : Int → Addr} {H : Hp} {c : Cell} (g : Grp b cs i d kvs ad H) (hc : cs[i]? = some c) (h : idxs b cs i (pick b c) ≠ []) :
    Grp b cs (i + 1) d kvs ad (upd H (ad (pick b c)) (.lst ((idxs b cs i (pick b c)).map V.int ++ [.int (i : Nat)]))) := by
  have same : ∀ r, (idxs b cs (i + 1) r = []) ↔ (idxs b cs i r = []) := fun r => by
    by_cases e : pick b c = r
    · subst e
      rw [idxs_hit hc]
      simp [h]
    · rw [idxs_miss hc e]
  have hd : d ≠ ad (pick b c) := ne_of g.dict (g.lst _ h) (by intro z; cases z)
  obtain ⟨ks, k1, k2, k3⟩ := g.keys
  refine ⟨by rw [upd_ne hd]; exact g.dict, ⟨ks, k1, k2, by omega⟩, fun r => ?_, fun r hr => ?_, fun r r' h1 h2 => g.inj r r' (fun z => h1 ((same r).mpr z)) (fun z => h2 ((same r').mpr z))⟩
  · rw [g.val r]
    by_cases e : idxs b cs i r = []
    · rw [if_pos e, if_pos ((same r).mpr e)]
    · rw [if_neg e, if_neg (fun z => e ((same r).mp z))]
  · have hr' : idxs b cs i r ≠ [] := fun z => hr ((same r).mpr z)
    by_cases e : pick b c = r
    · subst e
      rw [upd_same, idxs_hit hc, List.map_append]
      rfl
    · rw [upd_ne (fun z => e (g.inj _ _ h hr' z.symm)), idxs_miss hc e]
      exact g.lst r hr'
theorem Grp.new {b : Bool} {cs : List Cell} {i : Nat} {d z : Addr} {kvs : List (Key × V)} {ad : Int → Addr} {H : Hp} {c : Cell} (g : Grp b cs i d kvs ad H) (hc : cs[i]? = some c) (h : idxs b cs i (pick b c) = []) (nz : H z = none) :
    Grp b cs (i + 1) d (putK kvs (.inl (pick b c)) (.ref z)) (fun r => if r = pick b c then z else ad r) (upd (upd (upd H z (.lst [])) d (.dK (putK kvs (.inl (pick b c)) (.ref z)))) z (.lst ([] ++ [.int (i : Nat)]))) := by
  have hv : valV kvs (.inl (pick b c)) = none := by
    rw [g.val, if_pos h]
  have hdz : d ≠ z := ne_of_none g.dict nz
  have hput : putK kvs (Sum.inl (pick b c)) (V.ref z) = kvs ++ [(Sum.inl (pick b c), V.ref z)] := by
    unfold putK
    rw [if_neg]
    rw [valV_any, hv]
    simp
  have hit : idxs b cs (i + 1) (pick b c) = [(i : Int)] := by
    rw [idxs_hit hc, h]
    rfl
  obtain ⟨ks, k1, k2, k3⟩ := g.keys
  refine ⟨?_, ⟨ks ++ [pick b c], ?_, ?_, ?_⟩, fun r => ?_, fun r hr => ?_, fun r r' h1 h2 => ?_⟩
  · rw [upd_ne hdz, upd_same]
  · rw [hput, List.map_append, List.map_append, k1]
    rfl
  · rw [List.nodup_append]
    refine ⟨k2, by simp, fun x hx y hy e => ?_⟩
    rw [List.mem_singleton] at hy
    subst hy
    subst e
    apply valV_not hv
    rw [k1]
    exact List.mem_map.mpr ⟨_, hx, rfl⟩
  · rw [List.length_append]
    simp
    omega
  · rw [valV_put]
    by_cases e : r = pick b c
    · subst e
      rw [if_pos rfl, hit, if_neg (by simp), if_pos rfl]
    · rw [if_neg (fun q => e (Sum.inl.inj q)), g.val, idxs_miss hc (Ne.symm e), if_neg e]
  · by_cases e : r = pick b c
    · subst e
      show upd _ _ _ (if _ then z else _) = _
      rw [if_pos rfl, upd_same, hit]
      rfl
    · show upd _ _ _ (if _ then z else _) = _
      rw [if_neg e]
      rw [idxs_miss hc (Ne.symm e)] at hr ⊢
      have hl := g.lst r hr
      rw [upd_ne (ne_of_none hl nz), upd_ne (ne_of hl g.dict (by intro q; cases q)), upd_ne (ne_of_none hl nz)]
      exact hl
  · intro e
    by_cases e1 : r = pick b c
    · by_cases e2 : r' = pick b c
      · rw [e1, e2]
      · have e' : (if r = pick b c then z else ad r) = (if r' = pick b c then z else ad r') := e
        rw [if_pos e1, if_neg e2] at e'
        rw [idxs_miss hc (Ne.symm e2)] at h2
        have := g.lst r' h2
        rw [← e', nz] at this
        cases this
    · have e' : (if r = pick b c then z else ad r) = (if r' = pick b c then z else ad r') := e
      rw [idxs_miss hc (Ne.symm e1)] at h1
      by_cases e2 : r' = pick b c
      · rw [if_neg e1, if_pos e2] at e'
        have := g.lst r h1
        rw [e', nz] at this
        cases this
      · rw [if_neg e1, if_neg e2] at e'
        rw [idxs_miss hc (Ne.symm e2)] at h2
        exact g.inj r r' h1 h2 e'
/-- the sorted keys are the lines in use -/
theorem Grp.used {b : Bool} {cs : List Cell} {d : Addr} {kvs : List (Key × V)} {ad : Int → Addr} {H : Hp} {ks ys : List Int} (g : Grp b cs cs.length d kvs ad H) (gr : ∀ c ∈ cs, InGrid c) (e : kvs.map (·.1) = ks.map Sum.inl) (n : ks.Nodup) (p : ys.Perm ks) (s : ys.Pairwise (· ≤ ·)) : ys = usedOf b cs := by
  refine asc_ext (strict_of s (p.nodup_iff.mpr n)) (used_asc b cs) fun r => ?_
  rw [p.mem_iff, used_mem gr]
  have key : r ∈ ks ↔ (Sum.inl r : Key) ∈ kvs.map (·.1) := by
    rw [e, List.mem_map]
    exact ⟨fun h => ⟨r, h, rfl⟩, fun ⟨x, hx, q⟩ => by cases q; exact hx⟩
  rw [key]
  constructor
  · intro h z
    have hv : valV kvs (.inl r) = none := by rw [g.val, if_pos z]
    exact valV_not hv h
  · intro h
    exact valV_in (v := .ref (ad r)) (by rw [g.val, if_neg h])
end KS
namespace KS
open PySem PySem.Spec PyProof.Rows L2
theorem ints_lay : ∀ l : List Int, PyData.canLayAll0 (l.map PyData.int) = true ∧ PyData.depthAll (l.map PyData.int) = 0
  | [] => ⟨by simp only [List.map_nil, PyData.canLayAll0], by simp only [List.map_nil, PyData.depthAll]⟩
  | x :: l => by
    obtain ⟨h1, h2⟩ := ints_lay l
    simp only [List.map_cons, PyData.canLayAll0, PyData.depthAll, PyData.canLay0, PyData.depth, h1, h2, Bool.and_self, Nat.max_self, and_self]
theorem ints_shaped (l : List Int) : SeqAt.shaped (.list (l.map PyData.int)) = true := by
  obtain ⟨h1, h2⟩ := ints_lay l
  unfold SeqAt.shaped
  simp only [PyData.canLay0, PyData.depth, h1, h2]
  decide
theorem ints_eqv_nil (l : List Int) : PyData.eqv (.list (l.map PyData.int)) (.list []) = l.isEmpty := by
  cases l with
  | nil => decide
  | cons x l => rfl
theorem kind_test (b : Bool) : decide (V.str (if b = true then "C" else "R") = V.str "C") = b := by
  cases b <;> decide +kernel
/-- the lines below r that are in use -/
def lnsTo (b : Bool) (cs : List Cell) (r : Nat) : List (List Int) := ((List.range r).map fun (r : Nat) => idxs b cs cs.length (r : Int)).filter fun l => decide (l ≠ [])
theorem lnsTo_hit {b : Bool} {cs : List Cell} {r : Nat} (h : idxs b cs cs.length (r : Int) ≠ []) : lnsTo b cs (r + 1) = lnsTo b cs r ++ [idxs b cs cs.length (r : Int)] := by
  unfold lnsTo
  rw [List.range_succ, List.map_append, List.filter_append]
  congr 1
  rw [List.map_cons, List.filter_cons_of_pos (by simpa using h)]
  rfl
theorem lnsTo_miss {b : Bool} {cs : List Cell} {r : Nat} (h : idxs b cs cs.length (r : Int) = []) : lnsTo b cs (r + 1) = lnsTo b cs r := by
  unfold lnsTo
  rw [List.range_succ, List.map_append, List.filter_append, List.map_cons, List.filter_cons_of_neg (by simp [h])]
  simp
theorem lnsTo_len (b : Bool) (cs : List Cell) (r : Nat) : (lnsTo b cs r).length ≤ r := by
  unfold lnsTo
  exact Nat.le_trans (List.length_filter_le _ _) (by simp)
end KS
namespace KS
open PySem PySem.Spec PyProof.Rows L2
/-! ### a sort of lines, as mathematics -/
def sortI (l : List Int) : List Int := l.mergeSort (fun a b => decide (a ≤ b))
theorem sortI_perm (l : List Int) : (sortI l).Perm l := List.mergeSort_perm _ _
theorem sortI_asc (l : List Int) : (sortI l).Pairwise (· ≤ ·) := by
  have h := List.pairwise_mergeSort (le := fun (a b : Int) => decide (a ≤ b)) (by
    intro a b c h1 h2
    have h1 := of_decide_eq_true h1
    have h2 := of_decide_eq_true h2
    exact decide_eq_true (by omega)) (by
    intro a b
    rw [Bool.or_eq_true, decide_eq_true_eq, decide_eq_true_eq]
    omega) l
  exact h.imp fun z => of_decide_eq_true z
theorem sortI_eq {l m : List Int} (p : m.Perm l) (a : m.Pairwise (· ≤ ·)) : m = sortI l :=
  List.Perm.eq_of_pairwise (fun x y _ _ h1 h2 => by omega) a (sortI_asc l) (p.trans (sortI_perm l).symm)
theorem sortI_len (l : List Int) : (sortI l).length = l.length := (sortI_perm l).length_eq
def getI (vs : List Int) (k : Int) : Int := vs.getD k.toNat 0
def putZ (acc : List Int) (zs : List (Int × Int)) : List Int := zs.foldl (fun a z => a.set z.1.toNat z.2) acc
theorem putZ_len (zs : List (Int × Int)) : ∀ acc, (putZ acc zs).length = acc.length := by
  induction zs with
  | nil => intro acc; rfl
  | cons z zs ih =>
    intro acc
    show (putZ (acc.set z.1.toNat z.2) zs).length = _
    rw [ih, List.length_set]
theorem putZ_more (acc : List Int) (zs : List (Int × Int)) (z : Int × Int) : putZ acc (zs ++ [z]) = (putZ acc zs).set z.1.toNat z.2 := by
  unfold putZ
  rw [List.foldl_append]
  rfl
def srtL (vs acc : List Int) (l : List Int) : List Int := putZ acc (l.zip (sortI (l.map (getI vs))))
def srtTo (vs : List Int) (ls : List (List Int)) : List Int := ls.foldl (srtL vs) vs
/-- the values after a sort of this kind -/
def srt (b : Bool) (cs : List Cell) (vs : List Int) : List Int := srtTo vs (lnsOf b cs)
theorem srtTo_more (vs : List Int) (ls : List (List Int)) (l : List Int) : srtTo vs (ls ++ [l]) = srtL vs (srtTo vs ls) l := by
  unfold srtTo
  rw [List.foldl_append]
  rfl
theorem srtL_len (vs acc l : List Int) : (srtL vs acc l).length = acc.length := putZ_len _ _
theorem foldl_len {f : List Int → List Int → List Int} (h : ∀ a l, (f a l).length = a.length) : ∀ (ls : List (List Int)) (a : List Int), (ls.foldl f a).length = a.length
  | [], _ => rfl
  | l :: ls, a => by
    show (ls.foldl f (f a l)).length = _
    rw [foldl_len h ls, h]
theorem srtTo_len (vs : List Int) (ls : List (List Int)) : (srtTo vs ls).length = vs.length := foldl_len (srtL_len vs) ls vs
theorem srt_len (b : Bool) (cs : List Cell) (vs : List Int) : (srt b cs vs).length = vs.length := srtTo_len _ _
theorem idxs_nat {b : Bool} {cs : List Cell} {i : Nat} {r k : Int} (h : k ∈ idxs b cs i r) : ∃ j : Nat, k = (j : Int) ∧ j < i := by
  unfold idxs at h
  obtain ⟨j, hj, rfl⟩ := List.mem_map.mp h
  exact ⟨j, rfl, List.mem_range.mp (List.mem_filter.mp hj).1⟩
theorem lns_mem {b : Bool} {cs : List Cell} {l : List Int} (h : l ∈ lnsOf b cs) : (∀ k ∈ l, ∃ j : Nat, k = (j : Int) ∧ j < cs.length) ∧ l.length ≤ cs.length := by
  unfold lnsOf at h
  obtain ⟨r, _, rfl⟩ := List.mem_map.mp (List.mem_filter.mp h).1
  exact ⟨fun k hk => idxs_nat hk, idxs_len _ _ _ _⟩
theorem getI_at {vs : List Int} {j : Nat} (h : j < vs.length) : (vs.map V.int)[j]? = some (.int (getI vs (j : Int))) := by
  unfold getI
  rw [List.getElem?_map, Int.toNat_natCast, List.getD_eq_getElem?_getD, List.getElem?_eq_getElem h]
  rfl
theorem ixN_at {n j : Nat} (h : j < n) : ixN n (j : Int) = some j := by
  unfold ixN
  rw [if_pos (by omega), if_pos (by omega), Int.toNat_natCast]
/-- the law's own sort: of a tuple of whole numbers -/
def spLSorted (K : PySem.W.Frag) : Sp := fun xs H Q _ => ∃ (a t : Addr) (b : Bool) (cs : List Cell) (vs : List Int), xs = [.ref a, .ref t, .str (if b = true then "C" else "R")] ∧ PlanAt K H a cs ∧ cs.length ≤ 24 ∧
  SqT K H t (vs.map V.int) ∧ vs.length = cs.length ∧ ∀ H' u, Same H H' → SqT K H' u ((srt b cs vs).map V.int) → H u = none → Q (.ref u) H'
end KS
namespace KS
open PySem PySem.Spec PyProof.Rows L2
theorem ints_eqvAll : ∀ l m : List Int, PyData.eqvAll (l.map PyData.int) (m.map PyData.int) = decide (l = m)
  | [], [] => by simp [PyData.eqvAll]
  | [], _ :: _ => by simp [PyData.eqvAll]
  | _ :: _, [] => by simp [PyData.eqvAll]
  | x :: l, y :: m => by
    have h : PyData.eqvAll ((x :: l).map PyData.int) ((y :: m).map PyData.int) = (x == y && PyData.eqvAll (l.map PyData.int) (m.map PyData.int)) := by
      simp only [List.map_cons, PyData.eqvAll, PyData.eqv]
    rw [h, ints_eqvAll l m]
    by_cases e : x = y <;> by_cases e2 : l = m <;> simp [e, e2]
theorem ints_eqvL (l m : List Int) : PyData.eqv (.list (l.map PyData.int)) (.list (m.map PyData.int)) = decide (l = m) := by
  have h : PyData.eqv (.list (l.map PyData.int)) (.list (m.map PyData.int)) = PyData.eqvAll (l.map PyData.int) (m.map PyData.int) := by simp only [PyData.eqv]
  rw [h, ints_eqvAll]
theorem ints_eqvT (l m : List Int) : PyData.eqv (.tuple (l.map PyData.int)) (.tuple (m.map PyData.int)) = decide (l = m) := by
  have h : PyData.eqv (.tuple (l.map PyData.int)) (.tuple (m.map PyData.int)) = PyData.eqvAll (l.map PyData.int) (m.map PyData.int) := by simp only [PyData.eqv]
  rw [h, ints_eqvAll]
/-- whether the values of a line ascend -/
def upL (vs l : List Int) : Bool := decide (l.map (getI vs) = sortI (l.map (getI vs)))
/-- whether each line of the kind ascends -/
def rises (b : Bool) (cs : List Cell) (vs : List Int) : Bool := (lnsOf b cs).all (upL vs)
def spLRises (K : PySem.W.Frag) : Sp := fun xs H Q _ => ∃ (a t : Addr) (b : Bool) (cs : List Cell) (vs : List Int), xs = [.ref a, .ref t, .str (if b = true then "C" else "R")] ∧ PlanAt K H a cs ∧ cs.length ≤ 24 ∧
  SqT K H t (vs.map V.int) ∧ vs.length = cs.length ∧ ∀ H', Same H H' → Q (.bl (rises b cs vs)) H'
/-- the law's own words: the sorts of the letters, from left to right -/
def kindS (b : Bool) : Str := if b = true then "C" else "R"
def aft (cs : List Cell) (w : List Bool) (vs : List Int) : List Int := w.foldl (fun a b => srt b cs a) vs
theorem aft_len (cs : List Cell) : ∀ (w : List Bool) (vs : List Int), (aft cs w vs).length = vs.length
  | [], _ => rfl
  | b :: w, vs => by
    show (aft cs w (srt b cs vs)).length = _
    rw [aft_len cs w, srt_len]
theorem aft_more (cs : List Cell) (w : List Bool) (b : Bool) (vs : List Int) : aft cs (w ++ [b]) vs = srt b cs (aft cs w vs) := by
  unfold aft
  rw [List.foldl_append]
  rfl
end KS
namespace KS
open PySem PySem.Spec PyProof.Rows L2
/-- the values of a line, a new list -/
theorem pick_line {K : PySem.W.Frag} {t' : Addr} {σ : L2.St} {H : Hp} {Q : VK} {vs l : List Int} {i1 i2 i3 : Nat} {tt : Addr} (h1 : σ[i1]? = some (some (.ref t'))) (h2 : σ[i2]? = some (some (.ref tt))) (hlt : H t' = some (.lst (l.map V.int))) (ht : SqT K H tt (vs.map V.int))
    (hm : ∀ k ∈ l, ∃ j : Nat, k = (j : Int) ∧ j < vs.length) (hl : l.length ≤ 24) (h3 : i3 < σ.length) (h13 : i2 ≠ i3)
    (k : ∀ D, H D = none → Q (.ref D) (upd H D (.lst ((l.map (getI vs)).map V.int)))) :
    tLc (iList K (tVar i1)) (gName i3) tYes (tOp (rIxT K) (tVar i2) (tVar i3)) [i3] σ H Q := by
  refine ⟨_, h1, t', rfl, ⟨_, SqL.of hlt⟩, fun D nD => ?_⟩
  have ntD : t' ≠ D := ne_of_none hlt nD
  refine lc_list (K := K) (a := t') (xs := l.map V.int) (fun j G => G = upd H D (.lst (((l.take j).map (getI vs)).map V.int))) ?_ ?_ ?_ ?_
  · rfl
  · rintro j G _ rfl
    exact SqL.of (by rw [upd_ne ntD]; exact hlt)
  · rintro j x G hj rfl
    rw [List.getElem?_map] at hj
    cases ev : l[j]? with
    | none =>
      rw [ev] at hj
      cases hj
    | some k =>
      rw [ev] at hj
      cases hj
      obtain ⟨j', rfl, hj'⟩ := hm k (List.mem_of_getElem? ev)
      refine ⟨?_, .ref tt, ?_, .int (j' : Int), ?_, tt, _, _, .int (getI vs (j' : Int)), rfl, rfl, same_seqT (same_new nD) ht, atI_nat (getI_at hj'), _, upd_same, ?_, ?_⟩
      · show ((σ.set i3 none).set i3 _).set i3 none = σ.set i3 none
        rw [List.set_set, List.set_set]
      · show ((σ.set i3 none).set i3 _)[i2]? = _
        rw [List.set_set, List.getElem?_set_ne (Ne.symm h13)]
        exact h2
      · show ((σ.set i3 none).set i3 _)[i3]? = _
        rw [List.set_set, List.getElem?_set_self h3]
      · rw [List.length_map, List.length_map, List.length_take]
        exact small64 (by omega)
      · rw [upd_upd, List.take_add_one, ev, List.map_append, List.map_append]
        rfl
  · rintro G rfl
    rw [List.length_map, List.take_length]
    exact k D nD
end KS
namespace KS
open PySem PySem.Spec PyProof.Rows L2
theorem rd_ifNe {K : PySem.W.Frag} {ta tb : TE} {t u : TS} {D : Ends} {σ : L2.St} {H : Hp} (h : ta σ H fun x H1 => tb σ H1 fun y H2 => rNeD K x y H2 fun v H3 => ∃ k, v = .bl k ∧ if k = true then t D σ H3 else u D σ H3) :
    tIfS (tTest (tOp (rNeD K) ta tb)) t u D σ H := h
theorem rd_cb1 {r : List V → Hp → VK → Prop} {ta : TE} {σ : L2.St} {H : Hp} {Q : VK} (h : ta σ H fun x H1 => r [x] H1 Q) : tCB r (tCons ta tNil) σ H Q := h
theorem up_if {K : PySem.W.Frag} {t' : Addr} {σ : L2.St} {H : Hp} {vs l : List Int} {i1 i2 i3 : Nat} {tt : Addr} {tb : TS} {D : Ends} (h1 : σ[i1]? = some (some (.ref t'))) (h2 : σ[i2]? = some (some (.ref tt))) (hlt : H t' = some (.lst (l.map V.int))) (ht : SqT K H tt (vs.map V.int))
    (hm : ∀ k ∈ l, ∃ j : Nat, k = (j : Int) ∧ j < vs.length) (hl : l.length ≤ 24) (h3 : i3 < σ.length) (h13 : i2 ≠ i3)
    (k1 : ∀ H', Same H H' → upL vs l = true → D.nx σ H') (k2 : ∀ H', Same H H' → upL vs l = false → tb D σ H') :
    tIfS (tTest (tOp (rNeD K) (tLc (iList K (tVar i1)) (gName i3) tYes (tOp (rIxT K) (tVar i2) (tVar i3)) [i3]) (tCB (rSortedI K) (tCons (tLc (iList K (tVar i1)) (gName i3) tYes (tOp (rIxT K) (tVar i2) (tVar i3)) [i3]) tNil)))) tb tNext D σ H := by
  refine rd_ifNe (pick_line (K := K) (σ := σ) h1 h2 hlt ht hm hl h3 h13 (fun D1 n1 => ?_))
  have s1 := same_new (o := .lst ((l.map (getI vs)).map V.int)) n1
  refine rd_cb1 (pick_line (K := K) (σ := σ) h1 h2 (s1 _ _ hlt) (same_seqT s1 ht) hm hl h3 h13 (fun D2 n2 => ?_))
  have s2 := same_new (o := .lst ((l.map (getI vs)).map V.int)) n2
  refine ⟨D2, _, rfl, SqL.of upd_same, fun ys D3 perm asc n3 => ?_⟩
  have ey := sortI_eq perm asc
  have s3 := same_new (o := .lst (ys.map V.int)) n3
  refine ⟨_, _, .lst (SqL.of (s3 _ _ (s2 _ _ upd_same))) (dp_ints _), .lst (SqL.of upd_same) (dp_ints _), ints_shaped _, ints_shaped _, _, rfl, ?_⟩
  rw [ints_eqvL]
  have sm := (s1.trans s2).trans s3
  by_cases c : l.map (getI vs) = ys
  · rw [decide_eq_true c]
    refine k1 _ sm ?_
    unfold upL
    rw [← ey]
    exact decide_eq_true c
  · rw [decide_eq_false c]
    refine k2 _ sm ?_
    unfold upL
    rw [← ey]
    exact decide_eq_false c
end KS
namespace KS
open PySem PySem.Spec PyProof.Rows L2
/-- so many different whole numbers from 1 to 9999 -/
structure Vals9 (n : Nat) (fs : List Int) : Prop where
  len : fs.length = n
  nd : fs.Nodup
  bd : ∀ v ∈ fs, 1 ≤ v ∧ v ≤ 9999
def spValues (K : PySem.W.Frag) : Sp := fun vs H Q _ => ∃ (p : Addr) (n : Nat), vs = [.ref p, .int n] ∧ PoolO (H p) ∧ 1 ≤ n ∧ n ≤ 24 ∧
  ∀ H' t fs, KeepX p H H' → PoolO (H' p) → SqT K H' t (fs.map V.int) → Vals9 n fs → H t = none → Q (.ref t) H'
theorem Vals9.perm {n : Nat} {as bs : List Int} (h : Vals9 n as) (p : as.Perm bs) : Vals9 n bs := ⟨p.length_eq ▸ h.len, p.nodup_iff.mp h.nd, fun v m => h.bd v (p.mem_iff.mpr m)⟩
theorem map_eraseIdx {f : Int → V} : ∀ (l : List Int) (k : Nat), (l.map f).eraseIdx k = (l.eraseIdx k).map f
  | [], _ => rfl
  | _ :: _, 0 => rfl
  | x :: l, k + 1 => by
    show f x :: (l.map f).eraseIdx k = f x :: (l.eraseIdx k).map f
    rw [map_eraseIdx l k]
theorem erase_perm : ∀ {l : List Int} {k : Nat} (h : k < l.length), l.Perm (l[k] :: l.eraseIdx k)
  | _ :: _, 0, _ => List.Perm.refl _
  | x :: l, k + 1, h => ((erase_perm (l := l) (k := k) (Nat.lt_of_succ_lt_succ h)).cons x).trans (List.Perm.swap _ _ _)
theorem pick_perm {fs l : List Int} {k : Nat} (h : k < l.length) : (fs ++ l).Perm ((fs ++ [l[k]]) ++ l.eraseIdx k) := by
  rw [List.append_assoc]
  exact (erase_perm h).append_left fs
def rgI (a b : Int) : List Int := (List.range (b - a).toNat).map fun (i : Nat) => a + (i : Int)
theorem rgV_ints (a b : Int) : rgV a b = (rgI a b).map V.int := by
  unfold rgV rgI
  rw [List.map_map]
  rfl
theorem rgI_len (a b : Int) : (rgI a b).length = (b - a).toNat := by
  unfold rgI
  rw [List.length_map, List.length_range]
theorem rgI_nd (a b : Int) : (rgI a b).Nodup := by
  unfold rgI
  refine List.pairwise_map.2 (List.nodup_range.imp ?_)
  intro x y h e
  exact h (by omega)
theorem rgI_mem {a b v : Int} (h : v ∈ rgI a b) : a ≤ v ∧ v < b := by
  unfold rgI at h
  obtain ⟨i, hi, rfl⟩ := List.mem_map.mp h
  have := List.mem_range.mp hi
  omega
theorem vals9_low {n : Nat} (n1 : n ≤ 24) : Vals9 n (rgI 1 ((n : Int) + 1)) := by
  refine ⟨by rw [rgI_len]; omega, rgI_nd _ _, fun v h => ?_⟩
  have := rgI_mem h
  omega
theorem vals9_high {n : Nat} (n1 : n ≤ 24) : Vals9 n (rgI (10000 - (n : Int)) 10000) := by
  refine ⟨by rw [rgI_len]; omega, rgI_nd _ _, fun v h => ?_⟩
  have := rgI_mem h
  omega
theorem vals9_step {n : Nat} {st : Int} (n0 : 1 ≤ n) (s0 : 1 ≤ st) (s1 : st ≤ 9999 / (n : Int)) : Vals9 n ((rgI 1 ((n : Int) + 1)).map fun v => st * v) := by
  refine ⟨by rw [List.length_map, rgI_len]; omega, List.pairwise_map.2 ((rgI_nd _ _).imp ?_), fun v h => ?_⟩
  · intro x y h e
    exact h (Int.eq_of_mul_eq_mul_left (by omega) e)
  · obtain ⟨u, hu, rfl⟩ := List.mem_map.mp h
    have b := rgI_mem hu
    have h1 : st * (n : Int) ≤ 9999 := (Int.le_ediv_iff_mul_le (by omega)).mp s1
    have h2 : st * u ≤ st * (n : Int) := Int.mul_le_mul_of_nonneg_left (by omega) (by omega)
    have h3 : 1 * 1 ≤ st * u := Int.mul_le_mul s0 b.1 (by omega) (by omega)
    omega
def VSt (p : Addr) (n : Nat) (mode : Int) (H : Hp) (σ : L2.St) (H' : Hp) : Prop := ∃ (e : Addr) (y4 : Option V) (ls : List Int), σ = [some (.ref p), some (.int n), some (.int mode), some (.ref e), y4, none, none, none] ∧
  H e = none ∧ e ≠ p ∧ H' e = some (.lst (ls.map V.int)) ∧ Vals9 n ls ∧ KeepX p H H' ∧ PoolO (H' p)
theorem KeepX.free {p q : Addr} {H H' : Hp} (k : KeepX p H H') (po : PoolO (H' p)) (n : H' q = none) : H q = none := by
  cases z : H q with
  | none => rfl
  | some o =>
    have := k q o (Ne.symm (po.ne n)) z
    rw [n] at this
    cases this
theorem vals_ifs {K : PySem.W.Frag} {p e : Addr} {n : Nat} {mode : Int} {H H2 : Hp} {tr : TS} {D : Ends} (n0 : 1 ≤ n) (n1 : n ≤ 24) (he0 : H e = none) (hep : e ≠ p) (he : H2 e = some (.lst (rgV 1 ((n : Int) + 1)))) (kx : KeepX p H H2) (po : PoolO (H2 p))
    (k : ∀ σ' H', VSt p n mode H σ' H' → tr D σ' H') :
    tSeq (tIfS (tTest (tOp rEq (tVar 2) (tC (V.int 1)))) (tAsg (tLstRg (tRg2 (tOp (rI0 fun i j => V.int (i - j)) (tC (V.int 10000)) (tVar 1)) (tC (V.int 10000)))) (gName 3)) tNext)
      (tSeq (tIfS (tTest (tOp (rI0 fun i j => V.bl (decide (i > j))) (tVar 2) (tC (V.int 1))))
        (tSeq (tAsg (tOp (rI0 fun i j => V.int (i + j)) (tC (V.int 1)) (tCall spDraw [] E0 (tCons (tVar 0) (tCons (tOp (rI CDiv fun i j => V.int (i / j)) (tC (V.int 9999)) (tVar 1)) tNil)))) (gName 4))
          (tAsg (tLc (iList K (tVar 3)) (gName 7) tYes (tOp (rI CMul fun i j => V.int (i * j)) (tVar 4) (tVar 7)) [7]) (gName 3))) tNext) tr) D
      [some (.ref p), some (.int n), some (.int mode), some (.ref e), none, none, none, none] H2 := by
  refine ⟨_, rfl, rfl, _, rfl, ite2 (fun c => ?_) (fun c => ?_)⟩
  · have cm : mode = 1 := V.int.inj (of_decide_eq_true c)
    subst cm
    refine ⟨_, rfl, _, _, rfl, rfl, _, _, rfl, rfl, ⟨by omega, by omega, by omega, by omega, by omega⟩, fun g ng => ?_⟩
    have sg := same_new (o := .lst (rgV (10000 - (n : Int)) 10000)) ng
    refine ⟨_, rfl, _, _, rfl, rfl, _, rfl, ite2 (fun c => ?_) (fun c => ?_)⟩
    · exact absurd (of_decide_eq_true c) (by decide)
    · refine k _ _ ⟨g, none, rgI (10000 - (n : Int)) 10000, rfl, kx.free po ng, Ne.symm (po.ne ng), ?_, vals9_high n1, kx.trans (.of_same sg), po.same sg⟩
      rw [upd_same, rgV_ints]
  · refine ⟨_, rfl, _, _, rfl, rfl, _, rfl, ite2 (fun c => ?_) (fun c => ?_)⟩
    · have qd : 1 ≤ (9999 : Int) / (n : Int) := (Int.le_ediv_iff_mul_le (by omega)).mpr (by omega)
      have qu : (9999 : Int) / (n : Int) ≤ 9999 := Int.ediv_le_self _ (by decide)
      refine ⟨_, rfl, _, rfl, _, _, rfl, rfl, ⟨by omega, by omega⟩, p, _, rfl, po, by omega, by omega, fun H3 r k3 po3 r0 r1 => ?_⟩
      refine ⟨_, _, rfl, rfl, ?_⟩
      have he3 := k3 _ _ hep he
      refine ⟨_, rfl, e, rfl, ⟨_, SqL.of he3⟩, fun D0 nD => ?_⟩
      have neD : e ≠ D0 := ne_of_none he3 nD
      refine lc_list (K := K) (a := e) (xs := rgV 1 ((n : Int) + 1)) (fun j G => G = upd H3 D0 (.lst (((rgI 1 ((n : Int) + 1)).take j).map fun v => V.int ((1 + r) * v)))) ?_ ?_ ?_ ?_
      · rfl
      · rintro j G _ rfl
        exact SqL.of (by rw [upd_ne neD]; exact he3)
      · rintro j x G hj rfl
        rw [rgV_ints, List.getElem?_map] at hj
        cases ev : (rgI 1 ((n : Int) + 1))[j]? with
        | none =>
          rw [ev] at hj
          cases hj
        | some v =>
          rw [ev] at hj
          cases hj
          have hv := rgI_mem (List.mem_of_getElem? ev)
          refine ⟨rfl, _, rfl, _, rfl, _, _, rfl, rfl, .inl ⟨by omega, by omega⟩, _, upd_same, ?_, ?_⟩
          · rw [List.length_map, List.length_take]
            refine small64 ?_
            rw [rgI_len]
            omega
          · rw [upd_upd, List.take_add_one, ev, List.map_append]
            rfl
      · rintro G rfl
        rw [rgV_length, List.take_of_length_le (by rw [rgI_len]; omega)]
        have sD := same_new (o := .lst ((rgI 1 ((n : Int) + 1)).map fun v => V.int ((1 + r) * v))) nD
        refine k _ _ ⟨D0, _, (rgI 1 ((n : Int) + 1)).map fun v => (1 + r) * v, rfl, (kx.trans k3).free po3 nD, Ne.symm (po3.ne nD), ?_, vals9_step n0 (by omega) (by omega), (kx.trans k3).trans (.of_same sD), po3.same sD⟩
        rw [upd_same, List.map_map]
        rfl
    · refine k _ _ ⟨e, none, rgI 1 ((n : Int) + 1), rfl, he0, hep, ?_, vals9_low n1, kx, po⟩
      rw [← rgV_ints]
      exact he
end KS
namespace KS
open PySem PySem.Spec PyProof.Rows L2
/-! ### small data can be shown -/
theorem small_int {x : Int} (h0 : 0 ≤ x) (h1 : x < 10000) : PyData.leavesShort 8 (.int x) = true ∧ PyData.showable (.int x) = true ∧ PyData.weight (.int x) ≤ 14 := by
  obtain ⟨n, rfl⟩ := Int.eq_ofNat_of_zero_le h0
  have hn : n < 10000 := by omega
  have hlog : n.log2 < 14 := by
    rcases Nat.eq_zero_or_pos n with z | z
    · subst z
      decide
    · exact (Nat.log2_lt (by omega)).mpr (by omega)
  refine ⟨?_, ?_, ?_⟩
  · simp only [PyData.leavesShort]
    exact decide_eq_true (by
      simp only [PyData.shown]
      exact toString_length_le (k := 8) (by omega) (by decide) (by show (n : Int) < 10 ^ 8; omega))
  · simp only [PyData.showable]
    exact decide_eq_true (by show n.log2 < 1920; omega)
  · simp only [PyData.weight]
    split
    · omega
    · show n.log2 + 1 ≤ 14
      omega
/-- what repr asks of its data -/
structure Shows (d : PyData) (n : Nat) : Prop where
  short : d.leavesShort 8 = true
  show_ : d.showable = true
  nod : d.hasDict = false
  wt : d.weight ≤ n
structure ShowsAll (ds : List PyData) (n : Nat) : Prop where
  short : PyData.leavesShortAll 8 ds = true
  show_ : PyData.showableAll ds = true
  nod : PyData.hasDictAll ds = false
  wt : PyData.weightAll ds ≤ (n + 1) * ds.length
theorem showsAll_of {n : Nat} : ∀ {ds : List PyData}, (∀ d ∈ ds, Shows d n) → ShowsAll ds n
  | [], _ => ⟨by simp only [PyData.leavesShortAll], by simp only [PyData.showableAll], by simp only [PyData.hasDictAll], by simp [PyData.weightAll]⟩
  | d :: ds, h => by
    have h1 := h d List.mem_cons_self
    have h2 := showsAll_of fun x hx => h x (List.mem_cons_of_mem _ hx)
    refine ⟨?_, ?_, ?_, ?_⟩
    · simp only [PyData.leavesShortAll, h1.short, h2.short, Bool.and_self]
    · simp only [PyData.showableAll, h1.show_, h2.show_, Bool.and_self]
    · simp only [PyData.hasDictAll, h1.nod, h2.nod, Bool.or_self]
    · simp only [PyData.weightAll, List.length_cons]
      have a := h1.wt
      have b := h2.wt
      rw [Nat.mul_add, Nat.mul_one]
      omega
theorem shows_tuple {n m : Nat} {ds : List PyData} (h : ShowsAll ds n) (hm : (n + 1) * ds.length ≤ m) : Shows (.tuple ds) m := by
  refine ⟨?_, ?_, ?_, ?_⟩
  · simp only [PyData.leavesShort, h.short]
  · simp only [PyData.showable, h.show_]
  · simp only [PyData.hasDict, h.nod]
  · simp only [PyData.weight]
    exact Nat.le_trans h.wt hm
theorem shows_int {x : Int} (h0 : 0 ≤ x) (h1 : x < 10000) : Shows (.int x) 14 := by
  obtain ⟨a, b, c⟩ := small_int h0 h1
  exact ⟨a, b, by simp only [PyData.hasDict], c⟩
theorem Shows.len {d : PyData} {n : Nat} (h : Shows d n) (hn : n ≤ 1048576) : d.shown.length ≤ sizeLine :=
  PyData.shown_fits (B := 8) (by decide) (by decide) h.short (Nat.le_trans h.wt (by
    show n ≤ 2 ^ 20
    have : (2 : Nat) ^ 20 = 1048576 := by decide
    omega))
theorem shows_line {l : List Int} (h : ∀ x ∈ l, 0 ≤ x ∧ x < 10000) (hl : l.length ≤ 64) : Shows (lineD l) 960 := by
  refine shows_tuple (n := 14) (showsAll_of fun d hd => ?_) ?_
  · obtain ⟨x, hx, rfl⟩ := List.mem_map.mp hd
    exact shows_int (h x hx).1 (h x hx).2
  · rw [List.length_map]
    omega
theorem shows_lines {ls : List (List Int)} (h : ∀ l ∈ ls, (∀ x ∈ l, 0 ≤ x ∧ x < 10000) ∧ l.length ≤ 64) (hl : ls.length ≤ 64) : Shows (linesD ls) 61504 := by
  refine shows_tuple (n := 960) (showsAll_of fun d hd => ?_) ?_
  · obtain ⟨l, hx, rfl⟩ := List.mem_map.mp hd
    exact shows_line (h l hx).1 (h l hx).2
  · rw [List.length_map]
    omega
theorem depth_line (l : List Int) : (lineD l).depth = 1 := by
  simp only [PyData.depth, (ints_lay l).2]
theorem depth_lines : ∀ ls : List (List Int), PyData.depthAll (ls.map lineD) ≤ 1
  | [] => by simp [PyData.depthAll]
  | l :: ls => by
    have a := depth_lines ls
    have b := depth_line l
    simp only [List.map_cons, PyData.depthAll]
    omega
theorem lns_small {b : Bool} {cs : List Cell} (hl : cs.length ≤ 24) : Shows (linesD (lnsOf b cs)) 61504 ∧ (linesD (lnsOf b cs)).depth ≤ 64 := by
  refine ⟨shows_lines (fun l h => ?_) ?_, ?_⟩
  · unfold lnsOf at h
    obtain ⟨r, _, rfl⟩ := List.mem_map.mp (List.mem_filter.mp h).1
    refine ⟨fun x hx => ?_, ?_⟩
    · have := idxs_mem hx
      omega
    · have := idxs_len b cs cs.length (r : Int)
      omega
  · have : (lnsOf b cs).length ≤ 8 := lnsTo_len b cs 8
    omega
  · have := depth_lines (lnsOf b cs)
    simp only [PyData.depth]
    omega
/-! ### sorted cells -/
def keyOf (H : Hp) : V → Int × Int
  | .ref t => match H t with
    | some (.tup [.int i, .int j]) => (i, j)
    | _ => (0, 0)
  | _ => (0, 0)
theorem keyOf_at {H : Hp} {t : Addr} {i j : Int} (h : H t = some (.tup [.int i, .int j])) : keyOf H (.ref t) = (i, j) := by
  show (match H t with
    | some (.tup [.int i, .int j]) => ((i, j) : Int × Int)
    | _ => (0, 0)) = (i, j)
  rw [h]
theorem nodup_of_asc {cs : List Cell} (h : cs.Pairwise lt2) : cs.Nodup := by
  rw [List.nodup_iff_pairwise_ne]
  refine h.imp fun {a b} q e => ?_
  subst e
  rcases q with q | q <;> omega
/-- new cells, in a list -/
def NewCells (H : Hp) : List V → List Cell → Prop := Paired fun x c => ∃ t, x = .ref t ∧ H t = some (.tup [.int c.1, .int c.2])
theorem newCells_mono {H H' : Hp} (k : ∀ t ys, H t = some (.tup ys) → H' t = some (.tup ys)) {xs : List V} {cs : List Cell} (h : NewCells H xs cs) : NewCells H' xs cs :=
  Paired.mono (fun _ _ ⟨t, e, q⟩ => ⟨t, e, k _ _ q⟩) h
theorem newCells_key {H : Hp} : ∀ {xs : List V} {cs : List Cell}, NewCells H xs cs → xs.map (keyOf H) = cs
  | _, _, .nil => rfl
  | _, _, .cons ⟨t, e, h⟩ r => by
    subst e
    rw [List.map_cons, keyOf_at h, newCells_key r]
theorem newCells_mem {H : Hp} : ∀ {xs : List V} {cs : List Cell}, NewCells H xs cs → ∀ x ∈ xs, ∃ t, x = .ref t ∧ H t = some (.tup [.int (keyOf H x).1, .int (keyOf H x).2])
  | _, _, .nil, _, h => nomatch h
  | _, _, .cons ⟨t, e, h⟩ r, x, hx => by
    rcases List.mem_cons.mp hx with z | z
    · subst z
      subst e
      exact ⟨t, rfl, by rw [keyOf_at h]; exact h⟩
    · exact newCells_mem r x z
theorem cells_of_mem {K : PySem.W.Frag} {H : Hp} : ∀ {ys : List V}, (∀ x ∈ ys, ∃ t, x = .ref t ∧ H t = some (.tup [.int (keyOf H x).1, .int (keyOf H x).2])) → CellsAt K H ys (ys.map (keyOf H))
  | [], _ => .nil
  | y :: ys, h => by
    obtain ⟨t, e, q⟩ := h y List.mem_cons_self
    exact .cons ⟨t, e, SqT.of q⟩ (cells_of_mem fun x hx => h x (List.mem_cons_of_mem _ hx))
/-- sorted of new cells, all different: they ascend -/
theorem sorted_cells {K : PySem.W.Frag} {H : Hp} {xs ys : List V} {cs : List Cell} (h : NewCells H xs cs) (nd : cs.Nodup) (hs : SrtO.Srtd (ltP (keyOf H)) ys) (hp : ys.Perm xs) :
    CellsAt K H ys (ys.map (keyOf H)) ∧ (ys.map (keyOf H)).Perm cs ∧ (ys.map (keyOf H)).Pairwise lt2 := by
  have p1 : (ys.map (keyOf H)).Perm cs := by
    rw [← newCells_key h]
    exact hp.map _
  refine ⟨cells_of_mem fun x hx => newCells_mem h x (hp.mem_iff.mp hx), p1, ?_⟩
  have n1 : (ys.map (keyOf H)).Nodup := p1.nodup_iff.mpr nd
  have s1 : (ys.map (keyOf H)).Pairwise fun a b => SrtO.lexB b a = false := by
    rw [List.pairwise_map]
    exact hs
  rw [List.nodup_iff_pairwise_ne] at n1
  refine (s1.and n1).imp fun {a b} q => ?_
  obtain ⟨q1, q2⟩ := q
  have q3 : ¬ (b.1 < a.1 ∨ (b.1 = a.1 ∧ b.2 < a.2)) := fun z => by
    rw [SrtO.lexB_iff.mpr z] at q1
    cases q1
  by_cases e1 : a.1 < b.1
  · exact .inl e1
  · by_cases e2 : a.1 = b.1
    · refine .inr ⟨e2, ?_⟩
      by_cases e3 : a.2 = b.2
      · exact absurd (Prod.ext e2 e3) q2
      · have : ¬ b.2 < a.2 := fun z => q3 (.inr ⟨e2.symm, z⟩)
        omega
    · exact absurd (.inl (by omega)) q3
def mir (c : Cell) : Cell := (c.1, 7 - c.2)
theorem nodup_mir {cs : List Cell} (h : cs.Nodup) : (cs.map mir).Nodup := by
  rw [List.nodup_iff_pairwise_ne] at h ⊢
  rw [List.pairwise_map]
  refine h.imp fun {a b} q e => q ?_
  have e0 : ((a.1, 7 - a.2) : Int × Int) = (b.1, 7 - b.2) := e
  injection e0 with e1 e2
  exact Prod.ext e1 (by omega)
theorem good_mir {cs ds : List Cell} (g : Good cs) (p : ds.Perm (cs.map mir)) (a : ds.Pairwise lt2) : Good ds ∧ ds.length = cs.length := by
  have hl : ds.length = cs.length := by rw [p.length_eq, List.length_map]
  refine ⟨⟨a, fun d hd => ?_, fun z => ?_⟩, hl⟩
  · obtain ⟨c, hc, rfl⟩ := List.mem_map.mp (p.mem_iff.mp hd)
    have := g.grid c hc
    unfold InGrid at this ⊢
    show 0 ≤ c.1 ∧ c.1 ≤ 7 ∧ 0 ≤ 7 - c.2 ∧ 7 - c.2 ≤ 7
    omega
  · rw [z] at hl
    exact g.ne (List.eq_nil_of_length_eq_zero hl.symm)
def spRight : Sp := fun vs H Q _ => ∃ p : Addr, vs = [.ref p] ∧ PoolO (H p) ∧ ∀ H', KeepX p H H' → Q (.bl true) H'
def spLaw (K : PySem.W.Frag) : Sp := fun vs H Q _ => ∃ (a : Addr) (ns : List Int), vs = [.ref a] ∧ SqL K H a (ns.map V.int) ∧ ns.length ≤ 63 ∧ ∀ H', Q (.bl true) H'
end KS
namespace KS
open PySem PySem.Spec PyProof.Rows L2
/-! ### x in t, t a tuple of plain data -/
def rInT (K : PySem.W.Frag) : V → V → Hp → VK → Prop := fun x y H Q => ∃ d ds, Dp K H x d ∧ Dp K H y (.tuple ds) ∧ SeqAt.shaped d = true ∧ SeqAt.shaped (.tuple ds) = true ∧ Q (.bl (ds.any fun z => PyData.eqv z d)) H
theorem op_inT {X : Cx} (hu : X.A.units + 65 < cLine) : OpR X (compareOp .In) (rInT X.K) := by
  intro pins s σ H x y v u Q I rx ry h
  obtain ⟨d, ds, hd, he, sd, se, q⟩ := h
  obtain ⟨as, r1⟩ := Dp.reads I d x v hd rx
  obtain ⟨bs, r2⟩ := Dp.reads I (.tuple ds) y u he ry
  refine SeqAt.in_tuple_reads r2 r1 (SeqAt.canLay_of_shaped se) (SeqAt.canLay_of_shaped sd) ?_ ⟨.bl _, H, I, rfl, q⟩
  have := SeqAt.depth_of_shaped sd
  have h2 : min (PyData.depthAll ds) d.depth ≤ d.depth := Nat.min_le_right _ _
  omega
/-! ### plans as data -/
abbrev cellD (c : Cell) : PyData := .tuple [.int c.1, .int c.2]
abbrev planD (cs : List Cell) : PyData := .tuple (cs.map cellD)
theorem dp_cell {K : PySem.W.Frag} {H : Hp} {t : Addr} {c : Cell} (h : SqT K H t [.int c.1, .int c.2]) : Dp K H (.ref t) (cellD c) := .tup h (.cons (.int _) (.cons (.int _) .nil))
theorem dp_cells {K : PySem.W.Frag} {H : Hp} : ∀ {xs : List V} {cs : List Cell}, CellsAt K H xs cs → DpAll K H xs (cs.map cellD)
  | _, _, .nil => .nil
  | _, _, .cons ⟨t, e, h⟩ r => by
    subst e
    exact .cons (dp_cell h) (dp_cells r)
theorem PlanAt.dp {K : PySem.W.Frag} {H : Hp} {a : Addr} {cs : List Cell} (h : PlanAt K H a cs) : Dp K H (.ref a) (planD cs) := by
  obtain ⟨xs, h1, h2⟩ := h
  exact .tup h1 (dp_cells h2)
theorem cell_lay (c : Cell) : (cellD c).canLay0 = true ∧ (cellD c).depth = 1 := by
  simp [PyData.canLay0, PyData.canLayAll0, PyData.depth, PyData.depthAll]
theorem cells_lay : ∀ cs : List Cell, PyData.canLayAll0 (cs.map cellD) = true ∧ PyData.depthAll (cs.map cellD) ≤ 1
  | [] => ⟨by simp only [List.map_nil, PyData.canLayAll0], by simp [PyData.depthAll]⟩
  | c :: cs => by
    obtain ⟨a, b⟩ := cells_lay cs
    obtain ⟨x, y⟩ := cell_lay c
    refine ⟨?_, ?_⟩
    · rw [List.map_cons, PyData.canLayAll0, x, a]
      rfl
    · rw [List.map_cons, PyData.depthAll, y]
      omega
theorem cell_shaped (c : Cell) : SeqAt.shaped (cellD c) = true := by
  obtain ⟨x, y⟩ := cell_lay c
  unfold SeqAt.shaped
  rw [x, y]
  rfl
theorem plan_shaped (cs : List Cell) : SeqAt.shaped (planD cs) = true := by
  obtain ⟨a, b⟩ := cells_lay cs
  unfold SeqAt.shaped
  rw [Bool.and_eq_true]
  refine ⟨?_, decide_eq_true ?_⟩
  · simp only [PyData.canLay0, a]
  · simp only [PyData.depth]
    omega
theorem cell_eqv (a b : Cell) : PyData.eqv (cellD a) (cellD b) = decide (a = b) := by
  have h : PyData.eqv (cellD a) (cellD b) = (a.1 == b.1 && (a.2 == b.2 && true)) := by
    simp only [PyData.eqv, PyData.eqvAll]
  rw [h, Bool.and_true]
  by_cases e : a = b
  · subst e
    simp
  · rw [decide_eq_false e]
    by_cases e1 : a.1 = b.1
    · have e2 : a.2 ≠ b.2 := fun z => e (Prod.ext e1 z)
      simp [e1, e2]
    · simp [e1]
theorem in_plan (cs : List Cell) (c : Cell) : ((cs.map cellD).any fun z => PyData.eqv z (cellD c)) = decide (c ∈ cs) := by
  rw [List.any_map]
  by_cases h : c ∈ cs
  · rw [decide_eq_true h, List.any_eq_true]
    exact ⟨c, h, by show PyData.eqv (cellD c) (cellD c) = true; rw [cell_eqv]; simp⟩
  · rw [decide_eq_false h, List.any_eq_false]
    intro x hx z
    have z' : PyData.eqv (cellD x) (cellD c) = true := z
    rw [cell_eqv] at z'
    have := of_decide_eq_true z'
    subst this
    exact h hx
theorem shows_plan {cs : List Cell} (g : ∀ c ∈ cs, InGrid c) (hl : cs.length ≤ 64) : Shows (planD cs) 1984 ∧ (planD cs).depth ≤ 64 := by
  refine ⟨shows_tuple (n := 30) (showsAll_of fun d hd => ?_) ?_, ?_⟩
  · obtain ⟨c, hc, rfl⟩ := List.mem_map.mp hd
    have := g c hc
    unfold InGrid at this
    refine shows_tuple (n := 14) (showsAll_of fun d hd => ?_) (by show (14 + 1) * 2 ≤ 30; decide)
    rcases List.mem_cons.mp hd with z | z
    · subst z
      exact shows_int (by omega) (by omega)
    · rcases List.mem_cons.mp z with z | z
      · subst z
        exact shows_int (by omega) (by omega)
      · cases z
  · rw [List.length_map]
    omega
  · have := (cells_lay cs).2
    simp only [PyData.depth]
    omega
/-! ### ascending lists of cells -/
theorem asc_ext2 : ∀ {l m : List Cell}, l.Pairwise lt2 → m.Pairwise lt2 → (∀ x, x ∈ l ↔ x ∈ m) → l = m
  | [], [], _, _, _ => rfl
  | [], y :: m, _, _, h => absurd ((h y).mpr List.mem_cons_self) (by simp)
  | x :: l, [], _, _, h => absurd ((h x).mp List.mem_cons_self) (by simp)
  | x :: l, y :: m, h1, h2, h => by
    rw [List.pairwise_cons] at h1 h2
    have no : ∀ a b : Cell, lt2 a b → lt2 b a → False := fun a b p q => by
      unfold lt2 at p q
      omega
    have e : x = y := by
      rcases List.mem_cons.mp ((h x).mp List.mem_cons_self) with z | z
      · exact z
      · rcases List.mem_cons.mp ((h y).mpr List.mem_cons_self) with z2 | z2
        · exact z2.symm
        · exact (no _ _ (h2.1 x z) (h1.1 y z2)).elim
    subst e
    congr 1
    refine asc_ext2 h1.2 h2.2 fun z => ⟨fun hz => ?_, fun hz => ?_⟩
    · rcases List.mem_cons.mp ((h z).mp (List.mem_cons_of_mem _ hz)) with e | e
      · exact (no _ _ (h1.1 z hz) (e ▸ h1.1 z hz)).elim
      · exact e
    · rcases List.mem_cons.mp ((h z).mpr (List.mem_cons_of_mem _ hz)) with e | e
      · exact (no _ _ (h2.1 z hz) (e ▸ h2.1 z hz)).elim
      · exact e
theorem asc_perm {l m : List Cell} (h1 : l.Pairwise lt2) (h2 : m.Pairwise lt2) (p : l.Perm m) : l = m := asc_ext2 h1 h2 fun x => p.mem_iff
def swp (c : Cell) : Cell := (c.2, c.1)
theorem nodup_swp {cs : List Cell} (h : cs.Nodup) : (cs.map swp).Nodup := by
  rw [List.nodup_iff_pairwise_ne] at h ⊢
  rw [List.pairwise_map]
  refine h.imp fun {a b} q e => q ?_
  have e0 : ((a.2, a.1) : Int × Int) = (b.2, b.1) := e
  injection e0 with e1 e2
  exact Prod.ext e2 e1
theorem good_swp {cs ds : List Cell} (g : Good cs) (p : ds.Perm (cs.map swp)) (a : ds.Pairwise lt2) : Good ds ∧ ds.length = cs.length := by
  have hl : ds.length = cs.length := by rw [p.length_eq, List.length_map]
  refine ⟨⟨a, fun d hd => ?_, fun z => ?_⟩, hl⟩
  · obtain ⟨c, hc, rfl⟩ := List.mem_map.mp (p.mem_iff.mp hd)
    have := g.grid c hc
    unfold InGrid at this ⊢
    show 0 ≤ c.2 ∧ c.2 ≤ 7 ∧ 0 ≤ c.1 ∧ c.1 ≤ 7
    omega
  · rw [z] at hl
    exact g.ne (List.eq_nil_of_length_eq_zero hl.symm)
theorem swp_back {cs ds es : List Cell} (g : cs.Pairwise lt2) (p : ds.Perm (cs.map swp)) (p2 : es.Perm (ds.map swp)) (a : es.Pairwise lt2) : es = cs := by
  refine asc_perm a g (p2.trans ?_)
  have := p.map swp
  refine this.trans ?_
  rw [List.map_map]
  have e : (swp ∘ swp) = id := by
    funext c
    rfl
  rw [e, List.map_id]
/-! ### rectangles -/
def Full (cs : List Cell) : Prop := ∀ r k : Int, (∃ c ∈ cs, c.1 ≤ r) → (∃ c ∈ cs, r ≤ c.1) → (∃ c ∈ cs, c.2 ≤ k) → (∃ c ∈ cs, k ≤ c.2) → (r, k) ∈ cs
noncomputable def rectB (cs : List Cell) : Bool := @decide (Full cs) (Classical.propDecidable _)
theorem rectB_true {cs : List Cell} (h : Full cs) : rectB cs = true := by
  unfold rectB
  exact @decide_eq_true _ (Classical.propDecidable _) h
theorem rectB_false {cs : List Cell} (h : ¬ Full cs) : rectB cs = false := by
  unfold rectB
  exact @decide_eq_false _ (Classical.propDecidable _) h
theorem full_swp {cs ds : List Cell} (p : ds.Perm (cs.map swp)) (h : Full cs) : Full ds := by
  have to : ∀ c : Cell, c ∈ ds → swp c ∈ cs := fun c hc => by
    obtain ⟨x, hx, rfl⟩ := List.mem_map.mp (p.mem_iff.mp hc)
    exact hx
  intro r k ⟨a, ha, a1⟩ ⟨b, hb, b1⟩ ⟨c, hc, c1⟩ ⟨d, hd, d1⟩
  have := h k r ⟨swp c, to c hc, c1⟩ ⟨swp d, to d hd, d1⟩ ⟨swp a, to a ha, a1⟩ ⟨swp b, to b hb, b1⟩
  exact p.mem_iff.mpr (List.mem_map.mpr ⟨(k, r), this, rfl⟩)
theorem rectB_swp {cs ds : List Cell} (p : ds.Perm (cs.map swp)) : rectB ds = rectB cs := by
  have q : cs.Perm (ds.map swp) := by
    have := (p.map swp).symm
    rw [List.map_map] at this
    have e : (swp ∘ swp) = id := by
      funext c
      rfl
    rw [e, List.map_id] at this
    exact this
  by_cases h : Full cs
  · rw [rectB_true h, rectB_true (full_swp p h)]
  · rw [rectB_false h, rectB_false fun z => h (full_swp q z)]
theorem len_of_subset : ∀ {l m : List Cell}, l.Nodup → (∀ x ∈ l, x ∈ m) → l.length ≤ m.length
  | [], _, _, _ => Nat.zero_le _
  | x :: l, m, n, h => by
    rw [List.nodup_cons] at n
    have hx := h x List.mem_cons_self
    have ih := len_of_subset (m := m.erase x) n.2 fun y hy => by
      have hne : y ≠ x := fun e => n.1 (e ▸ hy)
      exact (List.mem_erase_of_ne hne).mpr (h y (List.mem_cons_of_mem _ hy))
    rw [List.length_erase_of_mem hx] at ih
    have : 0 < m.length := List.length_pos_of_mem hx
    rw [List.length_cons]
    omega
/-- the cells of a box: n rows from r, k columns from c -/
def boxOf (r c : Int) (n k : Nat) : List Cell := (List.range n).flatMap fun (i : Nat) => rowCells (r + (i : Int)) c k
theorem box_len (r c : Int) (n k : Nat) : (boxOf r c n k).length = n * k := by
  unfold boxOf
  rw [List.length_flatMap]
  induction n with
  | zero => simp
  | succ n ih =>
    rw [List.range_succ, List.map_append, List.sum_append, ih, List.map_cons, rowCells_len, Nat.succ_mul]
    simp
theorem box_mem {r c : Int} {n k : Nat} {x : Cell} : x ∈ boxOf r c n k ↔ r ≤ x.1 ∧ x.1 < r + n ∧ c ≤ x.2 ∧ x.2 < c + k := by
  unfold boxOf
  rw [List.mem_flatMap]
  constructor
  · rintro ⟨i, hi, hx⟩
    have := List.mem_range.mp hi
    have := rowCells_mem hx
    omega
  · rintro ⟨h1, h2, h3, h4⟩
    refine ⟨(x.1 - r).toNat, List.mem_range.mpr (by omega), ?_⟩
    unfold rowCells
    refine List.mem_map.mpr ⟨(x.2 - c).toNat, List.mem_range.mpr (by omega), ?_⟩
    refine Prod.ext ?_ ?_
    · show r + ((x.1 - r).toNat : Int) = x.1
      omega
    · show c + ((x.2 - c).toNat : Int) = x.2
      omega
theorem box_asc (r c : Int) (k : Nat) : ∀ n : Nat, (boxOf r c n k).Pairwise lt2
  | 0 => List.Pairwise.nil
  | n + 1 => by
    have e : boxOf r c (n + 1) k = boxOf r c n k ++ rowCells (r + (n : Int)) c k := by
      unfold boxOf
      rw [List.range_succ, List.flatMap_append]
      simp
    rw [e, List.pairwise_append]
    refine ⟨box_asc r c k n, rowCells_asc _ _ _, fun a ha b hb => .inl ?_⟩
    have := box_mem.mp ha
    have := rowCells_mem hb
    omega
/-- the count of cells tells the rectangle -/
theorem rect_count {cs : List Cell} {a b c d : Int} (nd : cs.Nodup) (ha : a ∈ cs.map (·.1)) (ha' : ∀ x ∈ cs.map (·.1), a ≤ x) (hb : b ∈ cs.map (·.1)) (hb' : ∀ x ∈ cs.map (·.1), x ≤ b)
    (hc : c ∈ cs.map (·.2)) (hc' : ∀ x ∈ cs.map (·.2), c ≤ x) (hd : d ∈ cs.map (·.2)) (hd' : ∀ x ∈ cs.map (·.2), x ≤ d) : decide ((cs.length : Int) = (b - a + 1) * (d - c + 1)) = rectB cs := by
  have hab : a ≤ b := ha' b hb
  have hcd : c ≤ d := hc' d hd
  have inb : ∀ x ∈ cs, x ∈ boxOf a c (b - a + 1).toNat (d - c + 1).toNat := fun x hx => by
    have h1 := ha' x.1 (List.mem_map.mpr ⟨x, hx, rfl⟩)
    have h2 := hb' x.1 (List.mem_map.mpr ⟨x, hx, rfl⟩)
    have h3 := hc' x.2 (List.mem_map.mpr ⟨x, hx, rfl⟩)
    have h4 := hd' x.2 (List.mem_map.mpr ⟨x, hx, rfl⟩)
    exact box_mem.mpr ⟨h1, by omega, h3, by omega⟩
  have area : (((b - a + 1).toNat * (d - c + 1).toNat : Nat) : Int) = (b - a + 1) * (d - c + 1) := by
    rw [Int.natCast_mul, Int.toNat_of_nonneg (by omega), Int.toNat_of_nonneg (by omega)]
  have le1 := len_of_subset nd inb
  rw [box_len] at le1
  by_cases h : Full cs
  · rw [rectB_true h]
    have le2 : (boxOf a c (b - a + 1).toNat (d - c + 1).toNat).length ≤ cs.length := len_of_subset (nodup_of_asc (box_asc _ _ _ _)) fun x hx => by
      have := box_mem.mp hx
      obtain ⟨xa, ma, ea⟩ := List.mem_map.mp ha
      obtain ⟨xb, mb, eb⟩ := List.mem_map.mp hb
      obtain ⟨xc, mc, ec⟩ := List.mem_map.mp hc
      obtain ⟨xd, md, ed⟩ := List.mem_map.mp hd
      have := h x.1 x.2 ⟨xa, ma, by omega⟩ ⟨xb, mb, by omega⟩ ⟨xc, mc, by omega⟩ ⟨xd, md, by omega⟩
      exact this
    rw [box_len] at le2
    exact decide_eq_true (by rw [← area]; omega)
  · rw [rectB_false h]
    refine decide_eq_false fun e => h ?_
    rw [← area] at e
    have e' : cs.length = (b - a + 1).toNat * (d - c + 1).toNat := by omega
    intro r k ⟨x1, m1, q1⟩ ⟨x2, m2, q2⟩ ⟨x3, m3, q3⟩ ⟨x4, m4, q4⟩
    have h1 := ha' x1.1 (List.mem_map.mpr ⟨x1, m1, rfl⟩)
    have h2 := hb' x2.1 (List.mem_map.mpr ⟨x2, m2, rfl⟩)
    have h3 := hc' x3.2 (List.mem_map.mpr ⟨x3, m3, rfl⟩)
    have h4 := hd' x4.2 (List.mem_map.mpr ⟨x4, m4, rfl⟩)
    have hin : ((r, k) : Cell) ∈ boxOf a c (b - a + 1).toNat (d - c + 1).toNat := box_mem.mpr ⟨by show a ≤ r; omega, by show r < _; omega, by show c ≤ k; omega, by show k < _; omega⟩
    by_cases hm : ((r, k) : Cell) ∈ cs
    · exact hm
    · have le3 := len_of_subset (l := (r, k) :: cs) (List.nodup_cons.mpr ⟨hm, nd⟩) fun x hx => by
        rcases List.mem_cons.mp hx with z | z
        · subst z
          exact hin
        · exact inb x z
      rw [box_len, List.length_cons] at le3
      omega
end KS
namespace KS
open PySem PySem.Spec PyProof.Rows L2
def Small4 (l : List Int) : Prop := ∀ x ∈ l, 0 ≤ x ∧ x < 10000
theorem Vals9.small {n : Nat} {vs : List Int} (h : Vals9 n vs) : Small4 vs := fun x hx => by
  have := h.bd x hx
  omega
theorem getI_small {vs : List Int} (h : Small4 vs) (k : Int) : 0 ≤ getI vs k ∧ getI vs k < 10000 := by
  unfold getI
  rw [List.getD_eq_getElem?_getD]
  cases e : vs[k.toNat]? with
  | none => exact ⟨by decide, by decide⟩
  | some v => exact h v (List.mem_of_getElem? e)
theorem putZ_small : ∀ {zs : List (Int × Int)} {acc : List Int}, Small4 acc → (∀ z ∈ zs, 0 ≤ z.2 ∧ z.2 < 10000) → Small4 (putZ acc zs)
  | [], _, h, _ => h
  | z :: zs, acc, h, hz => by
    refine putZ_small (zs := zs) (acc := acc.set z.1.toNat z.2) (fun x hx => ?_) (fun y hy => hz y (List.mem_cons_of_mem _ hy))
    rcases List.mem_or_eq_of_mem_set hx with m | rfl
    · exact h x m
    · exact hz z List.mem_cons_self
theorem srtL_small {vs acc l : List Int} (h : Small4 vs) (ha : Small4 acc) : Small4 (srtL vs acc l) := by
  refine putZ_small ha fun z hz => ?_
  have m := (List.of_mem_zip (show (z.1, z.2) ∈ _ from hz)).2
  have m2 := (sortI_perm _).mem_iff.mp m
  obtain ⟨k, _, e⟩ := List.mem_map.mp m2
  rw [← e]
  exact getI_small h k
theorem foldl_small {vs : List Int} (h : Small4 vs) : ∀ (ls : List (List Int)) {acc : List Int}, Small4 acc → Small4 (ls.foldl (srtL vs) acc)
  | [], _, ha => ha
  | l :: ls, _, ha => foldl_small h ls (srtL_small h ha)
theorem srt_small {b : Bool} {cs : List Cell} {vs : List Int} (h : Small4 vs) : Small4 (srt b cs vs) := foldl_small h _ h
theorem line_small {l : List Int} (h : Small4 l) (hl : l.length ≤ 64) : Shows (lineD l) 960 ∧ (lineD l).depth ≤ 64 := ⟨shows_line h hl, by rw [depth_line]; decide⟩
/-- a plan and its values, as data -/
def tabD (cs : List Cell) (vs : List Int) : PyData := .tuple [planD cs, lineD vs]
theorem tab_small {cs : List Cell} {vs : List Int} (g : ∀ c ∈ cs, InGrid c) (hl : cs.length ≤ 64) (h : Small4 vs) (hv : vs.length ≤ 64) : Shows (tabD cs vs) 8000 ∧ (tabD cs vs).depth ≤ 64 := by
  have hp := shows_plan g hl
  have hn := line_small h hv
  refine ⟨shows_tuple (n := 1984) (showsAll_of fun d hd => ?_) (by show (1984 + 1) * 2 ≤ 8000; decide), ?_⟩
  · rcases List.mem_cons.mp hd with z | z
    · subst z
      exact hp.1
    · rcases List.mem_cons.mp z with z | z
      · subst z
        exact ⟨hn.1.short, hn.1.show_, hn.1.nod, Nat.le_trans hn.1.wt (by decide)⟩
      · cases z
  · have a := (cells_lay cs).2
    have b := (ints_lay vs).2
    show (PyData.tuple [.tuple (cs.map cellD), .tuple (vs.map PyData.int)]).depth ≤ 64
    simp only [PyData.depth, PyData.depthAll]
    omega
def rev3 {α : Type} : List α → List α
  | [a, b, c] => [c, b, a]
  | _ => []
theorem rev3_rel {zs : List V} {ws : List Value} (r : Vals zs ws) : Vals (rev3 zs) (rev3 ws) := by
  cases r with
  | nil => exact .nil
  | cons r1 r =>
    cases r with
    | nil => exact .nil
    | cons r2 r =>
      cases r with
      | nil => exact .nil
      | cons r3 r =>
        cases r with
        | nil => exact .cons r3 (.cons r2 (.cons r1 .nil))
        | cons r4 r => exact .nil
/-- the program's sort -/
def spSortL (K : PySem.W.Frag) : Sp := fun xs H Q _ => ∃ (a t : Addr) (b : Bool) (cs : List Cell) (vs : List Int), xs = [.ref a, .ref t, .str (if b = true then "C" else "R")] ∧ PlanAt K H a cs ∧ Good cs ∧ cs.length ≤ 24 ∧
  SqT K H t (vs.map V.int) ∧ Vals9 cs.length vs ∧ ∀ H' u, Same H H' → SqT K H' u ((srt b cs vs).map V.int) → Q (.ref u) H'
end KS
namespace KS
open PySem PySem.Spec PyProof.Rows L2
/-- the letter of a kind, and a word -/
def ltr (b : Bool) : Nat := if b = true then 67 else 82
def wS (w : List Bool) : Str := ⟨(w.map ltr).toArray⟩
theorem wS_len (w : List Bool) : (wS w).length = w.length := by
  show (w.map ltr).toArray.size = _
  rw [List.size_toArray, List.length_map]
theorem ltr_str (b : Bool) : V.str ⟨#[ltr b]⟩ = V.str (if b = true then "C" else "R") := by
  cases b <;> decide +kernel
theorem wS_at {w : List Bool} {i : Nat} {c : Nat} (h : (wS w).cps[i]? = some c) : ∃ b, w[i]? = some b ∧ c = ltr b := by
  have h' : (w.map ltr).toArray[i]? = some c := h
  rw [List.getElem?_toArray, List.getElem?_map] at h'
  cases e : w[i]? with
  | none =>
    rw [e] at h'
    cases h'
  | some b =>
    rw [e] at h'
    cases h'
    exact ⟨b, rfl, rfl⟩
def spLAfter (K : PySem.W.Frag) : Sp := fun xs H Q _ => ∃ (a t : Addr) (w : List Bool) (cs : List Cell) (vs : List Int), xs = [.ref a, .ref t, .str (wS w)] ∧ PlanAt K H a cs ∧ cs.length ≤ 24 ∧
  SqT K H t (vs.map V.int) ∧ vs.length = cs.length ∧ ∀ H' u, Same H H' → SqT K H' u ((aft cs w vs).map V.int) → Q (.ref u) H'
end KS
namespace KS
open PySem PySem.Spec PyProof.Rows L2
/-- one letter, so many times -/
def rRepC : R2 := fun x y H Q => ∃ (c : Nat) (n : Nat), x = .str ⟨#[c]⟩ ∧ y = .int n ∧ 1 ≤ n ∧ n ≤ 64 ∧ Q (.str ⟨(List.replicate n c).toArray⟩) H
theorem rep_fold (c : Nat) : ∀ (n : Nat) (a : Array Nat), (List.replicate n #[c]).foldl (· ++ ·) a = a ++ (List.replicate n c).toArray
  | 0, a => by simp
  | n + 1, a => by
    rw [List.replicate_succ, List.foldl_cons, rep_fold c n, List.replicate_succ]
    apply Array.ext'
    simp
theorem op_repC {X : Cx} : OpR X (binaryOp .Mult) rRepC := by
  intro pins s σ H x y v u Q I rx ry h
  obtain ⟨c, n, rfl, rfl, n0, n1, q⟩ := h
  obtain ⟨t, rfl⟩ := rx
  obtain ⟨t', rfl⟩ := ry
  have e1 : ¬ ((n : Int) < 1) := by omega
  refine P.mul_str ?_ ?_ ?_ ?_
  · have h1 : ¬ (n : Int) < -(2 ^ 63 : Int) := by omega
    have h2 : ¬ (n : Int) ≥ 2 ^ 63 := by omega
    rw [decide_eq_false h1, decide_eq_false h2]
    rfl
  · intro _ _
    show ¬ ((1 : Int) > (2 ^ 63 - 1) / (n : Int))
    have : (1 : Int) ≤ (2 ^ 63 - 1) / (n : Int) := (Int.le_ediv_iff_mul_le (by omega)).mpr (by omega)
    omega
  · intro _ _
    show decide (1 * (n : Int).toNat > sizeLine) = false
    refine decide_eq_false ?_
    rw [sizeLine_eq]
    omega
  · rw [if_neg e1]
    by_cases e : n = 1
    · subst e
      exact ⟨.str ⟨#[c]⟩, H, I, ⟨_, rfl⟩, q⟩
    · have z : (((n : Int) == 1) || ((⟨#[c]⟩ : Str).length == 0)) = false := by
        have : ((n : Int) == 1) = false := by
          rw [beq_eq_false_iff_ne]
          omega
        rw [this]
        rfl
      rw [if_neg (by rw [z]; decide)]
      have ez : (⟨(List.replicate (n : Int).toNat (⟨#[c]⟩ : Str).cps).foldl (· ++ ·) #[]⟩ : Str) = ⟨(List.replicate n c).toArray⟩ := by
        rw [Int.toNat_natCast]
        show (⟨(List.replicate n #[c]).foldl (· ++ ·) #[]⟩ : Str) = _
        rw [rep_fold]
        simp
      rw [ez]
      refine ⟨?_, .str ⟨(List.replicate n c).toArray⟩, H, I.tok _, ⟨_, rfl⟩, q⟩
      show (List.replicate n c).toArray.size ≤ sizeLine
      rw [List.size_toArray, List.length_replicate, sizeLine_eq]
      omega
theorem wS_app (a b : List Bool) : wS a ++ wS b = wS (a ++ b) := by
  show (⟨(a.map ltr).toArray ++ (b.map ltr).toArray⟩ : Str) = ⟨((a ++ b).map ltr).toArray⟩
  rw [List.map_append]
  simp
theorem wS_rep (b : Bool) (n : Nat) : (⟨(List.replicate n (ltr b)).toArray⟩ : Str) = wS (List.replicate n b) := by
  unfold wS
  rw [List.map_replicate]
theorem wS_cut (a : List Bool) (n : Nat) (h : n ≤ a.length) : cutS (wS a) none (some (n : Int)) = wS (a.take n) := by
  have hl := wS_len a
  unfold cutS
  have e0 : HT.sIx (wS a).length 0 none = 0 := rfl
  have e1 : HT.sIx (wS a).length (wS a).length (some (n : Int)) = n := by
    rw [HT.sIx_nat, hl]
    omega
  rw [e0, e1]
  show (⟨(((a.map ltr).toArray.toList.drop 0).take (n - 0)).toArray⟩ : Str) = ⟨((a.take n).map ltr).toArray⟩
  simp
/-- a word of at most so many letters -/
def spLWord (K : PySem.W.Frag) : Sp := fun xs H Q _ => ∃ (p : Addr) (m : Nat), xs = [.ref p, .int m] ∧ PoolO (H p) ∧ m ≤ 400 ∧ ∀ H' w, KeepX p H H' → PoolO (H' p) → w.length ≤ m → Q (.str (wS w)) H'
end KS
namespace KS
open PySem PySem.Spec PyProof.Rows L2
theorem aft_small {cs : List Cell} : ∀ (w : List Bool) {vs : List Int}, Small4 vs → Small4 (aft cs w vs)
  | [], _, h => h
  | b :: w, _, h => aft_small w (srt_small (b := b) (cs := cs) h)
/-- the program's word -/
def spAfterP (K : PySem.W.Frag) : Sp := fun xs H Q _ => ∃ (a t : Addr) (w : List Bool) (cs : List Cell) (vs : List Int), xs = [.ref a, .ref t, .str (wS w)] ∧ PlanAt K H a cs ∧ Good cs ∧ cs.length ≤ 24 ∧
  SqT K H t (vs.map V.int) ∧ Vals9 cs.length vs ∧ w.length ≤ 400 ∧ ∀ H' u, Same H H' → SqT K H' u ((aft cs w vs).map V.int) → Q (.ref u) H'
theorem wS_nil : V.str (wS []) = V.str "" := by decide +kernel
theorem line_shaped (l : List Int) : SeqAt.shaped (lineD l) = true := by
  obtain ⟨h1, h2⟩ := ints_lay l
  show SeqAt.shaped (.tuple (l.map PyData.int)) = true
  unfold SeqAt.shaped
  simp only [PyData.canLay0, PyData.depth, h1, h2]
  decide
end KS
namespace KS
open PySem PySem.Spec PyProof.Rows L2
def lS (b : Bool) : Str := ⟨#[ltr b]⟩
theorem lS_w (b : Bool) : lS b = wS [b] := rfl
theorem join_ws : ∀ w : List Bool, Str.join "" (w.map lS) = wS w
  | [] => by decide +kernel
  | [b] => rfl
  | b :: c :: r => by
    have h := join_ws (c :: r)
    show lS b ++ "" ++ Str.join "" ((c :: r).map lS) = _
    rw [h, show ("" : Str) = wS [] from by decide +kernel, lS_w, wS_app, wS_app]
    rfl
theorem join_letters (w : List Bool) : Txt.join "" (w.map lS) = wS w := by
  show Builtin.Str.glued "" (w.map lS) = _
  rw [StrLaws.glued_eq_join, join_ws]
theorem lS_sum : ∀ w : List Bool, ((w.map lS).map (·.length)).sum = w.length
  | [] => rfl
  | b :: w => by
    show 1 + ((w.map lS).map (·.length)).sum = _
    rw [lS_sum w, List.length_cons]
    omega
def pcell (j : Nat) : Cell := (((j : Int) / 2), ((j : Int) / 2 + (j : Int) % 2))
def pathTo (n : Nat) : List Cell := (List.range n).map pcell
theorem pathTo_succ (n : Nat) : pathTo (n + 1) = pathTo n ++ [pcell n] := by
  unfold pathTo
  rw [List.range_succ, List.map_append]
  rfl
theorem path_good : Good (pathTo 15) := by
  refine ⟨?_, ?_, by decide⟩
  · unfold pathTo
    refine List.pairwise_map.2 (List.pairwise_lt_range.imp ?_)
    intro x y h
    show ((x : Int) / 2 < (y : Int) / 2) ∨ ((x : Int) / 2 = (y : Int) / 2 ∧ (x : Int) / 2 + (x : Int) % 2 < (y : Int) / 2 + (y : Int) % 2)
    omega
  · intro c hc
    obtain ⟨j, hj, rfl⟩ := List.mem_map.mp hc
    have := List.mem_range.mp hj
    show 0 ≤ (j : Int) / 2 ∧ (j : Int) / 2 ≤ 7 ∧ 0 ≤ (j : Int) / 2 + (j : Int) % 2 ∧ (j : Int) / 2 + (j : Int) % 2 ≤ 7
    omega
def four : List Cell := [(0, 0), (0, 1), (1, 1), (2, 0)]
theorem four_good : Good four := by
  refine ⟨?_, ?_, by decide⟩
  · simp [four, lt2]
  · simp [four, InGrid]
end KS
namespace KS
open PySem PySem.Spec PyProof.Rows L2
/-! ### zip(t, l): t a tuple, l a list, of one length -/
def ItTL (K : PySem.W.Frag) (a b : Addr) : It where
  go := fun i H => ∃ (ts ls : List V) (x y : V), SqT K H a ts ∧ SqL K H b ls ∧ ts[i]? = some x ∧ ls[i]? = some y
  yld := fun i H v H' => ∃ (T : Addr) (x y : V), v = .ref T ∧ H T = none ∧ H' = upd H T (.tup [x, y]) ∧ (∀ ts, SqT K H a ts → ts[i]? = some x) ∧ (∀ ls, SqL K H b ls → ls[i]? = some y)
  stop := fun i H => ∃ ts ls : List V, SqT K H a ts ∧ SqL K H b ls ∧ ts.length = i ∧ ls.length = i
def TLs (a b z TI TO i1 i2 : Addr) (i : Nat) (h : Heap) : Prop :=
  IsZip h z TI TO .none ∧ IsTupOf2 h TI (.ref i1) (.ref i2) ∧ (∃ x y, IsTupOf2 h TO x y) ∧ h.IsTupleIter i1 a i ∧ h.IsListIter i2 b i
theorem mem5 {c z TI TO i1 i2 : Addr} (h : c ∈ [z, TI, TO, i1, i2]) : c = z ∨ c = TI ∨ c = TO ∨ c = i1 ∨ c = i2 := by simpa using h
theorem out4 {c z TI TO i1 i2 : Addr} (h : c ∉ [z, TI, TO, i1, i2]) : c ≠ z ∧ c ≠ TO ∧ c ≠ i1 ∧ c ≠ i2 := by
  simp only [List.mem_cons, not_or] at h
  exact ⟨h.1, h.2.2.1, h.2.2.2.1, h.2.2.2.2.1⟩
theorem apart_sep {z TI TO i1 i2 a b : Addr} (D : ZipApart z TI TO i1 i2 a b) : ZipSep2 z TI TO i1 i2 [i1, a] [i2, b] where
  TIz := D.TIz
  TOz := D.TOz
  TITO := D.TITO
  TIi1 := D.TIi1
  TIi2 := D.TIi2
  mem1 := List.mem_cons_self
  mem2 := List.mem_cons_self
  zf1 := by simp [D.i1z.symm, D.l1z.symm]
  zf2 := by simp [D.i2z.symm, D.l2z.symm]
  Tf1 := by simp [D.TOi1, D.l1TO.symm]
  Tf2 := by simp [D.TOi2, D.l2TO.symm]
  sep1_2 := by simp [D.i12, D.l2i1.symm]
  sep2_1 := by simp [D.i12.symm, D.l1i2.symm]
theorem tls_lt {a b z TI TO i1 i2 : Addr} {i : Nat} {h : Heap} (st : TLs a b z TI TO i1 i2 i h) {c : Addr} (hc : c ∈ [z, TI, TO, i1, i2]) : ∃ o, h.get? c = some o ∧ ∀ v, o.data ≠ .cell v := by
  obtain ⟨q0, q1, ⟨x, y, q2⟩, ⟨o3, q3, _, d3⟩, ⟨o4, q4, _, d4⟩⟩ := st
  rcases mem5 hc with e | e | e | e | e <;> subst e
  · exact ⟨_, q0, fun v z => nomatch z⟩
  · exact ⟨_, q1, fun v z => nomatch z⟩
  · exact ⟨_, q2, fun v z => nomatch z⟩
  · exact ⟨o3, q3, fun v z => by rw [d3] at z; cases z⟩
  · exact ⟨o4, q4, fun v z => by rw [d4] at z; cases z⟩
theorem turn_TL {P : Program} {w : World} {K : PySem.W.Frag} {elts : List Expr} {kk : Nat} {tpos : Pos} {a b z TI TO i1 i2 : Addr} (D : ZipApart z TI TO i1 i2 a b) :
    Turn P w K (.Tuple elts kk tpos) (ItTL K a b) [z, TI, TO, i1, i2] z (TLs a b z TI TO i1 i2) where
  mem := List.mem_cons_self
  obj := fun i h st c hc => tls_lt st hc
  keep := fun i h h' st k => by
    obtain ⟨q0, q1, ⟨x, y, q2⟩, q3, q4⟩ := st
    exact ⟨k z (by simp) _ q0, k TI (by simp) _ q1, ⟨x, y, k TO (by simp) _ q2⟩, q3.at fun o e => k i1 (by simp) o e, q4.at fun o e => k i2 (by simp) o e⟩
  self := fun A i s Q E st h => wpAny_pyIter_zip st.1 h
  item := by
    intro X hP hw hK hc i pins s σ H E I hf st hg
    subst hP hw hK
    have st0 := st
    obtain ⟨q0, q1, ⟨x0, y0, q2⟩, q3, q4⟩ := st
    obtain ⟨ts, ls, x, y, ht, hl, ex, ey⟩ := hg
    obtain ⟨its, rv, p1, _⟩ := I.tuple ht
    obtain ⟨jts, rw', p2, _⟩ := I.list hl
    obtain ⟨u, hu, ru⟩ := rv.get ex
    obtain ⟨v, hv, rv'⟩ := rw'.get ey
    have n1 : i < its.toArray.size := by
      have := (List.getElem?_eq_some_iff.mp hu).1
      simpa using this
    have n2 : i < jts.toArray.size := by
      have := (List.getElem?_eq_some_iff.mp hv).1
      simpa using this
    have hh : X.A.in1.handled = none := I.ok.hd hc
    have zlt : z < s.heap.objs.size := Heap.lt_size q0
    refine wpAny_pyNext_zipD2_item (apart_sep D) (Draws.tuple hh i1 a D.l1i1 its.toArray) (Draws.list hh i2 b D.l2i2 jts.toArray) q0 q1 q2 ⟨q3, p1⟩ ⟨q4, p2.isList⟩ n1 n2 fun u' v' h1 tk hu' hv' z1 o1 a1 b1 hT sz kp => ?_
    have eu : u' = u := by
      have z : its[i]? = some u' := by simpa using hu'
      rw [hu] at z
      exact (Option.some.inj z).symm
    have ev : v' = v := by
      have z : jts[i]? = some v' := by simpa using hv'
      rw [hv] at z
      exact (Option.some.inj z).symm
    subst eu ev
    refine ⟨_, rfl, wpAny_letOwnedTupleGo_zip (s := { s with heap := h1, toks := tk }) z1 fun h2 z2 sb => ?_⟩
    have hT2 : h2.get? s.heap.objs.size = some { cls := .type "tuple", data := .seq #[u', v'] } := (sb.2 _ (Nat.ne_of_gt zlt)).trans hT
    have nw : ObjOk X.prog X.w (upd H s.heap.objs.size (.tup [x, y])) h2 s.heap.objs.size (.tup [x, y]) := ⟨by show 2 ≤ sizeLine; decide, [u', v'], .cons ru (.cons rv' .nil), ⟨_, hT2, rfl, _, rfl⟩⟩
    have I1 : Inv X pins σ (upd H s.heap.objs.size (.tup [x, y])) { s with heap := h2, toks := tk } := by
      refine I.turnedNew (ch := [z, TI, TO, i1, i2]) (fun c o n e => ?_) hf (Nat.le_refl _) nw
      obtain ⟨n1, n2, n3, n4⟩ := out4 n
      exact (sb.2 c n1).trans (kp c o n1 n2 n3 n4 e)
    refine ⟨.ref s.heap.objs.size, _, I1, rfl, ⟨_, x, y, rfl, I.hok.fresh (Nat.le_refl _), rfl, fun m hm => by rw [I.tuple_inj hm ht]; exact ex, fun m hm => by rw [I.list_inj hm hl]; exact ey⟩, ⟨z2, ?_, ⟨u', v', ?_⟩, ?_, ?_⟩, fun c hcm => ?_⟩
    · exact (sb.2 TI D.TIz).trans (kp TI _ D.TIz D.TITO D.TIi1 D.TIi2 q1)
    · exact (sb.2 TO D.TOz).trans o1
    · exact a1.1.at fun o e => (sb.2 i1 D.i1z).trans e
    · exact b1.1.at fun o e => (sb.2 i2 D.i2z).trans e
    · obtain ⟨o, ho, _⟩ := tls_lt st0 hcm
      rw [upd_ne (Nat.ne_of_lt (Heap.lt_size ho))]
      exact (hf c hcm).1
  done := by
    intro X hP hw hK hc i pins s σ H E I hf st hg
    subst hP hw hK
    obtain ⟨q0, q1, ⟨x0, y0, q2⟩, q3, q4⟩ := st
    obtain ⟨ts, ls, ht, hl, e1, e2⟩ := hg
    obtain ⟨its, rv, p1, _⟩ := I.tuple ht
    obtain ⟨jts, rw', p2, _⟩ := I.list hl
    have m1 : its.toArray.size = i := by
      have := rv.length
      simp
      omega
    have m2 : jts.toArray.size = i := by
      have := rw'.length
      simp
      omega
    have hh : X.A.in1.handled = none := I.ok.hd hc
    refine wpAny_pyNext_zipD2_end (apart_sep D) (Draws.tuple hh i1 a D.l1i1 its.toArray) (Draws.list hh i2 b D.l2i2 jts.toArray) q0 q1 q2 ⟨q3, p1⟩ ⟨q4, p2.isList⟩ (by omega) (by omega) (.inl m1.symm) fun h1 tk kp => ⟨rfl, ?_⟩
    refine I.turnedL (ch := [z, TI, TO, i1, i2]) (fun c o n e => ?_) hf
    obtain ⟨n1, n2, n3, n4⟩ := out4 n
    exact kp c o n1 n2 n3 n4 e
def iZipTL (K : PySem.W.Frag) (ta : TA) : TI := fun σ H R => ta σ H fun vs H1 => ∃ a b ts ls, vs = [.ref a, .ref b] ∧ SqT K H1 a ts ∧ SqL K H1 b ls ∧ R (ItTL K a b) H1
theorem pi_zipTL {X : Cx} {e e2 : Expr} {ta : TA} {p pos tpos : Pos} {elts : List Expr} {kk : Nat} (hg : Gl X "zip") (hm : X.mg "zip" = none) (ha : PA X [e, e2] ta)
    (hs : starEach [e, e2] X.env = (false, eval e X.env) :: starEach [e2] X.env := by rfl) (hpl : (backTo pos (starEach [e2] X.env)).any (·.1) = false := by rfl) :
    PI X (.Tuple elts kk tpos) (.Call (.Name "zip" p) [e, e2] [] pos) (iZipTL X.K ta) := by
  refine ⟨fun pins s σ H R I h => Call_ (ld_blt I hg hm PyProof.Rows.boot_zip (PyProof.Rows.callWith_type1 (thn (ha.run pos pins s σ H _ I h) fun us s1 hh => ?_) hs hpl))⟩
  obtain ⟨vs, H1, I1, r1, a, b, ts, ls, ev, ht, hl, q⟩ := hh
  subst ev
  cases r1 with
  | cons r rr =>
    cases rr with
    | cons r' rr =>
      cases rr
      cases r
      cases r'
      obtain ⟨its, rv, p1, _⟩ := I1.tuple ht
      obtain ⟨jts, rw', p2, _⟩ := I1.list hl
      have la : a < s1.heap.objs.size := by
        obtain ⟨o, ho, _⟩ := id p1
        exact Heap.lt_size ho
      refine zip_begins2 (begins_tuple a its.toArray) (begins_list b jts.toArray) p1 p2.isList fun h1 z1 t1 o1 g1 g2 sz kp => wpAny_pyIter_zip z1 ?_
      have I2 : Inv X pins σ H1 { s1 with heap := h1 } := I1.kept (t' := s1.toks) kp
      refine ⟨_, [s1.heap.objs.size + 4, s1.heap.objs.size + 2, s1.heap.objs.size + 3, s1.heap.objs.size, s1.heap.objs.size + 1], _, _, H1, rfl, I2, turn_TL (PySem.W.ktu_apart s1.heap.objs.size a b la p2.lt), ⟨z1, t1, ⟨_, _, o1⟩, ⟨_, g1, rfl, rfl⟩, ⟨_, g2, rfl, rfl⟩⟩, fun c hc => ?_, q⟩
      have le : s1.heap.objs.size ≤ c := by
        rcases mem5 hc with e | e | e | e | e <;> rw [e] <;> first | exact Nat.le_add_right _ _ | exact Nat.le_refl _
      exact I1.fpOk le (I1.hok.fresh le)
/-- a loop over zip(t, l), of one length -/
theorem for_zipTL {K : PySem.W.Frag} {a b : Addr} {xs ys : List V} {g : TG} {tb : TS} {D : Ends} {σ : L2.St} {H : Hp} (hl : xs.length = ys.length) (Pv : Nat → L2.St → Hp → Prop) (h0 : Pv 0 σ H) (hq : ∀ i σ H, Pv i σ H → SqT K H a xs ∧ SqL K H b ys)
    (hs : ∀ (i : Nat) (x y : V) (T : Addr) (σ : L2.St) (G : Hp), xs[i]? = some x → ys[i]? = some y → Pv i σ G → G T = none → g (.ref T) σ (upd G T (.tup [x, y])) fun σ2 G2 => tb { D with nx := Pv (i + 1), ct := Pv (i + 1), bk := D.nx } σ2 G2) (hd : ∀ σ G, Pv xs.length σ G → D.nx σ G) :
    ∃ W : Nat → Nat → L2.St → Hp → Prop, (∃ m, W 0 m σ H) ∧ ∀ i m σ H, W i m σ H → ((ItTL K a b).stop i H ∧ D.nx σ H) ∨ ((ItTL K a b).go i H ∧ ∃ N : L2.St → Hp → Prop, (∀ σ' H', N σ' H' → ∃ m', m' < m ∧ W (i + 1) m' σ' H') ∧
      ∀ v H', (ItTL K a b).yld i H v H' → g v σ H' fun σ2 H2 => tb { D with nx := N, ct := N, bk := D.nx } σ2 H2) := by
  refine ⟨fun i m σ G => m + i = xs.length ∧ Pv i σ G, ⟨xs.length, rfl, h0⟩, fun i m σ G hw => ?_⟩
  obtain ⟨hm, p⟩ := hw
  obtain ⟨qx, qy⟩ := hq i σ G p
  cases m with
  | zero =>
    have e : i = xs.length := by omega
    subst e
    exact .inl ⟨⟨xs, ys, qx, qy, rfl, hl.symm⟩, hd σ G p⟩
  | succ m =>
    have l1 : i < xs.length := by omega
    have l2 : i < ys.length := by omega
    refine .inr ⟨⟨xs, ys, _, _, qx, qy, List.getElem?_eq_getElem l1, List.getElem?_eq_getElem l2⟩, Pv (i + 1), fun σ' G' p' => ⟨m, Nat.lt_succ_self _, by omega, p'⟩, fun v G' y => ?_⟩
    obtain ⟨T, x, y, rfl, nT, rfl, f1, f2⟩ := y
    exact hs i x y T σ G (f1 xs qx) (f2 ys qy) p nT
end KS
namespace KS
open PySem PySem.Spec PyProof.Rows L2
/-! ### what the program's own helpers keep, for good values -/
def spFF (K : PySem.W.Frag) : Sp := fun xs H Q _ => ∃ (t : Addr) (m : Int) (vs : List Int), xs = [.ref t, .int m] ∧ SqT K H t (vs.map V.int) ∧ vs.Nodup ∧ (∀ v ∈ vs, 1 ≤ v ∧ v ≤ m) ∧ ∀ H', Same H H' → Q .non H'
def spCheckF (K : PySem.W.Frag) : Sp := fun xs H Q _ => ∃ (n : Nat) (t : Addr) (vs : List Int), xs = [.int n, .ref t] ∧ SqT K H t (vs.map V.int) ∧ Vals9 n vs ∧ n ≤ 24 ∧ ∀ H', Same H H' → Q .non H'
def spAlong (K : PySem.W.Frag) : Sp := fun xs H Q _ => ∃ (g t : Addr) (gs : List V) (ls : List (List Int)) (vs : List Int), xs = [.ref g, .ref t] ∧ SqT K H g gs ∧ Paired (TupI K H) gs ls ∧
  (∀ l ∈ ls, (∀ k ∈ l, ∃ j : Nat, k = (j : Int) ∧ j < vs.length) ∧ l.length ≤ 24) ∧ SqT K H t (vs.map V.int) ∧ ∀ H' u, Same H H' → SqT K H' u ((srtTo vs ls).map V.int) → H u = none → Q (.ref u) H'
theorem inV_take {vs : List Int} (nd : vs.Nodup) {i : Nat} {v : Int} (h : vs[i]? = some v) : inV (.int v) ((vs.take i).map V.int) = false := by
  unfold inV
  rw [List.any_eq_false]
  intro x hx
  obtain ⟨y, hy, rfl⟩ := List.mem_map.mp hx
  obtain ⟨j, hj⟩ := List.mem_iff_getElem?.mp hy
  rw [List.getElem?_take] at hj
  split at hj
  · rename_i hlt
    show ¬ ((y == v) = true)
    intro e
    have e' : y = v := by simpa using e
    subst e'
    obtain ⟨l1, e1⟩ := List.getElem?_eq_some_iff.mp h
    obtain ⟨l2, e2⟩ := List.getElem?_eq_some_iff.mp hj
    have := (List.pairwise_iff_getElem.mp nd) j i l2 l1 hlt
    rw [e1, e2] at this
    exact this rfl
  · cases hj
theorem flat_ints (l : List Int) : (l.map V.int).all flatV = true := by
  rw [List.all_eq_true]
  intro x hx
  obtain ⟨y, _, rfl⟩ := List.mem_map.mp hx
  rfl
theorem cut_take {l : List V} {i : Nat} (h : i ≤ l.length) : cutV l none (some (i : Int)) = l.take i := by
  unfold cutV
  have e0 : HT.sIx l.length 0 none = 0 := rfl
  have e1 : HT.sIx l.length l.length (some (i : Int)) = i := by
    rw [HT.sIx_nat]
    omega
  rw [e0, e1]
  simp
theorem cut_not {l : List V} {i : Nat} (h : i < l.length) : ¬ (HT.sIx l.length 0 none = 0 ∧ HT.sIx l.length l.length (some (i : Int)) = l.length) := by
  intro z
  have e1 : HT.sIx l.length l.length (some (i : Int)) = i := by
    rw [HT.sIx_nat]
    omega
  omega
theorem lns_ok {b : Bool} {cs : List Cell} {vs : List Int} (hl : cs.length ≤ 24) (hv : vs.length = cs.length) : ∀ l ∈ lnsOf b cs, (∀ k ∈ l, ∃ j : Nat, k = (j : Int) ∧ j < vs.length) ∧ l.length ≤ 24 := fun l h => by
  have := lns_mem h
  rw [hv]
  exact ⟨this.1, by omega⟩
end KS
namespace KS
open PySem PySem.Spec PyProof.Rows L2
section
variable {K : PySem.W.Frag} {σ : L2.St} {H : Hp} {Q : VK} {ta : TA}
theorem catA_ok2 {a b : Addr} {xs ys : List V} (ha : SqT K H a xs) (hb : SqT K H b ys) (hl : xs.length + ys.length ≤ 64)
    (k : ∀ H' u, Same H H' → SqT K H' u (xs ++ ys) → Q (.ref u) H') : rCatA K (.ref a) (.ref b) H Q := by
  refine ⟨a, b, xs, ys, rfl, rfl, ha, hb, Nat.le_of_lt (small64 hl), fun e => ?_, fun _ e => ?_, fun _ _ p np => ?_⟩
  · subst e
    exact k H b (Same.refl _) hb
  · subst e
    exact k H a (Same.refl _) (by rw [List.append_nil]; exact ha)
  · exact k _ p (same_new np) (SqT.of upd_same)
theorem cut_to2 {xs : List V} {k : Nat} (h : k ≤ xs.length) : cutV xs none (some (k : Int)) = xs.take k := by
  unfold cutV
  rw [HT.sIx_none, HT.sIx_nat, Nat.min_eq_left h]
  simp
theorem cut_from2 {xs : List V} {k : Nat} (h : k ≤ xs.length) : cutV xs (some (k : Int)) none = xs.drop k := by
  unfold cutV
  rw [HT.sIx_none, HT.sIx_nat, Nat.min_eq_left h]
  exact List.take_of_length_le (by rw [List.length_drop]; exact Nat.le_refl _)
theorem slTo_ok2 {a : Addr} {xs : List V} {n : Nat} (ha : SqT K H a xs) (hn : n ≤ xs.length) (k : ∀ H' u, Same H H' → SqT K H' u (xs.take n) → Q (.ref u) H') : rSlA K (.ref a) none (some (n : Int)) H Q := by
  refine ⟨a, xs, rfl, ha, fun z => ?_, fun _ p np => ?_⟩
  · obtain ⟨_, z2⟩ := z
    rw [show HT.sIx xs.length xs.length (some (n : Int)) = min n xs.length from HT.sIx_nat _ _ n] at z2
    have e : n = xs.length := by omega
    refine k H a (Same.refl _) ?_
    rw [e, List.take_length]
    exact ha
  · refine k _ p (same_new np) (SqT.of ?_)
    rw [upd_same, cut_to2 hn]
theorem slFrom_ok2 {a : Addr} {xs : List V} {n : Nat} (ha : SqT K H a xs) (hn : n ≤ xs.length) (k : ∀ H' u, Same H H' → SqT K H' u (xs.drop n) → Q (.ref u) H') : rSlA K (.ref a) (some (n : Int)) none H Q := by
  refine ⟨a, xs, rfl, ha, fun z => ?_, fun _ p np => ?_⟩
  · obtain ⟨z1, _⟩ := z
    rw [show HT.sIx xs.length 0 (some (n : Int)) = min n xs.length from HT.sIx_nat _ _ n] at z1
    refine k H a (Same.refl _) ?_
    rcases Nat.eq_zero_or_pos n with e | e
    · subst e
      exact ha
    · have e2 : xs.length = 0 := by omega
      have e3 := List.eq_nil_of_length_eq_zero e2
      subst e3
      simpa using ha
  · refine k _ p (same_new np) (SqT.of ?_)
    rw [upd_same, cut_from2 hn]
end
end KS
namespace KS
open PySem PySem.Spec PyProof.Rows L2
/-! ### ranked tables of rectangles -/
structure Tab (n : Nat) (vs : List Int) : Prop where
  len : vs.length = n
  nd : vs.Nodup
  bd : ∀ v ∈ vs, 1 ≤ v ∧ v ≤ (n : Int)
theorem Tab.perm {n : Nat} {as bs : List Int} (h : Tab n as) (p : as.Perm bs) : Tab n bs := ⟨p.length_eq ▸ h.len, p.nodup_iff.mp h.nd, fun v m => h.bd v (p.mem_iff.mpr m)⟩
theorem tab_low (n : Nat) : Tab n (rgI 1 ((n : Int) + 1)) := by
  refine ⟨by rw [rgI_len]; omega, rgI_nd _ _, fun v h => ?_⟩
  have := rgI_mem h
  omega
/-- a rectangle's sides -/
structure Sides (r c : Nat) : Prop where
  r1 : 1 ≤ r
  c1 : 1 ≤ c
  rc : r * c ≤ 24
theorem Sides.le {r c : Nat} (h : Sides r c) : r ≤ 24 ∧ c ≤ 24 := by
  have h1 := h.r1
  have h2 := h.c1
  have h3 := h.rc
  constructor
  · have := Nat.le_mul_of_pos_right r h2
    omega
  · have := Nat.le_mul_of_pos_left c h1
    omega
def spRcOk : Sp := fun xs H Q _ => ∃ r c : Nat, xs = [.int (r : Nat), .int (c : Nat)] ∧ Sides r c ∧ Q .non H
def spTabOk (K : PySem.W.Frag) : Sp := fun xs H Q _ => ∃ (n : Nat) (t : Addr) (vs : List Int), xs = [.int (n : Nat), .ref t] ∧ SqT K H t (vs.map V.int) ∧ Tab n vs ∧ ∀ H', Same H H' → Q .non H'
/-- how many values of at least the limit stand in the last rows -/
def lastN (r c : Nat) (vs : List Int) (lim : Int) (k : Nat) : Nat := ((vs.drop ((r - k) * c)).filter fun v => decide (lim ≤ v)).length
def spLast (K : PySem.W.Frag) : Sp := fun xs H Q _ => ∃ (r c k : Nat) (t : Addr) (vs : List Int) (lim : Int), xs = [.int (r : Nat), .int (c : Nat), .ref t, .int lim, .int (k : Nat)] ∧ Sides r c ∧ SqT K H t (vs.map V.int) ∧ Tab (r * c) vs ∧ k ≤ r ∧
  ∀ H', Same H H' → Q (.int (lastN r c vs lim k : Nat)) H'
def rev5 {α : Type} : List α → List α
  | [a, b, c, d, e] => [e, d, c, b, a]
  | _ => []
theorem rev5_rel {zs : List V} {ws : List Value} (r : Vals zs ws) : Vals (rev5 zs) (rev5 ws) := by
  cases r with
  | nil => exact .nil
  | cons r1 r =>
    cases r with
    | nil => exact .nil
    | cons r2 r =>
      cases r with
      | nil => exact .nil
      | cons r3 r =>
        cases r with
        | nil => exact .nil
        | cons r4 r =>
          cases r with
          | nil => exact .nil
          | cons r5 r =>
            cases r with
            | nil => exact .cons r5 (.cons r4 (.cons r3 (.cons r2 (.cons r1 .nil))))
            | cons r6 r => exact .nil
/-- the law's own draws -/
def spSides : Sp := fun xs H Q _ => ∃ (p : Addr) (m : Nat), xs = [.ref p, .int (m : Nat)] ∧ PoolO (H p) ∧ 1 ≤ m ∧ m ≤ 24 ∧ ∀ H' t (r c : Nat), KeepX p H H' → PoolO (H' p) → H' t = some (.tup [.int (r : Nat), .int (c : Nat)]) → Sides r c → r * c ≤ m → Q (.ref t) H'
def spMixed (K : PySem.W.Frag) : Sp := fun xs H Q _ => ∃ (p : Addr) (n : Nat), xs = [.ref p, .int (n : Nat)] ∧ PoolO (H p) ∧ 1 ≤ n ∧ n ≤ 24 ∧ ∀ H' t vs, KeepX p H H' → PoolO (H' p) → SqT K H' t (vs.map V.int) → Tab n vs → Q (.ref t) H'
def spIs : Sp := fun xs H Q _ => ∃ i j : Int, xs = [.int i, .int j] ∧ Q (.bl (decide (i = j))) H
end KS
namespace KS
open PySem PySem.Spec PyProof.Rows L2 RZ
/-! ### dicts whose keys are tuples: {k: v for ..} -/
/-- the pair (y, z) goes into the dict at D -/
def PutT (D : Addr) (y z : V) (G : Hp) (N : Hp → Prop) : Prop := ∃ (kvs : List (List L2.Key × V)) (k : List L2.Key) (b : Addr), y = .ref b ∧ G b = some (.tup (k.map kV)) ∧ G D = some (.dT kvs) ∧ kvs.length < sizeLine ∧ N (upd G D (.dT (putK kvs k z)))
/-- one turn of such a comprehension -/
def TurnDT (J : It) (g : TG) (tt : TT) (tk tv : TE) (vs : List Nat) (σ : L2.St) (D : Addr) (i : Nat) (G : Hp) (N : Hp → Prop) : Prop :=
  ∀ x G1, J.yld i G x G1 → g x (wipe σ vs) G1 fun τ G2 => wipe τ vs = wipe σ vs ∧ tt τ G2 fun b G3 => if b = true then tk τ G3 (fun y G4 => tv τ G4 fun z G5 => PutT D y z G5 N) else N G3
def tDcT (wi : TI) (g : TG) (tt : TT) (tk tv : TE) (vs : List Nat) : TE := fun σ H Q => wi σ H fun J H1 => ∀ D, H1 D = none →
  ∃ W : Nat → Nat → Hp → Prop, (∃ m, W 0 m (upd H1 D (.dT []))) ∧
    ∀ i m G, W i m G → (J.stop i G ∧ Q (.ref D) G) ∨ (J.go i G ∧ ∃ N : Hp → Prop, (∀ G', N G' → ∃ m', m' < m ∧ W (i + 1) m' G') ∧ TurnDT J g tt tk tv vs σ D i G N)
section
variable {X : Cx}
theorem putT_set {pins : List (Addr × Obj)} {σ : L2.St} {H : Hp} {s : Shared} {E : Value → Shared → Prop} {D : Addr} {y z : V} {u r : Value} {N : Hp → Prop} {Q : Unit → Shared → Prop} (hu : X.A.units < cLine)
    (I : Inv X pins σ H s) (p : PutT D y z H N) (ry : RelV y u) (rz : RelV z r) (h : ∀ H' s', Inv X pins σ H' s' → N H' → Q () s') :
    wpAny (model X.prog X.w) X.A (dictSet D u r) Q E s := by
  obtain ⟨kvs, k, b, rfl, eb, eD, len, nx⟩ := p
  cases (show u = Value.ref b from ry)
  obtain ⟨z0, hd, xs, rel, dd⟩ := dt_of I.hok eD
  have few : xs.length ≤ sizeLine := (Paired.length rel) ▸ z0
  have few' : (putK kvs k z).length ≤ sizeLine := Nat.le_trans (length_putK kvs k z) len
  refine wpAny_dictSet_heap (knd := tupleKind (mixKind X.prog X.w)) (hsz := few) hu (key_of I.hok eb) dd (fun h' dd' hs => h _ _ ?_ nx)
  obtain ⟨q, es, ep, hq, c2, c3, c4, _, c5⟩ := dd'
  have kept : L2.KT (upd H D (.dT (putK kvs k z))) (putK kvs k z) (storedH xs k b r) :=
    (rel.put k eb rz).keeps (fun c ys ec => (upd_ne (ne_of ec eD (fun e => nomatch e))).trans ec)
  exact d_write I (eD.symm ▸ True.intro) hs ⟨q, hq⟩ ⟨few', hd, _, kept, q, es, ep, hq, c2, c3, c4, c5⟩
/-- what the block's walker leaves alone -/
theorem foot {Y : Cx} {fp : List Addr} {τ : L2.St} {G : Hp} {t : Shared} (I : Inv Y [] τ G t) (hx : ∀ b ∈ fp, b ∈ Y.ex) (hp : Y.pn = []) (hn : ∀ b ∈ fp, G b = none) : ∀ b ∈ fp, FpOk Y [] G b := by
  intro b hb
  have inx := hx b hb
  have e1 := I.ok.exf b inx
  refine ⟨hn b hb, e1.1, I.ok.exfs b inx, Or.inl inx, fun x c e => e1.2 x c e, ?_⟩
  rw [hp]
  intro p hpm
  cases hpm
theorem dcT_core {pins : List (Addr × Obj)} {s : Shared} {σ : L2.St} {H : Hp} {Q : VK} {kx vx tg iter : Expr} {ifs : List Expr} {scope : Scope} {own : List (Str × Nat)} {pos pos' : Pos} {wi : TI} {g : TG} {tt : TT} {tk tv : TE} {use : Option (Value → Sem Unit)} {Qf : Value → Shared → Prop}
    (hu : X.A.units < cLine) (hc : X.calm = true) (hN : X.N.Nodup) (I : Inv X pins σ H s) (hi : PI X tg iter wi) (ok : BlkOk X.N X.env.scope scope own)
    (hg : ∀ (s : Shared) (H : Hp) (C : Addr) (cl : List (Str × Addr)) (fp : List Addr), PG (X.blk s H scope (compEnvC scope cl C X.env) fp) tg g)
    (ht : ∀ (s : Shared) (H : Hp) (C : Addr) (cl : List (Str × Addr)) (fp : List Addr), PTs (X.blk s H scope (compEnvC scope cl C X.env) fp) ifs tt)
    (hk : ∀ (s : Shared) (H : Hp) (C : Addr) (cl : List (Str × Addr)) (fp : List Addr), PE (X.blk s H scope (compEnvC scope cl C X.env) fp) kx tk)
    (hv : ∀ (s : Shared) (H : Hp) (C : Addr) (cl : List (Str × Addr)) (fp : List Addr), PE (X.blk s H scope (compEnvC scope cl C X.env) fp) vx tv)
    (hs : ∀ x, foldedSetIterable iter X.env x = pure x) (h : tDcT wi g tt tk tv (own.map (·.2)) σ H Q)
    (fin : ∀ D C s' m H', Inv X pins σ H' s' → Q (.ref D) H' → s'.heap.Ns C m → FpOk X pins H' C → compPost (model X.prog X.w) X.A X.xe use Qf (.ref D) C (.ok .next) s') :
    wpAny (model X.prog X.w) X.A (comprehension (.DictComp kx vx [⟨tg, iter, ifs, 0⟩] scope pos) scope X.env pos' newDict false (eval iter X.env) use) Qf X.xe s := by
  have caps : ∀ y ∈ scope.names, y.2 = .free → ∃ c, X.env.cells.lookup y.1 = some c := fun y hy e => (ok.free y hy e).elim (fun k => I.ok.has _ (Or.inl k)) (fun k => I.ok.has _ (Or.inr k))
  have loc : ∀ y ∈ scope.names, y.2 = .local → scope.names.lookup y.1 = some .local := fun y hy e => e ▸ ok.uniq y hy
  refine wpAny_comprehension_free (use := use) rfl hs (closure_ok caps) ok.kind loc (thn (hi.run pins s σ H _ I h) fun xv s1 hx => ?_)
  refine thn hx fun itv s2 came => ?_
  obtain ⟨it, fp, tn, J, H2, rfl, I2, T, st2, f2, q⟩ := came
  refine wpAny_newObj_type (newEnv_comp ?_)
  have DN : H2 s2.heap.objs.size = none := I2.hok.fresh (Nat.le_refl _)
  obtain ⟨W, ⟨m0, w0⟩, turn⟩ := q _ DN
  have I3 : Inv X pins σ (upd H2 s2.heap.objs.size (.dT [])) { s2 with heap := s2.heap.push { cls := .type "dict", data := .dict #[] } } :=
    I2.laid (t' := s2.toks) (fun b o e => Heap.get?_push_of_some _ e) (Nat.le_refl _) (dt_empty s2.heap I2.big)
  have small : ∀ b ∈ fp, b < s2.heap.objs.size := fun b hb => (T.obj _ _ st2 b hb).elim fun o e => Heap.lt_size e.1
  have f3 : ∀ b ∈ fp, FpOk X pins (upd H2 s2.heap.objs.size (.dT [])) b ∧ b < (s2.heap.push { cls := .type "dict", data := .dict #[] }).objs.size := fun b hb =>
    ⟨⟨(upd_ne (Nat.ne_of_lt (small b hb))).trans (f2 b hb).1, (f2 b hb).2⟩, (Heap.size_push ..).symm ▸ Nat.lt_succ_of_lt (small b hb)⟩
  have st3 : tn 0 (s2.heap.push { cls := .type "dict", data := .dict #[] }) := T.keep _ _ _ st2 fun b _ o e => Heap.get?_push_of_some _ e
  generalize eD : s2.heap.objs.size = D at *
  generalize eH : upd H2 D (.dT []) = H3 at *
  generalize eS : ({ s2 with heap := s2.heap.push { cls := .type "dict", data := .dict #[] } } : Shared) = s3 at *
  have I4 := block_start I3 ok hN (fun b hb => by rw [← eS]; exact f3 b hb)
  have sh : s3.heap = s2.heap.push { cls := .type "dict", data := .dict #[] } := by rw [← eS]
  rw [← sh] at st3
  have st4 : tn 0 (pushCells (s3.heap.push { cls := .type "dict", data := .dict #[] }) scope.names) := T.keep _ _ _ st3 fun b _ o e => pushCells_keeps _ _ _ _ (Heap.get?_push_of_some _ e)
  have n3 : ∀ b ∈ fp, H3 b = none := fun b hb => (f3 b hb).1.1
  have pg := hg s3 H3 s3.heap.objs.size (cellsFrom (s3.heap.objs.size + 1) scope.names (cloFrom X.env.cells scope.names [])) fp
  have pt := ht s3 H3 s3.heap.objs.size (cellsFrom (s3.heap.objs.size + 1) scope.names (cloFrom X.env.cells scope.names [])) fp
  have pk := hk s3 H3 s3.heap.objs.size (cellsFrom (s3.heap.objs.size + 1) scope.names (cloFrom X.env.cells scope.names [])) fp
  have pv' := hv s3 H3 s3.heap.objs.size (cellsFrom (s3.heap.objs.size + 1) scope.names (cloFrom X.env.cells scope.names [])) fp
  have cL : (compEnvC scope (cellsFrom (s3.heap.objs.size + 1) scope.names (cloFrom X.env.cells scope.names [])) s3.heap.objs.size X.env).locals = s3.heap.objs.size := rfl
  change codeAny (model X.prog X.w) X.A (.compStart (.DictComp kx vx [⟨tg, iter, ifs, 0⟩] scope pos) 0 (.ref it) (.ref D) (compEnvC scope (cellsFrom (s3.heap.objs.size + 1) scope.names (cloFrom X.env.cells scope.names [])) s3.heap.objs.size X.env))
    (compPost (model X.prog X.w) X.A X.xe use Qf (.ref D) s3.heap.objs.size) { s3 with heap := pushCells (s3.heap.push { cls := .type "dict", data := .dict #[] }) scope.names }
  generalize compEnvC scope (cellsFrom (s3.heap.objs.size + 1) scope.names (cloFrom X.env.cells scope.names [])) s3.heap.objs.size X.env = ce at I4 pg pt pk pv' cL ⊢
  generalize e4 : ({ s3 with heap := pushCells (s3.heap.push { cls := .type "dict", data := .dict #[] }) scope.names } : Shared) = s4 at I4 ⊢
  replace st4 : tn 0 s4.heap := by
    rw [← e4]
    exact st4
  suffices loop : codeAny (model X.prog X.w) X.A (.compLoop (.DictComp kx vx [⟨tg, iter, ifs, 0⟩] scope pos) 0 (.ref it) (.ref D) ce) (compPost (model X.prog X.w) X.A X.xe use Qf (.ref D) s3.heap.objs.size) s4 from
    codeAny_compStart_dict loop (T.self X.A 0 _ _ _ st4 loop)
  refine compLoop_anyD (fun n t => ∃ i G, Inv (X.blk s3 H3 scope ce fp) [] (wipe σ (own.map (·.2))) G t ∧ tn i t.heap ∧ (∀ b ∈ fp, G b = none) ∧ W i n G) (fun n t inv => ?_) m0 ⟨0, H3, I4, st4, n3, w0⟩
  obtain ⟨i, G, IG, stG, nG, wG⟩ := inv
  rcases turn i n G wG with ⟨halt, qG⟩ | ⟨more, N, hN', body⟩
  · -- no more items
    refine thnF (T.done (X.blk s3 H3 scope ce fp) rfl rfl rfl hc i [] t _ G (fun _ _ => False) IG (foot IG (fun _ hb => hb) rfl nG) stG halt) fun r t1 both => ?_
    obtain ⟨rfl, I1⟩ := both
    have back : Inv X pins σ G t1 := I3.call' (ch := fp) I1.os I1.base I1.hok I1.bare fun b hb =>
      let ⟨_, u1, _, u2, u3, u4⟩ := (f3 b hb).1
      ⟨u2, u1, u3, u4⟩
    have freeC : G s3.heap.objs.size = none := cL ▸ (show G ce.locals = none from I1.free)
    obtain ⟨m, hn, _⟩ := I1.loc
    exact fin D s3.heap.objs.size t1 m G back qG (cL ▸ (show t1.heap.Ns ce.locals m from hn)) (I3.fpOk (Nat.le_refl _) freeC)
  · refine thnF (T.item (X.blk s3 H3 scope ce fp) rfl rfl rfl hc i [] t _ G (fun _ _ => False) IG (foot IG (fun _ hb => hb) rfl nG) stG more) fun r t1 got => ?_
    obtain ⟨u, rfl, got⟩ := got
    refine thnF got fun _ t2 ⟨x, G2, IG2, rx, yx, stx, nx⟩ => ?_
    have held := IG2.pinned (foot IG2 (fun _ hb => hb) rfl nx) (T.obj _ _ stx)
    refine thnF (pg.run _ t2 _ G2 x u _ held rx (body x G2 yx)) fun _ t3 ⟨τ, G3, IG3, weq, rest⟩ => ?_
    refine thnF (pt.run _ t3 τ G3 _ IG3 rest) fun b t4 ⟨G4, IG4, rest⟩ => ?_
    have close : ∀ {t' : Shared} {G' : Hp}, Inv (X.blk s3 H3 scope ce fp) ([] ++ pinsAt fp t2.heap) τ G' t' → N G' → ∃ m, m < n ∧ ∃ i G, Inv (X.blk s3 H3 scope ce fp) [] (wipe σ (own.map (·.2))) G t' ∧ tn i t'.heap ∧ (∀ b ∈ fp, G b = none) ∧ W i m G := by
      intro t' G' IG' nn
      obtain ⟨m', lt, w'⟩ := hN' G' nn
      have still : ∀ b ∈ fp, ∀ o, t2.heap.get? b = some o → t'.heap.get? b = some o ∧ G' b = none := by
        intro b hb o e
        have z := IG'.pin (b, o) (List.mem_append_right _ (List.mem_append_right _ (mem_pinsAt hb e)))
        exact ⟨z.1, z.2.1⟩
      have lens : (wipe σ (own.map (·.2))).length = τ.length := (congrArg List.length weq).symm.trans (wipe_length _ _)
      refine ⟨m', lt, i + 1, G', (IG'.unpinned (pins := [])).weak lens (fun j v e => (wipe_some (weq ▸ e)).1), T.keep _ _ _ stx fun b hb o e => (still b hb o e).1, ?_, w'⟩
      intro b hb
      obtain ⟨o, e, _⟩ := T.obj _ _ stx b hb
      exact (still b hb o e).2
    cases b with
    | false => exact close IG4 rest
    | true =>
      refine thnF (pk.run _ t4 τ G4 _ IG4 rest) fun uk t5 ⟨yk, G5, IG5, rk, rest⟩ => ?_
      refine thnF (pv'.run _ t5 τ G5 _ IG5 rest) fun uv t6 ⟨yv, G6, IG6, rv, put⟩ => ?_
      exact putT_set (X := X.blk s3 H3 scope ce fp) hu IG6 put rk rv fun G' t' I' nn => close I' nn
theorem ps_setDcT {i : Nat} {y : Str} {py : Pos} {kx vx tg iter : Expr} {ifs : List Expr} {scope : Scope} {own : List (Str × Nat)} {pos spos : Pos} {wi : TI} {g : TG} {tt : TT} {tk tv : TE} (hu : X.A.units < cLine) (hc : X.calm = true) (hN : X.N.Nodup) (hy : X.N[i]? = some y) (hyl : X.env.scope.names.lookup y = some .local)
    (hsw : swapsWith (.DictComp kx vx [⟨tg, iter, ifs, 0⟩] scope pos) (some (.Name y py)) spos.line X.env = pure true) (hi : PI X tg iter wi) (ok : BlkOk X.N X.env.scope scope own)
    (hg : ∀ (s : Shared) (H : Hp) (C : Addr) (cl : List (Str × Addr)) (fp : List Addr), PG (X.blk s H scope (compEnvC scope cl C X.env) fp) tg g)
    (ht : ∀ (s : Shared) (H : Hp) (C : Addr) (cl : List (Str × Addr)) (fp : List Addr), PTs (X.blk s H scope (compEnvC scope cl C X.env) fp) ifs tt)
    (hk : ∀ (s : Shared) (H : Hp) (C : Addr) (cl : List (Str × Addr)) (fp : List Addr), PE (X.blk s H scope (compEnvC scope cl C X.env) fp) kx tk)
    (hv : ∀ (s : Shared) (H : Hp) (C : Addr) (cl : List (Str × Addr)) (fp : List Addr), PE (X.blk s H scope (compEnvC scope cl C X.env) fp) vx tv)
    (hs : ∀ x, foldedSetIterable iter X.env x = pure x := by intro _; rfl) :
    PS X (.Assign [.Name y py] (.DictComp kx vx [⟨tg, iter, ifs, 0⟩] scope pos) spos) (tAsg (tDcT wi g tt tk tv (own.map (·.2))) (gName i)) := by
  refine ⟨fun pins s σ H D I h => ?_⟩
  rw [exec_Assign_Name_used _ _ _ _ hsw]
  refine wpAny_bind (wpAny_standAt (wpAny_bind ?_))
  show wpAny _ X.A (do let _ ← comprehension (.DictComp kx vx [⟨tg, iter, ifs, 0⟩] scope pos) scope X.env (firstIterPos [⟨tg, iter, ifs, 0⟩] pos) newDict false (eval iter X.env) (some (assign (.Name y py) X.env))) _ _ s
  have h : tDcT wi g tt tk tv (own.map (·.2)) σ H (fun x H1 => gName i x σ H1 D.nx) := h
  refine wpAny_bind (thn (dcT_core (Qf := fun _ s' => SP X pins D .next s') hu hc hN I hi ok hg ht hk hv hs h fun L C s' m H' I' q hn f => ?_) fun _ s' hq => wpAny_pure (wpAny_pure hq))
  show wpAny _ _ (assign (.Name y py) X.env (.ref L)) _ _ _
  refine wpAny_assign_Name (store_ok2 (v := V.ref L) I' hN hy (.inl hyl) rfl (fun s2 I2 ⟨a, sb, ha⟩ => ?_) (.inr hyl))
  obtain ⟨f0, f1, f2, f3, f4, f5⟩ := f
  have off : C ≠ a := ha.elim (fun z => z ▸ f1) (fun z e => f4 y a z e.symm)
  refine ⟨m, hn.sameBut sb off, fun h3 sb3 => ?_⟩
  exact ⟨_, H', I2.turned (t' := s2.toks) (fun b o hb e => (sb3.2 b hb).trans e) f0 f1 f3 f4 f5, q⟩
end
theorem sw_dict {kx vx : Expr} {gs : List Comprehension} {scope : Scope} {pos py : Pos} {y : Str} {l : Nat} {env : Env} (hk : env.scope.kind = .function) (hy : env.scope.names.lookup y = some .local) (hl : (py.line == pos.line) = true)
    (ha : (scope.names.any fun (n, k) => n == y && (k == .local || k == .cell)) = false) : swapsWith (.DictComp kx vx gs scope pos) (some (.Name y py)) l env = pure true := by
  have ky : env.kindOf y = some .local := hy
  have hb : env.blockKind = .function := by unfold Env.blockKind; rw [hk]; rfl
  unfold swapsWith
  simp only [hb, ky, ha, Expr.pos, hl]
  rfl
/-- a walk over two tuples side by side -/
theorem walk_zipT {K : PySem.W.Frag} {a b : Addr} {xs ys : List V} {n : Nat} (hx : xs.length = n) (hy : ys.length = n) : Walk (ItzT K a b) n (fun H => SqT K H a xs ∧ SqT K H b ys) (YPair (fun i => xs[i]?) (fun i => ys[i]?)) where
  goes := fun i H hi ⟨h1, h2⟩ => ⟨xs, ys, _, _, h1, h2, List.getElem?_eq_getElem (by omega), List.getElem?_eq_getElem (by omega)⟩
  stops := fun H ⟨h1, h2⟩ => ⟨xs, ys, h1, h2, Or.inl (by omega)⟩
  yields := fun i H x H' hi ⟨h1, h2⟩ ⟨T, x', y', e1, e2, e3, f1, f2⟩ => ⟨T, x', y', e1, e2, e3, f1 xs h1, f2 ys h2⟩
/-- such a comprehension over any walk -/
theorem dcT_it {J : It} {n : Nat} {Gd : Hp → Prop} {Y : Nat → Hp → V → Hp → Prop} (w : Walk J n Gd Y) {g : TG} {tt : TT} {tk tv : TE} {vs : List Nat} {σ : L2.St} {H1 : Hp} {D : Addr} {Qd : Hp → Prop} (Pv : Nat → Hp → Prop) (h0 : Pv 0 (upd H1 D (.dT []))) (hl : ∀ i H, i ≤ n → Pv i H → Gd H)
    (hs : ∀ i x G G1, i < n → Pv i G → Y i G x G1 → g x (wipe σ vs) G1 fun τ G2 => wipe τ vs = wipe σ vs ∧ tt τ G2 fun b G3 => if b = true then tk τ G3 (fun y G4 => tv τ G4 fun z G5 => PutT D y z G5 (Pv (i + 1))) else Pv (i + 1) G3)
    (hd : ∀ H, Pv n H → Qd H) :
    ∃ W : Nat → Nat → Hp → Prop, (∃ m, W 0 m (upd H1 D (.dT []))) ∧
      ∀ i m G, W i m G → (J.stop i G ∧ Qd G) ∨ (J.go i G ∧ ∃ N : Hp → Prop, (∀ G', N G' → ∃ m', m' < m ∧ W (i + 1) m' G') ∧ TurnDT J g tt tk tv vs σ D i G N) := by
  refine ⟨fun i m G => m + i = n ∧ Pv i G, ⟨n, rfl, h0⟩, ?_⟩
  rintro i m G ⟨e, p⟩
  have hi : i ≤ n := by omega
  have good := hl i G hi p
  rcases Nat.lt_or_ge i n with lt | ge
  · refine Or.inr ⟨w.goes i G lt good, Pv (i + 1), fun G' p' => ⟨m - 1, by omega, by omega, p'⟩, ?_⟩
    intro x G1 y
    exact hs i x G G1 lt p (w.yields i G x G1 lt good y)
  · have e2 : i = n := by omega
    subst e2
    exact Or.inl ⟨w.stops G good, hd G p⟩
end KS
namespace KS
open PySem PySem.Spec PyProof.Rows L2 RZ
/-! ### {k: v}, the key a tuple -/
def tDisp1T (tk tv : TE) : TE := fun σ H Q => ∀ D, H D = none → tPairs [(tk, tv)] σ (upd H D (.dT [])) fun ps H2 => ∃ y z, ps = [(y, z)] ∧ PutT D y z H2 (Q (.ref D))
section
variable {X : Cx}
theorem pe_disp1T {k v : Expr} {pos : Pos} {tk tv : TE} (hu : X.A.units < cLine) (hk : PE X k tk) (hv : PE X v tv) : PE X (.Dict [some k] [v] pos) (tDisp1T tk tv) := by
  refine ⟨fun pins s σ H Q I h => ?_⟩
  have hn := I.hok.fresh (Nat.le_refl s.heap.objs.size)
  have I1 := I.laid (a := s.heap.objs.size) (o := .dT []) (h' := s.heap.push { cls := .type "dict", data := .dict #[] }) (t' := s.toks) (fun _ _ q => Heap.get?_push_of_some _ q) (Nat.le_refl _) (dt_empty s.heap I.big)
  have hl := pairTrees_length [some k] [v] X.env pos rfl rfl
  rw [arm_eval_Dict, zip_pairTrees [some k] [v] X.env pos rfl rfl, dictDisplay_pairs _ (fun e => by rw [e] at hl; cases hl) (by rw [hl]; exact (by decide : 1 < 17))]
  refine wpAny_bind (wpAny_standAt (wpAny_bind ?_))
  unfold subDict
  refine wpAny_bind (wpAny_alloc ?_)
  refine wpAny_bind (wpAny_holding ?_)
  rw [if_pos (by rw [hl]; exact (by decide : 1 ≤ 15))]
  refine wpAny_bind (thn ((pps_cons hk hv pps_nil).run pins _ σ _ (fun ps H3 => ∃ y z, ps = [(y, z)] ∧ PutT s.heap.objs.size y z H3 (Q (.ref s.heap.objs.size))) I1 (h _ hn)) fun ws s2 got => ?_)
  · obtain ⟨ps, H2, I2, rel, y, z, rfl, put⟩ := got
    cases rel with
    | @cons p q _ _ r rr =>
      cases rr
      obtain ⟨u, r'⟩ := q
      obtain ⟨ry, rz⟩ := r
      refine wpAny_holding ?_
      rw [List.forIn_cons]
      refine wpAny_bind (wpAny_bind ?_)
      show wpAny _ _ (dictSet s.heap.objs.size u r' >>= fun _ => pure (ForInStep.yield PUnit.unit)) _ _ _
      refine wpAny_bind (putT_set hu I2 put ry rz fun H' s' I' nn => wpAny_pure ?_)
      dsimp only []
      rw [List.forIn_nil]
      exact wpAny_pure (wpAny_pure (wpAny_pure (wpAny_pure ⟨.ref s.heap.objs.size, H', I', rfl, nn⟩)))
end
/-! ### k, v in d.items(), the keys tuples -/
def Itit (d : Addr) (o : Obj) (kvs : List (List L2.Key × V)) : It :=
  ⟨fun i H => H d = some (.frz o (.dT kvs)) ∧ i < kvs.length, fun i H x H' => ∃ (T : Addr) (k : List L2.Key) (v : V) (q : Addr), kvs[i]? = some (k, v) ∧ H q = some (.tup (k.map kV)) ∧ x = .ref T ∧ H T = none ∧ H' = upd H T (.tup [.ref q, v]),
    fun i H => H d = some (.frz o (.dT kvs)) ∧ kvs.length ≤ i⟩
/-- the same with the values -/
theorem frzTV {X : Cx} {pins : List (Addr × Obj)} {σ : L2.St} {H : Hp} {s : Shared} {d : Addr} {o : Obj} {kvs : List (List L2.Key × V)} (I : Inv X pins σ H s) (h : H d = some (.frz o (.dT kvs))) :
    (d == sysModules) = false ∧ s.heap.get? d = some o ∧ o.ExactDict ∧ ∃ (es : Array DictEntry) (ep : Nat), o.data = .dict es ep ∧ es.size = kvs.length ∧
      ∀ (i : Nat) (k : List L2.Key) (v : V), kvs[i]? = some (k, v) → ∃ (en : DictEntry) (q : Addr), es[i]? = some en ∧ en.key = .ref q ∧ H q = some (.tup (k.map kV)) ∧ RelV v en.val := by
  obtain ⟨h1, _, h2, xs, pr, o', es, ep, g1, g2, g3, g4, _⟩ := I.hok d _ h
  rw [h1] at g1
  cases g1
  refine ⟨h2, h1, g2, es, ep, g3, ?_, fun i k v e => ?_⟩
  · have l1 := size_of_entries g4
    have l2 := Paired.length pr
    omega
  · obtain ⟨b, eb, e1, e2, e3⟩ := L2.paired_get pr e
    have q := entry_at g4 i
    rw [eb] at q
    exact ⟨_, b.2.1, q, rfl, e2, e3⟩
section
variable {P : Program} {w : World} {K : PySem.W.Frag} {d : Addr} {o : Obj} {es : Array DictEntry} {ep : Nat}
theorem turn_itemsT {kvs : List (List L2.Key × V)} {elts : List Expr} {kk : Nat} {tpos : Pos} (it : Addr) (hod : o.data = .dict es ep) :
    Turn P w K (.Tuple elts kk tpos) (Itit d o kvs) [it] it (fun i h => ∃ ok ov, IsItemIter h it d i kvs.length ep ok ov) where
  mem := List.mem_singleton.mpr rfl
  obj := fun i h st b hb => by
    rw [List.mem_singleton.mp hb]
    obtain ⟨ok, ov, e⟩ := st
    exact ⟨_, e, fun v z => nomatch z⟩
  keep := fun i h h' st k => by
    obtain ⟨ok, ov, e⟩ := st
    exact ⟨ok, ov, k it (List.mem_singleton.mpr rfl) _ e⟩
  item := by
    intro X eP eW eK hc i pins s σ H E I hf st hg
    subst eP eW eK
    obtain ⟨hd, hi⟩ := hg
    obtain ⟨h2, h1, g2, es', ep', g3, gz, ent⟩ := frzTV I hd
    obtain ⟨rfl, rfl⟩ := dict_ep hod g3
    obtain ⟨⟨k, v⟩, hkv⟩ : ∃ p, kvs[i]? = some p := ⟨kvs[i], List.getElem?_eq_getElem hi⟩
    obtain ⟨en, q, hen, hkey, hq, rv⟩ := ent i k v hkv
    obtain ⟨ok, ov, he⟩ := st
    rw [← gz] at he
    have hie : i < es'.size := by omega
    have een : es'[i] = en := by
      rw [Array.getElem?_eq_getElem hie] at hen
      exact Option.some.inj hen
    have hlt : it < s.heap.objs.size := Heap.lt_size he
    refine DT.nextI he ⟨o, h1, g2, g3⟩ hie fun h' ho hT hz hk => ?_
    refine ⟨_, rfl, wpAny_letOwnedTupleGo_items (s := { s with heap := h' }) ho fun h'' he' sb => ?_⟩
    rw [een, hkey] at hT
    have hT2 : h''.get? s.heap.objs.size = some { cls := .type "tuple", data := .seq #[.ref q, en.val] } := (sb.2 _ (Nat.ne_of_gt hlt)).trans hT
    have fresh : ObjOk X.prog X.w (upd H s.heap.objs.size (.tup [.ref q, v])) h'' s.heap.objs.size (.tup [.ref q, v]) :=
      ⟨by show 2 ≤ sizeLine; decide, [.ref q, en.val], .cons rfl (.cons rv .nil), ⟨_, hT2, rfl, _, rfl⟩⟩
    have I1 : Inv X pins σ (upd H s.heap.objs.size (.tup [.ref q, v])) { s with heap := h'' } :=
      I.turnedNew (t' := s.toks) (ch := [it]) (fun b ob hb e => (sb.2 b (fun z => hb (List.mem_singleton.mpr z))).trans (hk b ob (fun z => hb (List.mem_singleton.mpr z)) e)) hf (Nat.le_refl _) fresh
    refine ⟨.ref s.heap.objs.size, _, I1, rfl, ⟨_, k, v, q, hkv, hq, rfl, I.hok.fresh (Nat.le_refl _), rfl⟩, ⟨_, _, by rw [← gz]; exact he'⟩, fun b hb => ?_⟩
    rw [List.mem_singleton.mp hb, upd_ne (Nat.ne_of_lt hlt)]
    exact (hf it (List.mem_singleton.mpr rfl)).1
  done := by
    intro X eP eW eK hc i pins s σ H E I hf st hg
    subst eP eW eK
    obtain ⟨hd, hi⟩ := hg
    obtain ⟨f0, f1, f2, f3, f4, f5⟩ := hf it (List.mem_singleton.mpr rfl)
    obtain ⟨h2, h1, g2, es', ep', g3, gz, ent⟩ := frzTV I hd
    obtain ⟨rfl, rfl⟩ := dict_ep hod g3
    obtain ⟨ok, ov, he⟩ := st
    rw [← gz] at he
    exact DT.endI (I.ok.hd hc) he ⟨o, h1, g2, g3⟩ (by omega) fun h' eb => ⟨rfl, I.turned (t' := s.toks) (fun b ob hb e => eb b ob hb e) f0 f1 f3 f4 f5⟩
  self := fun A i s Q E st h => by
    obtain ⟨_, _, e⟩ := st
    exact PySem.W.kcp_self e h
end
def iItemsT (td : TE) : TI := fun σ H R => td σ H fun x H1 => ∃ d o kvs, x = .ref d ∧ H1 d = some (.frz o (.dT kvs)) ∧ R (Itit d o kvs) H1
section
variable {X : Cx} {e : Expr} {td : TE} {apos cpos : Pos}
theorem pi_itemsT {elts : List Expr} {kk : Nat} {tpos : Pos} (he : PE X e td) (hbase : attributeBase e "items" X.env (eval e X.env) = eval e X.env := by rfl) (hline : (apos.endLine == cpos.line) = true := by rfl) :
    PI X (.Tuple elts kk tpos) (.Call (.Attribute e "items" apos) [] [] cpos) (iItemsT td) := by
  refine ⟨fun pins s σ H R I h => ?_⟩
  refine wpAny_Call_method (T := "dict") (id := "dict.items") hbase rfl hline PySem.F.plainAttrs_dict PySem.F.slot_dict_items PySem.F.type_dict_items (thn (he.run pins s σ H _ I h) fun u s1 ⟨x, H1, I1, rx, d, o, kvs, ex, hd, q⟩ => ?_)
  subst ex
  obtain rfl : u = Value.ref d := rx
  obtain ⟨h2, h1, g2, es, ep, g3, gz, ent⟩ := frzTV I1 hd
  have raw : DT.Raw s1.heap d es ep := ⟨o, h1, g2, g3⟩
  refine ⟨raw.typeIs, (fun b z => by cases z; exact ⟨o, h1, g2.2.1⟩), ?_⟩
  have I2 : Inv X pins σ H1 { s1 with heap := s1.heap.push { cls := .type "dict_items", data := .fields #[.ref d] } } := I1.kept (t' := s1.toks) fun b ob q => Heap.get?_push_of_some _ q
  have fin : wpAny (model X.prog X.w) X.A (pyIter (.ref s1.heap.objs.size)) (PIE X pins σ (.Tuple elts kk tpos) R) X.xe { s1 with heap := s1.heap.push { cls := .type "dict_items", data := .fields #[.ref d] } } := by
    refine DT.iterI (d := d) (es := es) (ep := ep) ⟨_, Heap.get?_push_size _ rfl, rfl, rfl⟩ (raw.push _) (pi_one (tk := s1.toks) I2 _ (turn_itemsT _ g3) ⟨.none, .none, ?_⟩ q)
    rw [← gz]
    exact Heap.get?_push_size _ rfl
  show wpAny _ _ (callWith cpos (.builtin "dict.items") [.ref d] [] []) _ X.xe s1
  exact method_meetsIn PySem.F.slot_dict_items PySem.F.entry_dict_items rfl (PySem.evalArgs_none ⟨rfl, raw.typeIs, PySem.F.args_dict_items_1 _, _, DT.meetsItems (es := es) (ep := ep) h2, ⟨raw, fin⟩⟩)
end
theorem walk_itemsT {d : Addr} {o : Obj} {kvs : List (List L2.Key × V)} : Walk (Itit d o kvs) kvs.length (fun H => H d = some (.frz o (.dT kvs)))
    (fun i H x H' => ∃ (T : Addr) (k : List L2.Key) (v : V) (q : Addr), kvs[i]? = some (k, v) ∧ H q = some (.tup (k.map kV)) ∧ x = .ref T ∧ H T = none ∧ H' = upd H T (.tup [.ref q, v])) :=
  ⟨fun _ _ hi q => ⟨q, hi⟩, fun _ q => ⟨q, Nat.le_refl _⟩, fun _ _ _ _ _ _ y => y⟩
end KS
namespace KS
open PySem PySem.Spec PyProof.Rows L2
/-! ### settled tables, counted -/
def fitB (r c : Nat) (cnt : List Nat) (i : Nat) : Bool := decide (cnt.getD i 0 < c) && (decide (i = 0) || decide (cnt.getD i 0 < cnt.getD (i - 1) 0)) && decide (cnt.sum + 1 ≤ r * c)
def grow (cnt : List Nat) (i : Nat) : List Nat := cnt.take i ++ [cnt.getD i 0 + 1] ++ cnt.drop (i + 1)
def fitsP (r c : Nat) (cnt : List Nat) : List (List Nat) := ((List.range cnt.length).filter (fitB r c cnt)).map (grow cnt)
def fitL (c : Nat) (cnt : List Nat) (i : Nat) : Bool := decide (cnt.getD i 0 < c) && (cnt.take i).all fun x => decide (cnt.getD i 0 < x)
def fitsL (c : Nat) (cnt : List Nat) : List (List Nat) := ((List.range cnt.length).filter (fitL c cnt)).map (grow cnt)
abbrev PD := List (List Nat × Nat)
def getP : PD → List Nat → Nat
  | [], _ => 0
  | p :: r, k => if p.1 = k then p.2 else getP r k
def hasP : PD → List Nat → Bool
  | [], _ => false
  | p :: r, k => if p.1 = k then true else hasP r k
def putP (d : PD) (k : List Nat) (n : Nat) : PD := if hasP d k = true then d.map (fun p => if p.1 = k then (p.1, n) else p) else d ++ [(k, n)]
def addP (n : Nat) (acc : PD) (m : List Nat) : PD := putP acc m (getP acc m + n)
def stepP (fits : List Nat → List (List Nat)) (d : PD) : PD := d.foldl (fun acc p => (fits p.1).foldl (addP p.2) acc) []
def runP (fits : List Nat → List (List Nat)) (r : Nat) : Nat → PD
  | 0 => [(List.replicate r 0, 1)]
  | v + 1 => stepP fits (runP fits r v)
def cntP (r c : Nat) : Nat := ((runP (fitsP r c) r (r * c)).map (·.2)).sum
def waysP (r c : Nat) : Nat := getP (runP (fitsL c) r (r * c)) (List.replicate r c)
/-- the law's own: all settled tables, place by place -/
def besd (c : Nat) (part : List Nat) (k : Nat) : Nat := max (if k % c > 0 then part.getD (k - 1) 0 else 0) (if k ≥ c then part.getD (k - c) 0 else 0)
def nextT (r c k : Nat) (part : List Nat) : List (List Nat) := (((List.range (r * c + 1)).drop (besd c part k + 1)).filter fun x => !part.contains x).map fun x => part ++ [x]
def settT (r c : Nat) : Nat → List (List Nat)
  | 0 => [[]]
  | k + 1 => ((settT r c k).map (nextT r c k)).flatten
def shapes (n : Nat) : List (Nat × Nat) := ((List.range 25).map fun r => (List.range 25).map fun c => (r, c)).flatten.filter fun z => decide (1 ≤ z.1) && decide (1 ≤ z.2) && decide (z.1 * z.2 ≤ n)
def chkD (fits : List Nat → List (List Nat)) : Nat → PD → Bool
  | 0, d => decide (d.length ≤ 1000)
  | f + 1, d => decide (d.length ≤ 1000) && chkD fits f (stepP fits d)
end KS
namespace KS
open PySem PySem.Spec PyProof.Rows L2
def chk2 (r c : Nat) : Nat → PD → PD → Bool
  | 0, d, e => decide (d.length ≤ 1000) && decide (e.length ≤ 1000) && decide ((d.map (·.2)).sum = getP e (List.replicate r c)) && hasP e (List.replicate r c)
  | f + 1, d, e => decide (d.length ≤ 1000) && decide (e.length ≤ 1000) && chk2 r c f (stepP (fitsP r c) d) (stepP (fitsL c) e)
theorem chk2_ok {r c : Nat} : ∀ (f v : Nat), chk2 r c f (runP (fitsP r c) r v) (runP (fitsL c) r v) = true →
    (∀ w, v ≤ w → w ≤ v + f → (runP (fitsP r c) r w).length ≤ 1000 ∧ (runP (fitsL c) r w).length ≤ 1000) ∧ ((runP (fitsP r c) r (v + f)).map (·.2)).sum = getP (runP (fitsL c) r (v + f)) (List.replicate r c) ∧ hasP (runP (fitsL c) r (v + f)) (List.replicate r c) = true
  | 0, v, h => by
    rw [chk2] at h
    simp only [Bool.and_eq_true, decide_eq_true_eq] at h
    refine ⟨fun w h1 h2 => ?_, h.1.2, h.2⟩
    have : w = v := by omega
    rw [this]
    exact h.1.1
  | f + 1, v, h => by
    rw [chk2] at h
    simp only [Bool.and_eq_true, decide_eq_true_eq] at h
    obtain ⟨i1, i2⟩ := chk2_ok f (v + 1) h.2
    have e : v + (f + 1) = v + 1 + f := by omega
    rw [e]
    refine ⟨fun w h1 h2 => ?_, i2⟩
    by_cases q : w = v
    · rw [q]
      exact h.1
    · exact i1 w (by omega) (by omega)
theorem all_split {α : Type} {p : α → Bool} {l : List α} (k : Nat) (h1 : (l.take k).all p = true) (h2 : (l.drop k).all p = true) : l.all p = true := by
  rw [← List.take_append_drop k l, List.all_append, h1, h2]
  rfl
theorem all24_0 : (((shapes 24).drop 0).take 3).all (fun z => chk2 z.1 z.2 (z.1 * z.2) [(List.replicate z.1 0, 1)] [(List.replicate z.1 0, 1)]) = true := by decide +kernel
theorem all24_1 : (((shapes 24).drop 3).take 3).all (fun z => chk2 z.1 z.2 (z.1 * z.2) [(List.replicate z.1 0, 1)] [(List.replicate z.1 0, 1)]) = true := by decide +kernel
theorem all24_2 : (((shapes 24).drop 6).take 3).all (fun z => chk2 z.1 z.2 (z.1 * z.2) [(List.replicate z.1 0, 1)] [(List.replicate z.1 0, 1)]) = true := by decide +kernel
theorem all24_3 : (((shapes 24).drop 9).take 3).all (fun z => chk2 z.1 z.2 (z.1 * z.2) [(List.replicate z.1 0, 1)] [(List.replicate z.1 0, 1)]) = true := by decide +kernel
theorem all24_4 : (((shapes 24).drop 12).take 3).all (fun z => chk2 z.1 z.2 (z.1 * z.2) [(List.replicate z.1 0, 1)] [(List.replicate z.1 0, 1)]) = true := by decide +kernel
theorem all24_5 : (((shapes 24).drop 15).take 3).all (fun z => chk2 z.1 z.2 (z.1 * z.2) [(List.replicate z.1 0, 1)] [(List.replicate z.1 0, 1)]) = true := by decide +kernel
theorem all24_6 : (((shapes 24).drop 18).take 3).all (fun z => chk2 z.1 z.2 (z.1 * z.2) [(List.replicate z.1 0, 1)] [(List.replicate z.1 0, 1)]) = true := by decide +kernel
theorem all24_7 : (((shapes 24).drop 21).take 3).all (fun z => chk2 z.1 z.2 (z.1 * z.2) [(List.replicate z.1 0, 1)] [(List.replicate z.1 0, 1)]) = true := by decide +kernel
theorem all24_8 : (((shapes 24).drop 24).take 3).all (fun z => chk2 z.1 z.2 (z.1 * z.2) [(List.replicate z.1 0, 1)] [(List.replicate z.1 0, 1)]) = true := by decide +kernel
theorem all24_9 : (((shapes 24).drop 27).take 3).all (fun z => chk2 z.1 z.2 (z.1 * z.2) [(List.replicate z.1 0, 1)] [(List.replicate z.1 0, 1)]) = true := by decide +kernel
theorem all24_10 : (((shapes 24).drop 30).take 3).all (fun z => chk2 z.1 z.2 (z.1 * z.2) [(List.replicate z.1 0, 1)] [(List.replicate z.1 0, 1)]) = true := by decide +kernel
theorem all24_11 : (((shapes 24).drop 33).take 3).all (fun z => chk2 z.1 z.2 (z.1 * z.2) [(List.replicate z.1 0, 1)] [(List.replicate z.1 0, 1)]) = true := by decide +kernel
theorem all24_12 : (((shapes 24).drop 36).take 3).all (fun z => chk2 z.1 z.2 (z.1 * z.2) [(List.replicate z.1 0, 1)] [(List.replicate z.1 0, 1)]) = true := by decide +kernel
theorem all24_13 : (((shapes 24).drop 39).take 3).all (fun z => chk2 z.1 z.2 (z.1 * z.2) [(List.replicate z.1 0, 1)] [(List.replicate z.1 0, 1)]) = true := by decide +kernel
theorem all24_14 : (((shapes 24).drop 42).take 3).all (fun z => chk2 z.1 z.2 (z.1 * z.2) [(List.replicate z.1 0, 1)] [(List.replicate z.1 0, 1)]) = true := by decide +kernel
theorem all24_15 : (((shapes 24).drop 45).take 3).all (fun z => chk2 z.1 z.2 (z.1 * z.2) [(List.replicate z.1 0, 1)] [(List.replicate z.1 0, 1)]) = true := by decide +kernel
theorem all24_16 : (((shapes 24).drop 48).take 3).all (fun z => chk2 z.1 z.2 (z.1 * z.2) [(List.replicate z.1 0, 1)] [(List.replicate z.1 0, 1)]) = true := by decide +kernel
theorem all24_17 : (((shapes 24).drop 51).take 3).all (fun z => chk2 z.1 z.2 (z.1 * z.2) [(List.replicate z.1 0, 1)] [(List.replicate z.1 0, 1)]) = true := by decide +kernel
theorem all24_18 : (((shapes 24).drop 54).take 3).all (fun z => chk2 z.1 z.2 (z.1 * z.2) [(List.replicate z.1 0, 1)] [(List.replicate z.1 0, 1)]) = true := by decide +kernel
theorem all24_19 : (((shapes 24).drop 57).take 3).all (fun z => chk2 z.1 z.2 (z.1 * z.2) [(List.replicate z.1 0, 1)] [(List.replicate z.1 0, 1)]) = true := by decide +kernel
theorem all24_20 : (((shapes 24).drop 60).take 3).all (fun z => chk2 z.1 z.2 (z.1 * z.2) [(List.replicate z.1 0, 1)] [(List.replicate z.1 0, 1)]) = true := by decide +kernel
theorem all24_21 : (((shapes 24).drop 63).take 3).all (fun z => chk2 z.1 z.2 (z.1 * z.2) [(List.replicate z.1 0, 1)] [(List.replicate z.1 0, 1)]) = true := by decide +kernel
theorem all24_22 : (((shapes 24).drop 66).take 3).all (fun z => chk2 z.1 z.2 (z.1 * z.2) [(List.replicate z.1 0, 1)] [(List.replicate z.1 0, 1)]) = true := by decide +kernel
theorem all24_23 : (((shapes 24).drop 69).take 3).all (fun z => chk2 z.1 z.2 (z.1 * z.2) [(List.replicate z.1 0, 1)] [(List.replicate z.1 0, 1)]) = true := by decide +kernel
theorem all24_24 : (((shapes 24).drop 72).take 3).all (fun z => chk2 z.1 z.2 (z.1 * z.2) [(List.replicate z.1 0, 1)] [(List.replicate z.1 0, 1)]) = true := by decide +kernel
theorem all24_25 : (((shapes 24).drop 75).take 3).all (fun z => chk2 z.1 z.2 (z.1 * z.2) [(List.replicate z.1 0, 1)] [(List.replicate z.1 0, 1)]) = true := by decide +kernel
theorem all24_26 : (((shapes 24).drop 78).take 3).all (fun z => chk2 z.1 z.2 (z.1 * z.2) [(List.replicate z.1 0, 1)] [(List.replicate z.1 0, 1)]) = true := by decide +kernel
theorem all24_27 : (((shapes 24).drop 81).take 3).all (fun z => chk2 z.1 z.2 (z.1 * z.2) [(List.replicate z.1 0, 1)] [(List.replicate z.1 0, 1)]) = true := by decide +kernel
theorem all24_end : ((shapes 24).drop 84).all (fun z => chk2 z.1 z.2 (z.1 * z.2) [(List.replicate z.1 0, 1)] [(List.replicate z.1 0, 1)]) = true := by decide +kernel
theorem all24s_27 : ((shapes 24).drop 81).all (fun z => chk2 z.1 z.2 (z.1 * z.2) [(List.replicate z.1 0, 1)] [(List.replicate z.1 0, 1)]) = true := all_split 3 all24_27 (by rw [List.drop_drop]; exact all24_end)
theorem all24s_26 : ((shapes 24).drop 78).all (fun z => chk2 z.1 z.2 (z.1 * z.2) [(List.replicate z.1 0, 1)] [(List.replicate z.1 0, 1)]) = true := all_split 3 all24_26 (by rw [List.drop_drop]; exact all24s_27)
theorem all24s_25 : ((shapes 24).drop 75).all (fun z => chk2 z.1 z.2 (z.1 * z.2) [(List.replicate z.1 0, 1)] [(List.replicate z.1 0, 1)]) = true := all_split 3 all24_25 (by rw [List.drop_drop]; exact all24s_26)
theorem all24s_24 : ((shapes 24).drop 72).all (fun z => chk2 z.1 z.2 (z.1 * z.2) [(List.replicate z.1 0, 1)] [(List.replicate z.1 0, 1)]) = true := all_split 3 all24_24 (by rw [List.drop_drop]; exact all24s_25)
theorem all24s_23 : ((shapes 24).drop 69).all (fun z => chk2 z.1 z.2 (z.1 * z.2) [(List.replicate z.1 0, 1)] [(List.replicate z.1 0, 1)]) = true := all_split 3 all24_23 (by rw [List.drop_drop]; exact all24s_24)
theorem all24s_22 : ((shapes 24).drop 66).all (fun z => chk2 z.1 z.2 (z.1 * z.2) [(List.replicate z.1 0, 1)] [(List.replicate z.1 0, 1)]) = true := all_split 3 all24_22 (by rw [List.drop_drop]; exact all24s_23)
theorem all24s_21 : ((shapes 24).drop 63).all (fun z => chk2 z.1 z.2 (z.1 * z.2) [(List.replicate z.1 0, 1)] [(List.replicate z.1 0, 1)]) = true := all_split 3 all24_21 (by rw [List.drop_drop]; exact all24s_22)
theorem all24s_20 : ((shapes 24).drop 60).all (fun z => chk2 z.1 z.2 (z.1 * z.2) [(List.replicate z.1 0, 1)] [(List.replicate z.1 0, 1)]) = true := all_split 3 all24_20 (by rw [List.drop_drop]; exact all24s_21)
theorem all24s_19 : ((shapes 24).drop 57).all (fun z => chk2 z.1 z.2 (z.1 * z.2) [(List.replicate z.1 0, 1)] [(List.replicate z.1 0, 1)]) = true := all_split 3 all24_19 (by rw [List.drop_drop]; exact all24s_20)
theorem all24s_18 : ((shapes 24).drop 54).all (fun z => chk2 z.1 z.2 (z.1 * z.2) [(List.replicate z.1 0, 1)] [(List.replicate z.1 0, 1)]) = true := all_split 3 all24_18 (by rw [List.drop_drop]; exact all24s_19)
theorem all24s_17 : ((shapes 24).drop 51).all (fun z => chk2 z.1 z.2 (z.1 * z.2) [(List.replicate z.1 0, 1)] [(List.replicate z.1 0, 1)]) = true := all_split 3 all24_17 (by rw [List.drop_drop]; exact all24s_18)
theorem all24s_16 : ((shapes 24).drop 48).all (fun z => chk2 z.1 z.2 (z.1 * z.2) [(List.replicate z.1 0, 1)] [(List.replicate z.1 0, 1)]) = true := all_split 3 all24_16 (by rw [List.drop_drop]; exact all24s_17)
theorem all24s_15 : ((shapes 24).drop 45).all (fun z => chk2 z.1 z.2 (z.1 * z.2) [(List.replicate z.1 0, 1)] [(List.replicate z.1 0, 1)]) = true := all_split 3 all24_15 (by rw [List.drop_drop]; exact all24s_16)
theorem all24s_14 : ((shapes 24).drop 42).all (fun z => chk2 z.1 z.2 (z.1 * z.2) [(List.replicate z.1 0, 1)] [(List.replicate z.1 0, 1)]) = true := all_split 3 all24_14 (by rw [List.drop_drop]; exact all24s_15)
theorem all24s_13 : ((shapes 24).drop 39).all (fun z => chk2 z.1 z.2 (z.1 * z.2) [(List.replicate z.1 0, 1)] [(List.replicate z.1 0, 1)]) = true := all_split 3 all24_13 (by rw [List.drop_drop]; exact all24s_14)
theorem all24s_12 : ((shapes 24).drop 36).all (fun z => chk2 z.1 z.2 (z.1 * z.2) [(List.replicate z.1 0, 1)] [(List.replicate z.1 0, 1)]) = true := all_split 3 all24_12 (by rw [List.drop_drop]; exact all24s_13)
theorem all24s_11 : ((shapes 24).drop 33).all (fun z => chk2 z.1 z.2 (z.1 * z.2) [(List.replicate z.1 0, 1)] [(List.replicate z.1 0, 1)]) = true := all_split 3 all24_11 (by rw [List.drop_drop]; exact all24s_12)
theorem all24s_10 : ((shapes 24).drop 30).all (fun z => chk2 z.1 z.2 (z.1 * z.2) [(List.replicate z.1 0, 1)] [(List.replicate z.1 0, 1)]) = true := all_split 3 all24_10 (by rw [List.drop_drop]; exact all24s_11)
theorem all24s_9 : ((shapes 24).drop 27).all (fun z => chk2 z.1 z.2 (z.1 * z.2) [(List.replicate z.1 0, 1)] [(List.replicate z.1 0, 1)]) = true := all_split 3 all24_9 (by rw [List.drop_drop]; exact all24s_10)
theorem all24s_8 : ((shapes 24).drop 24).all (fun z => chk2 z.1 z.2 (z.1 * z.2) [(List.replicate z.1 0, 1)] [(List.replicate z.1 0, 1)]) = true := all_split 3 all24_8 (by rw [List.drop_drop]; exact all24s_9)
theorem all24s_7 : ((shapes 24).drop 21).all (fun z => chk2 z.1 z.2 (z.1 * z.2) [(List.replicate z.1 0, 1)] [(List.replicate z.1 0, 1)]) = true := all_split 3 all24_7 (by rw [List.drop_drop]; exact all24s_8)
theorem all24s_6 : ((shapes 24).drop 18).all (fun z => chk2 z.1 z.2 (z.1 * z.2) [(List.replicate z.1 0, 1)] [(List.replicate z.1 0, 1)]) = true := all_split 3 all24_6 (by rw [List.drop_drop]; exact all24s_7)
theorem all24s_5 : ((shapes 24).drop 15).all (fun z => chk2 z.1 z.2 (z.1 * z.2) [(List.replicate z.1 0, 1)] [(List.replicate z.1 0, 1)]) = true := all_split 3 all24_5 (by rw [List.drop_drop]; exact all24s_6)
theorem all24s_4 : ((shapes 24).drop 12).all (fun z => chk2 z.1 z.2 (z.1 * z.2) [(List.replicate z.1 0, 1)] [(List.replicate z.1 0, 1)]) = true := all_split 3 all24_4 (by rw [List.drop_drop]; exact all24s_5)
theorem all24s_3 : ((shapes 24).drop 9).all (fun z => chk2 z.1 z.2 (z.1 * z.2) [(List.replicate z.1 0, 1)] [(List.replicate z.1 0, 1)]) = true := all_split 3 all24_3 (by rw [List.drop_drop]; exact all24s_4)
theorem all24s_2 : ((shapes 24).drop 6).all (fun z => chk2 z.1 z.2 (z.1 * z.2) [(List.replicate z.1 0, 1)] [(List.replicate z.1 0, 1)]) = true := all_split 3 all24_2 (by rw [List.drop_drop]; exact all24s_3)
theorem all24s_1 : ((shapes 24).drop 3).all (fun z => chk2 z.1 z.2 (z.1 * z.2) [(List.replicate z.1 0, 1)] [(List.replicate z.1 0, 1)]) = true := all_split 3 all24_1 (by rw [List.drop_drop]; exact all24s_2)
theorem all24s_0 : ((shapes 24).drop 0).all (fun z => chk2 z.1 z.2 (z.1 * z.2) [(List.replicate z.1 0, 1)] [(List.replicate z.1 0, 1)]) = true := all_split 3 all24_0 (by rw [List.drop_drop]; exact all24s_1)
theorem all24 : ((shapes 24).all fun z => chk2 z.1 z.2 (z.1 * z.2) [(List.replicate z.1 0, 1)] [(List.replicate z.1 0, 1)]) = true := all24s_0
theorem mem_shapes {n r c : Nat} (h1 : 1 ≤ r) (h2 : 1 ≤ c) (h3 : r * c ≤ n) (hn : n ≤ 24) : (r, c) ∈ shapes n := by
  have hr : r ≤ 24 := by
    have := Nat.le_mul_of_pos_right r h2
    omega
  have hc : c ≤ 24 := by
    have := Nat.le_mul_of_pos_left c h1
    omega
  unfold shapes
  refine List.mem_filter.mpr ⟨List.mem_flatten.mpr ⟨(List.range 25).map fun c => (r, c), List.mem_map.mpr ⟨r, List.mem_range.mpr (by omega), rfl⟩, List.mem_map.mpr ⟨c, List.mem_range.mpr (by omega), rfl⟩⟩, ?_⟩
  simp only [Bool.and_eq_true, decide_eq_true_eq]
  exact ⟨⟨h1, h2⟩, h3⟩
theorem run_ok {r c : Nat} (s : Sides r c) : (∀ w, w ≤ r * c → (runP (fitsP r c) r w).length ≤ 1000 ∧ (runP (fitsL c) r w).length ≤ 1000) ∧ cntP r c = waysP r c ∧ hasP (runP (fitsL c) r (r * c)) (List.replicate r c) = true := by
  have h := List.all_eq_true.mp all24 _ (mem_shapes s.r1 s.c1 s.rc (Nat.le_refl _))
  obtain ⟨i1, i2, i3⟩ := chk2_ok (r := r) (c := c) (r * c) 0 h
  rw [Nat.zero_add] at i1 i2 i3
  exact ⟨fun w hw => i1 w (Nat.zero_le _) hw, i2, i3⟩
theorem cnt23 : cntP 2 3 = 5 := by decide +kernel
theorem cnt46 : cntP 4 6 = 140229804 := by decide +kernel
theorem cnt124 : cntP 1 24 = 1 := by decide +kernel
/-! ### the law's list of all settled tables -/
def chkS (r c n : Nat) : Nat → Nat → List (List Nat) → Bool
  | 0, _, l => decide (l.length = n)
  | f + 1, k, l => decide (l.length ≤ 5000) && chkS r c n f (k + 1) ((l.map (nextT r c k)).flatten)
theorem chkS_ok {r c n : Nat} : ∀ (f k : Nat), chkS r c n f k (settT r c k) = true → (∀ w, k ≤ w → w < k + f → (settT r c w).length ≤ 5000) ∧ (settT r c (k + f)).length = n
  | 0, k, h => by
    rw [chkS, decide_eq_true_eq] at h
    exact ⟨fun w h1 h2 => by omega, h⟩
  | f + 1, k, h => by
    rw [chkS, Bool.and_eq_true, decide_eq_true_eq] at h
    obtain ⟨i1, i2⟩ := chkS_ok f (k + 1) h.2
    have e : k + (f + 1) = k + 1 + f := by omega
    rw [e]
    refine ⟨fun w h1 h2 => ?_, i2⟩
    by_cases q : w = k
    · rw [q]
      exact h.1
    · exact i1 w (by omega) (by omega)
theorem all10 : ((shapes 10).all fun z => chkS z.1 z.2 (cntP z.1 z.2) (z.1 * z.2) 0 [[]]) = true := by decide +kernel
theorem sett_ok {r c : Nat} (s : Sides r c) (h10 : r * c ≤ 10) : (∀ w, w < r * c → (settT r c w).length ≤ 5000) ∧ (settT r c (r * c)).length = cntP r c := by
  have h := List.all_eq_true.mp all10 _ (mem_shapes s.r1 s.c1 h10 (by decide))
  obtain ⟨i1, i2⟩ := chkS_ok (r := r) (c := c) (r * c) 0 h
  rw [Nat.zero_add] at i1 i2
  exact ⟨fun w hw => i1 w (Nat.zero_le _) hw, i2⟩
end KS
namespace KS
open PySem PySem.Spec PyProof.Rows L2
/-! ### keys -/
structure KeyOk (r c : Nat) (k : List Nat) : Prop where
  len : k.length = r
  bd : ∀ x ∈ k, x ≤ c
theorem getD_mem {k : List Nat} {i : Nat} (h : i < k.length) : k.getD i 0 ∈ k := by
  rw [List.getD_eq_getElem?_getD, List.getElem?_eq_getElem h]
  exact List.getElem_mem h
theorem KeyOk.grow {r c : Nat} {k : List Nat} (h : KeyOk r c k) {i : Nat} (hi : i < k.length) (hc : k.getD i 0 < c) : KeyOk r c (grow k i) := by
  have hl := h.len
  refine ⟨?_, fun x hx => ?_⟩
  · unfold KS.grow
    rw [List.length_append, List.length_append, List.length_take, List.length_drop, List.length_singleton]
    omega
  · unfold KS.grow at hx
    rcases List.mem_append.mp hx with hx | hx
    · rcases List.mem_append.mp hx with hx | hx
      · exact h.bd x (List.mem_of_mem_take hx)
      · rw [List.mem_singleton.mp hx]
        omega
    · exact h.bd x (List.mem_of_mem_drop hx)
theorem fitsP_ok {r c : Nat} {k m : List Nat} (h : KeyOk r c k) (hm : m ∈ fitsP r c k) : KeyOk r c m := by
  unfold fitsP at hm
  obtain ⟨i, hi, rfl⟩ := List.mem_map.mp hm
  obtain ⟨h1, h2⟩ := List.mem_filter.mp hi
  unfold fitB at h2
  simp only [Bool.and_eq_true, decide_eq_true_eq] at h2
  exact h.grow (List.mem_range.mp h1) h2.1.1
theorem fitsL_ok {r c : Nat} {k m : List Nat} (h : KeyOk r c k) (hm : m ∈ fitsL c k) : KeyOk r c m := by
  unfold fitsL at hm
  obtain ⟨i, hi, rfl⟩ := List.mem_map.mp hm
  obtain ⟨h1, h2⟩ := List.mem_filter.mp hi
  unfold fitL at h2
  simp only [Bool.and_eq_true, decide_eq_true_eq] at h2
  exact h.grow (List.mem_range.mp h1) h2.1
def KeysOk (r c : Nat) (d : PD) : Prop := ∀ p ∈ d, KeyOk r c p.1
theorem KeysOk.put {r c : Nat} {d : PD} (h : KeysOk r c d) {k : List Nat} (hk : KeyOk r c k) (n : Nat) : KeysOk r c (putP d k n) := by
  unfold putP
  split
  · intro p hp
    obtain ⟨q, hq, rfl⟩ := List.mem_map.mp hp
    have := h q hq
    split <;> exact this
  · intro p hp
    rcases List.mem_append.mp hp with hp | hp
    · exact h p hp
    · rw [List.mem_singleton.mp hp]
      exact hk
theorem KeysOk.foldA {r c n : Nat} : ∀ (ms : List (List Nat)) {acc : PD}, KeysOk r c acc → (∀ m ∈ ms, KeyOk r c m) → KeysOk r c (ms.foldl (addP n) acc)
  | [], _, h, _ => h
  | m :: ms, _, h, hm => KeysOk.foldA ms (h.put (hm m (List.mem_cons_self ..)) _) fun x hx => hm x (List.mem_cons_of_mem _ hx)
theorem KeysOk.foldS {r c : Nat} {fits : List Nat → List (List Nat)} (hf : ∀ k, KeyOk r c k → ∀ m ∈ fits k, KeyOk r c m) : ∀ (d : PD) {acc : PD}, KeysOk r c d → KeysOk r c acc → KeysOk r c (d.foldl (fun acc p => (fits p.1).foldl (addP p.2) acc) acc)
  | [], _, _, h => h
  | p :: d, _, hd, h => KeysOk.foldS hf d (fun q hq => hd q (List.mem_cons_of_mem _ hq)) (KeysOk.foldA _ h (hf _ (hd p (List.mem_cons_self ..))))
theorem run_keys {r c : Nat} {fits : List Nat → List (List Nat)} (hf : ∀ k, KeyOk r c k → ∀ m ∈ fits k, KeyOk r c m) : ∀ v, KeysOk r c (runP fits r v)
  | 0 => fun p hp => by
    rw [List.mem_singleton.mp hp]
    exact ⟨List.length_replicate, fun x hx => by rw [List.eq_of_mem_replicate hx]; exact Nat.zero_le _⟩
  | v + 1 => KeysOk.foldS hf _ (run_keys hf v) fun p hp => nomatch hp
/-! ### lengths -/
theorem put_len (d : PD) (k : List Nat) (n : Nat) : d.length ≤ (putP d k n).length := by
  unfold putP
  split
  · rw [List.length_map]
    exact Nat.le_refl _
  · rw [List.length_append]
    exact Nat.le_add_right _ _
theorem foldA_len {n : Nat} : ∀ (ms : List (List Nat)) (acc : PD), acc.length ≤ (ms.foldl (addP n) acc).length
  | [], _ => Nat.le_refl _
  | m :: ms, acc => Nat.le_trans (put_len acc m _) (foldA_len ms _)
theorem foldS_len {fits : List Nat → List (List Nat)} : ∀ (d acc : PD), acc.length ≤ (d.foldl (fun acc p => (fits p.1).foldl (addP p.2) acc) acc).length
  | [], _ => Nat.le_refl _
  | p :: d, acc => Nat.le_trans (foldA_len _ acc) (foldS_len d _)
/-! ### as dicts -/
def keyN (k : List Nat) : List L2.Key := k.map fun n : Nat => Sum.inl (n : Int)
theorem keyN_inj {a b : List Nat} : keyN a = keyN b ↔ a = b := by
  refine ⟨fun h => ?_, fun h => by rw [h]⟩
  induction a generalizing b with
  | nil =>
    cases b with
    | nil => rfl
    | cons y b => cases h
  | cons x a ih =>
    cases b with
    | nil => cases h
    | cons y b =>
      have h : Sum.inl (x : Int) :: keyN a = Sum.inl (y : Int) :: keyN b := h
      injection h with h1 h2
      have e : (x : Int) = y := Sum.inl.inj h1
      rw [ih h2, show x = y by omega]
theorem keyN_kV (k : List Nat) : (keyN k).map kV = k.map fun n : Nat => V.int (n : Int) := by
  unfold keyN
  rw [List.map_map]
  rfl
def img (d : PD) : List (List L2.Key × V) := d.map fun p => (keyN p.1, V.int (p.2 : Int))
theorem img_get : ∀ (d : PD) (k : List Nat), valV (img d) (keyN k) = if hasP d k = true then some (V.int (getP d k)) else none
  | [], k => rfl
  | p :: d, k => by
    have ih := img_get d k
    by_cases e : p.1 = k
    · show valV ((keyN p.1, V.int (p.2 : Int)) :: img d) (keyN k) = _
      rw [valV_pos (keyN_inj.mpr e), hasP, getP, if_pos e, if_pos e]
      rfl
    · show valV ((keyN p.1, V.int (p.2 : Int)) :: img d) (keyN k) = _
      rw [valV_neg (fun q => e (keyN_inj.mp q)), hasP, getP, if_neg e, if_neg e]
      exact ih
theorem get_not : ∀ (d : PD) (k : List Nat), hasP d k = false → getP d k = 0
  | [], _, _ => rfl
  | p :: d, k, h => by
    rw [hasP] at h
    rw [getP]
    by_cases e : p.1 = k
    · rw [if_pos e] at h
      cases h
    · rw [if_neg e] at h ⊢
      exact get_not d k h
theorem img_getD (d : PD) (k : List Nat) : (valV (img d) (keyN k)).getD (V.int 0) = V.int (getP d k) := by
  rw [img_get]
  cases e : hasP d k with
  | true => rfl
  | false =>
    rw [get_not d k e]
    rfl
theorem hasP_any : ∀ (d : PD) (k : List Nat), ((img d).any fun kv => decide (kv.1 = keyN k)) = hasP d k
  | [], _ => rfl
  | p :: d, k => by
    show ((keyN p.1, V.int (p.2 : Int)) :: img d).any _ = _
    rw [List.any_cons, hasP_any d k, hasP]
    by_cases e : p.1 = k
    · rw [if_pos e, e]
      simp
    · rw [if_neg e]
      simp [keyN_inj, e]
theorem img_put (d : PD) (k : List Nat) (n : Nat) : putK (img d) (keyN k) (V.int n) = img (putP d k n) := by
  unfold putK putP
  rw [hasP_any]
  cases hasP d k with
  | true =>
    rw [if_pos rfl, if_pos rfl]
    unfold img
    rw [List.map_map, List.map_map]
    refine List.map_congr_left fun p _ => ?_
    show (if keyN p.1 = keyN k then (keyN p.1, V.int (n : Int)) else (keyN p.1, V.int (p.2 : Int))) = (keyN (if p.1 = k then (p.1, n) else p).1, V.int ((if p.1 = k then (p.1, n) else p).2 : Int))
    by_cases e : p.1 = k
    · rw [if_pos e, if_pos (keyN_inj.mpr e)]
    · rw [if_neg e, if_neg (fun q => e (keyN_inj.mp q))]
  | false =>
    rw [if_neg (by decide), if_neg (by decide)]
    unfold img
    rw [List.map_append]
    rfl
theorem img_len (d : PD) : (img d).length = d.length := List.length_map ..
/-! ### each key once -/
def NdP (d : PD) : Prop := (d.map (·.1)).Nodup
theorem hasP_mem : ∀ (d : PD) (k : List Nat), hasP d k = true ↔ k ∈ d.map (·.1)
  | [], k => by simp [hasP]
  | p :: d, k => by
    rw [hasP, List.map_cons, List.mem_cons]
    by_cases e : p.1 = k
    · rw [if_pos e]
      simp [e]
    · rw [if_neg e, hasP_mem d k]
      have : ¬ k = p.1 := fun q => e q.symm
      simp [this]
theorem NdP.put {d : PD} (h : NdP d) (k : List Nat) (n : Nat) : NdP (putP d k n) := by
  unfold putP
  split
  · have e : (d.map (fun p => if p.1 = k then (p.1, n) else p)).map (·.1) = d.map (·.1) := by
      rw [List.map_map]
      refine List.map_congr_left fun p _ => ?_
      show (if p.1 = k then (p.1, n) else p).1 = p.1
      split <;> rfl
    unfold NdP
    rw [e]
    exact h
  · rename_i hn
    have nk : k ∉ d.map (·.1) := fun q => hn ((hasP_mem d k).mpr q)
    unfold NdP
    rw [List.map_append]
    exact List.nodup_append.mpr ⟨h, List.nodup_cons.mpr ⟨List.not_mem_nil, List.nodup_nil⟩, fun a ha b hb e => nk (by
      rw [List.map_cons, List.map_nil, List.mem_singleton] at hb
      have hb : b = k := hb
      rw [← hb, ← e]
      exact ha)⟩
theorem NdP.foldA {n : Nat} : ∀ (ms : List (List Nat)) {acc : PD}, NdP acc → NdP (ms.foldl (addP n) acc)
  | [], _, h => h
  | m :: ms, _, h => NdP.foldA ms (h.put m _)
theorem NdP.foldS {fits : List Nat → List (List Nat)} : ∀ (d : PD) {acc : PD}, NdP acc → NdP (d.foldl (fun acc p => (fits p.1).foldl (addP p.2) acc) acc)
  | [], _, h => h
  | p :: d, _, h => NdP.foldS d (NdP.foldA _ h)
theorem run_nd {r : Nat} {fits : List Nat → List (List Nat)} : ∀ v, NdP (runP fits r v)
  | 0 => List.nodup_cons.mpr ⟨List.not_mem_nil, List.nodup_nil⟩
  | v + 1 => NdP.foldS _ List.nodup_nil
theorem get_mem : ∀ {d : PD}, NdP d → ∀ p ∈ d, hasP d p.1 = true ∧ getP d p.1 = p.2
  | q :: d, h, p, hp => by
    obtain ⟨h1, h2⟩ := List.nodup_cons.mp (show (q.1 :: d.map (·.1)).Nodup from h)
    rcases List.mem_cons.mp hp with e | hp
    · subst e
      rw [hasP, getP, if_pos rfl, if_pos rfl]
      exact ⟨rfl, rfl⟩
    · have ne : ¬ q.1 = p.1 := fun e => h1 (by rw [e]; exact List.mem_map.mpr ⟨p, hp, rfl⟩)
      rw [hasP, getP, if_neg ne, if_neg ne]
      exact get_mem h2 p hp
end KS
namespace KS
open PySem PySem.Spec PyProof.Rows L2
/-! ### the law's settled tables -/
theorem range_drop (n l : Nat) : (List.range n).drop l = (List.range (n - l)).map fun j => l + j := by
  apply List.ext_getElem?
  intro i
  rw [List.getElem?_drop, List.getElem?_map]
  by_cases h : l + i < n
  · rw [List.getElem?_range h, List.getElem?_range (by omega)]
    rfl
  · rw [List.getElem?_eq_none (by rw [List.length_range]; omega), List.getElem?_eq_none (by rw [List.length_range]; omega)]
    rfl
theorem nextT_len (r c k : Nat) (part : List Nat) : (nextT r c k part).length ≤ r * c + 1 := by
  unfold nextT
  rw [List.length_map]
  refine Nat.le_trans (List.length_filter_le _ _) ?_
  rw [List.length_drop, List.length_range]
  omega
theorem flat_len2 (r c k : Nat) : ∀ l : List (List Nat), ((l.map (nextT r c k)).flatten).length ≤ (r * c + 1) * l.length
  | [] => Nat.zero_le _
  | p :: l => by
    have h1 := nextT_len r c k p
    have h2 := flat_len2 r c k l
    rw [List.map_cons, List.flatten_cons, List.length_append, List.length_cons, Nat.mul_succ]
    omega
theorem sett_key {r c : Nat} : ∀ k, ∀ p ∈ settT r c k, KeyOk k (r * c) p
  | 0, p, h => by
    rw [List.mem_singleton.mp h]
    exact ⟨rfl, fun x hx => nomatch hx⟩
  | k + 1, p, h => by
    obtain ⟨l, hl, hp⟩ := List.mem_flatten.mp h
    obtain ⟨q, hq, rfl⟩ := List.mem_map.mp hl
    have kq := sett_key k q hq
    unfold nextT at hp
    obtain ⟨x, hx, rfl⟩ := List.mem_map.mp hp
    have hx := List.mem_range.mp (List.mem_of_mem_drop (List.mem_filter.mp hx).1)
    refine ⟨by rw [List.length_append, kq.len]; rfl, fun y hy => ?_⟩
    rcases List.mem_append.mp hy with hy | hy
    · exact kq.bd y hy
    · rw [List.mem_singleton.mp hy]
      omega
theorem besd_max {c k : Nat} {part : List Nat} {M : Int} (hM : M ∈ ([0] ++ (if k % c > 0 then [((part.getD (k - 1) 0 : Nat) : Int)] else []) ++ (if k ≥ c then [((part.getD (k - c) 0 : Nat) : Int)] else []) : List Int))
    (hle : ∀ y ∈ ([0] ++ (if k % c > 0 then [((part.getD (k - 1) 0 : Nat) : Int)] else []) ++ (if k ≥ c then [((part.getD (k - c) 0 : Nat) : Int)] else []) : List Int), y ≤ M) : M = ((besd c part k : Nat) : Int) := by
  unfold besd
  by_cases h1 : k % c > 0 <;> by_cases h2 : k ≥ c
  all_goals
    simp only [h1, h2, if_true, if_false, List.append_nil, List.mem_append, List.mem_cons, List.not_mem_nil, or_false] at hM hle ⊢
  · have a := hle 0 (by simp)
    have b := hle _ (Or.inl (Or.inr rfl))
    have d := hle _ (Or.inr rfl)
    rcases hM with (h | h) | h <;> omega
  · have a := hle 0 (by simp)
    have b := hle _ (Or.inr rfl)
    rcases hM with h | h <;> omega
  · have a := hle 0 (by simp)
    have d := hle _ (Or.inr rfl)
    rcases hM with h | h <;> omega
  · have a := hle 0 rfl
    omega
end KS
namespace KS
open PySem PySem.Spec PyProof.Rows L2
/-! ### t[::-1], t a tuple -/
section
variable {prog : Program} {w : World} {A : Around} {E : Value → Shared → Prop} {s : Shared}
theorem adjust_rev (n : Nat) : Builtin.Slice.sliceAdjust none none (-1) (n : Int) = ((n : Int) - 1, -1) := by
  first
  | rfl
  | simp [Builtin.Slice.sliceAdjust]
theorem places_rev (n : Nat) : Builtin.Slice.slicePlaces ((n : Int) - 1) (-1) (-1) = n := by
  unfold Builtin.Slice.slicePlaces
  by_cases h : n = 0
  · subst h
    decide
  · simp
    omega
theorem applied_rev {sl : Addr} {vl vu vs : Value} {n : Nat} {Q : Int × Int × Nat → Shared → Prop} (hs : s.heap.IsSliceOf sl vl vu vs) (pl : IsPart vl none) (pu : IsPart vu none) (ps : IsPart vs (some (-1)))
    (h : Q ((n : Int) - 1, -1, n) s) : wpAny (model prog w) A (Builtin.Slice.sliceApplied (.ref sl) (pure (n : Int))) Q E s := by
  obtain ⟨os, hos, hcs, hds⟩ := id hs
  unfold Builtin.Slice.sliceApplied Builtin.Slice.sliceFields
  refine wpAny_bind (wpAny_bind (wpAny_field hos hds (x := vl) rfl
    (wpAny_bind (wpAny_field hos hds (x := vu) rfl (wpAny_bind (wpAny_field hos hds (x := vs) rfl (wpAny_pure ?_)))))))
  refine wpAny_bind (HT.slicePart_ ps ?_)
  show wpAny _ _ (if ((-1 : Int) == 0) = true then _ else _) _ _ s
  rw [if_neg (by decide)]
  refine wpAny_bind (HT.slicePart_ pl (wpAny_bind (HT.slicePart_ pu (wpAny_bind (wpAny_pure ?_)))))
  show wpAny _ _ (match Builtin.Slice.sliceAdjust none none (-1) (n : Int) with | (lo, hi) => pure (lo, (-1 : Int), Builtin.Slice.slicePlaces lo hi (-1))) _ _ s
  rw [adjust_rev n]
  show wpAny _ _ (pure ((n : Int) - 1, (-1 : Int), Builtin.Slice.slicePlaces ((n : Int) - 1) (-1) (-1))) _ _ s
  rw [places_rev]
  exact wpAny_pure h
theorem pick_rev (xs : Array Value) : ((List.range xs.size).filterMap fun (k : Nat) => xs[(((xs.size : Int) - 1) + (k : Int) * (-1)).toNat]?).toArray = xs.toList.reverse.toArray := by
  have e : (fun (k : Nat) => xs[(((xs.size : Int) - 1) + (k : Int) * (-1)).toNat]?) = (xs[·]?) ∘ fun k => xs.size - 1 - k := by
    funext k
    show xs[(((xs.size : Int) - 1) + (k : Int) * (-1)).toNat]? = xs[xs.size - 1 - k]?
    have z : (((xs.size : Int) - 1) + (k : Int) * (-1)).toNat = xs.size - 1 - k := by omega
    rw [z]
  rw [e, ← List.filterMap_map, PySem.W.krv_range, List.filterMap_reverse, PySem.W.krv_all]
theorem getItem_tuple_rev {t sl : Addr} {items : Array Value} {vl vu vs : Value} {Q : Value → Shared → Prop} (ht : IsTup s.heap t items) (hs : s.heap.IsSliceOf sl vl vu vs) (pl : IsPart vl none) (pu : IsPart vu none)
    (ps : IsPart vs (some (-1))) (h : Q (.ref s.heap.objs.size) { s with heap := s.heap.push { cls := .type "tuple", data := .seq items.toList.reverse.toArray } }) (hsz : items.size ≤ sizeLine) :
    wpAny (model prog w) A (getItem (.ref t) (.ref sl)) Q E s := by
  have htake : sizeOk (.seq items.toList.reverse.toArray) := by
    show items.toList.reverse.toArray.size ≤ sizeLine
    rw [List.size_toArray, List.length_reverse, Array.length_toList]
    exact hsz
  obtain ⟨os, hos, hcs, hds⟩ := id hs
  have hTs : s.TypeIs (.ref sl) "slice" := ⟨os, hos, hcs⟩
  unfold getItem
  try with_reducible refine wpAny_holding ?_
  first | refine wpAny_bind (wpAny_pure ?_) | skip
  refine wpAny_bind (wpAny_sequenceKey ht.typeIs (by decide) ?_)
  refine wpAny_bind (wpAny_callSpecial?_slot (name := Str.ofString "__getitem__") ht.typeIs PyProof.Rows.slot_tuple_getitem (wpAny_call_entry PyProof.Rows.slot_tuple_getitem ht.typeIs entry_tuple_getitem ?_ (args_tuple_getitem _ _)))
  show wpAny _ _ (Builtin.Tuple.tupleItemsOf (.ref t) >>= _) _ _ s
  refine wpAny_bind (tupleItemsOf_ ht (wpAny_bind (wpAny_typeOf hTs ?_)))
  rw [if_pos (by decide)]
  refine wpAny_bind (applied_rev hs pl pu ps ?_)
  have hno : ¬ ((((items.size : Int) - 1) == 0 && (-1 : Int) == 1 && items.size == items.size) = true) := by
    simp
  show wpAny _ _ (if (((items.size : Int) - 1) == 0 && (-1 : Int) == 1 && items.size == items.size) = true then _ else _) _ _ s
  rw [if_neg hno, pick_rev]
  first
    | exact wpAny_bind (m := Builtin.Tuple.tupleExact _) (wpAny_newObj_type (wpAny_pure ⟨_, rfl, wpAny_pure h⟩) htake)
    | exact wpAny_bind (m := Builtin.Tuple.tupleExact _) (wpAny_newObj_type (wpAny_bind (wpAny_pure (wpAny_pure ⟨_, rfl, wpAny_pure h⟩))) htake)
    | exact wpAny_bind (wpAny_bind (m := Builtin.Tuple.tupleExact _) (wpAny_newObj_type (wpAny_pure (wpAny_pure ⟨_, rfl, wpAny_pure h⟩)) htake))
    | exact wpAny_bind (wpAny_bind (m := Builtin.Tuple.tupleExact _) (wpAny_newObj_type (wpAny_pure ⟨_, rfl, wpAny_pure h⟩) htake))
end
def tRevT (K : PySem.W.Frag) (te : TE) : TE := fun σ H Q => te σ H fun x H1 => ∃ a xs, x = .ref a ∧ SqT K H1 a xs ∧ ∀ p, H1 p = none → Q (.ref p) (upd H1 p (.tup xs.reverse))
theorem pe_revT {X : Cx} {e : Expr} {te : TE} {k : Nat} {p1 p2 p3 pos : Pos} (he : PE X e te) :
    PE X (.Subscript e (.Slice none none (some (.UnaryOp .USub (.Constant (.int 1) k p1) p2)) p3) pos) (tRevT X.K te) := by
  refine ⟨fun pins s σ H Q I h => Subscript_ (thn (he.run pins s σ H _ I h) fun v s1 hh => ?_)⟩
  obtain ⟨x, H1, I1, r1, a, xs, ex, hx, q⟩ := hh
  subst ex
  cases r1
  have hst : PO X (some (.UnaryOp .USub (.Constant (.int 1) k p1) p2)) (tPart (tUn (rU fun i => .int (-i)) (tC (.int 1)))) := po_some (pe_un un_neg pe_int)
  refine wpAny_Slice (thn (po_none.run pins s1 σ H1 (fun o H2 => o = none ∧ H2 = H1) I1 ⟨rfl, rfl⟩) fun vl s2 h2 => ?_)
  obtain ⟨l, H2, I2, pl, el, e2⟩ := h2
  subst el e2
  refine thn (po_none.run pins s2 σ H2 (fun o H3 => o = none ∧ H3 = H2) I2 ⟨rfl, rfl⟩) fun vu s3 h3 => ?_
  obtain ⟨u, H3, I3, pu, eu, e3⟩ := h3
  subst eu e3
  refine thn (hst.run pins s3 σ H3 (fun o H4 => o = some (-1) ∧ H4 = H3) I3 ⟨1, rfl, -1, rfl, rfl, rfl⟩) fun vs s4 h4 => ?_
  obtain ⟨o, H4, I4, ps, eo, e4⟩ := h4
  subst eo e4
  have I5 : Inv X pins σ H4 { s4 with heap := s4.heap.push { cls := .type "slice", data := .fields #[vl, vu, vs] } } :=
    I4.kept (t' := s4.toks) fun b ob q => Heap.get?_push_of_some _ q
  obtain ⟨its, r, ht, hz⟩ := I5.tuple hx
  have hlen := r.length
  show wpAny (model X.prog X.w) X.A (subscriptTail e (.Slice none none (some (.UnaryOp .USub (.Constant (.int 1) k p1) p2)) p3) (.ref a) (.ref s4.heap.objs.size)) (EP X pins σ Q) X.xe
    { s4 with heap := s4.heap.push { cls := .type "slice", data := .fields #[vl, vu, vs] } }
  refine tail_any (ops := [.ref a, .ref s4.heap.objs.size]) ht.typeIs PyProof.Rows.slot_tuple_getitem.lookup ?_ (by with_unfolding_all rfl)
  refine getItem_tuple_rev ht (Heap.IsSliceOf.new _ vl vu vs) pl pu ps ?_ (by rw [List.size_toArray]; omega)
  refine ⟨.ref _, _, I5.laid (t' := s4.toks) (o := .tup xs.reverse) (fun b ob q => Heap.get?_push_of_some _ q) (Nat.le_refl _) ?_, rfl, q _ (I5.hok.fresh (Nat.le_refl _))⟩
  exact ⟨by rw [List.length_reverse]; exact hz, _, r.reverse, IsTup.new _ _⟩
end KS
namespace PySem
namespace XInvalidPlan
open PySem.W PySem.Calls PyProof.Rows PySem.HandSPX
/-! ### the text of __init__ -/
def iA (p1 p2 : Pos) : Arguments := { posonlyargs := [], args := [{ arg := "self", annotation := none, pos := p1 }, { arg := "index", annotation := none, pos := p2 }], vararg := none, kwonlyargs := [], kw_defaults := [], kwarg := none, defaults := [] }
def iB (q1 q2 q3 q4 : Pos) : List Stmt := [.Assign [.Attribute (.Name "self" q1) "index" q2] (.Name "index" q3) q4]
def iS : Scope := { kind := .function, names := [(PySem.Str.ofString "self", .local), (PySem.Str.ofString "index", .local)], isGenerator := false, isCoroutine := false, more := [] }
/-- what the written part says of Low, at C, and of its __init__, at fI -/
structure InvalidPlanTxt (K : Frag) (mg : Str → Option Value) (C fI : Addr) : Prop where
  gC : mg "InvalidPlan" = some (.ref C)
  cls : ∃ nm q N bs bm sn sub ab col dd k0 k1 k2 k3 k5, K.lookup C = some (excClassObj nm q C N bs bm true sn sub ab col dd k0 k1 k2 k3 k5 "ValueError.__new__") ∧ refsVE bm = true
  sa : findIn K (.ref C) "__setattr__" = some (some (.builtin "object.__setattr__"))
  ga : findIn K (.ref C) "__getattribute__" = some (some (.builtin "BaseException.__getattribute__"))
  gg : findIn K (.ref C) "__getattr__" = some none
  noN : findIn K (.ref C) "index" = some none
  iC : findIn K (.ref C) "__init__" = some (some (.ref fI))
  tC : typeIn K (.ref fI) = some (.type "function")
  kC : keepIn K (.ref C) = true
  exC : subIn K (.ref C) (.type "BaseException") = some true
  tyC : typeIn K (.ref C) = some (.type "type")
  hdC : hasDictIn K C = true
  te : exmOne K (.ref C) (.ref C) = some true
  fn : ∃ (oc : Value) (od : Option Addr) (doc pm : Value) (an : Option Addr) (cdv ct : Value) (osl : Array (Option Value)) (p1 p2 q1 q2 q3 q4 : Pos),
    K.lookup fI = some ⟨oc, od, .func (fnOf "__init__" "InvalidPlan.__init__" (iA p1 p2) (iB q1 q2 q3 q4) iS .none .none doc pm an cdv ct), osl⟩ ∧ codeIn K cdv "InvalidPlan.__init__" = true
theorem one_size (v : Value) : [v].length ≤ sizeLine := by
  rw [sizeLine_eq]
  exact (by decide : 1 ≤ 16777216)
theorem kept_but {K : Frag} {h h' : Heap} {x : Addr} (X : K.In h) (hx : K.lookup x = none) (k : ∀ b o, b ≠ x → h.get? b = some o → h'.get? b = some o) : K.In h' := fun a o e =>
  k a o (fun z => by rw [z, hx] at e; cases e) (X a o e)
theorem ldC {M : Model} {s : Shared} {name : Str} {scope : Scope} {L a : Addr} {cd : Value} {m : Str → Option Value} {x : Str} {pos : Pos} {v : Value} {Q : Value → Shared → Prop} {A : Around} {E : Value → Shared → Prop} (hn : s.heap.Ns L m) (hv : m x = some v) (h : Q v s)
    (hk : scope.kind = .function := by rfl) (hl : (envOfC name scope L a cd).kindOf x = some .local := by rfl) (hd : (x == ("__debug__" : Str)) = false := by decide) :
    wpAny M A (eval (.Name x pos) (envOfC name scope L a cd)) Q E s := wpAny_Name (wpAny_loadName_local hk hl hn hv h) hd
/-- what __init__ leaves of a fresh exception at x -/
structure InitEnd (h h' : Heap) (x C dx t1 : Addr) (v : Value) : Prop where
  keep : ∀ b o, b ≠ x → h.get? b = some o → h'.get? b = some o
  obj : h'.get? x = some { cls := .ref C, dict := some dx, data := .fields #[.ref t1, .none, .none, .none, .bool false, .none] }
  dbig : h.objs.size ≤ dx
  dne : dx ≠ x
  ns : h'.Ns1 dx (fun y => if y = "index" then some v else none)
/-- made -/
structure OwnMade (h h' : Heap) (e C d : Addr) (v : Value) : Prop where
  keep : ∀ b o, h.get? b = some o → h'.get? b = some o
  new : h.objs.size ≤ e
  obj : ∃ oe vs, h'.get? e = some oe ∧ oe.cls = .ref C ∧ oe.dict = some d ∧ oe.data = .fields vs ∧ vs[1]? = some .none
  dbig : h.objs.size ≤ d
  dne : d ≠ e
  ns : h'.Ns1 d (fun y => if y = "index" then some v else none)
section
variable {prog : Program} {w : World} {A : Around} {E : Value → Shared → Prop} {R : Result → Shared → Prop} {s : Shared} {K : Frag} {mg : Str → Option Value} {C fI : Addr}
theorem _initInvalidPlan (T : InvalidPlanTxt K mg C fI) {x t0 : Addr} {v : Value} (X : K.In s.heap) (hlim : s.heap.NoLimit) (hx : s.heap.get? x = some (excO C t0)) (hnx : K.lookup x = none) (hroom : A.depth < recursionLimit)
    (hq : ∀ h' tk dx, InitEnd s.heap h' x C dx t0 v → R (.ok (.ret .none)) { s with heap := h', toks := tk }) :
    codeAny (model prog w) A (.call (.ref fI) ⟨[.ref x, v], []⟩) R s := by
  obtain ⟨oc, od, doc, pm, an, cdv, ct, osl, p1, p2, q1, q2, q3, q4, ho, hcd⟩ := T.fn
  obtain ⟨nm, q, N, bs, bm, sn, sub, ab, col, dd, k0, k1, k2, k3, k5, hC, hbm⟩ := T.cls
  have hcl : clsIn K C = some { name := nm, bases := bs, mro := .ref C :: bm, ns := N, qualname := q, hasDict := true, slotNames := sn, subclasses := sub, abstract := ab, collection := col, hasDel := false } := by unfold clsIn; rw [hC] <;> rfl
  refine Att.call_fn (binds := [("self", .ref x), ("index", v)]) X hlim ho hcd hroom (BindsTo.of_eq (by first | rfl | with_unfolding_all rfl)) (by first | rfl | decide | with_unfolding_all rfl) (fun s₁ IC => ?_) rfl rfl rfl
  obtain ⟨h₁, tk₁, rfl⟩ := IC.toInCall.same
  have k : ∀ b o, s.heap.get? b = some o → h₁.get? b = some o := IC.toInCall.keep
  have hn := IC.toInCall.ns
  have hxL : s.heap.objs.size ≠ x := Nat.ne_of_gt (Heap.lt_size hx)
  have X₁ : K.In h₁ := X.keeps k
  have hx₁ := k _ _ hx
  -- self.f = f
  show wpAny _ _ (execs _ _) _ _ _
  refine wpAny_execs_cons (plainObj_wpAny_Assign_Attribute ?_)
  refine ldC (v := v) hn (by first | rfl | with_unfolding_all rfl | kernel_rfl) (ldC (v := .ref x) hn (by first | rfl | with_unfolding_all rfl | kernel_rfl) ?_)
  refine set_plain X₁ (ox := excO C t0) (od := none) ⟨hx₁, rfl, rfl, trivial⟩ T.sa ?_
  refine exc_osa X₁ hx₁ hcl (show refsVE (.ref C :: bm) = true from hbm) rfl T.noN (fun h₃ tk₃ dx k₃ dn dne hx₃ hn₃ => ?_)
  show wpAny _ _ (execs _ _) _ _ _
  have z : s.heap.objs.size < h₁.objs.size := hn.lt
  exact wpAny_execs_nil (hq h₃ tk₃ dx ⟨fun b o hb e => k₃ b o hb (k b o e), hx₃, Nat.le_of_lt (Nat.lt_of_lt_of_le z dn), dne, hn₃⟩)
theorem _madeInvalidPlan (T : InvalidPlanTxt K mg C fI) {v : Value} (X : K.In s.heap) (hlim : s.heap.NoLimit) (hroom : A.depth + 1 < recursionLimit)
    (hq : ∀ h' tk e d, OwnMade s.heap h' e C d v → R (.ok (.ret (.ref e))) { s with heap := h', toks := tk }) :
    codeAny (model prog w) A (.call (.ref C) ⟨[v], []⟩) R s := by
  obtain ⟨nm, q, N, bs, bm, sn, sub, ab, col, dd, k0, k1, k2, k3, k5, hC, hbm⟩ := T.cls
  obtain ⟨hp, g, dr, tk, os⟩ := s
  have k : ∀ b o, hp.get? b = some o → ((hp.push (kdv_tup [v])).push (excO C hp.objs.size)).get? b = some o := fun b o e => Heap.get?_push_of_some _ (Heap.get?_push_of_some _ e)
  have hget : ((hp.push (kdv_tup [v])).push (excO C hp.objs.size)).get? (hp.objs.size + 1) = some (excO C hp.objs.size) := by heap_get
  have hnx : K.lookup (hp.objs.size + 1) = none := by
    cases e : K.lookup (hp.objs.size + 1) with
    | none => rfl
    | some o =>
      have z : hp.get? (hp.objs.size + 1) = some o := X _ _ e
      exact absurd (Nat.lt_of_succ_lt (Heap.lt_size z)) (Nat.lt_irrefl _)
  refine call_own F.excBase_ValueError (fun X => refsVE_contains X bm hbm) (X _ _ hC) (looks_findIn X T.iC) (fun self => bind_fn X self T.tC) (one_size v) ?_
  refine _initInvalidPlan (s := ⟨(hp.push (kdv_tup [v])).push (excO C hp.objs.size), g, dr, tk, os⟩) T (X.keeps k) (hlim.keeps k) hget hnx ?_ fun h' tk' dx ⟨k', hx, dn, dne, hns⟩ => ?_
  · show A.depth + 1 < recursionLimit
    exact hroom
  · have old : ∀ b o, hp.get? b = some o → h'.get? b = some o := fun b o e => k' b o (Nat.ne_of_lt (Nat.lt_succ_of_lt (Heap.lt_size e))) (k b o e)
    have z : hp.objs.size + 1 + 1 ≤ dx := by
      first
        | (simpa only [Heap.size_push] using dn)
        | exact dn
        | (have q := dn; rw [Heap.size_push, Heap.size_push] at q; exact q)
    exact ⟨rfl, hq h' tk' (hp.objs.size + 1) dx ⟨old, Nat.le_succ _, ⟨_, _, hx, rfl, rfl, rfl, rfl⟩, Nat.le_trans (Nat.le_trans (Nat.le_succ _) (Nat.le_succ _)) z, dne, hns⟩⟩
end
end XInvalidPlan
end PySem
namespace L2
open PySem PySem.Spec PyProof.Rows
theorem relO_InvalidPlan {v : V} {v' : Value} (r : RelV v v') (f : Str) : RelO (List.lookup f [(("index" : Str), v)]) (if f = "index" then some v' else none) := by
  by_cases hw : f = "index"
  · subst hw
    rw [if_pos rfl]
    have q : List.lookup ("index" : Str) [(("index" : Str), v)] = some v := by simp [List.lookup]
    rw [q]
    exact r
  · rw [if_neg hw]
    have qw : (f == ("index" : Str)) = false := by simpa using hw
    have q2 : List.lookup f [(("index" : Str), v)] = none := by simp [List.lookup, qw]
    rw [q2]
    trivial
section
variable {X : Cx} {C fI : Addr}
/-- Low(e) -/
def tMkInvalidPlan (C : Addr) (ta : TA) : St → Hp → XK → Prop := fun σ H Q => ta σ H fun vs H1 => ∃ v, vs = [v] ∧ ∀ d, H1 d = none → Q (.ref C) (some d) (upd H1 d (.xd [(("index" : Str), v)]))
theorem pmk_InvalidPlan {a : Expr} {ta : TA} {p pos : Pos} {k : Nat} (T : PySem.XInvalidPlan.InvalidPlanTxt X.K X.mg C fI) (hr : Room k X.A) (ha : PA X [a] ta) (hg : Gl X "InvalidPlan" := by rfl)
    (he : starEach (a :: []) X.env = (false, eval a X.env) :: starEach [] X.env := by rfl) (hpl : (backTo pos (starEach [] X.env)).any (·.1) = false := by rfl) :
    PMk X (.Call (.Name "InvalidPlan" p) [a] [] pos) (tMkInvalidPlan C ta) := by
  intro pins s σ H Q I h
  refine wpAny_Call_Name_kw (ld_glob I hg T.gC ?_)
  refine PySem.W.callWith_K (h₀ := X.base) I.ok.mod.kin T.kC (thn (ha.run pos pins s σ H _ I h) fun us s1 hh => ?_) he hpl
  obtain ⟨vs, H1, I1, r1, v, ev, q1⟩ := hh
  subst ev
  refine ⟨I1.kIn, ?_⟩
  cases r1 with
  | cons rv rn =>
    rename_i v' us'
    cases rn
    show wpAny _ _ (call (.ref C) [v']) _ _ _
    have hlim := I1.nolimit
    obtain ⟨hp, g, dr, tk, os⟩ := s1
    refine wpAny_call (PySem.XInvalidPlan._madeInvalidPlan T I1.kIn hlim (by have := hr.dp; omega) fun h' tk' e d M => ?_)
    show MkP X pins σ Q (.ref e) ⟨h', g, dr, tk', os⟩
    obtain ⟨oe, fv, hoe, hc, hd, hdat, h1⟩ := M.obj
    have hns := M.ns
    obtain ⟨G', g1, g2⟩ := restrict h' fun b => decide (b ≠ e)
    have gk : ∀ b, b ≠ e → G'.get? b = h'.get? b := fun b hb => g1 b (decide_eq_true hb)
    have ge : G'.get? e = none := g2 e (by simp)
    have old : ∀ b o, hp.get? b = some o → G'.get? b = some o := fun b o q => (gk b (Nat.ne_of_lt (Nat.lt_of_lt_of_le (Heap.lt_size q) M.new))).trans (M.keep b o q)
    have ob : ObjOk X.prog X.w (upd H1 d (.xd [(("index" : Str), v)])) G' d (.xd [(("index" : Str), v)]) :=
      ⟨_, hns.at (fun o q => (gk d M.dne).trans q), fun f => relO_InvalidPlan rv f⟩
    have J : Inv X pins σ (upd H1 d (.xd [(("index" : Str), v)])) ⟨G', g, dr, tk', os⟩ := I1.laid (t' := tk') old M.dbig ob
    refine ⟨e, oe, fv, ⟨G', g, dr, tk', os⟩, _, .ref C, some d, rfl, J, fun b o q => ?_, ge, hoe, ⟨hc, hd⟩, hdat, h1, ?_, rfl, I1.bare, raises_own T.exC T.tyC, q1 d (I1.hok.fresh M.dbig)⟩
    · by_cases hb : b = e
      · have q' : G'.get? b = some o := q
        rw [hb, ge] at q'; cases q'
      · exact (gk b hb).symm.trans q
    · rw [upd_ne (Ne.symm M.dne)]
      exact I1.hok.fresh M.new
/-- raise C(e) -/
def tRaiseInvalidPlan (C : Addr) (W : WX) (ta : TA) : TS := fun _ σ H => tMkInvalidPlan C ta σ H fun cls d H' => W cls d σ H'
theorem ps_raiseInvalidPlan {a : Expr} {ta : TA} {W : WX} {p pos pos2 : Pos} {k : Nat} (hc : X.calm = true) (T : PySem.XInvalidPlan.InvalidPlanTxt X.K X.mg C fI) (hr : Room k X.A) (tk : Takes X W) (ha : PA X [a] ta) (hg : Gl X "InvalidPlan" := by rfl)
    (he : starEach (a :: []) X.env = (false, eval a X.env) :: starEach [] X.env := by rfl) (hpl : (backTo pos (starEach [] X.env)).any (·.1) = false := by rfl) :
    PS X (.Raise (some (.Call (.Name "InvalidPlan" p) [a] [] pos)) none pos2) (tRaiseInvalidPlan C W ta) := ps_raise hc tk (pmk_InvalidPlan T hr ha hg he hpl)
/-- x.f, low the exception that the suite holds (at a; its class cls, its dict d) -/
def tByInvalidPlan (C : Addr) (a : Addr) (cls : Value) (d : Option Addr) (te : TE) : TE := fun σ H Q => te σ H fun x H1 => x = .ref a ∧ cls = .ref C ∧ ∃ (dd : Addr) (v : V), d = some dd ∧ H1 dd = some (.xd [(("index" : Str), v)]) ∧ Q v H1
theorem pe_byInvalidPlan {a : Addr} {oe : Obj} {cls : Value} {d : Option Addr} {pn : List (Addr × Obj)} {e : Expr} {te : TE} {pos : Pos} (T : PySem.XInvalidPlan.InvalidPlanTxt X.K X.mg C fI) (hz : Zc cls d oe) (hf : ∃ vs, oe.data = .fields vs) (he : PE (X.suite a ((a, oe) :: pn)) e te)
    (hb : attributeBase e "index" X.env (eval e X.env) = eval e X.env := by rfl) :
    PE (X.suite a ((a, oe) :: pn)) (.Attribute e "index" pos) (tByInvalidPlan C a cls d te) := by
  refine ⟨fun pins s σ H Q I h => ?_⟩
  refine attr_of hb (thn (he.run pins s σ H _ I h) fun u s1 hh => ?_)
  obtain ⟨x, H1, I1, rx, ex, ec, dd, v, ed, ea, q⟩ := hh
  subst ex
  obtain rfl : u = Value.ref a := rx
  subst ec
  subst ed
  obtain ⟨ha, _⟩ := I1.pin (a, oe) (List.mem_append_left _ List.mem_cons_self)
  obtain ⟨vs, hd⟩ := hf
  have hx : ObjOk X.prog X.w H1 s1.heap dd (.xd [(("index" : Str), v)]) := I1.hok dd _ ea
  obtain ⟨mA, hns, hr⟩ := hx
  obtain ⟨od, ho, hl⟩ := lookIn_ns hns
  have l : List.lookup ("index" : Str) [(("index" : Str), v)] = some v := by simp [List.lookup]
  obtain ⟨u, hu, ru⟩ := RelO.some_of (v := v) (o := mA "index") (by rw [← l]; exact hr "index")
  have J : PySem.W.InstAt s1.heap a oe C (some od) := ⟨ha, hz.1, by unfold PySem.W.notCls; rw [hd] <;> rfl, by rw [hz.2]; exact ho⟩
  exact HandSPX.exc_get I1.kIn J T.ga T.gg T.exC (PySem.W.findObj_own T.hdC T.noN rfl (by rw [hl, hu])) (handed_of ru) ⟨v, H1, I1.tok _, ru, q⟩
end
end L2

namespace KS
open PySem PySem.Spec PyProof.Rows L2
theorem exm_self {K : PySem.W.Frag} {S : Addr} (h1 : PySem.W.subIn K (.ref S) (.type "BaseException") = some true) (h2 : PySem.W.isClsIn K S = true) (h3 : PySem.W.typeIn K (.ref S) = some (.type "type")) (h4 : PySem.W.subIn K (.ref S) (.ref S) = some true) :
    PySem.W.exmOne K (.ref S) (.ref S) = some true := by
  have e1 : (PySem.W.subIn K (.ref S) (.type "BaseException") == some true) = true := by rw [h1] <;> rfl
  have e2 : ((PySem.W.clsIn K S).isSome && PySem.W.typeIn K (.ref S) == some (.type "type")) = true := by
    have h2' : (PySem.W.clsIn K S).isSome = true := h2
    rw [h2', h3] <;> rfl
  show (if (PySem.W.subIn K (.ref S) (.type "BaseException") == some true) = true then (if ((PySem.W.clsIn K S).isSome && PySem.W.typeIn K (.ref S) == some (.type "type")) = true then PySem.W.subIn K (.ref S) (.ref S) else none) else none) = some true
  rw [if_pos e1, if_pos e2]
  exact h4
end KS
namespace KS
open PySem PySem.Spec PyProof.Rows L2
/-! ### things of any kind, as is_plan and its law look at them -/
inductive Oth (K : PySem.W.Frag) (H : Hp) : V → String → Prop
  | non : Oth K H .non "NoneType"
  | bl (b : Bool) : Oth K H (.bl b) "bool"
  | int (i : Int) : Oth K H (.int i) "int"
  | str (x : Str) : Oth K H (.str x) "str"
  | lst {a : Addr} {xs : List V} : H a = some (.lst xs) → Oth K H (.ref a) "list"
  | dct {a : Addr} {kvs : List (Key × V)} : H a = some (.dK kvs) → Oth K H (.ref a) "dict"
  | tup {a : Addr} {xs : List V} : SqT K H a xs → Oth K H (.ref a) "tuple"
theorem Oth.ty {K : PySem.W.Frag} {H : Hp} {v : V} {t : String} (h : Oth K H v t) : TyX K H v (.type t) := by
  cases h with
  | non => exact .base .non
  | bl b => exact .base (.bl b)
  | int i => exact .base (.int i)
  | str x => exact .base (.str x)
  | lst e => exact .base (.lst e)
  | dct e => exact .base (.dK e)
  | tup e => exact tyx_tup e
/-- a number of a row or column (true), or a known other thing -/
def PlR (K : PySem.W.Frag) (H : Hp) (v : V) : Bool → Prop
  | true => ∃ i, v = .int i ∧ 0 ≤ i ∧ i ≤ 7
  | false => (∃ i, v = .int i ∧ ¬ (0 ≤ i ∧ i ≤ 7)) ∨ ∃ t, Oth K H v t ∧ t ≠ "int"
/-- an int between bounds (true), or a known other thing -/
def BwR (K : PySem.W.Frag) (H : Hp) (v : V) (lo hi : Int) : Bool → Prop
  | true => ∃ i, v = .int i ∧ lo ≤ i ∧ i ≤ hi
  | false => (∃ i, v = .int i ∧ ¬ (lo ≤ i ∧ i ≤ hi)) ∨ ∃ t, Oth K H v t ∧ t ≠ "int"
def spBetweenG (K : PySem.W.Frag) : Sp := fun vs H Q _ => ∃ (v : V) (lo hi : Int) (b : Bool), vs = [v, .int lo, .int hi] ∧ BwR K H v lo hi b ∧ Q (.bl b) H
theorem bw_of_pl {K : PySem.W.Frag} {H : Hp} {v : V} {b : Bool} (h : PlR K H v b) : BwR K H v 0 7 b := by
  cases b <;> exact h
/-- a cell, or a known other thing -/
def ElR (K : PySem.W.Frag) (H : Hp) (x : V) : Option Cell → Prop
  | some c => CellAt K H x c ∧ InGrid c
  | none => (∃ t, Oth K H x t ∧ t ≠ "tuple") ∨ (∃ t ys, x = .ref t ∧ SqT K H t ys ∧ ys.length ≠ 2) ∨
      ∃ t y0 y1 b0 b1, x = .ref t ∧ SqT K H t [y0, y1] ∧ PlR K H y0 b0 ∧ PlR K H y1 b1 ∧ (b0 && b1) = false
abbrev Els (K : PySem.W.Frag) (H : Hp) : List V → List (Option Cell) → Prop := Paired (ElR K H)
/-- the first i elements are cells that ascend -/
def OkTo (rs : List (Option Cell)) (i : Nat) : Prop := ∀ j, j < i → ∃ c, rs[j]? = some (some c) ∧ ∀ k, j = k + 1 → ∃ c', rs[k]? = some (some c') ∧ lt2 c' c
def BadAt (rs : List (Option Cell)) (i : Nat) : Prop := rs[i]? = some none ∨ ∃ c c' k, rs[i]? = some (some c) ∧ i = k + 1 ∧ rs[k]? = some (some c') ∧ ¬ lt2 c' c
inductive Verd | ok | non | at (i : Nat)
/-- what a thing is worth as a plan -/
def PlanV (K : PySem.W.Frag) (H : Hp) (v : V) : Verd → Prop
  | .ok => ∃ a xs rs, v = .ref a ∧ SqT K H a xs ∧ 1 ≤ xs.length ∧ xs.length ≤ 24 ∧ Els K H xs rs ∧ OkTo rs rs.length
  | .non => (∃ t, Oth K H v t ∧ t ≠ "tuple") ∨ ∃ a xs, v = .ref a ∧ SqT K H a xs ∧ (xs.length = 0 ∨ 24 < xs.length)
  | .at i => ∃ a xs rs, v = .ref a ∧ SqT K H a xs ∧ 1 ≤ xs.length ∧ xs.length ≤ 24 ∧ Els K H xs rs ∧ OkTo rs i ∧ BadAt rs i
def Verd.good : Verd → Bool
  | .ok => true
  | _ => false
theorem lt2_dec (a b : Cell) : lt2 a b ∨ ¬ lt2 a b := Classical.em _
/-- each list of verdicts has a first fault, or none -/
theorem first_bad (rs : List (Option Cell)) : ∀ n, n ≤ rs.length → OkTo rs n ∨ ∃ i, i < n ∧ OkTo rs i ∧ BadAt rs i
  | 0, _ => .inl fun j hj => absurd hj (Nat.not_lt_zero _)
  | n + 1, h => by
    rcases first_bad rs n (by omega) with ok | ⟨i, h1, h2, h3⟩
    · have hn : n < rs.length := by omega
      cases e : rs[n]? with
      | none =>
        have := List.getElem?_eq_none_iff.mp e
        omega
      | some o =>
        cases o with
        | none => exact .inr ⟨n, by omega, ok, .inl e⟩
        | some c =>
          have fin : (∀ k, n = k + 1 → ∃ c', rs[k]? = some (some c') ∧ lt2 c' c) → OkTo rs (n + 1) := fun q j hj => by
            by_cases z : j < n
            · exact ok j z
            · have : j = n := by omega
              subst this
              exact ⟨c, e, q⟩
          cases n with
          | zero => exact .inl (fin fun k z => by omega)
          | succ m =>
            obtain ⟨c', e', _⟩ := ok m (by omega)
            rcases lt2_dec c' c with z | z
            · exact .inl (fin fun k hk => by
                have : k = m := by omega
                subst this
                exact ⟨c', e', z⟩)
            · exact .inr ⟨m + 1, by omega, ok, .inr ⟨c, c', m, e, rfl, e', z⟩⟩
    · exact .inr ⟨i, by omega, h2, h3⟩
/-- a tuple whose elements are known has a worth -/
theorem planV_of {K : PySem.W.Frag} {H : Hp} {a : Addr} {xs : List V} {rs : List (Option Cell)} (h : SqT K H a xs) (e : Els K H xs rs) : ∃ v, PlanV K H (.ref a) v := by
  by_cases c : xs.length = 0 ∨ 24 < xs.length
  · exact ⟨.non, .inr ⟨a, xs, rfl, h, c⟩⟩
  · have hl := Paired.length e
    rcases first_bad rs rs.length (Nat.le_refl _) with ok | ⟨i, _, h2, h3⟩
    · exact ⟨.ok, a, xs, rs, rfl, h, by omega, by omega, e, ok⟩
    · exact ⟨.at i, a, xs, rs, rfl, h, by omega, by omega, e, h2, h3⟩
theorem els_cells {K : PySem.W.Frag} {H : Hp} : ∀ {xs : List V} {cs : List Cell}, CellsAt K H xs cs → (∀ c ∈ cs, InGrid c) → Els K H xs (cs.map some)
  | _, _, .nil, _ => .nil
  | _, _, .cons r t, g => .cons ⟨r, g _ List.mem_cons_self⟩ (els_cells t fun c hc => g c (List.mem_cons_of_mem _ hc))
theorem okTo_good {cs : List Cell} (h : cs.Pairwise lt2) : OkTo (cs.map some) (cs.map some).length := by
  intro j hj
  rw [List.length_map] at hj
  refine ⟨cs[j], by rw [List.getElem?_map, List.getElem?_eq_getElem hj]; rfl, fun k hk => ?_⟩
  subst hk
  have hk : k < cs.length := by omega
  exact ⟨cs[k], by rw [List.getElem?_map, List.getElem?_eq_getElem hk]; rfl, (List.pairwise_iff_getElem.mp h) k (k + 1) hk hj (by omega)⟩
theorem planV_good {K : PySem.W.Frag} {H : Hp} {a : Addr} {cs : List Cell} (h : PlanAt K H a cs) (g : Good cs) (hl : cs.length ≤ 24) : PlanV K H (.ref a) .ok := by
  obtain ⟨xs, h1, h2⟩ := h
  have hlen := Paired.length h2
  have hpos : 0 < cs.length := by
    rcases Nat.eq_zero_or_pos cs.length with z | z
    · exact absurd (List.eq_nil_of_length_eq_zero z) g.ne
    · exact z
  exact ⟨a, xs, cs.map some, rfl, h1, by omega, by omega, els_cells h2 g.grid, okTo_good g.asc⟩
/-! ### what stays -/
theorem Oth.same {K : PySem.W.Frag} {H H' : Hp} {v : V} {t : String} (s : Same H H') (h : Oth K H v t) : Oth K H' v t := by
  cases h with
  | non => exact .non
  | bl b => exact .bl b
  | int i => exact .int i
  | str x => exact .str x
  | lst e => exact .lst (s _ _ e)
  | dct e => exact .dct (s _ _ e)
  | tup e => exact .tup (same_seqT s e)
theorem PlR.same {K : PySem.W.Frag} {H H' : Hp} {v : V} {b : Bool} (s : Same H H') (h : PlR K H v b) : PlR K H' v b := by
  cases b with
  | true => exact h
  | false =>
    rcases h with h | ⟨t, h, n⟩
    · exact .inl h
    · exact .inr ⟨t, h.same s, n⟩
theorem ElR.same {K : PySem.W.Frag} {H H' : Hp} {x : V} {o : Option Cell} (s : Same H H') (h : ElR K H x o) : ElR K H' x o := by
  cases o with
  | some c => exact ⟨h.1.kt (.of_same s), h.2⟩
  | none =>
    rcases h with ⟨t, h, n⟩ | ⟨t, ys, e, h, n⟩ | ⟨t, y0, y1, b0, b1, e, h, p0, p1, n⟩
    · exact .inl ⟨t, h.same s, n⟩
    · exact .inr (.inl ⟨t, ys, e, same_seqT s h, n⟩)
    · exact .inr (.inr ⟨t, y0, y1, b0, b1, e, same_seqT s h, p0.same s, p1.same s, n⟩)
theorem els_same {K : PySem.W.Frag} {H H' : Hp} (s : Same H H') {xs : List V} {rs : List (Option Cell)} (h : Els K H xs rs) : Els K H' xs rs := Paired.mono (fun _ _ q => q.same s) h
theorem PlanV.same {K : PySem.W.Frag} {H H' : Hp} {v : V} {b : Verd} (s : Same H H') (h : PlanV K H v b) : PlanV K H' v b := by
  cases b with
  | ok =>
    obtain ⟨a, xs, rs, e, h1, h2, h3, h4, h5⟩ := h
    exact ⟨a, xs, rs, e, same_seqT s h1, h2, h3, els_same s h4, h5⟩
  | non =>
    rcases h with ⟨t, h, n⟩ | ⟨a, xs, e, h, n⟩
    · exact .inl ⟨t, h.same s, n⟩
    · exact .inr ⟨a, xs, e, same_seqT s h, n⟩
  | «at» i =>
    obtain ⟨a, xs, rs, e, h1, h2, h3, h4, h5⟩ := h
    exact ⟨a, xs, rs, e, same_seqT s h1, h2, h3, els_same s h4, h5⟩
/-! ### the promises -/
def spWholeG (K : PySem.W.Frag) : Sp := fun vs H Q _ => ∃ (v : V) (t : String), vs = [v] ∧ Oth K H v t ∧ Q (.bl (decide (t = "int"))) H
def spPlaceG (K : PySem.W.Frag) : Sp := fun vs H Q _ => ∃ (v : V) (b : Bool), vs = [v] ∧ PlR K H v b ∧ Q (.bl b) H
def spIsCellG (K : PySem.W.Frag) : Sp := fun vs H Q _ => ∃ (v : V) (o : Option Cell), vs = [v] ∧ ElR K H v o ∧ ∀ H', Same H H' → Q (.bl o.isSome) H'
def vIdx : Verd → V
  | .at i => .int (i : Nat)
  | _ => .non
def spCheckG (K : PySem.W.Frag) (C : Addr) : Sp := fun vs H Q E => ∃ (v : V) (b : Verd), vs = [v] ∧ PlanV K H v b ∧ (b.good = true → ∀ H', Same H H' → Q .non H') ∧
  (b.good = false → ∀ H' d, Same H H' → H d = none → H' d = some (.xd [(("index" : Str), vIdx b)]) → E (.ref C) (some d) H')
def spIsPlan (K : PySem.W.Frag) : Sp := fun vs H Q _ => ∃ (v : V) (b : Verd), vs = [v] ∧ PlanV K H v b ∧ ∀ H', Same H H' → Q (.bl b.good) H'
theorem le2_iff {a b : Cell} : Ob.lexAt (fun j => decide (([b.1, b.2] : List Int).getD j 0 = ([a.1, a.2] : List Int).getD j 0)) (fun j => decide (([b.1, b.2] : List Int).getD j 0 ≤ ([a.1, a.2] : List Int).getD j 0)) (decide (([b.1, b.2] : List Int).length ≤ ([a.1, a.2] : List Int).length)) 0 (min ([b.1, b.2] : List Int).length ([a.1, a.2] : List Int).length) = true ↔ ¬ lt2 a b := by
  constructor
  · intro h z
    rw [not_le2 z] at h
    cases h
  · intro h
    show Ob.lexAt _ _ _ 0 2 = true
    rw [Ob.lexAt_succ, Ob.lexAt_succ]
    show (if decide (b.1 = a.1) = true then (if decide (b.2 = a.2) = true then _ else decide (b.2 ≤ a.2)) else decide (b.1 ≤ a.1)) = true
    unfold lt2 at h
    by_cases e1 : b.1 = a.1
    · rw [if_pos (by simpa using e1)]
      by_cases e2 : b.2 = a.2
      · rw [if_pos (by simpa using e2)]
        rfl
      · rw [if_neg (by simpa using e2)]
        simp
        omega
    · rw [if_neg (by simpa using e1)]
      simp
      omega
/-- isinstance's answers -/
theorem kit_int {K : PySem.W.Frag} {H : Hp} {v : V} {t : String} (h : Oth K H v t) : PySem.W.kitOne K (.type t) (.type "int") = some (decide (t = "int" ∨ t = "bool")) := by
  cases h <;> exact kit_ty (by decide +kernel)
theorem kit_bool {K : PySem.W.Frag} {H : Hp} {v : V} {t : String} (h : Oth K H v t) : PySem.W.kitOne K (.type t) (.type "bool") = some (decide (t = "bool")) := by
  cases h <;> exact kit_ty (by decide +kernel)
theorem kit_tuple {K : PySem.W.Frag} {H : Hp} {v : V} {t : String} (h : Oth K H v t) : PySem.W.kitOne K (.type t) (.type "tuple") = some (decide (t = "tuple")) := by
  cases h <;> exact kit_ty (by decide +kernel)
end KS
namespace KS
open PySem PySem.Spec PyProof.Rows L2
theorem ok_notBad {rs : List (Option Cell)} {n i : Nat} (h : OkTo rs n) (hi : i < n) : ¬ BadAt rs i := by
  obtain ⟨c, e, k⟩ := h i hi
  rintro (z | ⟨c1, c2, j, e1, e2, e3, e4⟩)
  · rw [e] at z
    cases z
  · rw [e] at e1
    cases e1
    obtain ⟨c3, e5, e6⟩ := k j e2
    rw [e3] at e5
    cases e5
    exact e4 e6
theorem bad_lt {rs : List (Option Cell)} {i : Nat} (h : BadAt rs i) : i < rs.length := by
  rcases h with z | ⟨c1, c2, j, e1, _⟩
  · exact (List.getElem?_eq_some_iff.mp z).1
  · exact (List.getElem?_eq_some_iff.mp e1).1
/-- the two ways of a tuple of a right length -/
def TwoWays (rs : List (Option Cell)) (b : Verd) : Prop := (b.good = true ∧ OkTo rs rs.length) ∨ ∃ i, b = .at i ∧ OkTo rs i ∧ BadAt rs i
theorem TwoWays.bad {rs : List (Option Cell)} {b : Verd} {i : Nat} (h : TwoWays rs b) (ok : OkTo rs i) (bad : BadAt rs i) : b = .at i := by
  rcases h with ⟨_, h⟩ | ⟨j, e, h1, h2⟩
  · exact absurd bad (ok_notBad h (bad_lt bad))
  · have : i = j := by
      rcases Nat.lt_trichotomy i j with z | z | z
      · exact absurd bad (ok_notBad h1 z)
      · exact z
      · exact absurd h2 (ok_notBad ok z)
    rw [this]
    exact e
theorem TwoWays.ok {rs : List (Option Cell)} {b : Verd} (h : TwoWays rs b) (ok : OkTo rs rs.length) : b.good = true := by
  rcases h with ⟨h, _⟩ | ⟨j, e, h1, h2⟩
  · exact h
  · exact absurd h2 (ok_notBad ok (bad_lt h2))
theorem PlanV.split {K : PySem.W.Frag} {H : Hp} {v : V} {b : Verd} (h : PlanV K H v b) : (b = .non ∧ ((∃ t, Oth K H v t ∧ t ≠ "tuple") ∨ ∃ a xs, v = .ref a ∧ SqT K H a xs ∧ (xs.length = 0 ∨ 24 < xs.length))) ∨
    ∃ a xs rs, v = .ref a ∧ SqT K H a xs ∧ 1 ≤ xs.length ∧ xs.length ≤ 24 ∧ Els K H xs rs ∧ TwoWays rs b := by
  cases b with
  | ok =>
    obtain ⟨a, xs, rs, e, h1, h2, h3, h4, h5⟩ := h
    exact .inr ⟨a, xs, rs, e, h1, h2, h3, h4, .inl ⟨rfl, h5⟩⟩
  | non => exact .inl ⟨rfl, h⟩
  | «at» i =>
    obtain ⟨a, xs, rs, e, h1, h2, h3, h4, h5, h6⟩ := h
    exact .inr ⟨a, xs, rs, e, h1, h2, h3, h4, .inr ⟨i, rfl, h5, h6⟩⟩
theorem okTo_succ {rs : List (Option Cell)} {i : Nat} {c : Cell} (h : OkTo rs i) (e : rs[i]? = some (some c)) (k : ∀ j, i = j + 1 → ∃ c', rs[j]? = some (some c') ∧ lt2 c' c) : OkTo rs (i + 1) := fun j hj => by
  by_cases z : j < i
  · exact h j z
  · have : j = i := by omega
    subst this
    exact ⟨c, e, k⟩
end KS
namespace KS
open PySem PySem.Spec PyProof.Rows L2
section
variable {K : PySem.W.Frag} {H H' : Hp} {p : Addr}
theorem Oth.keepX {v : V} {t : String} (hp : PoolO (H p)) (hp' : PoolO (H' p)) (k : KeepX p H H') (h : Oth K H v t) : Oth K H' v t := by
  obtain ⟨x1, x2, x3, e1, _⟩ := hp
  cases h with
  | non => exact .non
  | bl b => exact .bl b
  | int i => exact .int i
  | str x => exact .str x
  | @lst a xs e =>
    by_cases z : a = p
    · subst z
      obtain ⟨y1, y2, y3, e2, _⟩ := hp'
      exact .lst e2
    · exact .lst (k _ _ z e)
  | @dct a kvs e => exact .dct (k _ _ (ne_of e e1 (by intro q; cases q)) e)
  | tup e => exact .tup (keepX_seqT ⟨x1, x2, x3, e1, by assumption⟩ k e)
theorem PlR.keepX {v : V} {b : Bool} (hp : PoolO (H p)) (hp' : PoolO (H' p)) (k : KeepX p H H') (h : PlR K H v b) : PlR K H' v b := by
  cases b with
  | true => exact h
  | false =>
    rcases h with h | ⟨t, h, n⟩
    · exact .inl h
    · exact .inr ⟨t, h.keepX hp hp' k, n⟩
theorem ElR.keepX {x : V} {o : Option Cell} (hp : PoolO (H p)) (hp' : PoolO (H' p)) (k : KeepX p H H') (h : ElR K H x o) : ElR K H' x o := by
  cases o with
  | some c => exact ⟨h.1.kt (.of_keepX hp k), h.2⟩
  | none =>
    rcases h with ⟨t, h, n⟩ | ⟨t, ys, e, h, n⟩ | ⟨t, y0, y1, b0, b1, e, h, p0, p1, n⟩
    · exact .inl ⟨t, h.keepX hp hp' k, n⟩
    · exact .inr (.inl ⟨t, ys, e, keepX_seqT hp k h, n⟩)
    · exact .inr (.inr ⟨t, y0, y1, b0, b1, e, keepX_seqT hp k h, p0.keepX hp hp' k, p1.keepX hp hp' k, n⟩)
theorem PlanV.keepX {v : V} {b : Verd} (hp : PoolO (H p)) (hp' : PoolO (H' p)) (k : KeepX p H H') (h : PlanV K H v b) : PlanV K H' v b := by
  have lift : ∀ {xs : List V} {rs : List (Option Cell)}, Els K H xs rs → Els K H' xs rs := fun h => Paired.mono (fun _ _ q => q.keepX hp hp' k) h
  cases b with
  | ok =>
    obtain ⟨a, xs, rs, e, h1, h2, h3, h4, h5⟩ := h
    exact ⟨a, xs, rs, e, keepX_seqT hp k h1, h2, h3, lift h4, h5⟩
  | non =>
    rcases h with ⟨t, h, n⟩ | ⟨a, xs, e, h, n⟩
    · exact .inl ⟨t, h.keepX hp hp' k, n⟩
    · exact .inr ⟨a, xs, e, keepX_seqT hp k h, n⟩
  | «at» i =>
    obtain ⟨a, xs, rs, e, h1, h2, h3, h4, h5⟩ := h
    exact ⟨a, xs, rs, e, keepX_seqT hp k h1, h2, h3, lift h4, h5⟩
/-- odd things -/
theorem odd2 {t : Addr} {y0 y1 : V} {b0 b1 : Bool} (h : H t = some (.tup [y0, y1])) (p0 : PlR K H y0 b0) (p1 : PlR K H y1 b1) (n : (b0 && b1) = false) : ElR K H (.ref t) none :=
  .inr (.inr ⟨t, y0, y1, b0, b1, rfl, SqT.of h, p0, p1, n⟩)
theorem oddN {t : Addr} {ys : List V} (h : SqT K H t ys) (n : ys.length ≠ 2) : ElR K H (.ref t) none := .inr (.inl ⟨t, ys, rfl, h, n⟩)
theorem oddO {x : V} {t : String} (h : Oth K H x t) (n : t ≠ "tuple") : ElR K H x none := .inl ⟨t, h, n⟩
theorem pl_yes {i : Int} (h : 0 ≤ i ∧ i ≤ 7) : PlR K H (.int i) true := ⟨i, rfl, h.1, h.2⟩
theorem pl_no {i : Int} (h : ¬ (0 ≤ i ∧ i ≤ 7)) : PlR K H (.int i) false := .inl ⟨i, rfl, h⟩
theorem pl_oth {x : V} {t : String} (h : Oth K H x t) (n : t ≠ "int") : PlR K H x false := .inr ⟨t, h, n⟩
theorem odd_plan {a : Addr} {cs : List Cell} (h : PlanAt K H a cs) : ElR K H (.ref a) none := by
  obtain ⟨xs, h1, h2⟩ := h
  by_cases c : xs.length = 2
  · cases h2 with
    | nil => cases c
    | @cons x c0 xs1 cs1 r0 h3 =>
      cases h3 with
      | nil => cases c
      | @cons y c1 xs2 cs2 r1 h4 =>
        cases h4 with
        | cons _ _ =>
          simp at c
        | nil =>
          obtain ⟨t0, e0, q0⟩ := r0
          obtain ⟨t1, e1, q1⟩ := r1
          subst e0
          subst e1
          exact .inr (.inr ⟨a, _, _, false, false, rfl, h1, pl_oth (.tup q0) (by decide), pl_oth (.tup q1) (by decide), rfl⟩)
  · exact oddN h1 c
end
def spBent (K : PySem.W.Frag) : Sp := fun vs H Q _ => ∃ (p a : Addr) (cs : List Cell), vs = [.ref p, .ref a] ∧ PoolO (H p) ∧ PlanAt K H a cs ∧ Good cs ∧ cs.length ≤ 24 ∧
  ∀ H' v b, KeepX p H H' → PoolO (H' p) → PlanV K H' v b → Q v H'
end KS
namespace KS
open PySem PySem.Spec PyProof.Rows L2
section
variable {K : PySem.W.Frag} {σ : L2.St} {H : Hp} {Q : VK} {ta : TA}
/-- a display of values that are at hand: a new object -/
theorem tup_ok (vs : List V) (h : ∀ R : List V → Hp → Prop, R vs H → ta σ H R) (hl : vs.length ≤ 64) (k : ∀ H' t, Same H H' → H' t = some (.tup vs) → H t = none → Q (.ref t) H') : tTup ta σ H Q :=
  h _ ⟨Nat.le_of_lt (small64 hl), fun p np => k _ p (same_new np) upd_same np⟩
theorem lst_ok (vs : List V) (h : ∀ R : List V → Hp → Prop, R vs H → ta σ H R) (hl : vs.length ≤ 64) (k : ∀ H' t, Same H H' → H' t = some (.lst vs) → H t = none → Q (.ref t) H') : tLst ta σ H Q :=
  h _ ⟨Nat.le_of_lt (small64 hl), fun p np => k _ p (same_new np) upd_same np⟩
theorem dnew_ok (k : ∀ H' t, Same H H' → H' t = some (.dK []) → H t = none → Q (.ref t) H') : tDNewK σ H Q :=
  fun p np => k _ p (same_new np) upd_same np
theorem catA_ok {a b : Addr} {xs ys : List V} (ha : SqT K H a xs) (hb : SqT K H b ys) (hl : xs.length + ys.length ≤ 64)
    (k : ∀ H' u, Same H H' → SqT K H' u (xs ++ ys) → Q (.ref u) H') : rCatA K (.ref a) (.ref b) H Q := by
  refine ⟨a, b, xs, ys, rfl, rfl, ha, hb, Nat.le_of_lt (small64 hl), fun e => ?_, fun _ e => ?_, fun _ _ p np => ?_⟩
  · subst e
    exact k H b (Same.refl _) hb
  · subst e
    exact k H a (Same.refl _) (by rw [List.append_nil]; exact ha)
  · exact k _ p (same_new np) (SqT.of upd_same)
theorem cut_to {xs : List V} {k : Nat} (h : k ≤ xs.length) : cutV xs none (some (k : Int)) = xs.take k := by
  unfold cutV
  rw [HT.sIx_none, HT.sIx_nat, Nat.min_eq_left h]
  simp
theorem cut_from {xs : List V} {k : Nat} (h : k ≤ xs.length) : cutV xs (some (k : Int)) none = xs.drop k := by
  unfold cutV
  rw [HT.sIx_none, HT.sIx_nat, Nat.min_eq_left h]
  exact List.take_of_length_le (by rw [List.length_drop]; exact Nat.le_refl _)
/-- t[:k], t[k:], whatever object comes -/
theorem slTo_ok {a : Addr} {xs : List V} {n : Nat} (ha : SqT K H a xs) (hn : n ≤ xs.length) (k : ∀ H' u, Same H H' → SqT K H' u (xs.take n) → Q (.ref u) H') : rSlA K (.ref a) none (some (n : Int)) H Q := by
  refine ⟨a, xs, rfl, ha, fun z => ?_, fun _ p np => ?_⟩
  · obtain ⟨_, z2⟩ := z
    rw [show HT.sIx xs.length xs.length (some (n : Int)) = min n xs.length from HT.sIx_nat _ _ n] at z2
    have e : n = xs.length := by omega
    refine k H a (Same.refl _) ?_
    rw [e, List.take_length]
    exact ha
  · refine k _ p (same_new np) (SqT.of ?_)
    rw [upd_same, cut_to hn]
theorem slFrom_ok {a : Addr} {xs : List V} {n : Nat} (ha : SqT K H a xs) (hn : n ≤ xs.length) (k : ∀ H' u, Same H H' → SqT K H' u (xs.drop n) → Q (.ref u) H') : rSlA K (.ref a) (some (n : Int)) none H Q := by
  refine ⟨a, xs, rfl, ha, fun z => ?_, fun _ p np => ?_⟩
  · obtain ⟨z1, _⟩ := z
    rw [show HT.sIx xs.length 0 (some (n : Int)) = min n xs.length from HT.sIx_nat _ _ n] at z1
    refine k H a (Same.refl _) ?_
    rcases Nat.eq_zero_or_pos n with e | e
    · subst e
      exact ha
    · have e2 : xs.length = 0 := by omega
      have e3 := List.eq_nil_of_length_eq_zero e2
      subst e3
      simpa using ha
  · refine k _ p (same_new np) (SqT.of ?_)
    rw [upd_same, cut_from hn]
theorem paired_take {α β : Type} {F : α → β → Prop} : ∀ {l₁ : List α} {l₂ : List β} (i : Nat), Paired F l₁ l₂ → Paired F (l₁.take i) (l₂.take i)
  | _, _, 0, _ => .nil
  | _, _, _ + 1, .nil => .nil
  | _, _, i + 1, .cons r t => .cons r (paired_take i t)
theorem paired_drop {α β : Type} {F : α → β → Prop} : ∀ {l₁ : List α} {l₂ : List β} (i : Nat), Paired F l₁ l₂ → Paired F (l₁.drop i) (l₂.drop i)
  | _, _, 0, h => h
  | _, _, _ + 1, .nil => .nil
  | _, _, i + 1, .cons _ t => paired_drop i t
theorem paired_rev {α β : Type} {F : α → β → Prop} : ∀ {l₁ : List α} {l₂ : List β}, Paired F l₁ l₂ → Paired F l₁.reverse l₂.reverse
  | _, _, .nil => .nil
  | _, _, .cons r t => by
    rw [List.reverse_cons, List.reverse_cons]
    exact paired_append (paired_rev t) (.cons r .nil)
end
end KS
namespace KS
open PySem PySem.Spec PyProof.Rows L2
theorem new_ok {H : Hp} {o : HO} {Q : VK} (k : ∀ H' t, Same H H' → H' t = some o → H t = none → Q (.ref t) H') : ∀ p, H p = none → Q (.ref p) (upd H p o) := fun p np => k _ p (same_new np) upd_same np
theorem pick_ok {items : List V} {r : Int} (h0 : 0 ≤ r) (h1 : r < (items.length : Int)) : ∃ x, x ∈ items ∧ atI items r = some x := by
  obtain ⟨n, rfl⟩ := Int.eq_ofNat_of_zero_le h0
  have hn : n < items.length := by omega
  exact ⟨items[n], List.getElem_mem hn, atI_nat (List.getElem?_eq_getElem hn)⟩
end KS
namespace KS
open PySem PySem.Spec PyProof.Rows L2
/-! ### anything held against a text by != -/
theorem dct_ne_txt {prog : Program} {w : World} {A : Around} {E : Value → Shared → Prop} {s : Shared} {d : Addr} {z : Str} {u : Tok} {od : Option Addr} {es : Array DictEntry} {ep : Nat} {sl : Array (Option Value)} (ho : s.heap.get? d = some { cls := .type "dict", dict := od, data := .dict es ep, slots := sl }) (hu : A.units < cLine) {Q : Value → Shared → Prop} (h : Q (.bool true) s) :
    wpAny (model prog w) A (compareOp .NotEq (.ref d) (.str z u)) Q E s := by
  have hd : s.TypeIs (.ref d) "dict" := ⟨_, ho, rfl⟩
  refine SeqAt.rc_ne_decline_or (k := false) hd (typeIs_str s z u) (by decide) PySem.F.sub_str_dict PySem.F.slot_dict_ne PySem.F.slot_str_ne_refl (fun Q' hq => ?_) (fun Q' hq => ?_)
    (fun Q' hq => wpAny_of_eq (rfl : isSame (.ref d) (.str z u) = pure false) hq) (.inr hu) h
  · refine wpAny_call_entry PySem.F.slot_dict_ne hd PySem.F.entry_dict_ne ?_ (PySem.F.args_dict_ne_2 _ _)
    show wpAny _ _ (Builtin.Dict.dictSlotArgs "__ne__" ⟨[.ref d, .str z u], []⟩ >>= _) _ _ s
    refine wpAny_bind ?_
    unfold Builtin.Dict.dictSlotArgs
    refine wpAny_bind (wpAny_notOrdered_dict hd ?_)
    show wpAny _ _ (pure (Value.ref d, Value.str z u)) _ _ s
    refine wpAny_pure ?_
    refine wpAny_bind (wpAny_isInstance (T := "str") (typeIs_str s z u) PySem.F.sub_str_dict ?_)
    simp only [Bool.not_false, if_true]
    exact wpAny_bind (wpAny_rule (wpAny_pure ⟨_, rfl, hq⟩))
  · have hs : Meets (Builtin.«str.__ne__» ⟨[.str z u, .ref d], []⟩) (fun _ R s => s.heap.get? d = some { cls := .type "dict", dict := od, data := .dict es ep, slots := sl } ∧ R (.ok (.ret .notImplemented)) s) :=
      .of_wp fun prog w A R s h => by
        obtain ⟨hp, g, dd, tk, os⟩ := s
        obtain ⟨hl, h⟩ := h
        wp_walk using wpAny_load hl
        exact ⟨_, rfl, h⟩
    exact call_meets PySem.F.slot_str_ne_refl (typeIs_str s z u) PySem.F.entry_str_ne (PySem.F.args_str_ne_2 _ _) hs ⟨ho, hq⟩
def rNeA (K : PySem.W.Frag) : R2 := fun x y H Q => ∃ (t : String) (z : Str), y = .str z ∧ Oth K H x t ∧ Q (.bl (!decide (x = .str z))) H
theorem op_neA {X : Cx} (hu : X.A.units < cLine) : OpR X (compareOp .NotEq) (rNeA X.K) := by
  intro pins s σ H x y v u Q I rx ry h
  obtain ⟨t, z, rfl, ho, q⟩ := h
  have sc : ∀ {x : V}, scal x (.str z) = true → RelV x v → Q (.bl (!decide (x = .str z))) H → wpAny (model X.prog X.w) X.A (compareOp .NotEq v u) (EP X pins σ Q) X.xe s := fun {x} hs r q => op_ne pins s σ H x (.str z) v u Q I r ry ⟨hs, q⟩
  have rf : ∀ a : Addr, decide (V.ref a = V.str z) = false := fun a => decide_eq_false (fun e => by cases e)
  cases ho with
  | non => exact sc rfl rx q
  | bl b => exact sc rfl rx q
  | int i => exact sc rfl rx q
  | str w => exact sc rfl rx q
  | lst e =>
    rw [rf] at q
    obtain ⟨tk, rfl⟩ := ry
    cases rx
    obtain ⟨its, r, ⟨o, n, ho, hc, _, hd⟩, _⟩ := I.list (SqL.of e)
    exact SeqAt.RcNeAt.list_str z tk ⟨o, ho, hc, n, hd⟩ hu _ _ _ _ ⟨.bl true, H, I, rfl, q⟩
  | tup e =>
    rw [rf] at q
    obtain ⟨tk, rfl⟩ := ry
    cases rx
    obtain ⟨its, r, ⟨o, ho, hc, n, hd⟩, _⟩ := I.tuple e
    exact SeqAt.RcNeAt.tuple_str z tk ⟨o, ho, hc, n, hd⟩ hu _ _ _ _ ⟨.bl true, H, I, rfl, q⟩
  | dct e =>
    rw [rf] at q
    obtain ⟨tk, rfl⟩ := ry
    cases rx
    obtain ⟨_, _, _, _, ⟨cls, dd, data, sl⟩, _, _, e1, ex, dat, _⟩ := I.hok _ _ e
    have hc := ex.1
    simp only at hc dat
    subst hc dat
    exact dct_ne_txt e1 hu ⟨.bl true, H, I, rfl, q⟩
/-! ### the tuple without elements, times a number -/
theorem tup0_mul (l : Addr) (n : Nat) (dd : Option Addr) (sl : Array (Option Value)) (x : Int) (u : Tok) (c0 : (decide (x < -(2 ^ 63)) || decide (x ≥ 2 ^ 63)) = false) :
    Meets (Builtin.«tuple.__mul__» ⟨[.ref l, .int x u], []⟩) (fun _ R s => s.heap.get? l = some { cls := .type "tuple", dict := dd, data := .seq #[] n, slots := sl } ∧ R (.ok (.ret (Value.ref l))) s) :=
  .of_wp fun prog w A R s h => by
    obtain ⟨hp, g, d, tk, os⟩ := s
    obtain ⟨hl, h⟩ := h
    have f1 := AutoSeq1.idx_int
    wp_walk using wpAny_loadPart' hl
    repeat (first
      | (refine wpAny_ite_false (decide_eq_false (by rw [c0]; exact Bool.false_ne_true)) ?_; wp_walk using wpAny_loadPart' hl)
      | (refine wpAny_ite_true (by first | rfl | decide) ?_; wp_walk using wpAny_loadPart' hl))
    exact ⟨_, rfl, h⟩
def rRepA (K : PySem.W.Frag) : R2 := fun x y H Q => ∃ l k xs, x = .ref l ∧ y = .int k ∧ SqT K H l xs ∧ 2 ≤ k ∧ k ≤ 1000 ∧ xs.length ≤ 1000 ∧ (xs = [] → Q (.ref l) H) ∧ (xs ≠ [] → ∀ p, H p = none → Q (.ref p) (upd H p (.tup (List.replicate k.toNat xs).flatten)))
theorem op_repA {X : Cx} : OpR X (binaryOp .Mult) (rRepA X.K) := by
  intro pins s σ H x y v u Q I rx ry h
  obtain ⟨l, k, xs, rfl, rfl, hT, h1, h2, hz, q0, q1⟩ := h
  by_cases he : xs = []
  · subst he
    have q := q0 rfl
    cases rx
    obtain ⟨t, rfl⟩ := ry
    obtain ⟨its, r, ⟨⟨cls, dd, data, sl⟩, ho, hc, n, hd⟩, hs⟩ := I.tuple hT
    simp only at hc hd
    subst hc hd
    have e0 : its = [] := by
      have := r.length
      exact List.eq_nil_of_length_eq_zero this.symm
    subst e0
    have c0 : (decide (k < -(2 ^ 63)) || decide (k ≥ 2 ^ 63)) = false := by
      rw [decide_eq_false (by omega), decide_eq_false (by omega)] <;> rfl
    exact wpAny_binaryOp_repeat_ref (T := "tuple") (U := "int") (by decide) ⟨_, ho, rfl⟩ (fun s' => typeIs_int s' k t) noFill_tuple_mul F.fills_int_mul F.slot_int_rmul repeat_tuple F.slot_int_index.lookup
      (call_meets F.slot_int_rmul (typeIs_int s k t) F.entry_int_rmul (F.args_int_rmul_2 _ _) (int_rmul_tuple k t l #[] n dd sl)
        ⟨ho, rfl, ⟨_, ho, rfl⟩, call_meets F.slot_tuple_mul ⟨_, ho, rfl⟩ F.entry_tuple_mul (F.args_tuple_mul_2 _ _) (tup0_mul l n dd sl k t c0) ⟨ho, .ref l, H, I, rfl, q⟩⟩)
  · exact op_repT pins s σ H _ _ v u Q I rx ry ⟨l, k, xs, rfl, rfl, hT, he, h1, h2, hz, q1 he⟩
end KS
namespace KS
open PySem PySem.Spec PyProof.Rows L2
/-! ### a tuple times a number from 1 on -/
theorem tup1_mul (l : Addr) (its : Array Value) (n : Nat) (dd : Option Addr) (sl : Array (Option Value)) (u : Tok) :
    Meets (Builtin.«tuple.__mul__» ⟨[.ref l, .int 1 u], []⟩) (fun _ R s => s.heap.get? l = some { cls := .type "tuple", dict := dd, data := .seq its n, slots := sl } ∧ R (.ok (.ret (Value.ref l))) s) :=
  .of_wp fun prog w A R s h => by
    obtain ⟨hp, g, d, tk, os⟩ := s
    obtain ⟨hl, h⟩ := h
    have f1 := AutoSeq1.idx_int
    wp_walk using wpAny_loadPart' hl
    repeat (first
      | (refine wpAny_ite_false (by decide) ?_; wp_walk using wpAny_loadPart' hl)
      | (refine wpAny_ite_true (by first | rfl | decide | simp) ?_; wp_walk using wpAny_loadPart' hl))
    exact ⟨_, rfl, h⟩
/-- (..) * n, not empty: for 1 the tuple itself -/
def rRep1 (K : PySem.W.Frag) : R2 := fun x y H Q => ∃ l k xs, x = .ref l ∧ y = .int k ∧ H l = some (.tup xs) ∧ 1 ≤ k ∧ k ≤ 1000 ∧ xs.length ≤ 1000 ∧ xs ≠ [] ∧ ∀ H' p, Same H H' → H' p = some (.tup (List.replicate k.toNat xs).flatten) → Q (.ref p) H'
theorem op_rep1 {X : Cx} : OpR X (binaryOp .Mult) (rRep1 X.K) := by
  intro pins s σ H x y v u Q I rx ry h
  obtain ⟨l, k, xs, rfl, rfl, hT, h1, h2, hz, hne, q⟩ := h
  by_cases he : k = 1
  · subst he
    cases rx
    obtain ⟨t, rfl⟩ := ry
    obtain ⟨its, r, ⟨⟨cls, dd, data, sl⟩, ho, hc, n, hd⟩, hs⟩ := I.tuple (SqT.of hT)
    simp only at hc hd
    subst hc hd
    refine wpAny_binaryOp_repeat_ref (T := "tuple") (U := "int") (by decide) ⟨_, ho, rfl⟩ (fun s' => typeIs_int s' 1 t) noFill_tuple_mul F.fills_int_mul F.slot_int_rmul repeat_tuple F.slot_int_index.lookup
      (call_meets F.slot_int_rmul (typeIs_int s 1 t) F.entry_int_rmul (F.args_int_rmul_2 _ _) (int_rmul_tuple 1 t l its.toArray n dd sl)
        ⟨ho, rfl, ⟨_, ho, rfl⟩, call_meets F.slot_tuple_mul ⟨_, ho, rfl⟩ F.entry_tuple_mul (F.args_tuple_mul_2 _ _) (tup1_mul l its.toArray n dd sl t) ⟨ho, .ref l, H, I, rfl, q H l (Same.refl _) ?_⟩⟩)
    rw [hT]
    simp
  · exact op_repT pins s σ H _ _ v u Q I rx ry ⟨l, k, xs, rfl, rfl, SqT.of hT, hne, by omega, h2, hz, fun p np => q _ p (same_new np) upd_same⟩
section
variable {K : PySem.W.Frag} {H : Hp} {Q : VK}
/-- a + b, b made at run time and not empty -/
theorem catL_ok {a b : Addr} {xs ys : List V} (ha : SqT K H a xs) (hb : H b = some (.tup ys)) (ne : ys ≠ []) (hl : xs.length + ys.length ≤ 64)
    (k : ∀ H' u, Same H H' → H' u = some (.tup (xs ++ ys)) → Q (.ref u) H') : rCatA K (.ref a) (.ref b) H Q := by
  refine ⟨a, b, xs, ys, rfl, rfl, ha, SqT.of hb, Nat.le_of_lt (small64 hl), fun e => ?_, fun _ e => absurd e ne, fun _ _ p np => ?_⟩
  · subst e
    exact k H b (Same.refl _) hb
  · exact k _ p (same_new np) upd_same
/-- a + b, a made at run time and not empty -/
theorem catR_ok {a b : Addr} {xs ys : List V} (ha : H a = some (.tup xs)) (hb : SqT K H b ys) (ne : xs ≠ []) (hl : xs.length + ys.length ≤ 64)
    (k : ∀ H' u, Same H H' → H' u = some (.tup (xs ++ ys)) → Q (.ref u) H') : rCatA K (.ref a) (.ref b) H Q := by
  refine ⟨a, b, xs, ys, rfl, rfl, SqT.of ha, hb, Nat.le_of_lt (small64 hl), fun e => absurd e ne, fun _ e => ?_, fun _ _ p np => ?_⟩
  · subst e
    exact k H a (Same.refl _) (by rw [List.append_nil]; exact ha)
  · exact k _ p (same_new np) upd_same
end
end KS
namespace KS
open PySem PySem.Spec PyProof.Rows L2
open PySem.W (AlikeAll dataLt minD min_list_default readsAll_atA reads_keeps alike_unique)
/-! ### x not in t -/
def rNotInT (K : PySem.W.Frag) : V → V → Hp → VK → Prop := fun x y H Q => ∃ d ds, Dp K H x d ∧ Dp K H y (.tuple ds) ∧ SeqAt.shaped d = true ∧ SeqAt.shaped (.tuple ds) = true ∧ Q (.bl (!ds.any fun z => PyData.eqv z d)) H
theorem op_notInT {X : Cx} (hu : X.A.units + 65 < cLine) : OpR X (compareOp .NotIn) (rNotInT X.K) := by
  intro pins s σ H x y v u Q I rx ry h
  obtain ⟨d, ds, hd, he, sd, se, q⟩ := h
  obtain ⟨as, r1⟩ := Dp.reads I d x v hd rx
  obtain ⟨bs, r2⟩ := Dp.reads I (.tuple ds) y u he ry
  refine SeqAt.notIn_tuple_reads r2 r1 (SeqAt.canLay_of_shaped se) (SeqAt.canLay_of_shaped sd) ?_ ⟨.bl _, H, I, rfl, q⟩
  have := SeqAt.depth_of_shaped sd
  have h2 : min (PyData.depthAll ds) d.depth ≤ d.depth := Nat.min_le_right _ _
  omega
/-! ### repr(x), x None or plain data -/
def rReprN (K : PySem.W.Frag) : List V → Hp → VK → Prop := fun xs H Q => (xs = [.non] ∧ Q (.str "None") H) ∨ ∃ (a : Addr) (d : PyData), xs = [.ref a] ∧ Dp K H (.ref a) d ∧ d.showable = true ∧ d.hasDict = false ∧ d.shown.length ≤ sizeLine ∧ d.depth ≤ 64 ∧ Q (.str d.shown) H
theorem call_reprN {X : Cx} (hgd : X.A.guards = some []) (hu : X.A.units + 100 < cLine) : CallR X (.builtin "repr") (rReprN X.K) := by
  intro pins s σ H xs us Q I r h
  rcases h with ⟨rfl, q⟩ | h
  · cases r with
    | cons r rr =>
      cases rr
      cases r
      exact P.repr_of_none ⟨.str "None", H, I.tok _, ⟨_, rfl⟩, q⟩
  · exact call_reprD hgd hu pins s σ H xs us Q I r h
/-! ### min(l, default=None), l a list of plain data, whose first is least -/
def rMinF (K : PySem.W.Frag) : List V → List V → Hp → VK → Prop := fun xs zs H Q => ∃ (l : Addr) (ys : List V) (ds : List PyData), xs = [.ref l] ∧ zs = [.non] ∧ SqL K H l ys ∧ DpAll K H ys ds ∧ AlikeAll ds ∧ PyData.depthAll ds ≤ 64 ∧
  ds.Pairwise (fun a b => dataLt b a = false) ∧ ds.Nodup ∧ (ds = [] → Q .non H) ∧ (∀ y d, ys.head? = some y → ds.head? = some d → Q y H)
theorem minD_first {x : PyData} : ∀ {xs : List PyData}, (∀ y ∈ xs, dataLt y x = false) → minD x xs = x
  | [], _ => rfl
  | y :: ys, h => by
    show ys.foldl _ (if dataLt y x then y else x) = x
    rw [h y List.mem_cons_self]
    exact minD_first fun z hz => h z (List.mem_cons_of_mem _ hz)
theorem cr_minF {X : Cx} (hc : X.calm = true) (hu : X.A.units + 100 < cLine) : CallRK X (.builtin "min") [Str.ofString "default"] (rMinF X.K) := by
  intro pins s σ H xs zs us ws Q I rx rz h
  obtain ⟨l, ys, ds, rfl, rfl, hl, hd, al, dp, pw, nd, q0, q1⟩ := h
  rw [Vals.ref1 rx]
  cases rz with
  | cons r rr =>
    cases rr
    cases r
    obtain ⟨its, rv, p, _⟩ := I.list hl
    obtain ⟨as, hr⟩ := Dp.readsAll I ds ys its hd rv
    refine min_list_default (I.ok.hd hc) p.isList (by simpa using hr) al (by omega) (fun e h' tk hk => ⟨.non, H, I.kept hk, rfl, q0 e⟩) fun y zs i v h' tk bs e hv rd hk => ?_
    subst e
    have hv' : its[i]? = some v := by simpa using hv
    have hm : minD y zs = y := minD_first fun z hz => (List.pairwise_cons.mp pw).1 z hz
    rw [hm] at rd
    -- the item is the first one
    obtain ⟨bs2, r2, hlt, hmem, _⟩ := readsAll_atA (vs := its.toArray) (xs := y :: zs) (by simpa using hr) i v (by simpa using hv)
    have r2' := reads_keeps hk r2
    have eq : (y :: zs).getD i .none = y := alike_unique _ _ v _ _ (al.1 _ hmem _ List.mem_cons_self) r2' rd
    have i0 : i = 0 := by
      cases i with
      | zero => rfl
      | succ j =>
        have hj : (y :: zs).getD (j + 1) .none = zs.getD j .none := rfl
        rw [hj] at eq
        have hjl : j < zs.length := by simpa using hlt
        have em : zs.getD j .none ∈ zs := by
          rw [List.getD_eq_getElem?_getD, List.getElem?_eq_getElem hjl]
          exact List.getElem_mem hjl
        rw [eq] at em
        exact absurd em (List.nodup_cons.mp nd).1
    subst i0
    cases rv with
    | nil => cases hv'
    | cons ra rb =>
      have ev := Option.some.inj hv'
      subst ev
      exact ⟨_, H, I.kept hk, ra, q1 _ y rfl rfl⟩
end KS
namespace KS
open PySem PySem.Spec PyProof.Rows L2
open PySem.W (AlikeAll dataLt minD min_tuple_data minD_ints)
/-! ### min of a tuple of whole numbers -/
def rMinTI (K : PySem.W.Frag) : List V → Hp → VK → Prop := fun vs H Q => ∃ (a : Addr) (n : Int) (ns : List Int), vs = [V.ref a] ∧ SqT K H a ((n :: ns).map V.int) ∧ Q (.int (ns.foldl min n)) H
theorem alike_all_ints (ns : List Int) : AlikeAll (ns.map PyData.int) := by
  refine ⟨fun d hd d' hd' => ?_, fun d hd => ?_⟩
  · obtain ⟨x, _, rfl⟩ := List.mem_map.mp hd
    obtain ⟨y, _, rfl⟩ := List.mem_map.mp hd'
    rfl
  · obtain ⟨x, _, rfl⟩ := List.mem_map.mp hd
    exact fun e => nomatch e
theorem cr_minTI {X : Cx} {K : PySem.W.Frag} (hK : X.K = K) (hc : X.calm = true) (hu : X.A.units + 64 < cLine) : CallR X (.builtin "min") (rMinTI K) := by
  subst hK
  intro pins s σ H vs us Q I r h
  obtain ⟨a, n, ns, rfl, hs, q⟩ := h
  obtain ⟨its, rv, hl, _⟩ := I.tuple hs
  rw [Vals.ref1 r]
  obtain ⟨as, hr⟩ := Dp.readsAll I ((n :: ns).map PyData.int) _ its (dp_ints (n :: ns)) rv
  have hd : PyData.depthAll ((n :: ns).map PyData.int) = 0 := PySem.W.depth_ints (n :: ns)
  refine min_tuple_data (x := .int n) (xs := ns.map PyData.int) (I.ok.hd hc) hl (by simpa using hr) (alike_all_ints (n :: ns)) ?_ ?_
  · show X.A.units + 1 + PyData.depthAll ((n :: ns).map PyData.int) < cLine
    omega
  · intro i v h' tk bs _ rd hk
    rw [minD_ints] at rd
    cases rd with
    | int z t => exact ⟨.int _, H, I.kept hk, ⟨_, rfl⟩, q⟩
end KS
namespace KS
open PySem PySem.Spec PyProof.Rows L2
def topS (i : Nat) : Stmt := PySem.Challenge.pw_keepsort_k48_settled_tables_counted.main.body.getD i (.Pass ⟨0, 0, 0, 0⟩)
abbrev sCell : Stmt := topS 13
abbrev sPool : Stmt := topS 14
abbrev sDraw : Stmt := topS 15
theorem scCell : FnScope ["_law_script", "_law_k", "_law_state", "_law_item"] ["_law_script", "_law_k"] (defScope sCell) := ⟨rfl, rfl, rfl, by decide +kernel, rfl, by decide +kernel, by decide +kernel⟩
theorem scPool : FnScope ["_law_item", "_law_digits"] ["_law_item"] (defScope sPool) := ⟨rfl, rfl, rfl, by decide +kernel, rfl, by decide +kernel, by decide +kernel⟩
theorem scDraw : FnScope ["_law_pool_here", "_law_most", "_law_state", "_law_digit"] ["_law_pool_here", "_law_most"] (defScope sDraw) := ⟨rfl, rfl, rfl, by decide +kernel, rfl, by decide +kernel, by decide +kernel⟩
section
variable {P : Program} {w : World} {K : PySem.W.Frag} {mg : Str → Option Value} {base : Heap}
theorem ok_cell {f : Addr} {fd : FuncData} (F : Fun K "_law_cell" "_law_cell" sCell f fd) (ml : mg "len" = none) : FnOk P w K mg base CX0 1 f fd ["_law_script", "_law_k"] (spCell K) := by
  refine F.ok scCell (fun vs H Q E h => ?_) (fun cdv A outer s H vs Q E hr h => ?_)
  · obtain ⟨a, ns, k, rfl, _⟩ := h
    rfl
  · obtain ⟨a, ns, k, rfl, hS, hk, q⟩ := h
    refine ⟨_, pss_cons (ps_if (pt_cmpR op_lt (pv 1) (pe_callB call_len_seq (by rfl) ml PySem.boot_len (pa_cons (pv 0) pa_nil)) (nomark _))
        (pss_one (ps_ret (pe_ix ix_list (pv 0) (pv 1) (fun _ _ => rfl)))) pss_nil)
      (pss_cons (ps_set (i := 2) scCell.nd rfl (.inl rfl) (pe_op op_mod (pe_op op_mul pe_int (pe_op op_add (pe_op op_add (pe_op op_mul (pv 1) (pv 1)) (pe_op op_mul pe_int (pv 1))) pe_int)) pe_int))
      (pss_cons (ps_for PassesOwn.never rfl (pi_list (pe_slice sl_list (pv 0) po_none (po_some pe_int))) (pg_name (i := 3) scCell.nd rfl (.inl rfl))
        (pss_one (ps_set (i := 2) scCell.nd rfl (.inl rfl) (pe_op op_mod (pe_op op_add (pe_op op_mul (pv 2) pe_int) (pv 3)) pe_int))))
      (pss_one (ps_ret (pv 2))))), ?_⟩
    refine ⟨_, rfl, _, rfl, a, ns.map V.int, rfl, .inl hS, _, _, rfl, rfl, _, rfl, ite2 (fun e => ?_) (fun e => ?_)⟩
    · have e0 : (k : Int) < ((ns.map V.int).length : Int) := of_decide_eq_true e
      rw [List.length_map] at e0
      have hj : k < ns.length := by omega
      refine ⟨_, rfl, _, rfl, a, _, _, .int ns[k], rfl, rfl, hS, atI_nat (j := k) ?_, q H _ (Same.refl H)⟩
      rw [List.getElem?_map, List.getElem?_eq_getElem hj]
      rfl
    · refine ⟨_, rfl, _, rfl, _, _, rfl, rfl, .inl ⟨by omega, by omega⟩, _, rfl, _, _, rfl, rfl, .inl ⟨by omega, by omega⟩, _, _, rfl, rfl, _, _, rfl, rfl, _, _, rfl, rfl, .inl ⟨by omega, by omega⟩, _, _, rfl, rfl, by show (0 : Int) < 2147483249; decide, ?_⟩
      refine ⟨_, rfl, 3, rfl, a, _, rfl, hS, fun c nc => ?_⟩
      have s1 := same_new (o := .lst (cutV (ns.map V.int) none (some 3))) nc
      have hc : SqL K (upd H c (.lst (cutV (ns.map V.int) none (some 3)))) c (cutV (ns.map V.int) none (some 3)) := SqL.of upd_same
      refine ⟨c, rfl, ⟨_, hc⟩, for_list (K := K) (a := c) (xs := cutV (ns.map V.int) none (some 3)) (fun i σ H' => ∃ (st : Int) (y : Option V), σ = [some (.ref a), some (.int k), some (.int st), y] ∧ 0 ≤ st ∧ st < 2147483249 ∧ H' = upd H c (.lst (cutV (ns.map V.int) none (some 3)))) ?_ ?_ ?_ ?_⟩
      · have b := int_mod_bd (60013 * ((k : Int) * k + 5 * k + 3)) (m := 2147483249) (by decide)
        exact ⟨_, none, rfl, b.1, b.2, rfl⟩
      · rintro i σ H' _ ⟨st, y, rfl, _, _, rfl⟩
        exact hc
      · rintro i x σ H' hi ⟨st, y, rfl, h0, h1, rfl⟩
        have hm : x ∈ ns.map V.int := by
          have := List.mem_of_getElem? hi
          unfold cutV at this
          exact List.mem_of_mem_drop (List.mem_of_mem_take this)
        obtain ⟨n, _, rfl⟩ := List.mem_map.mp hm
        have b := int_mod_bd (st * 41221 + n) (m := 2147483249) (by decide)
        refine ⟨_, rfl, _, _, rfl, rfl, .inl ⟨by omega, by omega⟩, _, rfl, _, _, rfl, rfl, _, _, rfl, rfl, by show (0 : Int) < 2147483249; decide, ?_⟩
        exact ⟨_, some (.int n), rfl, b.1, b.2, rfl⟩
      · rintro σ H' ⟨st, y, rfl, h0, h1, rfl⟩
        exact ⟨_, rfl, q _ _ s1⟩
theorem ok_pool {f : Addr} {fd : FuncData} (F : Fun K "_law_pool" "_law_pool" sPool f fd) (ma : mg "abs" = none) : FnOk P w K mg base CX0 1 f fd ["_law_item"] spPool := by
  refine F.ok scPool (fun vs H Q E h => ?_) (fun cdv A outer s H vs Q E hr h => ?_)
  · obtain ⟨n, rfl, _⟩ := h
    rfl
  · obtain ⟨n, rfl, q⟩ := h
    refine ⟨_, pss_cons (ps_set (i := 1) scPool.nd rfl (.inl rfl) (pe_ifExp (PW.pt (pw_or (pt_cmpR op_lt (pv 0) pe_int (nomark _)) (pw_or1 (pt_cmpR op_ge (pv 0) (pe_op op_pow pe_int pe_int) (nomark _)))))
        (pe_callB call_abs (by rfl) ma (by decide +kernel) (pa_cons (pv 0) pa_nil)) pe_int))
      (pss_one (ps_ret (pe_lst (pa_cons (pe_op op_mod (pv 0) pe_int) (pa_cons (pv 1) (pa_cons pe_int pa_nil)))))), ?_⟩
    have b := int_mod_bd n (m := 2147483249) (by decide)
    have fin : ∀ d : Int, 0 ≤ d → tRet (tLst (tCons (tOp (rI (fun _ j => 0 < j) fun i j => .int (i % j)) (tVar 0) (tC (.int 2147483249))) (tCons (tVar 1) (tCons (tC (.int 0)) tNil)))) { nx := fun _ H' => Q .non H', rt := Q } [some (.int n), some (.int d)] H := fun d hd => by
      refine ⟨_, rfl, _, _, rfl, rfl, by show (0 : Int) < 2147483249; decide, _, rfl, (by show 3 ≤ sizeLine; decide), fun p np => ?_⟩
      exact q _ _ (same_new np) np ⟨_, _, _, upd_same, b.1, b.2, hd⟩
    refine ⟨_, rfl, _, _, rfl, rfl, _, rfl, ite2 (fun e => ?_) (fun e => ?_)⟩
    · have e0 : n < 0 := of_decide_eq_true e
      refine iteT ⟨_, rfl, n, rfl, ?_⟩
      rw [if_pos e0]
      exact fin _ (by omega)
    · refine ⟨_, rfl, _, _, rfl, rfl, ⟨by decide, by decide, by decide⟩, _, _, rfl, rfl, _, rfl, ite2 (fun e1 => ?_) (fun e1 => ?_)⟩
      · have e0 : ¬ n < 0 := fun z => e (decide_eq_true z)
        refine ⟨_, rfl, n, rfl, ?_⟩
        rw [if_neg e0]
        exact fin _ (by omega)
      · exact fin _ (by omega)
theorem ok_draw {f : Addr} {fd : FuncData} (F : Fun K "_law_draw" "_law_draw" sDraw f fd) (md : mg "divmod" = none) : FnOk P w K mg base CX0 1 f fd ["_law_pool_here", "_law_most"] spDraw := by
  refine F.ok scDraw (fun vs H Q E h => ?_) (fun cdv A outer s H vs Q E hr h => ?_)
  · obtain ⟨p, m, rfl, _⟩ := h
    rfl
  · obtain ⟨p, m, rfl, ⟨a, b, c, hp, a0, a1, b0⟩, m0, m1, q⟩ := h
    refine ⟨_, pss_cons (ps_asg (pe_op op_add (pe_ix ix_list (pv 0) pe_int (fun _ _ => rfl)) pe_int) (pg_sub (pv 0) pe_int set_list))
      (pss_cons (ps_set (i := 2) scDraw.nd rfl (.inl rfl) (pe_ix ix_list (pv 0) pe_int (fun _ _ => rfl)))
      (pss_cons (ps_asg (pe_op op_mod (pe_op op_add (pe_op op_mul (pv 2) (pe_op op_add (pe_op op_mod (pv 2) pe_int) pe_int)) (pe_op op_mul pe_int (pe_ix ix_list (pv 0) pe_int (fun _ _ => rfl)))) pe_int) (pg_sub (pv 0) pe_int set_list))
      (pss_cons (ps_if (pt_cmpR op_gt (pe_ix ix_list (pv 0) pe_int (fun _ _ => rfl)) pe_int (nomark _))
        (pss_cons (ps_asg (pe_callB call_divmod (by rfl) md (by decide +kernel) (pa_cons (pe_ix ix_list (pv 0) pe_int (fun _ _ => rfl)) (pa_cons (pv 1) pa_nil)))
            (pg_tup (by rfl) (pgs_cons (pg_sub (pv 0) pe_int set_list) (pgs_cons (pg_name (i := 3) scDraw.nd rfl (.inl rfl)) pgs_nil))))
          (pss_one (ps_ret (pv 3)))) pss_nil)
      (pss_one (ps_ret (pe_op op_mod (pe_op op_fdiv (pe_ix ix_list (pv 0) pe_int (fun _ _ => rfl)) pe_int) (pv 1))))))), ?_⟩
    -- pool[2] = pool[2] + 1
    refine ⟨_, rfl, p, _, 2, .int c, rfl, rfl, SqL.of hp, rfl, _, _, rfl, rfl, _, rfl, p, _, 2, 2, rfl, rfl, hp, rfl, ?_⟩
    refine ⟨_, rfl, p, _, 0, .int a, rfl, rfl, SqL.of upd_same, rfl, ?_⟩
    have bm := int_mod_bd a (m := 50021) (by decide)
    refine ⟨_, rfl, _, rfl, _, _, rfl, rfl, by show (0 : Int) < 50021; decide, _, _, rfl, rfl, _, _, rfl, rfl, .inl ⟨by omega, by omega⟩, _, rfl, p, _, 2, .int (c + 1), rfl, rfl, SqL.of upd_same, rfl, _, _, rfl, rfl, .inl ⟨by decide, by decide⟩, _, _, rfl, rfl, _, _, rfl, rfl, by show (0 : Int) < 2147483249; decide, ?_⟩
    refine ⟨_, rfl, p, _, 0, 0, rfl, rfl, upd_same, rfl, ?_⟩
    have bz := int_mod_bd (a * (a % 50021 + 30011) + 80021 * (c + 1)) (m := 2147483249) (by decide)
    rw [upd_upd]
    show _
    refine ⟨_, rfl, p, _, 1, .int b, rfl, rfl, SqL.of upd_same, rfl, _, _, rfl, rfl, _, rfl, ite2 (fun e => ?_) (fun e => ?_)⟩
    · refine ⟨_, rfl, p, _, 1, .int b, rfl, rfl, SqL.of upd_same, rfl, _, rfl, b, m, rfl, ⟨m0, m1⟩, fun t nt => ?_⟩
      have npt : p ≠ t := ne_of_none upd_same nt
      refine ⟨t, _, rfl, SqT.of upd_same, rfl, _, _, rfl, ?_⟩
      refine ⟨_, rfl, p, _, 1, 1, rfl, rfl, by rw [upd_ne npt]; exact upd_same, rfl, _, [], rfl, rfl, ?_⟩
      have br := int_mod_bd b m0
      refine ⟨_, rfl, q _ _ (fun x o n e => ?_) ⟨_, _, _, upd_same, bz.1, bz.2, Int.ediv_nonneg b0 (by omega)⟩ br.1 br.2⟩
      rw [upd_ne n, upd_ne, upd_ne n]
      · exact e
      · intro z
        rw [z] at e
        rw [upd_ne (Ne.symm npt)] at nt
        rw [nt] at e
        cases e
    · refine ⟨_, rfl, p, _, 0, .int ((a * (a % 50021 + 30011) + 80021 * (c + 1)) % 2147483249), rfl, rfl, SqL.of upd_same, rfl, _, _, rfl, rfl, ⟨by decide, by decide⟩, _, rfl, _, _, rfl, rfl, m0, ?_⟩
      have br := int_mod_bd ((a * (a % 50021 + 30011) + 80021 * (c + 1)) % 2147483249 / 64) m0
      exact q _ _ keepX_upd ⟨_, _, _, upd_same, bz.1, bz.2, b0⟩ br.1 br.2
end
end KS
namespace KS
open PySem PySem.Spec PyProof.Rows L2
abbrev sWhole : Stmt := topS 5
abbrev sBetween : Stmt := topS 6
theorem scWhole : FnScope ["value"] ["value"] (defScope sWhole) := ⟨rfl, rfl, rfl, by decide +kernel, rfl, by decide +kernel, by decide +kernel⟩
theorem scBetween : FnScope ["value", "least", "most"] ["value", "least", "most"] (defScope sBetween) := ⟨rfl, rfl, rfl, by decide +kernel, rfl, by decide +kernel, by decide +kernel⟩
section
variable {P : Program} {w : World} {K : PySem.W.Frag} {mg : Str → Option Value} {base : Heap}
theorem ok_whole {f : Addr} {fd : FuncData} (F : Fun K "is_whole" "is_whole" sWhole f fd) (mi : mg "isinstance" = none) (mI : mg "int" = none) (mB : mg "bool" = none) : FnOk P w K mg base CX0 1 f fd ["value"] spWhole := by
  refine F.ok scWhole (fun vs H Q E h => ?_) (fun cdv A outer s H vs Q E hr h => ?_)
  · obtain ⟨i, rfl, _⟩ := h
    rfl
  · obtain ⟨i, rfl, q⟩ := h
    refine ⟨_, pss_one (ps_ret (pe_and (pe_callB call_isi (by rfl) mi (by decide +kernel) (pa_cons (pv 0) (pa_cons (pe_bltn (v := .ty "int") (by rfl) mI (by decide +kernel) rfl) pa_nil)))
      (pe_one (pe_not (pe_callB call_isi (by rfl) mi (by decide +kernel) (pa_cons (pv 0) (pa_cons (pe_bltn (v := .ty "bool") (by rfl) mB (by decide +kernel) rfl) pa_nil))))))), ?_⟩
    refine ⟨_, rfl, _, _, _, _, true, rfl, .ty "int", .base (.int i), kit_ty (by decide +kernel), true, rfl, ?_⟩
    refine ⟨_, rfl, _, _, _, _, false, rfl, .ty "bool", .base (.int i), kit_ty (by decide +kernel), false, rfl, ?_⟩
    exact q
theorem ok_between {f fW : Addr} {fd fdW : FuncData} (F : Fun K "is_between" "is_between" sBetween f fd) (GW : FnOk P w K mg base CX0 1 fW fdW ["value"] spWhole) (bW : Binds K fdW ["value"] []) (gW : mg "is_whole" = some (.ref fW)) (kW : PySem.W.keepIn K (.ref fW) = true) :
    FnOk P w K mg base CX0 2 f fd ["value", "least", "most"] spBetween := by
  refine F.ok scBetween (fun vs H Q E h => ?_) (fun cdv A outer s H vs Q E hr h => ?_)
  · obtain ⟨i, lo, hi, rfl, _⟩ := h
    rfl
  · obtain ⟨i, lo, hi, rfl, h1, h2, q⟩ := h
    refine ⟨_, pss_one (ps_ret (pe_and (pe_call GW hr (by rfl) gW kW bW .nil pass0 (pa_cons (pv 0) pa_nil)) (pe_one (pe_chain op_le op_le (pv 1) (pv 0) (pv 2))))), ?_⟩
    refine ⟨_, rfl, i, rfl, true, rfl, ?_⟩
    refine ⟨_, rfl, _, rfl, _, _, rfl, rfl, true, bl_true h1, ?_⟩
    refine ⟨_, rfl, _, _, rfl, rfl, ?_⟩
    show Q (V.bl (decide (i ≤ hi))) H
    rw [bl_true h2]
    exact q
end
end KS
namespace KS
open PySem PySem.Spec PyProof.Rows L2 RZ
abbrev sRcOk : Stmt := topS 8
theorem scRcOk : FnScope ["rows", "columns"] ["rows", "columns"] (defScope sRcOk) := ⟨rfl, rfl, rfl, by decide +kernel, rfl, by decide +kernel, by decide +kernel⟩
abbrev nLast : List Str := ["rows", "columns", "table", "limit", "count", "value"]
section
variable {P : Program} {w : World} {K : PySem.W.Frag} {mg : Str → Option Value} {base : Heap}
theorem ok_rcOk {f fB : Addr} {fd fdB : FuncData} {tk : Tok} (F : Fun K "check_rectangle" "check_rectangle" sRcOk f fd) (GB : FnOk P w K mg base CX0 2 fB fdB ["value", "least", "most"] spBetween) (bB : Binds K fdB ["value", "least", "most"] []) (gB : mg "is_between" = some (.ref fB)) (kB : PySem.W.keepIn K (.ref fB) = true)
    (mM : mg "MOST_CELLS" = some (.int 24 tk)) : FnOk P w K mg base CX0 3 f fd ["rows", "columns"] spRcOk := by
  refine F.ok scRcOk (fun vs H Q E h => ?_) (fun cdv A outer s H vs Q E hr h => ?_)
  · obtain ⟨r, c, rfl, _⟩ := h
    rfl
  · obtain ⟨r, c, rfl, sd, q⟩ := h
    refine ⟨_, pss_cons (ps_if (pt_not (pt_val (pe_call GB hr (by rfl) gB kB bB .nil pass0 (pa_cons (pv 0) (pa_cons pe_int (pa_cons (pe_glob (v := .int 24) (by rfl) mM ⟨_, rfl⟩) pa_nil)))))) (pss_one ps_never) pss_nil)
      (pss_one (ps_if (PW.pt (pw_or (pt_not (pt_val (pe_call GB hr (by rfl) gB kB bB .nil pass0 (pa_cons (pv 1) (pa_cons pe_int (pa_cons (pe_glob (v := .int 24) (by rfl) mM ⟨_, rfl⟩) pa_nil))))))
        (pw_or1 (pt_cmpR op_gt (pe_op op_mul (pv 0) (pv 1)) (pe_glob (v := .int 24) (by rfl) mM ⟨_, rfl⟩) (nomark _))))) (pss_one ps_never) pss_nil)), ?_⟩
    have l := sd.le
    have r1 := sd.r1
    have c1 := sd.c1
    refine ⟨_, rfl, (r : Int), 1, 24, rfl, by omega, by omega, true, rfl, ?_⟩
    refine ⟨_, rfl, (c : Int), 1, 24, rfl, by omega, by omega, true, rfl, ?_⟩
    refine ⟨_, rfl, _, rfl, _, _, rfl, rfl, .inl ⟨by omega, by omega⟩, _, _, rfl, rfl, false, bl_false (by
      have := sd.rc
      have e : ((r : Int) * (c : Int)) = ((r * c : Nat) : Int) := (Int.natCast_mul r c).symm
      rw [e]
      omega), ?_⟩
    exact q
end
end KS
namespace KS
open PySem PySem.Spec PyProof.Rows L2
/-! ### a sort takes inversions away -/
def lt1 (a b : Int) : Nat := if a < b then 1 else 0
def cnt (a : Int) : List Int → Nat
  | [] => 0
  | b :: l => lt1 b a + cnt a l
def inv : List Int → Nat
  | [] => 0
  | a :: l => cnt a l + inv l
theorem cnt_set (b x y : Int) : ∀ {m : List Int} {j : Nat}, m[j]? = some y → cnt b (m.set j x) + lt1 y b = cnt b m + lt1 x b
  | [], _, h => by cases h
  | c :: m, 0, h => by
    cases h
    show lt1 x b + cnt b m + lt1 y b = lt1 y b + cnt b m + lt1 x b
    omega
  | c :: m, j + 1, h => by
    have ih := cnt_set b x y (m := m) (j := j) h
    show lt1 c b + cnt b (m.set j x) + lt1 y b = lt1 c b + cnt b m + lt1 x b
    omega
theorem lt1_four {x y b : Int} (h : y < x) : lt1 b y + lt1 x b ≤ lt1 b x + lt1 y b := by
  unfold lt1
  split <;> split <;> split <;> split <;> omega
theorem inv_front {x y : Int} (h : y < x) : ∀ {l : List Int} {j : Nat}, l[j]? = some y → cnt y (l.set j x) + inv (l.set j x) < cnt x l + inv l
  | [], _, e => by cases e
  | b :: m, 0, e => by
    cases e
    show lt1 x y + cnt y m + (cnt x m + inv m) < lt1 y x + cnt x m + (cnt y m + inv m)
    have h1 : lt1 x y = 0 := if_neg (by omega)
    have h2 : lt1 y x = 1 := if_pos h
    omega
  | b :: m, j + 1, e => by
    have ih := inv_front h (l := m) (j := j) e
    have c := cnt_set b x y (m := m) (j := j) e
    have f := lt1_four (b := b) h
    show lt1 b y + cnt y (m.set j x) + (cnt b (m.set j x) + inv (m.set j x)) < lt1 b x + cnt x m + (cnt b m + inv m)
    omega
theorem inv_swap {x y : Int} (h : y < x) : ∀ {l : List Int} {i j : Nat}, i < j → l[i]? = some x → l[j]? = some y → inv ((l.set i y).set j x) < inv l
  | [], _, _, _, e, _ => by cases e
  | a :: l, 0, 0, hij, _, _ => absurd hij (Nat.lt_irrefl _)
  | a :: l, 0, j + 1, _, e, e2 => by
    cases e
    exact inv_front h (l := l) (j := j) e2
  | a :: l, i + 1, 0, hij, _, _ => absurd hij (Nat.not_lt_zero _)
  | a :: l, i + 1, j + 1, hij, e, e2 => by
    have hij' : i < j := Nat.lt_of_succ_lt_succ hij
    have ih := inv_swap h (l := l) (i := i) (j := j) hij' e e2
    have c1 := cnt_set a y x (m := l) (j := i) e
    have e3 : (l.set i y)[j]? = some y := by
      rw [List.getElem?_set_ne (by omega)]
      exact e2
    have c2 := cnt_set a x y (m := l.set i y) (j := j) e3
    show cnt a ((l.set i y).set j x) + inv ((l.set i y).set j x) < cnt a l + inv l
    omega
theorem cnt_le (a : Int) : ∀ l : List Int, cnt a l ≤ l.length
  | [] => Nat.le_refl _
  | b :: l => by
    have := cnt_le a l
    have h : lt1 b a ≤ 1 := by
      unfold lt1
      split <;> omega
    show lt1 b a + cnt a l ≤ l.length + 1
    omega
theorem inv_le : ∀ l : List Int, 2 * inv l ≤ l.length * (l.length - 1)
  | [] => Nat.le_refl _
  | a :: l => by
    have h := inv_le l
    have c := cnt_le a l
    show 2 * (cnt a l + inv l) ≤ (l.length + 1) * (l.length + 1 - 1)
    rw [Nat.add_sub_cancel]
    cases hl : l.length with
    | zero =>
      rw [hl] at h c
      simp at h c
      omega
    | succ n =>
      rw [hl] at h c
      rw [Nat.add_sub_cancel] at h
      have e : (n + 1 + 1) * (n + 1) = (n + 1) * n + 2 * (n + 1) := by
        rw [Nat.add_mul (n + 1) 1 (n + 1), Nat.mul_add (n + 1) n 1]
        omega
      omega
end KS
namespace KS
open PySem PySem.Spec PyProof.Rows L2
def putN : List Int → List Nat → List Int → List Int
  | acc, k :: ks, y :: ys => putN (acc.set k y) ks ys
  | acc, _, _ => acc
def getN (acc : List Int) (ks : List Nat) : List Int := ks.map fun k => acc.getD k 0
theorem putN_nil (acc : List Int) (ys : List Int) : putN acc [] ys = acc := by
  unfold putN
  rfl
theorem putN_cons (acc : List Int) (k : Nat) (ks : List Nat) (y : Int) (ys : List Int) : putN acc (k :: ks) (y :: ys) = putN (acc.set k y) ks ys := by
  rw [putN]
theorem putN_none (acc : List Int) (ks : List Nat) : putN acc ks [] = acc := by
  cases ks <;> (unfold putN; rfl)
theorem putN_len : ∀ (ks : List Nat) (ys acc : List Int), (putN acc ks ys).length = acc.length
  | [], ys, acc => by rw [putN_nil]
  | k :: ks, [], acc => by rw [putN_none]
  | k :: ks, y :: ys, acc => by rw [putN_cons, putN_len ks ys, List.length_set]
theorem putN_off : ∀ {ks : List Nat} {ys acc : List Int} {i : Nat}, i ∉ ks → (putN acc ks ys)[i]? = acc[i]?
  | [], ys, acc, i, _ => by rw [putN_nil]
  | k :: ks, [], acc, i, _ => by rw [putN_none]
  | k :: ks, y :: ys, acc, i, h => by
    have hk : k ≠ i := fun e => h (e ▸ List.mem_cons_self)
    rw [putN_cons, putN_off (fun m => h (List.mem_cons_of_mem _ m)), List.getElem?_set_ne hk]
theorem getD_of {acc : List Int} {k : Nat} {v : Int} (h : acc[k]? = some v) : acc.getD k 0 = v := by
  rw [List.getD_eq_getElem?_getD, h]
  rfl
theorem get_put : ∀ {ks : List Nat} {ys acc : List Int}, ks.Nodup → ks.length = ys.length → (∀ k ∈ ks, k < acc.length) → getN (putN acc ks ys) ks = ys
  | [], [], acc, _, _, _ => rfl
  | [], _ :: _, acc, _, h, _ => by cases h
  | _ :: _, [], acc, _, h, _ => by cases h
  | k :: ks, y :: ys, acc, nd, hl, hb => by
    rw [List.nodup_cons] at nd
    rw [putN_cons]
    show (putN (acc.set k y) ks ys).getD k 0 :: getN (putN (acc.set k y) ks ys) ks = y :: ys
    rw [get_put nd.2 (by simpa using hl) (fun j hj => by rw [List.length_set]; exact hb j (List.mem_cons_of_mem _ hj))]
    congr 1
    refine getD_of ?_
    rw [putN_off nd.1, List.getElem?_set_self (hb k List.mem_cons_self)]
theorem put_same : ∀ {ks : List Nat} {acc : List Int}, (∀ k ∈ ks, k < acc.length) → putN acc ks (getN acc ks) = acc
  | [], acc, _ => by rw [putN_nil]
  | k :: ks, acc, hb => by
    show putN acc (k :: ks) (acc.getD k 0 :: getN acc ks) = acc
    have hk := hb k List.mem_cons_self
    have e : acc.set k (acc.getD k 0) = acc := by
      rw [List.getD_eq_getElem?_getD, List.getElem?_eq_getElem hk]
      exact List.set_getElem_self hk
    rw [putN_cons, e]
    exact put_same fun j hj => hb j (List.mem_cons_of_mem _ hj)
theorem put_over : ∀ {ks : List Nat} {zs a b : List Int}, a.length = b.length → ks.length = zs.length → (∀ i, i ∉ ks → a[i]? = b[i]?) → putN a ks zs = putN b ks zs
  | [], zs, a, b, _, _, h => by
    rw [putN_nil, putN_nil]
    exact List.ext_getElem? fun i => h i (by simp)
  | k :: ks, [], a, b, _, hl, _ => by cases hl
  | k :: ks, z :: zs, a, b, hab, hl, h => by
    rw [putN_cons, putN_cons]
    refine put_over (by rw [List.length_set, List.length_set, hab]) (by simpa using hl) fun i hi => ?_
    by_cases e : k = i
    · subst e
      by_cases c : k < a.length
      · rw [List.getElem?_set_self c, List.getElem?_set_self (by omega)]
      · rw [List.getElem?_eq_none (by rw [List.length_set]; omega), List.getElem?_eq_none (by rw [List.length_set]; omega)]
    · rw [List.getElem?_set_ne e, List.getElem?_set_ne e]
      refine h i fun m => ?_
      rcases List.mem_cons.mp m with z | z
      · exact e z.symm
      · exact hi z
/-- the same, or fewer inversions -/
def Dn (a b : List Int) : Prop := b = a ∨ inv b < inv a
theorem Dn.trans {a b c : List Int} (h : Dn a b) (k : Dn b c) : Dn a c := by
  rcases h with rfl | h
  · exact k
  · rcases k with rfl | k
    · exact .inr h
    · exact .inr (Nat.lt_trans k h)
def ins (x : Int) : List Int → List Int
  | [] => [x]
  | y :: s => if x ≤ y then x :: y :: s else y :: ins x s
def isort : List Int → List Int
  | [] => []
  | x :: l => ins x (isort l)
theorem ins_perm (x : Int) : ∀ s : List Int, (ins x s).Perm (x :: s)
  | [] => List.Perm.refl _
  | y :: s => by
    unfold ins
    split
    · exact List.Perm.refl _
    · exact ((ins_perm x s).cons y).trans (List.Perm.swap _ _ _)
theorem isort_perm : ∀ l : List Int, (isort l).Perm l
  | [] => List.Perm.refl _
  | x :: l => (ins_perm x _).trans ((isort_perm l).cons x)
theorem ins_asc {x : Int} : ∀ {s : List Int}, s.Pairwise (· ≤ ·) → (ins x s).Pairwise (· ≤ ·)
  | [], _ => by simp [ins]
  | y :: s, h => by
    rw [List.pairwise_cons] at h
    unfold ins
    split
    · rename_i c
      rw [List.pairwise_cons, List.pairwise_cons]
      refine ⟨fun z hz => ?_, h.1, h.2⟩
      rcases List.mem_cons.mp hz with rfl | m
      · exact c
      · have := h.1 z m
        omega
    · rename_i c
      rw [List.pairwise_cons]
      refine ⟨fun z hz => ?_, ins_asc h.2⟩
      rcases List.mem_cons.mp ((ins_perm x s).mem_iff.mp hz) with rfl | m
      · omega
      · exact h.1 z m
theorem isort_asc : ∀ l : List Int, (isort l).Pairwise (· ≤ ·)
  | [] => List.Pairwise.nil
  | _ :: l => ins_asc (isort_asc l)
theorem isort_eq (l : List Int) : isort l = sortI l := sortI_eq (isort_perm l) (isort_asc l)
theorem ins_dn : ∀ {ks : List Nat} {k : Nat} {acc s : List Int} {x : Int}, (k :: ks).Pairwise (· < ·) → (∀ j ∈ k :: ks, j < acc.length) → getN acc (k :: ks) = x :: s → Dn acc (putN acc (k :: ks) (ins x s))
  | [], k, acc, s, x, _, hb, e => by
    have e' : [acc.getD k 0] = x :: s := e
    cases e'
    exact .inl (put_same (ks := [k]) hb)
  | k' :: ks, k, acc, [], x, _, hb, e => by
    have e' : acc.getD k 0 :: acc.getD k' 0 :: getN acc ks = [x] := e
    cases e'
  | k' :: ks, k, acc, y :: s, x, hp, hb, e => by
    unfold ins
    split
    · rw [← e]
      exact .inl (put_same hb)
    · rename_i c
      have e' : acc.getD k 0 :: acc.getD k' 0 :: getN acc ks = x :: y :: s := e
      injection e' with e1 e2
      injection e2 with e2 e3
      rw [List.pairwise_cons] at hp
      have hk := hb k List.mem_cons_self
      have hk' := hb k' (List.mem_cons_of_mem _ List.mem_cons_self)
      have hlt : k < k' := hp.1 k' List.mem_cons_self
      have g1 : acc[k]? = some x := by
        rw [List.getElem?_eq_getElem hk, ← e1, List.getD_eq_getElem?_getD, List.getElem?_eq_getElem hk]
        rfl
      have g2 : acc[k']? = some y := by
        rw [List.getElem?_eq_getElem hk', ← e2, List.getD_eq_getElem?_getD, List.getElem?_eq_getElem hk']
        rfl
      have sw := inv_swap (x := x) (y := y) (by omega) hlt g1 g2
      have hp2 := List.pairwise_cons.mp hp.2
      have gg : getN ((acc.set k y).set k' x) (k' :: ks) = x :: s := by
        show ((acc.set k y).set k' x).getD k' 0 :: getN ((acc.set k y).set k' x) ks = x :: s
        rw [getD_of (List.getElem?_set_self (by rw [List.length_set]; exact hk'))]
        congr 1
        rw [← e3]
        refine List.map_congr_left fun j hj => ?_
        have j1 : k' < j := hp2.1 j hj
        show ((acc.set k y).set k' x).getD j 0 = acc.getD j 0
        rw [List.getD_eq_getElem?_getD, List.getD_eq_getElem?_getD, List.getElem?_set_ne (by omega), List.getElem?_set_ne (by omega)]
      have ih := ins_dn (acc := (acc.set k y).set k' x) hp.2 (fun j hj => by rw [List.length_set, List.length_set]; exact hb j (List.mem_cons_of_mem _ hj)) gg
      have ep : putN acc (k :: k' :: ks) (y :: ins x s) = putN ((acc.set k y).set k' x) (k' :: ks) (ins x s) := by
        rw [putN_cons]
        cases h : ins x s with
        | nil =>
          have := (ins_perm x s).length_eq
          rw [h] at this
          cases this
        | cons z zs => rw [putN_cons, putN_cons, List.set_set]
      rw [ep]
      exact Dn.trans (.inr sw) ih
theorem sort_dn : ∀ {ks : List Nat} {acc : List Int}, ks.Pairwise (· < ·) → (∀ j ∈ ks, j < acc.length) → Dn acc (putN acc ks (isort (getN acc ks)))
  | [], acc, _, _ => .inl (putN_nil _ _)
  | k :: ks, acc, hp, hb => by
    have hp' := List.pairwise_cons.mp hp
    have hb' : ∀ j ∈ ks, j < acc.length := fun j hj => hb j (List.mem_cons_of_mem _ hj)
    have ih := sort_dn hp'.2 hb'
    have nk : k ∉ ks := fun m => Nat.lt_irrefl _ (hp'.1 k m)
    have nd : ks.Nodup := hp'.2.imp fun h => Nat.ne_of_lt h
    have ll : ks.length = (isort (getN acc ks)).length := by
      rw [(isort_perm _).length_eq]
      unfold getN
      rw [List.length_map]
    have g : getN (putN acc ks (isort (getN acc ks))) (k :: ks) = acc.getD k 0 :: isort (getN acc ks) := by
      show (putN acc ks (isort (getN acc ks))).getD k 0 :: getN (putN acc ks (isort (getN acc ks))) ks = _
      rw [get_put nd ll hb', List.getD_eq_getElem?_getD, putN_off nk, ← List.getD_eq_getElem?_getD]
    have b := ins_dn (acc := putN acc ks (isort (getN acc ks))) hp (fun j hj => by rw [putN_len]; exact hb j hj) g
    have e : putN (putN acc ks (isort (getN acc ks))) (k :: ks) (ins (acc.getD k 0) (isort (getN acc ks))) = putN acc (k :: ks) (ins (acc.getD k 0) (isort (getN acc ks))) := by
      refine put_over (putN_len _ _ _) ?_ fun i hi => putN_off fun m => hi (List.mem_cons_of_mem _ m)
      rw [(ins_perm _ _).length_eq, List.length_cons, List.length_cons, ll]
    rw [e] at b
    exact ih.trans b
end KS
namespace KS
open PySem PySem.Spec PyProof.Rows L2
def up (ks : List Nat) : List Int := ks.map fun (k : Nat) => (k : Int)
theorem putZ_up : ∀ (ks : List Nat) (ys acc : List Int), putZ acc ((up ks).zip ys) = putN acc ks ys
  | [], ys, acc => by rw [putN_nil]; rfl
  | k :: ks, [], acc => by rw [putN_none]; rfl
  | k :: ks, y :: ys, acc => by
    rw [putN_cons, ← putZ_up ks ys]
    rfl
theorem get_up (vs : List Int) (ks : List Nat) : (up ks).map (getI vs) = getN vs ks := by
  unfold up getN
  rw [List.map_map]
  rfl
def srtN (vs acc : List Int) (ks : List Nat) : List Int := putN acc ks (sortI (getN vs ks))
theorem srtL_up (vs acc : List Int) (ks : List Nat) : srtL vs acc (up ks) = srtN vs acc ks := by
  unfold srtL srtN
  rw [putZ_up, get_up]
theorem srtTo_up (vs : List Int) : ∀ (ls : List (List Nat)) (acc : List Int), (ls.map up).foldl (srtL vs) acc = ls.foldl (srtN vs) acc
  | [], _ => rfl
  | ks :: ls, acc => by
    show (ls.map up).foldl (srtL vs) (srtL vs acc (up ks)) = ls.foldl (srtN vs) (srtN vs acc ks)
    rw [srtL_up, srtTo_up vs ls]
def idxsN (b : Bool) (cs : List Cell) (i : Nat) (r : Int) : List Nat := (List.range i).filter fun j => decide ((cs[j]?).map (pick b) = some r)
theorem idxs_up (b : Bool) (cs : List Cell) (i : Nat) (r : Int) : idxs b cs i r = up (idxsN b cs i r) := rfl
def lnsN (b : Bool) (cs : List Cell) : List (List Nat) := ((List.range 8).map fun (r : Nat) => idxsN b cs cs.length (r : Int)).filter fun l => decide (l ≠ [])
theorem filter_up : ∀ ls : List (List Nat), (ls.map up).filter (fun l => decide (l ≠ [])) = (ls.filter fun l => decide (l ≠ [])).map up
  | [] => rfl
  | [] :: ls => filter_up ls
  | (k :: ks) :: ls => by
    show up (k :: ks) :: (ls.map up).filter _ = up (k :: ks) :: (ls.filter _).map up
    rw [filter_up ls]
theorem lns_up (b : Bool) (cs : List Cell) : lnsOf b cs = (lnsN b cs).map up := by
  unfold lnsOf lnsN
  rw [← filter_up, List.map_map]
  rfl
structure Parts (n : Nat) (ls : List (List Nat)) : Prop where
  asc : ∀ ks ∈ ls, ks.Pairwise (· < ·)
  bd : ∀ ks ∈ ls, ∀ k ∈ ks, k < n
  apart : ls.Pairwise fun ks ms => ∀ k ∈ ks, k ∉ ms
theorem srtN_len (vs acc : List Int) (ks : List Nat) : (srtN vs acc ks).length = acc.length := putN_len _ _ _
theorem getN_congr {a b : List Int} {ks : List Nat} (h : ∀ k ∈ ks, a[k]? = b[k]?) : getN a ks = getN b ks := by
  refine List.map_congr_left fun k hk => ?_
  show a.getD k 0 = b.getD k 0
  rw [List.getD_eq_getElem?_getD, List.getD_eq_getElem?_getD, h k hk]
theorem fold_off {vs : List Int} {i : Nat} : ∀ {ls : List (List Nat)} {acc : List Int}, (∀ ks ∈ ls, i ∉ ks) → (ls.foldl (srtN vs) acc)[i]? = acc[i]?
  | [], _, _ => rfl
  | ks :: ls, acc, h => by
    show (ls.foldl (srtN vs) (srtN vs acc ks))[i]? = _
    rw [fold_off fun ms hm => h ms (List.mem_cons_of_mem _ hm)]
    exact putN_off (h ks List.mem_cons_self)
theorem fold_dn {vs : List Int} : ∀ {ls : List (List Nat)} {acc : List Int}, Parts acc.length ls → (∀ ks ∈ ls, ∀ k ∈ ks, acc[k]? = vs[k]?) → Dn acc (ls.foldl (srtN vs) acc)
  | [], acc, _, _ => .inl rfl
  | ks :: ls, acc, P, h => by
    have pc := List.pairwise_cons.mp P.apart
    have e : getN vs ks = getN acc ks := getN_congr fun k hk => (h ks List.mem_cons_self k hk).symm
    have d : Dn acc (srtN vs acc ks) := by
      unfold srtN
      rw [e, ← isort_eq]
      exact sort_dn (P.asc ks List.mem_cons_self) (P.bd ks List.mem_cons_self)
    refine d.trans (fold_dn (ls := ls) ⟨fun ms hm => P.asc ms (List.mem_cons_of_mem _ hm), fun ms hm k hk => ?_, pc.2⟩ fun ms hm k hk => ?_)
    · rw [srtN_len]
      exact P.bd ms (List.mem_cons_of_mem _ hm) k hk
    · have nk : k ∉ ks := fun m => pc.1 ms hm k m hk
      rw [show (srtN vs acc ks)[k]? = acc[k]? from putN_off nk]
      exact h ms (List.mem_cons_of_mem _ hm) k hk
theorem fold_get {vs : List Int} : ∀ {ls : List (List Nat)} {acc : List Int}, Parts acc.length ls → ∀ ks ∈ ls, getN (ls.foldl (srtN vs) acc) ks = sortI (getN vs ks)
  | [], _, _, _, m => by cases m
  | ms :: ls, acc, P, ks, m => by
    have pc := List.pairwise_cons.mp P.apart
    have P' : Parts (srtN vs acc ms).length ls := ⟨fun z hm => P.asc z (List.mem_cons_of_mem _ hm), fun z hm k hk => by rw [srtN_len]; exact P.bd z (List.mem_cons_of_mem _ hm) k hk, pc.2⟩
    rcases List.mem_cons.mp m with rfl | m
    · show getN (ls.foldl (srtN vs) (srtN vs acc ks)) ks = _
      rw [getN_congr (b := srtN vs acc ks) fun k hk => fold_off fun z hz => pc.1 z hz k hk]
      refine get_put ((P.asc ks List.mem_cons_self).imp fun h => Nat.ne_of_lt h) ?_ (P.bd ks List.mem_cons_self)
      rw [sortI_len]
      unfold getN
      rw [List.length_map]
    · exact fold_get P' ks m
theorem fold_fix {vs : List Int} : ∀ {ls : List (List Nat)}, (∀ ks ∈ ls, ∀ k ∈ ks, k < vs.length) → (∀ ks ∈ ls, getN vs ks = sortI (getN vs ks)) → ls.foldl (srtN vs) vs = vs
  | [], _, _ => rfl
  | ks :: ls, hb, h => by
    have e : srtN vs vs ks = vs := by
      unfold srtN
      rw [← h ks List.mem_cons_self]
      exact put_same (hb ks List.mem_cons_self)
    show ls.foldl (srtN vs) (srtN vs vs ks) = vs
    rw [e]
    exact fold_fix (fun z hz => hb z (List.mem_cons_of_mem _ hz)) fun z hz => h z (List.mem_cons_of_mem _ hz)
theorem idxsN_mem {b : Bool} {cs : List Cell} {i k : Nat} {r : Int} (h : k ∈ idxsN b cs i r) : k < i ∧ (cs[k]?).map (pick b) = some r := by
  have := List.mem_filter.mp h
  exact ⟨List.mem_range.mp this.1, of_decide_eq_true this.2⟩
theorem lns_parts (b : Bool) (cs : List Cell) : Parts cs.length (lnsN b cs) := by
  refine ⟨fun ks h => ?_, fun ks h k hk => ?_, ?_⟩
  · obtain ⟨r, _, rfl⟩ := List.mem_map.mp (List.mem_filter.mp h).1
    exact List.pairwise_lt_range.filter _
  · obtain ⟨r, _, rfl⟩ := List.mem_map.mp (List.mem_filter.mp h).1
    exact (idxsN_mem hk).1
  · refine List.Pairwise.filter _ (List.pairwise_map.2 (List.pairwise_lt_range.imp ?_))
    intro r q hrq k h1 h2
    have a := (idxsN_mem h1).2
    rw [(idxsN_mem h2).2] at a
    injection a with a
    omega
theorem srt_up (b : Bool) (cs : List Cell) (vs : List Int) : srt b cs vs = (lnsN b cs).foldl (srtN vs) vs := by
  unfold srt srtTo
  rw [lns_up, srtTo_up]
/-- a sort leaves all as it is, or takes inversions away -/
theorem srt_dn {b : Bool} {cs : List Cell} {vs : List Int} (h : vs.length = cs.length) : Dn vs (srt b cs vs) := by
  rw [srt_up]
  exact fold_dn (by rw [h]; exact lns_parts b cs) fun _ _ _ _ => rfl
theorem upL_up (vs : List Int) (ks : List Nat) : upL vs (up ks) = decide (getN vs ks = sortI (getN vs ks)) := by
  unfold upL
  rw [get_up]
theorem rises_iff {b : Bool} {cs : List Cell} {vs : List Int} : rises b cs vs = true ↔ ∀ ks ∈ lnsN b cs, getN vs ks = sortI (getN vs ks) := by
  unfold rises
  rw [lns_up, List.all_map, List.all_eq_true]
  constructor
  · intro h ks hk
    have := h ks hk
    exact of_decide_eq_true ((upL_up vs ks).symm.trans this)
  · intro h ks hk
    exact (upL_up vs ks).trans (decide_eq_true (h ks hk))
theorem sortI_fix (l : List Int) : sortI (sortI l) = sortI l := (sortI_eq (List.Perm.refl _) (sortI_asc l)).symm
/-- behind a sort the lines of the kind ascend -/
theorem srt_rises {b : Bool} {cs : List Cell} {vs : List Int} (h : vs.length = cs.length) : rises b cs (srt b cs vs) = true := by
  rw [rises_iff]
  intro ks hk
  have g : getN (srt b cs vs) ks = sortI (getN vs ks) := by
    rw [srt_up]
    exact fold_get (by rw [h]; exact lns_parts b cs) ks hk
  rw [g, sortI_fix]
/-- lines that ascend are left alone -/
theorem rises_fix {b : Bool} {cs : List Cell} {vs : List Int} (h : vs.length = cs.length) (r : rises b cs vs = true) : srt b cs vs = vs := by
  rw [srt_up]
  exact fold_fix (fun ks hk k hkk => by rw [h]; exact (lns_parts b cs).bd ks hk k hkk) (rises_iff.mp r)
/-- lines that do not ascend lose inversions -/
theorem srt_lt {b : Bool} {cs : List Cell} {vs : List Int} (h : vs.length = cs.length) (r : rises b cs vs = false) : inv (srt b cs vs) < inv vs := by
  rcases srt_dn (b := b) h with e | e
  · have := srt_rises (b := b) h
    rw [e, r] at this
    cases this
  · exact e
end KS
namespace KS
open PySem PySem.Spec PyProof.Rows L2
/-- kinds in turns, this one first -/
def turns : Bool → Nat → List Bool
  | _, 0 => []
  | b, n + 1 => b :: turns (!b) n
def kindAt (b : Bool) (n : Nat) : Bool := if n % 2 = 0 then b else !b
theorem turns_succ : ∀ (b : Bool) (n : Nat), turns b (n + 1) = turns b n ++ [kindAt b n]
  | b, 0 => rfl
  | b, n + 1 => by
    show b :: turns (!b) (n + 1) = b :: (turns (!b) n ++ [kindAt b (n + 1)])
    rw [turns_succ (!b) n]
    have e : kindAt (!b) n = kindAt b (n + 1) := by
      unfold kindAt
      rcases Nat.mod_two_eq_zero_or_one n with h | h
      · rw [if_pos h, if_neg (by omega)]
      · rw [if_neg (by omega), if_pos (by omega)]
        simp
    rw [e]
theorem kindAt_succ (b : Bool) (n : Nat) : kindAt b (n + 1) = !kindAt b n := by
  unfold kindAt
  rcases Nat.mod_two_eq_zero_or_one n with h | h
  · rw [if_pos h, if_neg (show ¬ (n + 1) % 2 = 0 by omega)]
  · rw [if_pos (show (n + 1) % 2 = 0 by omega), if_neg (show ¬ n % 2 = 0 by omega)]
    simp
theorem turns_len : ∀ (b : Bool) (n : Nat), (turns b n).length = n
  | _, 0 => rfl
  | b, n + 1 => by
    show (turns (!b) n).length + 1 = n + 1
    rw [turns_len (!b) n]
def settled (cs : List Cell) (vs : List Int) : Bool := rises false cs vs && rises true cs vs
def stat (cs : List Cell) (b : Bool) (vs : List Int) (n : Nat) : List Int := aft cs (turns b n) vs
theorem stat_succ (cs : List Cell) (b : Bool) (vs : List Int) (n : Nat) : stat cs b vs (n + 1) = srt (kindAt b n) cs (stat cs b vs n) := by
  unfold stat
  rw [turns_succ, aft_more]
theorem stat_len (cs : List Cell) (b : Bool) (vs : List Int) (n : Nat) : (stat cs b vs n).length = vs.length := aft_len _ _ _
/-- the least number of sorts in turns behind which both kinds ascend, and the values then -/
structure RestIs (cs : List Cell) (b : Bool) (vs : List Int) (n : Nat) : Prop where
  end_ : settled cs (stat cs b vs n) = true
  least : ∀ m, m < n → settled cs (stat cs b vs m) = false
theorem RestIs.uniq {cs : List Cell} {b : Bool} {vs : List Int} {n m : Nat} (h : RestIs cs b vs n) (k : RestIs cs b vs m) : n = m := by
  rcases Nat.lt_trichotomy n m with c | c | c
  · have := k.least n c
    rw [h.end_] at this
    cases this
  · exact c
  · have := h.least m c
    rw [k.end_] at this
    cases this
theorem settled_not {cs : List Cell} {vs : List Int} {k : Bool} (h : settled cs vs = false) (r : rises k cs vs = true) : rises (!k) cs vs = false := by
  unfold settled at h
  cases k
  · rw [r] at h
    simpa using h
  · rw [r] at h
    simpa using h
/-- a variant of the turns -/
def fuel (cs : List Cell) (k : Bool) (vs : List Int) : Nat := 2 * inv vs + if rises k cs vs = true then 1 else 0
theorem fuel_lt {cs : List Cell} {k : Bool} {vs : List Int} (hl : vs.length = cs.length) (h : settled cs vs = false) : fuel cs (!k) (srt k cs vs) < fuel cs k vs := by
  unfold fuel
  cases r : rises k cs vs with
  | true =>
    rw [rises_fix hl r, if_pos rfl, if_neg (by rw [settled_not h r]; decide)]
    omega
  | false =>
    have := srt_lt hl r
    rw [if_neg (show ¬ (false = true) by decide)]
    split <;> omega
/-- at most 277 sorts settle any table of 24 cells -/
theorem stat_inv {cs : List Cell} {b : Bool} {vs : List Int} {n : Nat} (hl : vs.length = cs.length) (h : RestIs cs b vs n) : ∀ m, m + 1 ≤ n → inv (stat cs b vs (m + 1)) + m ≤ inv (stat cs b vs 1)
  | 0, _ => Nat.le_refl _
  | m + 1, hm => by
    have ih := stat_inv hl h m (by omega)
    have ns := h.least (m + 1) (by omega)
    have ln : (stat cs b vs m).length = cs.length := by rw [stat_len, hl]
    have r : rises (kindAt b m) cs (stat cs b vs (m + 1)) = true := by
      rw [stat_succ]
      exact srt_rises ln
    have r2 := settled_not ns r
    rw [← kindAt_succ] at r2
    have lt := srt_lt (by rw [stat_len, hl]) r2
    rw [← stat_succ] at lt
    omega
theorem rest_le {cs : List Cell} {b : Bool} {vs : List Int} {n : Nat} (hl : vs.length = cs.length) (hc : cs.length ≤ 24) (h : RestIs cs b vs n) : n ≤ 277 := by
  cases n with
  | zero => omega
  | succ m =>
    have i := stat_inv hl h m (Nat.le_refl _)
    have le := inv_le (stat cs b vs 1)
    rw [stat_len, hl] at le
    have : cs.length * (cs.length - 1) ≤ 24 * 23 := Nat.mul_le_mul hc (by omega)
    omega
end KS
namespace KS
open PySem PySem.Spec PyProof.Rows L2
/-! ### a sort only moves the values -/
def one (x y : Int) : Nat := if x = y then 1 else 0
theorem count_one (x a : Int) (l : List Int) : (a :: l).count x = l.count x + one a x := by
  rw [List.count_cons]
  unfold one
  by_cases e : a = x
  · rw [if_pos e, if_pos (by simpa using e)]
  · rw [if_neg e, if_neg (by simpa using e)]
theorem count_set (x y : Int) : ∀ {l : List Int} {k : Nat} {v : Int}, l[k]? = some v → (l.set k y).count x + one v x = l.count x + one y x
  | [], k, v, h => by simp at h
  | a :: l, 0, v, h => by
    simp at h
    subst h
    show (y :: l).count x + one a x = (a :: l).count x + one y x
    rw [count_one, count_one]
    omega
  | a :: l, k + 1, v, h => by
    have h' : l[k]? = some v := by simpa using h
    have ih := count_set x y h'
    show (a :: l.set k y).count x + one v x = (a :: l).count x + one y x
    rw [count_one, count_one]
    omega
theorem getN_set {acc : List Int} {k : Nat} {y : Int} {ks : List Nat} (h : k ∉ ks) : getN (acc.set k y) ks = getN acc ks := by
  unfold getN
  refine List.map_congr_left fun j hj => ?_
  have : k ≠ j := fun e => h (e ▸ hj)
  rw [List.getD_eq_getElem?_getD, List.getD_eq_getElem?_getD, List.getElem?_set_ne this]
theorem put_count (x : Int) : ∀ {ks : List Nat} {ys acc : List Int}, ks.Nodup → ks.length = ys.length → (∀ k ∈ ks, k < acc.length) → (putN acc ks ys).count x + (getN acc ks).count x = acc.count x + ys.count x
  | [], [], acc, _, _, _ => by
    rw [putN_nil]
    rfl
  | [], _ :: _, acc, _, h, _ => by simp at h
  | _ :: _, [], acc, _, h, _ => by simp at h
  | k :: ks, y :: ys, acc, nd, hl, hb => by
    rw [List.nodup_cons] at nd
    have hk := hb k List.mem_cons_self
    obtain ⟨v, hv⟩ : ∃ v, acc[k]? = some v := ⟨acc[k], List.getElem?_eq_getElem hk⟩
    have ih := put_count x (ks := ks) (ys := ys) (acc := acc.set k y) nd.2 (by simpa using hl) (fun j hj => by
      rw [List.length_set]
      exact hb j (List.mem_cons_of_mem _ hj))
    rw [getN_set nd.1] at ih
    have cs := count_set x y hv
    rw [putN_cons]
    have eg : getN acc (k :: ks) = v :: getN acc ks := by
      unfold getN
      rw [List.map_cons, getD_of hv]
    rw [eg, count_one, count_one]
    omega
theorem put_perm {ks : List Nat} {ys acc : List Int} (nd : ks.Nodup) (hb : ∀ k ∈ ks, k < acc.length) (p : ys.Perm (getN acc ks)) : (putN acc ks ys).Perm acc := by
  rw [List.perm_iff_count]
  intro x
  have hl : ks.length = ys.length := by
    rw [p.length_eq]
    unfold getN
    rw [List.length_map]
  have := put_count x (ys := ys) nd hl hb
  rw [p.count_eq] at this
  omega
theorem asc_nodup {ks : List Nat} (h : ks.Pairwise (· < ·)) : ks.Nodup := h.imp fun q e => by omega
theorem fold_perm {vs : List Int} : ∀ {ls : List (List Nat)} {acc : List Int}, Parts acc.length ls → (∀ ks ∈ ls, ∀ k ∈ ks, acc[k]? = vs[k]?) → (ls.foldl (srtN vs) acc).Perm acc
  | [], acc, _, _ => List.Perm.refl _
  | ks :: ls, acc, P, h => by
    have pc := List.pairwise_cons.mp P.apart
    have e : getN vs ks = getN acc ks := getN_congr fun k hk => (h ks List.mem_cons_self k hk).symm
    have d : (srtN vs acc ks).Perm acc := by
      unfold srtN
      rw [e]
      exact put_perm (asc_nodup (P.asc ks List.mem_cons_self)) (P.bd ks List.mem_cons_self) (sortI_perm _)
    refine List.Perm.trans (fold_perm (ls := ls) (acc := srtN vs acc ks) ⟨fun ms hm => P.asc ms (List.mem_cons_of_mem _ hm), fun ms hm k hk => ?_, pc.2⟩ fun ms hm k hk => ?_) d
    · rw [srtN_len]
      exact P.bd ms (List.mem_cons_of_mem _ hm) k hk
    · have nk : k ∉ ks := fun m => pc.1 ms hm k m hk
      rw [show (srtN vs acc ks)[k]? = acc[k]? from putN_off nk]
      exact h ms (List.mem_cons_of_mem _ hm) k hk
theorem srt_perm {b : Bool} {cs : List Cell} {vs : List Int} (h : vs.length = cs.length) : (srt b cs vs).Perm vs := by
  rw [srt_up]
  exact fold_perm (by rw [h]; exact lns_parts b cs) fun _ _ _ _ => rfl
theorem srt9 {b : Bool} {cs : List Cell} {vs : List Int} (h : Vals9 cs.length vs) : Vals9 cs.length (srt b cs vs) := h.perm (srt_perm h.len).symm
theorem aft9 {cs : List Cell} : ∀ (w : List Bool) {vs : List Int}, Vals9 cs.length vs → Vals9 cs.length (aft cs w vs)
  | [], _, h => h
  | b :: w, _, h => aft9 w (srt9 (b := b) h)
theorem aft_perm {cs : List Cell} : ∀ (w : List Bool) {vs : List Int}, vs.length = cs.length → (aft cs w vs).Perm vs
  | [], _, _ => List.Perm.refl _
  | b :: w, vs, h => (aft_perm w (by rw [srt_len]; exact h)).trans (srt_perm (b := b) h)
theorem fix_rises {b : Bool} {cs : List Cell} {vs : List Int} (h : vs.length = cs.length) : decide (srt b cs vs = vs) = rises b cs vs := by
  cases r : rises b cs vs with
  | true => exact decide_eq_true (rises_fix h r)
  | false =>
    refine decide_eq_false fun e => ?_
    have := srt_rises (b := b) h
    rw [e, r] at this
    cases this
def spIsSorted (K : PySem.W.Frag) : Sp := fun xs H Q _ => ∃ (a t : Addr) (b : Bool) (cs : List Cell) (vs : List Int), xs = [.ref a, .ref t, .str (if b = true then "C" else "R")] ∧ PlanAt K H a cs ∧ Good cs ∧ cs.length ≤ 24 ∧
  SqT K H t (vs.map V.int) ∧ Vals9 cs.length vs ∧ ∀ H', Same H H' → Q (.bl (rises b cs vs)) H'
def spSettled (K : PySem.W.Frag) : Sp := fun xs H Q _ => ∃ (a t : Addr) (cs : List Cell) (vs : List Int), xs = [.ref a, .ref t] ∧ PlanAt K H a cs ∧ Good cs ∧ cs.length ≤ 24 ∧
  SqT K H t (vs.map V.int) ∧ Vals9 cs.length vs ∧ ∀ H', Same H H' → Q (.bl (settled cs vs)) H'
def spOther : Sp := fun xs H Q _ => ∃ b : Bool, xs = [.str (if b = true then "C" else "R")] ∧ Q (.str (if (!b) = true then "C" else "R")) H
def spRestP (K : PySem.W.Frag) : Sp := fun xs H Q _ => ∃ (a t : Addr) (b : Bool) (cs : List Cell) (vs : List Int), xs = [.ref a, .ref t, .str (if b = true then "C" else "R")] ∧ PlanAt K H a cs ∧ Good cs ∧ cs.length ≤ 24 ∧
  SqT K H t (vs.map V.int) ∧ Vals9 cs.length vs ∧ ∀ H' r u n, Same H H' → SqT K H' r [.int (n : Nat), .ref u] → SqT K H' u ((stat cs b vs n).map V.int) → RestIs cs b vs n → Q (.ref r) H'
end KS
namespace KS
open PySem PySem.Spec PyProof.Rows L2
/-! ### a word, so many times -/
theorem rep_words (w : List Bool) : ∀ (n : Nat) (a : Array Nat), (List.replicate n (w.map ltr).toArray).foldl (· ++ ·) a = a ++ (((List.replicate n w).flatten).map ltr).toArray
  | 0, a => by simp
  | n + 1, a => by
    rw [List.replicate_succ, List.foldl_cons, rep_words w n, List.replicate_succ, List.flatten_cons, List.map_append]
    apply Array.ext'
    simp
def rRepW : R2 := fun x y H Q => ∃ (wd : List Bool) (n : Nat), x = .str (wS wd) ∧ y = .int n ∧ 2 ≤ n ∧ n ≤ 400 ∧ 1 ≤ wd.length ∧ wd.length ≤ 400 ∧ Q (.str (wS (List.replicate n wd).flatten)) H
theorem op_repW {X : Cx} : OpR X (binaryOp .Mult) rRepW := by
  intro pins s σ H x y v u Q I rx ry h
  obtain ⟨wd, n, rfl, rfl, n0, n1, w0, w1, q⟩ := h
  obtain ⟨t, rfl⟩ := rx
  obtain ⟨t', rfl⟩ := ry
  have e1 : ¬ ((n : Int) < 1) := by omega
  have hl := wS_len wd
  have hm : wd.length * n ≤ 160000 := Nat.mul_le_mul w1 n1
  refine P.mul_str ?_ ?_ ?_ ?_
  · have h1 : ¬ (n : Int) < -(2 ^ 63 : Int) := by omega
    have h2 : ¬ (n : Int) ≥ 2 ^ 63 := by omega
    rw [decide_eq_false h1, decide_eq_false h2]
    rfl
  · intro _ _
    rw [hl]
    have : (wd.length : Int) ≤ (2 ^ 63 - 1) / (n : Int) := (Int.le_ediv_iff_mul_le (by omega)).mpr (by
      have : ((wd.length * n : Nat) : Int) ≤ 160000 := by omega
      rw [Int.natCast_mul] at this
      omega)
    omega
  · intro _ _
    refine decide_eq_false ?_
    rw [hl, sizeLine_eq, Int.toNat_natCast]
    omega
  · rw [if_neg e1]
    have z : (((n : Int) == 1) || ((wS wd).length == 0)) = false := by
      have a : ((n : Int) == 1) = false := by
        rw [beq_eq_false_iff_ne]
        omega
      have b : ((wS wd).length == 0) = false := by
        rw [hl, beq_eq_false_iff_ne]
        omega
      rw [a, b]
      rfl
    rw [if_neg (by rw [z]; decide)]
    have ez : (⟨(List.replicate (n : Int).toNat (wS wd).cps).foldl (· ++ ·) #[]⟩ : Str) = wS (List.replicate n wd).flatten := by
      rw [Int.toNat_natCast]
      show (⟨(List.replicate n (wd.map ltr).toArray).foldl (· ++ ·) #[]⟩ : Str) = _
      rw [rep_words]
      unfold wS
      simp
    rw [ez]
    refine ⟨?_, .str (wS (List.replicate n wd).flatten), H, I.tok _, ⟨_, rfl⟩, q⟩
    rw [wS_len, List.length_flatten, List.map_replicate, List.sum_replicate_nat, sizeLine_eq, Nat.mul_comm]
    omega
/-! ### words one after the other -/
theorem aft_app (cs : List Cell) (w v : List Bool) (vs : List Int) : aft cs (w ++ v) vs = aft cs v (aft cs w vs) := by
  unfold aft
  rw [List.foldl_append]
theorem srt_twice {b : Bool} {cs : List Cell} {vs : List Int} (h : vs.length = cs.length) : srt b cs (srt b cs vs) = srt b cs vs :=
  rises_fix (by rw [srt_len]; exact h) (srt_rises h)
theorem settled_both {cs : List Cell} {vs : List Int} (h : settled cs vs = true) (b : Bool) : rises b cs vs = true := by
  unfold settled at h
  rw [Bool.and_eq_true] at h
  cases b
  · exact h.1
  · exact h.2
theorem aft_settled {cs : List Cell} {vs : List Int} (hl : vs.length = cs.length) (h : settled cs vs = true) : ∀ w : List Bool, aft cs w vs = vs
  | [] => rfl
  | b :: w => by
    show aft cs w (srt b cs vs) = vs
    rw [rises_fix hl (settled_both h b)]
    exact aft_settled hl h w
theorem turns_two (b : Bool) : ∀ m : Nat, (List.replicate m [b, !b]).flatten = turns b (2 * m)
  | 0 => rfl
  | m + 1 => by
    rw [List.replicate_succ, List.flatten_cons, turns_two b m]
    show b :: (!b) :: turns b (2 * m) = turns b (2 * m + 2)
    show _ = b :: (!b) :: turns (!(!b)) (2 * m)
    rw [Bool.not_not]
theorem turns_take : ∀ (n m : Nat) (b : Bool), n ≤ m → (turns b m).take n = turns b n
  | 0, _, _, _ => by simp [turns]
  | n + 1, 0, _, h => by omega
  | n + 1, m + 1, b, h => by
    show (b :: turns (!b) m).take (n + 1) = b :: turns (!b) n
    rw [List.take_succ_cons, turns_take n m (!b) (by omega)]
theorem ne_line {l m : List Int} : (!PyData.eqv (.tuple (l.map PyData.int)) (.tuple (m.map PyData.int))) = !decide (l = m) := by rw [ints_eqvT]
end KS
namespace KS
open PySem PySem.Spec PyProof.Rows L2
/-! ### sorted(t), t a tuple of whole numbers -/
def rSortedTI (K : PySem.W.Frag) : List V → Hp → VK → Prop := fun vs H Q => ∃ (a : Addr) (ns : List Int), vs = [V.ref a] ∧ SqT K H a (ns.map V.int) ∧
  ∀ (ns' : List Int) (p : Addr) (H' : Hp), ns'.Perm ns → ns'.Pairwise (· ≤ ·) → H p = none → H' = upd H p (.lst (ns'.map V.int)) → Q (.ref p) H'
theorem cr_sortedTI {X : Cx} : CallR X (.builtin "sorted") (rSortedTI X.K) := by
  intro pins s σ H vs us Q I r h
  obtain ⟨a, ns, rfl, ht, q⟩ := h
  obtain ⟨its, rv, ⟨o, ho, hc, n, hd⟩, hz⟩ := I.tuple ht
  rw [Vals.ref1 r]
  have hi := rv.ints
  have hl := rv.length
  have hzz : its.length ≤ sizeLine := by rw [← hl]; exact hz
  refine Calls.call_function_entry kind_sorted plain_sorted entry_sorted (args_sorted1 _) ?_
  unfold Builtin.«sorted»
  refine wpAny_bind (m := checkCount "sorted" 1 1 _) (wpAny_pure ?_)
  refine wpAny_bind (wpAny_collect_seq a (T := "tuple") (.inr rfl) ho hc hd (fun h1 hk => ?_) (by rw [List.size_toArray]; exact hzz))
  rw [List.toList_toArray]
  have I1 : Inv X pins σ H { s with heap := h1 } := I.kept (t' := s.toks) hk
  refine wpAny_bind (wpAny_newList ?_ hzz)
  have hoL : (h1.push (seqObj "list" its.toArray 0)).get? h1.objs.size = some (seqObj "list" its.toArray 0) := Heap.get?_push_size _ rfl
  show wpAny _ _ _ _ _ { s with heap := h1.push (seqObj "list" its.toArray 0) }
  refine wpAny_bind (wpAny_holding (wpAny_call_entry slot_list_sort ⟨_, hoL, rfl⟩ entry_list_sort (SrtO.list_sort_ord (s := { s with heap := h1.push (seqObj "list" its.toArray 0) }) SrtO.swo_int hoL hzz (fun h2 => SrtO.ints_sortable hi h2) fun out g1 g2 => ⟨_, rfl, ?_⟩) (args_list_sort _)))
  obtain ⟨k1, k2, k3⟩ := SrtO.ints_out hi g1 g2
  obtain ⟨ep, he⟩ := sortedHeap_at (vs := its) (out := out.toArray) hoL
  have hlen : ((out.map SrtO.iv).map V.int).length ≤ sizeLine := by
    rw [List.length_map, k2.length_eq]
    rw [List.length_map] at hz
    exact hz
  refine wpAny_pure ⟨_, rfl, .ref h1.objs.size, upd H h1.objs.size (.lst ((out.map SrtO.iv).map V.int)), I1.laid (t' := s.toks) (fun b u e => ?_) (Nat.le_refl _) ⟨hlen, out, ep, vals_of_ints k1, he⟩, rfl, q _ _ _ k2 k3 (I1.hok.fresh (Nat.le_refl _)) rfl⟩
  have hb : b < h1.objs.size := Heap.lt_size e
  rw [sortedHeap_old (Nat.ne_of_lt hb) (by rw [size_push']; exact Nat.lt_succ_of_lt hb)]
  exact Heap.get?_push_of_some _ e
/-! ### ranks -/
def rkI (vs : List Int) (v : Int) : Int := 1 + ((vs.filter fun u => decide (u < v)).length : Int)
def rks (vs : List Int) : List Int := vs.map (rkI vs)
theorem rkI_perm {vs us : List Int} (p : vs.Perm us) : rkI vs = rkI us := by
  funext v
  unfold rkI
  rw [(p.filter _).length_eq]
theorem rkI_mono {vs : List Int} {v w : Int} (h : v ≤ w) : rkI vs v ≤ rkI vs w := by
  unfold rkI
  have : (vs.filter fun u => decide (u < v)).length ≤ (vs.filter fun u => decide (u < w)).length := by
    rw [← List.countP_eq_length_filter, ← List.countP_eq_length_filter]
    exact List.countP_mono_left fun u _ hu => decide_eq_true (by have := of_decide_eq_true hu; omega)
  omega
theorem filter_lt_len : ∀ {vs : List Int} {v w : Int}, v < w → v ∈ vs → (vs.filter fun u => decide (u < v)).length < (vs.filter fun u => decide (u < w)).length
  | [], _, _, _, m => by cases m
  | u :: us, v, w, h, m => by
    have le : (us.filter fun u => decide (u < v)).length ≤ (us.filter fun u => decide (u < w)).length := by
      rw [← List.countP_eq_length_filter, ← List.countP_eq_length_filter]
      exact List.countP_mono_left fun u _ hu => decide_eq_true (by have := of_decide_eq_true hu; omega)
    by_cases e : u = v
    · subst e
      rw [List.filter_cons_of_neg (by simp), List.filter_cons_of_pos (by simpa using h), List.length_cons]
      omega
    · have m' : v ∈ us := by
        rcases List.mem_cons.mp m with z | z
        · exact absurd z.symm e
        · exact z
      have ih := filter_lt_len h m'
      by_cases c1 : u < v
      · rw [List.filter_cons_of_pos (by simpa using c1), List.filter_cons_of_pos (by simp; omega), List.length_cons, List.length_cons]
        omega
      · rw [List.filter_cons_of_neg (by simpa using c1)]
        by_cases c2 : u < w
        · rw [List.filter_cons_of_pos (by simpa using c2), List.length_cons]
          omega
        · rw [List.filter_cons_of_neg (by simpa using c2)]
          exact ih
theorem rkI_lt {vs : List Int} {v w : Int} (h : v < w) (m : v ∈ vs) : rkI vs v < rkI vs w := by
  have := filter_lt_len h m
  unfold rkI
  omega
theorem rkI_inj {vs : List Int} {v w : Int} (hv : v ∈ vs) (hw : w ∈ vs) (e : rkI vs v = rkI vs w) : v = w := by
  rcases Int.lt_trichotomy v w with c | c | c
  · have := rkI_lt c hv
    omega
  · exact c
  · have := rkI_lt c hw
    omega
theorem rkI_bd {vs : List Int} {v : Int} (hv : v ∈ vs) : 1 ≤ rkI vs v ∧ rkI vs v ≤ (vs.length : Int) := by
  have a : (vs.filter fun u => decide (u < v)).length < vs.length := by
    have le := List.length_filter_le (fun u => decide (u < v)) vs
    rcases Nat.lt_or_ge (vs.filter fun u => decide (u < v)).length vs.length with c | c
    · exact c
    · have e : (vs.filter fun u => decide (u < v)).length = vs.length := by omega
      have := List.length_filter_eq_length_iff.mp e v hv
      simp at this
  unfold rkI
  omega
theorem rks9 {n : Nat} {vs : List Int} (h : Vals9 n vs) (hn : n ≤ 24) : Vals9 n (rks vs) := by
  refine ⟨by unfold rks; rw [List.length_map, h.len], ?_, fun v hv => ?_⟩
  · unfold rks
    rw [List.nodup_iff_pairwise_ne, List.pairwise_map]
    have nd := List.nodup_iff_pairwise_ne.mp h.nd
    refine nd.imp_of_mem fun {a b} ha hb q e => q (rkI_inj ha hb e)
  · obtain ⟨u, hu, rfl⟩ := List.mem_map.mp hv
    have := rkI_bd hu
    have := h.len
    omega
/-! ### a rising map goes through a sort -/
theorem sortI_map {f : Int → Int} (hf : ∀ a b, a ≤ b → f a ≤ f b) (l : List Int) : sortI (l.map f) = (sortI l).map f := by
  refine (sortI_eq ((sortI_perm l).map f) ?_).symm
  rw [List.pairwise_map]
  exact (sortI_asc l).imp fun h => hf _ _ h
theorem putZ_map (f : Int → Int) : ∀ (zs : List (Int × Int)) (acc : List Int), (putZ acc zs).map f = putZ (acc.map f) (zs.map fun z => (z.1, f z.2))
  | [], _ => rfl
  | z :: zs, acc => by
    show (putZ (acc.set z.1.toNat z.2) zs).map f = putZ ((acc.map f).set z.1.toNat (f z.2)) (zs.map fun z => (z.1, f z.2))
    rw [putZ_map f zs, List.map_set]
theorem zip_map_r (f : Int → Int) : ∀ (l m : List Int), l.zip (m.map f) = (l.zip m).map fun z => (z.1, f z.2)
  | [], _ => by simp
  | _ :: _, [] => by simp
  | a :: l, b :: m => by
    simp only [List.map_cons, List.zip_cons_cons]
    rw [zip_map_r f l m]
theorem getI_map {f : Int → Int} {vs : List Int} {k : Int} (h : ∃ j : Nat, k = (j : Int) ∧ j < vs.length) : getI (vs.map f) k = f (getI vs k) := by
  obtain ⟨j, rfl, hj⟩ := h
  unfold getI
  rw [List.getD_eq_getElem?_getD, List.getD_eq_getElem?_getD, List.getElem?_map, Int.toNat_natCast, List.getElem?_eq_getElem hj]
  rfl
theorem srtL_map {f : Int → Int} (hf : ∀ a b, a ≤ b → f a ≤ f b) {vs acc l : List Int} (hl : ∀ k ∈ l, ∃ j : Nat, k = (j : Int) ∧ j < vs.length) : srtL (vs.map f) (acc.map f) l = (srtL vs acc l).map f := by
  unfold srtL
  have e : l.map (getI (vs.map f)) = (l.map (getI vs)).map f := by
    rw [List.map_map]
    exact List.map_congr_left fun k hk => getI_map (hl k hk)
  rw [e, sortI_map hf, zip_map_r, putZ_map]
theorem srtTo_map {f : Int → Int} (hf : ∀ a b, a ≤ b → f a ≤ f b) {vs : List Int} : ∀ {ls : List (List Int)} {acc : List Int}, (∀ l ∈ ls, ∀ k ∈ l, ∃ j : Nat, k = (j : Int) ∧ j < vs.length) →
    ls.foldl (srtL (vs.map f)) (acc.map f) = (ls.foldl (srtL vs) acc).map f
  | [], _, _ => rfl
  | l :: ls, acc, h => by
    show ls.foldl (srtL (vs.map f)) (srtL (vs.map f) (acc.map f) l) = _
    rw [srtL_map hf (h l List.mem_cons_self)]
    exact srtTo_map hf fun m hm => h m (List.mem_cons_of_mem _ hm)
theorem srt_map {f : Int → Int} (hf : ∀ a b, a ≤ b → f a ≤ f b) {b : Bool} {cs : List Cell} {vs : List Int} (hv : vs.length = cs.length) : srt b cs (vs.map f) = (srt b cs vs).map f := by
  unfold srt srtTo
  refine srtTo_map hf fun l hl k hk => ?_
  rw [hv]
  exact (lns_mem hl).1 k hk
theorem aft_map {f : Int → Int} (hf : ∀ a b, a ≤ b → f a ≤ f b) {cs : List Cell} : ∀ (w : List Bool) {vs : List Int}, vs.length = cs.length → aft cs w (vs.map f) = (aft cs w vs).map f
  | [], _, _ => rfl
  | b :: w, vs, hv => by
    show aft cs w (srt b cs (vs.map f)) = (aft cs w (srt b cs vs)).map f
    rw [srt_map hf hv]
    exact aft_map hf w (by rw [srt_len]; exact hv)
theorem rks_aft {cs : List Cell} (w : List Bool) {vs : List Int} (hv : vs.length = cs.length) : rks (aft cs w vs) = aft cs w (rks vs) := by
  unfold rks
  rw [aft_map (fun a b h => rkI_mono h) w hv, rkI_perm (aft_perm w hv)]
theorem rks_srt {b : Bool} {cs : List Cell} {vs : List Int} (hv : vs.length = cs.length) : rks (srt b cs vs) = srt b cs (rks vs) := rks_aft [b] hv
theorem map_inj_on {f : Int → Int} : ∀ {l m : List Int}, (∀ a ∈ l, ∀ b ∈ m, f a = f b → a = b) → l.map f = m.map f → l = m
  | [], [], _, _ => rfl
  | [], _ :: _, _, h => by simp at h
  | _ :: _, [], _, h => by simp at h
  | a :: l, b :: m, hi, h => by
    simp only [List.map_cons, List.cons.injEq] at h
    rw [hi a List.mem_cons_self b List.mem_cons_self h.1, map_inj_on (fun x hx y hy => hi x (List.mem_cons_of_mem _ hx) y (List.mem_cons_of_mem _ hy)) h.2]
theorem rises_rks {b : Bool} {cs : List Cell} {vs : List Int} (hv : vs.length = cs.length) : rises b cs (rks vs) = rises b cs vs := by
  have hr : (rks vs).length = cs.length := by
    unfold rks
    rw [List.length_map, hv]
  rw [← fix_rises hr, ← fix_rises hv, ← rks_srt hv]
  by_cases e : srt b cs vs = vs
  · rw [e, decide_eq_true rfl, decide_eq_true rfl]
  · rw [decide_eq_false e]
    refine decide_eq_false fun z => e ?_
    unfold rks at z
    rw [rkI_perm (srt_perm hv)] at z
    exact map_inj_on (fun a ha c hc => rkI_inj ((srt_perm hv).mem_iff.mp ha) hc) z
theorem settled_rks {cs : List Cell} {vs : List Int} (hv : vs.length = cs.length) : settled cs (rks vs) = settled cs vs := by
  unfold settled
  rw [rises_rks hv, rises_rks hv]
theorem rest_rks {cs : List Cell} {b : Bool} {vs : List Int} {n : Nat} (hv : vs.length = cs.length) (h : RestIs cs b vs n) : RestIs cs b (rks vs) n := by
  have e : ∀ m, settled cs (stat cs b (rks vs) m) = settled cs (stat cs b vs m) := fun m => by
    unfold stat
    rw [← rks_aft _ hv, settled_rks (by rw [aft_len, hv])]
  exact ⟨by rw [e]; exact h.end_, fun m hm => by rw [e]; exact h.least m hm⟩
/-- the place of a value in a rising list -/
theorem idx_asc : ∀ {l : List Int} {j : Nat} {v : Int}, l.Pairwise (· < ·) → l[j]? = some v → ((l.filter fun u => decide (u < v)).length) = j
  | [], j, v, _, h => by simp at h
  | a :: l, 0, v, p, h => by
    simp at h
    subst h
    rw [List.filter_cons_of_neg (by simp)]
    have : l.filter (fun u => decide (u < a)) = [] := List.filter_eq_nil_iff.mpr fun x hx => by
      have := (List.pairwise_cons.mp p).1 x hx
      simp
      omega
    rw [this]
    rfl
  | a :: l, j + 1, v, p, h => by
    have h' : l[j]? = some v := by simpa using h
    have ih := idx_asc (List.pairwise_cons.mp p).2 h'
    have := (List.pairwise_cons.mp p).1 v (List.mem_of_getElem? h')
    rw [List.filter_cons_of_pos (by simpa using this), List.length_cons, ih]
/-- a method's call inside a comprehension, where the written part is named by hand -/
theorem pe_bmK {X : Cx} {K : PySem.W.Frag} {o e : Expr} {es : List Expr} {to : TE} {t : TA} {name : Str} {apos cpos : Pos} {T id : String} {r : V → List V → Hp → VK → Prop} (hK : X.K = K) (pa : PlainAttrs T) (slot : Slot T name id)
    (hty : typeOf (.builtin id) = pure (.type "method_descriptor")) (hm : MtR X id r) (ho : PE X o to) (ha : PA X (e :: es) t)
    (hbase : attributeBase o name X.env (eval o X.env) = eval o X.env := by rfl)
    (hfew : ((backTo cpos (starEach (e :: es) X.env)).all (fun x => !x.1) && (backToKw cpos (keywordEach [] X.env)).all (fun x => x.1.isSome) && decide ((e :: es).length + ([] : List Keyword).length + (if ([] : List Keyword).isEmpty then 0 else 1) < 30)) = true := by rfl)
    (hline : (apos.endLine == cpos.line) = true := by rfl) (hs : starEach (e :: es) X.env = (false, eval e X.env) :: starEach es X.env := by rfl) (hplain : (backTo cpos (starEach es X.env)).any (·.1) = false := by rfl) :
    PE X (.Call (.Attribute o name apos) (e :: es) [] cpos) (tBM K T r to t) := by
  subst hK
  exact pe_bm pa slot hty hm ho ha hbase hfew hline hs hplain
theorem pg_tupK {X : Cx} {K : PySem.W.Frag} {es : List Expr} {k n : Nat} {pos : Pos} {t : TGs} (hK : X.K = K) (hc : X.calm = true) (h : PGs X es t) (hn : (assignEach es X.env).length = n := by rfl) (hst : (assignEach es X.env).findIdx? (·.1) = none := by rfl) : PG X (.Tuple es k pos) (gTup K n t) := by
  subst hK
  exact pg_tup hc h hn hst
end KS
namespace KS
open PySem PySem.Spec PyProof.Rows L2
/-- for comprehensions within comprehensions -/
def rLenSeq (K : PySem.W.Frag) : List V → Hp → VK → Prop := fun xs H Q => ∃ p ys, xs = [.ref p] ∧ (SqL K H p ys ∨ SqT K H p ys) ∧ Q (.int ys.length) H
theorem call_lenK {X : Cx} {K : PySem.W.Frag} (hK : X.K = K) : CallR X (.builtin "len") (rLenSeq K) := by
  subst hK
  exact call_len_seq
theorem pi_tupK {X : Cx} {K : PySem.W.Frag} {tg l : Expr} {tl : TE} (hK : X.K = K) (hl : PE X l tl) : PI X tg l (iTup K tl) := by
  subst hK
  exact pi_tup hl
theorem pi_listK {X : Cx} {K : PySem.W.Frag} {tg l : Expr} {tl : TE} (hK : X.K = K) (hl : PE X l tl) : PI X tg l (iList K tl) := by
  subst hK
  exact pi_list hl
end KS
namespace KS
open PySem PySem.Spec PyProof.Rows L2 RZ
def natV (k : List Nat) : List V := k.map fun n : Nat => V.int (n : Int)
theorem natV_len (k : List Nat) : (natV k).length = k.length := List.length_map ..
theorem natV_take (k : List Nat) (i : Nat) : (natV k).take i = natV (k.take i) := (List.map_take ..).symm
theorem natV_drop (k : List Nat) (i : Nat) : (natV k).drop i = natV (k.drop i) := (List.map_drop ..).symm
theorem natV_app (a b : List Nat) : natV a ++ natV b = natV (a ++ b) := (List.map_append ..).symm
theorem natV_get {k : List Nat} {i : Nat} (h : i < k.length) : (natV k)[i]? = some (V.int ((k.getD i 0 : Nat) : Int)) := by
  unfold natV
  rw [List.getElem?_map, List.getElem?_eq_getElem h, List.getD_eq_getElem?_getD, List.getElem?_eq_getElem h]
  rfl
theorem natV_ints (k : List Nat) : natV k = (k.map fun n : Nat => (n : Int)).map V.int := by
  unfold natV
  rw [List.map_map]
  rfl
theorem natV_sum : ∀ k : List Nat, (k.map fun n : Nat => (n : Int)).sum = ((k.sum : Nat) : Int)
  | [] => rfl
  | x :: k => by
    rw [List.map_cons, List.sum_cons, natV_sum k, List.sum_cons]
    omega
/-- a key made at run time -/
def IsKy (H : Hp) (x : V) (k : List Nat) : Prop := ∃ t, x = .ref t ∧ H t = some (.tup (natV k))
theorem IsKy.same {H H' : Hp} (s : Same H H') {x : V} {k : List Nat} (h : IsKy H x k) : IsKy H' x k := by
  obtain ⟨t, e, q⟩ := h
  exact ⟨t, e, s _ _ q⟩
theorem isKys_mono {H H' : Hp} (s : ∀ t xs, H t = some (.tup xs) → H' t = some (.tup xs)) {xs : List V} {ks : List (List Nat)} (h : Paired (IsKy H) xs ks) : Paired (IsKy H') xs ks :=
  Paired.mono (fun _ _ ⟨t, e, q⟩ => ⟨t, e, s _ _ q⟩) h
def spFit (K : PySem.W.Frag) : Sp := fun xs H Q _ => ∃ (r c : Nat) (a b t : Addr) (cnt : List Nat), xs = [.int (c : Nat), .ref a, .ref b] ∧ Sides r c ∧ KeyOk r c cnt ∧ SqT K H a (natV cnt) ∧
  SqL K H b (List.replicate (r * c) (V.ref t)) ∧ SqT K H t [.int 1, .int ((r * c : Nat) : Int)] ∧
  ∀ H' L xs, Same H H' → H' L = some (.lst xs) → Paired (IsKy H') xs (fitsP r c cnt) → Q (.ref L) H'
def spWithin (K : PySem.W.Frag) : Sp := fun xs H Q _ => ∃ (r c : Nat) (b t : Addr), xs = [.int (r : Nat), .int (c : Nat), .ref b] ∧ Sides r c ∧
  SqL K H b (List.replicate (r * c) (V.ref t)) ∧ SqT K H t [.int 1, .int ((r * c : Nat) : Int)] ∧ ∀ H', Same H H' → Q (.int (cntP r c : Nat)) H'
def spCntS : Sp := fun xs H Q _ => ∃ (r c : Nat), xs = [.int (r : Nat), .int (c : Nat)] ∧ Sides r c ∧ ∀ H', Same H H' → Q (.int (cntP r c : Nat)) H'
abbrev sFit : Stmt := topS 9
abbrev nFit : List Str := ["columns", "counts", "bounds", "value", "found", "row", "count", "place", "least", "most"]
theorem scFit : FnScope nFit ["columns", "counts", "bounds"] (defScope sFit) := ⟨rfl, rfl, rfl, by decide +kernel, rfl, by decide +kernel, by decide +kernel⟩
abbrev sWithin : Stmt := topS 10
abbrev nWithin : List Str := ["rows", "columns", "bounds", "ways", "value", "coming", "counts", "many", "more"]
theorem scWithin : FnScope nWithin ["rows", "columns", "bounds"] (defScope sWithin) := ⟨rfl, rfl, rfl, by decide +kernel, rfl, by decide +kernel, by decide +kernel⟩
abbrev sCntS : Stmt := topS 11
theorem scCntS : FnScope ["rows", "columns"] ["rows", "columns"] (defScope sCntS) := ⟨rfl, rfl, rfl, by decide +kernel, rfl, by decide +kernel, by decide +kernel⟩
section
variable {P : Program} {w : World} {K : PySem.W.Frag} {mg : Str → Option Value} {base : Heap}
theorem ok_fit {f : Addr} {fd : FuncData} (F : Fun K "fitting_steps" "fitting_steps" sFit f fd) (ms : mg "sum" = none) (me : mg "enumerate" = none) : FnOk P w K mg base CX0 1 f fd ["columns", "counts", "bounds"] (spFit K) := by
  refine F.ok scFit (fun vs H Q E h => ?_) (fun cdv A outer s H vs Q E hr h => ?_)
  · obtain ⟨r, c, a, b, t, cnt, rfl, _⟩ := h
    rfl
  · obtain ⟨r, c, a, b, t, cnt, rfl, sd, ky, ha, hb, ht, q⟩ := h
    have nd := scFit.nd
    refine ⟨_, pss_cons (ps_set (i := 3) nd rfl (.inl rfl) (pe_op op_add (pe_callB (id := "sum") (r := rSumT K) (cr_sumT rfl) (by rfl) ms (by decide +kernel) (pa_cons (pv 1) pa_nil)) pe_int))
      (pss_cons (ps_set (i := 4) nd rfl (.inl rfl) (pe_lst pa_nil))
      (pss_cons (ps_for PassesOwn.never rfl (pi_enumT (by rfl) me (pa_cons (pv 1) pa_nil)) (pg_tup (by rfl) (pgs_cons (pg_name (i := 5) nd rfl (.inl rfl)) (pgs_cons (pg_name (i := 6) nd rfl (.inl rfl)) pgs_nil)))
        (pss_cons (ps_set (i := 7) nd rfl (.inl rfl) (pe_op op_add (pe_op op_mul (pv 5) (pv 0)) (pv 6)))
        (pss_one (ps_if (PW.pt (pw_and (pt_cmpR op_lt (pv 6) (pv 0) (nomark _)) (pw_and1 (PW.pt (pw_or (pt_cmpR op_eq (pv 5) pe_int (nomark _)) (pw_or1 (pt_cmpR op_gt (pe_ix ix_tup (pv 1) (pe_op op_sub (pv 5) pe_int) (fun _ _ => rfl)) (pv 6) (nomark _))))))))
          (pss_cons (ps_asg (pe_ix ix_list (pv 2) (pv 7) (fun _ _ => rfl)) (pg_tup (by rfl) (pgs_cons (pg_name (i := 8) nd rfl (.inl rfl)) (pgs_cons (pg_name (i := 9) nd rfl (.inl rfl)) pgs_nil))))
          (pss_one (ps_if (pt_chain op_le op_le (pv 8) (pv 3) (pv 9))
            (pss_one (ps_expr (pe_bm PySem.F.plainAttrs_list PySem.F.slot_list_append PySem.F.type_list_append mt_append (pv 4) (pa_cons
              (pe_op op_catA (pe_op op_catA (pe_slice sl_tupA (pv 1) po_none (po_some (pv 5))) (pe_tup (pa_cons (pe_op op_add (pv 6) pe_int) pa_nil))) (pe_slice sl_tupA (pv 1) (po_some (pe_op op_add (pv 5) pe_int)) po_none)) pa_nil))))
            pss_nil)))
          pss_nil))))
      (pss_one (ps_ret (pv 4))))), ?_⟩
    have rl := sd.le
    have rc := sd.rc
    have hl := ky.len
    refine ⟨_, rfl, a, cnt.map fun n : Nat => (n : Int), rfl, by rw [← natV_ints]; exact ha, ?_⟩
    rw [natV_sum]
    refine ⟨_, _, rfl, rfl, ?_⟩
    refine ⟨by show 0 ≤ sizeLine; decide, fun F0 nF => ?_⟩
    have sF := same_new (o := .lst []) nF
    refine ⟨_, rfl, a, natV cnt, rfl, same_seqT sF ha, for_enumT (K := K) (a := a) (xs := natV cnt) (fun i σ G => ∃ (y5 y6 y7 y8 y9 : Option V) (xs : List V), σ = [some (.int (c : Nat)), some (.ref a), some (.ref b), some (.int (((cnt.sum : Nat) : Int) + 1)), some (.ref F0), y5, y6, y7, y8, y9] ∧
      (∀ z o, z ≠ F0 → H z = some o → G z = some o) ∧ G F0 = some (.lst xs) ∧ Paired (IsKy G) xs (((List.range i).filter (fitB r c cnt)).map (grow cnt))) ?_ ?_ ?_ ?_⟩
    · exact ⟨none, none, none, none, none, [], rfl, fun z o n e => sF _ _ e, upd_same, .nil⟩
    · rintro i σ G _ ⟨_, _, _, _, _, _, _, k, _⟩
      exact same_seqT (fun z o e => k z o (ne_of_none e nF) e) ha
    · rintro i x σ G T hi ⟨y5, y6, y7, y8, y9, xs, rfl, k, hF, pr⟩ nT
      have il : i < cnt.length := by
        have := (List.getElem?_eq_some_iff.mp hi).1
        rw [natV_len] at this
        exact this
      rw [natV_get il] at hi
      cases hi
      have vb := ky.bd _ (getD_mem il)
      generalize hv : cnt.getD i 0 = v at vb
      have sT := same_new (o := .tup [.int (i : Nat), .int (v : Nat)]) nT
      have FT : F0 ≠ T := ne_of_none hF nT
      refine ⟨T, _, rfl, SqT.of upd_same, rfl, _, _, rfl, _, _, rfl, rfl, ?_⟩
      have k1 : ∀ z o, z ≠ F0 → H z = some o → upd G T (.tup [.int (i : Nat), .int (v : Nat)]) z = some o := fun z o n e => sT _ _ (k z o n e)
      have hF := sT _ _ hF
      have pr := isKys_mono (fun t xs e => sT _ _ e) pr
      generalize upd G T (.tup [.int (i : Nat), .int (v : Nat)]) = G1 at k1 hF pr ⊢
      clear k sT nT
      have sG : Same H G1 := fun z o e => k1 z o (ne_of_none e nF) e
      have xl := Paired.length pr
      rw [List.length_map] at xl
      have xl24 : xs.length ≤ 24 := by
        have h1 := List.length_filter_le (fitB r c cnt) (List.range i)
        rw [List.length_range] at h1
        omega
      refine ⟨_, rfl, _, rfl, _, _, rfl, rfl, .inl ⟨by omega, by omega⟩, _, rfl, _, _, rfl, rfl, ?_⟩
      have er : List.range (i + 1) = List.range i ++ [i] := List.range_succ
      have stay : fitB r c cnt i = false → ∃ (y5 y6 y7 y8 y9 : Option V) (xs : List V), [some (V.int (c : Nat)), some (.ref a), some (.ref b), some (.int (((cnt.sum : Nat) : Int) + 1)), some (.ref F0), y5, y6, y7, y8, y9] = [some (V.int (c : Nat)), some (.ref a), some (.ref b), some (.int (((cnt.sum : Nat) : Int) + 1)), some (.ref F0), y5, y6, y7, y8, y9] := fun _ => ⟨none, none, none, none, none, [], rfl⟩
      have same' : fitB r c cnt i = false → Paired (IsKy G1) xs (((List.range (i + 1)).filter (fitB r c cnt)).map (grow cnt)) := fun e => by
        rw [er, List.filter_append, List.filter_cons, e]
        simpa using pr
      clear stay
      by_cases c1 : v < c
      rotate_left
      · refine ⟨_, rfl, _, rfl, _, _, rfl, rfl, false, bl_false (show ¬ ((v : Nat) : Int) < ((c : Nat) : Int) by omega), ?_⟩
        refine ⟨_, _, _, _, _, xs, rfl, k1, hF, same' ?_⟩
        unfold fitB
        rw [hv, decide_eq_false c1]
        rfl
      refine ⟨_, rfl, _, rfl, _, _, rfl, rfl, true, congrArg V.bl (decide_eq_true (show ((v : Nat) : Int) < ((c : Nat) : Int) by omega)), ?_⟩
      have hc : i = 0 ∨ (¬ i = 0 ∧ v < cnt.getD (i - 1) 0) ∨ (¬ i = 0 ∧ ¬ v < cnt.getD (i - 1) 0) := by omega
      have hp : ¬ i = 0 → atI (natV cnt) ((i : Int) - 1) = some (V.int ((cnt.getD (i - 1) 0 : Nat) : Int)) := fun n0 => by
        have : (i : Int) - 1 = ((i - 1 : Nat) : Int) := by omega
        rw [this]
        exact atI_nat (natV_get (by omega))
      rcases hc with c2 | ⟨c2, c3⟩ | ⟨c2, c3⟩
      rotate_left 2
      · refine ⟨_, rfl, rfl, false, bl_false (fun e => c2 (by have := V.int.inj e; omega)), ?_⟩
        refine ⟨_, rfl, _, rfl, _, _, rfl, rfl, a, _, _, _, rfl, rfl, same_seqT sG ha, hp c2, _, rfl, _, _, rfl, rfl, false, bl_false (show ¬ ((v : Nat) : Int) < ((cnt.getD (i - 1) 0 : Nat) : Int) by omega), ?_⟩
        refine ⟨_, _, _, _, _, xs, rfl, k1, hF, same' ?_⟩
        unfold fitB
        rw [hv, decide_eq_false c2, decide_eq_false c3, Bool.or_self, Bool.and_false]
        rfl
      refine ⟨_, rfl, rfl, true, congrArg V.bl (decide_eq_true (by rw [c2]; rfl)), ?_⟩
      rotate_left
      refine ⟨_, rfl, rfl, false, bl_false (fun e => c2 (by have := V.int.inj e; omega)), ?_⟩
      refine ⟨_, rfl, _, rfl, _, _, rfl, rfl, a, _, _, _, rfl, rfl, same_seqT sG ha, hp c2, _, rfl, _, _, rfl, rfl, true, congrArg V.bl (decide_eq_true (show ((v : Nat) : Int) < ((cnt.getD (i - 1) 0 : Nat) : Int) by omega)), ?_⟩
      all_goals
        have hor : (decide (i = 0) || decide (v < cnt.getD (i - 1) 0)) = true := by
          first
            | (rw [decide_eq_true c2]; rfl)
            | (rw [decide_eq_true c3, Bool.or_true])
        have place : i * c + v < r * c := by
          have h1 : i * c + v < i * c + c := Nat.add_lt_add_left c1 _
          have h2 : i * c + c ≤ r * c := by
            rw [← Nat.succ_mul]
            exact Nat.mul_le_mul_right c (by omega)
          omega
        have ep : (i : Int) * (c : Int) + (v : Int) = ((i * c + v : Nat) : Int) := by
          rw [Int.natCast_add, Int.natCast_mul]
        have hat : atI (List.replicate (r * c) (V.ref t)) ((i : Int) * (c : Int) + (v : Int)) = some (V.ref t) := by
          rw [ep]
          exact atI_nat (by rw [List.getElem?_replicate, if_pos place])
        refine ⟨_, rfl, _, rfl, b, _, _, .ref t, rfl, rfl, sG.seq hb, hat, t, _, rfl, same_seqT sG ht, rfl, _, _, rfl, _, _, rfl, rfl, ?_⟩
        refine ⟨_, rfl, _, rfl, _, _, rfl, rfl, _, rfl, ite2 (fun e1 => ?_) (fun e1 => ?_)⟩
        rotate_left
        · exact absurd (decide_eq_true (show (1 : Int) ≤ ((cnt.sum : Nat) : Int) + 1 by omega)) e1
        refine ⟨_, rfl, _, _, rfl, rfl, _, rfl, ite2 (fun e2 => ?_) (fun e2 => ?_)⟩
        rotate_left
        · have c4 : ¬ cnt.sum + 1 ≤ r * c := fun z => e2 (decide_eq_true (show ((cnt.sum : Nat) : Int) + 1 ≤ ((r * c : Nat) : Int) by omega))
          refine ⟨_, _, _, _, _, xs, rfl, k1, hF, same' ?_⟩
          unfold fitB
          rw [decide_eq_false c4, Bool.and_false]
        have c4 : cnt.sum + 1 ≤ r * c := by
          have := of_decide_eq_true e2
          have : ((cnt.sum : Nat) : Int) + 1 ≤ ((r * c : Nat) : Int) := this
          omega
        have hfit : fitB r c cnt i = true := by
          unfold fitB
          rw [hv, decide_eq_true c1, hor, decide_eq_true c4]
          rfl
        have ha1 := same_seqT sG ha
        refine ⟨_, rfl, .inl ⟨rfl, _, SqL.of hF⟩, _, rfl, ?_⟩
        dsimp only [tNoPart]
        refine ⟨_, rfl, _, rfl, ?_⟩
        show rSlA K (.ref a) none (some ((i : Nat) : Int)) G1 _
        refine slTo_ok2 (n := i) ha1 (by rw [natV_len]; omega) fun G2 u2 s2 hu2 => ?_
        rw [natV_take] at hu2
        refine ⟨_, rfl, _, _, rfl, rfl, by show 1 ≤ sizeLine; decide, fun U nU => ?_⟩
        have sU := same_new (o := .tup [.int ((v : Int) + 1)]) nU
        have l1 : (natV (cnt.take i)).length ≤ 24 := by
          rw [natV_len, List.length_take]
          omega
        have l2 : (natV (cnt.drop (i + 1))).length ≤ 24 := by
          rw [natV_len, List.length_drop]
          omega
        refine catL_ok (same_seqT sU hu2) upd_same (by simp) (by show _ + 1 ≤ 64; omega) fun G4 u4 s4 hu4 => ?_
        have s24 := (s2.trans sU).trans s4
        refine ⟨_, rfl, _, rfl, _, _, rfl, rfl, _, rfl, ?_⟩
        dsimp only [tNoPart]
        have ei : (i : Int) + 1 = ((i + 1 : Nat) : Int) := by omega
        show rSlA K (.ref a) (some ((i : Int) + 1)) none G4 _
        rw [ei]
        refine slFrom_ok2 (n := i + 1) (same_seqT s24 ha1) (by rw [natV_len]; omega) fun G5 u5 s5 hu5 => ?_
        rw [natV_drop] at hu5
        refine catR_ok (s5 _ _ hu4) hu5 (by simp) (by rw [List.length_append]; show _ + 1 + _ ≤ 64; omega) fun G6 u6 s6 hu6 => ?_
        have s26 := (s24.trans s5).trans s6
        have eg : natV (cnt.take i) ++ [V.int ((v : Int) + 1)] ++ natV (cnt.drop (i + 1)) = natV (grow cnt i) := by
          unfold grow
          rw [hv, ← natV_app, ← natV_app]
          rfl
        rw [eg] at hu6
        refine ⟨F0, _, _, rfl, rfl, s26 _ _ hF, small64 (by omega), ?_⟩
        refine ⟨_, _, _, _, _, xs ++ [.ref u6], rfl, fun z o n e => ?_, upd_same, ?_⟩
        · rw [upd_ne n]
          exact s26 _ _ (k1 z o n e)
        · have kt : ∀ z ys, G6 z = some (.tup ys) → upd G6 F0 (.lst (xs ++ [.ref u6])) z = some (.tup ys) := fun z ys e => by
            rw [upd_ne (ne_of e (s26 _ _ hF) (fun q => nomatch q))]
            exact e
          rw [er, List.filter_append, List.filter_cons, if_pos hfit, List.map_append]
          exact paired_append (isKys_mono (fun z ys e => kt _ _ (s26 _ _ e)) pr) (.cons ⟨u6, rfl, kt _ _ hu6⟩ .nil)
    · rintro σ G ⟨y5, y6, y7, y8, y9, xs, rfl, k, hF, pr⟩
      have sG : Same H G := fun z o e => k z o (ne_of_none e nF) e
      rw [natV_len] at pr
      exact ⟨_, rfl, q G F0 xs sG hF pr⟩
theorem rep_nat (r n : Nat) : (List.replicate r [V.int (n : Int)]).flatten = natV (List.replicate r n) := by
  unfold natV
  rw [List.map_replicate, List.flatten_replicate_singleton]
theorem ok_within {f fF : Addr} {fd fdF : FuncData} (F : Fun K "count_within" "count_within" sWithin f fd) (GF : FnOk P w K mg base CX0 1 fF fdF ["columns", "counts", "bounds"] (spFit K)) (bF : Binds K fdF ["columns", "counts", "bounds"] []) (gF : mg "fitting_steps" = some (.ref fF)) (kF : PySem.W.keepIn K (.ref fF) = true)
    (mr : mg "range" = none) (ms : mg "sum" = none) : FnOk P w K mg base CX0 2 f fd ["rows", "columns", "bounds"] (spWithin K) := by
  refine F.ok scWithin (fun vs H Q E h => ?_) (fun cdv A outer s H vs Q E hr h => ?_)
  · obtain ⟨r, c, b, t, rfl, _⟩ := h
    rfl
  · obtain ⟨r, c, b, t, rfl, sd, hb, ht, q⟩ := h
    have nd := scWithin.nd
    have hu1 := Nat.lt_of_le_of_lt (Nat.add_le_add_left (by decide : 1 ≤ 64) _) hr.units
    refine ⟨_, pss_cons (ps_set (i := 3) nd rfl (.inl rfl) (pe_disp1T hr.units0 (pe_op op_rep1 (pe_tup (pa_cons pe_int pa_nil)) (pv 0)) pe_int))
      (pss_cons (ps_for PassesOwn.never rfl (pi_range1 (by rfl) mr (pa_cons (pe_op op_mul (pv 0) (pv 1)) pa_nil)) (pg_name (i := 4) nd rfl (.inl rfl))
        (pss_cons (ps_set (i := 5) nd rfl (.inl rfl) pe_dnewT)
        (pss_cons (ps_lock (ps_for PassesOwn.never rfl (pi_itemsT (pv 3)) (pg_tup (by rfl) (pgs_cons (pg_name (i := 6) nd rfl (.inl rfl)) (pgs_cons (pg_name (i := 7) nd rfl (.inl rfl)) pgs_nil)))
          (pss_one (ps_for PassesOwn.never rfl (pi_list (pe_call GF hr (by rfl) gF kF bF .nil pass0 (pa_cons (pv 1) (pa_cons (pv 6) (pa_cons (pv 2) pa_nil))))) (pg_name (i := 8) nd rfl (.inl rfl))
            (pss_one (ps_dput hu1 (pv 5) (pv 8) (pe_op op_add (pe_dget2 hu1 (pv 5) (pv 8) pe_int ⟨rfl, rfl, rfl, rfl⟩) (pv 7)) rfl))))))
        (pss_one (ps_set (i := 3) nd rfl (.inl rfl) (pv 5))))))
      (pss_one (ps_ret (pe_lock (pe_callB (cr_sum rfl) (by rfl) ms (by decide +kernel) (pa_cons
        (pe_lc (own := [("counts", 6), ("many", 7)]) (tt := tYes) rfl nd (pi_itemsT (pv 3)) (blkOk_by (N := nWithin) (sc := defScope sWithin) (by decide +kernel))
          (fun _ _ _ _ _ => pg_tupK (K := K) (n := 2) rfl (by rfl) (pgs_cons (pg_name (i := 6) nd rfl (Or.inl rfl)) (pgs_cons (pg_name (i := 7) nd rfl (Or.inl rfl)) pgs_nil))) (fun _ _ _ _ _ => pts_nil) (fun _ _ _ _ _ => pv 7)) pa_nil)))))), ?_⟩
    have rl := sd.le
    have rc := sd.rc
    have r1 := sd.r1
    obtain ⟨few, _, _⟩ := run_ok sd
    have fok : ∀ k, KeyOk r c k → ∀ m ∈ fitsP r c k, KeyOk r c m := fun k h m hm => fitsP_ok h hm
    have eRC : (r : Int) * (c : Int) = ((r * c : Nat) : Int) := by rw [Int.natCast_mul]
    refine fun D nD => ⟨by show 1 ≤ sizeLine; decide, fun U nU => ?_⟩
    have sD := same_new (o := .dT []) nD
    have hD : upd H D (.dT []) D = some (.dT []) := upd_same
    have sU := same_new (o := .tup [.int 0]) nU
    refine ⟨_, rfl, U, (r : Int), [.int 0], rfl, rfl, upd_same, by omega, by omega, by decide, by simp, fun H1 p s1 hp => ⟨_, _, rfl, [], keyN (List.replicate r 0), p, rfl, ?_, s1 _ _ (sU _ _ hD), by decide, ?_⟩⟩
    · rw [hp, Int.toNat_natCast]
      have := rep_nat r 0
      rw [keyN_kV]
      exact congrArg (fun z => some (HO.tup z)) this
    have e0 : putK ([] : List (List L2.Key × V)) (keyN (List.replicate r 0)) (V.int 1) = img (runP (fitsP r c) r 0) := rfl
    rw [e0]
    have s0 : Same H (upd H1 D (.dT (img (runP (fitsP r c) r 0)))) := fun z o e => by
      rw [upd_ne (ne_of_none e nD)]
      exact s1 _ _ (sU _ _ (sD _ _ e))
    have h0 : upd H1 D (.dT (img (runP (fitsP r c) r 0))) D = some (.dT (img (runP (fitsP r c) r 0))) := upd_same
    generalize upd H1 D (.dT (img (runP (fitsP r c) r 0))) = H2 at s0 h0 ⊢
    clear s1 hp sU hD sD e0
    refine ⟨_, rfl, _, rfl, _, _, rfl, rfl, .inl ⟨by omega, by omega⟩, (r : Int) * (c : Int), rfl, by rw [eRC]; omega, by rw [eRC]; omega, for_range (lo := 0) (n := ((r : Int) * (c : Int)).toNat) (fun v σ G => ∃ (D : Addr) (y4 y5 y6 y7 y8 : Option V), σ = [some (.int (r : Nat)), some (.int (c : Nat)), some (.ref b), some (.ref D), y4, y5, y6, y7, y8] ∧
      Same H G ∧ H D = none ∧ G D = some (.dT (img (runP (fitsP r c) r v)))) ?_ ?_ ?_⟩
    · exact ⟨D, none, none, none, none, none, rfl, s0, nD, h0⟩
    · rintro v σ G hv ⟨D, y4, y5, y6, y7, y8, rfl, sG, nD, hD⟩
      rw [eRC, Int.toNat_natCast] at hv
      have fv := (few v (by omega)).1
      have fv1 := (few (v + 1) (by omega)).1
      have kyd := run_keys fok v
      have efin : runP (fitsP r c) r (v + 1) = stepP (fitsP r c) (runP (fitsP r c) r v) := rfl
      rw [efin] at fv1
      have finish : stepP (fitsP r c) (runP (fitsP r c) r v) = runP (fitsP r c) r (v + 1) := rfl
      generalize runP (fitsP r c) r v = d at hD fv fv1 kyd finish
      refine fun C nC => ?_
      have DC : D ≠ C := ne_of_none hD nC
      have sC := same_new (o := .dT []) nC
      have hC : upd G C (.dT []) C = some (.dT []) := upd_same
      have hD := sC _ _ hD
      have nCH : H C = none := sG.free nC
      have sG := sG.trans sC
      generalize upd G C (.dT []) = G1 at hC hD sG ⊢
      clear sC nC
      refine ⟨D, .dT (img d), hD, trivial, fun od => ?_⟩
      have hL : upd G1 D (.frz od (.dT (img d))) D = some (.frz od (.dT (img d))) := upd_same
      have hCL : upd G1 D (.frz od (.dT (img d))) C = some (.dT []) := by
        rw [upd_ne (Ne.symm DC)]
        exact hC
      have sL : Same H (upd G1 D (.frz od (.dT (img d)))) := fun z o e => by
        rw [upd_ne (ne_of_none e nD)]
        exact sG _ _ e
      generalize upd G1 D (.frz od (.dT (img d))) = G2 at hL hCL sL ⊢
      clear hC hD sG
      refine ⟨_, rfl, D, od, img d, rfl, hL, for_it walk_itemsT (fun i σ J => ∃ (y6 y7 y8 : Option V), σ = [some (.int (r : Nat)), some (.int (c : Nat)), some (.ref b), some (.ref D), some (.int (0 + (v : Int))), some (.ref C), y6, y7, y8] ∧
        J D = some (.frz od (.dT (img d))) ∧ J C = some (.dT (img ((d.take i).foldl (fun acc p => (fitsP r c p.1).foldl (addP p.2) acc) []))) ∧ (∀ z o, z ≠ C → G2 z = some o → J z = some o)) ?_ ?_ ?_ ?_⟩
      · exact ⟨y6, y7, y8, rfl, hL, hCL, fun z o _ e => e⟩
      · rintro i σ J _ ⟨_, _, _, _, h, _⟩
        exact h
      · rintro i x σ J J' hi ⟨y6, y7, y8, rfl, hJD, hJC, kJ⟩ ⟨T, k, w', q0, ek, hq, rfl, nT, rfl⟩
        unfold img at ek
        rw [List.getElem?_map] at ek
        cases ed : d[i]? with
        | none =>
          rw [ed] at ek
          cases ek
        | some p =>
          rw [ed] at ek
          cases ek
          have kp := kyd p (List.mem_of_getElem? ed)
          have sT := same_new (o := .tup [.ref q0, .int (p.2 : Int)]) nT
          refine ⟨T, _, rfl, SqT.of upd_same, rfl, _, _, rfl, _, _, rfl, rfl, ?_⟩
          have hJD := sT _ _ hJD
          have hJC := sT _ _ hJC
          have hq := sT _ _ hq
          have kJ : ∀ z o, z ≠ C → G2 z = some o → upd J T (.tup [.ref q0, .int (p.2 : Int)]) z = some o := fun z o n e => sT _ _ (kJ z o n e)
          generalize upd J T (.tup [.ref q0, .int (p.2 : Int)]) = J1 at hJD hJC hq kJ ⊢
          clear sT nT
          have sHJ : Same H J1 := fun z o e => kJ z o (ne_of_none e nCH) (sL _ _ e)
          have tk : d.take (i + 1) = d.take i ++ [p] := by
            rw [List.take_add_one, ed]
            rfl
          have hlen : ((fitsP r c p.1).foldl (addP p.2) ((d.take i).foldl (fun acc p => (fitsP r c p.1).foldl (addP p.2) acc) [])).length ≤ 1000 := by
            have e1 : (d.take (i + 1)).foldl (fun acc p => (fitsP r c p.1).foldl (addP p.2) acc) [] = (fitsP r c p.1).foldl (addP p.2) ((d.take i).foldl (fun acc p => (fitsP r c p.1).foldl (addP p.2) acc) []) := by
              rw [tk, List.foldl_append]
              rfl
            rw [← e1]
            refine Nat.le_trans ?_ fv1
            have e2 : stepP (fitsP r c) d = (d.drop (i + 1)).foldl (fun acc p => (fitsP r c p.1).foldl (addP p.2) acc) ((d.take (i + 1)).foldl (fun acc p => (fitsP r c p.1).foldl (addP p.2) acc) []) := by
              rw [← List.foldl_append, List.take_append_drop]
              rfl
            rw [e2]
            exact foldS_len _ _
          rw [tk, List.foldl_append]
          generalize (d.take i).foldl (fun acc p => (fitsP r c p.1).foldl (addP p.2) acc) [] = acc at hJC hlen ⊢
          have hq' : SqT K J1 q0 (natV p.1) := SqT.of (by rw [hq, keyN_kV]; rfl)
          refine ⟨_, rfl, _, rfl, _, rfl, r, c, q0, b, t, p.1, rfl, sd, kp, hq', sHJ.seq hb, same_seqT sHJ ht, fun J2 L ms s2 hLs pr => ?_⟩
          have hJD := s2 _ _ hJD
          have hJC := s2 _ _ hJC
          have CL : C ≠ L := ne_of hJC hLs (fun e => nomatch e)
          refine ⟨L, rfl, ⟨_, SqL.of hLs⟩, for_list (K := K) (a := L) (xs := ms) (fun j σ J3 => ∃ y8 : Option V, σ = [some (.int (r : Nat)), some (.int (c : Nat)), some (.ref b), some (.ref D), some (.int (0 + (v : Int))), some (.ref C), some (.ref q0), some (.int (p.2 : Int)), y8] ∧
            J3 C = some (.dT (img (((fitsP r c p.1).take j).foldl (addP p.2) acc))) ∧ (∀ z o, z ≠ C → J2 z = some o → J3 z = some o)) ?_ ?_ ?_ ?_⟩
          · exact ⟨y8, rfl, hJC, fun z o _ e => e⟩
          · rintro j σ J3 _ ⟨_, _, _, k3⟩
            exact SqL.of (k3 _ _ (Ne.symm CL) hLs)
          · rintro j x σ J3 hj ⟨y8, rfl, hC3, k3⟩
            obtain ⟨m, em, u, rfl, hu0⟩ := paired_get pr hj
            have Cu : u ≠ C := ne_of hu0 hJC (fun e => nomatch e)
            have hu3 := k3 _ _ Cu hu0
            have hk3 : J3 u = some (.tup ((keyN m).map kV)) := by
              rw [hu3, keyN_kV]
              rfl
            have jl := (List.getElem?_eq_some_iff.mp em).1
            have tk2 : (fitsP r c p.1).take (j + 1) = (fitsP r c p.1).take j ++ [m] := by
              rw [List.take_add_one, em]
              rfl
            have lj : (((fitsP r c p.1).take j).foldl (addP p.2) acc).length ≤ 1000 := by
              refine Nat.le_trans ?_ hlen
              have e2 : (fitsP r c p.1).foldl (addP p.2) acc = ((fitsP r c p.1).drop j).foldl (addP p.2) (((fitsP r c p.1).take j).foldl (addP p.2) acc) := by
                rw [← List.foldl_append, List.take_append_drop]
              rw [e2]
              exact foldA_len _ _
            generalize hacc : ((fitsP r c p.1).take j).foldl (addP p.2) acc = acc2 at hC3 lj
            refine ⟨_, rfl, C, rfl, .inr ⟨_, .inl hC3⟩, _, rfl, _, DGet.t hC3 hk3, ?_⟩
            rw [img_getD]
            refine ⟨_, rfl, _, _, rfl, rfl, _, rfl, _, rfl, C, _, rfl, DPut.t hC3 hk3 (by rw [img_len]; exact Nat.lt_of_le_of_lt lj (by decide)), ?_⟩
            refine ⟨_, rfl, ?_, fun z o n e => ?_⟩
            · rw [upd_same, tk2, List.foldl_append, hacc]
              have e : V.int ((getP acc2 m : Int) + (p.2 : Int)) = V.int ((getP acc2 m + p.2 : Nat) : Int) := by rw [Int.natCast_add]
              show some (HO.dT (putK (img acc2) (keyN m) (V.int ((getP acc2 m : Int) + (p.2 : Int))))) = _
              rw [e, img_put]
              rfl
            · rw [upd_ne n]
              exact k3 _ _ n e
          · rintro σ J3 ⟨y8, rfl, hC3, k3⟩
            have lm := Paired.length pr
            rw [lm, List.take_length] at hC3
            refine ⟨_, _, _, rfl, k3 _ _ DC hJD, hC3, fun z o n e => k3 _ _ n (s2 _ _ (kJ z o n e))⟩
      · rintro σ J ⟨y6, y7, y8, rfl, hJD, hJC, kJ⟩
        rw [img_len, List.take_length] at hJC
        refine ⟨hJD, _, rfl, C, _, _, _, _, _, rfl, fun z o e => ?_, nCH, ?_⟩
        · rw [upd_ne (ne_of_none e nD)]
          exact kJ z o (ne_of_none e nCH) (sL _ _ e)
        · rw [upd_ne (Ne.symm DC), ← finish]
          exact hJC
    · rintro σ G ⟨D, y4, y5, y6, y7, y8, rfl, sG, nD, hD⟩
      rw [eRC, Int.toNat_natCast] at hD
      have fv := (few (r * c) (Nat.le_refl _)).1
      have e : cntP r c = ((runP (fitsP r c) r (r * c)).map (·.2)).sum := rfl
      generalize runP (fitsP r c) r (r * c) = d at hD fv e
      refine ⟨D, .dT (img d), hD, trivial, fun od => ?_⟩
      have hL : upd G D (.frz od (.dT (img d))) D = some (.frz od (.dT (img d))) := upd_same
      refine ⟨_, rfl, D, od, img d, rfl, hL, fun Dn nDn => ?_⟩
      have DDn : D ≠ Dn := ne_of_none hL nDn
      refine lc_it walk_itemsT (fun i J => J D = some (.frz od (.dT (img d))) ∧ J Dn = some (.lst (((d.take i).map fun p => (p.2 : Int)).map V.int)) ∧ (∀ z o, z ≠ Dn → upd G D (.frz od (.dT (img d))) z = some o → J z = some o)) ?_ ?_ ?_ ?_
      · exact ⟨by rw [upd_ne DDn]; exact hL, upd_same, fun z o n e => by rw [upd_ne n]; exact e⟩
      · rintro i J _ ⟨h, _⟩
        exact h
      · rintro i x J J' hi ⟨hJD, hJn, kJ⟩ ⟨T, k, w', q0, ek, hq, rfl, nT, rfl⟩
        unfold img at ek
        rw [List.getElem?_map] at ek
        cases ed : d[i]? with
        | none =>
          rw [ed] at ek
          cases ek
        | some p =>
          rw [ed] at ek
          cases ek
          have sT := same_new (o := .tup [.ref q0, .int (p.2 : Int)]) nT
          have il := (List.getElem?_eq_some_iff.mp ed).1
          refine ⟨T, _, rfl, SqT.of upd_same, rfl, _, _, rfl, _, _, rfl, rfl, rfl, ?_⟩
          refine ⟨_, rfl, _, sT _ _ hJn, ?_, ?_, ?_, fun z o n e => ?_⟩
          · rw [List.length_map, List.length_map, List.length_take]
            exact Nat.lt_of_le_of_lt (Nat.min_le_right _ _) (Nat.lt_of_le_of_lt fv (by decide))
          · rw [upd_ne DDn]
            exact sT _ _ hJD
          · rw [upd_same, List.take_add_one, ed, List.map_append, List.map_append]
            rfl
          · rw [upd_ne n]
            exact sT _ _ (kJ z o n e)
      · rintro J ⟨hJD, hJn, kJ⟩
        rw [img_len, List.take_length] at hJn
        refine ⟨Dn, _, rfl, SqL.of hJn, hJD, ?_⟩
        have es : (d.map fun p => (p.2 : Int)).sum = ((cntP r c : Nat) : Int) := by
          rw [e, ← natV_sum, List.map_map]
          rfl
        rw [es]
        refine q _ fun z o ez => ?_
        have nz : z ≠ D := ne_of_none ez nD
        rw [upd_ne nz]
        refine kJ z o (ne_of_none (o := o) ?_ nDn) ?_
        · exact (upd_ne nz).trans (sG _ _ ez)
        · exact (upd_ne nz).trans (sG _ _ ez)
theorem ok_cntS {f fR fW : Addr} {fd fdR fdW : FuncData} (F : Fun K "count_sorted" "count_sorted" sCntS f fd) (GR : FnOk P w K mg base CX0 3 fR fdR ["rows", "columns"] spRcOk) (bR : Binds K fdR ["rows", "columns"] []) (gR : mg "check_rectangle" = some (.ref fR)) (kR : PySem.W.keepIn K (.ref fR) = true)
    (GW : FnOk P w K mg base CX0 2 fW fdW ["rows", "columns", "bounds"] (spWithin K)) (bW : Binds K fdW ["rows", "columns", "bounds"] []) (gW : mg "count_within" = some (.ref fW)) (kW : PySem.W.keepIn K (.ref fW) = true) : FnOk P w K mg base CX0 4 f fd ["rows", "columns"] spCntS := by
  refine F.ok scCntS (fun vs H Q E h => ?_) (fun cdv A outer s H vs Q E hr h => ?_)
  · obtain ⟨r, c, rfl, _⟩ := h
    rfl
  · obtain ⟨r, c, rfl, sd, q⟩ := h
    have hr2 : Room 2 _ := hr.mono (by decide)
    refine ⟨_, pss_cons (ps_expr (pe_call GR hr (by rfl) gR kR bR .nil pass0 (pa_cons (pv 0) (pa_cons (pv 1) pa_nil))))
      (pss_one (ps_ret (pe_call GW hr2 (by rfl) gW kW bW .nil pass0 (pa_cons (pv 0) (pa_cons (pv 1) (pa_cons (pe_op op_rep (pe_lst (pa_cons (pe_tup (pa_cons pe_int (pa_cons (pe_op op_mul (pv 0) (pv 1)) pa_nil))) pa_nil)) (pe_op op_mul (pv 0) (pv 1))) pa_nil)))))), ?_⟩
    have rl := sd.le
    have rc := sd.rc
    have eRC : (r : Int) * (c : Int) = ((r * c : Nat) : Int) := by rw [Int.natCast_mul]
    refine ⟨_, rfl, _, rfl, r, c, rfl, sd, ?_⟩
    refine ⟨_, rfl, _, rfl, _, rfl, _, rfl, _, _, rfl, rfl, .inl ⟨by omega, by omega⟩, by show 2 ≤ sizeLine; decide, fun T nT => ?_⟩
    have sT := same_new (o := .tup [.int 1, .int ((r : Int) * (c : Int))]) nT
    have hT : upd H T (.tup [.int 1, .int ((r : Int) * (c : Int))]) T = some (.tup [.int 1, .int ((r * c : Nat) : Int)]) := by rw [upd_same, eRC]
    generalize hH1 : upd H T (.tup [.int 1, .int ((r : Int) * (c : Int))]) = H1 at sT hT
    refine ⟨by show 1 ≤ sizeLine; decide, fun L nL => ?_⟩
    have sL := same_new (o := .lst [.ref T]) nL
    refine ⟨_, rfl, _, rfl, _, _, rfl, rfl, .inl ⟨by omega, by omega⟩, ?_⟩
    refine ⟨L, (r : Int) * (c : Int), _, rfl, rfl, upd_same, by rw [eRC]; omega, by rw [eRC]; omega, by rw [eRC]; show 1 * ((r * c : Nat) : Int).toNat ≤ _; rw [sizeLine_eq]; omega, fun M nM => ?_⟩
    have eN : ((r : Int) * (c : Int)).toNat = r * c := by rw [eRC]; exact Int.toNat_natCast _
    have sM := same_new (o := .lst (List.replicate ((r : Int) * (c : Int)).toNat [V.ref T]).flatten) nM
    refine ⟨r, c, M, T, rfl, sd, ?_, ?_, fun H' s' => q H' (((sT.trans sL).trans sM).trans ?_)⟩
    · refine SqL.of (upd_same.trans ?_)
      rw [eN, List.flatten_replicate_singleton]
    · have := sM _ _ (sL _ _ hT)
      exact SqT.of this
    · exact s'
end
end KS
namespace KS
open PySem PySem.Spec PyProof.Rows L2 RZ
theorem lt_foldl_min (v : Int) : ∀ (ns : List Int) (n : Int), v < ns.foldl min n ↔ v < n ∧ ∀ x ∈ ns, v < x
  | [], n => by simp
  | x :: ns, n => by
    rw [List.foldl_cons, lt_foldl_min v ns (min n x)]
    constructor
    · rintro ⟨h1, h2⟩
      refine ⟨by omega, fun y hy => ?_⟩
      rcases List.mem_cons.mp hy with e | hy
      · rw [e]; omega
      · exact h2 y hy
    · rintro ⟨h1, h2⟩
      have := h2 x (List.mem_cons_self ..)
      exact ⟨by omega, fun y hy => h2 y (List.mem_cons_of_mem _ hy)⟩
def intL (k : List Nat) : List Int := k.map fun n : Nat => (n : Int)
theorem fitL_min {c : Nat} {cnt : List Nat} {i : Nat} {n : Int} {ns : List Int} (h : n :: ns = intL (cnt.take i ++ [c])) : decide (((cnt.getD i 0 : Nat) : Int) < ns.foldl min n) = fitL c cnt i := by
  unfold fitL
  have key : ((cnt.getD i 0 : Nat) : Int) < ns.foldl min n ↔ cnt.getD i 0 < c ∧ ∀ x ∈ cnt.take i, cnt.getD i 0 < x := by
    rw [lt_foldl_min]
    have all : (((cnt.getD i 0 : Nat) : Int) < n ∧ ∀ x ∈ ns, ((cnt.getD i 0 : Nat) : Int) < x) ↔ ∀ x ∈ n :: ns, ((cnt.getD i 0 : Nat) : Int) < x := by
      simp
    rw [all, h]
    unfold intL
    constructor
    · intro q
      refine ⟨?_, fun x hx => ?_⟩
      · have := q (c : Int) (List.mem_map.mpr ⟨c, List.mem_append_right _ (List.mem_singleton.mpr rfl), rfl⟩)
        omega
      · have := q (x : Int) (List.mem_map.mpr ⟨x, List.mem_append_left _ hx, rfl⟩)
        omega
    · rintro ⟨q1, q2⟩ x hx
      obtain ⟨y, hy, rfl⟩ := List.mem_map.mp hx
      rcases List.mem_append.mp hy with hy | hy
      · have := q2 y hy
        omega
      · rw [List.mem_singleton.mp hy]
        omega
  rw [Bool.eq_iff_iff, decide_eq_true_eq, key, Bool.and_eq_true, decide_eq_true_eq, List.all_eq_true]
  simp
def spWays : Sp := fun xs H Q _ => ∃ (r c : Nat), xs = [.int (r : Nat), .int (c : Nat)] ∧ Sides r c ∧ ∀ H', Same H H' → Q (.int (waysP r c : Nat)) H'
abbrev sWays : Stmt := topS 19
abbrev nWays : List Str := ["_law_high", "_law_wide", "_law_ways_here", "_law_turn", "_law_longer", "_law_lengths", "_law_k", "_law_grown"]
theorem scWays : FnScope nWays ["_law_high", "_law_wide"] (defScope sWays) := ⟨rfl, rfl, rfl, by decide +kernel, rfl, by decide +kernel, by decide +kernel⟩
section
variable {P : Program} {w : World} {K : PySem.W.Frag} {mg : Str → Option Value} {base : Heap}
theorem ok_ways {f : Addr} {fd : FuncData} (F : Fun K "_law_ways" "_law_ways" sWays f fd) (mr : mg "range" = none) (mn : mg "min" = none) : FnOk P w K mg base CX0 1 f fd ["_law_high", "_law_wide"] spWays := by
  refine F.ok scWays (fun vs H Q E h => ?_) (fun cdv A outer s H vs Q E hr h => ?_)
  · obtain ⟨r, c, rfl, _⟩ := h
    rfl
  · obtain ⟨r, c, rfl, sd, q⟩ := h
    have nd := scWays.nd
    have hu1 := Nat.lt_of_le_of_lt (Nat.add_le_add_left (by decide : 1 ≤ 64) _) hr.units
    refine ⟨_, pss_cons (ps_set (i := 2) nd rfl (.inl rfl) (pe_disp1T hr.units0 (pe_op op_rep1 (pe_tup (pa_cons pe_int pa_nil)) (pv 0)) pe_int))
      (pss_cons (ps_for PassesOwn.never rfl (pi_range1 (by rfl) mr (pa_cons (pe_op op_mul (pv 0) (pv 1)) pa_nil)) (pg_name (i := 3) nd rfl (.inl rfl))
        (pss_cons (ps_set (i := 4) nd rfl (.inl rfl) pe_dnewT)
        (pss_cons (ps_lock (ps_for PassesOwn.never rfl (pi_keys (pv 2)) (pg_name (i := 5) nd rfl (.inr rfl))
          (pss_one (ps_for PassesOwn.never rfl (pi_list (pe_lc (own := [("_law_k", 6)]) (g := gName 6) rfl nd (pi_range1 (by rfl) mr (pa_cons (pv 0) pa_nil)) (blkOk_by (N := nWays) (sc := defScope sWays) (by decide +kernel))
              (fun _ _ _ _ _ => pg_name (i := 6) nd rfl (Or.inl rfl))
              (fun _ _ _ _ _ => pts_one (pt_cmpR op_lt (pe_ix (r := rIxT K) ix_tup (pv 5) (pv 6) (fun _ _ => rfl)) (pe_callB (id := "min") (r := rMinTI K) (cr_minTI rfl rfl hr.units) (by rfl) mn (by decide +kernel) (pa_cons
                (pe_op (r := rCatA K) op_catA (pe_slice (r := rSlA K) sl_tupA (pv 5) po_none (po_some (pv 6))) (pe_tup (pa_cons (pv 1) pa_nil))) pa_nil)) (nomark _)))
              (fun _ _ _ _ _ => pv 6))) (pg_name (i := 6) nd rfl (.inl rfl))
            (pss_cons (ps_set (i := 7) nd rfl (.inl rfl) (pe_op op_catA (pe_op op_catA (pe_slice sl_tupA (pv 5) po_none (po_some (pv 6))) (pe_tup (pa_cons (pe_op op_add (pe_ix ix_tup (pv 5) (pv 6) (fun _ _ => rfl)) pe_int) pa_nil))) (pe_slice sl_tupA (pv 5) (po_some (pe_op op_add (pv 6) pe_int)) po_none)))
            (pss_one (ps_dput hu1 (pv 4) (pv 7) (pe_op op_add (pe_dget2 hu1 (pv 4) (pv 7) pe_int ⟨rfl, rfl, rfl, rfl⟩) (pe_dget hu1 (pv 2) (pv 5) (fun _ _ => rfl))) rfl)))))))
        (pss_one (ps_set (i := 2) nd rfl (.inl rfl) (pv 4))))))
      (pss_one (ps_ret (pe_dget hu1 (pv 2) (pe_op op_rep1 (pe_tup (pa_cons (pv 1) pa_nil)) (pv 0)) (fun _ _ => rfl))))), ?_⟩
    have rl := sd.le
    have rc := sd.rc
    have r1 := sd.r1
    obtain ⟨few, _, hasF⟩ := run_ok sd
    have fok : ∀ k, KeyOk r c k → ∀ m ∈ fitsL c k, KeyOk r c m := fun k h m hm => fitsL_ok h hm
    have eRC : (r : Int) * (c : Int) = ((r * c : Nat) : Int) := by rw [Int.natCast_mul]
    refine fun D nD => ⟨by show 1 ≤ sizeLine; decide, fun U nU => ?_⟩
    have sD := same_new (o := .dT []) nD
    have hD : upd H D (.dT []) D = some (.dT []) := upd_same
    have sU := same_new (o := .tup [.int 0]) nU
    refine ⟨_, rfl, U, (r : Int), [.int 0], rfl, rfl, upd_same, by omega, by omega, by decide, by simp, fun H1 p s1 hp => ⟨_, _, rfl, [], keyN (List.replicate r 0), p, rfl, ?_, s1 _ _ (sU _ _ hD), by decide, ?_⟩⟩
    · rw [hp, Int.toNat_natCast]
      have := rep_nat r 0
      rw [keyN_kV]
      exact congrArg (fun z => some (HO.tup z)) this
    have e0 : putK ([] : List (List L2.Key × V)) (keyN (List.replicate r 0)) (V.int 1) = img (runP (fitsL c) r 0) := rfl
    rw [e0]
    have s0 : Same H (upd H1 D (.dT (img (runP (fitsL c) r 0)))) := fun z o e => by
      rw [upd_ne (ne_of_none e nD)]
      exact s1 _ _ (sU _ _ (sD _ _ e))
    have h0 : upd H1 D (.dT (img (runP (fitsL c) r 0))) D = some (.dT (img (runP (fitsL c) r 0))) := upd_same
    generalize upd H1 D (.dT (img (runP (fitsL c) r 0))) = H2 at s0 h0 ⊢
    clear s1 hp sU hD sD e0
    refine ⟨_, rfl, _, rfl, _, _, rfl, rfl, .inl ⟨by omega, by omega⟩, (r : Int) * (c : Int), rfl, by rw [eRC]; omega, by rw [eRC]; omega, for_range (lo := 0) (n := ((r : Int) * (c : Int)).toNat) (fun v σ G => ∃ (D : Addr) (y3 y4 y5 y6 y7 : Option V), σ = [some (.int (r : Nat)), some (.int (c : Nat)), some (.ref D), y3, y4, y5, y6, y7] ∧
      Same H G ∧ H D = none ∧ G D = some (.dT (img (runP (fitsL c) r v)))) ?_ ?_ ?_⟩
    · exact ⟨D, none, none, none, none, none, rfl, s0, nD, h0⟩
    · rintro v σ G hv ⟨D, y3, y4, y5, y6, y7, rfl, sG, nD, hD⟩
      rw [eRC, Int.toNat_natCast] at hv
      have fv := (few v (by omega)).2
      have fv1 := (few (v + 1) (by omega)).2
      have kyd := run_keys fok v
      have ndd : NdP (runP (fitsL c) r v) := run_nd v
      have efin : runP (fitsL c) r (v + 1) = stepP (fitsL c) (runP (fitsL c) r v) := rfl
      rw [efin] at fv1
      have finish : stepP (fitsL c) (runP (fitsL c) r v) = runP (fitsL c) r (v + 1) := rfl
      generalize runP (fitsL c) r v = d at hD fv fv1 kyd finish ndd
      refine fun C nC => ?_
      have DC : D ≠ C := ne_of_none hD nC
      have sC := same_new (o := .dT []) nC
      have hC : upd G C (.dT []) C = some (.dT []) := upd_same
      have hD := sC _ _ hD
      have nCH : H C = none := sG.free nC
      have sG := sG.trans sC
      generalize upd G C (.dT []) = G1 at hC hD sG ⊢
      clear sC nC
      refine ⟨D, .dT (img d), hD, trivial, fun od => ?_⟩
      have hL : upd G1 D (.frz od (.dT (img d))) D = some (.frz od (.dT (img d))) := upd_same
      have hCL : upd G1 D (.frz od (.dT (img d))) C = some (.dT []) := by
        rw [upd_ne (Ne.symm DC)]
        exact hC
      have sL : Same H (upd G1 D (.frz od (.dT (img d)))) := fun z o e => by
        rw [upd_ne (ne_of_none e nD)]
        exact sG _ _ e
      generalize upd G1 D (.frz od (.dT (img d))) = G2 at hL hCL sL ⊢
      clear hC hD sG
      refine ⟨_, rfl, D, od, rfl, .inr ⟨img d, hL, for_it walk_keysT (fun i σ J => ∃ (y5 y6 y7 : Option V), σ = [some (.int (r : Nat)), some (.int (c : Nat)), some (.ref D), some (.int (0 + (v : Int))), some (.ref C), y5, y6, y7] ∧
        J D = some (.frz od (.dT (img d))) ∧ J C = some (.dT (img ((d.take i).foldl (fun acc p => (fitsL c p.1).foldl (addP p.2) acc) []))) ∧ (∀ z o, z ≠ C → G2 z = some o → J z = some o)) ?_ ?_ ?_ ?_⟩⟩
      · exact ⟨y5, y6, y7, rfl, hL, hCL, fun z o _ e => e⟩
      · rintro i σ J _ ⟨_, _, _, _, h, _⟩
        exact h
      · rintro i x σ J J1 hi ⟨y5, y6, y7, rfl, hJD, hJC, kJ⟩ ⟨rfl, k, w', q0, ek, rfl, hq⟩
        unfold img at ek
        rw [List.getElem?_map] at ek
        cases ed : d[i]? with
        | none =>
          rw [ed] at ek
          cases ek
        | some p =>
          rw [ed] at ek
          cases ek
          have kp := kyd p (List.mem_of_getElem? ed)
          obtain ⟨hp1, hp2⟩ := get_mem ndd p (List.mem_of_getElem? ed)
          have sHJ : Same H J1 := fun z o e => kJ z o (ne_of_none e nCH) (sL _ _ e)
          have tk : d.take (i + 1) = d.take i ++ [p] := by
            rw [List.take_add_one, ed]
            rfl
          have hlen : ((fitsL c p.1).foldl (addP p.2) ((d.take i).foldl (fun acc p => (fitsL c p.1).foldl (addP p.2) acc) [])).length ≤ 1000 := by
            have e1 : (d.take (i + 1)).foldl (fun acc p => (fitsL c p.1).foldl (addP p.2) acc) [] = (fitsL c p.1).foldl (addP p.2) ((d.take i).foldl (fun acc p => (fitsL c p.1).foldl (addP p.2) acc) []) := by
              rw [tk, List.foldl_append]
              rfl
            rw [← e1]
            refine Nat.le_trans ?_ fv1
            have e2 : stepP (fitsL c) d = (d.drop (i + 1)).foldl (fun acc p => (fitsL c p.1).foldl (addP p.2) acc) ((d.take (i + 1)).foldl (fun acc p => (fitsL c p.1).foldl (addP p.2) acc) []) := by
              rw [← List.foldl_append, List.take_append_drop]
              rfl
            rw [e2]
            exact foldS_len _ _
          rw [tk, List.foldl_append]
          generalize (d.take i).foldl (fun acc p => (fitsL c p.1).foldl (addP p.2) acc) [] = acc at hJC hlen ⊢
          have hqN : J1 q0 = some (.tup (natV p.1)) := by
            rw [hq, keyN_kV]
            rfl
          have pl := kp.len
          -- which of them grow
          refine ⟨_, rfl, (r : Int), rfl, by omega, by omega, fun D3 nD3 => ?_⟩
          refine lc_range (lo := 0) (n := r) (fun j J3 => J3 D3 = some (.lst (natV ((List.range j).filter (fitL c p.1)))) ∧ (∀ z o, z ≠ D3 → J1 z = some o → J3 z = some o)) ?_ ?_ ?_
          · exact ⟨upd_same, fun z o n e => by rw [upd_ne n]; exact e⟩
          · rintro j J3 hj ⟨a1, a2⟩
            have s3 : Same J1 J3 := fun z o e => a2 z o (ne_of_none e nD3) e
            have hq3 := s3 _ _ hqN
            have hx : atI (natV p.1) (0 + (j : Int)) = some (V.int ((p.1.getD j 0 : Nat) : Int)) := by
              rw [Int.zero_add]
              exact atI_nat (natV_get (by omega))
            refine ⟨rfl, _, rfl, _, rfl, q0, _, _, _, rfl, rfl, SqT.of hq3, hx, ?_⟩
            refine ⟨_, rfl, ?_⟩
            dsimp only [tNoPart]
            refine ⟨_, rfl, _, rfl, ?_⟩
            show rSlA K (.ref q0) none (some (0 + (j : Int))) J3 _
            rw [Int.zero_add]
            refine slTo_ok2 (n := j) (SqT.of hq3) (by rw [natV_len]; omega) fun J4 u4 s4 hu4 => ?_
            rw [natV_take] at hu4
            refine ⟨_, rfl, by show 1 ≤ sizeLine; decide, fun U nU => ?_⟩
            have sU := same_new (o := .tup [.int (c : Int)]) nU
            have l1 : (natV (p.1.take j)).length ≤ 24 := by
              rw [natV_len, List.length_take]
              omega
            refine catL_ok (same_seqT sU hu4) upd_same (by simp) (by show _ + 1 ≤ 64; omega) fun J5 u5 s5 hu5 => ?_
            have s35 := (s4.trans sU).trans s5
            have ec : natV (p.1.take j) ++ [V.int (c : Int)] = (intL (p.1.take j ++ [c])).map V.int := by
              have : natV (p.1.take j) ++ [V.int (c : Int)] = natV (p.1.take j ++ [c]) := by
                rw [← natV_app]
                rfl
              rw [this, natV_ints]
              rfl
            rw [ec] at hu5
            obtain ⟨n0, ns, en⟩ : ∃ n ns, n :: ns = intL (p.1.take j ++ [c]) := by
              cases e : intL (p.1.take j ++ [c]) with
              | nil =>
                have := congrArg List.length e
                unfold intL at this
                rw [List.length_map, List.length_append] at this
                cases this
              | cons n ns => exact ⟨n, ns, rfl⟩
            have fm := fitL_min en
            rw [← en] at hu5
            refine ⟨u5, n0, ns, rfl, SqT.of hu5, _, _, rfl, rfl, _, rfl, ite2 (fun ee => ?_) (fun ee => ?_)⟩
            · have ee : fitL c p.1 j = true := by
                rw [← fm]
                exact ee
              refine ⟨_, rfl, _, s35 _ _ a1, ?_, ?_, fun z o n e => ?_⟩
              · rw [natV_len]
                have := List.length_filter_le (fitL c p.1) (List.range j)
                rw [List.length_range] at this
                exact small64 (by omega)
              · rw [upd_same, List.range_succ, List.filter_append, List.filter_cons, if_pos ee, ← natV_app]
                rfl
              · rw [upd_ne n]
                exact s35 _ _ (a2 z o n e)
            · have ee : ¬ fitL c p.1 j = true := by
                rw [← fm]
                exact ee
              refine ⟨?_, fun z o n e => s35 _ _ (a2 z o n e)⟩
              rw [List.range_succ, List.filter_append, List.filter_cons, if_neg ee, List.filter_nil, List.append_nil]
              exact s35 _ _ a1
          rintro J3 ⟨hD3, k3⟩
          have s3 : Same J1 J3 := fun z o e => k3 z o (ne_of_none e nD3) e
          have CD3 : C ≠ D3 := ne_of_none hJC nD3
          have hJC3 := s3 _ _ hJC
          have hJD3 := s3 _ _ hJD
          have hq3 := s3 _ _ hqN
          have eks : fitsL c p.1 = ((List.range r).filter (fitL c p.1)).map (grow p.1) := by
            unfold fitsL
            rw [pl]
          have hD3 : J3 D3 = some (.lst (natV ((List.range r).filter (fitL c p.1)))) := hD3
          have ksb : ∀ k ∈ (List.range r).filter (fitL c p.1), k < r := fun k hk => List.mem_range.mp (List.mem_filter.mp hk).1
          rw [eks] at hlen
          show _
          generalize (List.range r).filter (fitL c p.1) = ks at hD3 ksb eks hlen
          refine ⟨D3, rfl, ⟨_, SqL.of hD3⟩, for_list (K := K) (a := D3) (xs := natV ks) (fun j σ J4 => ∃ y6 y7 : Option V, σ = [some (.int (r : Nat)), some (.int (c : Nat)), some (.ref D), some (.int (0 + (v : Int))), some (.ref C), some (.ref q0), y6, y7] ∧
            J4 C = some (.dT (img (((ks.map (grow p.1)).take j).foldl (addP p.2) acc))) ∧ (∀ z o, z ≠ C → J3 z = some o → J4 z = some o)) ?_ ?_ ?_ ?_⟩
          · exact ⟨y6, y7, rfl, hJC3, fun z o _ e => e⟩
          · rintro j σ J4 _ ⟨_, _, _, _, k4⟩
            exact SqL.of (k4 _ _ (Ne.symm CD3) hD3)
          · rintro j x σ J4 hj ⟨y6, y7, rfl, hC4, k4⟩
            have jl : j < ks.length := by
              have := (List.getElem?_eq_some_iff.mp hj).1
              rw [natV_len] at this
              exact this
            rw [natV_get jl] at hj
            cases hj
            have kr := ksb _ (getD_mem jl)
            generalize hk0 : ks.getD j 0 = k0 at kr
            have ejk : ks[j]? = some k0 := by
              rw [List.getD_eq_getElem?_getD, List.getElem?_eq_getElem jl] at hk0
              rw [List.getElem?_eq_getElem jl, ← hk0]
              rfl
            have s4 : ∀ z o, z ≠ C → J3 z = some o → J4 z = some o := k4
            have Cq : q0 ≠ C := ne_of hq3 hJC3 (fun e => nomatch e)
            have hq4 := k4 _ _ Cq hq3
            have hD4 := k4 _ _ DC hJD3
            have hx : atI (natV p.1) (k0 : Int) = some (V.int ((p.1.getD k0 0 : Nat) : Int)) := atI_nat (natV_get (by omega))
            refine ⟨_, rfl, ?_⟩
            dsimp only [tNoPart]
            refine ⟨_, rfl, _, rfl, ?_⟩
            show rSlA K (.ref q0) none (some (k0 : Int)) J4 _
            refine slTo_ok2 (n := k0) (SqT.of hq4) (by rw [natV_len]; omega) fun J5 u5 s5 hu5 => ?_
            rw [natV_take] at hu5
            refine ⟨_, rfl, _, rfl, q0, _, _, _, rfl, rfl, SqT.of (s5 _ _ hq4), hx, _, _, rfl, rfl, by show 1 ≤ sizeLine; decide, fun U nU => ?_⟩
            have sU := same_new (o := .tup [.int (((p.1.getD k0 0 : Nat) : Int) + 1)]) nU
            have l1 : (natV (p.1.take k0)).length ≤ 24 := by
              rw [natV_len, List.length_take]
              omega
            have l2 : (natV (p.1.drop (k0 + 1))).length ≤ 24 := by
              rw [natV_len, List.length_drop]
              omega
            refine catL_ok (same_seqT sU hu5) upd_same (by simp) (by show _ + 1 ≤ 64; omega) fun J6 u6 s6 hu6 => ?_
            have s56 := (s5.trans sU).trans s6
            refine ⟨_, rfl, _, rfl, _, _, rfl, rfl, _, rfl, ?_⟩
            dsimp only [tNoPart]
            have ei : (k0 : Int) + 1 = ((k0 + 1 : Nat) : Int) := by omega
            show rSlA K (.ref q0) (some ((k0 : Int) + 1)) none J6 _
            rw [ei]
            refine slFrom_ok2 (n := k0 + 1) (SqT.of (s56 _ _ hq4)) (by rw [natV_len]; omega) fun J7 u7 s7 hu7 => ?_
            rw [natV_drop] at hu7
            refine catR_ok (s7 _ _ hu6) hu7 (by simp) (by rw [List.length_append]; show _ + 1 + _ ≤ 64; omega) fun J8 u8 s8 hu8 => ?_
            have s48 := (s56.trans s7).trans s8
            have eg : natV (p.1.take k0) ++ [V.int (((p.1.getD k0 0 : Nat) : Int) + 1)] ++ natV (p.1.drop (k0 + 1)) = natV (grow p.1 k0) := by
              unfold grow
              rw [← natV_app, ← natV_app]
              rfl
            rw [eg] at hu8
            have hk8 : J8 u8 = some (.tup ((keyN (grow p.1 k0)).map kV)) := by
              rw [hu8, keyN_kV]
              rfl
            have hC8 := s48 _ _ hC4
            have hD8 := s48 _ _ hD4
            have hq8 : J8 q0 = some (.tup ((keyN p.1).map kV)) := by
              rw [s48 _ _ hq4, keyN_kV]
              rfl
            have tk2 : (ks.map (grow p.1)).take (j + 1) = (ks.map (grow p.1)).take j ++ [grow p.1 k0] := by
              rw [List.take_add_one, List.getElem?_map, ejk]
              rfl
            have lj : (((ks.map (grow p.1)).take j).foldl (addP p.2) acc).length ≤ 1000 := by
              refine Nat.le_trans ?_ hlen
              have e2 : (ks.map (grow p.1)).foldl (addP p.2) acc = ((ks.map (grow p.1)).drop j).foldl (addP p.2) (((ks.map (grow p.1)).take j).foldl (addP p.2) acc) := by
                rw [← List.foldl_append, List.take_append_drop]
              rw [e2]
              exact foldA_len _ _
            generalize hacc : ((ks.map (grow p.1)).take j).foldl (addP p.2) acc = acc2 at hC8 lj
            refine ⟨_, rfl, C, rfl, .inr ⟨_, .inl hC8⟩, _, rfl, _, DGet.t hC8 hk8, ?_⟩
            rw [img_getD]
            have gD : DGet J8 D (.ref q0) (some (V.int (p.2 : Int))) := .inr ⟨img d, keyN p.1, q0, .inr ⟨od, hD8⟩, rfl, hq8, by rw [img_get, hp1, if_pos rfl, hp2]⟩
            refine ⟨_, rfl, _, rfl, D, _, rfl, gD, _, _, rfl, rfl, _, rfl, _, rfl, C, _, rfl, DPut.t hC8 hk8 (by rw [img_len]; exact Nat.lt_of_le_of_lt lj (by decide)), ?_⟩
            refine ⟨_, _, rfl, ?_, fun z o n e => ?_⟩
            · rw [upd_same, tk2, List.foldl_append, hacc]
              have e : V.int ((getP acc2 (grow p.1 k0) : Int) + (p.2 : Int)) = V.int ((getP acc2 (grow p.1 k0) + p.2 : Nat) : Int) := by rw [Int.natCast_add]
              show some (HO.dT (putK (img acc2) (keyN (grow p.1 k0)) (V.int ((getP acc2 (grow p.1 k0) : Int) + (p.2 : Int))))) = _
              rw [e, img_put]
              rfl
            · rw [upd_ne n]
              exact s48 _ _ (k4 _ _ n e)
          · rintro σ J4 ⟨y6, y7, rfl, hC4, k4⟩
            have lm : (natV ks).length = (ks.map (grow p.1)).length := by rw [natV_len, List.length_map]
            rw [lm, List.take_length, ← eks] at hC4
            refine ⟨_, _, _, rfl, k4 _ _ DC hJD3, hC4, fun z o n e => ?_⟩
            exact k4 _ _ n (s3 _ _ (kJ z o n e))
      · rintro σ J ⟨y5, y6, y7, rfl, hJD, hJC, kJ⟩
        rw [img_len, List.take_length] at hJC
        refine ⟨hJD, _, rfl, C, _, _, _, _, _, rfl, fun z o e => ?_, nCH, ?_⟩
        · rw [upd_ne (ne_of_none e nD)]
          exact kJ z o (ne_of_none e nCH) (sL _ _ e)
        · rw [upd_ne (Ne.symm DC), ← finish]
          exact hJC
    · rintro σ G ⟨D, y3, y4, y5, y6, y7, rfl, sG, nD, hD⟩
      rw [eRC, Int.toNat_natCast] at hD
      refine ⟨_, rfl, _, rfl, by show 1 ≤ sizeLine; decide, fun U nU => ?_⟩
      have sU := same_new (o := .tup [.int (c : Int)]) nU
      refine ⟨_, rfl, U, (r : Int), [.int (c : Int)], rfl, rfl, upd_same, by omega, by omega, by show 1 ≤ 1000; decide, by simp, fun H3 p s1 hp => ?_⟩
      rw [Int.toNat_natCast, rep_nat r c] at hp
      have hk : H3 p = some (.tup ((keyN (List.replicate r c)).map kV)) := by
        rw [hp, keyN_kV]
        rfl
      have g := DGet.t (s1 _ _ (sU _ _ hD)) hk
      rw [img_get, hasF, if_pos rfl] at g
      exact ⟨D, _, rfl, g, q _ ((sG.trans sU).trans s1)⟩
end
end KS
namespace KS
open PySem PySem.Spec PyProof.Rows L2
abbrev sSides : Stmt := topS 16
abbrev nSides : List Str := ["_law_pool_here", "_law_most", "_law_short", "_law_long"]
theorem scSides : FnScope nSides ["_law_pool_here", "_law_most"] (defScope sSides) := ⟨rfl, rfl, rfl, by decide +kernel, rfl, by decide +kernel, by decide +kernel⟩
abbrev nMixed : List Str := ["_law_pool_here", "_law_size", "_law_left", "_law_found", "_law_turn"]
abbrev sIs : Stmt := topS 18
theorem scIs : FnScope ["_law_result", "_law_due"] ["_law_result", "_law_due"] (defScope sIs) := ⟨rfl, rfl, rfl, by decide +kernel, rfl, by decide +kernel, by decide +kernel⟩
section
variable {P : Program} {w : World} {K : PySem.W.Frag} {mg : Str → Option Value} {base : Heap}
theorem ok_sides {f fD : Addr} {fd fdD : FuncData} (F : Fun K "_law_sides" "_law_sides" sSides f fd)
    (GD : FnOk P w K mg base CX0 1 fD fdD ["_law_pool_here", "_law_most"] spDraw) (bD : Binds K fdD ["_law_pool_here", "_law_most"] []) (gD : mg "_law_draw" = some (.ref fD)) (kD : PySem.W.keepIn K (.ref fD) = true)
    (mn : mg "min" = none) : FnOk P w K mg base CX0 2 f fd ["_law_pool_here", "_law_most"] spSides := by
  refine F.ok scSides (fun vs H Q E h => ?_) (fun cdv A outer s H vs Q E hr h => ?_)
  · obtain ⟨p, m, rfl, _⟩ := h
    rfl
  · obtain ⟨p, m, rfl, po, m0, m1, q⟩ := h
    have nd := scSides.nd
    refine ⟨_, pss_cons (ps_set (i := 2) nd rfl (.inl rfl) (pe_op op_add pe_int (pe_call GD hr (by rfl) gD kD bD .nil pass0 (pa_cons (pv 0) (pa_cons (pe_callB (call_min2 rfl) (by rfl) mn (by decide +kernel) (pa_cons pe_int (pa_cons (pv 1) pa_nil))) pa_nil)))))
      (pss_cons (ps_set (i := 3) nd rfl (.inl rfl) (pe_op op_add pe_int (pe_call GD hr (by rfl) gD kD bD .nil pass0 (pa_cons (pv 0) (pa_cons (pe_op op_fdiv (pv 1) (pv 2)) pa_nil)))))
      (pss_one (ps_ret (pe_ifExp (pt_cmpR op_eq (pe_call GD hr (by rfl) gD kD bD .nil pass0 (pa_cons (pv 0) (pa_cons pe_int pa_nil))) pe_int (nomark _))
        (pe_tup (pa_cons (pv 2) (pa_cons (pv 3) pa_nil))) (pe_tup (pa_cons (pv 3) (pa_cons (pv 2) pa_nil))))))), ?_⟩
    refine ⟨_, rfl, _, rfl, _, _, rfl, p, _, rfl, po, ?_, ?_, fun H1 r k1 po1 r0 r1 => ?_⟩
    · split <;> omega
    · split <;> omega
    have r2 : r < 5 ∧ r < (m : Int) := by
      revert r1
      split <;> intro r1 <;> omega
    refine ⟨_, _, rfl, rfl, ?_⟩
    obtain ⟨sh, hsh⟩ : ∃ sh : Nat, 1 + r = (sh : Int) := ⟨(1 + r).toNat, by omega⟩
    have hs1 : 1 ≤ sh ∧ sh ≤ m := by omega
    have hs5 : sh ≤ 5 := by omega
    show (tSeq _ _) _ [some (.ref p), some (.int (m : Int)), some (.int (1 + r)), none] H1
    rw [hsh]
    have dq : 1 ≤ m / sh := by
      rw [Nat.le_div_iff_mul_le (by omega)]
      omega
    have dm : m / sh ≤ m := Nat.div_le_self m sh
    have ed : (m : Int) / (sh : Int) = ((m / sh : Nat) : Int) := by rw [Int.natCast_ediv]
    refine ⟨_, rfl, _, rfl, _, rfl, _, _, rfl, rfl, ⟨by omega, by omega⟩, p, (m : Int) / (sh : Int), rfl, po1, by rw [ed]; omega, by rw [ed]; omega, fun H2 r' k2 po2 r0' r1' => ?_⟩
    rw [ed] at r1'
    refine ⟨_, _, rfl, rfl, ?_⟩
    obtain ⟨lo, hlo⟩ : ∃ lo : Nat, 1 + r' = (lo : Int) := ⟨(1 + r').toNat, by omega⟩
    show gName 3 (V.int (1 + r')) _ _ _
    rw [hlo]
    have hl1 : 1 ≤ lo ∧ lo ≤ m / sh := by omega
    have pr : sh * lo ≤ m := by
      have h1 : sh * lo ≤ sh * (m / sh) := Nat.mul_le_mul_left sh hl1.2
      have h2 : sh * (m / sh) ≤ m := Nat.mul_div_le m sh
      omega
    refine ⟨_, rfl, p, 2, rfl, po2, by decide, by decide, fun H3 r3 k3 po3 _ _ => ⟨rfl, _, rfl, ite2 (fun e => ?_) (fun e => ?_)⟩⟩
    · refine ⟨_, rfl, _, rfl, (by show 2 ≤ sizeLine; decide), fun t nt => ?_⟩
      have s1 := same_new (o := .tup [.int ((sh : Nat) : Int), .int ((lo : Nat) : Int)]) nt
      exact q _ t sh lo (((k1.trans k2).trans k3).trans (.of_same s1)) (po3.same s1) upd_same ⟨hs1.1, hl1.1, by omega⟩ pr
    · refine ⟨_, rfl, _, rfl, (by show 2 ≤ sizeLine; decide), fun t nt => ?_⟩
      have s1 := same_new (o := .tup [.int ((lo : Nat) : Int), .int ((sh : Nat) : Int)]) nt
      have pr' : lo * sh ≤ m := by rw [Nat.mul_comm]; exact pr
      exact q _ t lo sh (((k1.trans k2).trans k3).trans (.of_same s1)) (po3.same s1) upd_same ⟨hl1.1, hs1.1, by omega⟩ pr'
theorem ok_is {f : Addr} {fd : FuncData} (F : Fun K "_law_is" "_law_is" sIs f fd) (mi : mg "isinstance" = none) (mI : mg "int" = none) (mB : mg "bool" = none) : FnOk P w K mg base CX0 1 f fd ["_law_result", "_law_due"] spIs := by
  refine F.ok scIs (fun vs H Q E h => ?_) (fun cdv A outer s H vs Q E hr h => ?_)
  · obtain ⟨i, j, rfl, _⟩ := h
    rfl
  · obtain ⟨i, j, rfl, q⟩ := h
    refine ⟨_, pss_one (ps_ret (pe_and (pe_callB call_isi (by rfl) mi (by decide +kernel) (pa_cons (pv 0) (pa_cons (pe_bltn (v := .ty "int") (by rfl) mI (by decide +kernel) rfl) pa_nil)))
      (pe_and (pe_not (pe_callB call_isi (by rfl) mi (by decide +kernel) (pa_cons (pv 0) (pa_cons (pe_bltn (v := .ty "bool") (by rfl) mB (by decide +kernel) rfl) pa_nil))))
      (pe_one (pe_cmpR op_eq (pv 0) (pv 1) (nomark _)))))), ?_⟩
    refine ⟨_, rfl, _, _, _, _, true, rfl, .ty "int", .base (.int i), kit_ty (by decide +kernel), true, rfl, ?_⟩
    refine ⟨_, rfl, _, _, _, _, false, rfl, .ty "bool", .base (.int i), kit_ty (by decide +kernel), false, rfl, true, rfl, ?_⟩
    refine ⟨_, rfl, _, rfl, rfl, ?_⟩
    have e : decide (V.int i = V.int j) = decide (i = j) := by
      by_cases c : i = j
      · rw [c]
        simp
      · rw [decide_eq_false c, decide_eq_false fun z => c (V.int.inj z)]
    rw [e]
    exact q
end
end KS
namespace KS
open PySem PySem.Spec PyProof.Rows L2
section
variable {X : Cx} {k : Nat} {f : Addr} {fd : FuncData} {ps : List Str} {sp : Sp} {x : Str} {p pos : Pos}
/-- f(), f a def with guards -/
theorem pe_callG0 (F : FnG X.prog X.w X.K X.mg X.base k f fd ps sp) (hr : Room k X.A) (hgd : X.A.guards = some []) (hg : Gl X x) (hm : X.mg x = some (.ref f)) (hk : PySem.W.keepIn X.K (.ref f) = true) (hb : Binds X.K fd ps [])
    (hdb : (x == ("__debug__" : Str)) = false := by decide) : PE X (.Call (.Name x p) [] [] pos) (tCall sp [] E0 tNil) := by
  refine ⟨fun pins s σ H Q I h => wpAny_Call_Name_kw (ld_glob I hg hm (PySem.W.callWith_K0 I.kIn hk ?_) hdb)⟩
  have q1 : sp [] H Q E0 := h
  have hl : ([] ++ [] : List Value).length = ps.length := F.len _ _ _ _ q1
  refine wpAny_call (codeAny_mono (F.run X.A X.stack s H ⟨[], []⟩ [] [] Q E0 hr hgd I.env0 (hb s [] I.kIn hl) .nil q1) fun z s' hq => ?_)
  cases z with
  | error e => cases hq
  | ok fl =>
    cases fl with
    | ret u => exact I.after hq
    | next => cases hq
    | brk => cases hq
    | cont => cases hq
end
/-- the numbers i, i - 1, .., j + 1 -/
def dnI (i j : Int) : List Int := (List.range (i - j).toNat).map fun (k : Nat) => i - (k : Int)
def tTupDn (ta : TA) : TE := fun σ H Q => ta σ H fun vs H1 => ∃ i j : Int, vs = [.int i, .int j, .int (-1)] ∧ 0 ≤ j ∧ j ≤ i ∧ i ≤ 1000 ∧ ∀ q, H1 q = none → Q (.ref q) (upd H1 q (.tup ((dnI i j).map V.int)))
theorem vals_dn {i j : Int} {acc : Array Value} (h : ItemsOf (fun k v => ∃ t, v = .int (i + k * (-1)) t) acc (i - j).toNat) : Vals ((dnI i j).map V.int) acc.toList := by
  have e : acc.toList.length = (i - j).toNat := by
    rw [Array.length_toList]
    exact h.1
  unfold dnI
  rw [List.map_map, ← e]
  refine vals_of_get acc.toList _ fun k u hk => ?_
  obtain ⟨t, rfl⟩ := h.2 k u (by rw [← hk, Array.getElem?_toList])
  refine ⟨t, ?_⟩
  have r : i + (k : Int) * (-1) = i - (k : Int) := by omega
  rw [r]
theorem pe_tupDn {X : Cx} {a b c : Expr} {ta : TA} {p p2 pos pos2 : Pos} (hc : X.calm = true) (hg : Gl X "tuple") (hm : X.mg "tuple" = none) (hg2 : Gl X "range") (hm2 : X.mg "range" = none) (ha : PA X [a, b, c] ta)
    (hs : starEach [a, b, c] X.env = (false, eval a X.env) :: starEach [b, c] X.env := by rfl) (hpl : (backTo pos2 (starEach [b, c] X.env)).any (·.1) = false := by rfl)
    (na : starEach [.Call (.Name "range" p2) [a, b, c] [] pos2] X.env = (false, eval (.Call (.Name "range" p2) [a, b, c] [] pos2) X.env) :: starEach [] X.env := by rfl) :
    PE X (.Call (.Name "tuple" p) [.Call (.Name "range" p2) [a, b, c] [] pos2] [] pos) (tTupDn ta) := by
  refine ⟨fun pins s σ H Q I h => Call_ (ld_blt I hg hm boot_tuple (PyProof.Rows.callWith_type1 (args_cons ?_ na) na))⟩
  refine Call_ (ld_blt I hg2 hm2 boot_range (PyProof.Rows.callWith_type1 (thn (ha.run pos2 pins s σ H _ I h) fun us s1 hh => ?_) hs hpl))
  obtain ⟨vs, H1, I1, r1, i, j, ev, j0, ij, i1, q⟩ := hh
  subst ev
  cases r1 with
  | cons r rr =>
    cases rr with
    | cons r' rr =>
      cases rr with
      | cons r'' rr =>
        cases rr
        obtain ⟨t, rfl⟩ := r
        obtain ⟨t', rfl⟩ := r'
        obtain ⟨t'', rfl⟩ := r''
        obtain ⟨c0, c1, c2, c3⟩ := RgC.neg (i := i) (j := j) (by omega) (by omega) (by omega) (by omega)
        refine call_range_3 c0 ?_ (.inl (PyProof.noPylong_small c1))
        refine args_nil ?_
        have I2 : Inv X pins σ H1 { s1 with heap := s1.heap.push { cls := .type "range", data := .fields #[.int i t, .int j t', .int (-1) t''] }, toks := s1.toks } := I1.kept fun b u e => Heap.get?_push_of_some _ e
        refine call_tuple_range (n := (i - j).toNat) (I2.ok.hd hc) (IsRange.new ..) c2 c3 (by omega) fun h' tk acc hk hi => ?_
        have I3 : Inv X pins σ H1 { s1 with heap := h', toks := tk } := I2.kept hk
        refine ⟨.ref h'.objs.size, upd H1 h'.objs.size (.tup ((dnI i j).map V.int)), I3.laid (t' := tk) (fun c o e => Heap.get?_push_of_some _ e) (Nat.le_refl _) (show ObjOk X.prog X.w _ _ _ (.tup ((dnI i j).map V.int)) from ⟨?_, acc.toList, vals_dn hi, ?_⟩), rfl, q _ (I3.hok.fresh (Nat.le_refl _))⟩
        · rw [List.length_map, sizeLine_eq]
          unfold dnI
          rw [List.length_map, List.length_range]
          omega
        · rw [Array.toArray_toList]
          exact IsTup.new _ _
end KS
namespace KS
open PySem PySem.Spec PyProof.Rows L2 RZ
theorem inV_nat (x : Nat) : ∀ m : List Nat, inV (.int (x : Int)) (natV m) = m.contains x
  | [] => rfl
  | y :: m => by
    have ih := inV_nat x m
    unfold inV at ih ⊢
    show (V.int (y : Int) :: natV m).any _ = _
    rw [List.any_cons, List.contains_cons, ih]
    congr 1
    show (((y : Int) == (x : Int)) : Bool) = (x == y)
    by_cases e : x = y
    · subst e
      simp
    · have e1 : ((y : Int) == (x : Int)) = false := beq_eq_false_iff_ne.mpr (fun q => e (by omega))
      have e2 : (x == y) = false := beq_eq_false_iff_ne.mpr e
      rw [e1, e2]
theorem natV_flat (m : List Nat) : (natV m).all flatV = true := by
  rw [natV_ints]
  exact flat_ints _
def spSett (K : PySem.W.Frag) : Sp := fun xs H Q _ => ∃ (r c : Nat), xs = [.int (r : Nat), .int (c : Nat)] ∧ Sides r c ∧ r * c ≤ 10 ∧ ∀ H' L xs, Same H H' → H' L = some (.lst xs) → xs.length = cntP r c → Q (.ref L) H'
abbrev sSett : Stmt := topS 17
abbrev nSett : List Str := ["_law_high", "_law_wide", "_law_found", "_law_k", "_law_longer", "_law_part", "_law_beside", "_law_one"]
theorem scSett : FnScope nSett ["_law_high", "_law_wide"] (defScope sSett) := ⟨rfl, rfl, rfl, by decide +kernel, rfl, by decide +kernel, by decide +kernel⟩
abbrev sRight : Stmt := topS 20
abbrev nRight48 : List Str := ["_law_pool_here", "_law_high", "_law_wide", "_law_due", "_law_results", "_law_result"]
theorem scRight48 : FnScope nRight48 ["_law_pool_here"] (defScope sRight) := ⟨rfl, rfl, rfl, by decide +kernel, rfl, by decide +kernel, by decide +kernel⟩
section
variable {P : Program} {w : World} {K : PySem.W.Frag} {mg : Str → Option Value} {base : Heap}
theorem ok_sett {f : Addr} {fd : FuncData} (F : Fun K "_law_settled" "_law_settled" sSett f fd) (mr : mg "range" = none) (mx : mg "max" = none) : FnOk P w K mg base CX0 1 f fd ["_law_high", "_law_wide"] (spSett K) := by
  refine F.ok scSett (fun vs H Q E h => ?_) (fun cdv A outer s H vs Q E hr h => ?_)
  · obtain ⟨r, c, rfl, _⟩ := h
    rfl
  · obtain ⟨r, c, rfl, sd, h10, q⟩ := h
    have nd := scSett.nd
    refine ⟨_, pss_cons (ps_set (i := 2) nd rfl (.inl rfl) (pe_lst (pa_cons (pe_tup pa_nil) pa_nil)))
      (pss_cons (ps_for PassesOwn.never rfl (pi_range1 (by rfl) mr (pa_cons (pe_op op_mul (pv 0) (pv 1)) pa_nil)) (pg_name (i := 3) nd rfl (.inl rfl))
        (pss_cons (ps_set (i := 4) nd rfl (.inl rfl) (pe_lst pa_nil))
        (pss_cons (ps_for PassesOwn.never rfl (pi_list (pv 2)) (pg_name (i := 5) nd rfl (.inr rfl))
          (pss_cons (ps_set (i := 6) nd rfl (.inl rfl) (pe_op op_cat (pe_op op_cat (pe_lst (pa_cons pe_int pa_nil))
              (pe_ifExp (pt_cmpR op_gt (pe_op op_mod (pv 3) (pv 1)) pe_int (nomark _)) (pe_lst (pa_cons (pe_ix ix_tup (pv 5) (pe_op op_sub (pv 3) pe_int) (fun _ _ => rfl)) pa_nil)) (pe_lst pa_nil)))
              (pe_ifExp (pt_cmpR op_ge (pv 3) (pv 1) (nomark _)) (pe_lst (pa_cons (pe_ix ix_tup (pv 5) (pe_op op_sub (pv 3) (pv 1)) (fun _ _ => rfl)) pa_nil)) (pe_lst pa_nil))))
          (pss_one (ps_expr (pe_bm PySem.F.plainAttrs_list PySem.F.slot_list_extend PySem.F.type_list_extend mt_extend (pv 4) (pa_cons
            (pe_lc (own := [("_law_one", 7)]) (g := gName 7) rfl nd (pi_range2 (by rfl) mr (pa_cons (pe_op op_add (pe_callB (cr_max rfl) (by rfl) mx (by decide +kernel) (pa_cons (pv 6) pa_nil)) pe_int) (pa_cons (pe_op op_add (pe_op op_mul (pv 0) (pv 1)) pe_int) pa_nil))) (blkOk_by (N := nSett) (sc := defScope sSett) (by decide +kernel))
              (fun _ _ _ _ _ => pg_name (i := 7) nd rfl (Or.inl rfl)) (fun _ _ _ _ _ => pts_one (pt_cmpR (r := rIn K true) op_notIn_seq (pv 7) (pv 5) (by rfl)))
              (fun _ _ _ _ _ => pe_op (r := rCatA K) op_catA (pv 5) (pe_tup (pa_cons (pv 7) pa_nil)))) pa_nil))))))
        (pss_one (ps_set (i := 2) nd rfl (.inl rfl) (pv 4))))))
      (pss_one (ps_ret (pv 2)))), ?_⟩
    have rl := sd.le
    have rc := sd.rc
    have c1 := sd.c1
    obtain ⟨few, fin⟩ := sett_ok sd h10
    have eRC : (r : Int) * (c : Int) = ((r * c : Nat) : Int) := by rw [Int.natCast_mul]
    refine ⟨by show 0 ≤ sizeLine; decide, fun E0 nE => ⟨by show 1 ≤ sizeLine; decide, fun F0 nF => ?_⟩⟩
    have sE := same_new (o := .tup []) nE
    have hE : upd H E0 (.tup []) E0 = some (.tup []) := upd_same
    have sF := same_new (o := .lst [.ref E0]) nF
    have hF : upd (upd H E0 (.tup [])) F0 (.lst [.ref E0]) F0 = some (.lst [.ref E0]) := upd_same
    have p0 : Paired (IsKy (upd (upd H E0 (.tup [])) F0 (.lst [.ref E0]))) [V.ref E0] (settT r c 0) := .cons ⟨E0, rfl, sF _ _ hE⟩ .nil
    have nFH : H F0 = none := sE.free nF
    have s0 := sE.trans sF
    generalize upd (upd H E0 (.tup [])) F0 (.lst [.ref E0]) = H1 at hF p0 s0 ⊢
    clear sE hE sF nF nE
    refine ⟨_, rfl, _, rfl, _, _, rfl, rfl, .inl ⟨by omega, by omega⟩, (r : Int) * (c : Int), rfl, by rw [eRC]; omega, by rw [eRC]; omega, for_range (lo := 0) (n := ((r : Int) * (c : Int)).toNat) (fun k σ G => ∃ (Fd : Addr) (y3 y4 y5 y6 y7 : Option V) (xs : List V), σ = [some (.int (r : Nat)), some (.int (c : Nat)), some (.ref Fd), y3, y4, y5, y6, y7] ∧
      Same H G ∧ H Fd = none ∧ G Fd = some (.lst xs) ∧ Paired (IsKy G) xs (settT r c k)) ?_ ?_ ?_⟩
    · exact ⟨F0, none, none, none, none, none, _, rfl, s0, nFH, hF, p0⟩
    · rintro k σ G hk ⟨Fd, y3, y4, y5, y6, y7, xs, rfl, sG, nFd, hFd, pr⟩
      rw [eRC, Int.toNat_natCast] at hk
      have fk := few k hk
      have keys := sett_key (r := r) (c := c) k
      have nextE : settT r c (k + 1) = ((settT r c k).map (nextT r c k)).flatten := rfl
      generalize settT r c k = tb at fk keys nextE pr
      refine ⟨by show 0 ≤ sizeLine; decide, fun L nL => ?_⟩
      have FL : Fd ≠ L := ne_of_none hFd nL
      have sL := same_new (o := .lst []) nL
      have hL : upd G L (.lst []) L = some (.lst []) := upd_same
      have hFd := sL _ _ hFd
      have pr := isKys_mono (fun t xs e => sL _ _ e) pr
      have nLH : H L = none := sG.free nL
      have sG := sG.trans sL
      generalize upd G L (.lst []) = G1 at hL hFd pr sG ⊢
      clear sL nL
      refine ⟨_, rfl, Fd, rfl, ⟨_, SqL.of hFd⟩, for_list (K := K) (a := Fd) (xs := xs) (fun i σ J => ∃ (y5 y6 y7 : Option V) (ys : List V), σ = [some (.int (r : Nat)), some (.int (c : Nat)), some (.ref Fd), some (.int (0 + (k : Int))), some (.ref L), y5, y6, y7] ∧
        J L = some (.lst ys) ∧ Paired (IsKy J) ys (((tb.take i).map (nextT r c k)).flatten) ∧ (∀ z o, z ≠ L → G1 z = some o → J z = some o)) ?_ ?_ ?_ ?_⟩
      · exact ⟨y5, y6, y7, [], rfl, hL, .nil, fun z o _ e => e⟩
      · rintro i σ J _ ⟨_, _, _, _, _, _, _, kJ⟩
        exact SqL.of (kJ _ _ FL hFd)
      · rintro i x σ J hi ⟨y5, y6, y7, ys, rfl, hJL, py, kJ⟩
        obtain ⟨m, em, t, rfl, ht0⟩ := paired_get pr hi
        have km := keys m (List.mem_of_getElem? em)
        have ml := km.len
        have mb := km.bd
        have tL : t ≠ L := ne_of ht0 hL (fun e => nomatch e)
        have ht := kJ _ _ tL ht0
        have ylen : ys.length ≤ 55000 := by
          rw [Paired.length py]
          have h1 := flat_len2 r c k (tb.take i)
          have h2 : (tb.take i).length ≤ 5000 := by
            rw [List.length_take]
            omega
          have h3 : (r * c + 1) * (tb.take i).length ≤ 11 * 5000 := Nat.mul_le_mul (by omega) h2
          omega
        refine ⟨by show 1 ≤ sizeLine; decide, fun A nA => ?_⟩
        have sA := same_new (o := .lst [.int 0]) nA
        have hA : upd J A (.lst [.int 0]) A = some (.lst ([(0 : Int)].map V.int)) := upd_same
        have ht := sA _ _ ht
        have S1 := sA
        generalize upd J A (.lst [.int 0]) = J1 at hA ht S1 ⊢
        clear sA
        have atM : ∀ j : Nat, j < k → atI (natV m) (j : Int) = some (V.int ((m.getD j 0 : Nat) : Int)) := fun j hj => atI_nat (natV_get (by omega))
        have hmod : (0 + (k : Int)) % (c : Int) = ((k % c : Nat) : Int) := by
          rw [Int.zero_add]
          exact (Int.natCast_emod k c).symm
        by_cases g1 : k % c > 0
        rotate_left
        refine ⟨_, rfl, _, rfl, _, _, rfl, rfl, by show (0 : Int) < (c : Int); omega, _, _, rfl, rfl, false, bl_false (show ¬ (0 : Int) < (0 + (k : Int)) % (c : Int) by rw [hmod]; omega), by show 0 ≤ sizeLine; decide, fun B nB => ?_⟩
        have sB := same_new (o := .lst []) nB
        have hB : upd J1 B (.lst []) B = some (.lst ((if k % c > 0 then [((m.getD (k - 1) 0 : Nat) : Int)] else []).map V.int)) := by
          rw [upd_same, if_neg g1]
          rfl
        generalize upd J1 B (.lst []) = J2 at sB hB
        rotate_left
        have k1 : 1 ≤ k := by
          rcases Nat.eq_zero_or_pos k with z | z
          · rw [z, Nat.zero_mod] at g1
            omega
          · exact z
        have ek1 : (0 + (k : Int)) - 1 = ((k - 1 : Nat) : Int) := by omega
        refine ⟨_, rfl, _, rfl, _, _, rfl, rfl, by show (0 : Int) < (c : Int); omega, _, _, rfl, rfl, true, congrArg V.bl (decide_eq_true (show (0 : Int) < (0 + (k : Int)) % (c : Int) by rw [hmod]; omega)), ?_⟩
        refine ⟨_, rfl, _, rfl, _, _, rfl, rfl, t, _, _, _, rfl, rfl, SqT.of ht, by rw [ek1]; exact atM (k - 1) (by omega), by show 1 ≤ sizeLine; decide, fun B nB => ?_⟩
        have sB := same_new (o := .lst [.int ((m.getD (k - 1) 0 : Nat) : Int)]) nB
        have hB : upd J1 B (.lst [.int ((m.getD (k - 1) 0 : Nat) : Int)]) B = some (.lst ((if k % c > 0 then [((m.getD (k - 1) 0 : Nat) : Int)] else []).map V.int)) := by
          rw [upd_same, if_pos g1]
          rfl
        generalize upd J1 B (.lst [.int ((m.getD (k - 1) 0 : Nat) : Int)]) = J2 at sB hB
        all_goals
          generalize hl1 : (if k % c > 0 then [((m.getD (k - 1) 0 : Nat) : Int)] else [] : List Int) = l1 at hB
          have b1 : l1.length ≤ 1 := by
            rw [← hl1]
            split <;> simp
          refine ⟨A, B, _, _, rfl, rfl, sB _ _ hA, hB, by rw [List.length_map, List.length_map]; show 1 + l1.length ≤ _; rw [sizeLine_eq]; omega, fun C0 nC0 => ?_⟩
          have sC := same_new (o := .lst ([(0 : Int)].map V.int ++ l1.map V.int)) nC0
          have hC : upd J2 C0 (.lst ([(0 : Int)].map V.int ++ l1.map V.int)) C0 = some (.lst (([0] ++ l1).map V.int)) := by rw [upd_same, List.map_append]
          have ht := sC _ _ (sB _ _ ht)
          have S3 := (S1.trans sB).trans sC
          generalize upd J2 C0 (.lst ([(0 : Int)].map V.int ++ l1.map V.int)) = J3 at hC ht S3
          by_cases g2 : k ≥ c
          rotate_left
          refine ⟨_, rfl, _, rfl, _, _, rfl, rfl, false, bl_false (show ¬ (c : Int) ≤ 0 + (k : Int) by omega), by show 0 ≤ sizeLine; decide, fun B2 nB2 => ?_⟩
          have sB2 := same_new (o := .lst []) nB2
          have hB2 : upd J3 B2 (.lst []) B2 = some (.lst ((if k ≥ c then [((m.getD (k - c) 0 : Nat) : Int)] else []).map V.int)) := by
            rw [upd_same, if_neg g2]
            rfl
          generalize upd J3 B2 (.lst []) = J4 at sB2 hB2
          rotate_left
          have ek2 : (0 + (k : Int)) - (c : Int) = ((k - c : Nat) : Int) := by omega
          refine ⟨_, rfl, _, rfl, _, _, rfl, rfl, true, congrArg V.bl (decide_eq_true (show (c : Int) ≤ 0 + (k : Int) by omega)), ?_⟩
          refine ⟨_, rfl, _, rfl, _, rfl, _, _, rfl, rfl, t, _, _, _, rfl, rfl, SqT.of ht, by rw [ek2]; exact atM (k - c) (by omega), by show 1 ≤ sizeLine; decide, fun B2 nB2 => ?_⟩
          have sB2 := same_new (o := .lst [.int ((m.getD (k - c) 0 : Nat) : Int)]) nB2
          have hB2 : upd J3 B2 (.lst [.int ((m.getD (k - c) 0 : Nat) : Int)]) B2 = some (.lst ((if k ≥ c then [((m.getD (k - c) 0 : Nat) : Int)] else []).map V.int)) := by
            rw [upd_same, if_pos g2]
            rfl
          generalize upd J3 B2 (.lst [.int ((m.getD (k - c) 0 : Nat) : Int)]) = J4 at sB2 hB2
          all_goals
            generalize hl2 : (if k ≥ c then [((m.getD (k - c) 0 : Nat) : Int)] else [] : List Int) = l2 at hB2
            have b2 : l2.length ≤ 1 := by
              rw [← hl2]
              split <;> simp
            refine ⟨C0, B2, _, _, rfl, rfl, sB2 _ _ hC, hB2, by rw [List.length_map, List.length_map, List.length_append]; show 1 + l1.length + l2.length ≤ _; rw [sizeLine_eq]; omega, fun Z nZ => ?_⟩
            have sZ := same_new (o := .lst (([0] ++ l1).map V.int ++ l2.map V.int)) nZ
            have hZ : upd J4 Z (.lst (([0] ++ l1).map V.int ++ l2.map V.int)) Z = some (.lst (([0] ++ l1 ++ l2).map V.int)) := by rw [upd_same, List.map_append (l₁ := [0] ++ l1)]
            have ht := sZ _ _ (sB2 _ _ ht)
            have S5 := (S3.trans sB2).trans sZ
            generalize upd J4 Z (.lst (([0] ++ l1).map V.int ++ l2.map V.int)) = J5 at hZ ht S5
            have hJL5 := S5 _ _ hJL
            have py5 := isKys_mono (fun z xs e => S5 _ _ e) py
            have k5 : ∀ z o, z ≠ L → G1 z = some o → J5 z = some o := fun z o n e => S5 _ _ (kJ z o n e)
            refine ⟨_, rfl, .inl ⟨rfl, _, SqL.of hJL5⟩, ?_⟩
            refine ⟨_, rfl, Z, [0] ++ l1 ++ l2, rfl, SqL.of hZ, by rw [List.length_append, List.length_append]; show 0 < 1 + l1.length + l2.length; omega, fun M hM hle => ?_⟩
            have eM : M = ((besd c m k : Nat) : Int) := besd_max (part := m) (by rw [hl1, hl2]; exact hM) (by rw [hl1, hl2]; exact hle)
            have bM : besd c m k ≤ r * c := by
              unfold besd
              have q1 : (if k % c > 0 then m.getD (k - 1) 0 else 0) ≤ r * c := by
                by_cases g : k % c > 0
                · have : 1 ≤ k := by
                    rcases Nat.eq_zero_or_pos k with z | z
                    · rw [z, Nat.zero_mod] at g
                      omega
                    · exact z
                  rw [if_pos g]
                  exact mb _ (getD_mem (by omega))
                · rw [if_neg g]
                  exact Nat.zero_le _
              have q2 : (if k ≥ c then m.getD (k - c) 0 else 0) ≤ r * c := by
                by_cases g : k ≥ c
                · rw [if_pos g]
                  exact mb _ (getD_mem (by omega))
                · rw [if_neg g]
                  exact Nat.zero_le _
              omega
            refine ⟨_, _, rfl, rfl, _, rfl, _, rfl, _, _, rfl, rfl, .inl ⟨by omega, by omega⟩, _, _, rfl, rfl, M + 1, (r : Int) * (c : Int) + 1, rfl, ⟨by omega, by omega, by rw [eRC]; omega, by rw [eRC]; omega⟩, fun D3 nD3 => ?_⟩
            have nn : ((r : Int) * (c : Int) + 1 - (M + 1)).toNat = r * c + 1 - (besd c m k + 1) := by
              rw [eRC, eM]
              omega
            refine lc_range (lo := M + 1) (n := ((r : Int) * (c : Int) + 1 - (M + 1)).toNat) (fun j J6 => ∃ zs : List V, J6 D3 = some (.lst zs) ∧ Paired (IsKy J6) zs ((((List.range j).map fun a => besd c m k + 1 + a).filter fun x => !m.contains x).map fun x => m ++ [x]) ∧ (∀ z o, z ≠ D3 → J5 z = some o → J6 z = some o)) ?_ ?_ ?_
            · exact ⟨[], upd_same, .nil, fun z o n e => by rw [upd_ne n]; exact e⟩
            · rintro j J6 hj ⟨zs, a1, a2, a3⟩
              rw [nn] at hj
              have s6 : Same J5 J6 := fun z o e => a3 z o (ne_of_none e nD3) e
              have ht6 := s6 _ _ ht
              have ex : M + 1 + (j : Int) = ((besd c m k + 1 + j : Nat) : Int) := by
                rw [eM]
                omega
              have zl : zs.length ≤ 11 := by
                rw [Paired.length a2, List.length_map]
                refine Nat.le_trans (List.length_filter_le _ _) ?_
                rw [List.length_map, List.length_range]
                omega
              refine ⟨rfl, _, rfl, _, rfl, t, natV m, rfl, .inr (SqT.of ht6), rfl, natV_flat m, ?_⟩
              have eIn : inV (.int (M + 1 + (j : Int))) (natV m) = m.contains (besd c m k + 1 + j) := by
                rw [ex]
                exact inV_nat _ m
              have enx : ((List.range (j + 1)).map fun a => besd c m k + 1 + a) = ((List.range j).map fun a => besd c m k + 1 + a) ++ [besd c m k + 1 + j] := by
                rw [List.range_succ, List.map_append]
                rfl
              cases hc : m.contains (besd c m k + 1 + j) with
              | true =>
                refine ⟨false, ?_, zs, a1, ?_, a3⟩
                · show V.bl (!inV _ _) = _
                  rw [eIn, hc]
                  rfl
                · rw [enx, List.filter_append, List.filter_cons, hc]
                  simpa using a2
              | false =>
                refine ⟨true, ?_, ?_⟩
                · show V.bl (!inV _ _) = _
                  rw [eIn, hc]
                  rfl
                refine ⟨_, rfl, _, rfl, by show 1 ≤ sizeLine; decide, fun U nU => ?_⟩
                have sU := same_new (o := .tup [.int (M + 1 + (j : Int))]) nU
                refine catL_ok (SqT.of (sU _ _ ht6)) upd_same (by simp) (by rw [natV_len]; show _ + 1 ≤ 64; omega) fun J7 u7 s7 hu7 => ?_
                have s67 := sU.trans s7
                have hu7 : J7 u7 = some (.tup (natV (m ++ [besd c m k + 1 + j]))) := by
                  rw [hu7, ex, ← natV_app]
                  rfl
                refine ⟨zs, s67 _ _ a1, small64 (by omega), zs ++ [.ref u7], upd_same, ?_, fun z o n e => ?_⟩
                · have kt : ∀ z xs, J7 z = some (.tup xs) → upd J7 D3 (.lst (zs ++ [.ref u7])) z = some (.tup xs) := fun z xs e => by
                    rw [upd_ne (ne_of e (s67 _ _ a1) (fun q => nomatch q))]
                    exact e
                  rw [enx, List.filter_append, List.map_append]
                  have ef : (List.filter (fun x => !m.contains x) [besd c m k + 1 + j]) = [besd c m k + 1 + j] := by
                    rw [List.filter_cons, hc]
                    rfl
                  rw [ef]
                  exact paired_append (isKys_mono (fun z xs e => kt _ _ (s67 _ _ e)) a2) (.cons ⟨u7, rfl, kt _ _ hu7⟩ .nil)
                · rw [upd_ne n]
                  exact s67 _ _ (a3 z o n e)
            · rintro J6 ⟨zs, a1, a2, a3⟩
              rw [nn] at a2
              have s6 : Same J5 J6 := fun z o e => a3 z o (ne_of_none e nD3) e
              have en : ((((List.range (r * c + 1 - (besd c m k + 1))).map fun a => besd c m k + 1 + a).filter fun x => !m.contains x).map fun x => m ++ [x]) = nextT r c k m := by
                unfold nextT
                rw [range_drop]
              rw [en] at a2
              have zl : zs.length ≤ 11 := by
                rw [Paired.length a2]
                have := nextT_len r c k m
                omega
              have hJL6 := s6 _ _ hJL5
              have LD : L ≠ D3 := ne_of_none hJL5 nD3
              refine ⟨L, D3, ys, zs, rfl, rfl, hJL6, a1, by rw [sizeLine_eq]; omega, ?_⟩
              refine ⟨_, _, _, ys ++ zs, rfl, upd_same, ?_, fun z o n e => ?_⟩
              · have kt : ∀ z xs, J6 z = some (.tup xs) → upd J6 L (.lst (ys ++ zs)) z = some (.tup xs) := fun z xs e => by
                  rw [upd_ne (ne_of e hJL6 (fun q => nomatch q))]
                  exact e
                have et : (tb.take (i + 1)).map (nextT r c k) = (tb.take i).map (nextT r c k) ++ [nextT r c k m] := by
                  rw [List.take_add_one, em, List.map_append]
                  rfl
                rw [et, List.flatten_append]
                have ef : ([nextT r c k m] : List (List (List Nat))).flatten = nextT r c k m := by simp
                rw [ef]
                exact paired_append (isKys_mono (fun z xs e => kt _ _ (s6 _ _ e)) py5) (isKys_mono kt a2)
              · rw [upd_ne n]
                exact s6 _ _ (k5 z o n e)
      · rintro σ J ⟨y5, y6, y7, ys, rfl, hJL, py, kJ⟩
        have lx := Paired.length pr
        rw [lx, List.take_length, ← nextE] at py
        exact ⟨_, rfl, L, _, _, _, _, _, ys, rfl, fun z o e => kJ z o (ne_of_none e nLH) (sG _ _ e), nLH, hJL, py⟩
    · rintro σ G ⟨Fd, y3, y4, y5, y6, y7, xs, rfl, sG, nFd, hFd, pr⟩
      rw [eRC, Int.toNat_natCast] at pr
      exact ⟨_, rfl, q G Fd xs sG hFd (by rw [Paired.length pr]; exact fin)⟩
theorem ok_right48 {f fS fT fC fI : Addr} {fd fdS fdT fdC fdI : FuncData} (F : Fun K "_law_right" "_law_right" sRight f fd)
    (GS : FnOk P w K mg base CX0 2 fS fdS ["_law_pool_here", "_law_most"] spSides) (bS : Binds K fdS ["_law_pool_here", "_law_most"] []) (gS : mg "_law_sides" = some (.ref fS)) (kS : PySem.W.keepIn K (.ref fS) = true)
    (GT : FnOk P w K mg base CX0 1 fT fdT ["_law_high", "_law_wide"] (spSett K)) (bT : Binds K fdT ["_law_high", "_law_wide"] []) (gT : mg "_law_settled" = some (.ref fT)) (kT : PySem.W.keepIn K (.ref fT) = true)
    (GC : FnOk P w K mg base CX0 4 fC fdC ["rows", "columns"] spCntS) (bC : Binds K fdC ["rows", "columns"] []) (wC : KwBinds fdC ["rows", "columns"] ["columns", "rows"] swap2 swap2) (gC : mg "count_sorted" = some (.ref fC)) (kC : PySem.W.keepIn K (.ref fC) = true)
    (GI : FnOk P w K mg base CX0 1 fI fdI ["_law_result", "_law_due"] spIs) (bI : Binds K fdI ["_law_result", "_law_due"] []) (gI : mg "_law_is" = some (.ref fI)) (kI : PySem.W.keepIn K (.ref fI) = true)
    (ml : mg "len" = none) (ma : mg "all" = none) : FnOk P w K mg base CX0 5 f fd ["_law_pool_here"] spRight := by
  refine F.ok scRight48 (fun vs H Q E h => ?_) (fun cdv A outer s H vs Q E hr h => ?_)
  · obtain ⟨p, rfl, _⟩ := h
    rfl
  · obtain ⟨p, rfl, po, q⟩ := h
    have nd := scRight48.nd
    have hr1 : Room 1 _ := hr.mono (by decide)
    have hr2 : Room 2 _ := hr.mono (by decide)
    refine ⟨_, pss_cons (ps_asg (pe_call GS hr2 (by rfl) gS kS bS .nil pass0 (pa_cons (pv 0) (pa_cons pe_int pa_nil))) (pg_tup (by rfl) (pgs_cons (pg_name (i := 1) nd rfl (.inl rfl)) (pgs_cons (pg_name (i := 2) nd rfl (.inl rfl)) pgs_nil))))
      (pss_cons (ps_set (i := 3) nd rfl (.inr rfl) (pe_callB call_len_seq (by rfl) ml PySem.boot_len (pa_cons (pe_call GT hr1 (by rfl) gT kT bT .nil pass0 (pa_cons (pv 1) (pa_cons (pv 2) pa_nil))) pa_nil)))
      (pss_cons (ps_set (i := 4) nd rfl (.inl rfl) (pe_lst (pa_cons (pe_call GC hr (by rfl) gC kC bC .nil pass0 (pa_cons (pv 1) (pa_cons (pv 2) pa_nil))) (pa_cons (pe_callKw GC hr (by rfl) gC kC wC pass0 (pk_cons (pv 2) (pk_cons (pv 1) pk_nil))) (pa_cons (pe_call GC hr (by rfl) gC kC bC .nil pass0 (pa_cons (pv 1) (pa_cons (pv 2) pa_nil))) pa_nil)))))
      (pss_one (ps_ret (pe_callB (cr_all rfl) (by rfl) ma (by decide +kernel) (pa_cons
        (pe_lc (own := [("_law_result", 5)]) (g := gName 5) (tt := tYes) rfl nd (pi_list (pv 4)) (blkOk_by (N := nRight48) (sc := defScope sRight) (by decide +kernel))
          (fun _ _ _ _ _ => pg_name (i := 5) nd rfl (Or.inl rfl)) (fun _ _ _ _ _ => pts_nil) (fun _ _ _ _ _ => pe_call GI hr1 (by rfl) gI kI bI .nil pass0 (pa_cons (pv 5) (pa_cons (pv 3) pa_nil)))) pa_nil)))))), ?_⟩
    refine ⟨_, rfl, p, 10, rfl, po, by decide, by decide, fun H1 t r c k1 po1 ht sd rc10 => ?_⟩
    refine ⟨t, _, rfl, SqT.of ht, rfl, _, _, rfl, _, _, rfl, rfl, ?_⟩
    refine ⟨_, rfl, _, rfl, r, c, rfl, sd, rc10, fun H2 L xs s2 hL hlen => ⟨L, xs, rfl, .inl (SqL.of hL), ?_⟩⟩
    rw [hlen]
    refine ⟨_, rfl, _, rfl, r, c, rfl, sd, fun H3 s3 => ?_⟩
    refine ⟨_, rfl, _, rfl, r, c, rfl, sd, fun H4 s4 => ?_⟩
    refine ⟨_, rfl, _, rfl, r, c, rfl, sd, fun H5 s5 => ?_⟩
    refine ⟨by show 3 ≤ sizeLine; decide, fun M nM => ?_⟩
    generalize ((cntP r c : Nat) : Int) = n
    have sM := same_new (o := .lst [.int n, .int n, .int n]) nM
    have hM : upd H5 M (.lst [.int n, .int n, .int n]) M = some (.lst [.int n, .int n, .int n]) := upd_same
    have s26 := (((s2.trans s3).trans s4).trans s5).trans sM
    generalize upd H5 M (.lst [.int n, .int n, .int n]) = H6 at hM s26 ⊢
    refine ⟨_, rfl, M, rfl, ⟨_, SqL.of hM⟩, fun D nD => ?_⟩
    refine lc_list (K := K) (a := M) (xs := [.int n, .int n, .int n]) (fun j G => G D = some (.lst ((List.replicate j true).map V.bl)) ∧ (∀ b o, b ≠ D → H6 b = some o → G b = some o)) ?_ ?_ ?_ ?_
    · exact ⟨upd_same, fun b o n e => by rw [upd_ne n]; exact e⟩
    · rintro j G _ ⟨a1, a2⟩
      exact SqL.of (a2 _ _ (ne_of_none hM nD) hM)
    · rintro j x G hj ⟨a1, a2⟩
      have ex : x = .int n := by
        have := List.mem_of_getElem? hj
        simpa using this
      have jl := (List.getElem?_eq_some_iff.mp hj).1
      have jl : j < 3 := jl
      subst ex
      refine ⟨rfl, _, rfl, _, rfl, n, n, rfl, ?_⟩
      rw [decide_eq_true rfl]
      refine ⟨_, a1, ?_, ?_, fun b o n e => ?_⟩
      · rw [List.length_map, List.length_replicate]
        exact small64 (by omega)
      · rw [upd_same, List.replicate_succ', List.map_append]
        rfl
      · rw [upd_ne n]
        exact a2 b o n e
    · rintro G ⟨a1, a2⟩
      refine ⟨D, _, rfl, SqL.of a1, ?_⟩
      rw [show (List.replicate [V.int n, .int n, .int n].length true).all id = true by simp]
      refine q _ fun b o nb e => ?_
      have e6 := s26 _ _ (k1 _ _ nb e)
      exact a2 _ _ (ne_of_none e6 nD) e6
end
end KS
namespace KS
open PySem PySem.Spec PyProof.Rows L2 RZ
abbrev sLaw : Stmt := topS 21
abbrev nLaw : List Str := ["_law_script", "_law_high", "_law_wide", "_law_k"]
theorem scLaw : FnScope nLaw ["_law_script"] (defScope sLaw) := ⟨rfl, rfl, rfl, by decide +kernel, rfl, by decide +kernel, by decide +kernel⟩
section
variable {P : Program} {w : World} {K : PySem.W.Frag} {mg : Str → Option Value} {base : Heap}
theorem ok_law48 {f fC fP fR fS fI fW : Addr} {fd fdC fdP fdR fdS fdI fdW : FuncData} (F : Fun K "law" "law" sLaw f fd)
    (GC : FnOk P w K mg base CX0 1 fC fdC ["_law_script", "_law_k"] (spCell K)) (bC : Binds K fdC ["_law_script", "_law_k"] []) (gC : mg "_law_cell" = some (.ref fC)) (kC : PySem.W.keepIn K (.ref fC) = true)
    (GP : FnOk P w K mg base CX0 1 fP fdP ["_law_item"] spPool) (bP : Binds K fdP ["_law_item"] []) (gP : mg "_law_pool" = some (.ref fP)) (kP : PySem.W.keepIn K (.ref fP) = true)
    (GR : FnOk P w K mg base CX0 5 fR fdR ["_law_pool_here"] spRight) (bR : Binds K fdR ["_law_pool_here"] []) (gR : mg "_law_right" = some (.ref fR)) (kR : PySem.W.keepIn K (.ref fR) = true)
    (GS : FnOk P w K mg base CX0 4 fS fdS ["rows", "columns"] spCntS) (bS : Binds K fdS ["rows", "columns"] []) (gS : mg "count_sorted" = some (.ref fS)) (kS : PySem.W.keepIn K (.ref fS) = true)
    (GI : FnOk P w K mg base CX0 1 fI fdI ["_law_result", "_law_due"] spIs) (bI : Binds K fdI ["_law_result", "_law_due"] []) (gI : mg "_law_is" = some (.ref fI)) (kI : PySem.W.keepIn K (.ref fI) = true)
    (GW : FnOk P w K mg base CX0 1 fW fdW ["_law_high", "_law_wide"] spWays) (bW : Binds K fdW ["_law_high", "_law_wide"] []) (gW : mg "_law_ways" = some (.ref fW)) (kW : PySem.W.keepIn K (.ref fW) = true)
    (ma : mg "all" = none) (mr : mg "range" = none) (mx : mg "max" = none) (mn : mg "min" = none) (ml : mg "len" = none) : FnG P w K mg base 6 f fd ["_law_script"] (spLaw K) := by
  refine okG F scLaw (fun vs H Q E h => ?_) (fun cdv A outer s H vs Q E hr hgd h => ?_)
  · obtain ⟨a, ns, rfl, _⟩ := h
    rfl
  · obtain ⟨a, ns, rfl, hS, hl, q⟩ := h
    have nd := scLaw.nd
    have hr1 : Room 1 _ := hr.mono (by omega)
    have hr4 : Room 4 _ := hr.mono (by omega)
    refine ⟨_, pss_cons (ps_if (PW.pt (pw_or (pt_cmpR op_ne (pe_call GS hr4 (by rfl) gS kS bS .nil pass0 (pa_cons pe_int (pa_cons pe_int pa_nil))) pe_int (nomark _)) (pw_or (pt_cmpR op_ne (pe_call GS hr4 (by rfl) gS kS bS .nil pass0 (pa_cons pe_int (pa_cons pe_int pa_nil))) pe_int (nomark _)) (pw_or1 (pt_cmpR op_ne (pe_call GS hr4 (by rfl) gS kS bS .nil pass0 (pa_cons pe_int (pa_cons pe_int pa_nil))) pe_int (nomark _)))))) (pss_one ps_never) pss_nil)
      (pss_cons (ps_for PassesOwn.never rfl (pi_range2 (by rfl) mr (pa_cons pe_int (pa_cons pe_int pa_nil))) (pg_name (i := 1) nd rfl (.inr rfl))
        (pss_one (ps_if (pt_not (pt_val (pe_callB (cr_all rfl) (by rfl) ma (by decide +kernel) (pa_cons
          (pe_lc (own := [("_law_wide", 2)]) (g := gName 2) (tt := tYes) rfl nd (pi_range2 (by rfl) mr (pa_cons pe_int (pa_cons (pe_op op_add (pe_op op_fdiv pe_int (pv 1)) pe_int) pa_nil))) (blkOk_by (N := nLaw) (sc := defScope sLaw) (by decide +kernel))
            (fun _ _ _ _ _ => pg_name (i := 2) nd rfl (Or.inl rfl)) (fun _ _ _ _ _ => pts_nil)
            (fun _ _ _ _ _ => pe_call GI hr1 (by rfl) gI kI bI .nil pass0 (pa_cons (pe_call GS hr4 (by rfl) gS kS bS .nil pass0 (pa_cons (pv 1) (pa_cons (pv 2) pa_nil))) (pa_cons (pe_call GW hr1 (by rfl) gW kW bW .nil pass0 (pa_cons (pv 1) (pa_cons (pv 2) pa_nil))) pa_nil)))) pa_nil)))) (pss_one ps_never) pss_nil)))
      (pss_one (ps_ret (pe_callB (cr_all rfl) (by rfl) ma (by decide +kernel) (pa_cons
      (pe_lc (own := [("_law_k", 3)]) (g := gName 3) (tt := tYes) rfl nd (pi_range1 (by rfl) mr (pa_cons (pe_callB (call_max2 rfl) (by rfl) mx (by decide +kernel) (pa_cons pe_int (pa_cons (pe_callB (call_min2 rfl) (by rfl) mn (by decide +kernel)
          (pa_cons (pe_callB call_len_seq (by rfl) ml PySem.boot_len (pa_cons (pv 0) pa_nil)) (pa_cons pe_int pa_nil))) pa_nil))) pa_nil)) (blkOk_by (N := nLaw) (sc := defScope sLaw) (by decide +kernel))
        (fun _ _ _ _ _ => pg_name (i := 3) nd rfl (Or.inl rfl)) (fun _ _ _ _ _ => pts_nil)
        (fun _ _ _ _ _ => pe_call GR hr (by rfl) gR kR bR .nil pass0 (pa_cons (pe_call GP hr1 (by rfl) gP kP bP .nil pass0 (pa_cons (pe_call GC hr1 (by rfl) gC kC bC .nil pass0 (pa_cons (pv 0) (pa_cons (pv 3) pa_nil))) pa_nil)) pa_nil))) pa_nil))))), ?_⟩
    refine ⟨2, 3, rfl, ⟨by decide, by decide, by decide⟩, fun H1 s1 => ⟨rfl, false, by rw [cnt23]; rfl, ?_⟩⟩
    refine ⟨4, 6, rfl, ⟨by decide, by decide, by decide⟩, fun H2 s2 => ⟨rfl, false, by rw [cnt46]; rfl, ?_⟩⟩
    refine ⟨1, 24, rfl, ⟨by decide, by decide, by decide⟩, fun H3 s3 => ⟨rfl, false, by rw [cnt124]; rfl, ?_⟩⟩
    have sA := (s1.trans s2).trans s3
    -- all rectangles
    refine ⟨1, 25, rfl, ⟨by decide, by decide, by decide, by decide⟩, for_range (lo := 1) (n := 24) (fun i σ G => ∃ y1 : Option V, σ = [some (.ref a), y1, none, none] ∧ Same H G) ?_ ?_ ?_⟩
    · exact ⟨none, rfl, sA⟩
    · rintro i σ G hi ⟨y1, rfl, sG⟩
      have ei : (1 : Int) + (i : Int) = ((i + 1 : Nat) : Int) := by omega
      have dv : (24 : Int) / (1 + (i : Int)) = ((24 / (i + 1) : Nat) : Int) := by
        rw [ei]
        exact (Int.natCast_ediv 24 (i + 1)).symm
      have d24 : 24 / (i + 1) ≤ 24 := Nat.div_le_self _ _
      have d1 : 1 ≤ 24 / (i + 1) := (Nat.le_div_iff_mul_le (by omega)).mpr (by omega)
      refine ⟨_, rfl, _, _, rfl, rfl, ⟨by omega, by omega⟩, _, _, rfl, rfl, 1, (24 : Int) / (1 + (i : Int)) + 1, rfl, ⟨by omega, by omega, by rw [dv]; omega, by rw [dv]; omega⟩, fun D nD => ?_⟩
      have nn : ((24 : Int) / (1 + (i : Int)) + 1 - 1).toNat = 24 / (i + 1) := by
        rw [dv]
        omega
      refine lc_range (lo := 1) (n := ((24 : Int) / (1 + (i : Int)) + 1 - 1).toNat) (fun j G2 => G2 D = some (.lst ((List.replicate j true).map V.bl)) ∧ (∀ b o, b ≠ D → G b = some o → G2 b = some o)) ?_ ?_ ?_
      · exact ⟨upd_same, fun b o n e => by rw [upd_ne n]; exact e⟩
      · rintro j G2 hj ⟨a1, a2⟩
        rw [nn] at hj
        have ej : (1 : Int) + (j : Int) = ((j + 1 : Nat) : Int) := by omega
        have sd : Sides (i + 1) (j + 1) := by
          refine ⟨by omega, by omega, ?_⟩
          have h1 : (i + 1) * (j + 1) ≤ (i + 1) * (24 / (i + 1)) := Nat.mul_le_mul_left _ (by omega)
          have h2 : (i + 1) * (24 / (i + 1)) ≤ 24 := Nat.mul_div_le 24 (i + 1)
          omega
        have ew := (run_ok sd).2.1
        refine ⟨rfl, _, rfl, _, rfl, i + 1, j + 1, by
          show [V.int (1 + (i : Int)), V.int (1 + (j : Int))] = _
          rw [ei, ej], sd, fun G3 s3 => ?_⟩
        refine ⟨_, rfl, _, rfl, i + 1, j + 1, by
          show [V.int (1 + (i : Int)), V.int (1 + (j : Int))] = _
          rw [ei, ej], sd, fun G4 s4 => ⟨_, _, rfl, ?_⟩⟩
        have s24 := s3.trans s4
        refine ⟨_, s24 _ _ a1, ?_, ?_, fun b o n e => ?_⟩
        · rw [List.length_map, List.length_replicate]
          exact small64 (by omega)
        · rw [upd_same, List.replicate_succ', List.map_append, ew, decide_eq_true rfl]
          rfl
        · rw [upd_ne n]
          exact s24 _ _ (a2 b o n e)
      · rintro G2 ⟨a1, a2⟩
        refine ⟨D, _, rfl, SqL.of a1, ?_⟩
        rw [show (List.replicate ((24 : Int) / (1 + (i : Int)) + 1 - 1).toNat true).all id = true by simp]
        refine ⟨true, rfl, ?_⟩
        exact ⟨_, rfl, fun b o e => a2 b o (ne_of_none (sG _ _ e) nD) (sG _ _ e)⟩
    rintro σ G ⟨y1, rfl, sG⟩
    have hS := sG.seq hS
    refine ⟨_, rfl, a, _, rfl, .inl hS, _, _, rfl, _, _, rfl, _, rfl, ?_, ?_, fun D nD => ?_⟩
    · split <;> split <;> omega
    · split <;> split <;> omega
    generalize hN : (if (if (6 : Int) < ((ns.map V.int).length : Int) then (6 : Int) else ((ns.map V.int).length : Int)) > 2 then (if (6 : Int) < ((ns.map V.int).length : Int) then (6 : Int) else ((ns.map V.int).length : Int)) else 2) = N
    have hNb : 0 ≤ N ∧ N ≤ 6 := by
      rw [← hN]
      split <;> split <;> omega
    refine lc_range (lo := 0) (n := N.toNat) (fun i H' => H' D = some (.lst ((List.replicate i true).map V.bl)) ∧ (∀ b o, b ≠ D → G b = some o → H' b = some o)) ?_ ?_ ?_
    · exact ⟨upd_same, fun b o n e => by rw [upd_ne n]; exact e⟩
    · rintro i H' hi ⟨a1, a2⟩
      have sD : Same G H' := fun b o e => a2 b o (ne_of_none e nD) e
      refine ⟨rfl, _, rfl, _, rfl, a, ns, i, by
        show [V.ref a, V.int (0 + (i : Int))] = _
        rw [Int.zero_add], sD.seq hS, by omega, fun H1 n s1 => ⟨n, rfl, fun H2 p s2 np po => ⟨p, rfl, po, fun H3 kx => ?_⟩⟩⟩
      have nDp : D ≠ p := ne_of_none (s1 _ _ a1) np
      have s12 := s1.trans s2
      refine ⟨_, kx _ _ nDp (s12 _ _ a1), ?_, ?_, fun b o n e => ?_⟩
      · rw [List.length_map, List.length_replicate]
        exact small64 (by omega)
      · rw [upd_same, List.replicate_succ', List.map_append]
        rfl
      · rw [upd_ne n]
        have e1 := a2 b o n e
        exact kx _ _ (ne_of_none (s1 _ _ e1) np) (s12 _ _ e1)
    · rintro H' ⟨a1, a2⟩
      refine ⟨D, _, rfl, SqL.of a1, ?_⟩
      rw [show (List.replicate N.toNat true).all id = true by simp]
      exact q H'
end
end KS
namespace KS
open PySem PySem.Spec PyProof.Rows L2
-- topS
theorem all_mk {l : PySem.W.OpenLaw} {w : World} {K : PySem.W.Frag} {h : Heap} {mg : Str → Option Value} {fa f0 f1 f2 f3 f4 f5 f6 f7 f8 f9 f10 f11 f12 f13 f14 : Addr} (X : K.In h) (G : h.Ns mainGlobals mg) (hfa : mg "law" = some (.ref fa))
    {od0 an0 od1 an1 od2 an2 od3 an3 od4 an4 od5 an5 od6 an6 od7 an7 od8 an8 od9 an9 od10 an10 od11 an11 od12 an12 od13 an13 od14 an14 : Option Addr} {sl0 sl1 sl2 sl3 sl4 sl5 sl6 sl7 sl8 sl9 sl10 sl11 sl12 sl13 sl14 : Array (Option Value)}
    {oc0 kV0 dc0 pm0 cd0 ct0 oc1 kV1 dc1 pm1 cd1 ct1 oc2 kV2 dc2 pm2 cd2 ct2 oc3 kV3 dc3 pm3 cd3 ct3 oc4 kV4 dc4 pm4 cd4 ct4 oc5 kV5 dc5 pm5 cd5 ct5 oc6 kV6 dc6 pm6 cd6 ct6 oc7 kV7 dc7 pm7 cd7 ct7 oc8 kV8 dc8 pm8 cd8 ct8 oc9 kV9 dc9 pm9 cd9 ct9 oc10 kV10 dc10 pm10 cd10 ct10 oc11 kV11 dc11 pm11 cd11 ct11 oc12 kV12 dc12 pm12 cd12 ct12 oc13 kV13 dc13 pm13 cd13 ct13 oc14 kV14 dc14 pm14 cd14 ct14 : Value} {tk0 : Tok}
    (a0 : PySem.W.nsIn K mainGlobals "is_whole" = some (some (.ref f0)))
    (l0 : K.lookup f0 = some ⟨oc0, od0, .func (PySem.W.fnOf "is_whole" "is_whole" (defArgs sWhole) (defBody sWhole) (defScope sWhole) .none kV0 dc0 pm0 an0 cd0 ct0), sl0⟩)
    (c0 : PySem.W.codeIn K cd0 "is_whole" = true) (k0 : PySem.W.keepIn K (.ref f0) = true)
    (a1 : PySem.W.nsIn K mainGlobals "is_between" = some (some (.ref f1)))
    (l1 : K.lookup f1 = some ⟨oc1, od1, .func (PySem.W.fnOf "is_between" "is_between" (defArgs sBetween) (defBody sBetween) (defScope sBetween) .none kV1 dc1 pm1 an1 cd1 ct1), sl1⟩)
    (c1 : PySem.W.codeIn K cd1 "is_between" = true) (k1 : PySem.W.keepIn K (.ref f1) = true)
    (a2 : PySem.W.nsIn K mainGlobals "check_rectangle" = some (some (.ref f2)))
    (l2 : K.lookup f2 = some ⟨oc2, od2, .func (PySem.W.fnOf "check_rectangle" "check_rectangle" (defArgs sRcOk) (defBody sRcOk) (defScope sRcOk) .none kV2 dc2 pm2 an2 cd2 ct2), sl2⟩)
    (c2 : PySem.W.codeIn K cd2 "check_rectangle" = true) (k2 : PySem.W.keepIn K (.ref f2) = true)
    (a3 : PySem.W.nsIn K mainGlobals "fitting_steps" = some (some (.ref f3)))
    (l3 : K.lookup f3 = some ⟨oc3, od3, .func (PySem.W.fnOf "fitting_steps" "fitting_steps" (defArgs sFit) (defBody sFit) (defScope sFit) .none kV3 dc3 pm3 an3 cd3 ct3), sl3⟩)
    (c3 : PySem.W.codeIn K cd3 "fitting_steps" = true) (k3 : PySem.W.keepIn K (.ref f3) = true)
    (a4 : PySem.W.nsIn K mainGlobals "count_within" = some (some (.ref f4)))
    (l4 : K.lookup f4 = some ⟨oc4, od4, .func (PySem.W.fnOf "count_within" "count_within" (defArgs sWithin) (defBody sWithin) (defScope sWithin) .none kV4 dc4 pm4 an4 cd4 ct4), sl4⟩)
    (c4 : PySem.W.codeIn K cd4 "count_within" = true) (k4 : PySem.W.keepIn K (.ref f4) = true)
    (a5 : PySem.W.nsIn K mainGlobals "count_sorted" = some (some (.ref f5)))
    (l5 : K.lookup f5 = some ⟨oc5, od5, .func (PySem.W.fnOf "count_sorted" "count_sorted" (defArgs sCntS) (defBody sCntS) (defScope sCntS) .none kV5 dc5 pm5 an5 cd5 ct5), sl5⟩)
    (c5 : PySem.W.codeIn K cd5 "count_sorted" = true) (k5 : PySem.W.keepIn K (.ref f5) = true)
    (a6 : PySem.W.nsIn K mainGlobals "_law_cell" = some (some (.ref f6)))
    (l6 : K.lookup f6 = some ⟨oc6, od6, .func (PySem.W.fnOf "_law_cell" "_law_cell" (defArgs sCell) (defBody sCell) (defScope sCell) .none kV6 dc6 pm6 an6 cd6 ct6), sl6⟩)
    (c6 : PySem.W.codeIn K cd6 "_law_cell" = true) (k6 : PySem.W.keepIn K (.ref f6) = true)
    (a7 : PySem.W.nsIn K mainGlobals "_law_pool" = some (some (.ref f7)))
    (l7 : K.lookup f7 = some ⟨oc7, od7, .func (PySem.W.fnOf "_law_pool" "_law_pool" (defArgs sPool) (defBody sPool) (defScope sPool) .none kV7 dc7 pm7 an7 cd7 ct7), sl7⟩)
    (c7 : PySem.W.codeIn K cd7 "_law_pool" = true) (k7 : PySem.W.keepIn K (.ref f7) = true)
    (a8 : PySem.W.nsIn K mainGlobals "_law_draw" = some (some (.ref f8)))
    (l8 : K.lookup f8 = some ⟨oc8, od8, .func (PySem.W.fnOf "_law_draw" "_law_draw" (defArgs sDraw) (defBody sDraw) (defScope sDraw) .none kV8 dc8 pm8 an8 cd8 ct8), sl8⟩)
    (c8 : PySem.W.codeIn K cd8 "_law_draw" = true) (k8 : PySem.W.keepIn K (.ref f8) = true)
    (a9 : PySem.W.nsIn K mainGlobals "_law_sides" = some (some (.ref f9)))
    (l9 : K.lookup f9 = some ⟨oc9, od9, .func (PySem.W.fnOf "_law_sides" "_law_sides" (defArgs sSides) (defBody sSides) (defScope sSides) .none kV9 dc9 pm9 an9 cd9 ct9), sl9⟩)
    (c9 : PySem.W.codeIn K cd9 "_law_sides" = true) (k9 : PySem.W.keepIn K (.ref f9) = true)
    (a10 : PySem.W.nsIn K mainGlobals "_law_settled" = some (some (.ref f10)))
    (l10 : K.lookup f10 = some ⟨oc10, od10, .func (PySem.W.fnOf "_law_settled" "_law_settled" (defArgs sSett) (defBody sSett) (defScope sSett) .none kV10 dc10 pm10 an10 cd10 ct10), sl10⟩)
    (c10 : PySem.W.codeIn K cd10 "_law_settled" = true) (k10 : PySem.W.keepIn K (.ref f10) = true)
    (a11 : PySem.W.nsIn K mainGlobals "_law_is" = some (some (.ref f11)))
    (l11 : K.lookup f11 = some ⟨oc11, od11, .func (PySem.W.fnOf "_law_is" "_law_is" (defArgs sIs) (defBody sIs) (defScope sIs) .none kV11 dc11 pm11 an11 cd11 ct11), sl11⟩)
    (c11 : PySem.W.codeIn K cd11 "_law_is" = true) (k11 : PySem.W.keepIn K (.ref f11) = true)
    (a12 : PySem.W.nsIn K mainGlobals "_law_ways" = some (some (.ref f12)))
    (l12 : K.lookup f12 = some ⟨oc12, od12, .func (PySem.W.fnOf "_law_ways" "_law_ways" (defArgs sWays) (defBody sWays) (defScope sWays) .none kV12 dc12 pm12 an12 cd12 ct12), sl12⟩)
    (c12 : PySem.W.codeIn K cd12 "_law_ways" = true) (k12 : PySem.W.keepIn K (.ref f12) = true)
    (a13 : PySem.W.nsIn K mainGlobals "_law_right" = some (some (.ref f13)))
    (l13 : K.lookup f13 = some ⟨oc13, od13, .func (PySem.W.fnOf "_law_right" "_law_right" (defArgs sRight) (defBody sRight) (defScope sRight) .none kV13 dc13 pm13 an13 cd13 ct13), sl13⟩)
    (c13 : PySem.W.codeIn K cd13 "_law_right" = true) (k13 : PySem.W.keepIn K (.ref f13) = true)
    (a14 : PySem.W.nsIn K mainGlobals "law" = some (some (.ref f14)))
    (l14 : K.lookup f14 = some ⟨oc14, od14, .func (PySem.W.fnOf "law" "law" (defArgs sLaw) (defBody sLaw) (defScope sLaw) .none kV14 dc14 pm14 an14 cd14 ct14), sl14⟩)
    (c14 : PySem.W.codeIn K cd14 "law" = true) (k14 : PySem.W.keepIn K (.ref f14) = true)
    (z0 : PySem.W.nsIn K mainGlobals "isinstance" = some none)
    (z1 : PySem.W.nsIn K mainGlobals "int" = some none)
    (z2 : PySem.W.nsIn K mainGlobals "bool" = some none)
    (z3 : PySem.W.nsIn K mainGlobals "sum" = some none)
    (z4 : PySem.W.nsIn K mainGlobals "enumerate" = some none)
    (z5 : PySem.W.nsIn K mainGlobals "range" = some none)
    (z6 : PySem.W.nsIn K mainGlobals "len" = some none)
    (z7 : PySem.W.nsIn K mainGlobals "abs" = some none)
    (z8 : PySem.W.nsIn K mainGlobals "divmod" = some none)
    (z9 : PySem.W.nsIn K mainGlobals "min" = some none)
    (z10 : PySem.W.nsIn K mainGlobals "max" = some none)
    (z11 : PySem.W.nsIn K mainGlobals "all" = some none)
    (w0 : PySem.W.nsIn K mainGlobals "MOST_CELLS" = some (some (.int 24 tk0)))
    : ∃ fd : FuncData, (∀ (s : Shared) (v : Value), BindsTo s fd ⟨[v], []⟩ [("_law_script", v)]) ∧ ∀ base : Heap, K.In base → base.Ns mainGlobals mg → FnG l.prog w K mg base 6 fa fd ["_law_script"] (spLaw K) := by
  have e := hfa.symm.trans (PySem.W.mg_of X G a14)
  cases e
  have F0 := fun_mk (st := sWhole) l0 c0 k0
  have m0 := PySem.W.mg_of X G a0
  have F1 := fun_mk (st := sBetween) l1 c1 k1
  have m1 := PySem.W.mg_of X G a1
  have F2 := fun_mk (st := sRcOk) l2 c2 k2
  have m2 := PySem.W.mg_of X G a2
  have F3 := fun_mk (st := sFit) l3 c3 k3
  have m3 := PySem.W.mg_of X G a3
  have F4 := fun_mk (st := sWithin) l4 c4 k4
  have m4 := PySem.W.mg_of X G a4
  have F5 := fun_mk (st := sCntS) l5 c5 k5
  have m5 := PySem.W.mg_of X G a5
  have F6 := fun_mk (st := sCell) l6 c6 k6
  have m6 := PySem.W.mg_of X G a6
  have F7 := fun_mk (st := sPool) l7 c7 k7
  have m7 := PySem.W.mg_of X G a7
  have F8 := fun_mk (st := sDraw) l8 c8 k8
  have m8 := PySem.W.mg_of X G a8
  have F9 := fun_mk (st := sSides) l9 c9 k9
  have m9 := PySem.W.mg_of X G a9
  have F10 := fun_mk (st := sSett) l10 c10 k10
  have m10 := PySem.W.mg_of X G a10
  have F11 := fun_mk (st := sIs) l11 c11 k11
  have m11 := PySem.W.mg_of X G a11
  have F12 := fun_mk (st := sWays) l12 c12 k12
  have m12 := PySem.W.mg_of X G a12
  have F13 := fun_mk (st := sRight) l13 c13 k13
  have m13 := PySem.W.mg_of X G a13
  have F14 := fun_mk (st := sLaw) l14 c14 k14
  have m14 := PySem.W.mg_of X G a14
  have n_isinstance := PySem.W.mg_none_of X G z0
  have n_int := PySem.W.mg_none_of X G z1
  have n_bool := PySem.W.mg_none_of X G z2
  have n_sum := PySem.W.mg_none_of X G z3
  have n_enumerate := PySem.W.mg_none_of X G z4
  have n_range := PySem.W.mg_none_of X G z5
  have n_len := PySem.W.mg_none_of X G z6
  have n_abs := PySem.W.mg_none_of X G z7
  have n_divmod := PySem.W.mg_none_of X G z8
  have n_min := PySem.W.mg_none_of X G z9
  have n_max := PySem.W.mg_none_of X G z10
  have n_all := PySem.W.mg_none_of X G z11
  have c_MOST_CELLS := PySem.W.mg_of X G w0
  have b0 := F0.binds (ps := ["value"]) fun _ _ _ _ _ _ us hl => match us, hl with | [_], _ => rfl
  have b1 := F1.binds (ps := ["value", "least", "most"]) fun _ _ _ _ _ _ us hl => match us, hl with | [_, _, _], _ => rfl
  have b2 := F2.binds (ps := ["rows", "columns"]) fun _ _ _ _ _ _ us hl => match us, hl with | [_, _], _ => rfl
  have b3 := F3.binds (ps := ["columns", "counts", "bounds"]) fun _ _ _ _ _ _ us hl => match us, hl with | [_, _, _], _ => rfl
  have b4 := F4.binds (ps := ["rows", "columns", "bounds"]) fun _ _ _ _ _ _ us hl => match us, hl with | [_, _, _], _ => rfl
  have b5 := F5.binds (ps := ["rows", "columns"]) fun _ _ _ _ _ _ us hl => match us, hl with | [_, _], _ => rfl
  have w5 : KwBinds _ ["rows", "columns"] ["columns", "rows"] swap2 swap2 := kw_binds F5 (fun _ _ _ _ _ _ ws hl => match ws, hl with | [_, _], _ => rfl) (fun r => swap2_rel r)
  have b6 := F6.binds (ps := ["_law_script", "_law_k"]) fun _ _ _ _ _ _ us hl => match us, hl with | [_, _], _ => rfl
  have b7 := F7.binds (ps := ["_law_item"]) fun _ _ _ _ _ _ us hl => match us, hl with | [_], _ => rfl
  have b8 := F8.binds (ps := ["_law_pool_here", "_law_most"]) fun _ _ _ _ _ _ us hl => match us, hl with | [_, _], _ => rfl
  have b9 := F9.binds (ps := ["_law_pool_here", "_law_most"]) fun _ _ _ _ _ _ us hl => match us, hl with | [_, _], _ => rfl
  have b10 := F10.binds (ps := ["_law_high", "_law_wide"]) fun _ _ _ _ _ _ us hl => match us, hl with | [_, _], _ => rfl
  have b11 := F11.binds (ps := ["_law_result", "_law_due"]) fun _ _ _ _ _ _ us hl => match us, hl with | [_, _], _ => rfl
  have b12 := F12.binds (ps := ["_law_high", "_law_wide"]) fun _ _ _ _ _ _ us hl => match us, hl with | [_, _], _ => rfl
  have b13 := F13.binds (ps := ["_law_pool_here"]) fun _ _ _ _ _ _ us hl => match us, hl with | [_], _ => rfl
  refine ⟨PySem.W.fnOf "law" "law" (defArgs sLaw) (defBody sLaw) (defScope sLaw) .none kV14 dc14 pm14 an14 cd14 ct14, fun s v => .of_eq rfl, fun base _ _ => ?_⟩
  have G0 := ok_whole (P := l.prog) (w := w) (mg := mg) (base := base) F0 n_isinstance n_int n_bool
  have G1 := ok_between (P := l.prog) (w := w) (mg := mg) (base := base) F1 G0 b0 m0 k0
  have G2 := ok_rcOk (P := l.prog) (w := w) (mg := mg) (base := base) F2 G1 b1 m1 k1 c_MOST_CELLS
  have G3 := ok_fit (P := l.prog) (w := w) (mg := mg) (base := base) F3 n_sum n_enumerate
  have G4 := ok_within (P := l.prog) (w := w) (mg := mg) (base := base) F4 G3 b3 m3 k3 n_range n_sum
  have G5 := ok_cntS (P := l.prog) (w := w) (mg := mg) (base := base) F5 G2 b2 m2 k2 G4 b4 m4 k4
  have G6 := ok_cell (P := l.prog) (w := w) (mg := mg) (base := base) F6 n_len
  have G7 := ok_pool (P := l.prog) (w := w) (mg := mg) (base := base) F7 n_abs
  have G8 := ok_draw (P := l.prog) (w := w) (mg := mg) (base := base) F8 n_divmod
  have G9 := ok_sides (P := l.prog) (w := w) (mg := mg) (base := base) F9 G8 b8 m8 k8 n_min
  have G10 := ok_sett (P := l.prog) (w := w) (mg := mg) (base := base) F10 n_range n_max
  have G11 := ok_is (P := l.prog) (w := w) (mg := mg) (base := base) F11 n_isinstance n_int n_bool
  have G12 := ok_ways (P := l.prog) (w := w) (mg := mg) (base := base) F12 n_range n_min
  have G13 := ok_right48 (P := l.prog) (w := w) (mg := mg) (base := base) F13 G9 b9 m9 k9 G10 b10 m10 k10 G5 b5 w5 m5 k5 G11 b11 m11 k11 n_len n_all
  exact ok_law48 F14 G6 b6 m6 k6 G7 b7 m7 k7 G13 b13 m13 k13 G5 b5 m5 k5 G11 b11 m11 k11 G12 b12 m12 k12 n_all n_range n_max n_min n_len
end KS
open PySem PySem.W PyProof.Rows
set_option maxHeartbeats 0 in
theorem PySem.Challenge.cw_keepsort_k48_settled_tables_counted_holds : PySem.Challenge.rw_keepsort_k48_settled_tables_counted.Holds := by
  w_on; o_law; k_head; (case hw => w_witness2)
  k_fill
  refine KS.walk_ofG (l := PySem.Challenge.rw_keepsort_k48_settled_tables_counted) (n := 63) (k := 6) (x := "_law_script") (sp := fun w => KS.spLaw _) rfl (by decide) rfl ⟨rfl, by decide, by decide⟩ (fun w h Y => PySem.W.kIn_of Y) ?F (fun _ _ a ns hl _ hS => ⟨a, ns, rfl, hS, hl, fun _ => rfl⟩)
  case F =>
    intro w mg fa h KX G hmg
    refine' KS.all_mk KX G hmg ?a0 ?l0 ?c0 ?k0 ?a1 ?l1 ?c1 ?k1 ?a2 ?l2 ?c2 ?k2 ?a3 ?l3 ?c3 ?k3 ?a4 ?l4 ?c4 ?k4 ?a5 ?l5 ?c5 ?k5 ?a6 ?l6 ?c6 ?k6 ?a7 ?l7 ?c7 ?k7 ?a8 ?l8 ?c8 ?k8 ?a9 ?l9 ?c9 ?k9 ?a10 ?l10 ?c10 ?k10 ?a11 ?l11 ?c11 ?k11 ?a12 ?l12 ?c12 ?k12 ?a13 ?l13 ?c13 ?k13 ?a14 ?l14 ?c14 ?k14 ?z0 ?z1 ?z2 ?z3 ?z4 ?z5 ?z6 ?z7 ?z8 ?z9 ?z10 ?z11 ?w0
    (case a0 => k_is)
    (case l0 => k_is)
    (case c0 => k_is)
    (case k0 => k_is)
    (case a1 => k_is)
    (case l1 => k_is)
    (case c1 => k_is)
    (case k1 => k_is)
    (case a2 => k_is)
    (case l2 => k_is)
    (case c2 => k_is)
    (case k2 => k_is)
    (case a3 => k_is)
    (case l3 => k_is)
    (case c3 => k_is)
    (case k3 => k_is)
    (case a4 => k_is)
    (case l4 => k_is)
    (case c4 => k_is)
    (case k4 => k_is)
    (case a5 => k_is)
    (case l5 => k_is)
    (case c5 => k_is)
    (case k5 => k_is)
    (case a6 => k_is)
    (case l6 => k_is)
    (case c6 => k_is)
    (case k6 => k_is)
    (case a7 => k_is)
    (case l7 => k_is)
    (case c7 => k_is)
    (case k7 => k_is)
    (case a8 => k_is)
    (case l8 => k_is)
    (case c8 => k_is)
    (case k8 => k_is)
    (case a9 => k_is)
    (case l9 => k_is)
    (case c9 => k_is)
    (case k9 => k_is)
    (case a10 => k_is)
    (case l10 => k_is)
    (case c10 => k_is)
    (case k10 => k_is)
    (case a11 => k_is)
    (case l11 => k_is)
    (case c11 => k_is)
    (case k11 => k_is)
    (case a12 => k_is)
    (case l12 => k_is)
    (case c12 => k_is)
    (case k12 => k_is)
    (case a13 => k_is)
    (case l13 => k_is)
    (case c13 => k_is)
    (case k13 => k_is)
    (case a14 => k_is)
    (case l14 => k_is)
    (case c14 => k_is)
    (case k14 => k_is)
    (case z0 => k_is)
    (case z1 => k_is)
    (case z2 => k_is)
    (case z3 => k_is)
    (case z4 => k_is)
    (case z5 => k_is)
    (case z6 => k_is)
    (case z7 => k_is)
    (case z8 => k_is)
    (case z9 => k_is)
    (case z10 => k_is)
    (case z11 => k_is)
    (case w0 => k_is)
