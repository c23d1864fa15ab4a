import PyProof.Rows.All
import Wide.All
import OpenK.AllK
import Wide.FinOn
import HandS.ForMost
import HandS.Style
import HandS.Flow
import KE.GoesMore
import KE.GoesEnum
import KE.KTupSum
import PyProof.ReprRoads
import PyProof.ReprLen
import HandS.IsInst
import HandS.TupLe
import HandS.SetKeys
import HandS.SortRule
import HandS.More
import HandS.TupAny
import PyProof.P3In
import HandS.Deep
import KE.KRevSl
import HandS.TupMul
import HandS.ForExc
import PyProof.NeKinds
import HandS.SortInts
import HandS.Zip
import HandS.Iter
import HandS.Text
import HandS.Walk
import KE.IntBitsLaws
import PyProof.Rows.StrCountLaw
import PyProof.Rows.RegReprOcc
import HandS.Conv
import PyProof.StrOps2
import PyProof.Rows.ReprOcc
import HandS.StrMore
import KE.GoesZip
import HandS.ExcOwn
import PySem.Challenge.RW_keepsort_k19_programs_and_others
set_option Elab.async false
set_option linter.all false
set_option maxRecDepth 100000
set_option maxHeartbeats 4000000
namespace KS
open PySem PySem.Spec PyProof.Rows L2
/-- three whole numbers: the state, the digits left, how many draws -/
def PoolO (o : Option HO) : Prop := ∃ a b c : Int, o = some (.lst [.int a, .int b, .int c]) ∧ 0 ≤ a ∧ a < 2147483249 ∧ 0 ≤ b
/-- what stood, but at p, stands -/
def KeepX (p : Addr) (H H' : Hp) : Prop := ∀ b o, b ≠ p → H b = some o → H' b = some o
theorem KeepX.refl (p : Addr) (H : Hp) : KeepX p H H := fun _ _ _ e => e
theorem KeepX.trans {p : Addr} {H H1 H2 : Hp} (a : KeepX p H H1) (b : KeepX p H1 H2) : KeepX p H H2 := fun c o n e => b c o n (a c o n e)
theorem KeepX.of_same {p : Addr} {H H1 : Hp} (a : Same H H1) : KeepX p H H1 := fun c o _ e => a c o e
theorem same_new {H : Hp} {p : Addr} {o : HO} (h : H p = none) : Same H (upd H p o) := fun b x e => by
  rw [upd_ne (ne_of_none e h)]
  exact e
theorem keepX_upd {H : Hp} {p : Addr} {o : HO} : KeepX p H (upd H p o) := fun b x n e => by
  rw [upd_ne n]
  exact e
theorem PoolO.same {H H' : Hp} {p : Addr} (s : Same H H') (h : PoolO (H p)) : PoolO (H' p) := by
  obtain ⟨a, b, c, e, r⟩ := h
  exact ⟨a, b, c, s _ _ e, r⟩
theorem PoolO.ne {H : Hp} {p q : Addr} (h : PoolO (H p)) (n : H q = none) : p ≠ q := by
  obtain ⟨a, b, c, e, r⟩ := h
  exact ne_of_none e n
theorem same_seqT {K : PySem.W.Frag} {H H' : Hp} {a : Addr} {xs : List V} (e : Same H H') (h : SqT K H a xs) : SqT K H' a xs := by
  rcases h with (h | ⟨o, h⟩) | h
  · exact .inl (.inl (e _ _ h))
  · exact .inl (.inr ⟨o, e _ _ h⟩)
  · exact .inr h
theorem keepX_seqT {K : PySem.W.Frag} {H H' : Hp} {a p : Addr} {xs : List V} (hp : PoolO (H p)) (e : KeepX p H H') (h : SqT K H a xs) : SqT K H' a xs := by
  obtain ⟨x, y, z, ep, _⟩ := hp
  rcases h with (h | ⟨o, h⟩) | h
  · exact .inl (.inl (e _ _ (fun q => by rw [q, ep] at h; cases h) h))
  · exact .inl (.inr ⟨o, e _ _ (fun q => by rw [q, ep] at h; cases h) h⟩)
  · exact .inr h
theorem int_mod_bd (x : Int) {m : Int} (h : 0 < m) : 0 ≤ x % m ∧ x % m < m := ⟨Int.emod_nonneg x (by omega), Int.emod_lt_of_pos x h⟩
def spCell (K : PySem.W.Frag) : Sp := fun vs H Q _ => ∃ (a : Addr) (ns : List Int) (k : Nat), vs = [.ref a, .int k] ∧ SqL K H a (ns.map V.int) ∧ k ≤ 63 ∧ ∀ H' n, Same H H' → Q (.int n) H'
def spPool : Sp := fun vs H Q _ => ∃ (n : Int), vs = [.int n] ∧ ∀ H' p, Same H H' → H p = none → PoolO (H' p) → Q (.ref p) H'
def spDraw : Sp := fun vs H Q _ => ∃ (p : Addr) (m : Int), vs = [.ref p, .int m] ∧ PoolO (H p) ∧ 0 < m ∧ m < 1073741824 ∧ ∀ H' r, KeepX p H H' → PoolO (H' p) → 0 ≤ r → r < m → Q (.int r) H'
end KS
namespace KS
open PySem PySem.Spec PyProof.Rows L2
open Sem (wp)
open AutoSeq1 (wpAny_loadPart')
/-! ### sum(t), t a tuple of whole numbers -/
def rSumT (K : PySem.W.Frag) : List V → Hp → VK → Prop := fun vs H Q => ∃ (a : Addr) (ns : List Int), vs = [V.ref a] ∧ SqT K H a (ns.map V.int) ∧ Q (.int ns.sum) H
theorem cr_sumT {X : Cx} (hc : X.calm = true) : CallR X (.builtin "sum") (rSumT X.K) := by
  intro pins s σ H vs us Q I r h
  obtain ⟨a, ns, rfl, hs, q⟩ := h
  obtain ⟨its, rv, hl, _⟩ := I.tuple hs
  rw [Vals.ref1 r]
  have hi := rv.ints
  obtain ⟨xs, e⟩ := hi.allInts.items
  have hn : numsOf (intItems xs).toList = ns := by
    rw [← e]
    exact hi.numsOf
  rw [nums_intItems] at hn
  have hl2 : s.heap.IsTuple a (intItems xs) := by
    rw [← e]
    exact hl
  refine PySem.W.ktm_sumG (I.ok.hd hc) hl2 fun h' tk t' hk => ⟨.int ns.sum, H, I.kept hk, ⟨t', ?_⟩, q⟩
  rw [preSum_eq, List.take_of_length_le (by simp), hn]
/-- tuple(x), x a list or a tuple -/
def rTupOf (K : PySem.W.Frag) : List V → Hp → VK → Prop := fun xs H Q => ∃ p ys, xs = [.ref p] ∧ ((SqL K H p ys ∧ ∀ l, H l = none → Q (.ref l) (upd H l (.tup ys))) ∨ (SqT K H p ys ∧ Q (.ref p) H))
theorem cr_tupOf {X : Cx} : CallR X (.type "tuple") (rTupOf X.K) := call_tuple_of
/-! ### enumerate(t), t a tuple -/
abbrev tupItO (l : Addr) : Obj := { cls := .type "tuple_iterator", data := .fields #[.ref l, .int 0 0] }
abbrev enumO (it : Addr) : Obj := { cls := .type "enumerate", data := .fields #[.none, .bool false, .ref it, rawInt 0, .none, .none] }
theorem meets_enumT (l : Addr) (items : Array Value) (n : Nat) (dct : Option Addr) (sl : Array (Option Value)) :
    Meets (Builtin.«enumerate.__new__» ⟨[.type "enumerate", .ref l], []⟩) (fun _ R s =>
      s.heap.get? l = some { cls := .type "tuple", dict := dct, data := .seq items n, slots := sl } ∧
      R (.ok (.ret (.ref (s.heap.push (tupItO l)).objs.size))) { s with heap := (s.heap.push (tupItO l)).push (enumO s.heap.objs.size) }) :=
  .of_wp fun prog w A R s h => by
    obtain ⟨hp, g, d, tk, os⟩ := s
    obtain ⟨hl, h⟩ := h
    have hsub := sub_enumerate
    have hT : Heap.IsTuple (Shared.heap ⟨hp, g, d, tk, os⟩) l items := ⟨_, hl, rfl, n, rfl⟩
    wp_walk using wpAny_loadPart' hl
    refine wpAny_stack_any fun st => wpAny_pure ?_
    split
    · rename_i c _ _ _ _ _
      cases (c == Value.type "enumerate")
      · wp_walk using wpAny_loadPart' hl, wpAny_pyIter_tuple hT
        exact ⟨_, rfl, h⟩
      · wp_walk using wpAny_loadPart' hl, wpAny_pyIter_tuple hT
        exact ⟨_, rfl, h⟩
    · wp_walk using wpAny_loadPart' hl, wpAny_pyIter_tuple hT
      exact ⟨_, rfl, h⟩
theorem call_enumT {prog : Program} {w : World} {A : Around} {E : Value → Shared → Prop} {s : Shared} {l : Addr} {items : Array Value} {Q : Value → Shared → Prop} (hL : s.heap.IsTuple l items)
    (h : ∀ h', IsEnum h' (s.heap.objs.size + 1) s.heap.objs.size 0 .none → h'.IsTupleIter s.heap.objs.size l 0 →
      (∀ b o, s.heap.get? b = some o → h'.get? b = some o) → Q (.ref (s.heap.objs.size + 1)) { s with heap := h' }) :
    wpAny (model prog w) A (call (.type "enumerate") [.ref l]) Q E s := by
  obtain ⟨⟨c, dct, dt, sl⟩, hl, hc, n, hd⟩ := hL
  replace hc : c = .type "tuple" := hc
  replace hd : dt = .seq items n := hd
  subst hc
  subst hd
  refine callType_new F.called_enumerate (by decide) (F.typeCall_enumerate_1 _) (F.newCall_enumerate_1 _)
    (fun obj => F.args_object_init_2 obj _) F.entry_enumerate_new (meets_enumT l items n dct sl) ⟨hl, ?_⟩
  generalize hg1 : s.heap.push (tupItO l) = g1
  have hz : g1.objs.size = s.heap.objs.size + 1 := by
    rw [← hg1]
    exact Heap.size_push ..
  have hit : g1.get? s.heap.objs.size = some (tupItO l) := by
    rw [← hg1]
    exact Heap.get?_push_size _ rfl
  have hold : ∀ b o, s.heap.get? b = some o → g1.get? b = some o := fun b o e => by
    rw [← hg1]
    exact Heap.get?_push_of_some _ e
  show _ ∧ _
  rw [hz]
  have he : IsEnum (g1.push (enumO s.heap.objs.size))
      (s.heap.objs.size + 1) s.heap.objs.size 0 .none := by
    have z := Heap.get?_push_size g1 (o := enumO s.heap.objs.size) rfl
    rw [hz] at z
    exact z
  exact ⟨⟨_, he, rfl⟩, h _ he ⟨tupItO l, Heap.get?_push_of_some _ hit, rfl, rfl⟩ fun b o x => Heap.get?_push_of_some _ (hold b o x)⟩
/-- the pairs (i, item i) of the tuple at a, each a new tuple -/
def IteT (K : PySem.W.Frag) (a : Addr) : It :=
  ⟨fun i H => ∃ (xs : List V) (x : V), SqT K H a xs ∧ xs[i]? = some x,
   fun i H v H' => ∃ T x, v = .ref T ∧ H T = none ∧ H' = upd H T (.tup [.int (i : Nat), x]) ∧ ∀ xs, SqT K H a xs → xs[i]? = some x,
   fun i H => ∃ xs : List V, SqT K H a xs ∧ xs.length ≤ i⟩
theorem turn_enumT {P : Program} {w : World} {K : PySem.W.Frag} {elts : List Expr} {kk : Nat} {tpos : Pos} (a e it : Addr) :
    Turn P w K (.Tuple elts kk tpos) (IteT K a) [e, it] e
      (fun i h => (∃ old, IsEnum h e it ((i : Nat) : Int) old) ∧ h.IsTupleIter it a i ∧ e ≠ it) where
  mem := by simp
  obj := fun i h st b hb => by
    obtain ⟨⟨old, he⟩, ⟨o, ho, hc, hd⟩, _⟩ := st
    rcases (by simpa using hb : b = e ∨ b = it) with z | z
    · subst z
      exact ⟨_, he, fun v q => nomatch q⟩
    · subst z
      exact ⟨o, ho, fun v q => by rw [hd] at q; cases q⟩
  keep := fun i h h' st k => by
    obtain ⟨⟨old, he⟩, hi, hne⟩ := st
    exact ⟨⟨old, k e (by simp) _ he⟩, hi.at fun o q => k it (by simp) o q, hne⟩
  item := by
    intro X hP hw hK hc i pins s σ H E I hf st hg
    subst hP hw hK
    obtain ⟨⟨old, he⟩, hit, hne⟩ := st
    obtain ⟨xs, x, hq, hx⟩ := hg
    obtain ⟨its, rv, p, hz⟩ := I.tuple hq
    have p1 : s.heap.IsTuple a its.toArray := p
    obtain ⟨u0, hu0, ru0⟩ := rv.get hx
    have hel : e < s.heap.objs.size := Heap.lt_size he
    have hil : it < s.heap.objs.size := by
      obtain ⟨_, q, _⟩ := hit
      exact Heap.lt_size q
    have hai : a ≠ it := fun z => by
      obtain ⟨o1, g1, c1, _⟩ := p1
      obtain ⟨o2, g2, c2, _⟩ := hit
      rw [z, g2] at g1
      cases g1
      rw [c1] at c2
      injection c2 with c3
      exact absurd c3 (by decide)
    have hea : e ≠ a := fun z => by
      obtain ⟨o1, g1, c1, _⟩ := p1
      have g2 : s.heap.get? e = some _ := he
      rw [z, g1] at g2
      cases g2
      have c2 : Value.type "enumerate" = Value.type "tuple" := c1
      injection c2 with c3
      exact absurd c3 (by decide)
    have hlt : i < its.toArray.size := by
      have z : i < its.length := (List.getElem?_eq_some_iff.mp hu0).1
      simpa using z
    have DD : Draws X.prog X.w X.A.in1 it [it, a] its.toArray.size (fun i v => its.toArray[i]? = some v) (fun i h => h.IsTupleIter it a i ∧ h.IsTuple a its.toArray) :=
      Draws.tuple (show X.A.in1.handled = none from I.ok.hd hc) it a hai its.toArray
    refine wpAny_pyNext_enum_itemD DD he ⟨hit, p1⟩ hlt hne (by simp [hne, hea]) fun u h' tk hu ho hst hT hsz hk => ?_
    have eu : u = u0 := by
      have z : its[i]? = some u := by simpa using hu
      rw [hu0] at z
      exact (Option.some.inj z).symm
    subst eu
    refine ⟨_, rfl, wpAny_letOwnedTupleGo_enum (s := { s with heap := h', toks := tk + 1 }) ho fun h'' he' sb => ?_⟩
    have hT2 : h''.get? s.heap.objs.size = some { cls := .type "tuple", data := .seq #[.int i tk, u] } := (sb.2 _ (Nat.ne_of_gt hel)).trans hT
    have new : ObjOk X.prog X.w (upd H s.heap.objs.size (.tup [.int (i : Nat), x])) h'' s.heap.objs.size (.tup [.int (i : Nat), x]) :=
      ⟨by show 2 ≤ sizeLine; decide, [.int i tk, u], .cons ⟨_, rfl⟩ (.cons ru0 .nil), ⟨_, hT2, rfl, _, rfl⟩⟩
    have I1 : Inv X pins σ (upd H s.heap.objs.size (.tup [.int (i : Nat), x])) { s with heap := h'', toks := tk + 1 } :=
      I.turnedNew (ch := [e, it]) (fun b ob hb q => (sb.2 b (fun z => hb (by simp [z]))).trans
        (hk b ob (fun z => hb (by simp [z])) (fun z => hb (by simp [z])) q)) hf (Nat.le_refl _) new
    refine ⟨.ref s.heap.objs.size, _, I1, rfl, ⟨_, x, rfl, I.hok.fresh (Nat.le_refl _), rfl, fun ys hy => ?_⟩,
      ⟨⟨u, ?_⟩, hst.1.at fun o q => (sb.2 it (Ne.symm hne)).trans q, hne⟩, fun b hb => ?_⟩
    · rw [I.tuple_inj hy hq]
      exact hx
    · have e1 : ((i + 1 : Nat) : Int) = (i : Int) + 1 := by omega
      rw [e1]
      exact he'
    · have hb' : b < s.heap.objs.size := by
        rcases (by simpa using hb : b = e ∨ b = it) with z | z
        · rw [z]
          exact hel
        · rw [z]
          exact hil
      rw [upd_ne (Nat.ne_of_lt hb')]
      exact (hf b hb).1
  done := by
    intro X hP hw hK hc i pins s σ H E I hf st hg
    subst hP hw hK
    obtain ⟨⟨old, he⟩, hit, hne⟩ := st
    obtain ⟨xs, hq, hx⟩ := hg
    obtain ⟨its, rv, p, hz⟩ := I.tuple hq
    have p1 : s.heap.IsTuple a its.toArray := p
    obtain ⟨f0, f1, f2, f3, f4, f5⟩ := hf it (by simp)
    have hl := rv.length
    have DD : Draws X.prog X.w X.A.in1 it [it, a] i (fun _ _ => True) (fun j h => j = i ∧ h.IsTupleIter it a i ∧ h.IsTuple a its.toArray) :=
      { live := fun _ _ st => let ⟨o, ho, _⟩ := st.2.1; ⟨o, ho⟩
        frame := fun _ _ _ st hk => ⟨st.1, st.2.1.at fun o e => hk it (by simp) o e, st.2.2.at fun o e => hk a (by simp) o e⟩
        item := fun j s Q E hj st hQ => absurd st.1 (by omega)
        done := fun s Q E st hE => wpAny_nextOf_tuple_end (show X.A.in1.handled = none from I.ok.hd hc) st.2.1 st.2.2 (by simp; omega) hE }
    exact wpAny_pyNext_enum_endD DD he ⟨rfl, hit, p1⟩ fun h' eb => ⟨rfl, I.turned (t' := s.toks) (fun b o hb q => eb b o hb q) f0 f1 f3 f4 f5⟩
  self := fun A i s Q E st h => by
    obtain ⟨⟨_, he⟩, _⟩ := st
    exact wpAny_pyIter_enum he h
def iEnumT (K : PySem.W.Frag) (ta : TA) : TI := fun σ H R => ta σ H fun vs H1 => ∃ a xs, vs = [.ref a] ∧ SqT K H1 a xs ∧ R (IteT K a) H1
theorem pi_enumT {X : Cx} {e : Expr} {ta : TA} {p pos tpos : Pos} {elts : List Expr} {kk : Nat} (hg : Gl X "enumerate") (hm : X.mg "enumerate" = none) (ha : PA X [e] ta)
    (hs : starEach [e] X.env = [(false, eval e X.env)] := by rfl) : PI X (.Tuple elts kk tpos) (.Call (.Name "enumerate" p) [e] [] pos) (iEnumT X.K ta) := by
  refine ⟨fun pins s σ H R I h => ?_⟩
  refine Call_ (ld_blt I hg hm boot_enumerate (PyProof.Rows.callWith_type1 (thn (ha.run pos pins s σ H _ I h) fun us s1 hh => ?_) hs rfl))
  obtain ⟨vs, H1, I1, r1, a, xs, ex, hq, q⟩ := hh
  subst ex
  cases r1 with
  | cons r rr =>
    cases rr
    cases r
    obtain ⟨its, rv, p1, hz⟩ := I1.tuple hq
    refine call_enumT (items := its.toArray) p1 fun h' he hit hk => wpAny_pyIter_enum he ?_
    have I2 : Inv X pins σ H1 { s1 with heap := h' } := I1.kept (t' := s1.toks) hk
    refine ⟨s1.heap.objs.size + 1, [s1.heap.objs.size + 1, s1.heap.objs.size], _, _, H1, rfl, I2, turn_enumT a (s1.heap.objs.size + 1) s1.heap.objs.size,
      ⟨⟨.none, he⟩, hit, Nat.succ_ne_self _⟩, fun b hb => ?_, q⟩
    have hle : s1.heap.objs.size ≤ b := by
      rcases (by simpa using hb : b = s1.heap.objs.size + 1 ∨ b = s1.heap.objs.size) with z | z
      · rw [z]
        exact Nat.le_succ _
      · rw [z]
        exact Nat.le_refl _
    exact I1.fpOk hle (I1.hok.fresh hle)
/-- a for over enumerate(t): Pv at each turn; the pair stands in a new tuple at T -/
theorem for_enumT {K : PySem.W.Frag} {a : Addr} {xs : List V} {g : TG} {tb : TS} {D : Ends} {σ : L2.St} {H : Hp} (Pv : Nat → L2.St → Hp → Prop) (h0 : Pv 0 σ H)
    (hl : ∀ i σ H, i ≤ xs.length → Pv i σ H → SqT K H a xs)
    (hs : ∀ i x σ H T, xs[i]? = some x → Pv i σ H → H T = none → g (.ref T) σ (upd H T (.tup [.int (i : Nat), x])) fun σ2 H2 => tb { D with nx := Pv (i + 1), ct := Pv (i + 1), bk := D.nx } σ2 H2)
    (hd : ∀ σ H, Pv xs.length σ H → D.nx σ H) :
    ∃ W : Nat → Nat → L2.St → Hp → Prop, (∃ m, W 0 m σ H) ∧ ∀ i m σ H, W i m σ H →
      ((IteT K a).stop i H ∧ D.nx σ H) ∨ ((IteT K a).go i H ∧ ∃ N : L2.St → Hp → Prop, (∀ σ' H', N σ' H' → ∃ m', m' < m ∧ W (i + 1) m' σ' H') ∧
        ∀ x H', (IteT K a).yld i H x H' → g x σ H' fun σ2 H2 => tb { D with nx := N, ct := N, bk := D.nx } σ2 H2) := by
  refine ⟨fun i m σ H => m = xs.length - i ∧ i ≤ xs.length ∧ Pv i σ H, ⟨xs.length, by simp, Nat.zero_le _, h0⟩, ?_⟩
  rintro i m σ H ⟨rfl, hi, p⟩
  have q := hl i σ H hi p
  by_cases hlt : i < xs.length
  · refine .inr ⟨⟨xs, xs[i], q, by simp [hlt]⟩, Pv (i + 1), fun σ' H' p' => ⟨xs.length - (i + 1), by omega, rfl, hlt, p'⟩, fun x H' y => ?_⟩
    obtain ⟨T, x1, rfl, nT, rfl, hx⟩ := y
    exact hs i x1 σ H T (hx _ q) p nT
  · have e : i = xs.length := by omega
    subst e
    exact .inl ⟨⟨xs, q, Nat.le_refl _⟩, hd σ H p⟩
end KS
namespace KS
open PySem PySem.Spec PyProof.Rows L2
/-! ### promises of defs that are only called where no repr is under way -/
structure FnG (P : Program) (w : World) (K : PySem.W.Frag) (mg : Str → Option Value) (base : Heap) (k : Nat) (f : Addr) (fd : FuncData) (ps : List Str) (sp : Sp) : Prop where
  len : ∀ vs H Q E, sp vs H Q E → vs.length = ps.length
  run : ∀ (A : Around) (outer : List Env) (s : Shared) (H : Hp) (args : Args) (us : List Value) (vs : List V) (Q : VK) (E : XK),
    Room k A → A.guards = some [] → Env0 P w K mg base A outer s H → BindsTo s fd args (ps.zip us) → Vals vs us → sp vs H Q E →
    codeAny (model P w) A (.call (.ref f) args) (CR CX0 outer P w H s Q E) s
section
variable {P : Program} {w : World} {K : PySem.W.Frag} {mg : Str → Option Value} {base : Heap}
theorem okG {x qual : Str} {st : Stmt} {f : Addr} {fd : FuncData} {N ps : List Str} {k : Nat} {sp : Sp} (F : Fun K x qual st f fd) (S : FnScope N ps (defScope st))
    (len : ∀ vs H Q E, sp vs H Q E → vs.length = ps.length)
    (hbody : ∀ (cdv : Value) (A : Around) (outer : List Env) (s : Shared) (H : Hp) (vs : List V) (Q : VK) (E : XK),
      Room k (A.deeper (envOfC qual (defScope st) s.heap.objs.size f cdv)) → A.guards = some [] → sp vs H Q E →
      ∃ t, PSs (cxOf CX0 P w K mg base N qual (defScope st) f cdv A outer s H E).nox (defBody st) t ∧ t { nx := fun _ H' => Q .non H', rt := Q } (start N vs) H) :
    FnG P w K mg base (k + 1) f fd ps sp := by
  obtain ⟨oc, od, kV, doc, pm, an, cdv, ct, osl, rfl, lk, hcd⟩ := F.ex
  refine ⟨len, fun A outer s H args us vs Q E hr hgd e0 hb r hsp => ?_⟩
  have hl := len _ _ _ _ hsp
  have kept : ∀ b o, base.get? b = some o → s.heap.get? b = some o := fun b o e => (e0.bs b o e).1
  have KX : K.In s.heap := e0.mod.kin.keeps kept
  have lim : s.heap.NoLimit := e0.mod.nolimit.keeps kept
  have hkind : ∀ y ∈ ps.zip us, (defScope st).names.lookup y.1 = some .local ∨
      ((defScope st).names.lookup y.1 = some .cell ∧ ((cellsFrom (s.heap.objs.size + 1) (defScope st).names []).lookup y.1).isSome = true) := by
    rintro ⟨n, v⟩ hy
    rcases S.par n (List.of_mem_zip hy).1 with q | q
    · left
      exact q
    · right
      exact ⟨q, PySem.W.cellsFrom_some _ _ _ (.inl q)⟩
  refine codeAny_call_function hr.depth (KX _ _ lk) rfl S.co S.gen rfl
    (PySem.W.codeRec_of KX hcd) (hb _ _ _ _ ?_)
  refine wpAny_newFunctionEnv_cells S.kind hkind fun env he s1 x => ?_
  subst he
  refine ⟨lim.keeps x.toInCall.keep, codeAny_func ?_⟩
  obtain ⟨t, ht0, hq⟩ := hbody cdv A outer s H vs Q E (hr.deeper _) hgd hsp
  have ht := ht0.nox
  have I := inv_start (CX := CX0) (E := E) (cd := cdv) (qual := qual) (f := f) S hr.hd e0 hl r x
  refine wpAny_mono (ht.run [] s1 (start N vs) H _ I hq) (fun fl s' hs => ?_)
    fun e s' hs => hs
  cases fl with
  | ret u =>
    obtain ⟨v, σ', H', J, rv, q⟩ := hs
    exact ⟨v, H', J.os, J.bare, J.base, J.hok, rv, q⟩
  | next =>
    obtain ⟨σ', H', J, q⟩ := hs
    exact ⟨V.non, H', J.os, J.bare, J.base, J.hok, rfl, q⟩
  | brk =>
    obtain ⟨_, _, _, q⟩ := hs
    cases q
  | cont =>
    obtain ⟨_, _, _, q⟩ := hs
    cases q
end
section
variable {X : Cx} {k : Nat} {f : Addr} {fd : FuncData} {ps : List Str} {sp : Sp} {x : Str} {p pos : Pos} {e : Expr} {es : List Expr} {t : TA}
theorem pe_callG (F : FnG X.prog X.w X.K X.mg X.base k f fd ps sp) (hr : Room k X.A) (hgd : X.A.guards = some []) (hg : Gl X x) (hm : X.mg x = some (.ref f))
    (hk : PySem.W.keepIn X.K (.ref f) = true) (hb : Binds X.K fd ps []) (ha : PA X (e :: es) t) (hdb : (x == ("__debug__" : Str)) = false := by decide)
    (he : starEach (e :: es) X.env = (false, eval e X.env) :: starEach es X.env := by rfl)
    (hpl : (backTo pos (starEach es X.env)).any (·.1) = false := by rfl) :
    PE X (.Call (.Name x p) (e :: es) [] pos) (tCall sp [] E0 t) := by
  refine ⟨fun pins s σ H Q I h => wpAny_Call_Name_kw (ld_glob I hg hm ?_ hdb)⟩
  refine PySem.W.callWith_K (h₀ := X.base) I.ok.mod.kin hk (thn (ha.run pos pins s σ H _ I h) fun us s1 hh => ?_) he hpl
  obtain ⟨vs, H1, I1, r, q⟩ := hh
  refine ⟨I1.kIn, ?_⟩
  have q1 : sp (vs ++ []) H1 Q E0 := q
  rw [List.append_nil] at q1
  have hl : (us ++ []).length = ps.length := by
    rw [List.append_nil, ← r.length]
    exact F.len _ _ _ _ q1
  have bb := hb s1 us I1.kIn hl
  rw [List.append_nil] at bb
  refine wpAny_call (codeAny_mono (F.run X.A X.stack s1 H1 ⟨us, []⟩ us vs Q E0 hr hgd I1.env0 bb r q1) fun z s' hq => ?_)
  cases z with
  | error e => cases hq
  | ok fl =>
    cases fl with
    | ret u => exact I1.after hq
    | next => cases hq
    | brk => cases hq
    | cont => cases hq
/-- repr(x), x a list or tuple of plain data, where no repr is under way -/
theorem call_reprD (hgd : X.A.guards = some []) (hu : X.A.units + 100 < cLine) : CallR X (.builtin "repr") (fun xs H Q => ∃ (a : Addr) (d : PyData), xs = [.ref a] ∧ Dp X.K H (.ref a) d ∧
    d.showable = true ∧ d.hasDict = false ∧ d.shown.length ≤ sizeLine ∧ d.depth ≤ 64 ∧ Q (.str d.shown) H) := by
  intro pins s σ H xs us Q I r h
  obtain ⟨a, d, rfl, hd, h1, h2, h3, h4, q⟩ := h
  rw [Vals.ref1 r]
  obtain ⟨as, R⟩ := Dp.reads I d (.ref a) (.ref a) hd rfl
  exact repr_of_reads' R h1 (PyData.noDict_hsm h2) hgd (by omega) (fun _ _ e => e) (fun h' u tk hk => ⟨.str d.shown, H, I.kept hk, ⟨u, rfl⟩, q⟩) h3
end
/-! ### the end of a row whose law has such a promise -/
theorem law_callG {P : Program} {w : World} {K : PySem.W.Frag} {mg mb : Str → Option Value} {k : Nat} {fa a : Addr} {fd : FuncData} {x : Str} {sp : Sp} {s₁ : Shared} {vs : List Value} {ns : List Int}
    (KX : K.In s₁.heap) (hns : s₁.heap.Ns mainGlobals mg) (hb : s₁.heap.Ns builtinsNs mb) (hbb : ∀ x : Str, x ≠ "__name__" → mb x = bootBuiltins x) (hlim : s₁.heap.NoLimit) (hg : s₁.gens = #[])
    (ha : s₁.heap.get? a = some { cls := .type "list", data := .seq vs.toArray }) (hi : IntsAre vs ns) (hl : ns.length ≤ sizeLine) (hr : Room k callerA)
    (F : ∀ base : Heap, K.In base → base.Ns mainGlobals mg → FnG P w K mg base k fa fd [x] sp)
    (hbind : ∀ (s : Shared) (u : Value), BindsTo s fd ⟨[u], []⟩ [(x, u)])
    (hsp : ∀ H : Hp, Only H → SqL K H a (ns.map V.int) → sp [.ref a] H (fun v _ => v = .bl true) fun _ _ _ => False) :
    codeAny (model P w) callerA (.call (.ref fa) ⟨[.ref a], []⟩)
      (fun r s' => r = .ok (.ret (.bool true)) ∧ OldK s₁.heap s'.heap ∧ s'.os = s₁.os ∧ AllBare s'.gens) s₁ := by
  have rv := vals_ints hi
  have lenV := hi.length
  have core : ∀ H : Hp, Only H → SqL K H a (ns.map V.int) → HOk P w H s₁.heap → (∀ b, H b ≠ none → b = a) → (H a ≠ none → K.lookup a = none) →
      codeAny (model P w) callerA (.call (.ref fa) ⟨[.ref a], []⟩)
        (fun r s' => r = .ok (.ret (.bool true)) ∧ OldK s₁.heap s'.heap ∧ s'.os = s₁.os ∧ AllBare s'.gens) s₁ := by
    intro H hO hS hok hA hK
    have only_a : ∀ {b : Addr} {u : HO}, H b = some u → b = a := fun {b u} q => hA b (by
      rw [q]
      simp)
    have noA : ∀ {b : Addr} {o : Obj} {es : Array DictEntry} {ep : Nat}, s₁.heap.get? b = some o → o.data = .dict es ep → H b = none := by
      intro b o es ep e d
      cases q : H b with
      | none => rfl
      | some u =>
        have e' := only_a q
        subst e'
        rw [ha] at e
        cases e
        have d' : Data.seq vs.toArray _ = Data.dict es ep := d
        cases d'
    have nsK : ∀ {b : Addr} {m : Str → Option Value}, s₁.heap.Ns b m → (hidT s₁.heap H).Ns b m := by
      rintro b m ⟨o, es, ep, e, d, r⟩
      exact ⟨o, es, ep, hidT_get e (noA e d), d, r⟩
    have hKb : K.In (hidT s₁.heap H) := by
      intro b o e
      refine hidT_get (KX b o e) ?_
      cases q : H b with
      | none => rfl
      | some u =>
        have e' := only_a q
        subst e'
        rw [hK (by rw [q]; simp)] at e
        cases e
    have hM : Mod K mg (hidT s₁.heap H) := by
      obtain ⟨mc, h1, h2⟩ := hlim
      exact ⟨hKb, nsK hns, ⟨mb, nsK hb, hbb⟩, ⟨mc, nsK h1, h2⟩⟩
    have e0 : Env0 P w K mg (hidT s₁.heap H) callerA [] s₁ H :=
      ⟨rfl, hM, fun b o e => of_hidT e, Nat.le_of_eq (hidT_size _ _), trivial,
        fun b hb => absurd (show b ∈ ([] : List Addr) from hb) (by simp), hok, .of_eq hg⟩
    have go := (F _ hKb (nsK hns)).run callerA [] s₁ H ⟨[.ref a], []⟩ [.ref a] [.ref a] _ _ hr rfl e0 (hbind s₁ (.ref a)) (.cons rfl .nil) (hsp H hO hS)
    refine codeAny_mono go fun r s' h => ?_
    cases r with
    | error e => cases h
    | ok fl =>
      cases fl with
      | next => cases h
      | brk => cases h
      | cont => cases h
      | ret u =>
        obtain ⟨v, H', os, bare, un, hok', r', q⟩ := h
        have q' : v = .bl true := q
        subst q'
        obtain rfl : u = Value.bool true := r'
        refine ⟨rfl, OldK.of_keep fun b o e => ?_, os, bare⟩
        cases q : H b with
        | none =>
          exact un.keep b o e q (fun z => absurd (show b ∈ ([] : List Addr) from z) (by simp)) (by simp)
        | some u =>
          rcases hO b with z | ⟨ob, xs, z⟩
          · rw [q] at z
            cases z
          · obtain ⟨e1, _⟩ := hok b _ z
            obtain ⟨e2, _⟩ := hok' b _ (un.frzs b ob _ z)
            rw [e] at e1
            cases e1
            exact e2
  cases hk : K.lookup a with
  | some o =>
    have e := KX a o hk
    rw [ha] at e
    cases e
    have sq : SqL K (fun _ => none) a (ns.map V.int) :=
      .inr ⟨_, vs.toArray, _, hk, rfl, rfl, rfl, by rw [List.size_toArray, lenV]; exact hl, by simpa using rv⟩
    exact core (fun _ => none) (fun _ => .inl rfl) sq (fun b u z => by cases z) (fun b z => absurd rfl z) fun z => absurd rfl z
  | none =>
    refine core (fun b => if b = a then some (.frz { cls := .type "list", data := .seq vs.toArray } (.lst (ns.map V.int))) else none)
      (fun b => ?_) (.inl (.inr ⟨{ cls := .type "list", data := .seq vs.toArray }, if_pos rfl⟩)) (fun b u z => ?_) (fun b z => ?_) fun _ => hk
    · by_cases hb : b = a
      · exact .inr ⟨_, _, if_pos hb⟩
      · exact .inl (if_neg hb)
    · by_cases hb : b = a
      · have z' := (if_pos hb).symm.trans z
        cases z'
        subst hb
        exact ⟨ha, by rw [List.length_map]; exact hl, vs, _, rv, ha⟩
      · have z' := (if_neg hb).symm.trans z
        cases z'
    · by_cases hb : b = a
      · exact hb
      · exact absurd (if_neg hb) z
theorem walk_ofG {l : PySem.W.OpenLaw} {n k : Nat} {q : Program} {loose : List Str} {XP : (Str → Option Value) → Heap → Prop} {YP : World → Heap → Prop} {d : DefRec} {K : Params → PySem.W.Frag} {sp : World → Sp} {x : Str}
    (hn : l.most = some n) (hn2 : n ≤ sizeLine) (hdf : d.params.defaults = []) (hr : Room k callerA) (hY : ∀ (w : World) (h : Heap), YP w h → (K w.params).In h)
    (F : ∀ (w : World) (mg : Str → Option Value) (fa : Addr) (h : Heap), (K w.params).In h → h.Ns mainGlobals mg → mg d.name = some (.ref fa) →
      ∃ fd : FuncData, (∀ (s : Shared) (u : Value), BindsTo s fd ⟨[u], []⟩ [(x, u)]) ∧
        ∀ base : Heap, (K w.params).In base → base.Ns mainGlobals mg → FnG l.prog w (K w.params) mg base k fa fd [x] (sp w))
    (hsp : ∀ (w : World) (H : Hp) (a : Addr) (ns : List Int), ns.length ≤ n → Only H → SqL (K w.params) H a (ns.map V.int) →
      sp w [.ref a] H (fun v _ => v = .bl true) fun _ _ _ => False) :
    PySem.W.WalkO q loose XP YP l.row.toRowW d [] (fun f vs => PySem.call f vs) := by
  refine Att.attach_call hn hdf fun w s₀ s₁ mg mb fa o pm cd doc a vs ns G Y ho hd hcd hmg hobj hints hlen hg => ?_
  obtain ⟨fd, hb, hF⟩ := F w mg fa _ (hY w _ Y) G.T.g hmg
  exact law_callG (hY w _ Y) G.T.g G.T.b G.T.builtins G.T.nolimit hg hobj hints (Nat.le_trans hlen hn2) hr hF hb
    (fun H hO hS => hsp w H a ns hlen hO hS)
end KS
namespace KS
open PySem PySem.Spec PyProof.Rows L2
/-! ### cells and plans -/
abbrev Cell := Int × Int
def CellAt (K : PySem.W.Frag) (H : Hp) (x : V) (c : Cell) : Prop := ∃ t, x = .ref t ∧ SqT K H t [.int c.1, .int c.2]
abbrev CellsAt (K : PySem.W.Frag) (H : Hp) : List V → List Cell → Prop := Paired (CellAt K H)
def lt2 (a b : Cell) : Prop := a.1 < b.1 ∨ (a.1 = b.1 ∧ a.2 < b.2)
def InGrid (c : Cell) : Prop := 0 ≤ c.1 ∧ c.1 ≤ 7 ∧ 0 ≤ c.2 ∧ c.2 ≤ 7
structure Good (cs : List Cell) : Prop where
  asc : cs.Pairwise lt2
  grid : ∀ c ∈ cs, InGrid c
  ne : cs ≠ []
/-- tuples are kept -/
def KT (K : PySem.W.Frag) (H H' : Hp) : Prop := ∀ a xs, SqT K H a xs → SqT K H' a xs
section
variable {K : PySem.W.Frag} {H H1 H2 H' : Hp}
theorem KT.trans (a : KT K H H1) (b : KT K H1 H2) : KT K H H2 := fun x xs h => b x xs (a x xs h)
theorem KT.of_same (a : Same H H1) : KT K H H1 := fun _ _ h => same_seqT a h
theorem KT.of_keepX {p : Addr} (hp : PoolO (H p)) (a : KeepX p H H1) : KT K H H1 := fun _ _ h => keepX_seqT hp a h
theorem KT.upd {e : Addr} {ys : List V} {o : HO} (h : H e = some (.lst ys)) : KT K H (upd H e o) := fun a xs q => by
  rcases q with (q | ⟨ob, q⟩) | q
  · exact .inl (.inl (by rw [upd_ne (ne_of q h (by intro z; cases z))]; exact q))
  · exact .inl (.inr ⟨ob, by rw [upd_ne (ne_of q h (by intro z; cases z))]; exact q⟩)
  · exact .inr q
theorem CellAt.kt {x : V} {c : Cell} (k : KT K H H') (h : CellAt K H x c) : CellAt K H' x c := by
  obtain ⟨t, e, q⟩ := h
  exact ⟨t, e, k _ _ q⟩
theorem cells_kt {xs : List V} {cs : List Cell} (k : KT K H H') (h : CellsAt K H xs cs) : CellsAt K H' xs cs := Paired.mono (fun _ _ q => q.kt k) h
end
theorem paired_append {α β : Type} {F : α → β → Prop} : ∀ {l₁ l₁' : List α} {l₂ l₂' : List β}, Paired F l₁ l₂ → Paired F l₁' l₂' → Paired F (l₁ ++ l₁') (l₂ ++ l₂')
  | _, _, _, _, .nil, h => h
  | _, _, _, _, .cons r t, h => .cons r (paired_append t h)
theorem paired_get {α β : Type} {F : α → β → Prop} : ∀ {l₁ : List α} {l₂ : List β} {i : Nat} {x : α}, Paired F l₁ l₂ → l₁[i]? = some x → ∃ y, l₂[i]? = some y ∧ F x y
  | _, _, _, _, .nil, h => by simp at h
  | _, _, 0, _, .cons r t, h => by
    simp at h
    subst h
    exact ⟨_, rfl, r⟩
  | _, _, i + 1, _, .cons r t, h => by
    simp at h
    obtain ⟨y, e, f⟩ := paired_get t h
    exact ⟨y, by simpa using e, f⟩
theorem paired_erase {α β : Type} {F : α → β → Prop} : ∀ {l₁ : List α} {l₂ : List β} (i : Nat), Paired F l₁ l₂ → Paired F (l₁.eraseIdx i) (l₂.eraseIdx i)
  | _, _, _, .nil => .nil
  | _, _, 0, .cons r t => t
  | _, _, i + 1, .cons r t => .cons r (paired_erase i t)
/-- the cells of one row -/
def rowCells (r c : Int) (n : Nat) : List Cell := (List.range n).map fun (s : Nat) => (r, c + (s : Int))
theorem rowCells_succ (r c : Int) (n : Nat) : rowCells r c (n + 1) = rowCells r c n ++ [(r, c + (n : Int))] := by
  unfold rowCells
  rw [List.range_succ, List.map_append]
  rfl
theorem rowCells_mem {r c : Int} {n : Nat} {x : Cell} (h : x ∈ rowCells r c n) : x.1 = r ∧ c ≤ x.2 ∧ x.2 < c + n := by
  unfold rowCells at h
  obtain ⟨s, hs, rfl⟩ := List.mem_map.mp h
  have := List.mem_range.mp hs
  refine ⟨rfl, ?_, ?_⟩ <;> show _ <;> simp <;> omega
theorem rowCells_asc (r c : Int) : ∀ n : Nat, (rowCells r c n).Pairwise lt2
  | 0 => List.Pairwise.nil
  | n + 1 => by
    rw [rowCells_succ, List.pairwise_append]
    refine ⟨rowCells_asc r c n, List.pairwise_singleton _ _, fun a ha b hb => ?_⟩
    obtain ⟨e1, e2, e3⟩ := rowCells_mem ha
    rw [List.mem_singleton] at hb
    subst hb
    exact .inr ⟨e1, e3⟩
theorem rowCells_len (r c : Int) (n : Nat) : (rowCells r c n).length = n := by
  unfold rowCells
  rw [List.length_map, List.length_range]
def PlanAt (K : PySem.W.Frag) (H : Hp) (a : Addr) (cs : List Cell) : Prop := ∃ xs, SqT K H a xs ∧ CellsAt K H xs cs
theorem PlanAt.kt {K : PySem.W.Frag} {H H' : Hp} {a : Addr} {cs : List Cell} (k : KT K H H') (h : PlanAt K H a cs) : PlanAt K H' a cs := by
  obtain ⟨xs, h1, h2⟩ := h
  exact ⟨xs, k _ _ h1, cells_kt k h2⟩
def spPlan (K : PySem.W.Frag) : Sp := fun vs H Q _ => ∃ (p : Addr) (m : Int), vs = [.ref p, .int m] ∧ PoolO (H p) ∧ 1 ≤ m ∧ m ≤ 24 ∧
  ∀ H' a cs, KeepX p H H' → PoolO (H' p) → PlanAt K H' a cs → Good cs → (cs.length : Int) ≤ m → H a = none → Q (.ref a) H'
/-- where _law_plan stands behind its first loop -/
structure PlSt (K : PySem.W.Frag) (p : Addr) (H : Hp) (m mode wide high top left : Int) (σ : L2.St) (H' : Hp) : Prop where
  ex : ∃ (e : Addr) (xs : List V) (cs : List Cell) (y8 y9 y10 : Option V),
    σ = [some (.ref p), some (.int m), some (.int mode), some (.int wide), some (.int high), some (.int top), some (.int left), some (.ref e), y8, y9, y10, none, none] ∧
    H e = none ∧ e ≠ p ∧ H' e = some (.lst xs) ∧ CellsAt K H' xs cs ∧ Good cs ∧ cs.length ≤ 64
  kx : KeepX p H H'
  po : PoolO (H' p)
/-- every = [spot for spot in every if ..] or every -/
def tFil (K : PySem.W.Frag) (tc : TT) : TS := tAsg (tOrT K (tLc (iList K (tVar 7)) (gName 12) tc (tVar 12) [12]) (tVar 7)) (gName 7)
theorem small64 {n : Nat} (h : n ≤ 64) : n < sizeLine := by
  rw [sizeLine_eq]
  omega
theorem fil_ok {K : PySem.W.Frag} {p : Addr} {H : Hp} {m mode wide high top left : Int} {tc : TT} {D : Ends} {σ : L2.St} {H' : Hp} (h : PlSt K p H m mode wide high top left σ H')
    (htc : ∀ (t : Addr) (c : Cell) (H2 : Hp) (R : Bool → Hp → Prop), SqT K H2 t [.int c.1, .int c.2] → PoolO (H2 p) → (∀ b H3, KeepX p H2 H3 → PoolO (H3 p) → R b H3) → tc (σ.set 12 (some (.ref t))) H2 R)
    (k : ∀ σ' H'', PlSt K p H m mode wide high top left σ' H'' → D.nx σ' H'') : tFil K tc D σ H' := by
  obtain ⟨⟨e, xs, cs, y8, y9, y10, rfl, he0, hep, he, hc, gd, hl⟩, kx, po⟩ := h
  have hlen := Paired.length hc
  refine ⟨_, rfl, e, rfl, ⟨_, SqL.of he⟩, fun d nd => ?_⟩
  have ned : e ≠ d := ne_of_none he nd
  have npd : p ≠ d := po.ne nd
  refine lc_list (K := K) (a := e) (xs := xs) (fun i H2 => ∃ (acc : List V) (cs' : List Cell), H2 d = some (.lst acc) ∧ CellsAt K H2 acc cs' ∧ cs'.Sublist (cs.take i) ∧
    KeepX p H H2 ∧ PoolO (H2 p) ∧ H2 e = some (.lst xs) ∧ CellsAt K H2 xs cs) ?_ ?_ ?_ ?_
  · have s1 := same_new (o := .lst []) nd
    refine ⟨[], [], upd_same, .nil, List.nil_sublist _, kx.trans (.of_same s1), po.same s1, s1 _ _ he, cells_kt (.of_same s1) hc⟩
  · rintro i H2 _ ⟨acc, cs', _, _, _, _, _, h6, _⟩
    exact SqL.of h6
  · rintro i x H2 hi ⟨acc, cs', h1, h2, h3, h4, h5, h6, h7⟩
    obtain ⟨c, hci, t, rfl, ht⟩ := paired_get h7 hi
    have hlt : i < cs.length := (List.getElem?_eq_some_iff.mp hci).1
    have tk : cs.take (i + 1) = cs.take i ++ [c] := by
      rw [List.take_add_one, hci]
      rfl
    refine ⟨rfl, htc t c H2 _ ht h5 (fun b H3 k3 p3 => ?_)⟩
    have q3 : KT K H2 H3 := KT.of_keepX h5 k3
    have hd3 : H3 d = some (.lst acc) := k3 _ _ (Ne.symm npd) h1
    have he3 : H3 e = some (.lst xs) := k3 _ _ hep h6
    have hal : acc.length ≤ 64 := by
      rw [Paired.length h2]
      exact Nat.le_trans h3.length_le (by rw [List.length_take]; omega)
    refine ite2 (fun _ => ?_) (fun _ => ?_)
    · refine ⟨_, rfl, acc, hd3, small64 hal, acc ++ [.ref t], cs' ++ [c], upd_same, ?_, ?_, ?_, ?_, ?_, ?_⟩
      · exact cells_kt (q3.trans (KT.upd hd3)) (paired_append h2 (.cons ⟨t, rfl, ht⟩ .nil))
      · rw [tk]
        exact List.Sublist.append h3 (List.Sublist.refl _)
      · intro b o n e2
        rw [upd_ne (fun z => by
          subst z
          have q := kx b o n e2
          rw [nd] at q
          cases q)]
        exact k3 _ _ n (h4 _ _ n e2)
      · rw [upd_ne npd]
        exact p3
      · rw [upd_ne ned]
        exact he3
      · exact cells_kt (q3.trans (KT.upd hd3)) h7
    · refine ⟨acc, cs', hd3, cells_kt q3 h2, ?_, h4.trans k3, p3, he3, cells_kt q3 h7⟩
      rw [tk]
      exact List.Sublist.trans h3 (List.sublist_append_left _ _)
  · rintro H2 ⟨acc, cs', h1, h2, h3, h4, h5, h6, h7⟩
    have h3' : cs'.Sublist cs := List.Sublist.trans h3 (List.take_sublist _ _)
    refine ⟨!acc.isEmpty, .inl ⟨acc, SqL.of h1, rfl⟩, ite2 (fun e1 => ?_) (fun e1 => ?_)⟩
    · refine k _ _ ⟨⟨d, acc, cs', y8, y9, y10, rfl, ?_, Ne.symm npd, h1, h2, ⟨gd.asc.sublist h3', fun c hc => gd.grid c (h3'.subset hc), ?_⟩, Nat.le_trans h3'.length_le hl⟩, h4, h5⟩
      · cases q : H d with
        | none => rfl
        | some o =>
          have z := kx d o (Ne.symm npd) q
          rw [nd] at z
          cases z
      · intro z
        subst z
        cases h2
        cases e1
    · exact ⟨_, rfl, k _ _ ⟨⟨e, xs, cs, y8, y9, y10, rfl, he0, hep, h6, h7, gd, hl⟩, h4, h5⟩⟩
end KS
namespace KS
open PySem PySem.Spec PyProof.Rows L2
abbrev tDr (tm : TE) : TE := tCall spDraw [] E0 (tCons (tVar 0) (tCons tm tNil))
abbrev rAdd : V → V → Hp → VK → Prop := rI0 fun i j => .int (i + j)
/-- if mode == 2: high, wide = 1 + draw(pool, 8), 1 + draw(pool, 8) -/
theorem par_if {p : Addr} {m mode wide high : Int} {σr : L2.St} {H2 : Hp} {D : Ends} (po : PoolO (H2 p)) (hw : 1 ≤ wide ∧ wide ≤ 8) (hh : 1 ≤ high ∧ high ≤ 8)
    (k : ∀ (wide' high' : Int) (H3 : Hp), KeepX p H2 H3 → PoolO (H3 p) → 1 ≤ wide' ∧ wide' ≤ 8 → 1 ≤ high' ∧ high' ≤ 8 → D.nx (some (.ref p) :: some (.int m) :: some (.int mode) :: some (.int wide') :: some (.int high') :: σr) H3) :
    tIfS (tTest (tOp rEq (tVar 2) (tC (.int 2)))) (tPar 4 3 (tCons (tOp rAdd (tC (.int 1)) (tDr (tC (.int 8)))) (tCons (tOp rAdd (tC (.int 1)) (tDr (tC (.int 8)))) tNil))) tNext D
      (some (.ref p) :: some (.int m) :: some (.int mode) :: some (.int wide) :: some (.int high) :: σr) H2 := by
  refine ⟨_, rfl, rfl, _, rfl, ite2 (fun e => ?_) (fun e => ?_)⟩
  · refine ⟨_, rfl, p, 8, rfl, po, by decide, by decide, fun H3 a k3 po3 a0 a1 => ?_⟩
    refine ⟨_, _, rfl, rfl, _, rfl, p, 8, rfl, po3, by decide, by decide, fun H4 b k4 po4 b0 b1 => ?_⟩
    exact ⟨_, _, rfl, rfl, _, _, rfl, k (1 + b) (1 + a) H4 (k3.trans k4) po4 ⟨by omega, by omega⟩ ⟨by omega, by omega⟩⟩
  · exact k wide high H2 (KeepX.refl _ _) po hw hh
/-- if mode == n: every = [spot for spot in every if ..] or every -/
theorem fil_if {K : PySem.W.Frag} {p : Addr} {H : Hp} {m mode wide high top left n : Int} {tc : TT} {D : Ends} {σ : L2.St} {H' : Hp} (h : PlSt K p H m mode wide high top left σ H')
    (htc : ∀ (t : Addr) (c : Cell) (H2 : Hp) (R : Bool → Hp → Prop), SqT K H2 t [.int c.1, .int c.2] → PoolO (H2 p) → (∀ b H3, KeepX p H2 H3 → PoolO (H3 p) → R b H3) → tc (σ.set 12 (some (.ref t))) H2 R)
    (k : ∀ σ' H'', PlSt K p H m mode wide high top left σ' H'' → D.nx σ' H'') : tIfS (tTest (tOp rEq (tVar 2) (tC (.int n)))) (tFil K tc) tNext D σ H' := by
  obtain ⟨e, xs, cs, y8, y9, y10, es, rest⟩ := h.ex
  refine ⟨.int mode, by rw [es]; rfl, rfl, _, rfl, ite2 (fun e => ?_) (fun e => ?_)⟩
  · exact fil_ok h htc k
  · exact k _ _ h
theorem draw_test {K : PySem.W.Frag} {p : Addr} {H : Hp} {m mode wide high top left n : Int} {σ : L2.St} {H' : Hp} (h : PlSt K p H m mode wide high top left σ H') (n0 : 0 < n) (n1 : n < 1073741824)
    (t : Addr) (c : Cell) (H2 : Hp) (R : Bool → Hp → Prop) (ht : SqT K H2 t [.int c.1, .int c.2]) (po : PoolO (H2 p)) (k : ∀ b H3, KeepX p H2 H3 → PoolO (H3 p) → R b H3) :
    tTest (tOp (rI0 fun i j => .bl (decide (i > j))) (tDr (tC (.int n))) (tC (.int 0))) (σ.set 12 (some (.ref t))) H2 R := by
  obtain ⟨e, xs, cs, y8, y9, y10, es, rest⟩ := h.ex
  subst es
  exact ⟨_, rfl, p, n, rfl, po, n0, n1, fun H3 r k3 po3 r0 r1 => ⟨_, _, rfl, rfl, _, rfl, k _ _ k3 po3⟩⟩
end KS
namespace KS
open PySem PySem.Spec PyProof.Rows L2
abbrev rSub : V → V → Hp → VK → Prop := rI0 fun i j => .int (i - j)
abbrev rLe : V → V → Hp → VK → Prop := rI0 fun i j => .bl (decide (i ≤ j))
theorem fil3_if {K : PySem.W.Frag} {p : Addr} {H : Hp} {m mode wide high top left : Int} {D : Ends} {σ : L2.St} {H' : Hp} (h : PlSt K p H m mode wide high top left σ H')
    (k : ∀ σ' H'', PlSt K p H m mode wide high top left σ' H'' → D.nx σ' H'') :
    tIfS (tTest (tOp rEq (tVar 2) (tC (.int 3)))) (tSeq (tAsg (tOp rAdd (tOp rAdd (tVar 5) (tVar 6)) (tDr (tC (.int 4)))) (gName 9))
      (tSeq (tAsg (tOp rSub (tOp rSub (tOp rAdd (tOp rAdd (tOp rAdd (tVar 5) (tVar 6)) (tVar 4)) (tVar 3)) (tC (.int 2))) (tDr (tC (.int 4)))) (gName 10))
      (tFil K (tTest (tChain rLe rLe (tVar 9) (tCB (rSumT K) (tCons (tVar 12) tNil)) (tVar 10)))))) tNext D σ H' := by
  obtain ⟨⟨e, xs, cs, y8, y9, y10, rfl, he0, hep, he, hc, gd, hl⟩, kx, po⟩ := id h
  refine ⟨_, rfl, rfl, _, rfl, ite2 (fun e => ?_) (fun e => ?_)⟩
  · refine ⟨_, rfl, _, rfl, _, _, rfl, rfl, _, rfl, p, 4, rfl, po, by decide, by decide, fun H1 a k1 po1 _ _ => ⟨_, _, rfl, rfl, ?_⟩⟩
    refine ⟨_, rfl, _, rfl, _, _, rfl, rfl, _, rfl, _, _, rfl, rfl, _, rfl, _, _, rfl, rfl, _, _, rfl, rfl, _, rfl, p, 4, rfl, po1, by decide, by decide, fun H2 b k2 po2 _ _ => ⟨_, _, rfl, rfl, ?_⟩⟩
    have k12 := k1.trans k2
    refine fil_ok (p := p) (H := H) (m := m) (mode := mode) (wide := wide) (high := high) (top := top) (left := left)
      ⟨⟨_, xs, cs, y8, _, _, rfl, he0, hep, k12 _ _ hep he, cells_kt (KT.of_keepX po k12) hc, gd, hl⟩, kx.trans k12, po2⟩ (fun t c H3 R ht p3 kk => ?_) k
    refine ⟨_, rfl, _, rfl, t, [c.1, c.2], rfl, ht, _, _, rfl, rfl, _, rfl, ite2 (fun e1 => ?_) (fun e1 => ?_)⟩
    · exact ⟨_, rfl, _, _, rfl, rfl, _, rfl, kk _ _ (KeepX.refl _ _) p3⟩
    · exact ⟨_, rfl, kk _ _ (KeepX.refl _ _) p3⟩
  · exact k _ _ h
end KS
namespace KS
open PySem PySem.Spec PyProof.Rows L2
theorem tyx_tup {K : PySem.W.Frag} {H : Hp} {a : Addr} {xs : List V} (h : SqT K H a xs) : TyX K H (.ref a) (.type "tuple") := by
  rcases h with (h | ⟨o, h⟩) | h
  · exact .base (.tup h)
  · exact .fTuple h
  · obtain ⟨o, its, n, e, c, r⟩ := h
    exact .kTuple e c
theorem bl_true {p : Prop} [Decidable p] (h : p) : V.bl (decide p) = V.bl true := by rw [decide_eq_true h]
theorem bl_false {p : Prop} [Decidable p] (h : ¬ p) : V.bl (decide p) = V.bl false := by rw [decide_eq_false h]
/-- a number of a row or column -/
def Place (v : Int) : Prop := 0 ≤ v ∧ v ≤ 7
def spWhole : Sp := fun vs H Q _ => ∃ i : Int, vs = [.int i] ∧ Q (.bl true) H
def spBetween : Sp := fun vs H Q _ => ∃ i lo hi : Int, vs = [.int i, .int lo, .int hi] ∧ lo ≤ i ∧ i ≤ hi ∧ Q (.bl true) H
def spPlace : Sp := fun vs H Q _ => ∃ i : Int, vs = [.int i] ∧ Place i ∧ Q (.bl true) H
def spIsCell (K : PySem.W.Frag) : Sp := fun vs H Q _ => ∃ (a : Addr) (c : Cell), vs = [.ref a] ∧ SqT K H a [.int c.1, .int c.2] ∧ InGrid c ∧ Q (.bl true) H
def spCheck (K : PySem.W.Frag) : Sp := fun vs H Q _ => ∃ (a : Addr) (cs : List Cell), vs = [.ref a] ∧ PlanAt K H a cs ∧ Good cs ∧ cs.length ≤ 24 ∧ ∀ H', Same H H' → Q .non H'
theorem good_step {cs : List Cell} (g : cs.Pairwise lt2) {i : Nat} {a b : Cell} (h1 : cs[i]? = some a) (h2 : cs[i + 1]? = some b) : lt2 a b := by
  obtain ⟨l1, e1⟩ := List.getElem?_eq_some_iff.mp h1
  obtain ⟨l2, e2⟩ := List.getElem?_eq_some_iff.mp h2
  have := (List.pairwise_iff_getElem.mp g) i (i + 1) l1 l2 (by omega)
  rw [e1, e2] at this
  exact this
theorem not_le2 {a b : Cell} (h : lt2 a b) : Ob.lexAt (fun j => decide (([b.1, b.2] : List Int).getD j 0 = ([a.1, a.2] : List Int).getD j 0)) (fun j => decide (([b.1, b.2] : List Int).getD j 0 ≤ ([a.1, a.2] : List Int).getD j 0)) (decide (([b.1, b.2] : List Int).length ≤ ([a.1, a.2] : List Int).length)) 0 (min ([b.1, b.2] : List Int).length ([a.1, a.2] : List Int).length) = false := by
  show Ob.lexAt _ _ _ 0 2 = false
  rw [Ob.lexAt_succ, Ob.lexAt_succ]
  show (if decide (b.1 = a.1) = true then (if decide (b.2 = a.2) = true then _ else decide (b.2 ≤ a.2)) else decide (b.1 ≤ a.1)) = false
  rcases h with h | ⟨h1, h2⟩
  · rw [if_neg (by simp; omega)]
    simp
    omega
  · rw [if_pos (by simp; omega), if_neg (by simp; omega)]
    simp
    omega
end KS
namespace KS
open PySem PySem.Spec PyProof.Rows L2
/-! ### f(k = v, ..), keywords alone -/
structure KwBinds (fd : FuncData) (ps ks : List Str) (g : List Value → List Value) (gV : List V → List V) : Prop where
  to : ∀ (s : Shared) (ws : List Value), (g ws).length = ps.length → BindsTo s fd ⟨[], ks.zip ws⟩ (ps.zip (g ws))
  rel : ∀ {zs : List V} {ws : List Value}, Vals zs ws → Vals (gV zs) (g ws)
def tCallKw (sp : Sp) (gV : List V → List V) (E : XK) (tk : TA) : TE := fun σ H Q => tk σ H fun zs H2 => sp (gV zs) H2 Q E
section
variable {X : Cx} {CX : CXT} {k : Nat} {f : Addr} {fd : FuncData} {ps ks : List Str} {sp : Sp} {E : XK} {x : Str} {p pos : Pos} {kws : List Keyword} {tk : TA} {g : List Value → List Value} {gV : List V → List V}
theorem pe_callKw (F : FnOk X.prog X.w X.K X.mg X.base CX k f fd ps sp) (hr : Room k X.A) (hg : Gl X x) (hm : X.mg x = some (.ref f)) (hk : PySem.W.keepIn X.K (.ref f) = true) (hb : KwBinds fd ps ks g gV)
    (hx : Passes CX X E) (hkw : PK X kws tk) (hall : (backToKw pos (keywordEach kws X.env)).all (·.1.isSome) = true := by rfl)
    (hks : (backToKw pos (keywordEach kws X.env)).filterMap (·.1) = ks := by rfl) (hdb : (x == ("__debug__" : Str)) = false := by decide)
    (hpl : ((backTo pos (starEach [] X.env)).any (·.1) || (backToKw pos (keywordEach kws X.env)).any (·.1.isNone)) = false := by rfl) :
    PE X (.Call (.Name x p) [] kws pos) (tCallKw sp gV E tk) := by
  refine ⟨fun pins s σ H Q I h => wpAny_Call_Name_kw (ld_glob I hg hm ?_ hdb)⟩
  refine PySem.W.callWith_KW0 (h₀ := X.base) I.ok.mod.kin hk hall ?_ hpl
  refine thn (hkw.run pos pins s σ H _ I h) fun ws s2 hh => ?_
  obtain ⟨zs, H2, I2, rz, q2⟩ := hh
  refine ⟨I2.kIn, ?_⟩
  rw [hks]
  have r2 := hb.rel rz
  have hl : (g ws).length = ps.length := by
    rw [← r2.length]
    exact F.len _ _ _ _ q2
  show wpAny _ _ (call (.ref f) [] (ks.zip ws)) _ _ _
  refine wpAny_call (codeAny_mono (F.run X.A X.stack s2 H2 ⟨[], ks.zip ws⟩ (g ws) (gV zs) Q E hr I2.env0 (hb.to s2 ws hl) r2 q2) fun z s' hq => ?_)
  cases z with
  | error e => exact hx pins σ H2 s2 e s' I2 hq
  | ok fl =>
    cases fl with
    | ret u => exact I2.after hq
    | next => cases hq
    | brk => cases hq
    | cont => cases hq
end
theorem kw_binds {K : PySem.W.Frag} {x qual : Str} {st : Stmt} {f : Addr} {fd : FuncData} {ps ks : List Str} {g : List Value → List Value} {gV : List V → List V} (F : Fun K x qual st f fd)
    (h : ∀ (kV doc pm : Value) (an : Option Addr) (cdv ct : Value) (ws : List Value), (g ws).length = ps.length →
      bindArgs (PySem.W.fnOf x qual (defArgs st) (defBody st) (defScope st) .none kV doc pm an cdv ct) ⟨[], ks.zip ws⟩ = pure (ps.zip (g ws)))
    (rel : ∀ {zs : List V} {ws : List Value}, Vals zs ws → Vals (gV zs) (g ws)) : KwBinds fd ps ks g gV := by
  obtain ⟨oc, od, kV, doc, pm, an, cdv, ct, osl, rfl, lk, hcd⟩ := F.ex
  exact ⟨fun s ws hl => .of_eq (h kV doc pm an cdv ct ws hl), rel⟩
/-- two keywords, in the other order -/
def swap2 {α : Type} : List α → List α
  | [a, b] => [b, a]
  | _ => []
theorem swap2_rel {zs : List V} {ws : List Value} (r : Vals zs ws) : Vals (swap2 zs) (swap2 ws) := by
  cases r with
  | nil => exact .nil
  | cons r1 r2 =>
    cases r2 with
    | nil => exact .nil
    | cons r3 r4 =>
      cases r4 with
      | nil => exact .cons r3 (.cons r1 .nil)
      | cons _ _ => exact .nil
/-! ### lines, as numbers -/
/-- row (false) or column (true) of a cell -/
def pick (b : Bool) (c : Cell) : Int := if b = true then c.2 else c.1
/-- the indexes below i of cells in line r -/
def idxs (b : Bool) (cs : List Cell) (i : Nat) (r : Int) : List Int := ((List.range i).filter fun j => decide ((cs[j]?).map (pick b) = some r)).map fun (j : Nat) => (j : Int)
theorem idxs_zero (b : Bool) (cs : List Cell) (r : Int) : idxs b cs 0 r = [] := rfl
theorem idxs_hit {b : Bool} {cs : List Cell} {i : Nat} {c : Cell} (h : cs[i]? = some c) : idxs b cs (i + 1) (pick b c) = idxs b cs i (pick b c) ++ [(i : Int)] := by
  unfold idxs
  rw [List.range_succ, List.filter_append, List.map_append]
  congr 1
  rw [List.filter_cons_of_pos (by simp [h])]
  rfl
theorem idxs_miss {b : Bool} {cs : List Cell} {i : Nat} {c : Cell} {r : Int} (h : cs[i]? = some c) (n : pick b c ≠ r) : idxs b cs (i + 1) r = idxs b cs i r := by
  unfold idxs
  rw [List.range_succ, List.filter_append, List.map_append]
  rw [List.filter_cons_of_neg (by simp [h, n])]
  simp
def lnsOf (b : Bool) (cs : List Cell) : List (List Int) := ((List.range 8).map fun (r : Nat) => idxs b cs cs.length (r : Int)).filter fun l => decide (l ≠ [])
theorem idxs_mem {b : Bool} {cs : List Cell} {i : Nat} {r x : Int} (h : x ∈ idxs b cs i r) : 0 ≤ x ∧ x < (i : Int) := by
  unfold idxs at h
  obtain ⟨j, hj, rfl⟩ := List.mem_map.mp h
  have := List.mem_range.mp (List.mem_filter.mp hj).1
  omega
theorem idxs_len (b : Bool) (cs : List Cell) (i : Nat) (r : Int) : (idxs b cs i r).length ≤ i := by
  unfold idxs
  rw [List.length_map]
  exact Nat.le_trans (List.length_filter_le _ _) (by simp)
theorem idxs_grid {b : Bool} {cs : List Cell} {i : Nat} {r : Int} (g : ∀ c ∈ cs, InGrid c) (h : idxs b cs i r ≠ []) : 0 ≤ r ∧ r < 8 := by
  cases e : idxs b cs i r with
  | nil => exact absurd e h
  | cons x l =>
    have hx : x ∈ idxs b cs i r := by
      rw [e]
      exact List.mem_cons_self
    unfold idxs at hx
    obtain ⟨j, hj, rfl⟩ := List.mem_map.mp hx
    have q := of_decide_eq_true (List.mem_filter.mp hj).2
    cases z : cs[j]? with
    | none =>
      rw [z] at q
      cases q
    | some c =>
      rw [z] at q
      have q' : pick b c = r := Option.some.inj q
      have gc := g c (List.mem_of_getElem? z)
      unfold pick at q'
      unfold InGrid at gc
      split at q' <;> omega
/-- two strictly ascending lists with the same members are one -/
theorem asc_ext : ∀ {l m : List Int}, l.Pairwise (· < ·) → m.Pairwise (· < ·) → (∀ x, x ∈ l ↔ x ∈ m) → l = m
  | [], [], _, _, _ => rfl
  | [], y :: m, _, _, h => absurd ((h y).mpr List.mem_cons_self) (by simp)
  | x :: l, [], _, _, h => absurd ((h x).mp List.mem_cons_self) (by simp)
  | x :: l, y :: m, h1, h2, h => by
    rw [List.pairwise_cons] at h1 h2
    have e : x = y := by
      rcases List.mem_cons.mp ((h x).mp List.mem_cons_self) with z | z
      · exact z
      · rcases List.mem_cons.mp ((h y).mpr List.mem_cons_self) with z2 | z2
        · exact z2.symm
        · have a := h2.1 x z
          have b := h1.1 y z2
          omega
    subst e
    congr 1
    refine asc_ext h1.2 h2.2 fun z => ⟨fun hz => ?_, fun hz => ?_⟩
    · rcases List.mem_cons.mp ((h z).mp (List.mem_cons_of_mem _ hz)) with e | e
      · have := h1.1 z hz
        omega
      · exact e
    · rcases List.mem_cons.mp ((h z).mpr (List.mem_cons_of_mem _ hz)) with e | e
      · have := h2.1 z hz
        omega
      · exact e
theorem strict_of {l : List Int} (h : l.Pairwise (· ≤ ·)) (n : l.Nodup) : l.Pairwise (· < ·) := by
  rw [List.nodup_iff_pairwise_ne] at n
  exact (h.and n).imp fun {a b} q => by omega
/-- the lines in use, by number -/
def usedOf (b : Bool) (cs : List Cell) : List Int := ((List.range 8).map fun (r : Nat) => (r : Int)).filter fun r => decide (idxs b cs cs.length r ≠ [])
theorem used_asc (b : Bool) (cs : List Cell) : (usedOf b cs).Pairwise (· < ·) := by
  unfold usedOf
  exact List.Pairwise.sublist List.filter_sublist (by decide)
theorem used_lines (b : Bool) (cs : List Cell) : (usedOf b cs).map (fun r => idxs b cs cs.length r) = lnsOf b cs := by
  unfold usedOf lnsOf
  rw [List.filter_map, List.filter_map, List.map_map]
  rfl
theorem used_mem {b : Bool} {cs : List Cell} (g : ∀ c ∈ cs, InGrid c) (r : Int) : r ∈ usedOf b cs ↔ idxs b cs cs.length r ≠ [] := by
  unfold usedOf
  rw [List.mem_filter]
  refine ⟨fun h => of_decide_eq_true h.2, fun h => ⟨?_, decide_eq_true h⟩⟩
  have := idxs_grid g h
  rw [List.mem_map]
  exact ⟨r.toNat, List.mem_range.mpr (by omega), by omega⟩
/-! ### lines, in the heap -/
def TupI (K : PySem.W.Frag) (H : Hp) (x : V) (l : List Int) : Prop := ∃ t, x = .ref t ∧ SqT K H t (l.map V.int)
def LstI (H : Hp) (x : V) (l : List Int) : Prop := ∃ t, x = .ref t ∧ H t = some (.lst (l.map V.int))
abbrev lineD (l : List Int) : PyData := .tuple (l.map PyData.int)
abbrev linesD (ls : List (List Int)) : PyData := .tuple (ls.map lineD)
theorem dp_ints {K : PySem.W.Frag} {H : Hp} : ∀ l : List Int, DpAll K H (l.map V.int) (l.map PyData.int)
  | [] => .nil
  | x :: l => .cons (.int x) (dp_ints l)
theorem dp_lines {K : PySem.W.Frag} {H : Hp} : ∀ {xs : List V} {ls : List (List Int)}, Paired (TupI K H) xs ls → DpAll K H xs (ls.map lineD)
  | _, _, .nil => .nil
  | _, _, .cons ⟨t, e, h⟩ r => by
    subst e
    exact .cons (.tup h (dp_ints _)) (dp_lines r)
theorem tupI_kt {K : PySem.W.Frag} {H H' : Hp} (k : KT K H H') {xs : List V} {ls : List (List Int)} (h : Paired (TupI K H) xs ls) : Paired (TupI K H') xs ls :=
  Paired.mono (fun _ _ ⟨t, e, q⟩ => ⟨t, e, k _ _ q⟩) h
def spIsKind : Sp := fun vs H Q _ => ∃ b : Bool, vs = [.str (if b = true then "C" else "R")] ∧ ∀ H', Same H H' → Q (.bl true) H'
def spKind : Sp := fun vs H Q _ => ∃ b : Bool, vs = [.str (if b = true then "C" else "R")] ∧ ∀ H', Same H H' → Q .non H'
def spLines (K : PySem.W.Frag) : Sp := fun vs H Q _ => ∃ (a : Addr) (b : Bool) (cs : List Cell), vs = [.ref a, .str (if b = true then "C" else "R")] ∧ PlanAt K H a cs ∧ Good cs ∧ cs.length ≤ 24 ∧
  ∀ H' p xs, Same H H' → SqT K H' p xs → Paired (TupI K H') xs (lnsOf b cs) → Q (.ref p) H'
def spLawLines (K : PySem.W.Frag) : Sp := fun vs H Q _ => ∃ (a : Addr) (b : Bool) (cs : List Cell), vs = [.ref a, .str (if b = true then "C" else "R")] ∧ PlanAt K H a cs ∧ cs.length ≤ 24 ∧
  ∀ H' p xs, Same H H' → H' p = some (.lst xs) → Paired (LstI H') xs (lnsOf b cs) → Q (.ref p) H'
end KS
namespace KS
open PySem PySem.Spec PyProof.Rows L2
/-- 0 if kind == "R" else 1 -/
theorem side_ok {b : Bool} {σ : L2.St} {H : Hp} {Q : VK} (hσ : σ[1]? = some (some (.str (if b = true then "C" else "R")))) (k : Q (.int (if b = true then 1 else 0)) H) :
    tIf (tTest (tOp rEq (tVar 1) (tC (.str "R")))) (tC (.int 0)) (tC (.int 1)) σ H Q := by
  refine ⟨_, hσ, by cases b <;> rfl, _, rfl, ?_⟩
  cases b
  · rw [if_pos (by decide +kernel)]
    exact k
  · rw [if_neg (by decide +kernel)]
    exact k
theorem at_pick {b : Bool} {c : Cell} : atI [V.int c.1, V.int c.2] (if b = true then 1 else 0) = some (V.int (pick b c)) := by
  cases b <;> rfl
/-- the dict of lines behind i cells -/
structure Grp (b : Bool) (cs : List Cell) (i : Nat) (d : Addr) (kvs : List (Key × V)) (ad : Int → Addr) (H : Hp) : Prop where
  dict : H d = some (.dK kvs)
  keys : ∃ ks : List Int, kvs.map (·.1) = ks.map Sum.inl ∧ ks.Nodup ∧ ks.length ≤ i
  val : ∀ r : Int, valV kvs (.inl r) = if idxs b cs i r = [] then none else some (.ref (ad r))
  lst : ∀ r : Int, idxs b cs i r ≠ [] → H (ad r) = some (.lst ((idxs b cs i r).map V.int))
  inj : ∀ r r' : Int, idxs b cs i r ≠ [] → idxs b cs i r' ≠ [] → ad r = ad r' → r = r'
theorem Grp.same {b : Bool} {cs : List Cell} {i : Nat} {d : Addr} {kvs : List (Key × V)} {ad : Int → Addr} {H H' : Hp} (g : Grp b cs i d kvs ad H) (s : Same H H') : Grp b cs i d kvs ad H' :=
  ⟨s _ _ g.dict, g.keys, g.val, fun r h => s _ _ (g.lst r h), g.inj⟩
theorem Grp.more {b : Bool} {cs : List Cell} {i : Nat} {d : Addr} {kvs : List (Key × V)} {ad : Int → Addr} {H : Hp} {c : Cell} (g : Grp b cs i d kvs ad H) (hc : cs[i]? = some c) (h : idxs b cs i (pick b c) ≠ []) :
    Grp b cs (i + 1) d kvs ad (upd H (ad (pick b c)) (.lst ((idxs b cs i (pick b c)).map V.int ++ [.int (i : Nat)]))) := by
  have same : ∀ r, (idxs b cs (i + 1) r = []) ↔ (idxs b cs i r = []) := fun r => by
    by_cases e : pick b c = r
    · subst e
      rw [idxs_hit hc]
      simp [h]
    · rw [idxs_miss hc e]
  have hd : d ≠ ad (pick b c) := ne_of g.dict (g.lst _ h) (by intro z; cases z)
  obtain ⟨ks, k1, k2, k3⟩ := g.keys
  refine ⟨by rw [upd_ne hd]; exact g.dict, ⟨ks, k1, k2, by omega⟩, fun r => ?_, fun r hr => ?_, fun r r' h1 h2 => g.inj r r' (fun z => h1 ((same r).mpr z)) (fun z => h2 ((same r').mpr z))⟩
  · rw [g.val r]
    by_cases e : idxs b cs i r = []
    · rw [if_pos e, if_pos ((same r).mpr e)]
    · rw [if_neg e, if_neg (fun z => e ((same r).mp z))]
  · have hr' : idxs b cs i r ≠ [] := fun z => hr ((same r).mpr z)
    by_cases e : pick b c = r
    · subst e
      rw [upd_same, idxs_hit hc, List.map_append]
      rfl
    · rw [upd_ne (fun z => e (g.inj _ _ h hr' z.symm)), idxs_miss hc e]
      exact g.lst r hr'
theorem Grp.new {b : Bool} {cs : List Cell} {i : Nat} {d z : Addr} {kvs : List (Key × V)} {ad : Int → Addr} {H : Hp} {c : Cell} (g : Grp b cs i d kvs ad H) (hc : cs[i]? = some c) (h : idxs b cs i (pick b c) = []) (nz : H z = none) :
    Grp b cs (i + 1) d (putK kvs (.inl (pick b c)) (.ref z)) (fun r => if r = pick b c then z else ad r) (upd (upd (upd H z (.lst [])) d (.dK (putK kvs (.inl (pick b c)) (.ref z)))) z (.lst ([] ++ [.int (i : Nat)]))) := by
  have hv : valV kvs (.inl (pick b c)) = none := by
    rw [g.val, if_pos h]
  have hdz : d ≠ z := ne_of_none g.dict nz
  have hput : putK kvs (Sum.inl (pick b c)) (V.ref z) = kvs ++ [(Sum.inl (pick b c), V.ref z)] := by
    unfold putK
    rw [if_neg]
    rw [valV_any, hv]
    simp
  have hit : idxs b cs (i + 1) (pick b c) = [(i : Int)] := by
    rw [idxs_hit hc, h]
    rfl
  obtain ⟨ks, k1, k2, k3⟩ := g.keys
  refine ⟨?_, ⟨ks ++ [pick b c], ?_, ?_, ?_⟩, fun r => ?_, fun r hr => ?_, fun r r' h1 h2 => ?_⟩
  · rw [upd_ne hdz, upd_same]
  · rw [hput, List.map_append, List.map_append, k1]
    rfl
  · rw [List.nodup_append]
    refine ⟨k2, by simp, fun x hx y hy e => ?_⟩
    rw [List.mem_singleton] at hy
    subst hy
    subst e
    apply valV_not hv
    rw [k1]
    exact List.mem_map.mpr ⟨_, hx, rfl⟩
  · rw [List.length_append]
    simp
    omega
  · rw [valV_put]
    by_cases e : r = pick b c
    · subst e
      rw [if_pos rfl, hit, if_neg (by simp), if_pos rfl]
    · rw [if_neg (fun q => e (Sum.inl.inj q)), g.val, idxs_miss hc (Ne.symm e), if_neg e]
  · by_cases e : r = pick b c
    · subst e
      show upd _ _ _ (if _ then z else _) = _
      rw [if_pos rfl, upd_same, hit]
      rfl
    · show upd _ _ _ (if _ then z else _) = _
      rw [if_neg e]
      rw [idxs_miss hc (Ne.symm e)] at hr ⊢
      have hl := g.lst r hr
      rw [upd_ne (ne_of_none hl nz), upd_ne (ne_of hl g.dict (by intro q; cases q)), upd_ne (ne_of_none hl nz)]
      exact hl
  · intro e
    by_cases e1 : r = pick b c
    · by_cases e2 : r' = pick b c
      · rw [e1, e2]
      · have e' : (if r = pick b c then z else ad r) = (if r' = pick b c then z else ad r') := e
        rw [if_pos e1, if_neg e2] at e'
        rw [idxs_miss hc (Ne.symm e2)] at h2
        have := g.lst r' h2
        rw [← e', nz] at this
        cases this
    · have e' : (if r = pick b c then z else ad r) = (if r' = pick b c then z else ad r') := e
      rw [idxs_miss hc (Ne.symm e1)] at h1
      by_cases e2 : r' = pick b c
      · rw [if_neg e1, if_pos e2] at e'
        have := g.lst r h1
        rw [e', nz] at this
        cases this
      · rw [if_neg e1, if_neg e2] at e'
        rw [idxs_miss hc (Ne.symm e2)] at h2
        exact g.inj r r' h1 h2 e'
/-- the sorted keys are the lines in use -/
theorem Grp.used {b : Bool} {cs : List Cell} {d : Addr} {kvs : List (Key × V)} {ad : Int → Addr} {H : Hp} {ks ys : List Int} (g : Grp b cs cs.length d kvs ad H) (gr : ∀ c ∈ cs, InGrid c) (e : kvs.map (·.1) = ks.map Sum.inl) (n : ks.Nodup) (p : ys.Perm ks) (s : ys.Pairwise (· ≤ ·)) : ys = usedOf b cs := by
  refine asc_ext (strict_of s (p.nodup_iff.mpr n)) (used_asc b cs) fun r => ?_
  rw [p.mem_iff, used_mem gr]
  have key : r ∈ ks ↔ (Sum.inl r : Key) ∈ kvs.map (·.1) := by
    rw [e, List.mem_map]
    exact ⟨fun h => ⟨r, h, rfl⟩, fun ⟨x, hx, q⟩ => by cases q; exact hx⟩
  rw [key]
  constructor
  · intro h z
    have hv : valV kvs (.inl r) = none := by rw [g.val, if_pos z]
    exact valV_not hv h
  · intro h
    exact valV_in (v := .ref (ad r)) (by rw [g.val, if_neg h])
end KS
namespace KS
open PySem PySem.Spec PyProof.Rows L2
theorem ints_lay : ∀ l : List Int, PyData.canLayAll0 (l.map PyData.int) = true ∧ PyData.depthAll (l.map PyData.int) = 0
  | [] => ⟨by simp only [List.map_nil, PyData.canLayAll0], by simp only [List.map_nil, PyData.depthAll]⟩
  | x :: l => by
    obtain ⟨h1, h2⟩ := ints_lay l
    simp only [List.map_cons, PyData.canLayAll0, PyData.depthAll, PyData.canLay0, PyData.depth, h1, h2, Bool.and_self, Nat.max_self, and_self]
theorem ints_shaped (l : List Int) : SeqAt.shaped (.list (l.map PyData.int)) = true := by
  obtain ⟨h1, h2⟩ := ints_lay l
  unfold SeqAt.shaped
  simp only [PyData.canLay0, PyData.depth, h1, h2]
  decide
theorem ints_eqv_nil (l : List Int) : PyData.eqv (.list (l.map PyData.int)) (.list []) = l.isEmpty := by
  cases l with
  | nil => decide
  | cons x l => rfl
theorem kind_test (b : Bool) : decide (V.str (if b = true then "C" else "R") = V.str "C") = b := by
  cases b <;> decide +kernel
/-- the lines below r that are in use -/
def lnsTo (b : Bool) (cs : List Cell) (r : Nat) : List (List Int) := ((List.range r).map fun (r : Nat) => idxs b cs cs.length (r : Int)).filter fun l => decide (l ≠ [])
theorem lnsTo_hit {b : Bool} {cs : List Cell} {r : Nat} (h : idxs b cs cs.length (r : Int) ≠ []) : lnsTo b cs (r + 1) = lnsTo b cs r ++ [idxs b cs cs.length (r : Int)] := by
  unfold lnsTo
  rw [List.range_succ, List.map_append, List.filter_append]
  congr 1
  rw [List.map_cons, List.filter_cons_of_pos (by simpa using h)]
  rfl
theorem lnsTo_miss {b : Bool} {cs : List Cell} {r : Nat} (h : idxs b cs cs.length (r : Int) = []) : lnsTo b cs (r + 1) = lnsTo b cs r := by
  unfold lnsTo
  rw [List.range_succ, List.map_append, List.filter_append, List.map_cons, List.filter_cons_of_neg (by simp [h])]
  simp
theorem lnsTo_len (b : Bool) (cs : List Cell) (r : Nat) : (lnsTo b cs r).length ≤ r := by
  unfold lnsTo
  exact Nat.le_trans (List.length_filter_le _ _) (by simp)
end KS
namespace KS
open PySem PySem.Spec PyProof.Rows L2
/-! ### small data can be shown -/
theorem small_int {x : Int} (h0 : 0 ≤ x) (h1 : x < 10000) : PyData.leavesShort 8 (.int x) = true ∧ PyData.showable (.int x) = true ∧ PyData.weight (.int x) ≤ 14 := by
  obtain ⟨n, rfl⟩ := Int.eq_ofNat_of_zero_le h0
  have hn : n < 10000 := by omega
  have hlog : n.log2 < 14 := by
    rcases Nat.eq_zero_or_pos n with z | z
    · subst z
      decide
    · exact (Nat.log2_lt (by omega)).mpr (by omega)
  refine ⟨?_, ?_, ?_⟩
  · simp only [PyData.leavesShort]
    exact decide_eq_true (by
      simp only [PyData.shown]
      exact toString_length_le (k := 8) (by omega) (by decide) (by show (n : Int) < 10 ^ 8; omega))
  · simp only [PyData.showable]
    exact decide_eq_true (by show n.log2 < 1920; omega)
  · simp only [PyData.weight]
    split
    · omega
    · show n.log2 + 1 ≤ 14
      omega
/-- what repr asks of its data -/
structure Shows (d : PyData) (n : Nat) : Prop where
  short : d.leavesShort 8 = true
  show_ : d.showable = true
  nod : d.hasDict = false
  wt : d.weight ≤ n
structure ShowsAll (ds : List PyData) (n : Nat) : Prop where
  short : PyData.leavesShortAll 8 ds = true
  show_ : PyData.showableAll ds = true
  nod : PyData.hasDictAll ds = false
  wt : PyData.weightAll ds ≤ (n + 1) * ds.length
theorem showsAll_of {n : Nat} : ∀ {ds : List PyData}, (∀ d ∈ ds, Shows d n) → ShowsAll ds n
  | [], _ => ⟨by simp only [PyData.leavesShortAll], by simp only [PyData.showableAll], by simp only [PyData.hasDictAll], by simp [PyData.weightAll]⟩
  | d :: ds, h => by
    have h1 := h d List.mem_cons_self
    have h2 := showsAll_of fun x hx => h x (List.mem_cons_of_mem _ hx)
    refine ⟨?_, ?_, ?_, ?_⟩
    · simp only [PyData.leavesShortAll, h1.short, h2.short, Bool.and_self]
    · simp only [PyData.showableAll, h1.show_, h2.show_, Bool.and_self]
    · simp only [PyData.hasDictAll, h1.nod, h2.nod, Bool.or_self]
    · simp only [PyData.weightAll, List.length_cons]
      have a := h1.wt
      have b := h2.wt
      rw [Nat.mul_add, Nat.mul_one]
      omega
theorem shows_tuple {n m : Nat} {ds : List PyData} (h : ShowsAll ds n) (hm : (n + 1) * ds.length ≤ m) : Shows (.tuple ds) m := by
  refine ⟨?_, ?_, ?_, ?_⟩
  · simp only [PyData.leavesShort, h.short]
  · simp only [PyData.showable, h.show_]
  · simp only [PyData.hasDict, h.nod]
  · simp only [PyData.weight]
    exact Nat.le_trans h.wt hm
theorem shows_int {x : Int} (h0 : 0 ≤ x) (h1 : x < 10000) : Shows (.int x) 14 := by
  obtain ⟨a, b, c⟩ := small_int h0 h1
  exact ⟨a, b, by simp only [PyData.hasDict], c⟩
theorem Shows.len {d : PyData} {n : Nat} (h : Shows d n) (hn : n ≤ 1048576) : d.shown.length ≤ sizeLine :=
  PyData.shown_fits (B := 8) (by decide) (by decide) h.short (Nat.le_trans h.wt (by
    show n ≤ 2 ^ 20
    have : (2 : Nat) ^ 20 = 1048576 := by decide
    omega))
theorem shows_line {l : List Int} (h : ∀ x ∈ l, 0 ≤ x ∧ x < 10000) (hl : l.length ≤ 64) : Shows (lineD l) 960 := by
  refine shows_tuple (n := 14) (showsAll_of fun d hd => ?_) ?_
  · obtain ⟨x, hx, rfl⟩ := List.mem_map.mp hd
    exact shows_int (h x hx).1 (h x hx).2
  · rw [List.length_map]
    omega
theorem shows_lines {ls : List (List Int)} (h : ∀ l ∈ ls, (∀ x ∈ l, 0 ≤ x ∧ x < 10000) ∧ l.length ≤ 64) (hl : ls.length ≤ 64) : Shows (linesD ls) 61504 := by
  refine shows_tuple (n := 960) (showsAll_of fun d hd => ?_) ?_
  · obtain ⟨l, hx, rfl⟩ := List.mem_map.mp hd
    exact shows_line (h l hx).1 (h l hx).2
  · rw [List.length_map]
    omega
theorem depth_line (l : List Int) : (lineD l).depth = 1 := by
  simp only [PyData.depth, (ints_lay l).2]
theorem depth_lines : ∀ ls : List (List Int), PyData.depthAll (ls.map lineD) ≤ 1
  | [] => by simp [PyData.depthAll]
  | l :: ls => by
    have a := depth_lines ls
    have b := depth_line l
    simp only [List.map_cons, PyData.depthAll]
    omega
theorem lns_small {b : Bool} {cs : List Cell} (hl : cs.length ≤ 24) : Shows (linesD (lnsOf b cs)) 61504 ∧ (linesD (lnsOf b cs)).depth ≤ 64 := by
  refine ⟨shows_lines (fun l h => ?_) ?_, ?_⟩
  · unfold lnsOf at h
    obtain ⟨r, _, rfl⟩ := List.mem_map.mp (List.mem_filter.mp h).1
    refine ⟨fun x hx => ?_, ?_⟩
    · have := idxs_mem hx
      omega
    · have := idxs_len b cs cs.length (r : Int)
      omega
  · have : (lnsOf b cs).length ≤ 8 := lnsTo_len b cs 8
    omega
  · have := depth_lines (lnsOf b cs)
    simp only [PyData.depth]
    omega
/-! ### sorted cells -/
def keyOf (H : Hp) : V → Int × Int
  | .ref t => match H t with
    | some (.tup [.int i, .int j]) => (i, j)
    | _ => (0, 0)
  | _ => (0, 0)
theorem keyOf_at {H : Hp} {t : Addr} {i j : Int} (h : H t = some (.tup [.int i, .int j])) : keyOf H (.ref t) = (i, j) := by
  show (match H t with
    | some (.tup [.int i, .int j]) => ((i, j) : Int × Int)
    | _ => (0, 0)) = (i, j)
  rw [h]
theorem nodup_of_asc {cs : List Cell} (h : cs.Pairwise lt2) : cs.Nodup := by
  rw [List.nodup_iff_pairwise_ne]
  refine h.imp fun {a b} q e => ?_
  subst e
  rcases q with q | q <;> omega
/-- new cells, in a list -/
def NewCells (H : Hp) : List V → List Cell → Prop := Paired fun x c => ∃ t, x = .ref t ∧ H t = some (.tup [.int c.1, .int c.2])
theorem newCells_mono {H H' : Hp} (k : ∀ t ys, H t = some (.tup ys) → H' t = some (.tup ys)) {xs : List V} {cs : List Cell} (h : NewCells H xs cs) : NewCells H' xs cs :=
  Paired.mono (fun _ _ ⟨t, e, q⟩ => ⟨t, e, k _ _ q⟩) h
theorem newCells_key {H : Hp} : ∀ {xs : List V} {cs : List Cell}, NewCells H xs cs → xs.map (keyOf H) = cs
  | _, _, .nil => rfl
  | _, _, .cons ⟨t, e, h⟩ r => by
    subst e
    rw [List.map_cons, keyOf_at h, newCells_key r]
theorem newCells_mem {H : Hp} : ∀ {xs : List V} {cs : List Cell}, NewCells H xs cs → ∀ x ∈ xs, ∃ t, x = .ref t ∧ H t = some (.tup [.int (keyOf H x).1, .int (keyOf H x).2])
  | _, _, .nil, _, h => nomatch h
  | _, _, .cons ⟨t, e, h⟩ r, x, hx => by
    rcases List.mem_cons.mp hx with z | z
    · subst z
      subst e
      exact ⟨t, rfl, by rw [keyOf_at h]; exact h⟩
    · exact newCells_mem r x z
theorem cells_of_mem {K : PySem.W.Frag} {H : Hp} : ∀ {ys : List V}, (∀ x ∈ ys, ∃ t, x = .ref t ∧ H t = some (.tup [.int (keyOf H x).1, .int (keyOf H x).2])) → CellsAt K H ys (ys.map (keyOf H))
  | [], _ => .nil
  | y :: ys, h => by
    obtain ⟨t, e, q⟩ := h y List.mem_cons_self
    exact .cons ⟨t, e, SqT.of q⟩ (cells_of_mem fun x hx => h x (List.mem_cons_of_mem _ hx))
/-- sorted of new cells, all different: they ascend -/
theorem sorted_cells {K : PySem.W.Frag} {H : Hp} {xs ys : List V} {cs : List Cell} (h : NewCells H xs cs) (nd : cs.Nodup) (hs : SrtO.Srtd (ltP (keyOf H)) ys) (hp : ys.Perm xs) :
    CellsAt K H ys (ys.map (keyOf H)) ∧ (ys.map (keyOf H)).Perm cs ∧ (ys.map (keyOf H)).Pairwise lt2 := by
  have p1 : (ys.map (keyOf H)).Perm cs := by
    rw [← newCells_key h]
    exact hp.map _
  refine ⟨cells_of_mem fun x hx => newCells_mem h x (hp.mem_iff.mp hx), p1, ?_⟩
  have n1 : (ys.map (keyOf H)).Nodup := p1.nodup_iff.mpr nd
  have s1 : (ys.map (keyOf H)).Pairwise fun a b => SrtO.lexB b a = false := by
    rw [List.pairwise_map]
    exact hs
  rw [List.nodup_iff_pairwise_ne] at n1
  refine (s1.and n1).imp fun {a b} q => ?_
  obtain ⟨q1, q2⟩ := q
  have q3 : ¬ (b.1 < a.1 ∨ (b.1 = a.1 ∧ b.2 < a.2)) := fun z => by
    rw [SrtO.lexB_iff.mpr z] at q1
    cases q1
  by_cases e1 : a.1 < b.1
  · exact .inl e1
  · by_cases e2 : a.1 = b.1
    · refine .inr ⟨e2, ?_⟩
      by_cases e3 : a.2 = b.2
      · exact absurd (Prod.ext e2 e3) q2
      · have : ¬ b.2 < a.2 := fun z => q3 (.inr ⟨e2.symm, z⟩)
        omega
    · exact absurd (.inl (by omega)) q3
def mir (c : Cell) : Cell := (c.1, 7 - c.2)
theorem nodup_mir {cs : List Cell} (h : cs.Nodup) : (cs.map mir).Nodup := by
  rw [List.nodup_iff_pairwise_ne] at h ⊢
  rw [List.pairwise_map]
  refine h.imp fun {a b} q e => q ?_
  have e0 : ((a.1, 7 - a.2) : Int × Int) = (b.1, 7 - b.2) := e
  injection e0 with e1 e2
  exact Prod.ext e1 (by omega)
theorem good_mir {cs ds : List Cell} (g : Good cs) (p : ds.Perm (cs.map mir)) (a : ds.Pairwise lt2) : Good ds ∧ ds.length = cs.length := by
  have hl : ds.length = cs.length := by rw [p.length_eq, List.length_map]
  refine ⟨⟨a, fun d hd => ?_, fun z => ?_⟩, hl⟩
  · obtain ⟨c, hc, rfl⟩ := List.mem_map.mp (p.mem_iff.mp hd)
    have := g.grid c hc
    unfold InGrid at this ⊢
    show 0 ≤ c.1 ∧ c.1 ≤ 7 ∧ 0 ≤ 7 - c.2 ∧ 7 - c.2 ≤ 7
    omega
  · rw [z] at hl
    exact g.ne (List.eq_nil_of_length_eq_zero hl.symm)
def spRight : Sp := fun vs H Q _ => ∃ p : Addr, vs = [.ref p] ∧ PoolO (H p) ∧ ∀ H', KeepX p H H' → Q (.bl true) H'
def spLaw (K : PySem.W.Frag) : Sp := fun vs H Q _ => ∃ (a : Addr) (ns : List Int), vs = [.ref a] ∧ SqL K H a (ns.map V.int) ∧ ns.length ≤ 63 ∧ ∀ H', Q (.bl true) H'
end KS
namespace KS
open PySem PySem.Spec PyProof.Rows L2
/-! ### x in t, t a tuple of plain data -/
def rInT (K : PySem.W.Frag) : V → V → Hp → VK → Prop := fun x y H Q => ∃ d ds, Dp K H x d ∧ Dp K H y (.tuple ds) ∧ SeqAt.shaped d = true ∧ SeqAt.shaped (.tuple ds) = true ∧ Q (.bl (ds.any fun z => PyData.eqv z d)) H
theorem op_inT {X : Cx} (hu : X.A.units + 65 < cLine) : OpR X (compareOp .In) (rInT X.K) := by
  intro pins s σ H x y v u Q I rx ry h
  obtain ⟨d, ds, hd, he, sd, se, q⟩ := h
  obtain ⟨as, r1⟩ := Dp.reads I d x v hd rx
  obtain ⟨bs, r2⟩ := Dp.reads I (.tuple ds) y u he ry
  refine SeqAt.in_tuple_reads r2 r1 (SeqAt.canLay_of_shaped se) (SeqAt.canLay_of_shaped sd) ?_ ⟨.bl _, H, I, rfl, q⟩
  have := SeqAt.depth_of_shaped sd
  have h2 : min (PyData.depthAll ds) d.depth ≤ d.depth := Nat.min_le_right _ _
  omega
/-! ### plans as data -/
abbrev cellD (c : Cell) : PyData := .tuple [.int c.1, .int c.2]
abbrev planD (cs : List Cell) : PyData := .tuple (cs.map cellD)
theorem dp_cell {K : PySem.W.Frag} {H : Hp} {t : Addr} {c : Cell} (h : SqT K H t [.int c.1, .int c.2]) : Dp K H (.ref t) (cellD c) := .tup h (.cons (.int _) (.cons (.int _) .nil))
theorem dp_cells {K : PySem.W.Frag} {H : Hp} : ∀ {xs : List V} {cs : List Cell}, CellsAt K H xs cs → DpAll K H xs (cs.map cellD)
  | _, _, .nil => .nil
  | _, _, .cons ⟨t, e, h⟩ r => by
    subst e
    exact .cons (dp_cell h) (dp_cells r)
theorem PlanAt.dp {K : PySem.W.Frag} {H : Hp} {a : Addr} {cs : List Cell} (h : PlanAt K H a cs) : Dp K H (.ref a) (planD cs) := by
  obtain ⟨xs, h1, h2⟩ := h
  exact .tup h1 (dp_cells h2)
theorem cell_lay (c : Cell) : (cellD c).canLay0 = true ∧ (cellD c).depth = 1 := by
  simp [PyData.canLay0, PyData.canLayAll0, PyData.depth, PyData.depthAll]
theorem cells_lay : ∀ cs : List Cell, PyData.canLayAll0 (cs.map cellD) = true ∧ PyData.depthAll (cs.map cellD) ≤ 1
  | [] => ⟨by simp only [List.map_nil, PyData.canLayAll0], by simp [PyData.depthAll]⟩
  | c :: cs => by
    obtain ⟨a, b⟩ := cells_lay cs
    obtain ⟨x, y⟩ := cell_lay c
    refine ⟨?_, ?_⟩
    · rw [List.map_cons, PyData.canLayAll0, x, a]
      rfl
    · rw [List.map_cons, PyData.depthAll, y]
      omega
theorem cell_shaped (c : Cell) : SeqAt.shaped (cellD c) = true := by
  obtain ⟨x, y⟩ := cell_lay c
  unfold SeqAt.shaped
  rw [x, y]
  rfl
theorem plan_shaped (cs : List Cell) : SeqAt.shaped (planD cs) = true := by
  obtain ⟨a, b⟩ := cells_lay cs
  unfold SeqAt.shaped
  rw [Bool.and_eq_true]
  refine ⟨?_, decide_eq_true ?_⟩
  · simp only [PyData.canLay0, a]
  · simp only [PyData.depth]
    omega
theorem cell_eqv (a b : Cell) : PyData.eqv (cellD a) (cellD b) = decide (a = b) := by
  have h : PyData.eqv (cellD a) (cellD b) = (a.1 == b.1 && (a.2 == b.2 && true)) := by
    simp only [PyData.eqv, PyData.eqvAll]
  rw [h, Bool.and_true]
  by_cases e : a = b
  · subst e
    simp
  · rw [decide_eq_false e]
    by_cases e1 : a.1 = b.1
    · have e2 : a.2 ≠ b.2 := fun z => e (Prod.ext e1 z)
      simp [e1, e2]
    · simp [e1]
theorem in_plan (cs : List Cell) (c : Cell) : ((cs.map cellD).any fun z => PyData.eqv z (cellD c)) = decide (c ∈ cs) := by
  rw [List.any_map]
  by_cases h : c ∈ cs
  · rw [decide_eq_true h, List.any_eq_true]
    exact ⟨c, h, by show PyData.eqv (cellD c) (cellD c) = true; rw [cell_eqv]; simp⟩
  · rw [decide_eq_false h, List.any_eq_false]
    intro x hx z
    have z' : PyData.eqv (cellD x) (cellD c) = true := z
    rw [cell_eqv] at z'
    have := of_decide_eq_true z'
    subst this
    exact h hx
theorem shows_plan {cs : List Cell} (g : ∀ c ∈ cs, InGrid c) (hl : cs.length ≤ 64) : Shows (planD cs) 1984 ∧ (planD cs).depth ≤ 64 := by
  refine ⟨shows_tuple (n := 30) (showsAll_of fun d hd => ?_) ?_, ?_⟩
  · obtain ⟨c, hc, rfl⟩ := List.mem_map.mp hd
    have := g c hc
    unfold InGrid at this
    refine shows_tuple (n := 14) (showsAll_of fun d hd => ?_) (by show (14 + 1) * 2 ≤ 30; decide)
    rcases List.mem_cons.mp hd with z | z
    · subst z
      exact shows_int (by omega) (by omega)
    · rcases List.mem_cons.mp z with z | z
      · subst z
        exact shows_int (by omega) (by omega)
      · cases z
  · rw [List.length_map]
    omega
  · have := (cells_lay cs).2
    simp only [PyData.depth]
    omega
/-! ### ascending lists of cells -/
theorem asc_ext2 : ∀ {l m : List Cell}, l.Pairwise lt2 → m.Pairwise lt2 → (∀ x, x ∈ l ↔ x ∈ m) → l = m
  | [], [], _, _, _ => rfl
  | [], y :: m, _, _, h => absurd ((h y).mpr List.mem_cons_self) (by simp)
  | x :: l, [], _, _, h => absurd ((h x).mp List.mem_cons_self) (by simp)
  | x :: l, y :: m, h1, h2, h => by
    rw [List.pairwise_cons] at h1 h2
    have no : ∀ a b : Cell, lt2 a b → lt2 b a → False := fun a b p q => by
      unfold lt2 at p q
      omega
    have e : x = y := by
      rcases List.mem_cons.mp ((h x).mp List.mem_cons_self) with z | z
      · exact z
      · rcases List.mem_cons.mp ((h y).mpr List.mem_cons_self) with z2 | z2
        · exact z2.symm
        · exact (no _ _ (h2.1 x z) (h1.1 y z2)).elim
    subst e
    congr 1
    refine asc_ext2 h1.2 h2.2 fun z => ⟨fun hz => ?_, fun hz => ?_⟩
    · rcases List.mem_cons.mp ((h z).mp (List.mem_cons_of_mem _ hz)) with e | e
      · exact (no _ _ (h1.1 z hz) (e ▸ h1.1 z hz)).elim
      · exact e
    · rcases List.mem_cons.mp ((h z).mpr (List.mem_cons_of_mem _ hz)) with e | e
      · exact (no _ _ (h2.1 z hz) (e ▸ h2.1 z hz)).elim
      · exact e
theorem asc_perm {l m : List Cell} (h1 : l.Pairwise lt2) (h2 : m.Pairwise lt2) (p : l.Perm m) : l = m := asc_ext2 h1 h2 fun x => p.mem_iff
def swp (c : Cell) : Cell := (c.2, c.1)
theorem nodup_swp {cs : List Cell} (h : cs.Nodup) : (cs.map swp).Nodup := by
  rw [List.nodup_iff_pairwise_ne] at h ⊢
  rw [List.pairwise_map]
  refine h.imp fun {a b} q e => q ?_
  have e0 : ((a.2, a.1) : Int × Int) = (b.2, b.1) := e
  injection e0 with e1 e2
  exact Prod.ext e2 e1
theorem good_swp {cs ds : List Cell} (g : Good cs) (p : ds.Perm (cs.map swp)) (a : ds.Pairwise lt2) : Good ds ∧ ds.length = cs.length := by
  have hl : ds.length = cs.length := by rw [p.length_eq, List.length_map]
  refine ⟨⟨a, fun d hd => ?_, fun z => ?_⟩, hl⟩
  · obtain ⟨c, hc, rfl⟩ := List.mem_map.mp (p.mem_iff.mp hd)
    have := g.grid c hc
    unfold InGrid at this ⊢
    show 0 ≤ c.2 ∧ c.2 ≤ 7 ∧ 0 ≤ c.1 ∧ c.1 ≤ 7
    omega
  · rw [z] at hl
    exact g.ne (List.eq_nil_of_length_eq_zero hl.symm)
theorem swp_back {cs ds es : List Cell} (g : cs.Pairwise lt2) (p : ds.Perm (cs.map swp)) (p2 : es.Perm (ds.map swp)) (a : es.Pairwise lt2) : es = cs := by
  refine asc_perm a g (p2.trans ?_)
  have := p.map swp
  refine this.trans ?_
  rw [List.map_map]
  have e : (swp ∘ swp) = id := by
    funext c
    rfl
  rw [e, List.map_id]
/-! ### rectangles -/
def Full (cs : List Cell) : Prop := ∀ r k : Int, (∃ c ∈ cs, c.1 ≤ r) → (∃ c ∈ cs, r ≤ c.1) → (∃ c ∈ cs, c.2 ≤ k) → (∃ c ∈ cs, k ≤ c.2) → (r, k) ∈ cs
noncomputable def rectB (cs : List Cell) : Bool := @decide (Full cs) (Classical.propDecidable _)
theorem rectB_true {cs : List Cell} (h : Full cs) : rectB cs = true := by
  unfold rectB
  exact @decide_eq_true _ (Classical.propDecidable _) h
theorem rectB_false {cs : List Cell} (h : ¬ Full cs) : rectB cs = false := by
  unfold rectB
  exact @decide_eq_false _ (Classical.propDecidable _) h
theorem full_swp {cs ds : List Cell} (p : ds.Perm (cs.map swp)) (h : Full cs) : Full ds := by
  have to : ∀ c : Cell, c ∈ ds → swp c ∈ cs := fun c hc => by
    obtain ⟨x, hx, rfl⟩ := List.mem_map.mp (p.mem_iff.mp hc)
    exact hx
  intro r k ⟨a, ha, a1⟩ ⟨b, hb, b1⟩ ⟨c, hc, c1⟩ ⟨d, hd, d1⟩
  have := h k r ⟨swp c, to c hc, c1⟩ ⟨swp d, to d hd, d1⟩ ⟨swp a, to a ha, a1⟩ ⟨swp b, to b hb, b1⟩
  exact p.mem_iff.mpr (List.mem_map.mpr ⟨(k, r), this, rfl⟩)
theorem rectB_swp {cs ds : List Cell} (p : ds.Perm (cs.map swp)) : rectB ds = rectB cs := by
  have q : cs.Perm (ds.map swp) := by
    have := (p.map swp).symm
    rw [List.map_map] at this
    have e : (swp ∘ swp) = id := by
      funext c
      rfl
    rw [e, List.map_id] at this
    exact this
  by_cases h : Full cs
  · rw [rectB_true h, rectB_true (full_swp p h)]
  · rw [rectB_false h, rectB_false fun z => h (full_swp q z)]
theorem len_of_subset : ∀ {l m : List Cell}, l.Nodup → (∀ x ∈ l, x ∈ m) → l.length ≤ m.length
  | [], _, _, _ => Nat.zero_le _
  | x :: l, m, n, h => by
    rw [List.nodup_cons] at n
    have hx := h x List.mem_cons_self
    have ih := len_of_subset (m := m.erase x) n.2 fun y hy => by
      have hne : y ≠ x := fun e => n.1 (e ▸ hy)
      exact (List.mem_erase_of_ne hne).mpr (h y (List.mem_cons_of_mem _ hy))
    rw [List.length_erase_of_mem hx] at ih
    have : 0 < m.length := List.length_pos_of_mem hx
    rw [List.length_cons]
    omega
/-- the cells of a box: n rows from r, k columns from c -/
def boxOf (r c : Int) (n k : Nat) : List Cell := (List.range n).flatMap fun (i : Nat) => rowCells (r + (i : Int)) c k
theorem box_len (r c : Int) (n k : Nat) : (boxOf r c n k).length = n * k := by
  unfold boxOf
  rw [List.length_flatMap]
  induction n with
  | zero => simp
  | succ n ih =>
    rw [List.range_succ, List.map_append, List.sum_append, ih, List.map_cons, rowCells_len, Nat.succ_mul]
    simp
theorem box_mem {r c : Int} {n k : Nat} {x : Cell} : x ∈ boxOf r c n k ↔ r ≤ x.1 ∧ x.1 < r + n ∧ c ≤ x.2 ∧ x.2 < c + k := by
  unfold boxOf
  rw [List.mem_flatMap]
  constructor
  · rintro ⟨i, hi, hx⟩
    have := List.mem_range.mp hi
    have := rowCells_mem hx
    omega
  · rintro ⟨h1, h2, h3, h4⟩
    refine ⟨(x.1 - r).toNat, List.mem_range.mpr (by omega), ?_⟩
    unfold rowCells
    refine List.mem_map.mpr ⟨(x.2 - c).toNat, List.mem_range.mpr (by omega), ?_⟩
    refine Prod.ext ?_ ?_
    · show r + ((x.1 - r).toNat : Int) = x.1
      omega
    · show c + ((x.2 - c).toNat : Int) = x.2
      omega
theorem box_asc (r c : Int) (k : Nat) : ∀ n : Nat, (boxOf r c n k).Pairwise lt2
  | 0 => List.Pairwise.nil
  | n + 1 => by
    have e : boxOf r c (n + 1) k = boxOf r c n k ++ rowCells (r + (n : Int)) c k := by
      unfold boxOf
      rw [List.range_succ, List.flatMap_append]
      simp
    rw [e, List.pairwise_append]
    refine ⟨box_asc r c k n, rowCells_asc _ _ _, fun a ha b hb => .inl ?_⟩
    have := box_mem.mp ha
    have := rowCells_mem hb
    omega
/-- the count of cells tells the rectangle -/
theorem rect_count {cs : List Cell} {a b c d : Int} (nd : cs.Nodup) (ha : a ∈ cs.map (·.1)) (ha' : ∀ x ∈ cs.map (·.1), a ≤ x) (hb : b ∈ cs.map (·.1)) (hb' : ∀ x ∈ cs.map (·.1), x ≤ b)
    (hc : c ∈ cs.map (·.2)) (hc' : ∀ x ∈ cs.map (·.2), c ≤ x) (hd : d ∈ cs.map (·.2)) (hd' : ∀ x ∈ cs.map (·.2), x ≤ d) : decide ((cs.length : Int) = (b - a + 1) * (d - c + 1)) = rectB cs := by
  have hab : a ≤ b := ha' b hb
  have hcd : c ≤ d := hc' d hd
  have inb : ∀ x ∈ cs, x ∈ boxOf a c (b - a + 1).toNat (d - c + 1).toNat := fun x hx => by
    have h1 := ha' x.1 (List.mem_map.mpr ⟨x, hx, rfl⟩)
    have h2 := hb' x.1 (List.mem_map.mpr ⟨x, hx, rfl⟩)
    have h3 := hc' x.2 (List.mem_map.mpr ⟨x, hx, rfl⟩)
    have h4 := hd' x.2 (List.mem_map.mpr ⟨x, hx, rfl⟩)
    exact box_mem.mpr ⟨h1, by omega, h3, by omega⟩
  have area : (((b - a + 1).toNat * (d - c + 1).toNat : Nat) : Int) = (b - a + 1) * (d - c + 1) := by
    rw [Int.natCast_mul, Int.toNat_of_nonneg (by omega), Int.toNat_of_nonneg (by omega)]
  have le1 := len_of_subset nd inb
  rw [box_len] at le1
  by_cases h : Full cs
  · rw [rectB_true h]
    have le2 : (boxOf a c (b - a + 1).toNat (d - c + 1).toNat).length ≤ cs.length := len_of_subset (nodup_of_asc (box_asc _ _ _ _)) fun x hx => by
      have := box_mem.mp hx
      obtain ⟨xa, ma, ea⟩ := List.mem_map.mp ha
      obtain ⟨xb, mb, eb⟩ := List.mem_map.mp hb
      obtain ⟨xc, mc, ec⟩ := List.mem_map.mp hc
      obtain ⟨xd, md, ed⟩ := List.mem_map.mp hd
      have := h x.1 x.2 ⟨xa, ma, by omega⟩ ⟨xb, mb, by omega⟩ ⟨xc, mc, by omega⟩ ⟨xd, md, by omega⟩
      exact this
    rw [box_len] at le2
    exact decide_eq_true (by rw [← area]; omega)
  · rw [rectB_false h]
    refine decide_eq_false fun e => h ?_
    rw [← area] at e
    have e' : cs.length = (b - a + 1).toNat * (d - c + 1).toNat := by omega
    intro r k ⟨x1, m1, q1⟩ ⟨x2, m2, q2⟩ ⟨x3, m3, q3⟩ ⟨x4, m4, q4⟩
    have h1 := ha' x1.1 (List.mem_map.mpr ⟨x1, m1, rfl⟩)
    have h2 := hb' x2.1 (List.mem_map.mpr ⟨x2, m2, rfl⟩)
    have h3 := hc' x3.2 (List.mem_map.mpr ⟨x3, m3, rfl⟩)
    have h4 := hd' x4.2 (List.mem_map.mpr ⟨x4, m4, rfl⟩)
    have hin : ((r, k) : Cell) ∈ boxOf a c (b - a + 1).toNat (d - c + 1).toNat := box_mem.mpr ⟨by show a ≤ r; omega, by show r < _; omega, by show c ≤ k; omega, by show k < _; omega⟩
    by_cases hm : ((r, k) : Cell) ∈ cs
    · exact hm
    · have le3 := len_of_subset (l := (r, k) :: cs) (List.nodup_cons.mpr ⟨hm, nd⟩) fun x hx => by
        rcases List.mem_cons.mp hx with z | z
        · subst z
          exact hin
        · exact inb x z
      rw [box_len, List.length_cons] at le3
      omega
end KS
namespace KS
open PySem PySem.Spec PyProof.Rows L2
/-! ### t[::-1], t a tuple -/
section
variable {prog : Program} {w : World} {A : Around} {E : Value → Shared → Prop} {s : Shared}
theorem adjust_rev (n : Nat) : Builtin.Slice.sliceAdjust none none (-1) (n : Int) = ((n : Int) - 1, -1) := by
  first
  | rfl
  | simp [Builtin.Slice.sliceAdjust]
theorem places_rev (n : Nat) : Builtin.Slice.slicePlaces ((n : Int) - 1) (-1) (-1) = n := by
  unfold Builtin.Slice.slicePlaces
  by_cases h : n = 0
  · subst h
    decide
  · simp
    omega
theorem applied_rev {sl : Addr} {vl vu vs : Value} {n : Nat} {Q : Int × Int × Nat → Shared → Prop} (hs : s.heap.IsSliceOf sl vl vu vs) (pl : IsPart vl none) (pu : IsPart vu none) (ps : IsPart vs (some (-1)))
    (h : Q ((n : Int) - 1, -1, n) s) : wpAny (model prog w) A (Builtin.Slice.sliceApplied (.ref sl) (pure (n : Int))) Q E s := by
  obtain ⟨os, hos, hcs, hds⟩ := id hs
  unfold Builtin.Slice.sliceApplied Builtin.Slice.sliceFields
  refine wpAny_bind (wpAny_bind (wpAny_field hos hds (x := vl) rfl
    (wpAny_bind (wpAny_field hos hds (x := vu) rfl (wpAny_bind (wpAny_field hos hds (x := vs) rfl (wpAny_pure ?_)))))))
  refine wpAny_bind (HT.slicePart_ ps ?_)
  show wpAny _ _ (if ((-1 : Int) == 0) = true then _ else _) _ _ s
  rw [if_neg (by decide)]
  refine wpAny_bind (HT.slicePart_ pl (wpAny_bind (HT.slicePart_ pu (wpAny_bind (wpAny_pure ?_)))))
  show wpAny _ _ (match Builtin.Slice.sliceAdjust none none (-1) (n : Int) with | (lo, hi) => pure (lo, (-1 : Int), Builtin.Slice.slicePlaces lo hi (-1))) _ _ s
  rw [adjust_rev n]
  show wpAny _ _ (pure ((n : Int) - 1, (-1 : Int), Builtin.Slice.slicePlaces ((n : Int) - 1) (-1) (-1))) _ _ s
  rw [places_rev]
  exact wpAny_pure h
theorem pick_rev (xs : Array Value) : ((List.range xs.size).filterMap fun (k : Nat) => xs[(((xs.size : Int) - 1) + (k : Int) * (-1)).toNat]?).toArray = xs.toList.reverse.toArray := by
  have e : (fun (k : Nat) => xs[(((xs.size : Int) - 1) + (k : Int) * (-1)).toNat]?) = (xs[·]?) ∘ fun k => xs.size - 1 - k := by
    funext k
    show xs[(((xs.size : Int) - 1) + (k : Int) * (-1)).toNat]? = xs[xs.size - 1 - k]?
    have z : (((xs.size : Int) - 1) + (k : Int) * (-1)).toNat = xs.size - 1 - k := by omega
    rw [z]
  rw [e, ← List.filterMap_map, PySem.W.krv_range, List.filterMap_reverse, PySem.W.krv_all]
theorem getItem_tuple_rev {t sl : Addr} {items : Array Value} {vl vu vs : Value} {Q : Value → Shared → Prop} (ht : IsTup s.heap t items) (hs : s.heap.IsSliceOf sl vl vu vs) (pl : IsPart vl none) (pu : IsPart vu none)
    (ps : IsPart vs (some (-1))) (h : Q (.ref s.heap.objs.size) { s with heap := s.heap.push { cls := .type "tuple", data := .seq items.toList.reverse.toArray } }) (hsz : items.size ≤ sizeLine) :
    wpAny (model prog w) A (getItem (.ref t) (.ref sl)) Q E s := by
  have htake : sizeOk (.seq items.toList.reverse.toArray) := by
    show items.toList.reverse.toArray.size ≤ sizeLine
    rw [List.size_toArray, List.length_reverse, Array.length_toList]
    exact hsz
  obtain ⟨os, hos, hcs, hds⟩ := id hs
  have hTs : s.TypeIs (.ref sl) "slice" := ⟨os, hos, hcs⟩
  unfold getItem
  try with_reducible refine wpAny_holding ?_
  first | refine wpAny_bind (wpAny_pure ?_) | skip
  refine wpAny_bind (wpAny_sequenceKey ht.typeIs (by decide) ?_)
  refine wpAny_bind (wpAny_callSpecial?_slot (name := Str.ofString "__getitem__") ht.typeIs PyProof.Rows.slot_tuple_getitem (wpAny_call_entry PyProof.Rows.slot_tuple_getitem ht.typeIs entry_tuple_getitem ?_ (args_tuple_getitem _ _)))
  show wpAny _ _ (Builtin.Tuple.tupleItemsOf (.ref t) >>= _) _ _ s
  refine wpAny_bind (tupleItemsOf_ ht (wpAny_bind (wpAny_typeOf hTs ?_)))
  rw [if_pos (by decide)]
  refine wpAny_bind (applied_rev hs pl pu ps ?_)
  have hno : ¬ ((((items.size : Int) - 1) == 0 && (-1 : Int) == 1 && items.size == items.size) = true) := by
    simp
  show wpAny _ _ (if (((items.size : Int) - 1) == 0 && (-1 : Int) == 1 && items.size == items.size) = true then _ else _) _ _ s
  rw [if_neg hno, pick_rev]
  first
    | exact wpAny_bind (m := Builtin.Tuple.tupleExact _) (wpAny_newObj_type (wpAny_pure ⟨_, rfl, wpAny_pure h⟩) htake)
    | exact wpAny_bind (m := Builtin.Tuple.tupleExact _) (wpAny_newObj_type (wpAny_bind (wpAny_pure (wpAny_pure ⟨_, rfl, wpAny_pure h⟩))) htake)
    | exact wpAny_bind (wpAny_bind (m := Builtin.Tuple.tupleExact _) (wpAny_newObj_type (wpAny_pure (wpAny_pure ⟨_, rfl, wpAny_pure h⟩)) htake))
    | exact wpAny_bind (wpAny_bind (m := Builtin.Tuple.tupleExact _) (wpAny_newObj_type (wpAny_pure ⟨_, rfl, wpAny_pure h⟩) htake))
end
def tRevT (K : PySem.W.Frag) (te : TE) : TE := fun σ H Q => te σ H fun x H1 => ∃ a xs, x = .ref a ∧ SqT K H1 a xs ∧ ∀ p, H1 p = none → Q (.ref p) (upd H1 p (.tup xs.reverse))
theorem pe_revT {X : Cx} {e : Expr} {te : TE} {k : Nat} {p1 p2 p3 pos : Pos} (he : PE X e te) :
    PE X (.Subscript e (.Slice none none (some (.UnaryOp .USub (.Constant (.int 1) k p1) p2)) p3) pos) (tRevT X.K te) := by
  refine ⟨fun pins s σ H Q I h => Subscript_ (thn (he.run pins s σ H _ I h) fun v s1 hh => ?_)⟩
  obtain ⟨x, H1, I1, r1, a, xs, ex, hx, q⟩ := hh
  subst ex
  cases r1
  have hst : PO X (some (.UnaryOp .USub (.Constant (.int 1) k p1) p2)) (tPart (tUn (rU fun i => .int (-i)) (tC (.int 1)))) := po_some (pe_un un_neg pe_int)
  refine wpAny_Slice (thn (po_none.run pins s1 σ H1 (fun o H2 => o = none ∧ H2 = H1) I1 ⟨rfl, rfl⟩) fun vl s2 h2 => ?_)
  obtain ⟨l, H2, I2, pl, el, e2⟩ := h2
  subst el e2
  refine thn (po_none.run pins s2 σ H2 (fun o H3 => o = none ∧ H3 = H2) I2 ⟨rfl, rfl⟩) fun vu s3 h3 => ?_
  obtain ⟨u, H3, I3, pu, eu, e3⟩ := h3
  subst eu e3
  refine thn (hst.run pins s3 σ H3 (fun o H4 => o = some (-1) ∧ H4 = H3) I3 ⟨1, rfl, -1, rfl, rfl, rfl⟩) fun vs s4 h4 => ?_
  obtain ⟨o, H4, I4, ps, eo, e4⟩ := h4
  subst eo e4
  have I5 : Inv X pins σ H4 { s4 with heap := s4.heap.push { cls := .type "slice", data := .fields #[vl, vu, vs] } } :=
    I4.kept (t' := s4.toks) fun b ob q => Heap.get?_push_of_some _ q
  obtain ⟨its, r, ht, hz⟩ := I5.tuple hx
  have hlen := r.length
  show wpAny (model X.prog X.w) X.A (subscriptTail e (.Slice none none (some (.UnaryOp .USub (.Constant (.int 1) k p1) p2)) p3) (.ref a) (.ref s4.heap.objs.size)) (EP X pins σ Q) X.xe
    { s4 with heap := s4.heap.push { cls := .type "slice", data := .fields #[vl, vu, vs] } }
  refine tail_any (ops := [.ref a, .ref s4.heap.objs.size]) ht.typeIs PyProof.Rows.slot_tuple_getitem.lookup ?_ (by with_unfolding_all rfl)
  refine getItem_tuple_rev ht (Heap.IsSliceOf.new _ vl vu vs) pl pu ps ?_ (by rw [List.size_toArray]; omega)
  refine ⟨.ref _, _, I5.laid (t' := s4.toks) (o := .tup xs.reverse) (fun b ob q => Heap.get?_push_of_some _ q) (Nat.le_refl _) ?_, rfl, q _ (I5.hok.fresh (Nat.le_refl _))⟩
  exact ⟨by rw [List.length_reverse]; exact hz, _, r.reverse, IsTup.new _ _⟩
end KS
namespace PySem
namespace XInvalidPlan
open PySem.W PySem.Calls PyProof.Rows PySem.HandSPX
/-! ### the text of __init__ -/
def iA (p1 p2 : Pos) : Arguments := { posonlyargs := [], args := [{ arg := "self", annotation := none, pos := p1 }, { arg := "index", annotation := none, pos := p2 }], vararg := none, kwonlyargs := [], kw_defaults := [], kwarg := none, defaults := [] }
def iB (q1 q2 q3 q4 : Pos) : List Stmt := [.Assign [.Attribute (.Name "self" q1) "index" q2] (.Name "index" q3) q4]
def iS : Scope := { kind := .function, names := [(PySem.Str.ofString "self", .local), (PySem.Str.ofString "index", .local)], isGenerator := false, isCoroutine := false, more := [] }
/-- what the written part says of Low, at C, and of its __init__, at fI -/
structure InvalidPlanTxt (K : Frag) (mg : Str → Option Value) (C fI : Addr) : Prop where
  gC : mg "InvalidPlan" = some (.ref C)
  cls : ∃ nm q N bs bm sn sub ab col dd k0 k1 k2 k3 k5, K.lookup C = some (excClassObj nm q C N bs bm true sn sub ab col dd k0 k1 k2 k3 k5 "ValueError.__new__") ∧ refsVE bm = true
  sa : findIn K (.ref C) "__setattr__" = some (some (.builtin "object.__setattr__"))
  ga : findIn K (.ref C) "__getattribute__" = some (some (.builtin "BaseException.__getattribute__"))
  gg : findIn K (.ref C) "__getattr__" = some none
  noN : findIn K (.ref C) "index" = some none
  iC : findIn K (.ref C) "__init__" = some (some (.ref fI))
  tC : typeIn K (.ref fI) = some (.type "function")
  kC : keepIn K (.ref C) = true
  exC : subIn K (.ref C) (.type "BaseException") = some true
  tyC : typeIn K (.ref C) = some (.type "type")
  hdC : hasDictIn K C = true
  te : exmOne K (.ref C) (.ref C) = some true
  fn : ∃ (oc : Value) (od : Option Addr) (doc pm : Value) (an : Option Addr) (cdv ct : Value) (osl : Array (Option Value)) (p1 p2 q1 q2 q3 q4 : Pos),
    K.lookup fI = some ⟨oc, od, .func (fnOf "__init__" "InvalidPlan.__init__" (iA p1 p2) (iB q1 q2 q3 q4) iS .none .none doc pm an cdv ct), osl⟩ ∧ codeIn K cdv "InvalidPlan.__init__" = true
theorem one_size (v : Value) : [v].length ≤ sizeLine := by
  rw [sizeLine_eq]
  exact (by decide : 1 ≤ 16777216)
theorem kept_but {K : Frag} {h h' : Heap} {x : Addr} (X : K.In h) (hx : K.lookup x = none) (k : ∀ b o, b ≠ x → h.get? b = some o → h'.get? b = some o) : K.In h' := fun a o e =>
  k a o (fun z => by rw [z, hx] at e; cases e) (X a o e)
theorem ldC {M : Model} {s : Shared} {name : Str} {scope : Scope} {L a : Addr} {cd : Value} {m : Str → Option Value} {x : Str} {pos : Pos} {v : Value} {Q : Value → Shared → Prop} {A : Around} {E : Value → Shared → Prop} (hn : s.heap.Ns L m) (hv : m x = some v) (h : Q v s)
    (hk : scope.kind = .function := by rfl) (hl : (envOfC name scope L a cd).kindOf x = some .local := by rfl) (hd : (x == ("__debug__" : Str)) = false := by decide) :
    wpAny M A (eval (.Name x pos) (envOfC name scope L a cd)) Q E s := wpAny_Name (wpAny_loadName_local hk hl hn hv h) hd
/-- what __init__ leaves of a fresh exception at x -/
structure InitEnd (h h' : Heap) (x C dx t1 : Addr) (v : Value) : Prop where
  keep : ∀ b o, b ≠ x → h.get? b = some o → h'.get? b = some o
  obj : h'.get? x = some { cls := .ref C, dict := some dx, data := .fields #[.ref t1, .none, .none, .none, .bool false, .none] }
  dbig : h.objs.size ≤ dx
  dne : dx ≠ x
  ns : h'.Ns1 dx (fun y => if y = "index" then some v else none)
/-- made -/
structure OwnMade (h h' : Heap) (e C d : Addr) (v : Value) : Prop where
  keep : ∀ b o, h.get? b = some o → h'.get? b = some o
  new : h.objs.size ≤ e
  obj : ∃ oe vs, h'.get? e = some oe ∧ oe.cls = .ref C ∧ oe.dict = some d ∧ oe.data = .fields vs ∧ vs[1]? = some .none
  dbig : h.objs.size ≤ d
  dne : d ≠ e
  ns : h'.Ns1 d (fun y => if y = "index" then some v else none)
section
variable {prog : Program} {w : World} {A : Around} {E : Value → Shared → Prop} {R : Result → Shared → Prop} {s : Shared} {K : Frag} {mg : Str → Option Value} {C fI : Addr}
theorem _initInvalidPlan (T : InvalidPlanTxt K mg C fI) {x t0 : Addr} {v : Value} (X : K.In s.heap) (hlim : s.heap.NoLimit) (hx : s.heap.get? x = some (excO C t0)) (hnx : K.lookup x = none) (hroom : A.depth < recursionLimit)
    (hq : ∀ h' tk dx, InitEnd s.heap h' x C dx t0 v → R (.ok (.ret .none)) { s with heap := h', toks := tk }) :
    codeAny (model prog w) A (.call (.ref fI) ⟨[.ref x, v], []⟩) R s := by
  obtain ⟨oc, od, doc, pm, an, cdv, ct, osl, p1, p2, q1, q2, q3, q4, ho, hcd⟩ := T.fn
  obtain ⟨nm, q, N, bs, bm, sn, sub, ab, col, dd, k0, k1, k2, k3, k5, hC, hbm⟩ := T.cls
  have hcl : clsIn K C = some { name := nm, bases := bs, mro := .ref C :: bm, ns := N, qualname := q, hasDict := true, slotNames := sn, subclasses := sub, abstract := ab, collection := col, hasDel := false } := by unfold clsIn; rw [hC] <;> rfl
  refine Att.call_fn (binds := [("self", .ref x), ("index", v)]) X hlim ho hcd hroom (BindsTo.of_eq (by first | rfl | with_unfolding_all rfl)) (by first | rfl | decide | with_unfolding_all rfl) (fun s₁ IC => ?_) rfl rfl rfl
  obtain ⟨h₁, tk₁, rfl⟩ := IC.toInCall.same
  have k : ∀ b o, s.heap.get? b = some o → h₁.get? b = some o := IC.toInCall.keep
  have hn := IC.toInCall.ns
  have hxL : s.heap.objs.size ≠ x := Nat.ne_of_gt (Heap.lt_size hx)
  have X₁ : K.In h₁ := X.keeps k
  have hx₁ := k _ _ hx
  -- self.f = f
  show wpAny _ _ (execs _ _) _ _ _
  refine wpAny_execs_cons (plainObj_wpAny_Assign_Attribute ?_)
  refine ldC (v := v) hn (by first | rfl | with_unfolding_all rfl | kernel_rfl) (ldC (v := .ref x) hn (by first | rfl | with_unfolding_all rfl | kernel_rfl) ?_)
  refine set_plain X₁ (ox := excO C t0) (od := none) ⟨hx₁, rfl, rfl, trivial⟩ T.sa ?_
  refine exc_osa X₁ hx₁ hcl (show refsVE (.ref C :: bm) = true from hbm) rfl T.noN (fun h₃ tk₃ dx k₃ dn dne hx₃ hn₃ => ?_)
  show wpAny _ _ (execs _ _) _ _ _
  have z : s.heap.objs.size < h₁.objs.size := hn.lt
  exact wpAny_execs_nil (hq h₃ tk₃ dx ⟨fun b o hb e => k₃ b o hb (k b o e), hx₃, Nat.le_of_lt (Nat.lt_of_lt_of_le z dn), dne, hn₃⟩)
theorem _madeInvalidPlan (T : InvalidPlanTxt K mg C fI) {v : Value} (X : K.In s.heap) (hlim : s.heap.NoLimit) (hroom : A.depth + 1 < recursionLimit)
    (hq : ∀ h' tk e d, OwnMade s.heap h' e C d v → R (.ok (.ret (.ref e))) { s with heap := h', toks := tk }) :
    codeAny (model prog w) A (.call (.ref C) ⟨[v], []⟩) R s := by
  obtain ⟨nm, q, N, bs, bm, sn, sub, ab, col, dd, k0, k1, k2, k3, k5, hC, hbm⟩ := T.cls
  obtain ⟨hp, g, dr, tk, os⟩ := s
  have k : ∀ b o, hp.get? b = some o → ((hp.push (kdv_tup [v])).push (excO C hp.objs.size)).get? b = some o := fun b o e => Heap.get?_push_of_some _ (Heap.get?_push_of_some _ e)
  have hget : ((hp.push (kdv_tup [v])).push (excO C hp.objs.size)).get? (hp.objs.size + 1) = some (excO C hp.objs.size) := by heap_get
  have hnx : K.lookup (hp.objs.size + 1) = none := by
    cases e : K.lookup (hp.objs.size + 1) with
    | none => rfl
    | some o =>
      have z : hp.get? (hp.objs.size + 1) = some o := X _ _ e
      exact absurd (Nat.lt_of_succ_lt (Heap.lt_size z)) (Nat.lt_irrefl _)
  refine call_own F.excBase_ValueError (fun X => refsVE_contains X bm hbm) (X _ _ hC) (looks_findIn X T.iC) (fun self => bind_fn X self T.tC) (one_size v) ?_
  refine _initInvalidPlan (s := ⟨(hp.push (kdv_tup [v])).push (excO C hp.objs.size), g, dr, tk, os⟩) T (X.keeps k) (hlim.keeps k) hget hnx ?_ fun h' tk' dx ⟨k', hx, dn, dne, hns⟩ => ?_
  · show A.depth + 1 < recursionLimit
    exact hroom
  · have old : ∀ b o, hp.get? b = some o → h'.get? b = some o := fun b o e => k' b o (Nat.ne_of_lt (Nat.lt_succ_of_lt (Heap.lt_size e))) (k b o e)
    have z : hp.objs.size + 1 + 1 ≤ dx := by
      first
        | (simpa only [Heap.size_push] using dn)
        | exact dn
        | (have q := dn; rw [Heap.size_push, Heap.size_push] at q; exact q)
    exact ⟨rfl, hq h' tk' (hp.objs.size + 1) dx ⟨old, Nat.le_succ _, ⟨_, _, hx, rfl, rfl, rfl, rfl⟩, Nat.le_trans (Nat.le_trans (Nat.le_succ _) (Nat.le_succ _)) z, dne, hns⟩⟩
end
end XInvalidPlan
end PySem
namespace L2
open PySem PySem.Spec PyProof.Rows
theorem relO_InvalidPlan {v : V} {v' : Value} (r : RelV v v') (f : Str) : RelO (List.lookup f [(("index" : Str), v)]) (if f = "index" then some v' else none) := by
  by_cases hw : f = "index"
  · subst hw
    rw [if_pos rfl]
    have q : List.lookup ("index" : Str) [(("index" : Str), v)] = some v := by simp [List.lookup]
    rw [q]
    exact r
  · rw [if_neg hw]
    have qw : (f == ("index" : Str)) = false := by simpa using hw
    have q2 : List.lookup f [(("index" : Str), v)] = none := by simp [List.lookup, qw]
    rw [q2]
    trivial
section
variable {X : Cx} {C fI : Addr}
/-- Low(e) -/
def tMkInvalidPlan (C : Addr) (ta : TA) : St → Hp → XK → Prop := fun σ H Q => ta σ H fun vs H1 => ∃ v, vs = [v] ∧ ∀ d, H1 d = none → Q (.ref C) (some d) (upd H1 d (.xd [(("index" : Str), v)]))
theorem pmk_InvalidPlan {a : Expr} {ta : TA} {p pos : Pos} {k : Nat} (T : PySem.XInvalidPlan.InvalidPlanTxt X.K X.mg C fI) (hr : Room k X.A) (ha : PA X [a] ta) (hg : Gl X "InvalidPlan" := by rfl)
    (he : starEach (a :: []) X.env = (false, eval a X.env) :: starEach [] X.env := by rfl) (hpl : (backTo pos (starEach [] X.env)).any (·.1) = false := by rfl) :
    PMk X (.Call (.Name "InvalidPlan" p) [a] [] pos) (tMkInvalidPlan C ta) := by
  intro pins s σ H Q I h
  refine wpAny_Call_Name_kw (ld_glob I hg T.gC ?_)
  refine PySem.W.callWith_K (h₀ := X.base) I.ok.mod.kin T.kC (thn (ha.run pos pins s σ H _ I h) fun us s1 hh => ?_) he hpl
  obtain ⟨vs, H1, I1, r1, v, ev, q1⟩ := hh
  subst ev
  refine ⟨I1.kIn, ?_⟩
  cases r1 with
  | cons rv rn =>
    rename_i v' us'
    cases rn
    show wpAny _ _ (call (.ref C) [v']) _ _ _
    have hlim := I1.nolimit
    obtain ⟨hp, g, dr, tk, os⟩ := s1
    refine wpAny_call (PySem.XInvalidPlan._madeInvalidPlan T I1.kIn hlim (by have := hr.dp; omega) fun h' tk' e d M => ?_)
    show MkP X pins σ Q (.ref e) ⟨h', g, dr, tk', os⟩
    obtain ⟨oe, fv, hoe, hc, hd, hdat, h1⟩ := M.obj
    have hns := M.ns
    obtain ⟨G', g1, g2⟩ := restrict h' fun b => decide (b ≠ e)
    have gk : ∀ b, b ≠ e → G'.get? b = h'.get? b := fun b hb => g1 b (decide_eq_true hb)
    have ge : G'.get? e = none := g2 e (by simp)
    have old : ∀ b o, hp.get? b = some o → G'.get? b = some o := fun b o q => (gk b (Nat.ne_of_lt (Nat.lt_of_lt_of_le (Heap.lt_size q) M.new))).trans (M.keep b o q)
    have ob : ObjOk X.prog X.w (upd H1 d (.xd [(("index" : Str), v)])) G' d (.xd [(("index" : Str), v)]) :=
      ⟨_, hns.at (fun o q => (gk d M.dne).trans q), fun f => relO_InvalidPlan rv f⟩
    have J : Inv X pins σ (upd H1 d (.xd [(("index" : Str), v)])) ⟨G', g, dr, tk', os⟩ := I1.laid (t' := tk') old M.dbig ob
    refine ⟨e, oe, fv, ⟨G', g, dr, tk', os⟩, _, .ref C, some d, rfl, J, fun b o q => ?_, ge, hoe, ⟨hc, hd⟩, hdat, h1, ?_, rfl, I1.bare, raises_own T.exC T.tyC, q1 d (I1.hok.fresh M.dbig)⟩
    · by_cases hb : b = e
      · have q' : G'.get? b = some o := q
        rw [hb, ge] at q'; cases q'
      · exact (gk b hb).symm.trans q
    · rw [upd_ne (Ne.symm M.dne)]
      exact I1.hok.fresh M.new
/-- raise C(e) -/
def tRaiseInvalidPlan (C : Addr) (W : WX) (ta : TA) : TS := fun _ σ H => tMkInvalidPlan C ta σ H fun cls d H' => W cls d σ H'
theorem ps_raiseInvalidPlan {a : Expr} {ta : TA} {W : WX} {p pos pos2 : Pos} {k : Nat} (hc : X.calm = true) (T : PySem.XInvalidPlan.InvalidPlanTxt X.K X.mg C fI) (hr : Room k X.A) (tk : Takes X W) (ha : PA X [a] ta) (hg : Gl X "InvalidPlan" := by rfl)
    (he : starEach (a :: []) X.env = (false, eval a X.env) :: starEach [] X.env := by rfl) (hpl : (backTo pos (starEach [] X.env)).any (·.1) = false := by rfl) :
    PS X (.Raise (some (.Call (.Name "InvalidPlan" p) [a] [] pos)) none pos2) (tRaiseInvalidPlan C W ta) := ps_raise hc tk (pmk_InvalidPlan T hr ha hg he hpl)
/-- x.f, low the exception that the suite holds (at a; its class cls, its dict d) -/
def tByInvalidPlan (C : Addr) (a : Addr) (cls : Value) (d : Option Addr) (te : TE) : TE := fun σ H Q => te σ H fun x H1 => x = .ref a ∧ cls = .ref C ∧ ∃ (dd : Addr) (v : V), d = some dd ∧ H1 dd = some (.xd [(("index" : Str), v)]) ∧ Q v H1
theorem pe_byInvalidPlan {a : Addr} {oe : Obj} {cls : Value} {d : Option Addr} {pn : List (Addr × Obj)} {e : Expr} {te : TE} {pos : Pos} (T : PySem.XInvalidPlan.InvalidPlanTxt X.K X.mg C fI) (hz : Zc cls d oe) (hf : ∃ vs, oe.data = .fields vs) (he : PE (X.suite a ((a, oe) :: pn)) e te)
    (hb : attributeBase e "index" X.env (eval e X.env) = eval e X.env := by rfl) :
    PE (X.suite a ((a, oe) :: pn)) (.Attribute e "index" pos) (tByInvalidPlan C a cls d te) := by
  refine ⟨fun pins s σ H Q I h => ?_⟩
  refine attr_of hb (thn (he.run pins s σ H _ I h) fun u s1 hh => ?_)
  obtain ⟨x, H1, I1, rx, ex, ec, dd, v, ed, ea, q⟩ := hh
  subst ex
  obtain rfl : u = Value.ref a := rx
  subst ec
  subst ed
  obtain ⟨ha, _⟩ := I1.pin (a, oe) (List.mem_append_left _ List.mem_cons_self)
  obtain ⟨vs, hd⟩ := hf
  have hx : ObjOk X.prog X.w H1 s1.heap dd (.xd [(("index" : Str), v)]) := I1.hok dd _ ea
  obtain ⟨mA, hns, hr⟩ := hx
  obtain ⟨od, ho, hl⟩ := lookIn_ns hns
  have l : List.lookup ("index" : Str) [(("index" : Str), v)] = some v := by simp [List.lookup]
  obtain ⟨u, hu, ru⟩ := RelO.some_of (v := v) (o := mA "index") (by rw [← l]; exact hr "index")
  have J : PySem.W.InstAt s1.heap a oe C (some od) := ⟨ha, hz.1, by unfold PySem.W.notCls; rw [hd] <;> rfl, by rw [hz.2]; exact ho⟩
  exact HandSPX.exc_get I1.kIn J T.ga T.gg T.exC (PySem.W.findObj_own T.hdC T.noN rfl (by rw [hl, hu])) (handed_of ru) ⟨v, H1, I1.tok _, ru, q⟩
end
end L2

namespace KS
open PySem PySem.Spec PyProof.Rows L2
theorem exm_self {K : PySem.W.Frag} {S : Addr} (h1 : PySem.W.subIn K (.ref S) (.type "BaseException") = some true) (h2 : PySem.W.isClsIn K S = true) (h3 : PySem.W.typeIn K (.ref S) = some (.type "type")) (h4 : PySem.W.subIn K (.ref S) (.ref S) = some true) :
    PySem.W.exmOne K (.ref S) (.ref S) = some true := by
  have e1 : (PySem.W.subIn K (.ref S) (.type "BaseException") == some true) = true := by rw [h1] <;> rfl
  have e2 : ((PySem.W.clsIn K S).isSome && PySem.W.typeIn K (.ref S) == some (.type "type")) = true := by
    have h2' : (PySem.W.clsIn K S).isSome = true := h2
    rw [h2', h3] <;> rfl
  show (if (PySem.W.subIn K (.ref S) (.type "BaseException") == some true) = true then (if ((PySem.W.clsIn K S).isSome && PySem.W.typeIn K (.ref S) == some (.type "type")) = true then PySem.W.subIn K (.ref S) (.ref S) else none) else none) = some true
  rw [if_pos e1, if_pos e2]
  exact h4
end KS
namespace KS
open PySem PySem.Spec PyProof.Rows L2
/-! ### things of any kind, as is_plan and its law look at them -/
inductive Oth (K : PySem.W.Frag) (H : Hp) : V → String → Prop
  | non : Oth K H .non "NoneType"
  | bl (b : Bool) : Oth K H (.bl b) "bool"
  | int (i : Int) : Oth K H (.int i) "int"
  | str (x : Str) : Oth K H (.str x) "str"
  | lst {a : Addr} {xs : List V} : H a = some (.lst xs) → Oth K H (.ref a) "list"
  | dct {a : Addr} {kvs : List (Key × V)} : H a = some (.dK kvs) → Oth K H (.ref a) "dict"
  | tup {a : Addr} {xs : List V} : SqT K H a xs → Oth K H (.ref a) "tuple"
theorem Oth.ty {K : PySem.W.Frag} {H : Hp} {v : V} {t : String} (h : Oth K H v t) : TyX K H v (.type t) := by
  cases h with
  | non => exact .base .non
  | bl b => exact .base (.bl b)
  | int i => exact .base (.int i)
  | str x => exact .base (.str x)
  | lst e => exact .base (.lst e)
  | dct e => exact .base (.dK e)
  | tup e => exact tyx_tup e
/-- a number of a row or column (true), or a known other thing -/
def PlR (K : PySem.W.Frag) (H : Hp) (v : V) : Bool → Prop
  | true => ∃ i, v = .int i ∧ 0 ≤ i ∧ i ≤ 7
  | false => (∃ i, v = .int i ∧ ¬ (0 ≤ i ∧ i ≤ 7)) ∨ ∃ t, Oth K H v t ∧ t ≠ "int"
/-- an int between bounds (true), or a known other thing -/
def BwR (K : PySem.W.Frag) (H : Hp) (v : V) (lo hi : Int) : Bool → Prop
  | true => ∃ i, v = .int i ∧ lo ≤ i ∧ i ≤ hi
  | false => (∃ i, v = .int i ∧ ¬ (lo ≤ i ∧ i ≤ hi)) ∨ ∃ t, Oth K H v t ∧ t ≠ "int"
def spBetweenG (K : PySem.W.Frag) : Sp := fun vs H Q _ => ∃ (v : V) (lo hi : Int) (b : Bool), vs = [v, .int lo, .int hi] ∧ BwR K H v lo hi b ∧ Q (.bl b) H
theorem bw_of_pl {K : PySem.W.Frag} {H : Hp} {v : V} {b : Bool} (h : PlR K H v b) : BwR K H v 0 7 b := by
  cases b <;> exact h
/-- a cell, or a known other thing -/
def ElR (K : PySem.W.Frag) (H : Hp) (x : V) : Option Cell → Prop
  | some c => CellAt K H x c ∧ InGrid c
  | none => (∃ t, Oth K H x t ∧ t ≠ "tuple") ∨ (∃ t ys, x = .ref t ∧ SqT K H t ys ∧ ys.length ≠ 2) ∨
      ∃ t y0 y1 b0 b1, x = .ref t ∧ SqT K H t [y0, y1] ∧ PlR K H y0 b0 ∧ PlR K H y1 b1 ∧ (b0 && b1) = false
abbrev Els (K : PySem.W.Frag) (H : Hp) : List V → List (Option Cell) → Prop := Paired (ElR K H)
/-- the first i elements are cells that ascend -/
def OkTo (rs : List (Option Cell)) (i : Nat) : Prop := ∀ j, j < i → ∃ c, rs[j]? = some (some c) ∧ ∀ k, j = k + 1 → ∃ c', rs[k]? = some (some c') ∧ lt2 c' c
def BadAt (rs : List (Option Cell)) (i : Nat) : Prop := rs[i]? = some none ∨ ∃ c c' k, rs[i]? = some (some c) ∧ i = k + 1 ∧ rs[k]? = some (some c') ∧ ¬ lt2 c' c
inductive Verd | ok | non | at (i : Nat)
/-- what a thing is worth as a plan -/
def PlanV (K : PySem.W.Frag) (H : Hp) (v : V) : Verd → Prop
  | .ok => ∃ a xs rs, v = .ref a ∧ SqT K H a xs ∧ 1 ≤ xs.length ∧ xs.length ≤ 24 ∧ Els K H xs rs ∧ OkTo rs rs.length
  | .non => (∃ t, Oth K H v t ∧ t ≠ "tuple") ∨ ∃ a xs, v = .ref a ∧ SqT K H a xs ∧ (xs.length = 0 ∨ 24 < xs.length)
  | .at i => ∃ a xs rs, v = .ref a ∧ SqT K H a xs ∧ 1 ≤ xs.length ∧ xs.length ≤ 24 ∧ Els K H xs rs ∧ OkTo rs i ∧ BadAt rs i
def Verd.good : Verd → Bool
  | .ok => true
  | _ => false
theorem lt2_dec (a b : Cell) : lt2 a b ∨ ¬ lt2 a b := Classical.em _
/-- each list of verdicts has a first fault, or none -/
theorem first_bad (rs : List (Option Cell)) : ∀ n, n ≤ rs.length → OkTo rs n ∨ ∃ i, i < n ∧ OkTo rs i ∧ BadAt rs i
  | 0, _ => .inl fun j hj => absurd hj (Nat.not_lt_zero _)
  | n + 1, h => by
    rcases first_bad rs n (by omega) with ok | ⟨i, h1, h2, h3⟩
    · have hn : n < rs.length := by omega
      cases e : rs[n]? with
      | none =>
        have := List.getElem?_eq_none_iff.mp e
        omega
      | some o =>
        cases o with
        | none => exact .inr ⟨n, by omega, ok, .inl e⟩
        | some c =>
          have fin : (∀ k, n = k + 1 → ∃ c', rs[k]? = some (some c') ∧ lt2 c' c) → OkTo rs (n + 1) := fun q j hj => by
            by_cases z : j < n
            · exact ok j z
            · have : j = n := by omega
              subst this
              exact ⟨c, e, q⟩
          cases n with
          | zero => exact .inl (fin fun k z => by omega)
          | succ m =>
            obtain ⟨c', e', _⟩ := ok m (by omega)
            rcases lt2_dec c' c with z | z
            · exact .inl (fin fun k hk => by
                have : k = m := by omega
                subst this
                exact ⟨c', e', z⟩)
            · exact .inr ⟨m + 1, by omega, ok, .inr ⟨c, c', m, e, rfl, e', z⟩⟩
    · exact .inr ⟨i, by omega, h2, h3⟩
/-- a tuple whose elements are known has a worth -/
theorem planV_of {K : PySem.W.Frag} {H : Hp} {a : Addr} {xs : List V} {rs : List (Option Cell)} (h : SqT K H a xs) (e : Els K H xs rs) : ∃ v, PlanV K H (.ref a) v := by
  by_cases c : xs.length = 0 ∨ 24 < xs.length
  · exact ⟨.non, .inr ⟨a, xs, rfl, h, c⟩⟩
  · have hl := Paired.length e
    rcases first_bad rs rs.length (Nat.le_refl _) with ok | ⟨i, _, h2, h3⟩
    · exact ⟨.ok, a, xs, rs, rfl, h, by omega, by omega, e, ok⟩
    · exact ⟨.at i, a, xs, rs, rfl, h, by omega, by omega, e, h2, h3⟩
theorem els_cells {K : PySem.W.Frag} {H : Hp} : ∀ {xs : List V} {cs : List Cell}, CellsAt K H xs cs → (∀ c ∈ cs, InGrid c) → Els K H xs (cs.map some)
  | _, _, .nil, _ => .nil
  | _, _, .cons r t, g => .cons ⟨r, g _ List.mem_cons_self⟩ (els_cells t fun c hc => g c (List.mem_cons_of_mem _ hc))
theorem okTo_good {cs : List Cell} (h : cs.Pairwise lt2) : OkTo (cs.map some) (cs.map some).length := by
  intro j hj
  rw [List.length_map] at hj
  refine ⟨cs[j], by rw [List.getElem?_map, List.getElem?_eq_getElem hj]; rfl, fun k hk => ?_⟩
  subst hk
  have hk : k < cs.length := by omega
  exact ⟨cs[k], by rw [List.getElem?_map, List.getElem?_eq_getElem hk]; rfl, (List.pairwise_iff_getElem.mp h) k (k + 1) hk hj (by omega)⟩
theorem planV_good {K : PySem.W.Frag} {H : Hp} {a : Addr} {cs : List Cell} (h : PlanAt K H a cs) (g : Good cs) (hl : cs.length ≤ 24) : PlanV K H (.ref a) .ok := by
  obtain ⟨xs, h1, h2⟩ := h
  have hlen := Paired.length h2
  have hpos : 0 < cs.length := by
    rcases Nat.eq_zero_or_pos cs.length with z | z
    · exact absurd (List.eq_nil_of_length_eq_zero z) g.ne
    · exact z
  exact ⟨a, xs, cs.map some, rfl, h1, by omega, by omega, els_cells h2 g.grid, okTo_good g.asc⟩
/-! ### what stays -/
theorem Oth.same {K : PySem.W.Frag} {H H' : Hp} {v : V} {t : String} (s : Same H H') (h : Oth K H v t) : Oth K H' v t := by
  cases h with
  | non => exact .non
  | bl b => exact .bl b
  | int i => exact .int i
  | str x => exact .str x
  | lst e => exact .lst (s _ _ e)
  | dct e => exact .dct (s _ _ e)
  | tup e => exact .tup (same_seqT s e)
theorem PlR.same {K : PySem.W.Frag} {H H' : Hp} {v : V} {b : Bool} (s : Same H H') (h : PlR K H v b) : PlR K H' v b := by
  cases b with
  | true => exact h
  | false =>
    rcases h with h | ⟨t, h, n⟩
    · exact .inl h
    · exact .inr ⟨t, h.same s, n⟩
theorem ElR.same {K : PySem.W.Frag} {H H' : Hp} {x : V} {o : Option Cell} (s : Same H H') (h : ElR K H x o) : ElR K H' x o := by
  cases o with
  | some c => exact ⟨h.1.kt (.of_same s), h.2⟩
  | none =>
    rcases h with ⟨t, h, n⟩ | ⟨t, ys, e, h, n⟩ | ⟨t, y0, y1, b0, b1, e, h, p0, p1, n⟩
    · exact .inl ⟨t, h.same s, n⟩
    · exact .inr (.inl ⟨t, ys, e, same_seqT s h, n⟩)
    · exact .inr (.inr ⟨t, y0, y1, b0, b1, e, same_seqT s h, p0.same s, p1.same s, n⟩)
theorem els_same {K : PySem.W.Frag} {H H' : Hp} (s : Same H H') {xs : List V} {rs : List (Option Cell)} (h : Els K H xs rs) : Els K H' xs rs := Paired.mono (fun _ _ q => q.same s) h
theorem PlanV.same {K : PySem.W.Frag} {H H' : Hp} {v : V} {b : Verd} (s : Same H H') (h : PlanV K H v b) : PlanV K H' v b := by
  cases b with
  | ok =>
    obtain ⟨a, xs, rs, e, h1, h2, h3, h4, h5⟩ := h
    exact ⟨a, xs, rs, e, same_seqT s h1, h2, h3, els_same s h4, h5⟩
  | non =>
    rcases h with ⟨t, h, n⟩ | ⟨a, xs, e, h, n⟩
    · exact .inl ⟨t, h.same s, n⟩
    · exact .inr ⟨a, xs, e, same_seqT s h, n⟩
  | «at» i =>
    obtain ⟨a, xs, rs, e, h1, h2, h3, h4, h5⟩ := h
    exact ⟨a, xs, rs, e, same_seqT s h1, h2, h3, els_same s h4, h5⟩
/-! ### the promises -/
def spWholeG (K : PySem.W.Frag) : Sp := fun vs H Q _ => ∃ (v : V) (t : String), vs = [v] ∧ Oth K H v t ∧ Q (.bl (decide (t = "int"))) H
def spPlaceG (K : PySem.W.Frag) : Sp := fun vs H Q _ => ∃ (v : V) (b : Bool), vs = [v] ∧ PlR K H v b ∧ Q (.bl b) H
def spIsCellG (K : PySem.W.Frag) : Sp := fun vs H Q _ => ∃ (v : V) (o : Option Cell), vs = [v] ∧ ElR K H v o ∧ ∀ H', Same H H' → Q (.bl o.isSome) H'
def vIdx : Verd → V
  | .at i => .int (i : Nat)
  | _ => .non
def spCheckG (K : PySem.W.Frag) (C : Addr) : Sp := fun vs H Q E => ∃ (v : V) (b : Verd), vs = [v] ∧ PlanV K H v b ∧ (b.good = true → ∀ H', Same H H' → Q .non H') ∧
  (b.good = false → ∀ H' d, Same H H' → H d = none → H' d = some (.xd [(("index" : Str), vIdx b)]) → E (.ref C) (some d) H')
def spIsPlan (K : PySem.W.Frag) : Sp := fun vs H Q _ => ∃ (v : V) (b : Verd), vs = [v] ∧ PlanV K H v b ∧ ∀ H', Same H H' → Q (.bl b.good) H'
theorem le2_iff {a b : Cell} : Ob.lexAt (fun j => decide (([b.1, b.2] : List Int).getD j 0 = ([a.1, a.2] : List Int).getD j 0)) (fun j => decide (([b.1, b.2] : List Int).getD j 0 ≤ ([a.1, a.2] : List Int).getD j 0)) (decide (([b.1, b.2] : List Int).length ≤ ([a.1, a.2] : List Int).length)) 0 (min ([b.1, b.2] : List Int).length ([a.1, a.2] : List Int).length) = true ↔ ¬ lt2 a b := by
  constructor
  · intro h z
    rw [not_le2 z] at h
    cases h
  · intro h
    show Ob.lexAt _ _ _ 0 2 = true
    rw [Ob.lexAt_succ, Ob.lexAt_succ]
    show (if decide (b.1 = a.1) = true then (if decide (b.2 = a.2) = true then _ else decide (b.2 ≤ a.2)) else decide (b.1 ≤ a.1)) = true
    unfold lt2 at h
    by_cases e1 : b.1 = a.1
    · rw [if_pos (by simpa using e1)]
      by_cases e2 : b.2 = a.2
      · rw [if_pos (by simpa using e2)]
        rfl
      · rw [if_neg (by simpa using e2)]
        simp
        omega
    · rw [if_neg (by simpa using e1)]
      simp
      omega
/-- isinstance's answers -/
theorem kit_int {K : PySem.W.Frag} {H : Hp} {v : V} {t : String} (h : Oth K H v t) : PySem.W.kitOne K (.type t) (.type "int") = some (decide (t = "int" ∨ t = "bool")) := by
  cases h <;> exact kit_ty (by decide +kernel)
theorem kit_bool {K : PySem.W.Frag} {H : Hp} {v : V} {t : String} (h : Oth K H v t) : PySem.W.kitOne K (.type t) (.type "bool") = some (decide (t = "bool")) := by
  cases h <;> exact kit_ty (by decide +kernel)
theorem kit_tuple {K : PySem.W.Frag} {H : Hp} {v : V} {t : String} (h : Oth K H v t) : PySem.W.kitOne K (.type t) (.type "tuple") = some (decide (t = "tuple")) := by
  cases h <;> exact kit_ty (by decide +kernel)
end KS
namespace KS
open PySem PySem.Spec PyProof.Rows L2
theorem ok_notBad {rs : List (Option Cell)} {n i : Nat} (h : OkTo rs n) (hi : i < n) : ¬ BadAt rs i := by
  obtain ⟨c, e, k⟩ := h i hi
  rintro (z | ⟨c1, c2, j, e1, e2, e3, e4⟩)
  · rw [e] at z
    cases z
  · rw [e] at e1
    cases e1
    obtain ⟨c3, e5, e6⟩ := k j e2
    rw [e3] at e5
    cases e5
    exact e4 e6
theorem bad_lt {rs : List (Option Cell)} {i : Nat} (h : BadAt rs i) : i < rs.length := by
  rcases h with z | ⟨c1, c2, j, e1, _⟩
  · exact (List.getElem?_eq_some_iff.mp z).1
  · exact (List.getElem?_eq_some_iff.mp e1).1
/-- the two ways of a tuple of a right length -/
def TwoWays (rs : List (Option Cell)) (b : Verd) : Prop := (b.good = true ∧ OkTo rs rs.length) ∨ ∃ i, b = .at i ∧ OkTo rs i ∧ BadAt rs i
theorem TwoWays.bad {rs : List (Option Cell)} {b : Verd} {i : Nat} (h : TwoWays rs b) (ok : OkTo rs i) (bad : BadAt rs i) : b = .at i := by
  rcases h with ⟨_, h⟩ | ⟨j, e, h1, h2⟩
  · exact absurd bad (ok_notBad h (bad_lt bad))
  · have : i = j := by
      rcases Nat.lt_trichotomy i j with z | z | z
      · exact absurd bad (ok_notBad h1 z)
      · exact z
      · exact absurd h2 (ok_notBad ok z)
    rw [this]
    exact e
theorem TwoWays.ok {rs : List (Option Cell)} {b : Verd} (h : TwoWays rs b) (ok : OkTo rs rs.length) : b.good = true := by
  rcases h with ⟨h, _⟩ | ⟨j, e, h1, h2⟩
  · exact h
  · exact absurd h2 (ok_notBad ok (bad_lt h2))
theorem PlanV.split {K : PySem.W.Frag} {H : Hp} {v : V} {b : Verd} (h : PlanV K H v b) : (b = .non ∧ ((∃ t, Oth K H v t ∧ t ≠ "tuple") ∨ ∃ a xs, v = .ref a ∧ SqT K H a xs ∧ (xs.length = 0 ∨ 24 < xs.length))) ∨
    ∃ a xs rs, v = .ref a ∧ SqT K H a xs ∧ 1 ≤ xs.length ∧ xs.length ≤ 24 ∧ Els K H xs rs ∧ TwoWays rs b := by
  cases b with
  | ok =>
    obtain ⟨a, xs, rs, e, h1, h2, h3, h4, h5⟩ := h
    exact .inr ⟨a, xs, rs, e, h1, h2, h3, h4, .inl ⟨rfl, h5⟩⟩
  | non => exact .inl ⟨rfl, h⟩
  | «at» i =>
    obtain ⟨a, xs, rs, e, h1, h2, h3, h4, h5, h6⟩ := h
    exact .inr ⟨a, xs, rs, e, h1, h2, h3, h4, .inr ⟨i, rfl, h5, h6⟩⟩
theorem okTo_succ {rs : List (Option Cell)} {i : Nat} {c : Cell} (h : OkTo rs i) (e : rs[i]? = some (some c)) (k : ∀ j, i = j + 1 → ∃ c', rs[j]? = some (some c') ∧ lt2 c' c) : OkTo rs (i + 1) := fun j hj => by
  by_cases z : j < i
  · exact h j z
  · have : j = i := by omega
    subst this
    exact ⟨c, e, k⟩
end KS
namespace KS
open PySem PySem.Spec PyProof.Rows L2
section
variable {K : PySem.W.Frag} {H H' : Hp} {p : Addr}
theorem Oth.keepX {v : V} {t : String} (hp : PoolO (H p)) (hp' : PoolO (H' p)) (k : KeepX p H H') (h : Oth K H v t) : Oth K H' v t := by
  obtain ⟨x1, x2, x3, e1, _⟩ := hp
  cases h with
  | non => exact .non
  | bl b => exact .bl b
  | int i => exact .int i
  | str x => exact .str x
  | @lst a xs e =>
    by_cases z : a = p
    · subst z
      obtain ⟨y1, y2, y3, e2, _⟩ := hp'
      exact .lst e2
    · exact .lst (k _ _ z e)
  | @dct a kvs e => exact .dct (k _ _ (ne_of e e1 (by intro q; cases q)) e)
  | tup e => exact .tup (keepX_seqT ⟨x1, x2, x3, e1, by assumption⟩ k e)
theorem PlR.keepX {v : V} {b : Bool} (hp : PoolO (H p)) (hp' : PoolO (H' p)) (k : KeepX p H H') (h : PlR K H v b) : PlR K H' v b := by
  cases b with
  | true => exact h
  | false =>
    rcases h with h | ⟨t, h, n⟩
    · exact .inl h
    · exact .inr ⟨t, h.keepX hp hp' k, n⟩
theorem ElR.keepX {x : V} {o : Option Cell} (hp : PoolO (H p)) (hp' : PoolO (H' p)) (k : KeepX p H H') (h : ElR K H x o) : ElR K H' x o := by
  cases o with
  | some c => exact ⟨h.1.kt (.of_keepX hp k), h.2⟩
  | none =>
    rcases h with ⟨t, h, n⟩ | ⟨t, ys, e, h, n⟩ | ⟨t, y0, y1, b0, b1, e, h, p0, p1, n⟩
    · exact .inl ⟨t, h.keepX hp hp' k, n⟩
    · exact .inr (.inl ⟨t, ys, e, keepX_seqT hp k h, n⟩)
    · exact .inr (.inr ⟨t, y0, y1, b0, b1, e, keepX_seqT hp k h, p0.keepX hp hp' k, p1.keepX hp hp' k, n⟩)
theorem PlanV.keepX {v : V} {b : Verd} (hp : PoolO (H p)) (hp' : PoolO (H' p)) (k : KeepX p H H') (h : PlanV K H v b) : PlanV K H' v b := by
  have lift : ∀ {xs : List V} {rs : List (Option Cell)}, Els K H xs rs → Els K H' xs rs := fun h => Paired.mono (fun _ _ q => q.keepX hp hp' k) h
  cases b with
  | ok =>
    obtain ⟨a, xs, rs, e, h1, h2, h3, h4, h5⟩ := h
    exact ⟨a, xs, rs, e, keepX_seqT hp k h1, h2, h3, lift h4, h5⟩
  | non =>
    rcases h with ⟨t, h, n⟩ | ⟨a, xs, e, h, n⟩
    · exact .inl ⟨t, h.keepX hp hp' k, n⟩
    · exact .inr ⟨a, xs, e, keepX_seqT hp k h, n⟩
  | «at» i =>
    obtain ⟨a, xs, rs, e, h1, h2, h3, h4, h5⟩ := h
    exact ⟨a, xs, rs, e, keepX_seqT hp k h1, h2, h3, lift h4, h5⟩
/-- odd things -/
theorem odd2 {t : Addr} {y0 y1 : V} {b0 b1 : Bool} (h : H t = some (.tup [y0, y1])) (p0 : PlR K H y0 b0) (p1 : PlR K H y1 b1) (n : (b0 && b1) = false) : ElR K H (.ref t) none :=
  .inr (.inr ⟨t, y0, y1, b0, b1, rfl, SqT.of h, p0, p1, n⟩)
theorem oddN {t : Addr} {ys : List V} (h : SqT K H t ys) (n : ys.length ≠ 2) : ElR K H (.ref t) none := .inr (.inl ⟨t, ys, rfl, h, n⟩)
theorem oddO {x : V} {t : String} (h : Oth K H x t) (n : t ≠ "tuple") : ElR K H x none := .inl ⟨t, h, n⟩
theorem pl_yes {i : Int} (h : 0 ≤ i ∧ i ≤ 7) : PlR K H (.int i) true := ⟨i, rfl, h.1, h.2⟩
theorem pl_no {i : Int} (h : ¬ (0 ≤ i ∧ i ≤ 7)) : PlR K H (.int i) false := .inl ⟨i, rfl, h⟩
theorem pl_oth {x : V} {t : String} (h : Oth K H x t) (n : t ≠ "int") : PlR K H x false := .inr ⟨t, h, n⟩
theorem odd_plan {a : Addr} {cs : List Cell} (h : PlanAt K H a cs) : ElR K H (.ref a) none := by
  obtain ⟨xs, h1, h2⟩ := h
  by_cases c : xs.length = 2
  · cases h2 with
    | nil => cases c
    | @cons x c0 xs1 cs1 r0 h3 =>
      cases h3 with
      | nil => cases c
      | @cons y c1 xs2 cs2 r1 h4 =>
        cases h4 with
        | cons _ _ =>
          simp at c
        | nil =>
          obtain ⟨t0, e0, q0⟩ := r0
          obtain ⟨t1, e1, q1⟩ := r1
          subst e0
          subst e1
          exact .inr (.inr ⟨a, _, _, false, false, rfl, h1, pl_oth (.tup q0) (by decide), pl_oth (.tup q1) (by decide), rfl⟩)
  · exact oddN h1 c
end
def spBent (K : PySem.W.Frag) : Sp := fun vs H Q _ => ∃ (p a : Addr) (cs : List Cell), vs = [.ref p, .ref a] ∧ PoolO (H p) ∧ PlanAt K H a cs ∧ Good cs ∧ cs.length ≤ 24 ∧
  ∀ H' v b, KeepX p H H' → PoolO (H' p) → PlanV K H' v b → Q v H'
end KS
namespace KS
open PySem PySem.Spec PyProof.Rows L2
section
variable {K : PySem.W.Frag} {σ : L2.St} {H : Hp} {Q : VK} {ta : TA}
/-- a display of values that are at hand: a new object -/
theorem tup_ok (vs : List V) (h : ∀ R : List V → Hp → Prop, R vs H → ta σ H R) (hl : vs.length ≤ 64) (k : ∀ H' t, Same H H' → H' t = some (.tup vs) → H t = none → Q (.ref t) H') : tTup ta σ H Q :=
  h _ ⟨Nat.le_of_lt (small64 hl), fun p np => k _ p (same_new np) upd_same np⟩
theorem lst_ok (vs : List V) (h : ∀ R : List V → Hp → Prop, R vs H → ta σ H R) (hl : vs.length ≤ 64) (k : ∀ H' t, Same H H' → H' t = some (.lst vs) → H t = none → Q (.ref t) H') : tLst ta σ H Q :=
  h _ ⟨Nat.le_of_lt (small64 hl), fun p np => k _ p (same_new np) upd_same np⟩
theorem dnew_ok (k : ∀ H' t, Same H H' → H' t = some (.dK []) → H t = none → Q (.ref t) H') : tDNewK σ H Q :=
  fun p np => k _ p (same_new np) upd_same np
theorem catA_ok {a b : Addr} {xs ys : List V} (ha : SqT K H a xs) (hb : SqT K H b ys) (hl : xs.length + ys.length ≤ 64)
    (k : ∀ H' u, Same H H' → SqT K H' u (xs ++ ys) → Q (.ref u) H') : rCatA K (.ref a) (.ref b) H Q := by
  refine ⟨a, b, xs, ys, rfl, rfl, ha, hb, Nat.le_of_lt (small64 hl), fun e => ?_, fun _ e => ?_, fun _ _ p np => ?_⟩
  · subst e
    exact k H b (Same.refl _) hb
  · subst e
    exact k H a (Same.refl _) (by rw [List.append_nil]; exact ha)
  · exact k _ p (same_new np) (SqT.of upd_same)
theorem cut_to {xs : List V} {k : Nat} (h : k ≤ xs.length) : cutV xs none (some (k : Int)) = xs.take k := by
  unfold cutV
  rw [HT.sIx_none, HT.sIx_nat, Nat.min_eq_left h]
  simp
theorem cut_from {xs : List V} {k : Nat} (h : k ≤ xs.length) : cutV xs (some (k : Int)) none = xs.drop k := by
  unfold cutV
  rw [HT.sIx_none, HT.sIx_nat, Nat.min_eq_left h]
  exact List.take_of_length_le (by rw [List.length_drop]; exact Nat.le_refl _)
/-- t[:k], t[k:], whatever object comes -/
theorem slTo_ok {a : Addr} {xs : List V} {n : Nat} (ha : SqT K H a xs) (hn : n ≤ xs.length) (k : ∀ H' u, Same H H' → SqT K H' u (xs.take n) → Q (.ref u) H') : rSlA K (.ref a) none (some (n : Int)) H Q := by
  refine ⟨a, xs, rfl, ha, fun z => ?_, fun _ p np => ?_⟩
  · obtain ⟨_, z2⟩ := z
    rw [show HT.sIx xs.length xs.length (some (n : Int)) = min n xs.length from HT.sIx_nat _ _ n] at z2
    have e : n = xs.length := by omega
    refine k H a (Same.refl _) ?_
    rw [e, List.take_length]
    exact ha
  · refine k _ p (same_new np) (SqT.of ?_)
    rw [upd_same, cut_to hn]
theorem slFrom_ok {a : Addr} {xs : List V} {n : Nat} (ha : SqT K H a xs) (hn : n ≤ xs.length) (k : ∀ H' u, Same H H' → SqT K H' u (xs.drop n) → Q (.ref u) H') : rSlA K (.ref a) (some (n : Int)) none H Q := by
  refine ⟨a, xs, rfl, ha, fun z => ?_, fun _ p np => ?_⟩
  · obtain ⟨z1, _⟩ := z
    rw [show HT.sIx xs.length 0 (some (n : Int)) = min n xs.length from HT.sIx_nat _ _ n] at z1
    refine k H a (Same.refl _) ?_
    rcases Nat.eq_zero_or_pos n with e | e
    · subst e
      exact ha
    · have e2 : xs.length = 0 := by omega
      have e3 := List.eq_nil_of_length_eq_zero e2
      subst e3
      simpa using ha
  · refine k _ p (same_new np) (SqT.of ?_)
    rw [upd_same, cut_from hn]
theorem paired_take {α β : Type} {F : α → β → Prop} : ∀ {l₁ : List α} {l₂ : List β} (i : Nat), Paired F l₁ l₂ → Paired F (l₁.take i) (l₂.take i)
  | _, _, 0, _ => .nil
  | _, _, _ + 1, .nil => .nil
  | _, _, i + 1, .cons r t => .cons r (paired_take i t)
theorem paired_drop {α β : Type} {F : α → β → Prop} : ∀ {l₁ : List α} {l₂ : List β} (i : Nat), Paired F l₁ l₂ → Paired F (l₁.drop i) (l₂.drop i)
  | _, _, 0, h => h
  | _, _, _ + 1, .nil => .nil
  | _, _, i + 1, .cons _ t => paired_drop i t
theorem paired_rev {α β : Type} {F : α → β → Prop} : ∀ {l₁ : List α} {l₂ : List β}, Paired F l₁ l₂ → Paired F l₁.reverse l₂.reverse
  | _, _, .nil => .nil
  | _, _, .cons r t => by
    rw [List.reverse_cons, List.reverse_cons]
    exact paired_append (paired_rev t) (.cons r .nil)
end
end KS
namespace KS
open PySem PySem.Spec PyProof.Rows L2
theorem new_ok {H : Hp} {o : HO} {Q : VK} (k : ∀ H' t, Same H H' → H' t = some o → H t = none → Q (.ref t) H') : ∀ p, H p = none → Q (.ref p) (upd H p o) := fun p np => k _ p (same_new np) upd_same np
theorem pick_ok {items : List V} {r : Int} (h0 : 0 ≤ r) (h1 : r < (items.length : Int)) : ∃ x, x ∈ items ∧ atI items r = some x := by
  obtain ⟨n, rfl⟩ := Int.eq_ofNat_of_zero_le h0
  have hn : n < items.length := by omega
  exact ⟨items[n], List.getElem_mem hn, atI_nat (List.getElem?_eq_getElem hn)⟩
end KS
namespace KS
open PySem PySem.Spec PyProof.Rows L2
/-! ### anything held against a text by != -/
theorem dct_ne_txt {prog : Program} {w : World} {A : Around} {E : Value → Shared → Prop} {s : Shared} {d : Addr} {z : Str} {u : Tok} {od : Option Addr} {es : Array DictEntry} {ep : Nat} {sl : Array (Option Value)} (ho : s.heap.get? d = some { cls := .type "dict", dict := od, data := .dict es ep, slots := sl }) (hu : A.units < cLine) {Q : Value → Shared → Prop} (h : Q (.bool true) s) :
    wpAny (model prog w) A (compareOp .NotEq (.ref d) (.str z u)) Q E s := by
  have hd : s.TypeIs (.ref d) "dict" := ⟨_, ho, rfl⟩
  refine SeqAt.rc_ne_decline_or (k := false) hd (typeIs_str s z u) (by decide) PySem.F.sub_str_dict PySem.F.slot_dict_ne PySem.F.slot_str_ne_refl (fun Q' hq => ?_) (fun Q' hq => ?_)
    (fun Q' hq => wpAny_of_eq (rfl : isSame (.ref d) (.str z u) = pure false) hq) (.inr hu) h
  · refine wpAny_call_entry PySem.F.slot_dict_ne hd PySem.F.entry_dict_ne ?_ (PySem.F.args_dict_ne_2 _ _)
    show wpAny _ _ (Builtin.Dict.dictSlotArgs "__ne__" ⟨[.ref d, .str z u], []⟩ >>= _) _ _ s
    refine wpAny_bind ?_
    unfold Builtin.Dict.dictSlotArgs
    refine wpAny_bind (wpAny_notOrdered_dict hd ?_)
    show wpAny _ _ (pure (Value.ref d, Value.str z u)) _ _ s
    refine wpAny_pure ?_
    refine wpAny_bind (wpAny_isInstance (T := "str") (typeIs_str s z u) PySem.F.sub_str_dict ?_)
    simp only [Bool.not_false, if_true]
    exact wpAny_bind (wpAny_rule (wpAny_pure ⟨_, rfl, hq⟩))
  · have hs : Meets (Builtin.«str.__ne__» ⟨[.str z u, .ref d], []⟩) (fun _ R s => s.heap.get? d = some { cls := .type "dict", dict := od, data := .dict es ep, slots := sl } ∧ R (.ok (.ret .notImplemented)) s) :=
      .of_wp fun prog w A R s h => by
        obtain ⟨hp, g, dd, tk, os⟩ := s
        obtain ⟨hl, h⟩ := h
        wp_walk using wpAny_load hl
        exact ⟨_, rfl, h⟩
    exact call_meets PySem.F.slot_str_ne_refl (typeIs_str s z u) PySem.F.entry_str_ne (PySem.F.args_str_ne_2 _ _) hs ⟨ho, hq⟩
def rNeA (K : PySem.W.Frag) : R2 := fun x y H Q => ∃ (t : String) (z : Str), y = .str z ∧ Oth K H x t ∧ Q (.bl (!decide (x = .str z))) H
theorem op_neA {X : Cx} (hu : X.A.units < cLine) : OpR X (compareOp .NotEq) (rNeA X.K) := by
  intro pins s σ H x y v u Q I rx ry h
  obtain ⟨t, z, rfl, ho, q⟩ := h
  have sc : ∀ {x : V}, scal x (.str z) = true → RelV x v → Q (.bl (!decide (x = .str z))) H → wpAny (model X.prog X.w) X.A (compareOp .NotEq v u) (EP X pins σ Q) X.xe s := fun {x} hs r q => op_ne pins s σ H x (.str z) v u Q I r ry ⟨hs, q⟩
  have rf : ∀ a : Addr, decide (V.ref a = V.str z) = false := fun a => decide_eq_false (fun e => by cases e)
  cases ho with
  | non => exact sc rfl rx q
  | bl b => exact sc rfl rx q
  | int i => exact sc rfl rx q
  | str w => exact sc rfl rx q
  | lst e =>
    rw [rf] at q
    obtain ⟨tk, rfl⟩ := ry
    cases rx
    obtain ⟨its, r, ⟨o, n, ho, hc, _, hd⟩, _⟩ := I.list (SqL.of e)
    exact SeqAt.RcNeAt.list_str z tk ⟨o, ho, hc, n, hd⟩ hu _ _ _ _ ⟨.bl true, H, I, rfl, q⟩
  | tup e =>
    rw [rf] at q
    obtain ⟨tk, rfl⟩ := ry
    cases rx
    obtain ⟨its, r, ⟨o, ho, hc, n, hd⟩, _⟩ := I.tuple e
    exact SeqAt.RcNeAt.tuple_str z tk ⟨o, ho, hc, n, hd⟩ hu _ _ _ _ ⟨.bl true, H, I, rfl, q⟩
  | dct e =>
    rw [rf] at q
    obtain ⟨tk, rfl⟩ := ry
    cases rx
    obtain ⟨_, _, _, _, ⟨cls, dd, data, sl⟩, _, _, e1, ex, dat, _⟩ := I.hok _ _ e
    have hc := ex.1
    simp only at hc dat
    subst hc dat
    exact dct_ne_txt e1 hu ⟨.bl true, H, I, rfl, q⟩
/-! ### the tuple without elements, times a number -/
theorem tup0_mul (l : Addr) (n : Nat) (dd : Option Addr) (sl : Array (Option Value)) (x : Int) (u : Tok) (c0 : (decide (x < -(2 ^ 63)) || decide (x ≥ 2 ^ 63)) = false) :
    Meets (Builtin.«tuple.__mul__» ⟨[.ref l, .int x u], []⟩) (fun _ R s => s.heap.get? l = some { cls := .type "tuple", dict := dd, data := .seq #[] n, slots := sl } ∧ R (.ok (.ret (Value.ref l))) s) :=
  .of_wp fun prog w A R s h => by
    obtain ⟨hp, g, d, tk, os⟩ := s
    obtain ⟨hl, h⟩ := h
    have f1 := AutoSeq1.idx_int
    wp_walk using wpAny_loadPart' hl
    repeat (first
      | (refine wpAny_ite_false (decide_eq_false (by rw [c0]; exact Bool.false_ne_true)) ?_; wp_walk using wpAny_loadPart' hl)
      | (refine wpAny_ite_true (by first | rfl | decide) ?_; wp_walk using wpAny_loadPart' hl))
    exact ⟨_, rfl, h⟩
def rRepA (K : PySem.W.Frag) : R2 := fun x y H Q => ∃ l k xs, x = .ref l ∧ y = .int k ∧ SqT K H l xs ∧ 2 ≤ k ∧ k ≤ 1000 ∧ xs.length ≤ 1000 ∧ (xs = [] → Q (.ref l) H) ∧ (xs ≠ [] → ∀ p, H p = none → Q (.ref p) (upd H p (.tup (List.replicate k.toNat xs).flatten)))
theorem op_repA {X : Cx} : OpR X (binaryOp .Mult) (rRepA X.K) := by
  intro pins s σ H x y v u Q I rx ry h
  obtain ⟨l, k, xs, rfl, rfl, hT, h1, h2, hz, q0, q1⟩ := h
  by_cases he : xs = []
  · subst he
    have q := q0 rfl
    cases rx
    obtain ⟨t, rfl⟩ := ry
    obtain ⟨its, r, ⟨⟨cls, dd, data, sl⟩, ho, hc, n, hd⟩, hs⟩ := I.tuple hT
    simp only at hc hd
    subst hc hd
    have e0 : its = [] := by
      have := r.length
      exact List.eq_nil_of_length_eq_zero this.symm
    subst e0
    have c0 : (decide (k < -(2 ^ 63)) || decide (k ≥ 2 ^ 63)) = false := by
      rw [decide_eq_false (by omega), decide_eq_false (by omega)] <;> rfl
    exact wpAny_binaryOp_repeat_ref (T := "tuple") (U := "int") (by decide) ⟨_, ho, rfl⟩ (fun s' => typeIs_int s' k t) noFill_tuple_mul F.fills_int_mul F.slot_int_rmul repeat_tuple F.slot_int_index.lookup
      (call_meets F.slot_int_rmul (typeIs_int s k t) F.entry_int_rmul (F.args_int_rmul_2 _ _) (int_rmul_tuple k t l #[] n dd sl)
        ⟨ho, rfl, ⟨_, ho, rfl⟩, call_meets F.slot_tuple_mul ⟨_, ho, rfl⟩ F.entry_tuple_mul (F.args_tuple_mul_2 _ _) (tup0_mul l n dd sl k t c0) ⟨ho, .ref l, H, I, rfl, q⟩⟩)
  · exact op_repT pins s σ H _ _ v u Q I rx ry ⟨l, k, xs, rfl, rfl, hT, he, h1, h2, hz, q1 he⟩
end KS
namespace KS
open PySem PySem.Spec PyProof.Rows L2
/-! ### a sort of lines, as mathematics -/
def sortI (l : List Int) : List Int := l.mergeSort (fun a b => decide (a ≤ b))
theorem sortI_perm (l : List Int) : (sortI l).Perm l := List.mergeSort_perm _ _
theorem sortI_asc (l : List Int) : (sortI l).Pairwise (· ≤ ·) := by
  have h := List.pairwise_mergeSort (le := fun (a b : Int) => decide (a ≤ b)) (by
    intro a b c h1 h2
    have h1 := of_decide_eq_true h1
    have h2 := of_decide_eq_true h2
    exact decide_eq_true (by omega)) (by
    intro a b
    rw [Bool.or_eq_true, decide_eq_true_eq, decide_eq_true_eq]
    omega) l
  exact h.imp fun z => of_decide_eq_true z
theorem sortI_eq {l m : List Int} (p : m.Perm l) (a : m.Pairwise (· ≤ ·)) : m = sortI l :=
  List.Perm.eq_of_pairwise (fun x y _ _ h1 h2 => by omega) a (sortI_asc l) (p.trans (sortI_perm l).symm)
theorem sortI_len (l : List Int) : (sortI l).length = l.length := (sortI_perm l).length_eq
def getI (vs : List Int) (k : Int) : Int := vs.getD k.toNat 0
def putZ (acc : List Int) (zs : List (Int × Int)) : List Int := zs.foldl (fun a z => a.set z.1.toNat z.2) acc
theorem putZ_len (zs : List (Int × Int)) : ∀ acc, (putZ acc zs).length = acc.length := by
  induction zs with
  | nil => intro acc; rfl
  | cons z zs ih =>
    intro acc
    show (putZ (acc.set z.1.toNat z.2) zs).length = _
    rw [ih, List.length_set]
theorem putZ_more (acc : List Int) (zs : List (Int × Int)) (z : Int × Int) : putZ acc (zs ++ [z]) = (putZ acc zs).set z.1.toNat z.2 := by
  unfold putZ
  rw [List.foldl_append]
  rfl
def srtL (vs acc : List Int) (l : List Int) : List Int := putZ acc (l.zip (sortI (l.map (getI vs))))
def srtTo (vs : List Int) (ls : List (List Int)) : List Int := ls.foldl (srtL vs) vs
/-- the values after a sort of this kind -/
def srt (b : Bool) (cs : List Cell) (vs : List Int) : List Int := srtTo vs (lnsOf b cs)
theorem srtTo_more (vs : List Int) (ls : List (List Int)) (l : List Int) : srtTo vs (ls ++ [l]) = srtL vs (srtTo vs ls) l := by
  unfold srtTo
  rw [List.foldl_append]
  rfl
theorem srtL_len (vs acc l : List Int) : (srtL vs acc l).length = acc.length := putZ_len _ _
theorem foldl_len {f : List Int → List Int → List Int} (h : ∀ a l, (f a l).length = a.length) : ∀ (ls : List (List Int)) (a : List Int), (ls.foldl f a).length = a.length
  | [], _ => rfl
  | l :: ls, a => by
    show (ls.foldl f (f a l)).length = _
    rw [foldl_len h ls, h]
theorem srtTo_len (vs : List Int) (ls : List (List Int)) : (srtTo vs ls).length = vs.length := foldl_len (srtL_len vs) ls vs
theorem srt_len (b : Bool) (cs : List Cell) (vs : List Int) : (srt b cs vs).length = vs.length := srtTo_len _ _
theorem idxs_nat {b : Bool} {cs : List Cell} {i : Nat} {r k : Int} (h : k ∈ idxs b cs i r) : ∃ j : Nat, k = (j : Int) ∧ j < i := by
  unfold idxs at h
  obtain ⟨j, hj, rfl⟩ := List.mem_map.mp h
  exact ⟨j, rfl, List.mem_range.mp (List.mem_filter.mp hj).1⟩
theorem lns_mem {b : Bool} {cs : List Cell} {l : List Int} (h : l ∈ lnsOf b cs) : (∀ k ∈ l, ∃ j : Nat, k = (j : Int) ∧ j < cs.length) ∧ l.length ≤ cs.length := by
  unfold lnsOf at h
  obtain ⟨r, _, rfl⟩ := List.mem_map.mp (List.mem_filter.mp h).1
  exact ⟨fun k hk => idxs_nat hk, idxs_len _ _ _ _⟩
theorem getI_at {vs : List Int} {j : Nat} (h : j < vs.length) : (vs.map V.int)[j]? = some (.int (getI vs (j : Int))) := by
  unfold getI
  rw [List.getElem?_map, Int.toNat_natCast, List.getD_eq_getElem?_getD, List.getElem?_eq_getElem h]
  rfl
theorem ixN_at {n j : Nat} (h : j < n) : ixN n (j : Int) = some j := by
  unfold ixN
  rw [if_pos (by omega), if_pos (by omega), Int.toNat_natCast]
/-- the law's own sort: of a tuple of whole numbers -/
def spLSorted (K : PySem.W.Frag) : Sp := fun xs H Q _ => ∃ (a t : Addr) (b : Bool) (cs : List Cell) (vs : List Int), xs = [.ref a, .ref t, .str (if b = true then "C" else "R")] ∧ PlanAt K H a cs ∧ cs.length ≤ 24 ∧
  SqT K H t (vs.map V.int) ∧ vs.length = cs.length ∧ ∀ H' u, Same H H' → SqT K H' u ((srt b cs vs).map V.int) → H u = none → Q (.ref u) H'
end KS
namespace KS
open PySem PySem.Spec PyProof.Rows L2
theorem ints_eqvAll : ∀ l m : List Int, PyData.eqvAll (l.map PyData.int) (m.map PyData.int) = decide (l = m)
  | [], [] => by simp [PyData.eqvAll]
  | [], _ :: _ => by simp [PyData.eqvAll]
  | _ :: _, [] => by simp [PyData.eqvAll]
  | x :: l, y :: m => by
    have h : PyData.eqvAll ((x :: l).map PyData.int) ((y :: m).map PyData.int) = (x == y && PyData.eqvAll (l.map PyData.int) (m.map PyData.int)) := by
      simp only [List.map_cons, PyData.eqvAll, PyData.eqv]
    rw [h, ints_eqvAll l m]
    by_cases e : x = y <;> by_cases e2 : l = m <;> simp [e, e2]
theorem ints_eqvL (l m : List Int) : PyData.eqv (.list (l.map PyData.int)) (.list (m.map PyData.int)) = decide (l = m) := by
  have h : PyData.eqv (.list (l.map PyData.int)) (.list (m.map PyData.int)) = PyData.eqvAll (l.map PyData.int) (m.map PyData.int) := by simp only [PyData.eqv]
  rw [h, ints_eqvAll]
theorem ints_eqvT (l m : List Int) : PyData.eqv (.tuple (l.map PyData.int)) (.tuple (m.map PyData.int)) = decide (l = m) := by
  have h : PyData.eqv (.tuple (l.map PyData.int)) (.tuple (m.map PyData.int)) = PyData.eqvAll (l.map PyData.int) (m.map PyData.int) := by simp only [PyData.eqv]
  rw [h, ints_eqvAll]
/-- whether the values of a line ascend -/
def upL (vs l : List Int) : Bool := decide (l.map (getI vs) = sortI (l.map (getI vs)))
/-- whether each line of the kind ascends -/
def rises (b : Bool) (cs : List Cell) (vs : List Int) : Bool := (lnsOf b cs).all (upL vs)
def spLRises (K : PySem.W.Frag) : Sp := fun xs H Q _ => ∃ (a t : Addr) (b : Bool) (cs : List Cell) (vs : List Int), xs = [.ref a, .ref t, .str (if b = true then "C" else "R")] ∧ PlanAt K H a cs ∧ cs.length ≤ 24 ∧
  SqT K H t (vs.map V.int) ∧ vs.length = cs.length ∧ ∀ H', Same H H' → Q (.bl (rises b cs vs)) H'
/-- the law's own words: the sorts of the letters, from left to right -/
def kindS (b : Bool) : Str := if b = true then "C" else "R"
def aft (cs : List Cell) (w : List Bool) (vs : List Int) : List Int := w.foldl (fun a b => srt b cs a) vs
theorem aft_len (cs : List Cell) : ∀ (w : List Bool) (vs : List Int), (aft cs w vs).length = vs.length
  | [], _ => rfl
  | b :: w, vs => by
    show (aft cs w (srt b cs vs)).length = _
    rw [aft_len cs w, srt_len]
theorem aft_more (cs : List Cell) (w : List Bool) (b : Bool) (vs : List Int) : aft cs (w ++ [b]) vs = srt b cs (aft cs w vs) := by
  unfold aft
  rw [List.foldl_append]
  rfl
end KS
namespace KS
open PySem PySem.Spec PyProof.Rows L2
/-- the values of a line, a new list -/
theorem pick_line {K : PySem.W.Frag} {t' : Addr} {σ : L2.St} {H : Hp} {Q : VK} {vs l : List Int} {i1 i2 i3 : Nat} {tt : Addr} (h1 : σ[i1]? = some (some (.ref t'))) (h2 : σ[i2]? = some (some (.ref tt))) (hlt : H t' = some (.lst (l.map V.int))) (ht : SqT K H tt (vs.map V.int))
    (hm : ∀ k ∈ l, ∃ j : Nat, k = (j : Int) ∧ j < vs.length) (hl : l.length ≤ 24) (h3 : i3 < σ.length) (h13 : i2 ≠ i3)
    (k : ∀ D, H D = none → Q (.ref D) (upd H D (.lst ((l.map (getI vs)).map V.int)))) :
    tLc (iList K (tVar i1)) (gName i3) tYes (tOp (rIxT K) (tVar i2) (tVar i3)) [i3] σ H Q := by
  refine ⟨_, h1, t', rfl, ⟨_, SqL.of hlt⟩, fun D nD => ?_⟩
  have ntD : t' ≠ D := ne_of_none hlt nD
  refine lc_list (K := K) (a := t') (xs := l.map V.int) (fun j G => G = upd H D (.lst (((l.take j).map (getI vs)).map V.int))) ?_ ?_ ?_ ?_
  · rfl
  · rintro j G _ rfl
    exact SqL.of (by rw [upd_ne ntD]; exact hlt)
  · rintro j x G hj rfl
    rw [List.getElem?_map] at hj
    cases ev : l[j]? with
    | none =>
      rw [ev] at hj
      cases hj
    | some k =>
      rw [ev] at hj
      cases hj
      obtain ⟨j', rfl, hj'⟩ := hm k (List.mem_of_getElem? ev)
      refine ⟨?_, .ref tt, ?_, .int (j' : Int), ?_, tt, _, _, .int (getI vs (j' : Int)), rfl, rfl, same_seqT (same_new nD) ht, atI_nat (getI_at hj'), _, upd_same, ?_, ?_⟩
      · show ((σ.set i3 none).set i3 _).set i3 none = σ.set i3 none
        rw [List.set_set, List.set_set]
      · show ((σ.set i3 none).set i3 _)[i2]? = _
        rw [List.set_set, List.getElem?_set_ne (Ne.symm h13)]
        exact h2
      · show ((σ.set i3 none).set i3 _)[i3]? = _
        rw [List.set_set, List.getElem?_set_self h3]
      · rw [List.length_map, List.length_map, List.length_take]
        exact small64 (by omega)
      · rw [upd_upd, List.take_add_one, ev, List.map_append, List.map_append]
        rfl
  · rintro G rfl
    rw [List.length_map, List.take_length]
    exact k D nD
end KS
namespace KS
open PySem PySem.Spec PyProof.Rows L2
theorem rd_ifNe {K : PySem.W.Frag} {ta tb : TE} {t u : TS} {D : Ends} {σ : L2.St} {H : Hp} (h : ta σ H fun x H1 => tb σ H1 fun y H2 => rNeD K x y H2 fun v H3 => ∃ k, v = .bl k ∧ if k = true then t D σ H3 else u D σ H3) :
    tIfS (tTest (tOp (rNeD K) ta tb)) t u D σ H := h
theorem rd_cb1 {r : List V → Hp → VK → Prop} {ta : TE} {σ : L2.St} {H : Hp} {Q : VK} (h : ta σ H fun x H1 => r [x] H1 Q) : tCB r (tCons ta tNil) σ H Q := h
theorem up_if {K : PySem.W.Frag} {t' : Addr} {σ : L2.St} {H : Hp} {vs l : List Int} {i1 i2 i3 : Nat} {tt : Addr} {tb : TS} {D : Ends} (h1 : σ[i1]? = some (some (.ref t'))) (h2 : σ[i2]? = some (some (.ref tt))) (hlt : H t' = some (.lst (l.map V.int))) (ht : SqT K H tt (vs.map V.int))
    (hm : ∀ k ∈ l, ∃ j : Nat, k = (j : Int) ∧ j < vs.length) (hl : l.length ≤ 24) (h3 : i3 < σ.length) (h13 : i2 ≠ i3)
    (k1 : ∀ H', Same H H' → upL vs l = true → D.nx σ H') (k2 : ∀ H', Same H H' → upL vs l = false → tb D σ H') :
    tIfS (tTest (tOp (rNeD K) (tLc (iList K (tVar i1)) (gName i3) tYes (tOp (rIxT K) (tVar i2) (tVar i3)) [i3]) (tCB (rSortedI K) (tCons (tLc (iList K (tVar i1)) (gName i3) tYes (tOp (rIxT K) (tVar i2) (tVar i3)) [i3]) tNil)))) tb tNext D σ H := by
  refine rd_ifNe (pick_line (K := K) (σ := σ) h1 h2 hlt ht hm hl h3 h13 (fun D1 n1 => ?_))
  have s1 := same_new (o := .lst ((l.map (getI vs)).map V.int)) n1
  refine rd_cb1 (pick_line (K := K) (σ := σ) h1 h2 (s1 _ _ hlt) (same_seqT s1 ht) hm hl h3 h13 (fun D2 n2 => ?_))
  have s2 := same_new (o := .lst ((l.map (getI vs)).map V.int)) n2
  refine ⟨D2, _, rfl, SqL.of upd_same, fun ys D3 perm asc n3 => ?_⟩
  have ey := sortI_eq perm asc
  have s3 := same_new (o := .lst (ys.map V.int)) n3
  refine ⟨_, _, .lst (SqL.of (s3 _ _ (s2 _ _ upd_same))) (dp_ints _), .lst (SqL.of upd_same) (dp_ints _), ints_shaped _, ints_shaped _, _, rfl, ?_⟩
  rw [ints_eqvL]
  have sm := (s1.trans s2).trans s3
  by_cases c : l.map (getI vs) = ys
  · rw [decide_eq_true c]
    refine k1 _ sm ?_
    unfold upL
    rw [← ey]
    exact decide_eq_true c
  · rw [decide_eq_false c]
    refine k2 _ sm ?_
    unfold upL
    rw [← ey]
    exact decide_eq_false c
end KS
namespace KS
open PySem PySem.Spec PyProof.Rows L2
/-- the letter of a kind, and a word -/
def ltr (b : Bool) : Nat := if b = true then 67 else 82
def wS (w : List Bool) : Str := ⟨(w.map ltr).toArray⟩
theorem wS_len (w : List Bool) : (wS w).length = w.length := by
  show (w.map ltr).toArray.size = _
  rw [List.size_toArray, List.length_map]
theorem ltr_str (b : Bool) : V.str ⟨#[ltr b]⟩ = V.str (if b = true then "C" else "R") := by
  cases b <;> decide +kernel
theorem wS_at {w : List Bool} {i : Nat} {c : Nat} (h : (wS w).cps[i]? = some c) : ∃ b, w[i]? = some b ∧ c = ltr b := by
  have h' : (w.map ltr).toArray[i]? = some c := h
  rw [List.getElem?_toArray, List.getElem?_map] at h'
  cases e : w[i]? with
  | none =>
    rw [e] at h'
    cases h'
  | some b =>
    rw [e] at h'
    cases h'
    exact ⟨b, rfl, rfl⟩
def spLAfter (K : PySem.W.Frag) : Sp := fun xs H Q _ => ∃ (a t : Addr) (w : List Bool) (cs : List Cell) (vs : List Int), xs = [.ref a, .ref t, .str (wS w)] ∧ PlanAt K H a cs ∧ cs.length ≤ 24 ∧
  SqT K H t (vs.map V.int) ∧ vs.length = cs.length ∧ ∀ H' u, Same H H' → SqT K H' u ((aft cs w vs).map V.int) → Q (.ref u) H'
end KS
namespace KS
open PySem PySem.Spec PyProof.Rows L2
/-! ### programs: words, and repeats of steps -/
inductive Stp
  | w (l : List Bool)
  | r (n : Int) (b : List Stp)
mutual
def Stp.steps : Stp → Nat
  | .w _ => 1
  | .r _ b => 1 + stepsL b
def stepsL : List Stp → Nat
  | [] => 0
  | s :: b => s.steps + stepsL b
end
mutual
def Stp.nest : Stp → Nat
  | .w _ => 0
  | .r _ b => 1 + nestL b
def nestL : List Stp → Nat
  | [] => 0
  | s :: b => max s.nest (nestL b)
end
mutual
def Stp.ok : Stp → Prop
  | .w l => l ≠ [] ∧ l.length ≤ 400
  | .r n b => 1 ≤ n ∧ n ≤ 10 ^ 30 ∧ okL b
def okL : List Stp → Prop
  | [] => True
  | s :: b => s.ok ∧ okL b
end
mutual
def Stp.cnt (k : Bool) : Stp → Int
  | .w l => ((l.countP fun b => b == k : Nat) : Int)
  | .r n b => n * cntL k b
def cntL (k : Bool) : List Stp → Int
  | [] => 0
  | s :: b => s.cnt k + cntL k b
end
theorem stepsL_app : ∀ a b : List Stp, stepsL (a ++ b) = stepsL a + stepsL b
  | [], b => by rw [List.nil_append]; simp only [stepsL]; omega
  | s :: a, b => by
    rw [List.cons_append]
    simp only [stepsL]
    rw [stepsL_app a b]
    omega
theorem nestL_app : ∀ a b : List Stp, nestL (a ++ b) = max (nestL a) (nestL b)
  | [], b => by rw [List.nil_append]; simp only [nestL]; omega
  | s :: a, b => by
    rw [List.cons_append]
    simp only [nestL]
    rw [nestL_app a b]
    omega
theorem okL_app : ∀ {a b : List Stp}, okL (a ++ b) ↔ okL a ∧ okL b
  | [], b => by rw [List.nil_append]; simp only [okL]; exact ⟨fun h => ⟨trivial, h⟩, fun h => h.2⟩
  | s :: a, b => by
    rw [List.cons_append]
    simp only [okL]
    rw [okL_app (a := a)]
    exact ⟨fun ⟨x, y, z⟩ => ⟨⟨x, y⟩, z⟩, fun ⟨⟨x, y⟩, z⟩ => ⟨x, y, z⟩⟩
theorem cntL_app (k : Bool) : ∀ a b : List Stp, cntL k (a ++ b) = cntL k a + cntL k b
  | [], b => by rw [List.nil_append]; simp only [cntL]; omega
  | s :: a, b => by
    rw [List.cons_append]
    simp only [cntL]
    rw [cntL_app k a b]
    omega
theorem nest_mem : ∀ {b : List Stp} {s : Stp}, s ∈ b → s.nest ≤ nestL b
  | [], _, h => by cases h
  | x :: b, s, h => by
    simp only [nestL]
    rcases List.mem_cons.mp h with e | h
    · subst e
      omega
    · have := nest_mem h
      omega
theorem ok_mem : ∀ {b : List Stp} {s : Stp}, okL b → s ∈ b → s.ok
  | [], _, _, h => by cases h
  | x :: b, s, o, h => by
    simp only [okL] at o
    rcases List.mem_cons.mp h with e | h
    · subst e
      exact o.1
    · exact ok_mem o.2 h
theorem steps_pos (s : Stp) : 1 ≤ s.steps := by
  cases s with
  | w => simp only [Stp.steps]; omega
  | r => simp only [Stp.steps]; omega
/-! ### the counts are not too large -/
mutual
theorem cnt_bd (k : Bool) : ∀ s : Stp, s.ok → 0 ≤ s.cnt k ∧ s.cnt k ≤ 400 * (s.steps : Nat) * (10 ^ 30) ^ s.nest
  | .w l, h => by
    simp only [Stp.ok] at h
    simp only [Stp.cnt, Stp.steps, Stp.nest]
    have := List.countP_le_length (p := fun b => b == k) (l := l)
    have e : ((10 : Int) ^ 30) ^ 0 = 1 := rfl
    rw [e]
    omega
  | .r n b, h => by
    simp only [Stp.ok] at h
    obtain ⟨h1, h2, h3⟩ := h
    obtain ⟨a1, a2⟩ := cntL_bd k b h3
    simp only [Stp.cnt, Stp.steps, Stp.nest]
    constructor
    · exact Int.mul_nonneg (by omega) a1
    · have e : ((10 : Int) ^ 30) ^ (1 + nestL b) = (10 ^ 30) * (10 ^ 30) ^ nestL b := by rw [Nat.add_comm, Int.pow_succ, Int.mul_comm]
      have m1 : n * cntL k b ≤ (10 ^ 30) * (400 * (stepsL b : Nat) * (10 ^ 30) ^ nestL b) := Int.mul_le_mul h2 a2 a1 (by omega)
      have p0 : (0 : Int) ≤ (10 ^ 30) ^ nestL b := Int.pow_nonneg (by omega)
      have e2 : (10 ^ 30 : Int) * (400 * (stepsL b : Nat) * (10 ^ 30) ^ nestL b) = 400 * (stepsL b : Nat) * ((10 ^ 30) * (10 ^ 30) ^ nestL b) := Int.mul_left_comm _ _ _
      have m2 : (400 : Int) * (stepsL b : Nat) * ((10 ^ 30) * (10 ^ 30) ^ nestL b) ≤ 400 * ((1 + stepsL b : Nat) : Int) * ((10 ^ 30) * (10 ^ 30) ^ nestL b) := Int.mul_le_mul_of_nonneg_right (by omega) (Int.mul_nonneg (by omega) p0)
      rw [e]
      rw [e2] at m1
      exact Int.le_trans m1 m2
theorem cntL_bd (k : Bool) : ∀ b : List Stp, okL b → 0 ≤ cntL k b ∧ cntL k b ≤ 400 * (stepsL b : Nat) * (10 ^ 30) ^ nestL b
  | [], _ => by
    simp only [cntL, stepsL, nestL]
    omega
  | s :: b, h => by
    simp only [okL] at h
    obtain ⟨a1, a2⟩ := cnt_bd k s h.1
    obtain ⟨b1, b2⟩ := cntL_bd k b h.2
    simp only [cntL, stepsL, nestL]
    refine ⟨by omega, ?_⟩
    have ms : ((10 : Int) ^ 30) ^ s.nest ≤ (10 ^ 30) ^ (max s.nest (nestL b)) := by
      have : ((10 ^ 30 : Nat)) ^ s.nest ≤ (10 ^ 30) ^ (max s.nest (nestL b)) := Nat.pow_le_pow_right (by decide) (by omega)
      exact_mod_cast this
    have mb : ((10 : Int) ^ 30) ^ nestL b ≤ (10 ^ 30) ^ (max s.nest (nestL b)) := by
      have : ((10 ^ 30 : Nat)) ^ nestL b ≤ (10 ^ 30) ^ (max s.nest (nestL b)) := Nat.pow_le_pow_right (by decide) (by omega)
      exact_mod_cast this
    have c1 : (400 : Int) * (s.steps : Nat) * (10 ^ 30) ^ s.nest ≤ 400 * (s.steps : Nat) * (10 ^ 30) ^ (max s.nest (nestL b)) := Int.mul_le_mul_of_nonneg_left ms (by omega)
    have c2 : (400 : Int) * (stepsL b : Nat) * (10 ^ 30) ^ nestL b ≤ 400 * (stepsL b : Nat) * (10 ^ 30) ^ (max s.nest (nestL b)) := Int.mul_le_mul_of_nonneg_left mb (by omega)
    have e : (400 : Int) * ((s.steps + stepsL b : Nat) : Int) * (10 ^ 30) ^ (max s.nest (nestL b)) = 400 * (s.steps : Nat) * (10 ^ 30) ^ (max s.nest (nestL b)) + 400 * (stepsL b : Nat) * (10 ^ 30) ^ (max s.nest (nestL b)) := by
      rw [← Int.add_mul]
      congr 1
      omega
    rw [e]
    omega
end
theorem cntL_big {k : Bool} {b : List Stp} (h : okL b) (hs : stepsL b ≤ 200) (hn : nestL b ≤ 5) : 0 ≤ cntL k b ∧ cntL k b < 10 ^ 160 := by
  obtain ⟨a1, a2⟩ := cntL_bd k b h
  refine ⟨a1, ?_⟩
  have p : ((10 : Int) ^ 30) ^ nestL b ≤ (10 ^ 30) ^ 5 := by
    have : ((10 ^ 30 : Nat)) ^ nestL b ≤ (10 ^ 30) ^ 5 := Nat.pow_le_pow_right (by decide) hn
    exact_mod_cast this
  have p0 : (0 : Int) ≤ (10 ^ 30) ^ nestL b := Int.pow_nonneg (by omega)
  have m : (400 : Int) * (stepsL b : Nat) * (10 ^ 30) ^ nestL b ≤ 80000 * (10 ^ 30) ^ 5 := Int.mul_le_mul (by omega) p p0 (by omega)
  have e : (80000 : Int) * (10 ^ 30) ^ 5 < 10 ^ 160 := by decide +kernel
  omega
/-! ### multiplied, however large -/
def CBig (i j : Int) : Prop := 0 ≤ i ∧ i < 10 ^ 170 ∧ 0 ≤ j ∧ j < 10 ^ 170
theorem bits_big {i : Int} (h0 : 0 ≤ i) (h1 : i < 10 ^ 170) : Builtin.Int.intBits i ≤ 2 ^ 20 := by
  refine intBits_le_iff.mpr ?_
  have e : (10 : Nat) ^ 170 < 2 ^ 600 := by decide +kernel
  have e2 : (2 : Nat) ^ 600 ≤ 2 ^ (2 ^ 20) := Nat.pow_le_pow_right (by decide) (by decide)
  have : i.natAbs < 10 ^ 170 := by
    obtain ⟨n, rfl⟩ := Int.eq_ofNat_of_zero_le h0
    rw [Int.natAbs_natCast]
    exact_mod_cast h1
  omega
theorem op_mulB {X : Cx} : OpR X (binaryOp .Mult) (rI CBig fun i j => .int (i * j)) := opI fun _ _ _ _ _ _ _ hc q => mul_int q (IntMulOk.of_bits (bits_big hc.1 hc.2.1) (bits_big hc.2.2.1 hc.2.2.2))
end KS
namespace KS
open PySem PySem.Spec PyProof.Rows L2
/-! ### a sort takes inversions away -/
def lt1 (a b : Int) : Nat := if a < b then 1 else 0
def cnt (a : Int) : List Int → Nat
  | [] => 0
  | b :: l => lt1 b a + cnt a l
def inv : List Int → Nat
  | [] => 0
  | a :: l => cnt a l + inv l
theorem cnt_set (b x y : Int) : ∀ {m : List Int} {j : Nat}, m[j]? = some y → cnt b (m.set j x) + lt1 y b = cnt b m + lt1 x b
  | [], _, h => by cases h
  | c :: m, 0, h => by
    cases h
    show lt1 x b + cnt b m + lt1 y b = lt1 y b + cnt b m + lt1 x b
    omega
  | c :: m, j + 1, h => by
    have ih := cnt_set b x y (m := m) (j := j) h
    show lt1 c b + cnt b (m.set j x) + lt1 y b = lt1 c b + cnt b m + lt1 x b
    omega
theorem lt1_four {x y b : Int} (h : y < x) : lt1 b y + lt1 x b ≤ lt1 b x + lt1 y b := by
  unfold lt1
  split <;> split <;> split <;> split <;> omega
theorem inv_front {x y : Int} (h : y < x) : ∀ {l : List Int} {j : Nat}, l[j]? = some y → cnt y (l.set j x) + inv (l.set j x) < cnt x l + inv l
  | [], _, e => by cases e
  | b :: m, 0, e => by
    cases e
    show lt1 x y + cnt y m + (cnt x m + inv m) < lt1 y x + cnt x m + (cnt y m + inv m)
    have h1 : lt1 x y = 0 := if_neg (by omega)
    have h2 : lt1 y x = 1 := if_pos h
    omega
  | b :: m, j + 1, e => by
    have ih := inv_front h (l := m) (j := j) e
    have c := cnt_set b x y (m := m) (j := j) e
    have f := lt1_four (b := b) h
    show lt1 b y + cnt y (m.set j x) + (cnt b (m.set j x) + inv (m.set j x)) < lt1 b x + cnt x m + (cnt b m + inv m)
    omega
theorem inv_swap {x y : Int} (h : y < x) : ∀ {l : List Int} {i j : Nat}, i < j → l[i]? = some x → l[j]? = some y → inv ((l.set i y).set j x) < inv l
  | [], _, _, _, e, _ => by cases e
  | a :: l, 0, 0, hij, _, _ => absurd hij (Nat.lt_irrefl _)
  | a :: l, 0, j + 1, _, e, e2 => by
    cases e
    exact inv_front h (l := l) (j := j) e2
  | a :: l, i + 1, 0, hij, _, _ => absurd hij (Nat.not_lt_zero _)
  | a :: l, i + 1, j + 1, hij, e, e2 => by
    have hij' : i < j := Nat.lt_of_succ_lt_succ hij
    have ih := inv_swap h (l := l) (i := i) (j := j) hij' e e2
    have c1 := cnt_set a y x (m := l) (j := i) e
    have e3 : (l.set i y)[j]? = some y := by
      rw [List.getElem?_set_ne (by omega)]
      exact e2
    have c2 := cnt_set a x y (m := l.set i y) (j := j) e3
    show cnt a ((l.set i y).set j x) + inv ((l.set i y).set j x) < cnt a l + inv l
    omega
theorem cnt_le (a : Int) : ∀ l : List Int, cnt a l ≤ l.length
  | [] => Nat.le_refl _
  | b :: l => by
    have := cnt_le a l
    have h : lt1 b a ≤ 1 := by
      unfold lt1
      split <;> omega
    show lt1 b a + cnt a l ≤ l.length + 1
    omega
theorem inv_le : ∀ l : List Int, 2 * inv l ≤ l.length * (l.length - 1)
  | [] => Nat.le_refl _
  | a :: l => by
    have h := inv_le l
    have c := cnt_le a l
    show 2 * (cnt a l + inv l) ≤ (l.length + 1) * (l.length + 1 - 1)
    rw [Nat.add_sub_cancel]
    cases hl : l.length with
    | zero =>
      rw [hl] at h c
      simp at h c
      omega
    | succ n =>
      rw [hl] at h c
      rw [Nat.add_sub_cancel] at h
      have e : (n + 1 + 1) * (n + 1) = (n + 1) * n + 2 * (n + 1) := by
        rw [Nat.add_mul (n + 1) 1 (n + 1), Nat.mul_add (n + 1) n 1]
        omega
      omega
end KS
namespace KS
open PySem PySem.Spec PyProof.Rows L2
def putN : List Int → List Nat → List Int → List Int
  | acc, k :: ks, y :: ys => putN (acc.set k y) ks ys
  | acc, _, _ => acc
def getN (acc : List Int) (ks : List Nat) : List Int := ks.map fun k => acc.getD k 0
theorem putN_nil (acc : List Int) (ys : List Int) : putN acc [] ys = acc := by
  unfold putN
  rfl
theorem putN_cons (acc : List Int) (k : Nat) (ks : List Nat) (y : Int) (ys : List Int) : putN acc (k :: ks) (y :: ys) = putN (acc.set k y) ks ys := by
  rw [putN]
theorem putN_none (acc : List Int) (ks : List Nat) : putN acc ks [] = acc := by
  cases ks <;> (unfold putN; rfl)
theorem putN_len : ∀ (ks : List Nat) (ys acc : List Int), (putN acc ks ys).length = acc.length
  | [], ys, acc => by rw [putN_nil]
  | k :: ks, [], acc => by rw [putN_none]
  | k :: ks, y :: ys, acc => by rw [putN_cons, putN_len ks ys, List.length_set]
theorem putN_off : ∀ {ks : List Nat} {ys acc : List Int} {i : Nat}, i ∉ ks → (putN acc ks ys)[i]? = acc[i]?
  | [], ys, acc, i, _ => by rw [putN_nil]
  | k :: ks, [], acc, i, _ => by rw [putN_none]
  | k :: ks, y :: ys, acc, i, h => by
    have hk : k ≠ i := fun e => h (e ▸ List.mem_cons_self)
    rw [putN_cons, putN_off (fun m => h (List.mem_cons_of_mem _ m)), List.getElem?_set_ne hk]
theorem getD_of {acc : List Int} {k : Nat} {v : Int} (h : acc[k]? = some v) : acc.getD k 0 = v := by
  rw [List.getD_eq_getElem?_getD, h]
  rfl
theorem get_put : ∀ {ks : List Nat} {ys acc : List Int}, ks.Nodup → ks.length = ys.length → (∀ k ∈ ks, k < acc.length) → getN (putN acc ks ys) ks = ys
  | [], [], acc, _, _, _ => rfl
  | [], _ :: _, acc, _, h, _ => by cases h
  | _ :: _, [], acc, _, h, _ => by cases h
  | k :: ks, y :: ys, acc, nd, hl, hb => by
    rw [List.nodup_cons] at nd
    rw [putN_cons]
    show (putN (acc.set k y) ks ys).getD k 0 :: getN (putN (acc.set k y) ks ys) ks = y :: ys
    rw [get_put nd.2 (by simpa using hl) (fun j hj => by rw [List.length_set]; exact hb j (List.mem_cons_of_mem _ hj))]
    congr 1
    refine getD_of ?_
    rw [putN_off nd.1, List.getElem?_set_self (hb k List.mem_cons_self)]
theorem put_same : ∀ {ks : List Nat} {acc : List Int}, (∀ k ∈ ks, k < acc.length) → putN acc ks (getN acc ks) = acc
  | [], acc, _ => by rw [putN_nil]
  | k :: ks, acc, hb => by
    show putN acc (k :: ks) (acc.getD k 0 :: getN acc ks) = acc
    have hk := hb k List.mem_cons_self
    have e : acc.set k (acc.getD k 0) = acc := by
      rw [List.getD_eq_getElem?_getD, List.getElem?_eq_getElem hk]
      exact List.set_getElem_self hk
    rw [putN_cons, e]
    exact put_same fun j hj => hb j (List.mem_cons_of_mem _ hj)
theorem put_over : ∀ {ks : List Nat} {zs a b : List Int}, a.length = b.length → ks.length = zs.length → (∀ i, i ∉ ks → a[i]? = b[i]?) → putN a ks zs = putN b ks zs
  | [], zs, a, b, _, _, h => by
    rw [putN_nil, putN_nil]
    exact List.ext_getElem? fun i => h i (by simp)
  | k :: ks, [], a, b, _, hl, _ => by cases hl
  | k :: ks, z :: zs, a, b, hab, hl, h => by
    rw [putN_cons, putN_cons]
    refine put_over (by rw [List.length_set, List.length_set, hab]) (by simpa using hl) fun i hi => ?_
    by_cases e : k = i
    · subst e
      by_cases c : k < a.length
      · rw [List.getElem?_set_self c, List.getElem?_set_self (by omega)]
      · rw [List.getElem?_eq_none (by rw [List.length_set]; omega), List.getElem?_eq_none (by rw [List.length_set]; omega)]
    · rw [List.getElem?_set_ne e, List.getElem?_set_ne e]
      refine h i fun m => ?_
      rcases List.mem_cons.mp m with z | z
      · exact e z.symm
      · exact hi z
/-- the same, or fewer inversions -/
def Dn (a b : List Int) : Prop := b = a ∨ inv b < inv a
theorem Dn.trans {a b c : List Int} (h : Dn a b) (k : Dn b c) : Dn a c := by
  rcases h with rfl | h
  · exact k
  · rcases k with rfl | k
    · exact .inr h
    · exact .inr (Nat.lt_trans k h)
def ins (x : Int) : List Int → List Int
  | [] => [x]
  | y :: s => if x ≤ y then x :: y :: s else y :: ins x s
def isort : List Int → List Int
  | [] => []
  | x :: l => ins x (isort l)
theorem ins_perm (x : Int) : ∀ s : List Int, (ins x s).Perm (x :: s)
  | [] => List.Perm.refl _
  | y :: s => by
    unfold ins
    split
    · exact List.Perm.refl _
    · exact ((ins_perm x s).cons y).trans (List.Perm.swap _ _ _)
theorem isort_perm : ∀ l : List Int, (isort l).Perm l
  | [] => List.Perm.refl _
  | x :: l => (ins_perm x _).trans ((isort_perm l).cons x)
theorem ins_asc {x : Int} : ∀ {s : List Int}, s.Pairwise (· ≤ ·) → (ins x s).Pairwise (· ≤ ·)
  | [], _ => by simp [ins]
  | y :: s, h => by
    rw [List.pairwise_cons] at h
    unfold ins
    split
    · rename_i c
      rw [List.pairwise_cons, List.pairwise_cons]
      refine ⟨fun z hz => ?_, h.1, h.2⟩
      rcases List.mem_cons.mp hz with rfl | m
      · exact c
      · have := h.1 z m
        omega
    · rename_i c
      rw [List.pairwise_cons]
      refine ⟨fun z hz => ?_, ins_asc h.2⟩
      rcases List.mem_cons.mp ((ins_perm x s).mem_iff.mp hz) with rfl | m
      · omega
      · exact h.1 z m
theorem isort_asc : ∀ l : List Int, (isort l).Pairwise (· ≤ ·)
  | [] => List.Pairwise.nil
  | _ :: l => ins_asc (isort_asc l)
theorem isort_eq (l : List Int) : isort l = sortI l := sortI_eq (isort_perm l) (isort_asc l)
theorem ins_dn : ∀ {ks : List Nat} {k : Nat} {acc s : List Int} {x : Int}, (k :: ks).Pairwise (· < ·) → (∀ j ∈ k :: ks, j < acc.length) → getN acc (k :: ks) = x :: s → Dn acc (putN acc (k :: ks) (ins x s))
  | [], k, acc, s, x, _, hb, e => by
    have e' : [acc.getD k 0] = x :: s := e
    cases e'
    exact .inl (put_same (ks := [k]) hb)
  | k' :: ks, k, acc, [], x, _, hb, e => by
    have e' : acc.getD k 0 :: acc.getD k' 0 :: getN acc ks = [x] := e
    cases e'
  | k' :: ks, k, acc, y :: s, x, hp, hb, e => by
    unfold ins
    split
    · rw [← e]
      exact .inl (put_same hb)
    · rename_i c
      have e' : acc.getD k 0 :: acc.getD k' 0 :: getN acc ks = x :: y :: s := e
      injection e' with e1 e2
      injection e2 with e2 e3
      rw [List.pairwise_cons] at hp
      have hk := hb k List.mem_cons_self
      have hk' := hb k' (List.mem_cons_of_mem _ List.mem_cons_self)
      have hlt : k < k' := hp.1 k' List.mem_cons_self
      have g1 : acc[k]? = some x := by
        rw [List.getElem?_eq_getElem hk, ← e1, List.getD_eq_getElem?_getD, List.getElem?_eq_getElem hk]
        rfl
      have g2 : acc[k']? = some y := by
        rw [List.getElem?_eq_getElem hk', ← e2, List.getD_eq_getElem?_getD, List.getElem?_eq_getElem hk']
        rfl
      have sw := inv_swap (x := x) (y := y) (by omega) hlt g1 g2
      have hp2 := List.pairwise_cons.mp hp.2
      have gg : getN ((acc.set k y).set k' x) (k' :: ks) = x :: s := by
        show ((acc.set k y).set k' x).getD k' 0 :: getN ((acc.set k y).set k' x) ks = x :: s
        rw [getD_of (List.getElem?_set_self (by rw [List.length_set]; exact hk'))]
        congr 1
        rw [← e3]
        refine List.map_congr_left fun j hj => ?_
        have j1 : k' < j := hp2.1 j hj
        show ((acc.set k y).set k' x).getD j 0 = acc.getD j 0
        rw [List.getD_eq_getElem?_getD, List.getD_eq_getElem?_getD, List.getElem?_set_ne (by omega), List.getElem?_set_ne (by omega)]
      have ih := ins_dn (acc := (acc.set k y).set k' x) hp.2 (fun j hj => by rw [List.length_set, List.length_set]; exact hb j (List.mem_cons_of_mem _ hj)) gg
      have ep : putN acc (k :: k' :: ks) (y :: ins x s) = putN ((acc.set k y).set k' x) (k' :: ks) (ins x s) := by
        rw [putN_cons]
        cases h : ins x s with
        | nil =>
          have := (ins_perm x s).length_eq
          rw [h] at this
          cases this
        | cons z zs => rw [putN_cons, putN_cons, List.set_set]
      rw [ep]
      exact Dn.trans (.inr sw) ih
theorem sort_dn : ∀ {ks : List Nat} {acc : List Int}, ks.Pairwise (· < ·) → (∀ j ∈ ks, j < acc.length) → Dn acc (putN acc ks (isort (getN acc ks)))
  | [], acc, _, _ => .inl (putN_nil _ _)
  | k :: ks, acc, hp, hb => by
    have hp' := List.pairwise_cons.mp hp
    have hb' : ∀ j ∈ ks, j < acc.length := fun j hj => hb j (List.mem_cons_of_mem _ hj)
    have ih := sort_dn hp'.2 hb'
    have nk : k ∉ ks := fun m => Nat.lt_irrefl _ (hp'.1 k m)
    have nd : ks.Nodup := hp'.2.imp fun h => Nat.ne_of_lt h
    have ll : ks.length = (isort (getN acc ks)).length := by
      rw [(isort_perm _).length_eq]
      unfold getN
      rw [List.length_map]
    have g : getN (putN acc ks (isort (getN acc ks))) (k :: ks) = acc.getD k 0 :: isort (getN acc ks) := by
      show (putN acc ks (isort (getN acc ks))).getD k 0 :: getN (putN acc ks (isort (getN acc ks))) ks = _
      rw [get_put nd ll hb', List.getD_eq_getElem?_getD, putN_off nk, ← List.getD_eq_getElem?_getD]
    have b := ins_dn (acc := putN acc ks (isort (getN acc ks))) hp (fun j hj => by rw [putN_len]; exact hb j hj) g
    have e : putN (putN acc ks (isort (getN acc ks))) (k :: ks) (ins (acc.getD k 0) (isort (getN acc ks))) = putN acc (k :: ks) (ins (acc.getD k 0) (isort (getN acc ks))) := by
      refine put_over (putN_len _ _ _) ?_ fun i hi => putN_off fun m => hi (List.mem_cons_of_mem _ m)
      rw [(ins_perm _ _).length_eq, List.length_cons, List.length_cons, ll]
    rw [e] at b
    exact ih.trans b
end KS
namespace KS
open PySem PySem.Spec PyProof.Rows L2
def up (ks : List Nat) : List Int := ks.map fun (k : Nat) => (k : Int)
theorem putZ_up : ∀ (ks : List Nat) (ys acc : List Int), putZ acc ((up ks).zip ys) = putN acc ks ys
  | [], ys, acc => by rw [putN_nil]; rfl
  | k :: ks, [], acc => by rw [putN_none]; rfl
  | k :: ks, y :: ys, acc => by
    rw [putN_cons, ← putZ_up ks ys]
    rfl
theorem get_up (vs : List Int) (ks : List Nat) : (up ks).map (getI vs) = getN vs ks := by
  unfold up getN
  rw [List.map_map]
  rfl
def srtN (vs acc : List Int) (ks : List Nat) : List Int := putN acc ks (sortI (getN vs ks))
theorem srtL_up (vs acc : List Int) (ks : List Nat) : srtL vs acc (up ks) = srtN vs acc ks := by
  unfold srtL srtN
  rw [putZ_up, get_up]
theorem srtTo_up (vs : List Int) : ∀ (ls : List (List Nat)) (acc : List Int), (ls.map up).foldl (srtL vs) acc = ls.foldl (srtN vs) acc
  | [], _ => rfl
  | ks :: ls, acc => by
    show (ls.map up).foldl (srtL vs) (srtL vs acc (up ks)) = ls.foldl (srtN vs) (srtN vs acc ks)
    rw [srtL_up, srtTo_up vs ls]
def idxsN (b : Bool) (cs : List Cell) (i : Nat) (r : Int) : List Nat := (List.range i).filter fun j => decide ((cs[j]?).map (pick b) = some r)
theorem idxs_up (b : Bool) (cs : List Cell) (i : Nat) (r : Int) : idxs b cs i r = up (idxsN b cs i r) := rfl
def lnsN (b : Bool) (cs : List Cell) : List (List Nat) := ((List.range 8).map fun (r : Nat) => idxsN b cs cs.length (r : Int)).filter fun l => decide (l ≠ [])
theorem filter_up : ∀ ls : List (List Nat), (ls.map up).filter (fun l => decide (l ≠ [])) = (ls.filter fun l => decide (l ≠ [])).map up
  | [] => rfl
  | [] :: ls => filter_up ls
  | (k :: ks) :: ls => by
    show up (k :: ks) :: (ls.map up).filter _ = up (k :: ks) :: (ls.filter _).map up
    rw [filter_up ls]
theorem lns_up (b : Bool) (cs : List Cell) : lnsOf b cs = (lnsN b cs).map up := by
  unfold lnsOf lnsN
  rw [← filter_up, List.map_map]
  rfl
structure Parts (n : Nat) (ls : List (List Nat)) : Prop where
  asc : ∀ ks ∈ ls, ks.Pairwise (· < ·)
  bd : ∀ ks ∈ ls, ∀ k ∈ ks, k < n
  apart : ls.Pairwise fun ks ms => ∀ k ∈ ks, k ∉ ms
theorem srtN_len (vs acc : List Int) (ks : List Nat) : (srtN vs acc ks).length = acc.length := putN_len _ _ _
theorem getN_congr {a b : List Int} {ks : List Nat} (h : ∀ k ∈ ks, a[k]? = b[k]?) : getN a ks = getN b ks := by
  refine List.map_congr_left fun k hk => ?_
  show a.getD k 0 = b.getD k 0
  rw [List.getD_eq_getElem?_getD, List.getD_eq_getElem?_getD, h k hk]
theorem fold_off {vs : List Int} {i : Nat} : ∀ {ls : List (List Nat)} {acc : List Int}, (∀ ks ∈ ls, i ∉ ks) → (ls.foldl (srtN vs) acc)[i]? = acc[i]?
  | [], _, _ => rfl
  | ks :: ls, acc, h => by
    show (ls.foldl (srtN vs) (srtN vs acc ks))[i]? = _
    rw [fold_off fun ms hm => h ms (List.mem_cons_of_mem _ hm)]
    exact putN_off (h ks List.mem_cons_self)
theorem fold_dn {vs : List Int} : ∀ {ls : List (List Nat)} {acc : List Int}, Parts acc.length ls → (∀ ks ∈ ls, ∀ k ∈ ks, acc[k]? = vs[k]?) → Dn acc (ls.foldl (srtN vs) acc)
  | [], acc, _, _ => .inl rfl
  | ks :: ls, acc, P, h => by
    have pc := List.pairwise_cons.mp P.apart
    have e : getN vs ks = getN acc ks := getN_congr fun k hk => (h ks List.mem_cons_self k hk).symm
    have d : Dn acc (srtN vs acc ks) := by
      unfold srtN
      rw [e, ← isort_eq]
      exact sort_dn (P.asc ks List.mem_cons_self) (P.bd ks List.mem_cons_self)
    refine d.trans (fold_dn (ls := ls) ⟨fun ms hm => P.asc ms (List.mem_cons_of_mem _ hm), fun ms hm k hk => ?_, pc.2⟩ fun ms hm k hk => ?_)
    · rw [srtN_len]
      exact P.bd ms (List.mem_cons_of_mem _ hm) k hk
    · have nk : k ∉ ks := fun m => pc.1 ms hm k m hk
      rw [show (srtN vs acc ks)[k]? = acc[k]? from putN_off nk]
      exact h ms (List.mem_cons_of_mem _ hm) k hk
theorem fold_get {vs : List Int} : ∀ {ls : List (List Nat)} {acc : List Int}, Parts acc.length ls → ∀ ks ∈ ls, getN (ls.foldl (srtN vs) acc) ks = sortI (getN vs ks)
  | [], _, _, _, m => by cases m
  | ms :: ls, acc, P, ks, m => by
    have pc := List.pairwise_cons.mp P.apart
    have P' : Parts (srtN vs acc ms).length ls := ⟨fun z hm => P.asc z (List.mem_cons_of_mem _ hm), fun z hm k hk => by rw [srtN_len]; exact P.bd z (List.mem_cons_of_mem _ hm) k hk, pc.2⟩
    rcases List.mem_cons.mp m with rfl | m
    · show getN (ls.foldl (srtN vs) (srtN vs acc ks)) ks = _
      rw [getN_congr (b := srtN vs acc ks) fun k hk => fold_off fun z hz => pc.1 z hz k hk]
      refine get_put ((P.asc ks List.mem_cons_self).imp fun h => Nat.ne_of_lt h) ?_ (P.bd ks List.mem_cons_self)
      rw [sortI_len]
      unfold getN
      rw [List.length_map]
    · exact fold_get P' ks m
theorem fold_fix {vs : List Int} : ∀ {ls : List (List Nat)}, (∀ ks ∈ ls, ∀ k ∈ ks, k < vs.length) → (∀ ks ∈ ls, getN vs ks = sortI (getN vs ks)) → ls.foldl (srtN vs) vs = vs
  | [], _, _ => rfl
  | ks :: ls, hb, h => by
    have e : srtN vs vs ks = vs := by
      unfold srtN
      rw [← h ks List.mem_cons_self]
      exact put_same (hb ks List.mem_cons_self)
    show ls.foldl (srtN vs) (srtN vs vs ks) = vs
    rw [e]
    exact fold_fix (fun z hz => hb z (List.mem_cons_of_mem _ hz)) fun z hz => h z (List.mem_cons_of_mem _ hz)
theorem idxsN_mem {b : Bool} {cs : List Cell} {i k : Nat} {r : Int} (h : k ∈ idxsN b cs i r) : k < i ∧ (cs[k]?).map (pick b) = some r := by
  have := List.mem_filter.mp h
  exact ⟨List.mem_range.mp this.1, of_decide_eq_true this.2⟩
theorem lns_parts (b : Bool) (cs : List Cell) : Parts cs.length (lnsN b cs) := by
  refine ⟨fun ks h => ?_, fun ks h k hk => ?_, ?_⟩
  · obtain ⟨r, _, rfl⟩ := List.mem_map.mp (List.mem_filter.mp h).1
    exact List.pairwise_lt_range.filter _
  · obtain ⟨r, _, rfl⟩ := List.mem_map.mp (List.mem_filter.mp h).1
    exact (idxsN_mem hk).1
  · refine List.Pairwise.filter _ (List.pairwise_map.2 (List.pairwise_lt_range.imp ?_))
    intro r q hrq k h1 h2
    have a := (idxsN_mem h1).2
    rw [(idxsN_mem h2).2] at a
    injection a with a
    omega
theorem srt_up (b : Bool) (cs : List Cell) (vs : List Int) : srt b cs vs = (lnsN b cs).foldl (srtN vs) vs := by
  unfold srt srtTo
  rw [lns_up, srtTo_up]
/-- a sort leaves all as it is, or takes inversions away -/
theorem srt_dn {b : Bool} {cs : List Cell} {vs : List Int} (h : vs.length = cs.length) : Dn vs (srt b cs vs) := by
  rw [srt_up]
  exact fold_dn (by rw [h]; exact lns_parts b cs) fun _ _ _ _ => rfl
theorem upL_up (vs : List Int) (ks : List Nat) : upL vs (up ks) = decide (getN vs ks = sortI (getN vs ks)) := by
  unfold upL
  rw [get_up]
theorem rises_iff {b : Bool} {cs : List Cell} {vs : List Int} : rises b cs vs = true ↔ ∀ ks ∈ lnsN b cs, getN vs ks = sortI (getN vs ks) := by
  unfold rises
  rw [lns_up, List.all_map, List.all_eq_true]
  constructor
  · intro h ks hk
    have := h ks hk
    exact of_decide_eq_true ((upL_up vs ks).symm.trans this)
  · intro h ks hk
    exact (upL_up vs ks).trans (decide_eq_true (h ks hk))
theorem sortI_fix (l : List Int) : sortI (sortI l) = sortI l := (sortI_eq (List.Perm.refl _) (sortI_asc l)).symm
/-- behind a sort the lines of the kind ascend -/
theorem srt_rises {b : Bool} {cs : List Cell} {vs : List Int} (h : vs.length = cs.length) : rises b cs (srt b cs vs) = true := by
  rw [rises_iff]
  intro ks hk
  have g : getN (srt b cs vs) ks = sortI (getN vs ks) := by
    rw [srt_up]
    exact fold_get (by rw [h]; exact lns_parts b cs) ks hk
  rw [g, sortI_fix]
/-- lines that ascend are left alone -/
theorem rises_fix {b : Bool} {cs : List Cell} {vs : List Int} (h : vs.length = cs.length) (r : rises b cs vs = true) : srt b cs vs = vs := by
  rw [srt_up]
  exact fold_fix (fun ks hk k hkk => by rw [h]; exact (lns_parts b cs).bd ks hk k hkk) (rises_iff.mp r)
/-- lines that do not ascend lose inversions -/
theorem srt_lt {b : Bool} {cs : List Cell} {vs : List Int} (h : vs.length = cs.length) (r : rises b cs vs = false) : inv (srt b cs vs) < inv vs := by
  rcases srt_dn (b := b) h with e | e
  · have := srt_rises (b := b) h
    rw [e, r] at this
    cases this
  · exact e
end KS
namespace KS
open PySem PySem.Spec PyProof.Rows L2
/-- kinds in turns, this one first -/
def turns : Bool → Nat → List Bool
  | _, 0 => []
  | b, n + 1 => b :: turns (!b) n
def kindAt (b : Bool) (n : Nat) : Bool := if n % 2 = 0 then b else !b
theorem turns_succ : ∀ (b : Bool) (n : Nat), turns b (n + 1) = turns b n ++ [kindAt b n]
  | b, 0 => rfl
  | b, n + 1 => by
    show b :: turns (!b) (n + 1) = b :: (turns (!b) n ++ [kindAt b (n + 1)])
    rw [turns_succ (!b) n]
    have e : kindAt (!b) n = kindAt b (n + 1) := by
      unfold kindAt
      rcases Nat.mod_two_eq_zero_or_one n with h | h
      · rw [if_pos h, if_neg (by omega)]
      · rw [if_neg (by omega), if_pos (by omega)]
        simp
    rw [e]
theorem kindAt_succ (b : Bool) (n : Nat) : kindAt b (n + 1) = !kindAt b n := by
  unfold kindAt
  rcases Nat.mod_two_eq_zero_or_one n with h | h
  · rw [if_pos h, if_neg (show ¬ (n + 1) % 2 = 0 by omega)]
  · rw [if_pos (show (n + 1) % 2 = 0 by omega), if_neg (show ¬ n % 2 = 0 by omega)]
    simp
theorem turns_len : ∀ (b : Bool) (n : Nat), (turns b n).length = n
  | _, 0 => rfl
  | b, n + 1 => by
    show (turns (!b) n).length + 1 = n + 1
    rw [turns_len (!b) n]
def settled (cs : List Cell) (vs : List Int) : Bool := rises false cs vs && rises true cs vs
def stat (cs : List Cell) (b : Bool) (vs : List Int) (n : Nat) : List Int := aft cs (turns b n) vs
theorem stat_succ (cs : List Cell) (b : Bool) (vs : List Int) (n : Nat) : stat cs b vs (n + 1) = srt (kindAt b n) cs (stat cs b vs n) := by
  unfold stat
  rw [turns_succ, aft_more]
theorem stat_len (cs : List Cell) (b : Bool) (vs : List Int) (n : Nat) : (stat cs b vs n).length = vs.length := aft_len _ _ _
/-- the least number of sorts in turns behind which both kinds ascend, and the values then -/
structure RestIs (cs : List Cell) (b : Bool) (vs : List Int) (n : Nat) : Prop where
  end_ : settled cs (stat cs b vs n) = true
  least : ∀ m, m < n → settled cs (stat cs b vs m) = false
theorem RestIs.uniq {cs : List Cell} {b : Bool} {vs : List Int} {n m : Nat} (h : RestIs cs b vs n) (k : RestIs cs b vs m) : n = m := by
  rcases Nat.lt_trichotomy n m with c | c | c
  · have := k.least n c
    rw [h.end_] at this
    cases this
  · exact c
  · have := h.least m c
    rw [k.end_] at this
    cases this
theorem settled_not {cs : List Cell} {vs : List Int} {k : Bool} (h : settled cs vs = false) (r : rises k cs vs = true) : rises (!k) cs vs = false := by
  unfold settled at h
  cases k
  · rw [r] at h
    simpa using h
  · rw [r] at h
    simpa using h
/-- a variant of the turns -/
def fuel (cs : List Cell) (k : Bool) (vs : List Int) : Nat := 2 * inv vs + if rises k cs vs = true then 1 else 0
theorem fuel_lt {cs : List Cell} {k : Bool} {vs : List Int} (hl : vs.length = cs.length) (h : settled cs vs = false) : fuel cs (!k) (srt k cs vs) < fuel cs k vs := by
  unfold fuel
  cases r : rises k cs vs with
  | true =>
    rw [rises_fix hl r, if_pos rfl, if_neg (by rw [settled_not h r]; decide)]
    omega
  | false =>
    have := srt_lt hl r
    rw [if_neg (show ¬ (false = true) by decide)]
    split <;> omega
/-- at most 277 sorts settle any table of 24 cells -/
theorem stat_inv {cs : List Cell} {b : Bool} {vs : List Int} {n : Nat} (hl : vs.length = cs.length) (h : RestIs cs b vs n) : ∀ m, m + 1 ≤ n → inv (stat cs b vs (m + 1)) + m ≤ inv (stat cs b vs 1)
  | 0, _ => Nat.le_refl _
  | m + 1, hm => by
    have ih := stat_inv hl h m (by omega)
    have ns := h.least (m + 1) (by omega)
    have ln : (stat cs b vs m).length = cs.length := by rw [stat_len, hl]
    have r : rises (kindAt b m) cs (stat cs b vs (m + 1)) = true := by
      rw [stat_succ]
      exact srt_rises ln
    have r2 := settled_not ns r
    rw [← kindAt_succ] at r2
    have lt := srt_lt (by rw [stat_len, hl]) r2
    rw [← stat_succ] at lt
    omega
theorem rest_le {cs : List Cell} {b : Bool} {vs : List Int} {n : Nat} (hl : vs.length = cs.length) (hc : cs.length ≤ 24) (h : RestIs cs b vs n) : n ≤ 277 := by
  cases n with
  | zero => omega
  | succ m =>
    have i := stat_inv hl h m (Nat.le_refl _)
    have le := inv_le (stat cs b vs 1)
    rw [stat_len, hl] at le
    have : cs.length * (cs.length - 1) ≤ 24 * 23 := Nat.mul_le_mul hc (by omega)
    omega
end KS
namespace KS
open PySem PySem.Spec PyProof.Rows L2
/-- so many different whole numbers from 1 to 9999 -/
structure Vals9 (n : Nat) (fs : List Int) : Prop where
  len : fs.length = n
  nd : fs.Nodup
  bd : ∀ v ∈ fs, 1 ≤ v ∧ v ≤ 9999
def spValues (K : PySem.W.Frag) : Sp := fun vs H Q _ => ∃ (p : Addr) (n : Nat), vs = [.ref p, .int n] ∧ PoolO (H p) ∧ 1 ≤ n ∧ n ≤ 24 ∧
  ∀ H' t fs, KeepX p H H' → PoolO (H' p) → SqT K H' t (fs.map V.int) → Vals9 n fs → H t = none → Q (.ref t) H'
theorem Vals9.perm {n : Nat} {as bs : List Int} (h : Vals9 n as) (p : as.Perm bs) : Vals9 n bs := ⟨p.length_eq ▸ h.len, p.nodup_iff.mp h.nd, fun v m => h.bd v (p.mem_iff.mpr m)⟩
theorem map_eraseIdx {f : Int → V} : ∀ (l : List Int) (k : Nat), (l.map f).eraseIdx k = (l.eraseIdx k).map f
  | [], _ => rfl
  | _ :: _, 0 => rfl
  | x :: l, k + 1 => by
    show f x :: (l.map f).eraseIdx k = f x :: (l.eraseIdx k).map f
    rw [map_eraseIdx l k]
theorem erase_perm : ∀ {l : List Int} {k : Nat} (h : k < l.length), l.Perm (l[k] :: l.eraseIdx k)
  | _ :: _, 0, _ => List.Perm.refl _
  | x :: l, k + 1, h => ((erase_perm (l := l) (k := k) (Nat.lt_of_succ_lt_succ h)).cons x).trans (List.Perm.swap _ _ _)
theorem pick_perm {fs l : List Int} {k : Nat} (h : k < l.length) : (fs ++ l).Perm ((fs ++ [l[k]]) ++ l.eraseIdx k) := by
  rw [List.append_assoc]
  exact (erase_perm h).append_left fs
def rgI (a b : Int) : List Int := (List.range (b - a).toNat).map fun (i : Nat) => a + (i : Int)
theorem rgV_ints (a b : Int) : rgV a b = (rgI a b).map V.int := by
  unfold rgV rgI
  rw [List.map_map]
  rfl
theorem rgI_len (a b : Int) : (rgI a b).length = (b - a).toNat := by
  unfold rgI
  rw [List.length_map, List.length_range]
theorem rgI_nd (a b : Int) : (rgI a b).Nodup := by
  unfold rgI
  refine List.pairwise_map.2 (List.nodup_range.imp ?_)
  intro x y h e
  exact h (by omega)
theorem rgI_mem {a b v : Int} (h : v ∈ rgI a b) : a ≤ v ∧ v < b := by
  unfold rgI at h
  obtain ⟨i, hi, rfl⟩ := List.mem_map.mp h
  have := List.mem_range.mp hi
  omega
theorem vals9_low {n : Nat} (n1 : n ≤ 24) : Vals9 n (rgI 1 ((n : Int) + 1)) := by
  refine ⟨by rw [rgI_len]; omega, rgI_nd _ _, fun v h => ?_⟩
  have := rgI_mem h
  omega
theorem vals9_high {n : Nat} (n1 : n ≤ 24) : Vals9 n (rgI (10000 - (n : Int)) 10000) := by
  refine ⟨by rw [rgI_len]; omega, rgI_nd _ _, fun v h => ?_⟩
  have := rgI_mem h
  omega
theorem vals9_step {n : Nat} {st : Int} (n0 : 1 ≤ n) (s0 : 1 ≤ st) (s1 : st ≤ 9999 / (n : Int)) : Vals9 n ((rgI 1 ((n : Int) + 1)).map fun v => st * v) := by
  refine ⟨by rw [List.length_map, rgI_len]; omega, List.pairwise_map.2 ((rgI_nd _ _).imp ?_), fun v h => ?_⟩
  · intro x y h e
    exact h (Int.eq_of_mul_eq_mul_left (by omega) e)
  · obtain ⟨u, hu, rfl⟩ := List.mem_map.mp h
    have b := rgI_mem hu
    have h1 : st * (n : Int) ≤ 9999 := (Int.le_ediv_iff_mul_le (by omega)).mp s1
    have h2 : st * u ≤ st * (n : Int) := Int.mul_le_mul_of_nonneg_left (by omega) (by omega)
    have h3 : 1 * 1 ≤ st * u := Int.mul_le_mul s0 b.1 (by omega) (by omega)
    omega
def VSt (p : Addr) (n : Nat) (mode : Int) (H : Hp) (σ : L2.St) (H' : Hp) : Prop := ∃ (e : Addr) (y4 : Option V) (ls : List Int), σ = [some (.ref p), some (.int n), some (.int mode), some (.ref e), y4, none, none, none] ∧
  H e = none ∧ e ≠ p ∧ H' e = some (.lst (ls.map V.int)) ∧ Vals9 n ls ∧ KeepX p H H' ∧ PoolO (H' p)
theorem KeepX.free {p q : Addr} {H H' : Hp} (k : KeepX p H H') (po : PoolO (H' p)) (n : H' q = none) : H q = none := by
  cases z : H q with
  | none => rfl
  | some o =>
    have := k q o (Ne.symm (po.ne n)) z
    rw [n] at this
    cases this
theorem vals_ifs {K : PySem.W.Frag} {p e : Addr} {n : Nat} {mode : Int} {H H2 : Hp} {tr : TS} {D : Ends} (n0 : 1 ≤ n) (n1 : n ≤ 24) (he0 : H e = none) (hep : e ≠ p) (he : H2 e = some (.lst (rgV 1 ((n : Int) + 1)))) (kx : KeepX p H H2) (po : PoolO (H2 p))
    (k : ∀ σ' H', VSt p n mode H σ' H' → tr D σ' H') :
    tSeq (tIfS (tTest (tOp rEq (tVar 2) (tC (V.int 1)))) (tAsg (tLstRg (tRg2 (tOp (rI0 fun i j => V.int (i - j)) (tC (V.int 10000)) (tVar 1)) (tC (V.int 10000)))) (gName 3)) tNext)
      (tSeq (tIfS (tTest (tOp (rI0 fun i j => V.bl (decide (i > j))) (tVar 2) (tC (V.int 1))))
        (tSeq (tAsg (tOp (rI0 fun i j => V.int (i + j)) (tC (V.int 1)) (tCall spDraw [] E0 (tCons (tVar 0) (tCons (tOp (rI CDiv fun i j => V.int (i / j)) (tC (V.int 9999)) (tVar 1)) tNil)))) (gName 4))
          (tAsg (tLc (iList K (tVar 3)) (gName 7) tYes (tOp (rI CMul fun i j => V.int (i * j)) (tVar 4) (tVar 7)) [7]) (gName 3))) tNext) tr) D
      [some (.ref p), some (.int n), some (.int mode), some (.ref e), none, none, none, none] H2 := by
  refine ⟨_, rfl, rfl, _, rfl, ite2 (fun c => ?_) (fun c => ?_)⟩
  · have cm : mode = 1 := V.int.inj (of_decide_eq_true c)
    subst cm
    refine ⟨_, rfl, _, _, rfl, rfl, _, _, rfl, rfl, ⟨by omega, by omega, by omega, by omega, by omega⟩, fun g ng => ?_⟩
    have sg := same_new (o := .lst (rgV (10000 - (n : Int)) 10000)) ng
    refine ⟨_, rfl, _, _, rfl, rfl, _, rfl, ite2 (fun c => ?_) (fun c => ?_)⟩
    · exact absurd (of_decide_eq_true c) (by decide)
    · refine k _ _ ⟨g, none, rgI (10000 - (n : Int)) 10000, rfl, kx.free po ng, Ne.symm (po.ne ng), ?_, vals9_high n1, kx.trans (.of_same sg), po.same sg⟩
      rw [upd_same, rgV_ints]
  · refine ⟨_, rfl, _, _, rfl, rfl, _, rfl, ite2 (fun c => ?_) (fun c => ?_)⟩
    · have qd : 1 ≤ (9999 : Int) / (n : Int) := (Int.le_ediv_iff_mul_le (by omega)).mpr (by omega)
      have qu : (9999 : Int) / (n : Int) ≤ 9999 := Int.ediv_le_self _ (by decide)
      refine ⟨_, rfl, _, rfl, _, _, rfl, rfl, ⟨by omega, by omega⟩, p, _, rfl, po, by omega, by omega, fun H3 r k3 po3 r0 r1 => ?_⟩
      refine ⟨_, _, rfl, rfl, ?_⟩
      have he3 := k3 _ _ hep he
      refine ⟨_, rfl, e, rfl, ⟨_, SqL.of he3⟩, fun D0 nD => ?_⟩
      have neD : e ≠ D0 := ne_of_none he3 nD
      refine lc_list (K := K) (a := e) (xs := rgV 1 ((n : Int) + 1)) (fun j G => G = upd H3 D0 (.lst (((rgI 1 ((n : Int) + 1)).take j).map fun v => V.int ((1 + r) * v)))) ?_ ?_ ?_ ?_
      · rfl
      · rintro j G _ rfl
        exact SqL.of (by rw [upd_ne neD]; exact he3)
      · rintro j x G hj rfl
        rw [rgV_ints, List.getElem?_map] at hj
        cases ev : (rgI 1 ((n : Int) + 1))[j]? with
        | none =>
          rw [ev] at hj
          cases hj
        | some v =>
          rw [ev] at hj
          cases hj
          have hv := rgI_mem (List.mem_of_getElem? ev)
          refine ⟨rfl, _, rfl, _, rfl, _, _, rfl, rfl, .inl ⟨by omega, by omega⟩, _, upd_same, ?_, ?_⟩
          · rw [List.length_map, List.length_take]
            refine small64 ?_
            rw [rgI_len]
            omega
          · rw [upd_upd, List.take_add_one, ev, List.map_append]
            rfl
      · rintro G rfl
        rw [rgV_length, List.take_of_length_le (by rw [rgI_len]; omega)]
        have sD := same_new (o := .lst ((rgI 1 ((n : Int) + 1)).map fun v => V.int ((1 + r) * v))) nD
        refine k _ _ ⟨D0, _, (rgI 1 ((n : Int) + 1)).map fun v => (1 + r) * v, rfl, (kx.trans k3).free po3 nD, Ne.symm (po3.ne nD), ?_, vals9_step n0 (by omega) (by omega), (kx.trans k3).trans (.of_same sD), po3.same sD⟩
        rw [upd_same, List.map_map]
        rfl
    · refine k _ _ ⟨e, none, rgI 1 ((n : Int) + 1), rfl, he0, hep, ?_, vals9_low n1, kx, po⟩
      rw [← rgV_ints]
      exact he
end KS
namespace KS
open PySem PySem.Spec PyProof.Rows L2
def Small4 (l : List Int) : Prop := ∀ x ∈ l, 0 ≤ x ∧ x < 10000
theorem Vals9.small {n : Nat} {vs : List Int} (h : Vals9 n vs) : Small4 vs := fun x hx => by
  have := h.bd x hx
  omega
theorem getI_small {vs : List Int} (h : Small4 vs) (k : Int) : 0 ≤ getI vs k ∧ getI vs k < 10000 := by
  unfold getI
  rw [List.getD_eq_getElem?_getD]
  cases e : vs[k.toNat]? with
  | none => exact ⟨by decide, by decide⟩
  | some v => exact h v (List.mem_of_getElem? e)
theorem putZ_small : ∀ {zs : List (Int × Int)} {acc : List Int}, Small4 acc → (∀ z ∈ zs, 0 ≤ z.2 ∧ z.2 < 10000) → Small4 (putZ acc zs)
  | [], _, h, _ => h
  | z :: zs, acc, h, hz => by
    refine putZ_small (zs := zs) (acc := acc.set z.1.toNat z.2) (fun x hx => ?_) (fun y hy => hz y (List.mem_cons_of_mem _ hy))
    rcases List.mem_or_eq_of_mem_set hx with m | rfl
    · exact h x m
    · exact hz z List.mem_cons_self
theorem srtL_small {vs acc l : List Int} (h : Small4 vs) (ha : Small4 acc) : Small4 (srtL vs acc l) := by
  refine putZ_small ha fun z hz => ?_
  have m := (List.of_mem_zip (show (z.1, z.2) ∈ _ from hz)).2
  have m2 := (sortI_perm _).mem_iff.mp m
  obtain ⟨k, _, e⟩ := List.mem_map.mp m2
  rw [← e]
  exact getI_small h k
theorem foldl_small {vs : List Int} (h : Small4 vs) : ∀ (ls : List (List Int)) {acc : List Int}, Small4 acc → Small4 (ls.foldl (srtL vs) acc)
  | [], _, ha => ha
  | l :: ls, _, ha => foldl_small h ls (srtL_small h ha)
theorem srt_small {b : Bool} {cs : List Cell} {vs : List Int} (h : Small4 vs) : Small4 (srt b cs vs) := foldl_small h _ h
theorem line_small {l : List Int} (h : Small4 l) (hl : l.length ≤ 64) : Shows (lineD l) 960 ∧ (lineD l).depth ≤ 64 := ⟨shows_line h hl, by rw [depth_line]; decide⟩
/-- a plan and its values, as data -/
def tabD (cs : List Cell) (vs : List Int) : PyData := .tuple [planD cs, lineD vs]
theorem tab_small {cs : List Cell} {vs : List Int} (g : ∀ c ∈ cs, InGrid c) (hl : cs.length ≤ 64) (h : Small4 vs) (hv : vs.length ≤ 64) : Shows (tabD cs vs) 8000 ∧ (tabD cs vs).depth ≤ 64 := by
  have hp := shows_plan g hl
  have hn := line_small h hv
  refine ⟨shows_tuple (n := 1984) (showsAll_of fun d hd => ?_) (by show (1984 + 1) * 2 ≤ 8000; decide), ?_⟩
  · rcases List.mem_cons.mp hd with z | z
    · subst z
      exact hp.1
    · rcases List.mem_cons.mp z with z | z
      · subst z
        exact ⟨hn.1.short, hn.1.show_, hn.1.nod, Nat.le_trans hn.1.wt (by decide)⟩
      · cases z
  · have a := (cells_lay cs).2
    have b := (ints_lay vs).2
    show (PyData.tuple [.tuple (cs.map cellD), .tuple (vs.map PyData.int)]).depth ≤ 64
    simp only [PyData.depth, PyData.depthAll]
    omega
def rev3 {α : Type} : List α → List α
  | [a, b, c] => [c, b, a]
  | _ => []
theorem rev3_rel {zs : List V} {ws : List Value} (r : Vals zs ws) : Vals (rev3 zs) (rev3 ws) := by
  cases r with
  | nil => exact .nil
  | cons r1 r =>
    cases r with
    | nil => exact .nil
    | cons r2 r =>
      cases r with
      | nil => exact .nil
      | cons r3 r =>
        cases r with
        | nil => exact .cons r3 (.cons r2 (.cons r1 .nil))
        | cons r4 r => exact .nil
/-- the program's sort -/
def spSortL (K : PySem.W.Frag) : Sp := fun xs H Q _ => ∃ (a t : Addr) (b : Bool) (cs : List Cell) (vs : List Int), xs = [.ref a, .ref t, .str (if b = true then "C" else "R")] ∧ PlanAt K H a cs ∧ Good cs ∧ cs.length ≤ 24 ∧
  SqT K H t (vs.map V.int) ∧ Vals9 cs.length vs ∧ ∀ H' u, Same H H' → SqT K H' u ((srt b cs vs).map V.int) → Q (.ref u) H'
end KS
namespace KS
open PySem PySem.Spec PyProof.Rows L2
/-! ### a sort only moves the values -/
def one (x y : Int) : Nat := if x = y then 1 else 0
theorem count_one (x a : Int) (l : List Int) : (a :: l).count x = l.count x + one a x := by
  rw [List.count_cons]
  unfold one
  by_cases e : a = x
  · rw [if_pos e, if_pos (by simpa using e)]
  · rw [if_neg e, if_neg (by simpa using e)]
theorem count_set (x y : Int) : ∀ {l : List Int} {k : Nat} {v : Int}, l[k]? = some v → (l.set k y).count x + one v x = l.count x + one y x
  | [], k, v, h => by simp at h
  | a :: l, 0, v, h => by
    simp at h
    subst h
    show (y :: l).count x + one a x = (a :: l).count x + one y x
    rw [count_one, count_one]
    omega
  | a :: l, k + 1, v, h => by
    have h' : l[k]? = some v := by simpa using h
    have ih := count_set x y h'
    show (a :: l.set k y).count x + one v x = (a :: l).count x + one y x
    rw [count_one, count_one]
    omega
theorem getN_set {acc : List Int} {k : Nat} {y : Int} {ks : List Nat} (h : k ∉ ks) : getN (acc.set k y) ks = getN acc ks := by
  unfold getN
  refine List.map_congr_left fun j hj => ?_
  have : k ≠ j := fun e => h (e ▸ hj)
  rw [List.getD_eq_getElem?_getD, List.getD_eq_getElem?_getD, List.getElem?_set_ne this]
theorem put_count (x : Int) : ∀ {ks : List Nat} {ys acc : List Int}, ks.Nodup → ks.length = ys.length → (∀ k ∈ ks, k < acc.length) → (putN acc ks ys).count x + (getN acc ks).count x = acc.count x + ys.count x
  | [], [], acc, _, _, _ => by
    rw [putN_nil]
    rfl
  | [], _ :: _, acc, _, h, _ => by simp at h
  | _ :: _, [], acc, _, h, _ => by simp at h
  | k :: ks, y :: ys, acc, nd, hl, hb => by
    rw [List.nodup_cons] at nd
    have hk := hb k List.mem_cons_self
    obtain ⟨v, hv⟩ : ∃ v, acc[k]? = some v := ⟨acc[k], List.getElem?_eq_getElem hk⟩
    have ih := put_count x (ks := ks) (ys := ys) (acc := acc.set k y) nd.2 (by simpa using hl) (fun j hj => by
      rw [List.length_set]
      exact hb j (List.mem_cons_of_mem _ hj))
    rw [getN_set nd.1] at ih
    have cs := count_set x y hv
    rw [putN_cons]
    have eg : getN acc (k :: ks) = v :: getN acc ks := by
      unfold getN
      rw [List.map_cons, getD_of hv]
    rw [eg, count_one, count_one]
    omega
theorem put_perm {ks : List Nat} {ys acc : List Int} (nd : ks.Nodup) (hb : ∀ k ∈ ks, k < acc.length) (p : ys.Perm (getN acc ks)) : (putN acc ks ys).Perm acc := by
  rw [List.perm_iff_count]
  intro x
  have hl : ks.length = ys.length := by
    rw [p.length_eq]
    unfold getN
    rw [List.length_map]
  have := put_count x (ys := ys) nd hl hb
  rw [p.count_eq] at this
  omega
theorem asc_nodup {ks : List Nat} (h : ks.Pairwise (· < ·)) : ks.Nodup := h.imp fun q e => by omega
theorem fold_perm {vs : List Int} : ∀ {ls : List (List Nat)} {acc : List Int}, Parts acc.length ls → (∀ ks ∈ ls, ∀ k ∈ ks, acc[k]? = vs[k]?) → (ls.foldl (srtN vs) acc).Perm acc
  | [], acc, _, _ => List.Perm.refl _
  | ks :: ls, acc, P, h => by
    have pc := List.pairwise_cons.mp P.apart
    have e : getN vs ks = getN acc ks := getN_congr fun k hk => (h ks List.mem_cons_self k hk).symm
    have d : (srtN vs acc ks).Perm acc := by
      unfold srtN
      rw [e]
      exact put_perm (asc_nodup (P.asc ks List.mem_cons_self)) (P.bd ks List.mem_cons_self) (sortI_perm _)
    refine List.Perm.trans (fold_perm (ls := ls) (acc := srtN vs acc ks) ⟨fun ms hm => P.asc ms (List.mem_cons_of_mem _ hm), fun ms hm k hk => ?_, pc.2⟩ fun ms hm k hk => ?_) d
    · rw [srtN_len]
      exact P.bd ms (List.mem_cons_of_mem _ hm) k hk
    · have nk : k ∉ ks := fun m => pc.1 ms hm k m hk
      rw [show (srtN vs acc ks)[k]? = acc[k]? from putN_off nk]
      exact h ms (List.mem_cons_of_mem _ hm) k hk
theorem srt_perm {b : Bool} {cs : List Cell} {vs : List Int} (h : vs.length = cs.length) : (srt b cs vs).Perm vs := by
  rw [srt_up]
  exact fold_perm (by rw [h]; exact lns_parts b cs) fun _ _ _ _ => rfl
theorem srt9 {b : Bool} {cs : List Cell} {vs : List Int} (h : Vals9 cs.length vs) : Vals9 cs.length (srt b cs vs) := h.perm (srt_perm h.len).symm
theorem aft9 {cs : List Cell} : ∀ (w : List Bool) {vs : List Int}, Vals9 cs.length vs → Vals9 cs.length (aft cs w vs)
  | [], _, h => h
  | b :: w, _, h => aft9 w (srt9 (b := b) h)
theorem aft_perm {cs : List Cell} : ∀ (w : List Bool) {vs : List Int}, vs.length = cs.length → (aft cs w vs).Perm vs
  | [], _, _ => List.Perm.refl _
  | b :: w, vs, h => (aft_perm w (by rw [srt_len]; exact h)).trans (srt_perm (b := b) h)
theorem fix_rises {b : Bool} {cs : List Cell} {vs : List Int} (h : vs.length = cs.length) : decide (srt b cs vs = vs) = rises b cs vs := by
  cases r : rises b cs vs with
  | true => exact decide_eq_true (rises_fix h r)
  | false =>
    refine decide_eq_false fun e => ?_
    have := srt_rises (b := b) h
    rw [e, r] at this
    cases this
def spIsSorted (K : PySem.W.Frag) : Sp := fun xs H Q _ => ∃ (a t : Addr) (b : Bool) (cs : List Cell) (vs : List Int), xs = [.ref a, .ref t, .str (if b = true then "C" else "R")] ∧ PlanAt K H a cs ∧ Good cs ∧ cs.length ≤ 24 ∧
  SqT K H t (vs.map V.int) ∧ Vals9 cs.length vs ∧ ∀ H', Same H H' → Q (.bl (rises b cs vs)) H'
def spSettled (K : PySem.W.Frag) : Sp := fun xs H Q _ => ∃ (a t : Addr) (cs : List Cell) (vs : List Int), xs = [.ref a, .ref t] ∧ PlanAt K H a cs ∧ Good cs ∧ cs.length ≤ 24 ∧
  SqT K H t (vs.map V.int) ∧ Vals9 cs.length vs ∧ ∀ H', Same H H' → Q (.bl (settled cs vs)) H'
def spOther : Sp := fun xs H Q _ => ∃ b : Bool, xs = [.str (if b = true then "C" else "R")] ∧ Q (.str (if (!b) = true then "C" else "R")) H
def spRestP (K : PySem.W.Frag) : Sp := fun xs H Q _ => ∃ (a t : Addr) (b : Bool) (cs : List Cell) (vs : List Int), xs = [.ref a, .ref t, .str (if b = true then "C" else "R")] ∧ PlanAt K H a cs ∧ Good cs ∧ cs.length ≤ 24 ∧
  SqT K H t (vs.map V.int) ∧ Vals9 cs.length vs ∧ ∀ H' r u n, Same H H' → SqT K H' r [.int (n : Nat), .ref u] → SqT K H' u ((stat cs b vs n).map V.int) → RestIs cs b vs n → Q (.ref r) H'
end KS
namespace KS
open PySem PySem.Spec PyProof.Rows L2
/-- one letter, so many times -/
def rRepC : R2 := fun x y H Q => ∃ (c : Nat) (n : Nat), x = .str ⟨#[c]⟩ ∧ y = .int n ∧ 1 ≤ n ∧ n ≤ 64 ∧ Q (.str ⟨(List.replicate n c).toArray⟩) H
theorem rep_fold (c : Nat) : ∀ (n : Nat) (a : Array Nat), (List.replicate n #[c]).foldl (· ++ ·) a = a ++ (List.replicate n c).toArray
  | 0, a => by simp
  | n + 1, a => by
    rw [List.replicate_succ, List.foldl_cons, rep_fold c n, List.replicate_succ]
    apply Array.ext'
    simp
theorem op_repC {X : Cx} : OpR X (binaryOp .Mult) rRepC := by
  intro pins s σ H x y v u Q I rx ry h
  obtain ⟨c, n, rfl, rfl, n0, n1, q⟩ := h
  obtain ⟨t, rfl⟩ := rx
  obtain ⟨t', rfl⟩ := ry
  have e1 : ¬ ((n : Int) < 1) := by omega
  refine P.mul_str ?_ ?_ ?_ ?_
  · have h1 : ¬ (n : Int) < -(2 ^ 63 : Int) := by omega
    have h2 : ¬ (n : Int) ≥ 2 ^ 63 := by omega
    rw [decide_eq_false h1, decide_eq_false h2]
    rfl
  · intro _ _
    show ¬ ((1 : Int) > (2 ^ 63 - 1) / (n : Int))
    have : (1 : Int) ≤ (2 ^ 63 - 1) / (n : Int) := (Int.le_ediv_iff_mul_le (by omega)).mpr (by omega)
    omega
  · intro _ _
    show decide (1 * (n : Int).toNat > sizeLine) = false
    refine decide_eq_false ?_
    rw [sizeLine_eq]
    omega
  · rw [if_neg e1]
    by_cases e : n = 1
    · subst e
      exact ⟨.str ⟨#[c]⟩, H, I, ⟨_, rfl⟩, q⟩
    · have z : (((n : Int) == 1) || ((⟨#[c]⟩ : Str).length == 0)) = false := by
        have : ((n : Int) == 1) = false := by
          rw [beq_eq_false_iff_ne]
          omega
        rw [this]
        rfl
      rw [if_neg (by rw [z]; decide)]
      have ez : (⟨(List.replicate (n : Int).toNat (⟨#[c]⟩ : Str).cps).foldl (· ++ ·) #[]⟩ : Str) = ⟨(List.replicate n c).toArray⟩ := by
        rw [Int.toNat_natCast]
        show (⟨(List.replicate n #[c]).foldl (· ++ ·) #[]⟩ : Str) = _
        rw [rep_fold]
        simp
      rw [ez]
      refine ⟨?_, .str ⟨(List.replicate n c).toArray⟩, H, I.tok _, ⟨_, rfl⟩, q⟩
      show (List.replicate n c).toArray.size ≤ sizeLine
      rw [List.size_toArray, List.length_replicate, sizeLine_eq]
      omega
theorem wS_app (a b : List Bool) : wS a ++ wS b = wS (a ++ b) := by
  show (⟨(a.map ltr).toArray ++ (b.map ltr).toArray⟩ : Str) = ⟨((a ++ b).map ltr).toArray⟩
  rw [List.map_append]
  simp
theorem wS_rep (b : Bool) (n : Nat) : (⟨(List.replicate n (ltr b)).toArray⟩ : Str) = wS (List.replicate n b) := by
  unfold wS
  rw [List.map_replicate]
theorem wS_cut (a : List Bool) (n : Nat) (h : n ≤ a.length) : cutS (wS a) none (some (n : Int)) = wS (a.take n) := by
  have hl := wS_len a
  unfold cutS
  have e0 : HT.sIx (wS a).length 0 none = 0 := rfl
  have e1 : HT.sIx (wS a).length (wS a).length (some (n : Int)) = n := by
    rw [HT.sIx_nat, hl]
    omega
  rw [e0, e1]
  show (⟨(((a.map ltr).toArray.toList.drop 0).take (n - 0)).toArray⟩ : Str) = ⟨((a.take n).map ltr).toArray⟩
  simp
/-- a word of at most so many letters -/
def spLWord (K : PySem.W.Frag) : Sp := fun xs H Q _ => ∃ (p : Addr) (m : Nat), xs = [.ref p, .int m] ∧ PoolO (H p) ∧ m ≤ 400 ∧ ∀ H' w, KeepX p H H' → PoolO (H' p) → w.length ≤ m → Q (.str (wS w)) H'
end KS
namespace KS
open PySem PySem.Spec PyProof.Rows L2
theorem aft_small {cs : List Cell} : ∀ (w : List Bool) {vs : List Int}, Small4 vs → Small4 (aft cs w vs)
  | [], _, h => h
  | b :: w, _, h => aft_small w (srt_small (b := b) (cs := cs) h)
/-- the program's word -/
def spAfterP (K : PySem.W.Frag) : Sp := fun xs H Q _ => ∃ (a t : Addr) (w : List Bool) (cs : List Cell) (vs : List Int), xs = [.ref a, .ref t, .str (wS w)] ∧ PlanAt K H a cs ∧ Good cs ∧ cs.length ≤ 24 ∧
  SqT K H t (vs.map V.int) ∧ Vals9 cs.length vs ∧ w.length ≤ 400 ∧ ∀ H' u, Same H H' → SqT K H' u ((aft cs w vs).map V.int) → Q (.ref u) H'
theorem wS_nil : V.str (wS []) = V.str "" := by decide +kernel
theorem line_shaped (l : List Int) : SeqAt.shaped (lineD l) = true := by
  obtain ⟨h1, h2⟩ := ints_lay l
  show SeqAt.shaped (.tuple (l.map PyData.int)) = true
  unfold SeqAt.shaped
  simp only [PyData.canLay0, PyData.depth, h1, h2]
  decide
end KS
namespace KS
open PySem PySem.Spec PyProof.Rows L2
def lS (b : Bool) : Str := ⟨#[ltr b]⟩
theorem lS_w (b : Bool) : lS b = wS [b] := rfl
theorem join_ws : ∀ w : List Bool, Str.join "" (w.map lS) = wS w
  | [] => by decide +kernel
  | [b] => rfl
  | b :: c :: r => by
    have h := join_ws (c :: r)
    show lS b ++ "" ++ Str.join "" ((c :: r).map lS) = _
    rw [h, show ("" : Str) = wS [] from by decide +kernel, lS_w, wS_app, wS_app]
    rfl
theorem join_letters (w : List Bool) : Txt.join "" (w.map lS) = wS w := by
  show Builtin.Str.glued "" (w.map lS) = _
  rw [StrLaws.glued_eq_join, join_ws]
theorem lS_sum : ∀ w : List Bool, ((w.map lS).map (·.length)).sum = w.length
  | [] => rfl
  | b :: w => by
    show 1 + ((w.map lS).map (·.length)).sum = _
    rw [lS_sum w, List.length_cons]
    omega
def pcell (j : Nat) : Cell := (((j : Int) / 2), ((j : Int) / 2 + (j : Int) % 2))
def pathTo (n : Nat) : List Cell := (List.range n).map pcell
theorem pathTo_succ (n : Nat) : pathTo (n + 1) = pathTo n ++ [pcell n] := by
  unfold pathTo
  rw [List.range_succ, List.map_append]
  rfl
theorem path_good : Good (pathTo 15) := by
  refine ⟨?_, ?_, by decide⟩
  · unfold pathTo
    refine List.pairwise_map.2 (List.pairwise_lt_range.imp ?_)
    intro x y h
    show ((x : Int) / 2 < (y : Int) / 2) ∨ ((x : Int) / 2 = (y : Int) / 2 ∧ (x : Int) / 2 + (x : Int) % 2 < (y : Int) / 2 + (y : Int) % 2)
    omega
  · intro c hc
    obtain ⟨j, hj, rfl⟩ := List.mem_map.mp hc
    have := List.mem_range.mp hj
    show 0 ≤ (j : Int) / 2 ∧ (j : Int) / 2 ≤ 7 ∧ 0 ≤ (j : Int) / 2 + (j : Int) % 2 ∧ (j : Int) / 2 + (j : Int) % 2 ≤ 7
    omega
def four : List Cell := [(0, 0), (0, 1), (1, 1), (2, 0)]
theorem four_good : Good four := by
  refine ⟨?_, ?_, by decide⟩
  · simp [four, lt2]
  · simp [four, InGrid]
end KS
namespace KS
open PySem PySem.Spec PyProof.Rows L2
/-! ### a word, so many times -/
theorem rep_words (w : List Bool) : ∀ (n : Nat) (a : Array Nat), (List.replicate n (w.map ltr).toArray).foldl (· ++ ·) a = a ++ (((List.replicate n w).flatten).map ltr).toArray
  | 0, a => by simp
  | n + 1, a => by
    rw [List.replicate_succ, List.foldl_cons, rep_words w n, List.replicate_succ, List.flatten_cons, List.map_append]
    apply Array.ext'
    simp
def rRepW : R2 := fun x y H Q => ∃ (wd : List Bool) (n : Nat), x = .str (wS wd) ∧ y = .int n ∧ 2 ≤ n ∧ n ≤ 400 ∧ 1 ≤ wd.length ∧ wd.length ≤ 400 ∧ Q (.str (wS (List.replicate n wd).flatten)) H
theorem op_repW {X : Cx} : OpR X (binaryOp .Mult) rRepW := by
  intro pins s σ H x y v u Q I rx ry h
  obtain ⟨wd, n, rfl, rfl, n0, n1, w0, w1, q⟩ := h
  obtain ⟨t, rfl⟩ := rx
  obtain ⟨t', rfl⟩ := ry
  have e1 : ¬ ((n : Int) < 1) := by omega
  have hl := wS_len wd
  have hm : wd.length * n ≤ 160000 := Nat.mul_le_mul w1 n1
  refine P.mul_str ?_ ?_ ?_ ?_
  · have h1 : ¬ (n : Int) < -(2 ^ 63 : Int) := by omega
    have h2 : ¬ (n : Int) ≥ 2 ^ 63 := by omega
    rw [decide_eq_false h1, decide_eq_false h2]
    rfl
  · intro _ _
    rw [hl]
    have : (wd.length : Int) ≤ (2 ^ 63 - 1) / (n : Int) := (Int.le_ediv_iff_mul_le (by omega)).mpr (by
      have : ((wd.length * n : Nat) : Int) ≤ 160000 := by omega
      rw [Int.natCast_mul] at this
      omega)
    omega
  · intro _ _
    refine decide_eq_false ?_
    rw [hl, sizeLine_eq, Int.toNat_natCast]
    omega
  · rw [if_neg e1]
    have z : (((n : Int) == 1) || ((wS wd).length == 0)) = false := by
      have a : ((n : Int) == 1) = false := by
        rw [beq_eq_false_iff_ne]
        omega
      have b : ((wS wd).length == 0) = false := by
        rw [hl, beq_eq_false_iff_ne]
        omega
      rw [a, b]
      rfl
    rw [if_neg (by rw [z]; decide)]
    have ez : (⟨(List.replicate (n : Int).toNat (wS wd).cps).foldl (· ++ ·) #[]⟩ : Str) = wS (List.replicate n wd).flatten := by
      rw [Int.toNat_natCast]
      show (⟨(List.replicate n (wd.map ltr).toArray).foldl (· ++ ·) #[]⟩ : Str) = _
      rw [rep_words]
      unfold wS
      simp
    rw [ez]
    refine ⟨?_, .str (wS (List.replicate n wd).flatten), H, I.tok _, ⟨_, rfl⟩, q⟩
    rw [wS_len, List.length_flatten, List.map_replicate, List.sum_replicate_nat, sizeLine_eq, Nat.mul_comm]
    omega
/-! ### words one after the other -/
theorem aft_app (cs : List Cell) (w v : List Bool) (vs : List Int) : aft cs (w ++ v) vs = aft cs v (aft cs w vs) := by
  unfold aft
  rw [List.foldl_append]
theorem srt_twice {b : Bool} {cs : List Cell} {vs : List Int} (h : vs.length = cs.length) : srt b cs (srt b cs vs) = srt b cs vs :=
  rises_fix (by rw [srt_len]; exact h) (srt_rises h)
theorem settled_both {cs : List Cell} {vs : List Int} (h : settled cs vs = true) (b : Bool) : rises b cs vs = true := by
  unfold settled at h
  rw [Bool.and_eq_true] at h
  cases b
  · exact h.1
  · exact h.2
theorem aft_settled {cs : List Cell} {vs : List Int} (hl : vs.length = cs.length) (h : settled cs vs = true) : ∀ w : List Bool, aft cs w vs = vs
  | [] => rfl
  | b :: w => by
    show aft cs w (srt b cs vs) = vs
    rw [rises_fix hl (settled_both h b)]
    exact aft_settled hl h w
theorem turns_two (b : Bool) : ∀ m : Nat, (List.replicate m [b, !b]).flatten = turns b (2 * m)
  | 0 => rfl
  | m + 1 => by
    rw [List.replicate_succ, List.flatten_cons, turns_two b m]
    show b :: (!b) :: turns b (2 * m) = turns b (2 * m + 2)
    show _ = b :: (!b) :: turns (!(!b)) (2 * m)
    rw [Bool.not_not]
theorem turns_take : ∀ (n m : Nat) (b : Bool), n ≤ m → (turns b m).take n = turns b n
  | 0, _, _, _ => by simp [turns]
  | n + 1, 0, _, h => by omega
  | n + 1, m + 1, b, h => by
    show (b :: turns (!b) m).take (n + 1) = b :: turns (!b) n
    rw [List.take_succ_cons, turns_take n m (!b) (by omega)]
theorem ne_line {l m : List Int} : (!PyData.eqv (.tuple (l.map PyData.int)) (.tuple (m.map PyData.int))) = !decide (l = m) := by rw [ints_eqvT]
end KS
namespace KS
open PySem PySem.Spec PyProof.Rows L2
/-! ### programs as they lie there -/
mutual
inductive StA (K : PySem.W.Frag) (H : Hp) : V → Stp → Prop
  | w (l : List Bool) : StA K H (.str (wS l)) (.w l)
  | r {t b : Addr} {n : Int} {xs : List V} {ss : List Stp} : SqT K H t [.str "repeat", .int n, .ref b] → SqT K H b xs → StsA K H xs ss → StA K H (.ref t) (.r n ss)
inductive StsA (K : PySem.W.Frag) (H : Hp) : List V → List Stp → Prop
  | nil : StsA K H [] []
  | cons {v : V} {s : Stp} {vs : List V} {ss : List Stp} : StA K H v s → StsA K H vs ss → StsA K H (v :: vs) (s :: ss)
end
mutual
theorem StA.kt {K : PySem.W.Frag} {H H' : Hp} (k : KT K H H') : ∀ {v : V} {s : Stp}, StA K H v s → StA K H' v s
  | _, _, .w l => .w l
  | _, _, .r h1 h2 h3 => .r (k _ _ h1) (k _ _ h2) (StsA.kt k h3)
theorem StsA.kt {K : PySem.W.Frag} {H H' : Hp} (k : KT K H H') : ∀ {vs : List V} {ss : List Stp}, StsA K H vs ss → StsA K H' vs ss
  | _, _, .nil => .nil
  | _, _, .cons h1 h2 => .cons (StA.kt k h1) (StsA.kt k h2)
end
theorem StsA.len {K : PySem.W.Frag} {H : Hp} : ∀ {vs : List V} {ss : List Stp}, StsA K H vs ss → vs.length = ss.length
  | _, _, .nil => rfl
  | _, _, .cons _ h => congrArg (· + 1) (StsA.len h)
theorem StsA.get {K : PySem.W.Frag} {H : Hp} : ∀ {vs : List V} {ss : List Stp}, StsA K H vs ss → ∀ {i : Nat} {v : V}, vs[i]? = some v → ∃ s, ss[i]? = some s ∧ StA K H v s
  | _, _, .nil, i, v, e => by cases e
  | _, _, .cons h1 h2, 0, v, e => by
    cases e
    exact ⟨_, rfl, h1⟩
  | _, _, .cons h1 h2, i + 1, v, e => StsA.get h2 e
theorem StsA.app {K : PySem.W.Frag} {H : Hp} : ∀ {vs ws : List V} {ss ts : List Stp}, StsA K H vs ss → StsA K H ws ts → StsA K H (vs ++ ws) (ss ++ ts)
  | _, _, _, _, .nil, h => h
  | _, _, _, _, .cons h1 h2, h => .cons h1 (StsA.app h2 h)
/-- a program: a tuple of steps -/
def PgA (K : PySem.W.Frag) (H : Hp) (t : Addr) (ss : List Stp) : Prop := ∃ xs, SqT K H t xs ∧ StsA K H xs ss
theorem PgA.kt {K : PySem.W.Frag} {H H' : Hp} (k : KT K H H') {t : Addr} {ss : List Stp} (h : PgA K H t ss) : PgA K H' t ss := by
  obtain ⟨xs, h1, h2⟩ := h
  exact ⟨xs, k _ _ h1, h2.kt k⟩
theorem stepsL_take {ss : List Stp} {i : Nat} {s : Stp} (h : ss[i]? = some s) : stepsL (ss.take (i + 1)) = stepsL (ss.take i) + s.steps ∧ stepsL (ss.take i) + s.steps ≤ stepsL ss := by
  have e : stepsL (ss.take (i + 1)) = stepsL (ss.take i) + s.steps := by
    rw [List.take_add_one, h, stepsL_app]
    show _ + stepsL [s] = _
    simp only [stepsL]
    omega
  refine ⟨e, ?_⟩
  rw [← e]
  have := stepsL_app (ss.take (i + 1)) (ss.drop (i + 1))
  rw [List.take_append_drop] at this
  omega
theorem cntL_take {k : Bool} {ss : List Stp} {i : Nat} {s : Stp} (h : ss[i]? = some s) : cntL k (ss.take (i + 1)) = cntL k (ss.take i) + s.cnt k := by
  rw [List.take_add_one, h, cntL_app]
  show _ + cntL k [s] = _
  simp only [cntL]
  omega
/-! ### letters counted -/
theorem cnt_ltr (k : Bool) : ∀ l : List Bool, PyProof.Rows.cnt (ltr k) (l.map ltr) = ((l.countP fun b => b == k : Nat) : Int)
  | [] => cnt_nil _
  | b :: l => by
    rw [List.map_cons, cnt_cons, cnt_ltr k l, List.countP_cons]
    cases k <;> cases b <;> simp [ltr] <;> omega
theorem count_wS (k : Bool) (l : List Bool) : Txt.count (wS l) ⟨#[ltr k]⟩ = ((l.countP fun b => b == k : Nat) : Int) := by
  rw [count_cnt]
  exact cnt_ltr k l
theorem wS_ne {l : List Bool} (h : l ≠ []) : V.bl (!decide (V.str (wS l) = V.str "")) = V.bl true := by
  have : V.str (wS l) ≠ V.str "" := fun e => by
    have e := V.str.inj e
    have e2 := wS_len l
    rw [e] at e2
    have e0 : ("" : Str).length = 0 := by decide +kernel
    rw [e0] at e2
    exact h (List.length_eq_zero_iff.mp e2.symm)
  rw [decide_eq_false this]
  rfl
/-! ### the promises -/
def spIsWordG : Sp := fun xs H Q _ => ∃ l : List Bool, xs = [.str (wS l)] ∧ l.length ≤ 400 ∧ ∀ H', Same H H' → Q (.bl true) H'
def spIsRep (K : PySem.W.Frag) : Sp := fun xs H Q _ => ∃ (t b : Addr) (n : Int) (ys : List V), xs = [.ref t] ∧ SqT K H t [.str "repeat", .int n, .ref b] ∧ SqT K H b ys ∧ 1 ≤ n ∧ n ≤ 10 ^ 30 ∧ Q (.bl true) H
def spCS (K : PySem.W.Frag) (m : Nat) : Sp := fun xs H Q _ => ∃ (v : V) (s : Stp) (d room : Int), xs = [v, .int d, .int room] ∧ StA K H v s ∧ s.ok ∧ s.nest ≤ m ∧ 1 ≤ d ∧ d + (s.nest : Nat) ≤ 5 ∧ (s.steps : Nat) ≤ room ∧ ∀ H', Same H H' → Q (.int (s.steps : Nat)) H'
def spCP (K : PySem.W.Frag) : Sp := fun xs H Q _ => ∃ (t : Addr) (ss : List Stp), xs = [.ref t] ∧ PgA K H t ss ∧ okL ss ∧ nestL ss ≤ 4 ∧ stepsL ss ≤ 60 ∧ ∀ H', Same H H' → Q .non H'
def spSrt (K : PySem.W.Frag) (m : Nat) : Sp := fun xs H Q _ => ∃ (t : Addr) (ss : List Stp), xs = [.ref t] ∧ PgA K H t ss ∧ okL ss ∧ nestL ss ≤ m ∧ nestL ss ≤ 4 ∧ stepsL ss ≤ 60 ∧ ∀ H' u, Same H H' → H' u = some (.tup [.int (cntL false ss), .int (cntL true ss)]) → Q (.ref u) H'
def spOps (K : PySem.W.Frag) : Sp := fun xs H Q _ => ∃ (t : Addr) (ss : List Stp), xs = [.ref t] ∧ PgA K H t ss ∧ okL ss ∧ nestL ss ≤ 4 ∧ stepsL ss ≤ 60 ∧ ∀ H' u, Same H H' → H' u = some (.tup [.int (cntL false ss), .int (cntL true ss)]) → Q (.ref u) H'
end KS
namespace KS
open PySem PySem.Spec PyProof.Rows L2 TL
/-! ### the written words of a program -/
inductive Tk
  | op
  | cl (n : Int)
  | wd (l : List Bool)
def nmS (n : Int) : Str := Str.ofString (toString n)
def Tk.str : Tk → Str
  | .op => "("
  | .cl n => (")x" : Str) ++ nmS n
  | .wd l => wS l
mutual
def Stp.tks : Stp → List Tk
  | .w l => [.wd l]
  | .r n b => .op :: (tksL b ++ [.cl n])
def tksL : List Stp → List Tk
  | [] => []
  | s :: b => s.tks ++ tksL b
end
theorem tksL_app : ∀ a b : List Stp, tksL (a ++ b) = tksL a ++ tksL b
  | [], b => by rw [List.nil_append]; simp only [tksL]; rw [List.nil_append]
  | s :: a, b => by
    rw [List.cons_append]
    simp only [tksL]
    rw [tksL_app a b, List.append_assoc]
theorem tks_ne (s : Stp) : s.tks ≠ [] := by
  cases s with
  | w l => simp only [Stp.tks]; exact List.cons_ne_nil _ _
  | r n b => simp only [Stp.tks]; exact List.cons_ne_nil _ _
theorem tksL_flat : ∀ b : List Stp, (b.map Stp.tks).flatten = tksL b
  | [] => by simp only [tksL]; rfl
  | s :: b => by
    rw [List.map_cons, List.flatten_cons, tksL_flat b]
    simp only [tksL]
/-! ### joined by blanks -/
def jn (L : List Str) : Str := Txt.join (" " : Str) L
theorem tl_sp : tl (" " : Str) = [32] := by decide +kernel
theorem tl_jn (L : List Str) : tl (jn L) = joinL [32] (L.map tl) := by
  unfold jn
  rw [join_eq, tl_join, tl_sp]
theorem joinL_app (S : List Nat) : ∀ (a b : List (List Nat)), a ≠ [] → b ≠ [] → joinL S (a ++ b) = joinL S a ++ (S ++ joinL S b)
  | [], b, h, _ => absurd rfl h
  | [p], [], _, h => absurd rfl h
  | [p], q :: r, _, _ => rfl
  | p :: q :: r, b, _, h => by
    have ih := joinL_app S (q :: r) b (List.cons_ne_nil _ _) h
    show joinL S (p :: q :: (r ++ b)) = _
    show p ++ (S ++ joinL S (q :: (r ++ b))) = (p ++ (S ++ joinL S (q :: r))) ++ (S ++ joinL S b)
    have e : joinL S (q :: (r ++ b)) = joinL S (q :: r ++ b) := rfl
    rw [e, ih, List.append_assoc, List.append_assoc]
theorem joinL_flat (S : List Nat) : ∀ L : List (List (List Nat)), (∀ l ∈ L, l ≠ []) → joinL S (L.map (joinL S)) = joinL S L.flatten
  | [], _ => rfl
  | [l], _ => by
    rw [List.map_cons, List.map_nil, List.flatten_cons, List.flatten_nil, List.append_nil]
    rfl
  | l :: m :: r, h => by
    have ih := joinL_flat S (m :: r) (fun x hx => h x (List.mem_cons_of_mem _ hx))
    have hm : m ≠ [] := h m (List.mem_cons_of_mem _ (List.mem_cons_self ..))
    have ne : (m :: r).flatten ≠ [] := by
      rw [List.flatten_cons]
      intro z
      exact hm (List.append_eq_nil_iff.mp z).1
    rw [List.flatten_cons, joinL_app S l _ (h l (List.mem_cons_self ..)) ne, ← ih]
    rfl
theorem jn_flat (L : List (List Str)) (h : ∀ l ∈ L, l ≠ []) : jn (L.map jn) = jn L.flatten := by
  refine ext_tl ?_
  rw [tl_jn, tl_jn, List.map_map]
  have e : (L.map (tl ∘ jn)) = (L.map (fun l => l.map tl)).map (joinL [32]) := by
    rw [List.map_map]
    refine List.map_congr_left fun l _ => ?_
    exact tl_jn l
  rw [e, joinL_flat [32] _ (fun l hl => ?_), List.map_flatten]
  obtain ⟨z, hz, rfl⟩ := List.mem_map.mp hl
  exact fun q => h z hz (List.map_eq_nil_iff.mp q)
theorem jn_one (x : Str) : jn [x] = x := by
  refine ext_tl ?_
  rw [tl_jn]
  rfl
theorem jn_nil : jn [] = "" := by
  refine ext_tl ?_
  rw [tl_jn]
  decide +kernel
/-! ### sizes -/
def wtS (L : List Str) : Nat := (L.map (·.length)).sum + L.length
theorem wtS_app (a b : List Str) : wtS (a ++ b) = wtS a + wtS b := by
  unfold wtS
  rw [List.map_append, List.sum_append, List.length_append]
  omega
theorem wtS_cons (a : Str) (b : List Str) : wtS (a :: b) = a.length + 1 + wtS b := by
  unfold wtS
  rw [List.map_cons, List.sum_cons, List.length_cons]
  omega
theorem wtS_nil : wtS [] = 0 := rfl
theorem joinL_len : ∀ L : List (List Nat), (joinL [32] L).length ≤ (L.map List.length).sum + L.length
  | [] => Nat.le_refl _
  | [p] => by
    show p.length ≤ _
    rw [List.map_cons, List.sum_cons]
    omega
  | p :: q :: r => by
    have ih := joinL_len (q :: r)
    show (p ++ ([32] ++ joinL [32] (q :: r))).length ≤ _
    rw [List.length_append, List.length_append, List.map_cons, List.sum_cons, List.length_cons (a := p)]
    show p.length + (1 + (joinL [32] (q :: r)).length) ≤ _
    omega
theorem jn_len (L : List Str) : (jn L).length ≤ wtS L := by
  have := joinL_len (L.map tl)
  rw [len_tl, tl_jn]
  unfold wtS
  rw [List.map_map, List.length_map] at this
  have e : L.map (List.length ∘ tl) = L.map (·.length) := List.map_congr_left fun x _ => (len_tl x).symm
  rw [e] at this
  exact this
theorem nm_tl {n : Int} (h : 0 ≤ n) : tl (nmS n) = numL n.toNat := by
  obtain ⟨k, rfl⟩ := Int.eq_ofNat_of_zero_le h
  unfold nmS
  rw [tl_num, Int.toNat_natCast]
theorem nm_len {n : Int} (h : 0 ≤ n) (h2 : n ≤ 10 ^ 30) : (nmS n).length ≤ 31 := by
  rw [len_tl, nm_tl h]
  refine numL_len (by decide) ?_
  have : n.toNat ≤ 10 ^ 30 := by
    obtain ⟨k, rfl⟩ := Int.eq_ofNat_of_zero_le h
    rw [Int.toNat_natCast]
    exact_mod_cast h2
  have e : (10 : Nat) ^ 30 < 10 ^ 31 := by decide +kernel
  omega
theorem op_len : Tk.op.str.length = 1 := by decide +kernel
theorem cx_tl : tl (")x" : Str) = [41, 120] := by decide +kernel
theorem cl_tl {n : Int} (h : 0 ≤ n) : tl (Tk.cl n).str = 41 :: 120 :: numL n.toNat := by
  show tl ((")x" : Str) ++ nmS n) = _
  rw [tl_append, cx_tl, nm_tl h]
  rfl
theorem cl_len {n : Int} (h : 0 ≤ n) (h2 : n ≤ 10 ^ 30) : (Tk.cl n).str.length ≤ 33 := by
  rw [len_tl, cl_tl h]
  have := nm_len h h2
  rw [len_tl, nm_tl h] at this
  show (numL n.toNat).length + 1 + 1 ≤ 33
  omega
abbrev tkS (L : List Tk) : List Str := L.map Tk.str
mutual
theorem wt_tks : ∀ s : Stp, s.ok → wtS (tkS s.tks) ≤ 401 * s.steps
  | .w l, h => by
    simp only [Stp.ok] at h
    simp only [Stp.tks, Stp.steps]
    show wtS [wS l] ≤ _
    rw [wtS_cons, wtS_nil, wS_len]
    omega
  | .r n b, h => by
    simp only [Stp.ok] at h
    simp only [Stp.tks, Stp.steps]
    have ih := wt_tksL b h.2.2
    show wtS (Tk.op.str :: tkS (tksL b ++ [.cl n])) ≤ _
    have e : tkS (tksL b ++ [.cl n]) = tkS (tksL b) ++ [(Tk.cl n).str] := List.map_append
    rw [wtS_cons, e, wtS_app, wtS_cons, wtS_nil, op_len]
    have := cl_len (show 0 ≤ n by omega) h.2.1
    omega
theorem wt_tksL : ∀ b : List Stp, okL b → wtS (tkS (tksL b)) ≤ 401 * stepsL b
  | [], _ => by
    simp only [tksL, stepsL]
    exact Nat.le_refl _
  | s :: b, h => by
    simp only [okL] at h
    simp only [tksL, stepsL]
    have i1 := wt_tks s h.1
    have i2 := wt_tksL b h.2
    have e : tkS (s.tks ++ tksL b) = tkS s.tks ++ tkS (tksL b) := List.map_append
    rw [e, wtS_app]
    omega
end
theorem wtS_len (L : List Str) : L.length ≤ wtS L := by
  unfold wtS
  omega
/-! ### words are free of blanks, and told apart -/
mutual
theorem tk_free : ∀ s : Stp, s.ok → ∀ p ∈ tkS s.tks, 32 ∉ tl p
  | .w l, h => by
    simp only [Stp.tks]
    intro p hp
    have : p = wS l := List.mem_singleton.mp hp
    subst this
    intro hc
    have hc' : 32 ∈ (l.map ltr).toArray.toList := hc
    rw [List.toList_toArray] at hc'
    obtain ⟨b, _, e⟩ := List.mem_map.mp hc'
    cases b <;> exact absurd e (by decide)
  | .r n b, h => by
    simp only [Stp.ok] at h
    simp only [Stp.tks]
    intro p hp
    have e : tkS (Tk.op :: (tksL b ++ [.cl n])) = Tk.op.str :: (tkS (tksL b) ++ [(Tk.cl n).str]) := by
      show Tk.op.str :: List.map Tk.str (tksL b ++ [.cl n]) = _
      rw [List.map_append]
      rfl
    rw [e] at hp
    rcases List.mem_cons.mp hp with rfl | hp
    · decide +kernel
    · rcases List.mem_append.mp hp with hp | hp
      · exact tkL_free b h.2.2 p hp
      · have : p = (Tk.cl n).str := List.mem_singleton.mp hp
        subst this
        rw [cl_tl (by omega)]
        intro z
        rcases List.mem_cons.mp z with z | z
        · exact absurd z (by decide)
        · rcases List.mem_cons.mp z with z | z
          · exact absurd z (by decide)
          · exact numL_free (.inl (by decide)) z
theorem tkL_free : ∀ b : List Stp, okL b → ∀ p ∈ tkS (tksL b), 32 ∉ tl p
  | [], _ => by
    simp only [tksL]
    intro p hp
    cases hp
  | s :: b, h => by
    simp only [okL] at h
    simp only [tksL]
    intro p hp
    have e : tkS (s.tks ++ tksL b) = tkS s.tks ++ tkS (tksL b) := List.map_append
    rw [e] at hp
    rcases List.mem_append.mp hp with hp | hp
    · exact tk_free s h.1 p hp
    · exact tkL_free b h.2 p hp
end
theorem split_jn {L : List Str} (hne : L ≠ []) (h : ∀ p ∈ L, 32 ∉ tl p) : Txt.split (jn L) " " = L := split_join tl_sp (by decide +kernel) hne h
/-! ### the reading machine -/
def mach : List (List Stp) → List Tk → Option (List (List Stp))
  | stk, [] => some stk
  | [], _ :: _ => none
  | a :: r, .wd l :: t => mach ((a ++ [.w l]) :: r) t
  | a :: r, .op :: t => mach ([] :: a :: r) t
  | [_], .cl _ :: _ => none
  | a :: b :: r, .cl n :: t => mach ((b ++ [.r n a]) :: r) t
mutual
theorem mach_tks : ∀ (s : Stp) (a : List Stp) (r : List (List Stp)) (t : List Tk), mach (a :: r) (s.tks ++ t) = mach ((a ++ [s]) :: r) t
  | .w l, a, r, t => by
    simp only [Stp.tks]
    show mach (a :: r) (.wd l :: t) = _
    rw [mach]
  | .r n b, a, r, t => by
    simp only [Stp.tks]
    show mach (a :: r) (.op :: ((tksL b ++ [.cl n]) ++ t)) = _
    rw [mach, List.append_assoc, mach_tksL b [] (a :: r), List.nil_append]
    show mach (b :: a :: r) (.cl n :: t) = _
    rw [mach]
theorem mach_tksL : ∀ (b : List Stp) (a : List Stp) (r : List (List Stp)) (t : List Tk), mach (a :: r) (tksL b ++ t) = mach ((a ++ b) :: r) t
  | [], a, r, t => by
    simp only [tksL]
    rw [List.nil_append, List.append_nil]
  | s :: b, a, r, t => by
    simp only [tksL]
    rw [List.append_assoc, mach_tks s a r, mach_tksL b (a ++ [s]) r, List.append_assoc]
    rfl
end
theorem mach_all (ss : List Stp) : mach [[]] (tksL ss) = some [ss] := by
  have := mach_tksL ss [] [] []
  rw [List.append_nil, List.nil_append] at this
  rw [this]
  rw [mach]
/-! the numbers of written repeats -/
mutual
theorem tk_cl : ∀ (s : Stp), s.ok → ∀ n, Tk.cl n ∈ s.tks → 1 ≤ n ∧ n ≤ 10 ^ 30
  | .w l, h => by
    simp only [Stp.tks]
    intro n hn
    cases List.mem_singleton.mp hn
  | .r m b, h => by
    simp only [Stp.ok] at h
    simp only [Stp.tks]
    intro n hn
    rcases List.mem_cons.mp hn with e | hn
    · cases e
    · rcases List.mem_append.mp hn with hn | hn
      · exact tkL_cl b h.2.2 n hn
      · cases List.mem_singleton.mp hn
        exact ⟨h.1, h.2.1⟩
theorem tkL_cl : ∀ (b : List Stp), okL b → ∀ n, Tk.cl n ∈ tksL b → 1 ≤ n ∧ n ≤ 10 ^ 30
  | [], _ => by
    simp only [tksL]
    intro n hn
    cases hn
  | s :: b, h => by
    simp only [okL] at h
    simp only [tksL]
    intro n hn
    rcases List.mem_append.mp hn with hn | hn
    · exact tk_cl s h.1 n hn
    · exact tkL_cl b h.2 n hn
end
theorem wd_ne_op (l : List Bool) : wS l ≠ "(" := fun e => by
  have e := congrArg tl e
  have e2 : tl ("(" : Str) = [40] := by decide +kernel
  rw [e2] at e
  have e3 : l.map ltr = [40] := by
    have : tl (wS l) = l.map ltr := List.toList_toArray
    rw [← this]
    exact e
  cases l with
  | nil => cases e3
  | cons b l =>
    rw [List.map_cons] at e3
    have := (List.cons.inj e3).1
    cases b <;> exact absurd this (by decide)
theorem cl_ne_op {n : Int} (h : 0 ≤ n) : (Tk.cl n).str ≠ "(" := fun e => by
  have e := congrArg tl e
  have e2 : tl ("(" : Str) = [40] := by decide +kernel
  rw [e2, cl_tl h] at e
  exact absurd (List.cons.inj e).1 (by decide)
theorem sw_cl {n : Int} (h : 0 ≤ n) : Txt.startswith (Tk.cl n).str ")x" = true := by
  unfold Txt.startswith
  have e1 : (")x" : Str).length = 2 := by decide +kernel
  have e2 := len_tl (Tk.cl n).str
  rw [cl_tl h] at e2
  have e3 : Builtin.Str.subAt (Tk.cl n).str ")x" 0 = true := by
    rw [StrLaws.subAt_eq, e1]
    show (List.take 2 (List.drop 0 (tl (Tk.cl n).str)) == tl (")x" : Str)) = true
    rw [cl_tl h, cx_tl]
    rfl
  rw [e3, e1, e2]
  show (decide (0 + 2 ≤ (numL n.toNat).length + 1 + 1) && true) = true
  rw [decide_eq_true (by omega)]
  rfl
theorem sw_wd (l : List Bool) : Txt.startswith (wS l) ")x" = false := by
  unfold Txt.startswith
  have e1 : (")x" : Str).length = 2 := by decide +kernel
  have e3 : Builtin.Str.subAt (wS l) ")x" 0 = false := by
    rw [StrLaws.subAt_eq, e1]
    show (List.take 2 (List.drop 0 (tl (wS l))) == tl (")x" : Str)) = false
    have : tl (wS l) = l.map ltr := List.toList_toArray
    rw [this, cx_tl, List.drop_zero]
    cases l with
    | nil => rfl
    | cons b l =>
      cases b <;> cases l <;> rfl
  rw [e3, Bool.and_false]
theorem cut_cl {n : Int} (h : 0 ≤ n) : (⟨((tl (Tk.cl n).str).drop 2).toArray⟩ : Str) = nmS n := by
  refine ext_tl ?_
  rw [tl_mk, cl_tl h, nm_tl h]
  rfl
/-! ### numbers read back -/
theorem dec_digit : ∀ c : Nat, 48 ≤ c ∧ c ≤ 57 → Unicode.isDecimal c = true := by
  intro c ⟨h1, h2⟩
  have : c = 48 ∨ c = 49 ∨ c = 50 ∨ c = 51 ∨ c = 52 ∨ c = 53 ∨ c = 54 ∨ c = 55 ∨ c = 56 ∨ c = 57 := by omega
  rcases this with e | e | e | e | e | e | e | e | e | e <;> subst e <;> decide +kernel
theorem nm_dec {n : Int} (h : 0 ≤ n) : Txt.isdecimal (nmS n) = true := by
  unfold Txt.isdecimal
  have l0 : 0 < (nmS n).length := by
    rw [len_tl, nm_tl h]
    exact List.length_pos_iff.mpr (numL_ne _)
  rw [decide_eq_true (show (nmS n).length > 0 from l0), Bool.true_and, ← Array.all_toList, List.all_eq_true]
  intro c hc
  have hc' : c ∈ tl (nmS n) := hc
  rw [nm_tl h] at hc'
  exact dec_digit c (numL_digits _ c hc')
theorem nm_int {n : Int} (h : 0 ≤ n) (hl : (nmS n).length ≤ 640) : intText? (nmS n) = some n := by
  have e : n = ((n.toNat : Nat) : Int) := (Int.toNat_of_nonneg h).symm
  have e2 := int_num (n := n.toNat) (by rw [← nm_tl h, ← len_tl]; omega)
  rw [← e] at e2
  exact e2
theorem dot_dec : Txt.isdecimal ("." : Str) = false := by
  unfold Txt.isdecimal
  decide +kernel
end KS
namespace KS
open PySem PySem.Spec PyProof.Rows L2
section
variable {K : PySem.W.Frag} {σ : L2.St} {H : Hp} {Q : VK} {ta : TA}
theorem catA_ok2 {a b : Addr} {xs ys : List V} (ha : SqT K H a xs) (hb : SqT K H b ys) (hl : xs.length + ys.length ≤ 64)
    (k : ∀ H' u, Same H H' → SqT K H' u (xs ++ ys) → Q (.ref u) H') : rCatA K (.ref a) (.ref b) H Q := by
  refine ⟨a, b, xs, ys, rfl, rfl, ha, hb, Nat.le_of_lt (small64 hl), fun e => ?_, fun _ e => ?_, fun _ _ p np => ?_⟩
  · subst e
    exact k H b (Same.refl _) hb
  · subst e
    exact k H a (Same.refl _) (by rw [List.append_nil]; exact ha)
  · exact k _ p (same_new np) (SqT.of upd_same)
theorem cut_to2 {xs : List V} {k : Nat} (h : k ≤ xs.length) : cutV xs none (some (k : Int)) = xs.take k := by
  unfold cutV
  rw [HT.sIx_none, HT.sIx_nat, Nat.min_eq_left h]
  simp
theorem cut_from2 {xs : List V} {k : Nat} (h : k ≤ xs.length) : cutV xs (some (k : Int)) none = xs.drop k := by
  unfold cutV
  rw [HT.sIx_none, HT.sIx_nat, Nat.min_eq_left h]
  exact List.take_of_length_le (by rw [List.length_drop]; exact Nat.le_refl _)
theorem slTo_ok2 {a : Addr} {xs : List V} {n : Nat} (ha : SqT K H a xs) (hn : n ≤ xs.length) (k : ∀ H' u, Same H H' → SqT K H' u (xs.take n) → Q (.ref u) H') : rSlA K (.ref a) none (some (n : Int)) H Q := by
  refine ⟨a, xs, rfl, ha, fun z => ?_, fun _ p np => ?_⟩
  · obtain ⟨_, z2⟩ := z
    rw [show HT.sIx xs.length xs.length (some (n : Int)) = min n xs.length from HT.sIx_nat _ _ n] at z2
    have e : n = xs.length := by omega
    refine k H a (Same.refl _) ?_
    rw [e, List.take_length]
    exact ha
  · refine k _ p (same_new np) (SqT.of ?_)
    rw [upd_same, cut_to2 hn]
theorem slFrom_ok2 {a : Addr} {xs : List V} {n : Nat} (ha : SqT K H a xs) (hn : n ≤ xs.length) (k : ∀ H' u, Same H H' → SqT K H' u (xs.drop n) → Q (.ref u) H') : rSlA K (.ref a) (some (n : Int)) none H Q := by
  refine ⟨a, xs, rfl, ha, fun z => ?_, fun _ p np => ?_⟩
  · obtain ⟨z1, _⟩ := z
    rw [show HT.sIx xs.length 0 (some (n : Int)) = min n xs.length from HT.sIx_nat _ _ n] at z1
    refine k H a (Same.refl _) ?_
    rcases Nat.eq_zero_or_pos n with e | e
    · subst e
      exact ha
    · have e2 : xs.length = 0 := by omega
      have e3 := List.eq_nil_of_length_eq_zero e2
      subst e3
      simpa using ha
  · refine k _ p (same_new np) (SqT.of ?_)
    rw [upd_same, cut_from2 hn]
end
end KS
namespace KS
open PySem PySem.Spec PyProof.Rows L2
theorem pe_never {X : Cx} {e : Expr} : PE X e (fun _ _ _ => False) := ⟨fun _ _ _ _ _ _ h => h.elim⟩
/-! ### small programs, spelt out -/
mutual
def Stp.sm : Stp → Prop
  | .w l => l.length ≤ 6
  | .r n b => n ≤ 3 ∧ smL b
def smL : List Stp → Prop
  | [] => True
  | s :: b => s.sm ∧ smL b
end
theorem smL_app : ∀ {a b : List Stp}, smL (a ++ b) ↔ smL a ∧ smL b
  | [], b => by rw [List.nil_append]; simp only [smL]; exact ⟨fun h => ⟨trivial, h⟩, fun h => h.2⟩
  | s :: a, b => by
    rw [List.cons_append]
    simp only [smL]
    rw [smL_app (a := a)]
    exact ⟨fun ⟨x, y, z⟩ => ⟨⟨x, y⟩, z⟩, fun ⟨⟨x, y⟩, z⟩ => ⟨x, y, z⟩⟩
theorem sm_mem : ∀ {b : List Stp} {s : Stp}, smL b → s ∈ b → s.sm
  | [], _, _, h => by cases h
  | x :: b, s, o, h => by
    simp only [smL] at o
    rcases List.mem_cons.mp h with e | h
    · subst e
      exact o.1
    · exact sm_mem o.2 h
mutual
def Stp.spell : Stp → List Bool
  | .w l => l
  | .r n b => (List.replicate n.toNat (spellL b)).flatten
def spellL : List Stp → List Bool
  | [] => []
  | s :: b => s.spell ++ spellL b
end
theorem spellL_app : ∀ a b : List Stp, spellL (a ++ b) = spellL a ++ spellL b
  | [], b => rfl
  | s :: a, b => by
    rw [List.cons_append]
    simp only [spellL]
    rw [spellL_app a b, List.append_assoc]
theorem spellL_take {ss : List Stp} {i : Nat} {s : Stp} (h : ss[i]? = some s) : spellL (ss.take (i + 1)) = spellL (ss.take i) ++ s.spell := by
  rw [List.take_add_one, h, spellL_app]
  show _ ++ spellL [s] = _
  simp only [spellL, List.append_nil]
theorem countP_rep (k : Bool) (l : List Bool) : ∀ n : Nat, ((List.replicate n l).flatten).countP (fun b => b == k) = n * l.countP fun b => b == k
  | 0 => by rw [Nat.zero_mul]; rfl
  | n + 1 => by
    rw [List.replicate_succ, List.flatten_cons, List.countP_append, countP_rep k l n, Nat.succ_mul, Nat.add_comm]
mutual
theorem spell_cnt (k : Bool) : ∀ s : Stp, s.ok → ((s.spell.countP fun b => b == k : Nat) : Int) = s.cnt k
  | .w l, _ => by simp only [Stp.spell, Stp.cnt]
  | .r n b, h => by
    simp only [Stp.ok] at h
    simp only [Stp.spell, Stp.cnt]
    rw [countP_rep, Int.natCast_mul, spellL_cnt k b h.2.2, Int.toNat_of_nonneg (by omega)]
theorem spellL_cnt (k : Bool) : ∀ b : List Stp, okL b → (((spellL b).countP fun b => b == k : Nat) : Int) = cntL k b
  | [], _ => by simp only [spellL, cntL]; rfl
  | s :: b, h => by
    simp only [okL] at h
    simp only [spellL, cntL]
    rw [List.countP_append, Int.natCast_add, spell_cnt k s h.1, spellL_cnt k b h.2]
end
mutual
theorem spell_len : ∀ s : Stp, s.sm → s.ok → s.spell.length ≤ 6 * s.steps * 3 ^ s.nest
  | .w l, h, _ => by
    simp only [Stp.sm] at h
    simp only [Stp.spell, Stp.steps, Stp.nest]
    omega
  | .r n b, h, o => by
    simp only [Stp.sm] at h
    simp only [Stp.ok] at o
    have ih := spellL_len b h.2 o.2.2
    simp only [Stp.spell, Stp.steps, Stp.nest]
    rw [List.length_flatten, List.map_replicate, List.sum_replicate_nat]
    have e : 3 ^ (1 + nestL b) = 3 * 3 ^ nestL b := by rw [Nat.add_comm, Nat.pow_succ, Nat.mul_comm]
    rw [e]
    have m1 : n.toNat * (spellL b).length ≤ 3 * (6 * stepsL b * 3 ^ nestL b) := Nat.mul_le_mul (by omega) ih
    have e2 : 3 * (6 * stepsL b * 3 ^ nestL b) = 6 * stepsL b * (3 * 3 ^ nestL b) := Nat.mul_left_comm _ _ _
    have m2 : 6 * stepsL b * (3 * 3 ^ nestL b) ≤ 6 * (1 + stepsL b) * (3 * 3 ^ nestL b) := Nat.mul_le_mul_right _ (by omega)
    omega
theorem spellL_len : ∀ b : List Stp, smL b → okL b → (spellL b).length ≤ 6 * stepsL b * 3 ^ nestL b
  | [], _, _ => by simp only [spellL, stepsL, nestL]; decide
  | s :: b, h, o => by
    simp only [smL] at h
    simp only [okL] at o
    have i1 := spell_len s h.1 o.1
    have i2 := spellL_len b h.2 o.2
    simp only [spellL, stepsL, nestL]
    rw [List.length_append]
    have p1 : 3 ^ s.nest ≤ 3 ^ (max s.nest (nestL b)) := Nat.pow_le_pow_right (by decide) (by omega)
    have p2 : 3 ^ nestL b ≤ 3 ^ (max s.nest (nestL b)) := Nat.pow_le_pow_right (by decide) (by omega)
    have m1 : 6 * s.steps * 3 ^ s.nest ≤ 6 * s.steps * 3 ^ (max s.nest (nestL b)) := Nat.mul_le_mul_left _ p1
    have m2 : 6 * stepsL b * 3 ^ nestL b ≤ 6 * stepsL b * 3 ^ (max s.nest (nestL b)) := Nat.mul_le_mul_left _ p2
    have e : 6 * (s.steps + stepsL b) * 3 ^ (max s.nest (nestL b)) = 6 * s.steps * 3 ^ (max s.nest (nestL b)) + 6 * stepsL b * 3 ^ (max s.nest (nestL b)) := by rw [Nat.mul_add, Nat.add_mul]
    omega
end
theorem spellL_small {b : List Stp} (h : smL b) (o : okL b) (hs : stepsL b ≤ 12) (hn : nestL b ≤ 2) : (spellL b).length ≤ 648 := by
  have i := spellL_len b h o
  have p : 3 ^ nestL b ≤ 3 ^ 2 := Nat.pow_le_pow_right (by decide) hn
  have m : 6 * stepsL b * 3 ^ nestL b ≤ 72 * 3 ^ 2 := Nat.mul_le_mul (by omega) p
  omega
/-- a word, however often -/
def rRepG : R2 := fun x y H Q => ∃ (wd : List Bool) (n : Int), x = .str (wS wd) ∧ y = .int n ∧ 1 ≤ n ∧ n ≤ 400 ∧ wd.length ≤ 1000 ∧ Q (.str (wS (List.replicate n.toNat wd).flatten)) H
theorem op_repG {X : Cx} : OpR X (binaryOp .Mult) rRepG := by
  intro pins s σ H x y v u Q I rx ry h
  obtain ⟨wd, n, rfl, rfl, n0, n1, w1, q⟩ := h
  obtain ⟨t, rfl⟩ := rx
  obtain ⟨t', rfl⟩ := ry
  have e1 : ¬ (n < 1) := by omega
  have hl := wS_len wd
  have hm : wd.length * n.toNat ≤ 400000 := Nat.mul_le_mul w1 (show n.toNat ≤ 400 by omega)
  refine P.mul_str ?_ ?_ ?_ ?_
  · have h1 : ¬ n < -(2 ^ 63 : Int) := by omega
    have h2 : ¬ n ≥ 2 ^ 63 := by omega
    rw [decide_eq_false h1, decide_eq_false h2]
    rfl
  · intro _ _
    rw [hl]
    have : (wd.length : Int) ≤ (2 ^ 63 - 1) / n := (Int.le_ediv_iff_mul_le (by omega)).mpr (by
      have : ((wd.length * n.toNat : Nat) : Int) ≤ 400000 := by omega
      rw [Int.natCast_mul, Int.toNat_of_nonneg (by omega)] at this
      omega)
    omega
  · intro _ _
    refine decide_eq_false ?_
    rw [hl, sizeLine_eq]
    omega
  · rw [if_neg e1]
    by_cases z : ((n == 1) || ((wS wd).length == 0)) = true
    · rw [if_pos z]
      have ez : wS wd = wS (List.replicate n.toNat wd).flatten := by
        rw [Bool.or_eq_true] at z
        rcases z with z | z
        · have : n = 1 := by simpa using z
          subst this
          show wS wd = wS (wd ++ [])
          rw [List.append_nil]
        · rw [hl] at z
          have : wd = [] := List.length_eq_zero_iff.mp (by simpa using z)
          subst this
          congr 1
          have : ∀ k : Nat, (List.replicate k ([] : List Bool)).flatten = [] := fun k => by
            induction k with
            | zero => rfl
            | succ k ih => rw [List.replicate_succ, List.flatten_cons, ih]; rfl
          rw [this]
      rw [ez] at *
      first | exact ⟨.str (wS (List.replicate n.toNat wd).flatten), H, I, ⟨_, rfl⟩, q⟩ | exact ⟨.str (wS (List.replicate n.toNat wd).flatten), H, I.tok _, ⟨_, rfl⟩, q⟩
    · rw [if_neg z]
      have ez : (⟨(List.replicate n.toNat (wS wd).cps).foldl (· ++ ·) #[]⟩ : Str) = wS (List.replicate n.toNat wd).flatten := by
        show (⟨(List.replicate n.toNat (wd.map ltr).toArray).foldl (· ++ ·) #[]⟩ : Str) = _
        rw [rep_words]
        unfold wS
        simp
      rw [ez]
      refine ⟨?_, .str (wS (List.replicate n.toNat wd).flatten), H, I.tok _, ⟨_, rfl⟩, q⟩
      rw [wS_len, List.length_flatten, List.map_replicate, List.sum_replicate_nat, sizeLine_eq, Nat.mul_comm]
      omega
/-! ### large numbers can be shown -/
theorem shows_big {a b : Int} (a0 : 0 ≤ a) (a1 : a < 10 ^ 160) (b0 : 0 ≤ b) (b1 : b < 10 ^ 160) : PyData.showable (.list [.tuple [.int a, .int b], .tuple [.int a, .int b]]) = true ∧ PyData.hasDict (.list [.tuple [.int a, .int b], .tuple [.int a, .int b]]) = false ∧
    (PyData.list [.tuple [.int a, .int b], .tuple [.int a, .int b]]).shown.length ≤ sizeLine ∧ PyData.depth (.list [.tuple [.int a, .int b], .tuple [.int a, .int b]]) ≤ 64 := by
  have key : ∀ x : Int, 0 ≤ x → x < 10 ^ 160 → x.natAbs.log2 < 540 ∧ (toString x : Str).length ≤ 160 := by
    intro x x0 x1
    obtain ⟨n, rfl⟩ := Int.eq_ofNat_of_zero_le x0
    have hn : n < 10 ^ 160 := by exact_mod_cast x1
    constructor
    · rw [Int.natAbs_natCast]
      rcases Nat.eq_zero_or_pos n with z | z
      · subst z
        decide
      · refine (Nat.log2_lt (by omega)).mpr ?_
        have : (10 : Nat) ^ 160 < 2 ^ 540 := by decide +kernel
        omega
    · exact toString_length_le (k := 160) (by omega) (by decide) x1
  obtain ⟨k1, k2⟩ := key a a0 a1
  obtain ⟨k3, k4⟩ := key b b0 b1
  refine ⟨?_, ?_, ?_, ?_⟩
  · simp only [PyData.showable, PyData.showableAll, Bool.and_true, Bool.and_eq_true, decide_eq_true_iff]
    omega
  · simp only [PyData.hasDict, PyData.hasDictAll, Bool.or_false]
  · have wa : PyData.weight (.int a) ≤ 540 := by
      simp only [PyData.weight]
      split <;> omega
    have wb : PyData.weight (.int b) ≤ 540 := by
      simp only [PyData.weight]
      split <;> omega
    have ls : PyData.leavesShort 160 (.list [.tuple [.int a, .int b], .tuple [.int a, .int b]]) = true := by
      simp only [PyData.leavesShort, PyData.leavesShortAll, Bool.and_true, Bool.and_eq_true, decide_eq_true_iff, PyData.shown]
      exact ⟨⟨decide_eq_true k2, decide_eq_true k4⟩, ⟨decide_eq_true k2, decide_eq_true k4⟩⟩
    have h := PyData.shown_le 160 (by decide) _ ls
    have w4 : PyData.weight (.list [.tuple [.int a, .int b], .tuple [.int a, .int b]]) ≤ 2200 := by
      have ea : PyData.weight (.list [.tuple [.int a, .int b], .tuple [.int a, .int b]]) = (PyData.weight (.int a) + 1 + (PyData.weight (.int b) + 1 + 0)) + 1 + ((PyData.weight (.int a) + 1 + (PyData.weight (.int b) + 1 + 0)) + 1 + 0) := by
        simp only [PyData.weight, PyData.weightAll]
      omega
    have : (160 + 2) * PyData.weight (.list [.tuple [.int a, .int b], .tuple [.int a, .int b]]) ≤ 162 * 2200 := Nat.mul_le_mul_left _ w4
    rw [sizeLine_eq]
    omega
  · simp only [PyData.depth, PyData.depthAll]
    decide
/-! ### the promises -/
def spTimes : Sp := fun xs H Q _ => ∃ (p : Addr) (b : Bool), xs = [.ref p, .bl b] ∧ PoolO (H p) ∧ ∀ H' n, KeepX p H H' → PoolO (H' p) → 1 ≤ n → n ≤ 10 ^ 30 → (b = true → n ≤ 3) → Q (.int n) H'
def spLSt (K : PySem.W.Frag) (m : Nat) : Sp := fun xs H Q _ => ∃ (v : V) (s : Stp), xs = [v] ∧ StA K H v s ∧ s.nest ≤ m ∧ s.steps ≤ 60 ∧ ∀ H', Same H H' → Q (.int (s.steps : Nat)) H'
def spLPr (K : PySem.W.Frag) (m : Nat) : Sp := fun xs H Q _ => ∃ (p : Addr) (d : Nat) (most : Nat), xs = [.ref p, .int (d : Nat), .int (most : Nat), .bl true] ∧ PoolO (H p) ∧ 1 ≤ d ∧ d ≤ m + 1 ∧ d ≤ 4 ∧ most ≤ 12 ∧
  ∀ H' t ss, KeepX p H H' → PoolO (H' p) → PgA K H' t ss → okL ss → smL ss → nestL ss ≤ d - 1 → stepsL ss ≤ most → Q (.ref t) H'
def spSpl (K : PySem.W.Frag) (m : Nat) : Sp := fun xs H Q _ => ∃ (t : Addr) (ss : List Stp), xs = [.ref t] ∧ PgA K H t ss ∧ okL ss ∧ smL ss ∧ nestL ss ≤ m ∧ nestL ss ≤ 2 ∧ stepsL ss ≤ 12 ∧ ∀ H', Same H H' → Q (.str (wS (spellL ss))) H'
def spNums (K : PySem.W.Frag) : Sp := fun xs H Q _ => ∃ (t : Addr) (ss : List Stp), xs = [.ref t] ∧ PgA K H t ss ∧ okL ss ∧ smL ss ∧ nestL ss ≤ 2 ∧ stepsL ss ≤ 12 ∧ ∀ H' u, Same H H' → H' u = some (.tup [.int (cntL false ss), .int (cntL true ss)]) → Q (.ref u) H'
def spTold (K : PySem.W.Frag) : Sp := fun xs H Q _ => ∃ (t u : Addr) (ss : List Stp), xs = [.ref t, .ref u] ∧ PgA K H t ss ∧ okL ss ∧ nestL ss ≤ 4 ∧ stepsL ss ≤ 60 ∧ SqT K H u [.int (cntL false ss), .int (cntL true ss)] ∧ ∀ H', Same H H' → Q (.bl true) H'
end KS
namespace KS
open PySem PySem.Spec PyProof.Rows L2
/-! ### programs as data, shown -/
mutual
def Stp.dat : Stp → PyData
  | .w l => .str (wS l)
  | .r n b => .tuple [.str "repeat", .int n, .tuple (datL b)]
def datL : List Stp → List PyData
  | [] => []
  | s :: b => s.dat :: datL b
end
mutual
theorem StA.dp {K : PySem.W.Frag} {H : Hp} : ∀ {v : V} {s : Stp}, StA K H v s → Dp K H v s.dat
  | _, _, .w l => by
    simp only [Stp.dat]
    exact .str _
  | _, _, .r h1 h2 h3 => by
    simp only [Stp.dat]
    exact .tup h1 (.cons (.str _) (.cons (.int _) (.cons (.tup h2 (StsA.dp h3)) .nil)))
theorem StsA.dp {K : PySem.W.Frag} {H : Hp} : ∀ {vs : List V} {ss : List Stp}, StsA K H vs ss → DpAll K H vs (datL ss)
  | _, _, .nil => by
    simp only [datL]
    exact .nil
  | _, _, .cons h1 h2 => by
    simp only [datL]
    exact .cons (StA.dp h1) (StsA.dp h2)
end
structure ShD (d : PyData) (n m : Nat) : Prop where
  short : d.leavesShort 160 = true
  show_ : d.showable = true
  nod : d.hasDict = false
  wt : d.weight ≤ n
  dep : d.depth ≤ m
structure ShAll (ds : List PyData) (n m : Nat) : Prop where
  short : PyData.leavesShortAll 160 ds = true
  show_ : PyData.showableAll ds = true
  nod : PyData.hasDictAll ds = false
  wt : PyData.weightAll ds ≤ n
  dep : PyData.depthAll ds ≤ m
theorem wS_cps (l : List Bool) : ∀ c ∈ (wS l).cps.toList, c < 16 ^ 8 := by
  intro c hc
  have hc' : c ∈ (l.map ltr).toArray.toList := hc
  rw [List.toList_toArray] at hc'
  obtain ⟨b, _, rfl⟩ := List.mem_map.mp hc'
  cases b <;> decide
theorem int_shd {n : Int} (h1 : 1 ≤ n) (h2 : n ≤ 10 ^ 30) : PyData.leavesShort 160 (.int n) = true ∧ PyData.showable (.int n) = true ∧ PyData.weight (.int n) ≤ 101 := by
  obtain ⟨k, rfl⟩ := Int.eq_ofNat_of_zero_le (show 0 ≤ n by omega)
  have hk : k ≤ 10 ^ 30 := by exact_mod_cast h2
  have lg : k.log2 < 100 := by
    refine (Nat.log2_lt (by omega)).mpr ?_
    have : (10 : Nat) ^ 30 < 2 ^ 100 := by decide +kernel
    omega
  refine ⟨?_, ?_, ?_⟩
  · simp only [PyData.leavesShort, PyData.shown]
    refine decide_eq_true (toString_length_le (k := 160) (by omega) (by decide) ?_)
    have : (10 : Int) ^ 30 < 10 ^ 160 := by decide +kernel
    omega
  · simp only [PyData.showable]
    exact decide_eq_true (by show k.log2 < 1920; omega)
  · simp only [PyData.weight]
    split
    · omega
    · show k.log2 + 1 ≤ 101
      omega
theorem rep_shd : PyData.leavesShort 160 (.str "repeat") = true ∧ PyData.showable (.str "repeat") = true ∧ PyData.weight (.str "repeat") = 6 := by
  refine ⟨by simp only [PyData.leavesShort]; decide +kernel, by simp only [PyData.showable], by simp only [PyData.weight]; decide +kernel⟩
mutual
theorem dat_shd : ∀ s : Stp, s.ok → ShD s.dat (500 * s.steps - 1) (2 * s.nest)
  | .w l, h => by
    simp only [Stp.ok] at h
    simp only [Stp.dat, Stp.steps, Stp.nest]
    have wl := wS_len l
    refine ⟨?_, ?_, ?_, ?_, ?_⟩
    · simp only [PyData.leavesShort]
      rw [List.all_eq_true]
      exact fun c hc => decide_eq_true (wS_cps l c hc)
    · simp only [PyData.showable]
    · simp only [PyData.hasDict]
    · simp only [PyData.weight]
      show (wS l).length ≤ _
      omega
    · simp only [PyData.depth]
      omega
  | .r n b, h => by
    simp only [Stp.ok] at h
    obtain ⟨i1, i2, i3⟩ := int_shd h.1 h.2.1
    obtain ⟨r1, r2, r3⟩ := rep_shd
    have ih := datL_shd b h.2.2
    simp only [Stp.dat, Stp.steps, Stp.nest]
    refine ⟨?_, ?_, ?_, ?_, ?_⟩
    · have e : PyData.leavesShort 160 (.tuple (datL b)) = true := by
        simp only [PyData.leavesShort]
        exact ih.short
      have : PyData.leavesShortAll 160 [.str "repeat", .int n, .tuple (datL b)] = true := by
        show (PyData.leavesShort 160 (.str "repeat") && (PyData.leavesShort 160 (.int n) && (PyData.leavesShort 160 (.tuple (datL b)) && true))) = true
        rw [r1, i1, e]
        rfl
      simp only [PyData.leavesShort]
      exact this
    · have e : PyData.showable (.tuple (datL b)) = true := by
        simp only [PyData.showable]
        exact ih.show_
      have : PyData.showableAll [.str "repeat", .int n, .tuple (datL b)] = true := by
        show (PyData.showable (.str "repeat") && (PyData.showable (.int n) && (PyData.showable (.tuple (datL b)) && true))) = true
        rw [r2, i2, e]
        rfl
      simp only [PyData.showable]
      exact this
    · simp only [PyData.hasDict, PyData.hasDictAll, Bool.or_false, Bool.false_or]
      exact ih.nod
    · have e : PyData.weight (.tuple [.str "repeat", .int n, .tuple (datL b)]) = PyData.weight (.str "repeat") + 1 + (PyData.weight (.int n) + 1 + (PyData.weightAll (datL b) + 1 + 0)) := by
        simp only [PyData.weight, PyData.weightAll]
      rw [e, r3]
      have := ih.wt
      omega
    · have e : PyData.depth (.tuple [.str "repeat", .int n, .tuple (datL b)]) = 1 + max 0 (max 0 (max (1 + PyData.depthAll (datL b)) 0)) ∨ PyData.depth (.tuple [.str "repeat", .int n, .tuple (datL b)]) ≤ 2 + PyData.depthAll (datL b) := by
        right
        simp only [PyData.depth, PyData.depthAll]
        omega
      have := ih.dep
      rcases e with e | e <;> omega
theorem datL_shd : ∀ b : List Stp, okL b → ShAll (datL b) (500 * stepsL b) (2 * nestL b)
  | [], _ => by
    simp only [datL, stepsL, nestL]
    refine ⟨?_, ?_, ?_, ?_, ?_⟩
    · simp only [PyData.leavesShortAll]
    · simp only [PyData.showableAll]
    · simp only [PyData.hasDictAll]
    · simp only [PyData.weightAll]; omega
    · simp only [PyData.depthAll]; omega
  | s :: b, h => by
    simp only [okL] at h
    have i1 := dat_shd s h.1
    have i2 := datL_shd b h.2
    have sp := steps_pos s
    simp only [datL, stepsL, nestL]
    refine ⟨?_, ?_, ?_, ?_, ?_⟩
    · simp only [PyData.leavesShortAll, i1.short, i2.short, Bool.and_self]
    · simp only [PyData.showableAll, i1.show_, i2.show_, Bool.and_self]
    · simp only [PyData.hasDictAll, i1.nod, i2.nod, Bool.or_self]
    · simp only [PyData.weightAll]
      have := i1.wt
      have := i2.wt
      omega
    · simp only [PyData.depthAll]
      have := i1.dep
      have := i2.dep
      omega
end
mutual
theorem ls_mono : ∀ d : PyData, d.leavesShort 8 = true → d.leavesShort 160 = true
  | .none, _ => by simp only [PyData.leavesShort]
  | .bool _, _ => by simp only [PyData.leavesShort]
  | .int i, h => by
    simp only [PyData.leavesShort, decide_eq_true_eq] at h ⊢
    omega
  | .str x, h => by
    simp only [PyData.leavesShort] at h ⊢
    exact h
  | .list xs, h => by
    simp only [PyData.leavesShort] at h ⊢
    exact ls_monoA xs h
  | .tuple xs, h => by
    simp only [PyData.leavesShort] at h ⊢
    exact ls_monoA xs h
  | .dict kvs, h => by
    simp only [PyData.leavesShort] at h ⊢
    exact ls_monoK kvs h
theorem ls_monoA : ∀ ds : List PyData, PyData.leavesShortAll 8 ds = true → PyData.leavesShortAll 160 ds = true
  | [], _ => by simp only [PyData.leavesShortAll]
  | d :: ds, h => by
    simp only [PyData.leavesShortAll, Bool.and_eq_true] at h ⊢
    exact ⟨ls_mono d h.1, ls_monoA ds h.2⟩
theorem ls_monoK : ∀ ds : List (PyData × PyData), PyData.leavesShortKv 8 ds = true → PyData.leavesShortKv 160 ds = true
  | [], _ => by simp only [PyData.leavesShortKv]
  | (k, v) :: ds, h => by
    simp only [PyData.leavesShortKv, Bool.and_eq_true] at h ⊢
    exact ⟨⟨ls_mono k h.1.1, ls_mono v h.1.2⟩, ls_monoK ds h.2⟩
end
theorem depth_cells : ∀ cs : List Cell, PyData.depthAll (cs.map cellD) ≤ 1
  | [] => by simp only [List.map_nil, PyData.depthAll]; omega
  | c :: cs => by
    have := depth_cells cs
    simp only [List.map_cons, PyData.depthAll]
    have e : (cellD c).depth ≤ 1 := by
      simp only [cellD, PyData.depth, PyData.depthAll]
      omega
    omega
theorem depth_plan (cs : List Cell) : (planD cs).depth ≤ 2 := by
  have := depth_cells cs
  simp only [planD, PyData.depth]
  omega
/-- a plan, a filling, a program, shown together -/
theorem shown_three {a b : PyData} {ss : List Stp} {n1 n2 : Nat} (h1 : Shows a n1) (d1 : a.depth ≤ 9) (h2 : Shows b n2) (d2 : b.depth ≤ 9) (hn1 : n1 + n2 ≤ 50000) (ok : okL ss) (hst : stepsL ss ≤ 60) (hn : nestL ss ≤ 6) :
    PyData.showable (.list [a, b, .tuple (datL ss)]) = true ∧ PyData.hasDict (.list [a, b, .tuple (datL ss)]) = false ∧ (PyData.list [a, b, .tuple (datL ss)]).shown.length ≤ sizeLine ∧ PyData.depth (.list [a, b, .tuple (datL ss)]) ≤ 64 := by
  have h3 := datL_shd ss ok
  refine ⟨?_, ?_, ?_, ?_⟩
  · simp only [PyData.showable, PyData.showableAll, h1.show_, h2.show_, h3.show_, Bool.and_self]
  · simp only [PyData.hasDict, PyData.hasDictAll, h1.nod, h2.nod, h3.nod, Bool.or_self]
  · have hl : PyData.leavesShort 160 (.list [a, b, .tuple (datL ss)]) = true := by
      simp only [PyData.leavesShort, PyData.leavesShortAll, ls_mono _ h1.short, ls_mono _ h2.short, h3.short, Bool.and_self]
    have := PyData.shown_le 160 (by decide) _ hl
    have w : PyData.weight (.list [a, b, .tuple (datL ss)]) = a.weight + 1 + (b.weight + 1 + (PyData.weightAll (datL ss) + 1 + 0)) := by
      simp only [PyData.weight, PyData.weightAll]
    rw [w] at this
    have a1 := h1.wt
    have a2 := h2.wt
    have a3 := h3.wt
    have e : sizeLine = 16777216 := by decide
    rw [e]
    omega
  · have w : PyData.depth (.list [a, b, .tuple (datL ss)]) ≤ 1 + max a.depth (max b.depth (1 + PyData.depthAll (datL ss))) := by
      simp only [PyData.depth, PyData.depthAll]
      omega
    have a3 := h3.dep
    omega
end KS
namespace KS
open PySem PySem.Spec PyProof.Rows L2 TL
/-! ### things of any kind, tuples down to their parts -/
inductive Anv
  | s (x : Str)
  | i (n : Int)
  | o (t : String)
  | t (xs : List Anv)
def Anv.kind : Anv → String
  | .s _ => "str"
  | .i _ => "int"
  | .o k => k
  | .t _ => "tuple"
/-- no drawing pool -/
def NP (xs : List V) : Prop := ∀ a b c : Int, xs ≠ [.int a, .int b, .int c]
mutual
inductive AnA (K : PySem.W.Frag) (H : Hp) : V → Anv → Prop
  | s {x : Str} : x.length ≤ 1000 → AnA K H (.str x) (.s x)
  | i (n : Int) : AnA K H (.int n) (.i n)
  | non : AnA K H .non (.o "NoneType")
  | bl (b : Bool) : AnA K H (.bl b) (.o "bool")
  | l {a : Addr} {xs : List V} : H a = some (.lst xs) → NP xs → AnA K H (.ref a) (.o "list")
  | d {a : Addr} : H a = some (.dK []) → AnA K H (.ref a) (.o "dict")
  | t {a : Addr} {xs : List V} {ys : List Anv} : xs.length ≤ 100000 → SqT K H a xs → AnsA K H xs ys → AnA K H (.ref a) (.t ys)
inductive AnsA (K : PySem.W.Frag) (H : Hp) : List V → List Anv → Prop
  | nil : AnsA K H [] []
  | cons {v : V} {x : Anv} {vs : List V} {xs : List Anv} : AnA K H v x → AnsA K H vs xs → AnsA K H (v :: vs) (x :: xs)
end
structure KA (K : PySem.W.Frag) (H H' : Hp) : Prop where
  t : KT K H H'
  l : ∀ (a : Addr) (xs : List V), H a = some (.lst xs) → NP xs → H' a = some (.lst xs)
  d : ∀ a : Addr, H a = some (.dK []) → H' a = some (.dK [])
theorem KA.of_same {K : PySem.W.Frag} {H H' : Hp} (s : Same H H') : KA K H H' := ⟨.of_same s, fun _ _ e _ => s _ _ e, fun _ e => s _ _ e⟩
theorem KA.of_keepX {K : PySem.W.Frag} {H H' : Hp} {p : Addr} (po : PoolO (H p)) (k : KeepX p H H') : KA K H H' := by
  refine ⟨.of_keepX po k, fun a xs e n => k a _ (fun z => ?_) e, fun a e => k a _ (fun z => ?_) e⟩
  · subst z
    obtain ⟨x, y, c, e2, _⟩ := po
    rw [e] at e2
    injection e2 with e2
    injection e2 with e2
    subst e2
    exact n x y c rfl
  · subst z
    obtain ⟨x, y, c, e2, _⟩ := po
    rw [e] at e2
    injection e2 with e2
    cases e2
mutual
theorem AnA.ka {K : PySem.W.Frag} {H H' : Hp} (k : KA K H H') : ∀ {v : V} {x : Anv}, AnA K H v x → AnA K H' v x
  | _, _, .s h => .s h
  | _, _, .i n => .i n
  | _, _, .non => .non
  | _, _, .bl b => .bl b
  | _, _, .l e n => .l (k.l _ _ e n) n
  | _, _, .d e => .d (k.d _ e)
  | _, _, .t hz h1 h2 => .t hz (k.t _ _ h1) (AnsA.ka k h2)
theorem AnsA.ka {K : PySem.W.Frag} {H H' : Hp} (k : KA K H H') : ∀ {vs : List V} {xs : List Anv}, AnsA K H vs xs → AnsA K H' vs xs
  | _, _, .nil => .nil
  | _, _, .cons h1 h2 => .cons (AnA.ka k h1) (AnsA.ka k h2)
end
theorem AnA.same {K : PySem.W.Frag} {H H' : Hp} {v : V} {x : Anv} (h : AnA K H v x) (s : Same H H') : AnA K H' v x := h.ka (.of_same s)
theorem AnsA.same {K : PySem.W.Frag} {H H' : Hp} {v : List V} {x : List Anv} (h : AnsA K H v x) (s : Same H H') : AnsA K H' v x := h.ka (.of_same s)
theorem AnsA.len {K : PySem.W.Frag} {H : Hp} : ∀ {vs : List V} {xs : List Anv}, AnsA K H vs xs → vs.length = xs.length
  | _, _, .nil => rfl
  | _, _, .cons _ h => congrArg (· + 1) (AnsA.len h)
theorem AnsA.get {K : PySem.W.Frag} {H : Hp} : ∀ {vs : List V} {xs : List Anv}, AnsA K H vs xs → ∀ {i : Nat} {v : V}, vs[i]? = some v → ∃ x, xs[i]? = some x ∧ AnA K H v x
  | _, _, .nil, i, v, e => by cases e
  | _, _, .cons h1 h2, 0, v, e => by
    cases e
    exact ⟨_, rfl, h1⟩
  | _, _, .cons h1 h2, i + 1, v, e => AnsA.get h2 e
theorem AnsA.app {K : PySem.W.Frag} {H : Hp} : ∀ {vs ws : List V} {xs ys : List Anv}, AnsA K H vs xs → AnsA K H ws ys → AnsA K H (vs ++ ws) (xs ++ ys)
  | _, _, _, _, .nil, h => h
  | _, _, _, _, .cons h1 h2, h => .cons h1 (AnsA.app h2 h)
theorem AnsA.take {K : PySem.W.Frag} {H : Hp} : ∀ {vs : List V} {xs : List Anv}, AnsA K H vs xs → ∀ n : Nat, AnsA K H (vs.take n) (xs.take n)
  | _, _, _, 0 => .nil
  | _, _, .nil, n + 1 => .nil
  | _, _, .cons h1 h2, n + 1 => .cons h1 (AnsA.take h2 n)
theorem AnsA.drop {K : PySem.W.Frag} {H : Hp} : ∀ {vs : List V} {xs : List Anv}, AnsA K H vs xs → ∀ n : Nat, AnsA K H (vs.drop n) (xs.drop n)
  | _, _, h, 0 => h
  | _, _, .nil, n + 1 => .nil
  | _, _, .cons h1 h2, n + 1 => AnsA.drop h2 n
theorem AnsA.rep {K : PySem.W.Frag} {H : Hp} {vs : List V} {xs : List Anv} (h : AnsA K H vs xs) : ∀ n : Nat, AnsA K H (List.replicate n vs).flatten (List.replicate n xs).flatten
  | 0 => .nil
  | n + 1 => by
    rw [List.replicate_succ, List.replicate_succ, List.flatten_cons, List.flatten_cons]
    exact h.app (AnsA.rep h n)
theorem AnsA.np {K : PySem.W.Frag} {H : Hp} {vs : List V} {xs : List Anv} (h : AnsA K H vs xs) (n : ∀ a b c, xs ≠ [.i a, .i b, .i c]) : NP vs := by
  intro a b c e
  subst e
  cases h with
  | cons h1 h =>
    cases h with
    | cons h2 h =>
      cases h with
      | cons h3 h =>
        cases h
        cases h1
        cases h2
        cases h3
        exact n _ _ _ rfl
theorem AnA.oth {K : PySem.W.Frag} {H : Hp} {v : V} {x : Anv} (h : AnA K H v x) : Oth K H v x.kind := by
  cases h with
  | s h => exact .str _
  | i n => exact .int n
  | non => exact .non
  | bl b => exact .bl b
  | l e n => exact .lst e
  | d e => exact .dct e
  | t hz h1 h2 => exact .tup h1
mutual
def Stp.any : Stp → Anv
  | .w l => .s (wS l)
  | .r n b => .t [.s "repeat", .i n, .t (anyL b)]
def anyL : List Stp → List Anv
  | [] => []
  | s :: b => s.any :: anyL b
end
theorem len_stepsA : ∀ ss : List Stp, ss.length ≤ stepsL ss
  | [] => Nat.le_refl _
  | s :: ss => by
    have := len_stepsA ss
    have := steps_pos s
    simp only [stepsL, List.length_cons]
    omega
mutual
theorem StA.an {K : PySem.W.Frag} {H : Hp} : ∀ {v : V} {s : Stp}, StA K H v s → s.ok → s.steps ≤ 1000 → AnA K H v s.any
  | _, _, .w l, ok, _ => by
    simp only [Stp.ok] at ok
    simp only [Stp.any]
    exact .s (by rw [wS_len]; omega)
  | _, _, .r h1 h2 h3, ok, hs => by
    simp only [Stp.ok] at ok
    simp only [Stp.steps] at hs
    simp only [Stp.any]
    have hl := h3.len
    have := len_stepsA
    refine .t (?_) h1 (.cons (.s (by decide +kernel)) (.cons (.i _) (.cons (.t (by rw [hl]; have := len_stepsA; exact Nat.le_trans (len_stepsA _) (by omega)) h2 (StsA.an h3 ok.2.2 (by omega))) .nil)))
    show 3 ≤ 100000
    decide
theorem StsA.an {K : PySem.W.Frag} {H : Hp} : ∀ {vs : List V} {ss : List Stp}, StsA K H vs ss → okL ss → stepsL ss ≤ 1000 → AnsA K H vs (anyL ss)
  | _, _, .nil, _, _ => by
    simp only [anyL]
    exact .nil
  | _, _, .cons h1 h2, ok, hs => by
    simp only [okL] at ok
    simp only [stepsL] at hs
    simp only [anyL]
    exact .cons (StA.an h1 ok.1 (by omega)) (StsA.an h2 ok.2 (by omega))
end
theorem anyL_len : ∀ ss : List Stp, (anyL ss).length = ss.length
  | [] => by simp only [anyL]; rfl
  | s :: b => by simp only [anyL, List.length_cons]; rw [anyL_len b]
theorem anyL_noint : ∀ ss : List Stp, ∀ x ∈ anyL ss, ∀ n, x ≠ .i n
  | [], x, h => by
    simp only [anyL] at h
    cases h
  | s :: b, x, h => by
    simp only [anyL] at h
    intro n
    rcases List.mem_cons.mp h with e | h
    · subst e
      cases s with
      | w l => simp only [Stp.any]; exact fun z => by cases z
      | r n b => simp only [Stp.any]; exact fun z => by cases z
    · exact anyL_noint b x h n
/-! ### what is a program -/
def wB (x : Str) : Bool := decide (x.length ≤ 400) && (tl x).all fun c => c == 82 || c == 67
def wOk (x : Str) : Bool := decide (0 < x.length) && wB x
def isRepA : Anv → Bool
  | .t [.s r, .i n, .t _] => decide (r = "repeat") && decide (1 ≤ n ∧ n ≤ 10 ^ 30)
  | _ => false
def cntA : Nat → Anv → Nat
  | 0, x => match x with
    | .s x => if wOk x = true then 1 else 0
    | _ => 0
  | d + 1, x => match x with
    | .s x => if wOk x = true then 1 else 0
    | .t [.s r, .i n, .t ys] => if isRepA (.t [.s r, .i n, .t ys]) = true then (if 0 ∈ ys.map (cntA d) then 0 else 1 + (ys.map (cntA d)).sum) else 0
    | _ => 0
def goodA : Anv → Bool
  | .t ys => !decide (0 ∈ ys.map (cntA 4)) && decide ((ys.map (cntA 4)).sum ≤ 60)
  | _ => false
theorem cntA_s (d : Nat) (x : Str) : cntA d (.s x) = if wOk x = true then 1 else 0 := by
  cases d <;> rfl
theorem cntA_o (d : Nat) (t : String) : cntA d (.o t) = 0 := by
  cases d <;> rfl
theorem cntA_i (d : Nat) (n : Int) : cntA d (.i n) = 0 := by
  cases d <;> rfl
theorem cntA_0 {x : Anv} (h : x.kind ≠ "str") : cntA 0 x = 0 := by
  cases x with
  | s x => exact absurd rfl h
  | i n => rfl
  | o t => rfl
  | t xs => rfl
theorem isRepA_iff {x : Anv} (h : isRepA x = true) : ∃ n ys, x = .t [.s "repeat", .i n, .t ys] ∧ 1 ≤ n ∧ n ≤ 10 ^ 30 := by
  unfold isRepA at h
  split at h
  · rename_i r n ys
    rw [Bool.and_eq_true] at h
    obtain ⟨h1, h2⟩ := h
    have e := of_decide_eq_true h1
    have e2 := of_decide_eq_true h2
    subst e
    exact ⟨n, ys, rfl, e2.1, e2.2⟩
  · cases h
theorem cntA_no {d : Nat} {x : Anv} (h : isRepA x = false) (hk : x.kind ≠ "str") : cntA d x = 0 := by
  cases d with
  | zero => exact cntA_0 hk
  | succ d =>
    cases x with
    | s x => exact absurd rfl hk
    | i n => rfl
    | o t => rfl
    | t xs =>
      unfold cntA
      split
      · rename_i e
        cases e
      · rename_i r n ys e
        rw [← e, h]
        rfl
      · rfl
theorem cntA_r (d : Nat) {n : Int} {ys : List Anv} (h1 : 1 ≤ n) (h2 : n ≤ 10 ^ 30) : cntA (d + 1) (.t [.s "repeat", .i n, .t ys]) = if 0 ∈ ys.map (cntA d) then 0 else 1 + (ys.map (cntA d)).sum := by
  have e : isRepA (.t [.s "repeat", .i n, .t ys]) = true := by
    show (decide (("repeat" : Str) = "repeat") && decide (1 ≤ n ∧ n ≤ 10 ^ 30)) = true
    rw [decide_eq_true rfl, decide_eq_true ⟨h1, h2⟩]
    rfl
  show (if isRepA (.t [.s "repeat", .i n, .t ys]) = true then (if 0 ∈ ys.map (cntA d) then 0 else 1 + (ys.map (cntA d)).sum) else 0) = _
  rw [if_pos e]
/-- what count_steps tells -/
def csV (d : Nat) (room : Int) (x : Anv) : V := if cntA d x ≠ 0 ∧ ((cntA d x : Nat) : Int) ≤ room then .int (cntA d x : Nat) else .non
theorem csV_yes {d : Nat} {room : Int} {x : Anv} (h1 : cntA d x ≠ 0) (h2 : ((cntA d x : Nat) : Int) ≤ room) : csV d room x = .int (cntA d x : Nat) := if_pos ⟨h1, h2⟩
theorem csV_no {d : Nat} {room : Int} {x : Anv} (h : cntA d x = 0 ∨ room < ((cntA d x : Nat) : Int)) : csV d room x = .non := if_neg (fun ⟨a, b⟩ => by
  rcases h with h | h
  · exact a h
  · omega)
/-- sums of what comes first -/
def sumTo (l : List Nat) (i : Nat) : Nat := (l.take i).sum
theorem sumTo_succ {l : List Nat} {i c : Nat} (h : l[i]? = some c) : sumTo l (i + 1) = sumTo l i + c := by
  unfold sumTo
  rw [List.take_add_one, h, List.sum_append]
  show _ + (c + 0) = _
  omega
theorem sumTo_le (l : List Nat) (i : Nat) : sumTo l i ≤ l.sum := by
  have := List.take_append_drop i l
  have e : l.sum = (l.take i).sum + (l.drop i).sum := by rw [← List.sum_append, this]
  unfold sumTo
  omega
theorem sumTo_all (l : List Nat) : sumTo l l.length = l.sum := by
  unfold sumTo
  rw [List.take_length]
/-! ### texts by their letters -/
theorem cnt_two : ∀ l : List Nat, 0 ≤ PyProof.Rows.cnt 82 l ∧ 0 ≤ PyProof.Rows.cnt 67 l ∧ PyProof.Rows.cnt 82 l + PyProof.Rows.cnt 67 l ≤ (l.length : Int) ∧ (PyProof.Rows.cnt 82 l + PyProof.Rows.cnt 67 l = (l.length : Int) ↔ (l.all fun c => c == 82 || c == 67) = true)
  | [] => by
    rw [cnt_nil, cnt_nil]
    exact ⟨by decide, by decide, by decide, by decide⟩
  | c :: l => by
    obtain ⟨h1, h2, h3, h4⟩ := cnt_two l
    rw [cnt_cons, cnt_cons, List.all_cons, Bool.and_eq_true, List.length_cons]
    by_cases c1 : c = 82
    · subst c1
      have e1 : (if (82 : Nat) = 82 then (1 : Int) else 0) = 1 := rfl
      have e2 : (if (82 : Nat) = 67 then (1 : Int) else 0) = 0 := rfl
      have e3 : ((82 : Nat) == 82 || (82 : Nat) == 67) = true := rfl
      simp only [e1, e2, e3, true_and, if_true]
      refine ⟨by omega, by omega, by omega, fun h => h4.mp (by omega), fun h => ?_⟩
      have := h4.mpr h
      omega
    · by_cases c2 : c = 67
      · subst c2
        have e1 : (if (67 : Nat) = 82 then (1 : Int) else 0) = 0 := rfl
        have e2 : (if (67 : Nat) = 67 then (1 : Int) else 0) = 1 := rfl
        have e3 : ((67 : Nat) == 82 || (67 : Nat) == 67) = true := rfl
        simp only [e1, e2, e3, true_and, if_true]
        refine ⟨by omega, by omega, by omega, fun h => h4.mp (by omega), fun h => ?_⟩
        have := h4.mpr h
        omega
      · have e1 : (if c = 82 then (1 : Int) else 0) = 0 := if_neg c1
        have e2 : (if c = 67 then (1 : Int) else 0) = 0 := if_neg c2
        have n1 : (c == 82) = false := beq_eq_false_iff_ne.mpr c1
        have n2 : (c == 67) = false := beq_eq_false_iff_ne.mpr c2
        simp only [e1, e2, n1, n2, Bool.or_self, Bool.false_eq_true, false_and, iff_false]
        omega
theorem count_all (x : Str) : (Txt.count x "R" + Txt.count x "C" = (x.length : Int)) ↔ ((tl x).all fun c => c == 82 || c == 67) = true := by
  have eR : ("R" : Str) = ⟨#[82]⟩ := by decide +kernel
  have eC : ("C" : Str) = ⟨#[67]⟩ := by decide +kernel
  rw [eR, eC, count_cnt, count_cnt, len_tl]
  exact (cnt_two _).2.2.2
end KS
namespace KS
open PySem PySem.Spec PyProof.Rows L2
/-! ### zip(t, l): t a tuple, l a list, of one length -/
def ItTL (K : PySem.W.Frag) (a b : Addr) : It where
  go := fun i H => ∃ (ts ls : List V) (x y : V), SqT K H a ts ∧ SqL K H b ls ∧ ts[i]? = some x ∧ ls[i]? = some y
  yld := fun i H v H' => ∃ (T : Addr) (x y : V), v = .ref T ∧ H T = none ∧ H' = upd H T (.tup [x, y]) ∧ (∀ ts, SqT K H a ts → ts[i]? = some x) ∧ (∀ ls, SqL K H b ls → ls[i]? = some y)
  stop := fun i H => ∃ ts ls : List V, SqT K H a ts ∧ SqL K H b ls ∧ ts.length = i ∧ ls.length = i
def TLs (a b z TI TO i1 i2 : Addr) (i : Nat) (h : Heap) : Prop :=
  IsZip h z TI TO .none ∧ IsTupOf2 h TI (.ref i1) (.ref i2) ∧ (∃ x y, IsTupOf2 h TO x y) ∧ h.IsTupleIter i1 a i ∧ h.IsListIter i2 b i
theorem mem5 {c z TI TO i1 i2 : Addr} (h : c ∈ [z, TI, TO, i1, i2]) : c = z ∨ c = TI ∨ c = TO ∨ c = i1 ∨ c = i2 := by simpa using h
theorem out4 {c z TI TO i1 i2 : Addr} (h : c ∉ [z, TI, TO, i1, i2]) : c ≠ z ∧ c ≠ TO ∧ c ≠ i1 ∧ c ≠ i2 := by
  simp only [List.mem_cons, not_or] at h
  exact ⟨h.1, h.2.2.1, h.2.2.2.1, h.2.2.2.2.1⟩
theorem apart_sep {z TI TO i1 i2 a b : Addr} (D : ZipApart z TI TO i1 i2 a b) : ZipSep2 z TI TO i1 i2 [i1, a] [i2, b] where
  TIz := D.TIz
  TOz := D.TOz
  TITO := D.TITO
  TIi1 := D.TIi1
  TIi2 := D.TIi2
  mem1 := List.mem_cons_self
  mem2 := List.mem_cons_self
  zf1 := by simp [D.i1z.symm, D.l1z.symm]
  zf2 := by simp [D.i2z.symm, D.l2z.symm]
  Tf1 := by simp [D.TOi1, D.l1TO.symm]
  Tf2 := by simp [D.TOi2, D.l2TO.symm]
  sep1_2 := by simp [D.i12, D.l2i1.symm]
  sep2_1 := by simp [D.i12.symm, D.l1i2.symm]
theorem tls_lt {a b z TI TO i1 i2 : Addr} {i : Nat} {h : Heap} (st : TLs a b z TI TO i1 i2 i h) {c : Addr} (hc : c ∈ [z, TI, TO, i1, i2]) : ∃ o, h.get? c = some o ∧ ∀ v, o.data ≠ .cell v := by
  obtain ⟨q0, q1, ⟨x, y, q2⟩, ⟨o3, q3, _, d3⟩, ⟨o4, q4, _, d4⟩⟩ := st
  rcases mem5 hc with e | e | e | e | e <;> subst e
  · exact ⟨_, q0, fun v z => nomatch z⟩
  · exact ⟨_, q1, fun v z => nomatch z⟩
  · exact ⟨_, q2, fun v z => nomatch z⟩
  · exact ⟨o3, q3, fun v z => by rw [d3] at z; cases z⟩
  · exact ⟨o4, q4, fun v z => by rw [d4] at z; cases z⟩
theorem turn_TL {P : Program} {w : World} {K : PySem.W.Frag} {elts : List Expr} {kk : Nat} {tpos : Pos} {a b z TI TO i1 i2 : Addr} (D : ZipApart z TI TO i1 i2 a b) :
    Turn P w K (.Tuple elts kk tpos) (ItTL K a b) [z, TI, TO, i1, i2] z (TLs a b z TI TO i1 i2) where
  mem := List.mem_cons_self
  obj := fun i h st c hc => tls_lt st hc
  keep := fun i h h' st k => by
    obtain ⟨q0, q1, ⟨x, y, q2⟩, q3, q4⟩ := st
    exact ⟨k z (by simp) _ q0, k TI (by simp) _ q1, ⟨x, y, k TO (by simp) _ q2⟩, q3.at fun o e => k i1 (by simp) o e, q4.at fun o e => k i2 (by simp) o e⟩
  self := fun A i s Q E st h => wpAny_pyIter_zip st.1 h
  item := by
    intro X hP hw hK hc i pins s σ H E I hf st hg
    subst hP hw hK
    have st0 := st
    obtain ⟨q0, q1, ⟨x0, y0, q2⟩, q3, q4⟩ := st
    obtain ⟨ts, ls, x, y, ht, hl, ex, ey⟩ := hg
    obtain ⟨its, rv, p1, _⟩ := I.tuple ht
    obtain ⟨jts, rw', p2, _⟩ := I.list hl
    obtain ⟨u, hu, ru⟩ := rv.get ex
    obtain ⟨v, hv, rv'⟩ := rw'.get ey
    have n1 : i < its.toArray.size := by
      have := (List.getElem?_eq_some_iff.mp hu).1
      simpa using this
    have n2 : i < jts.toArray.size := by
      have := (List.getElem?_eq_some_iff.mp hv).1
      simpa using this
    have hh : X.A.in1.handled = none := I.ok.hd hc
    have zlt : z < s.heap.objs.size := Heap.lt_size q0
    refine wpAny_pyNext_zipD2_item (apart_sep D) (Draws.tuple hh i1 a D.l1i1 its.toArray) (Draws.list hh i2 b D.l2i2 jts.toArray) q0 q1 q2 ⟨q3, p1⟩ ⟨q4, p2.isList⟩ n1 n2 fun u' v' h1 tk hu' hv' z1 o1 a1 b1 hT sz kp => ?_
    have eu : u' = u := by
      have z : its[i]? = some u' := by simpa using hu'
      rw [hu] at z
      exact (Option.some.inj z).symm
    have ev : v' = v := by
      have z : jts[i]? = some v' := by simpa using hv'
      rw [hv] at z
      exact (Option.some.inj z).symm
    subst eu ev
    refine ⟨_, rfl, wpAny_letOwnedTupleGo_zip (s := { s with heap := h1, toks := tk }) z1 fun h2 z2 sb => ?_⟩
    have hT2 : h2.get? s.heap.objs.size = some { cls := .type "tuple", data := .seq #[u', v'] } := (sb.2 _ (Nat.ne_of_gt zlt)).trans hT
    have nw : ObjOk X.prog X.w (upd H s.heap.objs.size (.tup [x, y])) h2 s.heap.objs.size (.tup [x, y]) := ⟨by show 2 ≤ sizeLine; decide, [u', v'], .cons ru (.cons rv' .nil), ⟨_, hT2, rfl, _, rfl⟩⟩
    have I1 : Inv X pins σ (upd H s.heap.objs.size (.tup [x, y])) { s with heap := h2, toks := tk } := by
      refine I.turnedNew (ch := [z, TI, TO, i1, i2]) (fun c o n e => ?_) hf (Nat.le_refl _) nw
      obtain ⟨n1, n2, n3, n4⟩ := out4 n
      exact (sb.2 c n1).trans (kp c o n1 n2 n3 n4 e)
    refine ⟨.ref s.heap.objs.size, _, I1, rfl, ⟨_, x, y, rfl, I.hok.fresh (Nat.le_refl _), rfl, fun m hm => by rw [I.tuple_inj hm ht]; exact ex, fun m hm => by rw [I.list_inj hm hl]; exact ey⟩, ⟨z2, ?_, ⟨u', v', ?_⟩, ?_, ?_⟩, fun c hcm => ?_⟩
    · exact (sb.2 TI D.TIz).trans (kp TI _ D.TIz D.TITO D.TIi1 D.TIi2 q1)
    · exact (sb.2 TO D.TOz).trans o1
    · exact a1.1.at fun o e => (sb.2 i1 D.i1z).trans e
    · exact b1.1.at fun o e => (sb.2 i2 D.i2z).trans e
    · obtain ⟨o, ho, _⟩ := tls_lt st0 hcm
      rw [upd_ne (Nat.ne_of_lt (Heap.lt_size ho))]
      exact (hf c hcm).1
  done := by
    intro X hP hw hK hc i pins s σ H E I hf st hg
    subst hP hw hK
    obtain ⟨q0, q1, ⟨x0, y0, q2⟩, q3, q4⟩ := st
    obtain ⟨ts, ls, ht, hl, e1, e2⟩ := hg
    obtain ⟨its, rv, p1, _⟩ := I.tuple ht
    obtain ⟨jts, rw', p2, _⟩ := I.list hl
    have m1 : its.toArray.size = i := by
      have := rv.length
      simp
      omega
    have m2 : jts.toArray.size = i := by
      have := rw'.length
      simp
      omega
    have hh : X.A.in1.handled = none := I.ok.hd hc
    refine wpAny_pyNext_zipD2_end (apart_sep D) (Draws.tuple hh i1 a D.l1i1 its.toArray) (Draws.list hh i2 b D.l2i2 jts.toArray) q0 q1 q2 ⟨q3, p1⟩ ⟨q4, p2.isList⟩ (by omega) (by omega) (.inl m1.symm) fun h1 tk kp => ⟨rfl, ?_⟩
    refine I.turnedL (ch := [z, TI, TO, i1, i2]) (fun c o n e => ?_) hf
    obtain ⟨n1, n2, n3, n4⟩ := out4 n
    exact kp c o n1 n2 n3 n4 e
def iZipTL (K : PySem.W.Frag) (ta : TA) : TI := fun σ H R => ta σ H fun vs H1 => ∃ a b ts ls, vs = [.ref a, .ref b] ∧ SqT K H1 a ts ∧ SqL K H1 b ls ∧ R (ItTL K a b) H1
theorem pi_zipTL {X : Cx} {e e2 : Expr} {ta : TA} {p pos tpos : Pos} {elts : List Expr} {kk : Nat} (hg : Gl X "zip") (hm : X.mg "zip" = none) (ha : PA X [e, e2] ta)
    (hs : starEach [e, e2] X.env = (false, eval e X.env) :: starEach [e2] X.env := by rfl) (hpl : (backTo pos (starEach [e2] X.env)).any (·.1) = false := by rfl) :
    PI X (.Tuple elts kk tpos) (.Call (.Name "zip" p) [e, e2] [] pos) (iZipTL X.K ta) := by
  refine ⟨fun pins s σ H R I h => Call_ (ld_blt I hg hm PyProof.Rows.boot_zip (PyProof.Rows.callWith_type1 (thn (ha.run pos pins s σ H _ I h) fun us s1 hh => ?_) hs hpl))⟩
  obtain ⟨vs, H1, I1, r1, a, b, ts, ls, ev, ht, hl, q⟩ := hh
  subst ev
  cases r1 with
  | cons r rr =>
    cases rr with
    | cons r' rr =>
      cases rr
      cases r
      cases r'
      obtain ⟨its, rv, p1, _⟩ := I1.tuple ht
      obtain ⟨jts, rw', p2, _⟩ := I1.list hl
      have la : a < s1.heap.objs.size := by
        obtain ⟨o, ho, _⟩ := id p1
        exact Heap.lt_size ho
      refine zip_begins2 (begins_tuple a its.toArray) (begins_list b jts.toArray) p1 p2.isList fun h1 z1 t1 o1 g1 g2 sz kp => wpAny_pyIter_zip z1 ?_
      have I2 : Inv X pins σ H1 { s1 with heap := h1 } := I1.kept (t' := s1.toks) kp
      refine ⟨_, [s1.heap.objs.size + 4, s1.heap.objs.size + 2, s1.heap.objs.size + 3, s1.heap.objs.size, s1.heap.objs.size + 1], _, _, H1, rfl, I2, turn_TL (PySem.W.ktu_apart s1.heap.objs.size a b la p2.lt), ⟨z1, t1, ⟨_, _, o1⟩, ⟨_, g1, rfl, rfl⟩, ⟨_, g2, rfl, rfl⟩⟩, fun c hc => ?_, q⟩
      have le : s1.heap.objs.size ≤ c := by
        rcases mem5 hc with e | e | e | e | e <;> rw [e] <;> first | exact Nat.le_add_right _ _ | exact Nat.le_refl _
      exact I1.fpOk le (I1.hok.fresh le)
/-- a loop over zip(t, l), of one length -/
theorem for_zipTL {K : PySem.W.Frag} {a b : Addr} {xs ys : List V} {g : TG} {tb : TS} {D : Ends} {σ : L2.St} {H : Hp} (hl : xs.length = ys.length) (Pv : Nat → L2.St → Hp → Prop) (h0 : Pv 0 σ H) (hq : ∀ i σ H, Pv i σ H → SqT K H a xs ∧ SqL K H b ys)
    (hs : ∀ (i : Nat) (x y : V) (T : Addr) (σ : L2.St) (G : Hp), xs[i]? = some x → ys[i]? = some y → Pv i σ G → G T = none → g (.ref T) σ (upd G T (.tup [x, y])) fun σ2 G2 => tb { D with nx := Pv (i + 1), ct := Pv (i + 1), bk := D.nx } σ2 G2) (hd : ∀ σ G, Pv xs.length σ G → D.nx σ G) :
    ∃ W : Nat → Nat → L2.St → Hp → Prop, (∃ m, W 0 m σ H) ∧ ∀ i m σ H, W i m σ H → ((ItTL K a b).stop i H ∧ D.nx σ H) ∨ ((ItTL K a b).go i H ∧ ∃ N : L2.St → Hp → Prop, (∀ σ' H', N σ' H' → ∃ m', m' < m ∧ W (i + 1) m' σ' H') ∧
      ∀ v H', (ItTL K a b).yld i H v H' → g v σ H' fun σ2 H2 => tb { D with nx := N, ct := N, bk := D.nx } σ2 H2) := by
  refine ⟨fun i m σ G => m + i = xs.length ∧ Pv i σ G, ⟨xs.length, rfl, h0⟩, fun i m σ G hw => ?_⟩
  obtain ⟨hm, p⟩ := hw
  obtain ⟨qx, qy⟩ := hq i σ G p
  cases m with
  | zero =>
    have e : i = xs.length := by omega
    subst e
    exact .inl ⟨⟨xs, ys, qx, qy, rfl, hl.symm⟩, hd σ G p⟩
  | succ m =>
    have l1 : i < xs.length := by omega
    have l2 : i < ys.length := by omega
    refine .inr ⟨⟨xs, ys, _, _, qx, qy, List.getElem?_eq_getElem l1, List.getElem?_eq_getElem l2⟩, Pv (i + 1), fun σ' G' p' => ⟨m, Nat.lt_succ_self _, by omega, p'⟩, fun v G' y => ?_⟩
    obtain ⟨T, x, y, rfl, nT, rfl, f1, f2⟩ := y
    exact hs i x y T σ G (f1 xs qx) (f2 ys qy) p nT
end KS
namespace KS
open PySem PySem.Spec PyProof.Rows L2
/-! ### what the program's own helpers keep, for good values -/
def spFF (K : PySem.W.Frag) : Sp := fun xs H Q _ => ∃ (t : Addr) (m : Int) (vs : List Int), xs = [.ref t, .int m] ∧ SqT K H t (vs.map V.int) ∧ vs.Nodup ∧ (∀ v ∈ vs, 1 ≤ v ∧ v ≤ m) ∧ ∀ H', Same H H' → Q .non H'
def spCheckF (K : PySem.W.Frag) : Sp := fun xs H Q _ => ∃ (n : Nat) (t : Addr) (vs : List Int), xs = [.int n, .ref t] ∧ SqT K H t (vs.map V.int) ∧ Vals9 n vs ∧ n ≤ 24 ∧ ∀ H', Same H H' → Q .non H'
def spAlong (K : PySem.W.Frag) : Sp := fun xs H Q _ => ∃ (g t : Addr) (gs : List V) (ls : List (List Int)) (vs : List Int), xs = [.ref g, .ref t] ∧ SqT K H g gs ∧ Paired (TupI K H) gs ls ∧
  (∀ l ∈ ls, (∀ k ∈ l, ∃ j : Nat, k = (j : Int) ∧ j < vs.length) ∧ l.length ≤ 24) ∧ SqT K H t (vs.map V.int) ∧ ∀ H' u, Same H H' → SqT K H' u ((srtTo vs ls).map V.int) → H u = none → Q (.ref u) H'
theorem inV_take {vs : List Int} (nd : vs.Nodup) {i : Nat} {v : Int} (h : vs[i]? = some v) : inV (.int v) ((vs.take i).map V.int) = false := by
  unfold inV
  rw [List.any_eq_false]
  intro x hx
  obtain ⟨y, hy, rfl⟩ := List.mem_map.mp hx
  obtain ⟨j, hj⟩ := List.mem_iff_getElem?.mp hy
  rw [List.getElem?_take] at hj
  split at hj
  · rename_i hlt
    show ¬ ((y == v) = true)
    intro e
    have e' : y = v := by simpa using e
    subst e'
    obtain ⟨l1, e1⟩ := List.getElem?_eq_some_iff.mp h
    obtain ⟨l2, e2⟩ := List.getElem?_eq_some_iff.mp hj
    have := (List.pairwise_iff_getElem.mp nd) j i l2 l1 hlt
    rw [e1, e2] at this
    exact this rfl
  · cases hj
theorem flat_ints (l : List Int) : (l.map V.int).all flatV = true := by
  rw [List.all_eq_true]
  intro x hx
  obtain ⟨y, _, rfl⟩ := List.mem_map.mp hx
  rfl
theorem cut_take {l : List V} {i : Nat} (h : i ≤ l.length) : cutV l none (some (i : Int)) = l.take i := by
  unfold cutV
  have e0 : HT.sIx l.length 0 none = 0 := rfl
  have e1 : HT.sIx l.length l.length (some (i : Int)) = i := by
    rw [HT.sIx_nat]
    omega
  rw [e0, e1]
  simp
theorem cut_not {l : List V} {i : Nat} (h : i < l.length) : ¬ (HT.sIx l.length 0 none = 0 ∧ HT.sIx l.length l.length (some (i : Int)) = l.length) := by
  intro z
  have e1 : HT.sIx l.length l.length (some (i : Int)) = i := by
    rw [HT.sIx_nat]
    omega
  omega
theorem lns_ok {b : Bool} {cs : List Cell} {vs : List Int} (hl : cs.length ≤ 24) (hv : vs.length = cs.length) : ∀ l ∈ lnsOf b cs, (∀ k ∈ l, ∃ j : Nat, k = (j : Int) ∧ j < vs.length) ∧ l.length ≤ 24 := fun l h => by
  have := lns_mem h
  rw [hv]
  exact ⟨this.1, by omega⟩
end KS
namespace KS
open PySem PySem.Spec PyProof.Rows L2
def topS (i : Nat) : Stmt := PySem.Challenge.pw_keepsort_k19_programs_and_others.main.body.getD i (.Pass ⟨0, 0, 0, 0⟩)
abbrev sCell : Stmt := topS 21
abbrev sPool : Stmt := topS 22
abbrev sDraw : Stmt := topS 23
theorem scCell : FnScope ["_law_script", "_law_k", "_law_state", "_law_number"] ["_law_script", "_law_k"] (defScope sCell) := ⟨rfl, rfl, rfl, by decide +kernel, rfl, by decide +kernel, by decide +kernel⟩
theorem scPool : FnScope ["_law_number", "_law_digits"] ["_law_number"] (defScope sPool) := ⟨rfl, rfl, rfl, by decide +kernel, rfl, by decide +kernel, by decide +kernel⟩
theorem scDraw : FnScope ["_law_pool_here", "_law_most", "_law_state", "_law_digit"] ["_law_pool_here", "_law_most"] (defScope sDraw) := ⟨rfl, rfl, rfl, by decide +kernel, rfl, by decide +kernel, by decide +kernel⟩
section
variable {P : Program} {w : World} {K : PySem.W.Frag} {mg : Str → Option Value} {base : Heap}
theorem ok_cell {f : Addr} {fd : FuncData} (F : Fun K "_law_cell" "_law_cell" sCell f fd) (ml : mg "len" = none) : FnOk P w K mg base CX0 1 f fd ["_law_script", "_law_k"] (spCell K) := by
  refine F.ok scCell (fun vs H Q E h => ?_) (fun cdv A outer s H vs Q E hr h => ?_)
  · obtain ⟨a, ns, k, rfl, _⟩ := h
    rfl
  · obtain ⟨a, ns, k, rfl, hS, hk, q⟩ := h
    refine ⟨_, pss_cons (ps_if (pt_cmpR op_lt (pv 1) (pe_callB call_len_seq (by rfl) ml PySem.boot_len (pa_cons (pv 0) pa_nil)) (nomark _))
        (pss_one (ps_ret (pe_ix ix_list (pv 0) (pv 1) (fun _ _ => rfl)))) pss_nil)
      (pss_cons (ps_set (i := 2) scCell.nd rfl (.inl rfl) (pe_op op_mod (pe_op op_mul pe_int (pe_op op_add (pe_op op_add (pe_op op_mul (pv 1) (pv 1)) (pe_op op_mul pe_int (pv 1))) pe_int)) pe_int))
      (pss_cons (ps_for PassesOwn.never rfl (pi_list (pe_slice sl_list (pv 0) po_none (po_some pe_int))) (pg_name (i := 3) scCell.nd rfl (.inl rfl))
        (pss_one (ps_set (i := 2) scCell.nd rfl (.inl rfl) (pe_op op_mod (pe_op op_add (pe_op op_mul (pv 2) pe_int) (pv 3)) pe_int))))
      (pss_one (ps_ret (pv 2))))), ?_⟩
    refine ⟨_, rfl, _, rfl, a, ns.map V.int, rfl, .inl hS, _, _, rfl, rfl, _, rfl, ite2 (fun e => ?_) (fun e => ?_)⟩
    · have e0 : (k : Int) < ((ns.map V.int).length : Int) := of_decide_eq_true e
      rw [List.length_map] at e0
      have hj : k < ns.length := by omega
      refine ⟨_, rfl, _, rfl, a, _, _, .int ns[k], rfl, rfl, hS, atI_nat (j := k) ?_, q H _ (Same.refl H)⟩
      rw [List.getElem?_map, List.getElem?_eq_getElem hj]
      rfl
    · refine ⟨_, rfl, _, rfl, _, _, rfl, rfl, .inl ⟨by omega, by omega⟩, _, rfl, _, _, rfl, rfl, .inl ⟨by omega, by omega⟩, _, _, rfl, rfl, _, _, rfl, rfl, _, _, rfl, rfl, .inl ⟨by omega, by omega⟩, _, _, rfl, rfl, by show (0 : Int) < 2147483249; decide, ?_⟩
      refine ⟨_, rfl, 3, rfl, a, _, rfl, hS, fun c nc => ?_⟩
      have s1 := same_new (o := .lst (cutV (ns.map V.int) none (some 3))) nc
      have hc : SqL K (upd H c (.lst (cutV (ns.map V.int) none (some 3)))) c (cutV (ns.map V.int) none (some 3)) := SqL.of upd_same
      refine ⟨c, rfl, ⟨_, hc⟩, for_list (K := K) (a := c) (xs := cutV (ns.map V.int) none (some 3)) (fun i σ H' => ∃ (st : Int) (y : Option V), σ = [some (.ref a), some (.int k), some (.int st), y] ∧ 0 ≤ st ∧ st < 2147483249 ∧ H' = upd H c (.lst (cutV (ns.map V.int) none (some 3)))) ?_ ?_ ?_ ?_⟩
      · have b := int_mod_bd (60013 * ((k : Int) * k + 5 * k + 3)) (m := 2147483249) (by decide)
        exact ⟨_, none, rfl, b.1, b.2, rfl⟩
      · rintro i σ H' _ ⟨st, y, rfl, _, _, rfl⟩
        exact hc
      · rintro i x σ H' hi ⟨st, y, rfl, h0, h1, rfl⟩
        have hm : x ∈ ns.map V.int := by
          have := List.mem_of_getElem? hi
          unfold cutV at this
          exact List.mem_of_mem_drop (List.mem_of_mem_take this)
        obtain ⟨n, _, rfl⟩ := List.mem_map.mp hm
        have b := int_mod_bd (st * 41221 + n) (m := 2147483249) (by decide)
        refine ⟨_, rfl, _, _, rfl, rfl, .inl ⟨by omega, by omega⟩, _, rfl, _, _, rfl, rfl, _, _, rfl, rfl, by show (0 : Int) < 2147483249; decide, ?_⟩
        exact ⟨_, some (.int n), rfl, b.1, b.2, rfl⟩
      · rintro σ H' ⟨st, y, rfl, h0, h1, rfl⟩
        exact ⟨_, rfl, q _ _ s1⟩
theorem ok_pool {f : Addr} {fd : FuncData} (F : Fun K "_law_pool" "_law_pool" sPool f fd) (ma : mg "abs" = none) : FnOk P w K mg base CX0 1 f fd ["_law_number"] spPool := by
  refine F.ok scPool (fun vs H Q E h => ?_) (fun cdv A outer s H vs Q E hr h => ?_)
  · obtain ⟨n, rfl, _⟩ := h
    rfl
  · obtain ⟨n, rfl, q⟩ := h
    refine ⟨_, pss_cons (ps_set (i := 1) scPool.nd rfl (.inl rfl) (pe_ifExp (PW.pt (pw_or (pt_cmpR op_lt (pv 0) pe_int (nomark _)) (pw_or1 (pt_cmpR op_ge (pv 0) (pe_op op_pow pe_int pe_int) (nomark _)))))
        (pe_callB call_abs (by rfl) ma (by decide +kernel) (pa_cons (pv 0) pa_nil)) pe_int))
      (pss_one (ps_ret (pe_lst (pa_cons (pe_op op_mod (pv 0) pe_int) (pa_cons (pv 1) (pa_cons pe_int pa_nil)))))), ?_⟩
    have b := int_mod_bd n (m := 2147483249) (by decide)
    have fin : ∀ d : Int, 0 ≤ d → tRet (tLst (tCons (tOp (rI (fun _ j => 0 < j) fun i j => .int (i % j)) (tVar 0) (tC (.int 2147483249))) (tCons (tVar 1) (tCons (tC (.int 0)) tNil)))) { nx := fun _ H' => Q .non H', rt := Q } [some (.int n), some (.int d)] H := fun d hd => by
      refine ⟨_, rfl, _, _, rfl, rfl, by show (0 : Int) < 2147483249; decide, _, rfl, (by show 3 ≤ sizeLine; decide), fun p np => ?_⟩
      exact q _ _ (same_new np) np ⟨_, _, _, upd_same, b.1, b.2, hd⟩
    refine ⟨_, rfl, _, _, rfl, rfl, _, rfl, ite2 (fun e => ?_) (fun e => ?_)⟩
    · have e0 : n < 0 := of_decide_eq_true e
      refine iteT ⟨_, rfl, n, rfl, ?_⟩
      rw [if_pos e0]
      exact fin _ (by omega)
    · refine ⟨_, rfl, _, _, rfl, rfl, ⟨by decide, by decide, by decide⟩, _, _, rfl, rfl, _, rfl, ite2 (fun e1 => ?_) (fun e1 => ?_)⟩
      · have e0 : ¬ n < 0 := fun z => e (decide_eq_true z)
        refine ⟨_, rfl, n, rfl, ?_⟩
        rw [if_neg e0]
        exact fin _ (by omega)
      · exact fin _ (by omega)
theorem ok_draw {f : Addr} {fd : FuncData} (F : Fun K "_law_draw" "_law_draw" sDraw f fd) (md : mg "divmod" = none) : FnOk P w K mg base CX0 1 f fd ["_law_pool_here", "_law_most"] spDraw := by
  refine F.ok scDraw (fun vs H Q E h => ?_) (fun cdv A outer s H vs Q E hr h => ?_)
  · obtain ⟨p, m, rfl, _⟩ := h
    rfl
  · obtain ⟨p, m, rfl, ⟨a, b, c, hp, a0, a1, b0⟩, m0, m1, q⟩ := h
    refine ⟨_, pss_cons (ps_asg (pe_op op_add (pe_ix ix_list (pv 0) pe_int (fun _ _ => rfl)) pe_int) (pg_sub (pv 0) pe_int set_list))
      (pss_cons (ps_set (i := 2) scDraw.nd rfl (.inl rfl) (pe_ix ix_list (pv 0) pe_int (fun _ _ => rfl)))
      (pss_cons (ps_asg (pe_op op_mod (pe_op op_add (pe_op op_mul (pv 2) (pe_op op_add (pe_op op_mod (pv 2) pe_int) pe_int)) (pe_op op_mul pe_int (pe_ix ix_list (pv 0) pe_int (fun _ _ => rfl)))) pe_int) (pg_sub (pv 0) pe_int set_list))
      (pss_cons (ps_if (pt_cmpR op_gt (pe_ix ix_list (pv 0) pe_int (fun _ _ => rfl)) pe_int (nomark _))
        (pss_cons (ps_asg (pe_callB call_divmod (by rfl) md (by decide +kernel) (pa_cons (pe_ix ix_list (pv 0) pe_int (fun _ _ => rfl)) (pa_cons (pv 1) pa_nil)))
            (pg_tup (by rfl) (pgs_cons (pg_sub (pv 0) pe_int set_list) (pgs_cons (pg_name (i := 3) scDraw.nd rfl (.inl rfl)) pgs_nil))))
          (pss_one (ps_ret (pv 3)))) pss_nil)
      (pss_one (ps_ret (pe_op op_mod (pe_op op_fdiv (pe_ix ix_list (pv 0) pe_int (fun _ _ => rfl)) pe_int) (pv 1))))))), ?_⟩
    -- pool[2] = pool[2] + 1
    refine ⟨_, rfl, p, _, 2, .int c, rfl, rfl, SqL.of hp, rfl, _, _, rfl, rfl, _, rfl, p, _, 2, 2, rfl, rfl, hp, rfl, ?_⟩
    refine ⟨_, rfl, p, _, 0, .int a, rfl, rfl, SqL.of upd_same, rfl, ?_⟩
    have bm := int_mod_bd a (m := 50021) (by decide)
    refine ⟨_, rfl, _, rfl, _, _, rfl, rfl, by show (0 : Int) < 50021; decide, _, _, rfl, rfl, _, _, rfl, rfl, .inl ⟨by omega, by omega⟩, _, rfl, p, _, 2, .int (c + 1), rfl, rfl, SqL.of upd_same, rfl, _, _, rfl, rfl, .inl ⟨by decide, by decide⟩, _, _, rfl, rfl, _, _, rfl, rfl, by show (0 : Int) < 2147483249; decide, ?_⟩
    refine ⟨_, rfl, p, _, 0, 0, rfl, rfl, upd_same, rfl, ?_⟩
    have bz := int_mod_bd (a * (a % 50021 + 30011) + 80021 * (c + 1)) (m := 2147483249) (by decide)
    rw [upd_upd]
    show _
    refine ⟨_, rfl, p, _, 1, .int b, rfl, rfl, SqL.of upd_same, rfl, _, _, rfl, rfl, _, rfl, ite2 (fun e => ?_) (fun e => ?_)⟩
    · refine ⟨_, rfl, p, _, 1, .int b, rfl, rfl, SqL.of upd_same, rfl, _, rfl, b, m, rfl, ⟨m0, m1⟩, fun t nt => ?_⟩
      have npt : p ≠ t := ne_of_none upd_same nt
      refine ⟨t, _, rfl, SqT.of upd_same, rfl, _, _, rfl, ?_⟩
      refine ⟨_, rfl, p, _, 1, 1, rfl, rfl, by rw [upd_ne npt]; exact upd_same, rfl, _, [], rfl, rfl, ?_⟩
      have br := int_mod_bd b m0
      refine ⟨_, rfl, q _ _ (fun x o n e => ?_) ⟨_, _, _, upd_same, bz.1, bz.2, Int.ediv_nonneg b0 (by omega)⟩ br.1 br.2⟩
      rw [upd_ne n, upd_ne, upd_ne n]
      · exact e
      · intro z
        rw [z] at e
        rw [upd_ne (Ne.symm npt)] at nt
        rw [nt] at e
        cases e
    · refine ⟨_, rfl, p, _, 0, .int ((a * (a % 50021 + 30011) + 80021 * (c + 1)) % 2147483249), rfl, rfl, SqL.of upd_same, rfl, _, _, rfl, rfl, ⟨by decide, by decide⟩, _, rfl, _, _, rfl, rfl, m0, ?_⟩
      have br := int_mod_bd ((a * (a % 50021 + 30011) + 80021 * (c + 1)) % 2147483249 / 64) m0
      exact q _ _ keepX_upd ⟨_, _, _, upd_same, bz.1, bz.2, b0⟩ br.1 br.2
end
end KS
namespace KS
open PySem PySem.Spec PyProof.Rows L2
abbrev sWhole : Stmt := topS 7
abbrev sBetween : Stmt := topS 8
theorem scWhole : FnScope ["value"] ["value"] (defScope sWhole) := ⟨rfl, rfl, rfl, by decide +kernel, rfl, by decide +kernel, by decide +kernel⟩
theorem scBetween : FnScope ["value", "least", "most"] ["value", "least", "most"] (defScope sBetween) := ⟨rfl, rfl, rfl, by decide +kernel, rfl, by decide +kernel, by decide +kernel⟩
section
variable {P : Program} {w : World} {K : PySem.W.Frag} {mg : Str → Option Value} {base : Heap}
theorem ok_whole {f : Addr} {fd : FuncData} (F : Fun K "is_whole" "is_whole" sWhole f fd) (mi : mg "isinstance" = none) (mI : mg "int" = none) (mB : mg "bool" = none) : FnOk P w K mg base CX0 1 f fd ["value"] spWhole := by
  refine F.ok scWhole (fun vs H Q E h => ?_) (fun cdv A outer s H vs Q E hr h => ?_)
  · obtain ⟨i, rfl, _⟩ := h
    rfl
  · obtain ⟨i, rfl, q⟩ := h
    refine ⟨_, pss_one (ps_ret (pe_and (pe_callB call_isi (by rfl) mi (by decide +kernel) (pa_cons (pv 0) (pa_cons (pe_bltn (v := .ty "int") (by rfl) mI (by decide +kernel) rfl) pa_nil)))
      (pe_one (pe_not (pe_callB call_isi (by rfl) mi (by decide +kernel) (pa_cons (pv 0) (pa_cons (pe_bltn (v := .ty "bool") (by rfl) mB (by decide +kernel) rfl) pa_nil))))))), ?_⟩
    refine ⟨_, rfl, _, _, _, _, true, rfl, .ty "int", .base (.int i), kit_ty (by decide +kernel), true, rfl, ?_⟩
    refine ⟨_, rfl, _, _, _, _, false, rfl, .ty "bool", .base (.int i), kit_ty (by decide +kernel), false, rfl, ?_⟩
    exact q
theorem ok_between {f fW : Addr} {fd fdW : FuncData} (F : Fun K "is_between" "is_between" sBetween f fd) (GW : FnOk P w K mg base CX0 1 fW fdW ["value"] spWhole) (bW : Binds K fdW ["value"] []) (gW : mg "is_whole" = some (.ref fW)) (kW : PySem.W.keepIn K (.ref fW) = true) :
    FnOk P w K mg base CX0 2 f fd ["value", "least", "most"] spBetween := by
  refine F.ok scBetween (fun vs H Q E h => ?_) (fun cdv A outer s H vs Q E hr h => ?_)
  · obtain ⟨i, lo, hi, rfl, _⟩ := h
    rfl
  · obtain ⟨i, lo, hi, rfl, h1, h2, q⟩ := h
    refine ⟨_, pss_one (ps_ret (pe_and (pe_call GW hr (by rfl) gW kW bW .nil pass0 (pa_cons (pv 0) pa_nil)) (pe_one (pe_chain op_le op_le (pv 1) (pv 0) (pv 2))))), ?_⟩
    refine ⟨_, rfl, i, rfl, true, rfl, ?_⟩
    refine ⟨_, rfl, _, rfl, _, _, rfl, rfl, true, bl_true h1, ?_⟩
    refine ⟨_, rfl, _, _, rfl, rfl, ?_⟩
    show Q (V.bl (decide (i ≤ hi))) H
    rw [bl_true h2]
    exact q
end
end KS
namespace KS
open PySem PySem.Spec PyProof.Rows L2
section
variable {P : Program} {w : World} {K : PySem.W.Frag} {mg : Str → Option Value} {base : Heap}
end
end KS
namespace KS
open PySem PySem.Spec PyProof.Rows L2
abbrev nLines : List Str := ["plan", "kind", "side", "found", "index", "cell", "place"]
section
variable {P : Program} {w : World} {K : PySem.W.Frag} {mg : Str → Option Value} {base : Heap}
end
end KS
namespace KS
open PySem PySem.Spec PyProof.Rows L2 RZ
abbrev nAlong : List Str := ["groups", "filling", "result", "line", "index", "values", "value"]
section
variable {P : Program} {w : World} {K : PySem.W.Frag} {mg : Str → Option Value} {base : Heap}
end
end KS
namespace KS
open PySem PySem.Spec PyProof.Rows L2
/-! ### enumerate(z), z a text -/
def IteS (z : Str) : It where
  go := fun i _ => i < z.cps.size
  yld := fun i H v H' => ∃ (T : Addr) (c : Nat), v = .ref T ∧ H T = none ∧ z.cps[i]? = some c ∧ H' = upd H T (.tup [.int (i : Nat), .str ⟨#[c]⟩])
  stop := fun i _ => i = z.cps.size
def EnS (z : Str) (t : Tok) (e it : Addr) (i : Nat) (h : Heap) : Prop := (∃ old, IsEnum h e it ((i : Nat) : Int) old) ∧ h.IsStrIter it (strIterType z) z t i ∧ e ≠ it
theorem mem2 {b e it : Addr} (h : b ∈ [e, it]) : b = e ∨ b = it := by simpa using h
theorem strIter_at {h h' : Heap} {a : Addr} {ty : String} {x : Str} {t : Tok} {i : Nat} (y : h.IsStrIter a ty x t i) (k : ∀ o, h.get? a = some o → h'.get? a = some o) : h'.IsStrIter a ty x t i := by
  obtain ⟨o, ho, r⟩ := y
  exact ⟨o, k o ho, r⟩
theorem ens_obj {z : Str} {t : Tok} {e it b : Addr} {i : Nat} {h : Heap} (st : EnS z t e it i h) (hb : b ∈ [e, it]) : ∃ o, h.get? b = some o ∧ ∀ v, o.data ≠ .cell v := by
  obtain ⟨⟨old, q1⟩, ⟨o, q2, _, d⟩, _⟩ := st
  rcases mem2 hb with r | r <;> subst r
  · exact ⟨_, q1, fun v w => nomatch w⟩
  · exact ⟨o, q2, fun v w => by rw [d] at w; cases w⟩
theorem turn_enumS {P : Program} {w : World} {K : PySem.W.Frag} {elts : List Expr} {kk : Nat} {tpos : Pos} (z : Str) (t : Tok) (e it : Addr) : Turn P w K (.Tuple elts kk tpos) (IteS z) [e, it] e (EnS z t e it) where
  mem := List.mem_cons_self
  obj := fun i h st b hb => ens_obj st hb
  keep := fun i h h' st k => ⟨st.1.elim fun old q => ⟨old, k e (by simp) _ q⟩, strIter_at st.2.1 fun o q => k it (by simp) o q, st.2.2⟩
  self := fun A i s Q E st h => st.1.elim fun old q => wpAny_pyIter_enum q h
  item := by
    intro X hP hw hK hc i pins s σ H E I hf st hg
    subst hP hw hK
    have st0 := st
    obtain ⟨⟨old, q1⟩, q2, ne⟩ := st
    have hh : X.A.in1.handled = none := I.ok.hd hc
    have el : e < s.heap.objs.size := Heap.lt_size q1
    refine wpAny_pyNext_enum_itemD (Draws.text hh it z t) q1 q2 hg ne (by simp [ne]) fun u h1 tk hu ho hst hT sz kp => ?_
    obtain ⟨c, tu, hcx, rfl⟩ := hu
    refine ⟨_, rfl, wpAny_letOwnedTupleGo_enum (s := { s with heap := h1, toks := tk + 1 }) ho fun h2 e2 sb => ?_⟩
    have hT2 : h2.get? s.heap.objs.size = some { cls := .type "tuple", data := .seq #[.int i tk, .str ⟨#[c]⟩ tu] } := (sb.2 _ (Nat.ne_of_gt el)).trans hT
    have nw : ObjOk X.prog X.w (upd H s.heap.objs.size (.tup [.int (i : Nat), .str ⟨#[c]⟩])) h2 s.heap.objs.size (.tup [.int (i : Nat), .str ⟨#[c]⟩]) :=
      ⟨by show 2 ≤ sizeLine; decide, [.int i tk, .str ⟨#[c]⟩ tu], .cons ⟨_, rfl⟩ (.cons ⟨_, rfl⟩ .nil), ⟨_, hT2, rfl, _, rfl⟩⟩
    have I1 : Inv X pins σ (upd H s.heap.objs.size (.tup [.int (i : Nat), .str ⟨#[c]⟩])) { s with heap := h2, toks := tk + 1 } := by
      refine I.turnedNew (ch := [e, it]) (fun b o n q => ?_) hf (Nat.le_refl _) nw
      have n1 : b ≠ e := fun r => n (by simp [r])
      have n2 : b ≠ it := fun r => n (by simp [r])
      exact (sb.2 b n1).trans (kp b o n1 n2 q)
    refine ⟨.ref s.heap.objs.size, _, I1, rfl, ⟨_, c, rfl, I.hok.fresh (Nat.le_refl _), hcx, rfl⟩, ⟨⟨.str ⟨#[c]⟩ tu, ?_⟩, strIter_at hst fun o q => (sb.2 it (Ne.symm ne)).trans q, ne⟩, fun b hb => ?_⟩
    · have r : ((i + 1 : Nat) : Int) = (i : Int) + 1 := by omega
      rw [r]
      exact e2
    · obtain ⟨o, ho, _⟩ := ens_obj st0 hb
      rw [upd_ne (Nat.ne_of_lt (Heap.lt_size ho))]
      exact (hf b hb).1
  done := by
    intro X hP hw hK hc i pins s σ H E I hf st hg
    subst hP hw hK
    obtain ⟨⟨old, q1⟩, q2, ne⟩ := st
    have hh : X.A.in1.handled = none := I.ok.hd hc
    have hg' : i = z.cps.size := hg
    subst hg'
    obtain ⟨f0, f1, f2, f3, f4, f5⟩ := hf it (by simp)
    exact wpAny_pyNext_enum_endD (Draws.text hh it z t) q1 q2 fun h1 eb => ⟨rfl, I.turned (t' := s.toks) (fun b o hb q => eb b o hb q) f0 f1 f3 f4 f5⟩
def iEnumS (ta : TA) : TI := fun σ H R => ta σ H fun vs H1 => ∃ z, vs = [.str z] ∧ R (IteS z) H1
theorem pi_enumS {X : Cx} {e : Expr} {ta : TA} {p pos tpos : Pos} {elts : List Expr} {kk : Nat} (hg : Gl X "enumerate") (hm : X.mg "enumerate" = none) (ha : PA X [e] ta)
    (hs : starEach [e] X.env = [(false, eval e X.env)] := by rfl) : PI X (.Tuple elts kk tpos) (.Call (.Name "enumerate" p) [e] [] pos) (iEnumS ta) := by
  refine ⟨fun pins s σ H R I h => Call_ (ld_blt I hg hm boot_enumerate (PyProof.Rows.callWith_type1 (thn (ha.run pos pins s σ H _ I h) fun us s1 hh => ?_) hs rfl))⟩
  obtain ⟨vs, H1, I1, r1, z, ex, q⟩ := hh
  subst ex
  cases r1 with
  | cons r rr =>
    cases rr
    obtain ⟨t, rfl⟩ := r
    refine call_enumerate_str fun h1 he hit sz kp => wpAny_pyIter_enum he ?_
    have I2 : Inv X pins σ H1 { s1 with heap := h1 } := I1.kept (t' := s1.toks) kp
    refine ⟨s1.heap.objs.size + 1, [s1.heap.objs.size + 1, s1.heap.objs.size], _, _, H1, rfl, I2, turn_enumS z t (s1.heap.objs.size + 1) s1.heap.objs.size, ⟨⟨.none, he⟩, hit, Nat.succ_ne_self _⟩, fun b hb => ?_, q⟩
    have le : s1.heap.objs.size ≤ b := by
      rcases mem2 hb with r | r <;> rw [r]
      · exact Nat.le_succ _
      · exact Nat.le_refl _
    exact I1.fpOk le (I1.hok.fresh le)
theorem for_enumS {z : Str} {g : TG} {tb : TS} {D : Ends} {σ : L2.St} {H : Hp} (Pv : Nat → L2.St → Hp → Prop) (h0 : Pv 0 σ H)
    (hs : ∀ i c σ G T, z.cps[i]? = some c → Pv i σ G → G T = none → g (.ref T) σ (upd G T (.tup [.int (i : Nat), .str ⟨#[c]⟩])) fun σ2 G2 => tb { D with nx := Pv (i + 1), ct := Pv (i + 1), bk := D.nx } σ2 G2)
    (hd : ∀ σ G, Pv z.cps.size σ G → D.nx σ G) :
    ∃ W : Nat → Nat → L2.St → Hp → Prop, (∃ m, W 0 m σ H) ∧ ∀ i m σ H, W i m σ H → ((IteS z).stop i H ∧ D.nx σ H) ∨ ((IteS z).go i H ∧ ∃ N : L2.St → Hp → Prop, (∀ σ' H', N σ' H' → ∃ m', m' < m ∧ W (i + 1) m' σ' H') ∧
      ∀ v H', (IteS z).yld i H v H' → g v σ H' fun σ2 H2 => tb { D with nx := N, ct := N, bk := D.nx } σ2 H2) := by
  refine ⟨fun i m σ G => m + i = z.cps.size ∧ Pv i σ G, ⟨_, rfl, h0⟩, fun i m σ G hw => ?_⟩
  obtain ⟨hm, p⟩ := hw
  cases m with
  | zero =>
    have e : i = z.cps.size := by omega
    subst e
    exact .inl ⟨rfl, hd σ G p⟩
  | succ m =>
    refine .inr ⟨by show i < z.cps.size; omega, Pv (i + 1), fun σ' G' p' => ⟨m, Nat.lt_succ_self _, by omega, p'⟩, fun v G' y => ?_⟩
    obtain ⟨T, c, rfl, nT, hc, rfl⟩ := y
    exact hs i c σ G T hc p nT
end KS
namespace KS
open PySem PySem.Spec PyProof.Rows L2 RZ
abbrev sCheckL : Stmt := topS 10
abbrev sCheckW : Stmt := topS 11
theorem scCheckL : FnScope ["word", "letters", "index", "letter"] ["word", "letters"] (defScope sCheckL) := ⟨rfl, rfl, rfl, by decide +kernel, rfl, by decide +kernel, by decide +kernel⟩
theorem scCheckW : FnScope ["word"] ["word"] (defScope sCheckW) := ⟨rfl, rfl, rfl, by decide +kernel, rfl, by decide +kernel, by decide +kernel⟩
def spCheckL : Sp := fun vs H Q _ => ∃ wd : List Bool, vs = [.str (wS wd), .str "RC"] ∧ wd.length ≤ 400 ∧ ∀ H', Same H H' → Q .non H'
def spCheckW : Sp := fun vs H Q _ => ∃ wd : List Bool, vs = [.str (wS wd)] ∧ wd.length ≤ 400 ∧ ∀ H', Same H H' → Q .non H'
section
variable {P : Program} {w : World} {K : PySem.W.Frag} {mg : Str → Option Value} {base : Heap}
theorem ok_checkL {f : Addr} {fd : FuncData} {tk : Tok} (F : Fun K "check_letters" "check_letters" sCheckL f fd) (mi : mg "isinstance" = none) (mS : mg "str" = none) (ml : mg "len" = none) (me : mg "enumerate" = none) (mM : mg "MOST_LETTERS" = some (.int 400 tk)) :
    FnOk P w K mg base CX0 1 f fd ["word", "letters"] spCheckL := by
  refine F.ok scCheckL (fun vs H Q E h => ?_) (fun cdv A outer s H vs Q E hr h => ?_)
  · obtain ⟨wd, rfl, _⟩ := h
    rfl
  · obtain ⟨wd, rfl, hl, q⟩ := h
    have nd := scCheckL.nd
    refine ⟨_, pss_cons (ps_if (PW.pt (pw_or (pt_not (pt_val (pe_callB call_isi (by rfl) mi (by decide +kernel) (pa_cons (pv 0) (pa_cons (pe_bltn (v := .ty "str") (by rfl) mS (by decide +kernel) rfl) pa_nil)))))
          (pw_or1 (pt_cmpR op_gt (pe_callB call_len_str (by rfl) ml PySem.boot_len (pa_cons (pv 0) pa_nil)) (pe_glob (v := .int 400) (by rfl) mM ⟨_, rfl⟩) (nomark _)))))
        (pss_one ps_never) pss_nil)
      (pss_one (ps_for PassesOwn.never rfl (pi_enumS (by rfl) me (pa_cons (pv 0) pa_nil)) (pg_tup (by rfl) (pgs_cons (pg_name (i := 2) nd rfl (.inl rfl)) (pgs_cons (pg_name (i := 3) nd rfl (.inl rfl)) pgs_nil)))
        (pss_one (ps_if (pt_cmpR op_notIn_sign (pv 3) (pv 1) (by rfl)) (pss_one ps_never) pss_nil)))), ?_⟩
    have hw := wS_len wd
    refine ⟨_, rfl, _, _, _, _, true, rfl, .ty "str", .base (.str _), kit_ty (by decide +kernel), true, rfl, ?_⟩
    refine ⟨_, rfl, _, rfl, by rw [hw, sizeLine_eq]; omega, _, _, rfl, rfl, false, bl_false (by rw [hw]; omega), ?_⟩
    refine ⟨_, rfl, _, rfl, for_enumS (fun i σ H' => Same H H' ∧ ∃ y1 y2, σ = [some (.str (wS wd)), some (.str "RC"), y1, y2]) ?_ ?_ ?_⟩
    · exact ⟨Same.refl _, none, none, rfl⟩
    · rintro i c σ H' T hi ⟨sm, y1, y2, rfl⟩ nT
      obtain ⟨b, hb, rfl⟩ := wS_at hi
      have sT := same_new (o := .tup [.int (i : Nat), .str ⟨#[ltr b]⟩]) nT
      refine ⟨T, _, rfl, SqT.of upd_same, rfl, _, _, rfl, _, _, rfl, rfl, ?_⟩
      refine ⟨_, rfl, _, rfl, _, _, rfl, rfl, false, ?_, ?_⟩
      · cases b <;> decide +kernel
      · exact ⟨sm.trans sT, _, _, rfl⟩
    · rintro σ H' ⟨sm, _⟩
      exact q H' sm
theorem ok_checkW {f fL : Addr} {fd fdL : FuncData} (F : Fun K "check_word" "check_word" sCheckW f fd) (GL : FnOk P w K mg base CX0 1 fL fdL ["word", "letters"] spCheckL) (bL : Binds K fdL ["word", "letters"] []) (gL : mg "check_letters" = some (.ref fL)) (kL : PySem.W.keepIn K (.ref fL) = true) :
    FnOk P w K mg base CX0 2 f fd ["word"] spCheckW := by
  refine F.ok scCheckW (fun vs H Q E h => ?_) (fun cdv A outer s H vs Q E hr h => ?_)
  · obtain ⟨wd, rfl, _⟩ := h
    rfl
  · obtain ⟨wd, rfl, hl, q⟩ := h
    refine ⟨_, pss_one (ps_expr (pe_call GL hr (by rfl) gL kL bL .nil pass0 (pa_cons (pv 0) (pa_cons pe_str pa_nil)))), ?_⟩
    exact ⟨_, rfl, wd, rfl, hl, q⟩
end
end KS
namespace KS
open PySem PySem.Spec PyProof.Rows L2 RZ
theorem ten30 : (10 : Int) ^ 30 = 1000000000000000000000000000000 := by decide +kernel
abbrev sIsWord : Stmt := topS 12
theorem scIsWord : FnScope ["value"] ["value"] (defScope sIsWord) := ⟨rfl, rfl, rfl, by decide +kernel, rfl, by decide +kernel, by decide +kernel⟩
abbrev sIsRep : Stmt := topS 16
theorem scIsRep : FnScope ["value"] ["value"] (defScope sIsRep) := ⟨rfl, rfl, rfl, by decide +kernel, rfl, by decide +kernel, by decide +kernel⟩
abbrev sCS : Stmt := topS 17
abbrev nCS : List Str := ["step", "depth", "room", "count", "inner", "more"]
theorem scCS : FnScope nCS ["step", "depth", "room"] (defScope sCS) := ⟨rfl, rfl, rfl, by decide +kernel, rfl, by decide +kernel, by decide +kernel⟩
abbrev sCP : Stmt := topS 18
abbrev nCP : List Str := ["program", "room", "index", "step", "count"]
theorem scCP : FnScope nCP ["program"] (defScope sCP) := ⟨rfl, rfl, rfl, by decide +kernel, rfl, by decide +kernel, by decide +kernel⟩
section
variable {P : Program} {w : World} {K : PySem.W.Frag} {mg : Str → Option Value} {base : Heap}
theorem ok_isWordG {f fC C : Addr} {fd fdC : FuncData} (F : Fun K "is_word" "is_word" sIsWord f fd) (GC : FnOk P w K mg base CX0 2 fC fdC ["word"] spCheckW) (bC : Binds K fdC ["word"] []) (gC : mg "check_word" = some (.ref fC)) (kC : PySem.W.keepIn K (.ref fC) = true)
    (gX : mg "InvalidWord" = some (.ref C)) : FnOk P w K mg base CX0 3 f fd ["value"] spIsWordG := by
  refine F.ok scIsWord (fun vs H Q E h => ?_) (fun cdv A outer s H vs Q E hr h => ?_)
  · obtain ⟨l, rfl, _⟩ := h
    rfl
  · obtain ⟨l, rfl, hl, q⟩ := h
    refine ⟨_, pss_cons (ps_try_only (tb := fun W => tDrop (tCall spCheckW [] E0 (tCons (tVar 0) tNil))) (ts := fun _ _ _ => tRet (tC (.bl false))) (Wout := fun _ _ _ _ => False) rfl rfl ⟨rfl, by decide, Or.inl gX⟩ takes0
        (fun W pn xe tk _ => pss_one (ps_expr (by exact (pe_call GC hr (by rfl) gC kC bC .nil pass0 (by exact (pa_cons (pv 0) pa_nil))))))
        (fun a oe cls d pn _ _ => pss_one (ps_ret pe_bl)))
      (pss_one (ps_ret pe_bl)), ?_⟩
    exact ⟨_, rfl, l, rfl, hl, fun H' s' => q H' s'⟩
theorem ok_isRep {f fB : Addr} {fd fdB : FuncData} {tk : Tok} (F : Fun K "is_repeat" "is_repeat" sIsRep f fd) (GB : FnOk P w K mg base CX0 2 fB fdB ["value", "least", "most"] spBetween) (bB : Binds K fdB ["value", "least", "most"] []) (gB : mg "is_between" = some (.ref fB)) (kB : PySem.W.keepIn K (.ref fB) = true)
    (mi : mg "isinstance" = none) (mT : mg "tuple" = none) (ml : mg "len" = none) (mM : mg "MOST_TIMES" = some (.int 1000000000000000000000000000000 tk)) : FnOk P w K mg base CX0 3 f fd ["value"] (spIsRep K) := by
  refine F.ok scIsRep (fun vs H Q E h => ?_) (fun cdv A outer s H vs Q E hr h => ?_)
  · obtain ⟨t, b, n, ys, rfl, _⟩ := h
    rfl
  · obtain ⟨t, b, n, ys, rfl, ht, hb, n1, n2, q⟩ := h
    refine ⟨_, pss_cons (ps_if (PW.pt (pw_or (pt_not (pt_val (pe_callB call_isi (by rfl) mi (by decide +kernel) (pa_cons (pv 0) (pa_cons (pe_bltn (v := .ty "tuple") (by rfl) mT (by decide +kernel) rfl) pa_nil)))))
          (pw_or (pt_cmpR op_ne (pe_callB call_len_seq (by rfl) ml PySem.boot_len (pa_cons (pv 0) pa_nil)) pe_int (nomark _))
          (pw_or1 (pt_cmpR op_ne (pe_ix ix_tup (pv 0) pe_int (fun _ _ => rfl)) pe_str (nomark _)))))) (pss_one ps_never) pss_nil)
      (pss_one (ps_ret (pe_and (pe_call GB hr (by rfl) gB kB bB .nil pass0 (pa_cons (pe_ix ix_tup (pv 0) pe_int (fun _ _ => rfl)) (pa_cons pe_int (pa_cons (pe_glob (v := .int 1000000000000000000000000000000) (by rfl) mM ⟨_, rfl⟩) pa_nil))))
        (pe_one (pe_callB call_isi (by rfl) mi (by decide +kernel) (pa_cons (pe_ix ix_tup (pv 0) pe_int (fun _ _ => rfl)) (pa_cons (pe_bltn (v := .ty "tuple") (by rfl) mT (by decide +kernel) rfl) pa_nil))))))), ?_⟩
    refine ⟨_, rfl, _, _, _, _, true, rfl, .ty "tuple", tyx_tup ht, kit_ty (by decide +kernel), true, rfl, ?_⟩
    refine ⟨_, rfl, t, _, rfl, .inr ht, rfl, false, rfl, ?_⟩
    refine ⟨_, rfl, t, _, 0, .str "repeat", rfl, rfl, ht, rfl, rfl, false, by simp, ?_⟩
    refine ⟨_, rfl, t, _, 1, .int n, rfl, rfl, ht, rfl, n, 1, _, rfl, n1, (by have := ten30; omega), true, rfl, ?_⟩
    refine ⟨_, rfl, t, _, 2, .ref b, rfl, rfl, ht, rfl, _, _, _, _, true, rfl, .ty "tuple", tyx_tup hb, kit_ty (by decide +kernel), q⟩
theorem ok_countS {f fW fR : Addr} {fd fdW fdR : FuncData} {tk : Tok} (F : Fun K "count_steps" "count_steps" sCS f fd) (bS : Binds K fd ["step", "depth", "room"] []) (gS : mg "count_steps" = some (.ref f)) (kS : PySem.W.keepIn K (.ref f) = true)
    (GW : FnOk P w K mg base CX0 3 fW fdW ["value"] spIsWordG) (bW : Binds K fdW ["value"] []) (gW : mg "is_word" = some (.ref fW)) (kW : PySem.W.keepIn K (.ref fW) = true)
    (GR : FnOk P w K mg base CX0 3 fR fdR ["value"] (spIsRep K)) (bR : Binds K fdR ["value"] []) (gR : mg "is_repeat" = some (.ref fR)) (kR : PySem.W.keepIn K (.ref fR) = true)
    (mi : mg "isinstance" = none) (mS : mg "str" = none) (mM : mg "MOST_NESTED" = some (.int 5 tk)) : ∀ m, FnOk P w K mg base CX0 (m + 5) f fd ["step", "depth", "room"] (spCS K m)
  | 0 => by
    refine F.ok scCS (fun vs H Q E h => ?_) (fun cdv A outer s H vs Q E hr h => ?_)
    · obtain ⟨v, s, d, room, rfl, _⟩ := h
      rfl
    · obtain ⟨v, st, d, room, rfl, hs, ok, hn, d1, d5, hr', q⟩ := h
      have hr3 : Room 3 _ := hr.mono (by omega)
      refine ⟨_, pss_cons (ps_if (pt_cmpR op_lt (pv 2) pe_int (nomark _)) (pss_one ps_never) pss_nil)
        (pss_cons (ps_if (pt_val (pe_callB call_isi (by rfl) mi (by decide +kernel) (pa_cons (pv 0) (pa_cons (pe_bltn (v := .ty "str") (by rfl) mS (by decide +kernel) rfl) pa_nil))))
          (pss_one (ps_ret (pe_ifExp (PW.pt (pw_and (pt_cmpR op_ne (pv 0) pe_str (nomark _)) (pw_and1 (pt_val (pe_call GW hr3 (by rfl) gW kW bW .nil pass0 (pa_cons (pv 0) pa_nil)))))) pe_int pe_non))) pss_nil)
        (pss_cons ps_never (pss_cons ps_never (pss_cons ps_never (pss_one ps_never))))), ?_⟩
      have sp := steps_pos st
      refine ⟨_, rfl, _, _, rfl, rfl, false, bl_false (show ¬ room < 1 by omega), ?_⟩
      cases hs with
      | w l =>
        simp only [Stp.ok] at ok
        refine ⟨_, rfl, _, _, _, _, true, rfl, .ty "str", .base (.str _), kit_ty (by decide +kernel), true, rfl, ?_⟩
        refine ⟨_, rfl, rfl, true, ?_, ?_⟩
        · exact wS_ne ok.1
        refine ⟨_, rfl, l, rfl, ok.2, fun H' s' => ⟨true, rfl, ?_⟩⟩
        exact q H' s'
      | r h1 h2 h3 =>
        simp only [Stp.nest] at hn
        omega
  | m + 1 => by
    have GS := ok_countS F bS gS kS GW bW gW kW GR bR gR kR mi mS mM m
    refine F.ok scCS (fun vs H Q E h => ?_) (fun cdv A outer s H vs Q E hr h => ?_)
    · obtain ⟨v, s, d, room, rfl, _⟩ := h
      rfl
    · obtain ⟨v, st, d, room, rfl, hs, ok, hn, d1, d5, hr', q⟩ := h
      have nd := scCS.nd
      have hr3 : Room 3 _ := hr.mono (by omega)
      refine ⟨_, pss_cons (ps_if (pt_cmpR op_lt (pv 2) pe_int (nomark _)) (pss_one ps_never) pss_nil)
        (pss_cons (ps_if (pt_val (pe_callB call_isi (by rfl) mi (by decide +kernel) (pa_cons (pv 0) (pa_cons (pe_bltn (v := .ty "str") (by rfl) mS (by decide +kernel) rfl) pa_nil))))
          (pss_one (ps_ret (pe_ifExp (PW.pt (pw_and (pt_cmpR op_ne (pv 0) pe_str (nomark _)) (pw_and1 (pt_val (pe_call GW hr3 (by rfl) gW kW bW .nil pass0 (pa_cons (pv 0) pa_nil)))))) pe_int pe_non))) pss_nil)
        (pss_cons (ps_if (PW.pt (pw_or (pt_cmpR op_eq (pv 1) (pe_glob (v := .int 5) (by rfl) mM ⟨_, rfl⟩) (nomark _)) (pw_or1 (pt_not (pt_val (pe_call GR hr3 (by rfl) gR kR bR .nil pass0 (pa_cons (pv 0) pa_nil))))))) (pss_one ps_never) pss_nil)
        (pss_cons (ps_set (i := 3) nd rfl (.inl rfl) pe_int)
        (pss_cons (ps_for PassesOwn.never rfl (pi_tup (pe_ix ix_tup (pv 0) pe_int (fun _ _ => rfl))) (pg_name (i := 4) nd rfl (.inl rfl))
          (pss_cons (ps_set (i := 5) nd rfl (.inl rfl) (pe_call GS hr (by rfl) gS kS bS .nil pass0 (pa_cons (pv 4) (pa_cons (pe_op op_add (pv 1) pe_int) (pa_cons (pe_op op_sub (pv 2) (pv 3)) pa_nil)))))
          (pss_cons (ps_if (pt_cmpR op_isN (pv 5) pe_non (nomark _)) (pss_one ps_never) pss_nil)
          (pss_one (ps_aug (i := 3) nd rfl (.inl rfl) (pv 5) iop_add)))))
        (pss_one (ps_ret (pv 3))))))), ?_⟩
      have sp := steps_pos st
      refine ⟨_, rfl, _, _, rfl, rfl, false, bl_false (show ¬ room < 1 by omega), ?_⟩
      cases hs with
      | w l =>
        simp only [Stp.ok] at ok
        refine ⟨_, rfl, _, _, _, _, true, rfl, .ty "str", .base (.str _), kit_ty (by decide +kernel), true, rfl, ?_⟩
        refine ⟨_, rfl, rfl, true, ?_, ?_⟩
        · exact wS_ne ok.1
        refine ⟨_, rfl, l, rfl, ok.2, fun H' s' => ⟨true, rfl, ?_⟩⟩
        exact q H' s'
      | @r t b n xs ss h1 h2 h3 =>
        simp only [Stp.ok] at ok
        simp only [Stp.nest] at hn d5
        simp only [Stp.steps] at hr' q
        refine ⟨_, rfl, _, _, _, _, false, rfl, .ty "str", tyx_tup h1, kit_ty (by decide +kernel), false, rfl, ?_⟩
        refine ⟨_, rfl, rfl, false, ?_, ?_⟩
        · exact congrArg V.bl (decide_eq_false (fun e => by have := V.int.inj e; omega))
        refine ⟨_, rfl, t, b, n, xs, rfl, h1, h2, ok.1, ok.2.1, true, rfl, ?_⟩
        refine ⟨_, rfl, t, _, 2, .ref b, rfl, rfl, h1, rfl, b, rfl, ⟨_, h2⟩, ?_⟩
        refine for_it (walk_tup (K := K) (a := b) (xs := xs)) (fun i σ G => ∃ y4 y5 : Option V, σ = [some (.ref t), some (.int d), some (.int room), some (.int ((1 + stepsL (ss.take i) : Nat) : Int)), y4, y5] ∧ Same H G) ?_ ?_ ?_ ?_
        · exact ⟨none, none, rfl, Same.refl _⟩
        · rintro i σ G _ ⟨_, _, _, sm⟩
          exact same_seqT sm h2
        · rintro i x σ G G' hi ⟨y4, y5, rfl, sm⟩ ⟨rfl, hx⟩
          have hx : xs[i]? = some x := hx
          obtain ⟨s1, e1, a1⟩ := h3.get hx
          have m1 := List.mem_of_getElem? e1
          obtain ⟨t1, t2⟩ := stepsL_take e1
          have n1 := nest_mem m1
          refine ⟨_, rfl, _, rfl, _, _, rfl, rfl, _, rfl, _, rfl, _, _, rfl, rfl, x, s1, d + 1, _, rfl, a1.kt (.of_same sm), ok_mem ok.2.2 m1, by omega, by omega, by omega, by omega, fun G1 s2 => ?_⟩
          refine ⟨_, rfl, rfl, false, rfl, ?_⟩
          refine ⟨_, rfl, _, rfl, _, _, rfl, rfl, ?_⟩
          refine ⟨some x, some (.int (s1.steps : Nat)), ?_, sm.trans s2⟩
          rw [t1]
          have e : ((1 + stepsL (ss.take i) : Nat) : Int) + ((s1.steps : Nat) : Int) = ((1 + (stepsL (ss.take i) + s1.steps) : Nat) : Int) := by omega
          exact congrArg (fun z => [some (V.ref t), some (V.int d), some (V.int room), some (V.int z), some x, some (V.int (s1.steps : Nat))]) e
        · rintro σ G ⟨y4, y5, rfl, sm⟩
          rw [h3.len, List.take_length]
          exact ⟨_, rfl, q G sm⟩
theorem ok_checkP {f fS : Addr} {fd fdS : FuncData} {tk : Tok} (F : Fun K "check_program" "check_program" sCP f fd)
    (GS : FnOk P w K mg base CX0 9 fS fdS ["step", "depth", "room"] (spCS K 4)) (bS : Binds K fdS ["step", "depth", "room"] []) (gS : mg "count_steps" = some (.ref fS)) (kS : PySem.W.keepIn K (.ref fS) = true)
    (mi : mg "isinstance" = none) (mT : mg "tuple" = none) (me : mg "enumerate" = none) (mM : mg "MOST_STEPS" = some (.int 60 tk)) : FnOk P w K mg base CX0 10 f fd ["program"] (spCP K) := by
  refine F.ok scCP (fun vs H Q E h => ?_) (fun cdv A outer s H vs Q E hr h => ?_)
  · obtain ⟨t, ss, rfl, _⟩ := h
    rfl
  · obtain ⟨t, ss, rfl, ⟨xs, hx, hs⟩, ok, hn, hst, q⟩ := h
    have nd := scCP.nd
    refine ⟨_, pss_cons (ps_if (pt_not (pt_val (pe_callB call_isi (by rfl) mi (by decide +kernel) (pa_cons (pv 0) (pa_cons (pe_bltn (v := .ty "tuple") (by rfl) mT (by decide +kernel) rfl) pa_nil))))) (pss_one ps_never) pss_nil)
      (pss_cons (ps_set (i := 1) nd rfl (.inl rfl) (pe_glob (v := .int 60) (by rfl) mM ⟨_, rfl⟩))
      (pss_one (ps_for PassesOwn.never rfl (pi_enumT (by rfl) me (pa_cons (pv 0) pa_nil)) (pg_tup (by rfl) (pgs_cons (pg_name (i := 2) nd rfl (.inl rfl)) (pgs_cons (pg_name (i := 3) nd rfl (.inl rfl)) pgs_nil)))
        (pss_cons (ps_set (i := 4) nd rfl (.inl rfl) (pe_call GS hr (by rfl) gS kS bS .nil pass0 (pa_cons (pv 3) (pa_cons pe_int (pa_cons (pv 1) pa_nil)))))
        (pss_cons (ps_if (pt_cmpR op_isN (pv 4) pe_non (nomark _)) (pss_one ps_never) pss_nil)
        (pss_one (ps_aug (i := 1) nd rfl (.inl rfl) (pv 4) iop_sub))))))), ?_⟩
    refine ⟨_, rfl, _, _, _, _, true, rfl, .ty "tuple", tyx_tup hx, kit_ty (by decide +kernel), true, rfl, ?_⟩
    refine ⟨_, rfl, t, xs, rfl, hx, for_enumT (K := K) (a := t) (xs := xs) (fun i σ G => Same H G ∧ ∃ y2 y3 y4, σ = [some (.ref t), some (.int (60 - (stepsL (ss.take i) : Nat))), y2, y3, y4]) ?_ ?_ ?_ ?_⟩
    · exact ⟨Same.refl _, none, none, none, rfl⟩
    · rintro i σ G _ ⟨sm, _⟩
      exact same_seqT sm hx
    · rintro i x σ G T hi ⟨sm, y2, y3, y4, rfl⟩ nT
      obtain ⟨s1, e1, a1⟩ := hs.get hi
      have m1 := List.mem_of_getElem? e1
      obtain ⟨t1, t2⟩ := stepsL_take e1
      have n1 := nest_mem m1
      have sT := same_new (o := .tup [.int (i : Nat), x]) nT
      have s2 := sm.trans sT
      refine ⟨T, _, rfl, SqT.of upd_same, rfl, _, _, rfl, _, _, rfl, rfl, ?_⟩
      refine ⟨_, rfl, _, rfl, x, s1, 1, _, rfl, a1.kt (.of_same s2), ok_mem ok m1, by omega, by omega, by omega, by omega, fun G1 s3 => ?_⟩
      refine ⟨_, rfl, rfl, false, rfl, ?_⟩
      refine ⟨_, rfl, _, rfl, _, _, rfl, rfl, ?_⟩
      refine ⟨s2.trans s3, some (.int (i : Nat)), some x, some (.int (s1.steps : Nat)), ?_⟩
      rw [t1]
      have e : (60 - ((stepsL (ss.take i) : Nat) : Int)) - ((s1.steps : Nat) : Int) = 60 - ((stepsL (ss.take i) + s1.steps : Nat) : Int) := by omega
      exact congrArg (fun z => [some (V.ref t), some (V.int z), some (V.int (i : Nat)), some x, some (V.int (s1.steps : Nat))]) e
    · rintro σ G ⟨sm, _⟩
      exact q G sm
end
end KS
namespace KS
open PySem PySem.Spec PyProof.Rows L2
/-! ### programs written out in the text -/
theorem pe_wk {X : Cx} {e : Expr} {t t' : TE} (h : PE X e t) (k : ∀ σ H Q, t' σ H Q → t σ H Q) : PE X e t' := ⟨fun pins s σ H Q I q => h.run pins s σ H Q I (k σ H Q q)⟩
theorem pa_wk {X : Cx} {es : List Expr} {t t' : TA} (h : PA X es t) (k : ∀ σ H Q, t' σ H Q → t σ H Q) : PA X es t' := ⟨fun pos pins s σ H Q I q => h.run pos pins s σ H Q I (k σ H Q q)⟩
def tPg (K : PySem.W.Frag) (ss : List Stp) : TE := fun σ H Q => ∀ H' t, Same H H' → PgA K H' t ss → Q (.ref t) H'
def tSt (K : PySem.W.Frag) (s : Stp) : TE := fun σ H Q => ∀ H' v, Same H H' → StA K H' v s → Q v H'
def tSts (K : PySem.W.Frag) (ss : List Stp) : TA := fun σ H Q => ∀ H' vs, Same H H' → StsA K H' vs ss → Q vs H'
theorem stwG {K : PySem.W.Frag} {H : Hp} {z : Str} (l : List Bool) (e : z = wS l) : StA K H (.str z) (.w l) := by
  rw [e]
  exact .w l
section
variable {X : Cx} {K : PySem.W.Frag}
theorem pl_nil : PA X [] (tSts K []) := pa_wk pa_nil fun σ H Q q => q H [] (Same.refl _) .nil
theorem pl_cons {e : Expr} {es : List Expr} {s : Stp} {ss : List Stp} (h : PE X e (tSt K s)) (r : PA X es (tSts K ss)) (hs : starEach (e :: es) X.env = (false, eval e X.env) :: starEach es X.env := by rfl) : PA X (e :: es) (tSts K (s :: ss)) :=
  pa_wk (pa_cons h r hs) fun σ H Q q H1 v s1 a H2 vs s2 b => q H2 (v :: vs) (s1.trans s2) (.cons (a.kt (.of_same s2)) b)
theorem pl_w {z : Str} {k : Nat} {pos : Pos} (l : List Bool) (h : z = wS l) : PE X (.Constant (.str z) k pos) (tSt K (.w l)) := pe_wk pe_str fun σ H Q q => q H _ (Same.refl _) (stwG l h)
theorem pl_pg {es : List Expr} {k : Nat} {pos : Pos} {ss : List Stp} (r : PA X es (tSts K ss)) (hl : ss.length ≤ 1000) : PE X (.Tuple es k pos) (tPg K ss) :=
  pe_wk (pe_tup r) fun σ H Q q H1 vs s1 a => ⟨by rw [a.len, sizeLine_eq]; omega, fun p np => q _ p (s1.trans (same_new np)) ⟨vs, SqT.of upd_same, a.kt (.of_same (same_new np))⟩⟩
theorem pl_r {en eb : Expr} {k k2 : Nat} {pos p2 : Pos} {n : Int} {b : List Stp} (hn : PE X en (tC (.int n))) (hb : PE X eb (tPg K b))
    (h1 : starEach [.Constant (.str "repeat") k2 p2, en, eb] X.env = (false, eval (.Constant (.str "repeat") k2 p2) X.env) :: starEach [en, eb] X.env := by rfl)
    (h2 : starEach [en, eb] X.env = (false, eval en X.env) :: starEach [eb] X.env := by rfl) (h3 : starEach [eb] X.env = (false, eval eb X.env) :: starEach [] X.env := by rfl) :
    PE X (.Tuple [.Constant (.str "repeat") k2 p2, en, eb] k pos) (tSt K (.r n b)) :=
  pe_wk (pe_tup (pa_cons pe_str (pa_cons hn (pa_cons hb pa_nil h3) h2) h1)) fun σ H Q q H1 t s1 hp => ⟨by show 3 ≤ sizeLine; decide, fun p np => by
    obtain ⟨xs, a1, a2⟩ := hp.kt (.of_same (same_new np))
    exact q _ (.ref p) (s1.trans (same_new np)) (.r (SqT.of upd_same) a1 a2)⟩
theorem pl_30 {k k2 : Nat} {p1 p2 pos : Pos} : PE X (.BinOp (.Constant (.int 10) k p1) .Pow (.Constant (.int 30) k2 p2) pos) (tC (.int (10 ^ 30))) :=
  pe_wk (pe_op op_pow pe_int pe_int) fun σ H Q q => ⟨_, _, rfl, rfl, ⟨by decide, by decide, by decide⟩, by
    have e : (10 : Int) ^ (30 : Int).toNat = 10 ^ 30 := by decide +kernel
    show Q (V.int (10 ^ (30 : Int).toNat)) H
    rw [e]
    exact q⟩
theorem pl_rep {z : Str} {k k2 : Nat} {p1 p2 pos : Pos} (l : List Bool) (n : Nat) (h : z = wS l) (n2 : 2 ≤ n) (n4 : n ≤ 400) (l1 : 1 ≤ l.length) (l4 : l.length ≤ 400) : PE X (.BinOp (.Constant (.str z) k p1) .Mult (.Constant (.int (n : Nat)) k2 p2) pos) (tSt K (.w (List.replicate n l).flatten)) :=
  pe_wk (pe_op op_repW pe_str pe_int) fun σ H Q q => ⟨l, n, by rw [h], rfl, n2, n4, l1, l4, q H _ (Same.refl _) (.w _)⟩
end
theorem StsA.rep {K : PySem.W.Frag} {H : Hp} {vs : List V} {ss : List Stp} (h : StsA K H vs ss) : ∀ n : Nat, StsA K H (List.replicate n vs).flatten (List.replicate n ss).flatten
  | 0 => .nil
  | n + 1 => by
    rw [List.replicate_succ, List.replicate_succ, List.flatten_cons, List.flatten_cons]
    exact h.app (StsA.rep h n)
theorem okL_rep {ss : List Stp} (h : okL ss) : ∀ n : Nat, okL (List.replicate n ss).flatten
  | 0 => trivial
  | n + 1 => by
    rw [List.replicate_succ, List.flatten_cons]
    exact okL_app.mpr ⟨h, okL_rep h n⟩
theorem nestL_rep {ss : List Stp} : ∀ n : Nat, nestL (List.replicate n ss).flatten ≤ nestL ss
  | 0 => Nat.zero_le _
  | n + 1 => by
    rw [List.replicate_succ, List.flatten_cons, nestL_app]
    have := nestL_rep (ss := ss) n
    omega
theorem stepsL_rep {ss : List Stp} : ∀ n : Nat, stepsL (List.replicate n ss).flatten = n * stepsL ss
  | 0 => by rw [Nat.zero_mul]; rfl
  | n + 1 => by
    rw [List.replicate_succ, List.flatten_cons, stepsL_app, stepsL_rep n, Nat.succ_mul, Nat.add_comm]
theorem pl_repT {X : Cx} {et : Expr} {k2 : Nat} {p2 pos : Pos} {ss : List Stp} (n : Nat) (h : PE X et (tPg X.K ss)) (hne : ss ≠ []) (h2 : 2 ≤ n) (h3 : n ≤ 1000) (hl : ss.length ≤ 1000) : PE X (.BinOp et .Mult (.Constant (.int (n : Nat)) k2 p2) pos) (tPg X.K (List.replicate n ss).flatten) :=
  pe_wk (pe_op op_repT h pe_int) fun σ H Q q H1 t s1 hp => by
    obtain ⟨xs, a1, a2⟩ := hp
    refine ⟨t, (n : Nat), xs, rfl, rfl, a1, fun e => hne (by subst e; cases a2; rfl), by omega, by omega, by rw [a2.len]; exact hl, fun p np => ?_⟩
    exact q _ p (s1.trans (same_new np)) ⟨_, SqT.of upd_same, (by rw [Int.toNat_natCast]; exact (a2.rep n).kt (.of_same (same_new np)))⟩
/-! ### lists of programs -/
inductive PgsA (K : PySem.W.Frag) (H : Hp) : List V → List (List Stp) → Prop
  | nil : PgsA K H [] []
  | cons {t : Addr} {ss : List Stp} {vs : List V} {pp : List (List Stp)} : PgA K H t ss → PgsA K H vs pp → PgsA K H (.ref t :: vs) (ss :: pp)
theorem PgsA.kt {K : PySem.W.Frag} {H H' : Hp} (k : KT K H H') : ∀ {vs : List V} {pp : List (List Stp)}, PgsA K H vs pp → PgsA K H' vs pp
  | _, _, .nil => .nil
  | _, _, .cons h1 h2 => .cons (h1.kt k) (PgsA.kt k h2)
theorem PgsA.len {K : PySem.W.Frag} {H : Hp} : ∀ {vs : List V} {pp : List (List Stp)}, PgsA K H vs pp → vs.length = pp.length
  | _, _, .nil => rfl
  | _, _, .cons _ h => congrArg (· + 1) (PgsA.len h)
theorem PgsA.get {K : PySem.W.Frag} {H : Hp} : ∀ {vs : List V} {pp : List (List Stp)}, PgsA K H vs pp → ∀ {i : Nat} {v : V}, vs[i]? = some v → ∃ t ss, v = .ref t ∧ pp[i]? = some ss ∧ PgA K H t ss
  | _, _, .nil, i, v, e => by cases e
  | _, _, .cons h1 h2, 0, v, e => by
    cases e
    exact ⟨_, _, rfl, rfl, h1⟩
  | _, _, .cons h1 h2, i + 1, v, e => PgsA.get h2 e
theorem PgsA.app {K : PySem.W.Frag} {H : Hp} : ∀ {vs ws : List V} {pp qq : List (List Stp)}, PgsA K H vs pp → PgsA K H ws qq → PgsA K H (vs ++ ws) (pp ++ qq)
  | _, _, _, _, .nil, h => h
  | _, _, _, _, .cons h1 h2, h => .cons h1 (PgsA.app h2 h)
end KS
namespace KS
open PySem PySem.Spec PyProof.Rows L2 RZ TL
/-- a word, however often -/
def rRepH : R2 := fun x y H Q => ∃ (wd : List Bool) (n : Int), x = .str (wS wd) ∧ y = .int n ∧ 1 ≤ n ∧ n ≤ 1000 ∧ wd.length ≤ 1000 ∧ Q (.str (wS (List.replicate n.toNat wd).flatten)) H
theorem op_repH {X : Cx} : OpR X (binaryOp .Mult) rRepH := by
  intro pins s σ H x y v u Q I rx ry h
  obtain ⟨wd, n, rfl, rfl, n0, n1, w1, q⟩ := h
  obtain ⟨t, rfl⟩ := rx
  obtain ⟨t', rfl⟩ := ry
  have e1 : ¬ (n < 1) := by omega
  have hl := wS_len wd
  have hm : wd.length * n.toNat ≤ 1000000 := Nat.mul_le_mul w1 (show n.toNat ≤ 1000 by omega)
  refine P.mul_str ?_ ?_ ?_ ?_
  · have h1 : ¬ n < -(2 ^ 63 : Int) := by omega
    have h2 : ¬ n ≥ 2 ^ 63 := by omega
    rw [decide_eq_false h1, decide_eq_false h2]
    rfl
  · intro _ _
    rw [hl]
    have : (wd.length : Int) ≤ (2 ^ 63 - 1) / n := (Int.le_ediv_iff_mul_le (by omega)).mpr (by
      have : ((wd.length * n.toNat : Nat) : Int) ≤ 1000000 := by omega
      rw [Int.natCast_mul, Int.toNat_of_nonneg (by omega)] at this
      omega)
    omega
  · intro _ _
    refine decide_eq_false ?_
    rw [hl, sizeLine_eq]
    omega
  · rw [if_neg e1]
    by_cases z : ((n == 1) || ((wS wd).length == 0)) = true
    · rw [if_pos z]
      have ez : wS wd = wS (List.replicate n.toNat wd).flatten := by
        rw [Bool.or_eq_true] at z
        rcases z with z | z
        · have : n = 1 := by simpa using z
          subst this
          show wS wd = wS (wd ++ [])
          rw [List.append_nil]
        · rw [hl] at z
          have : wd = [] := List.length_eq_zero_iff.mp (by simpa using z)
          subst this
          congr 1
          have : ∀ k : Nat, (List.replicate k ([] : List Bool)).flatten = [] := fun k => by
            induction k with
            | zero => rfl
            | succ k ih => rw [List.replicate_succ, List.flatten_cons, ih]; rfl
          rw [this]
      rw [ez] at *
      first | exact ⟨.str (wS (List.replicate n.toNat wd).flatten), H, I, ⟨_, rfl⟩, q⟩ | exact ⟨.str (wS (List.replicate n.toNat wd).flatten), H, I.tok _, ⟨_, rfl⟩, q⟩
    · rw [if_neg z]
      have ez : (⟨(List.replicate n.toNat (wS wd).cps).foldl (· ++ ·) #[]⟩ : Str) = wS (List.replicate n.toNat wd).flatten := by
        show (⟨(List.replicate n.toNat (wd.map ltr).toArray).foldl (· ++ ·) #[]⟩ : Str) = _
        rw [rep_words]
        unfold wS
        simp
      rw [ez]
      refine ⟨?_, .str (wS (List.replicate n.toNat wd).flatten), H, I.tok _, ⟨_, rfl⟩, q⟩
      rw [wS_len, List.length_flatten, List.map_replicate, List.sum_replicate_nat, sizeLine_eq, Nat.mul_comm]
      omega
/-! ### things written out in the text -/
def tAn (K : PySem.W.Frag) (x : Anv) : TE := fun σ H Q => ∀ H' v, Same H H' → AnA K H' v x → Q v H'
def tAns (K : PySem.W.Frag) (xs : List Anv) : TA := fun σ H Q => ∀ H' vs, Same H H' → AnsA K H' vs xs → Q vs H'
section
variable {X : Cx} {K : PySem.W.Frag}
theorem qn : PA X [] (tAns K []) := pa_wk pa_nil fun σ H Q q => q H [] (Same.refl _) .nil
theorem qc {e : Expr} {es : List Expr} {x : Anv} {xs : List Anv} (h : PE X e (tAn K x)) (r : PA X es (tAns K xs)) (hs : starEach (e :: es) X.env = (false, eval e X.env) :: starEach es X.env := by rfl) : PA X (e :: es) (tAns K (x :: xs)) :=
  pa_wk (pa_cons h r hs) fun σ H Q q H1 v s1 a H2 vs s2 b => q H2 (v :: vs) (s1.trans s2) (.cons (a.same s2) b)
theorem q_s {z : Str} {k : Nat} {pos : Pos} (h : z.length ≤ 1000) : PE X (.Constant (.str z) k pos) (tAn K (.s z)) := pe_wk pe_str fun σ H Q q => q H _ (Same.refl _) (.s h)
theorem q_i {e : Expr} {n : Int} (h : PE X e (tC (.int n))) : PE X e (tAn K (.i n)) := pe_wk h fun σ H Q q => q H _ (Same.refl _) (.i n)
theorem q_non {e : Expr} (h : PE X e (tC .non)) : PE X e (tAn K (.o "NoneType")) := pe_wk h fun σ H Q q => q H _ (Same.refl _) .non
theorem q_bl {e : Expr} {b : Bool} (h : PE X e (tC (.bl b))) : PE X e (tAn K (.o "bool")) := pe_wk h fun σ H Q q => q H _ (Same.refl _) (.bl b)
theorem q_t {es : List Expr} {k : Nat} {pos : Pos} {xs : List Anv} (r : PA X es (tAns K xs)) (hl : xs.length ≤ 1000) : PE X (.Tuple es k pos) (tAn K (.t xs)) :=
  pe_wk (pe_tup r) fun σ H Q q H1 vs s1 a => ⟨by rw [a.len, sizeLine_eq]; omega, fun p np => q _ (.ref p) (s1.trans (same_new np)) (.t (by rw [a.len]; omega) (SqT.of upd_same) (a.same (same_new np)))⟩
theorem q_l {es : List Expr} {pos : Pos} {xs : List Anv} (r : PA X es (tAns K xs)) (hl : xs.length ≤ 1000) (hn : ∀ a b c, xs ≠ [.i a, .i b, .i c]) : PE X (.List es pos) (tAn K (.o "list")) :=
  pe_wk (pe_lst r) fun σ H Q q H1 vs s1 a => ⟨by rw [a.len, sizeLine_eq]; omega, fun p np => q _ (.ref p) (s1.trans (same_new np)) (.l upd_same (a.np hn))⟩
theorem q_d {pos : Pos} : PE X (.Dict [] [] pos) (tAn K (.o "dict")) := pe_wk pe_dnewK fun σ H Q q p np => q _ (.ref p) (same_new np) (.d upd_same)
theorem q_rp {z : Str} {k k2 : Nat} {p1 p2 pos : Pos} (l : List Bool) (n : Nat) (h : z = wS l) (n2 : 1 ≤ n) (n4 : n ≤ 1000) (l4 : l.length ≤ 1000) (hl : ((List.replicate n l).flatten).length ≤ 1000) : PE X (.BinOp (.Constant (.str z) k p1) .Mult (.Constant (.int (n : Nat)) k2 p2) pos) (tAn K (.s (wS (List.replicate n l).flatten))) :=
  pe_wk (pe_op op_repH pe_str pe_int) fun σ H Q q => ⟨l, (n : Nat), by rw [h], rfl, by omega, by omega, l4, by rw [Int.toNat_natCast]; exact q H _ (Same.refl _) (.s (by rw [wS_len]; exact hl))⟩
theorem q_neg {k : Nat} {p1 pos : Pos} {n : Int} : PE X (.UnaryOp .USub (.Constant (.int n) k p1) pos) (tC (.int (-n))) := pe_wk (pe_un un_neg pe_int) fun σ H Q q => ⟨_, rfl, q⟩
theorem q_inc {e : Expr} {k : Nat} {p1 pos : Pos} {n m : Int} (h : PE X e (tC (.int n))) : PE X (.BinOp e .Add (.Constant (.int m) k p1) pos) (tC (.int (n + m))) := pe_wk (pe_op op_add h pe_int) fun σ H Q q => ⟨_, _, rfl, rfl, q⟩
end
theorem q_rt {X : Cx} {et : Expr} {k2 : Nat} {p2 pos : Pos} {xs : List Anv} (n : Nat) (h : PE X et (tAn X.K (.t xs))) (hne : xs ≠ []) (h2 : 2 ≤ n) (h3 : n ≤ 100) (hl : xs.length ≤ 100) : PE X (.BinOp et .Mult (.Constant (.int (n : Nat)) k2 p2) pos) (tAn X.K (.t (List.replicate n xs).flatten)) :=
  pe_wk (pe_op op_repT h pe_int) fun σ H Q q H1 v s1 hp => by
    cases hp with
    | @t t vs _ hz a1 a2 =>
      refine ⟨t, (n : Nat), vs, rfl, rfl, a1, fun e => hne (by subst e; cases a2; rfl), by omega, by omega, by rw [a2.len]; omega, fun p np => ?_⟩
      refine q _ (.ref p) (s1.trans (same_new np)) ?_
      rw [Int.toNat_natCast]
      refine .t ?_ (SqT.of upd_same) ((a2.rep n).same (same_new np))
      rw [PyProof.Rows.lm_len_rep_flat, a2.len]
      have := Nat.mul_le_mul h3 hl
      omega
/-! ### cut and put together -/
theorem catA_okB {K : PySem.W.Frag} {H : Hp} {Q : VK} {a b : Addr} {xs ys : List V} (ha : SqT K H a xs) (hb : SqT K H b ys) (hl : xs.length + ys.length ≤ 100000) (k : ∀ H' u, Same H H' → SqT K H' u (xs ++ ys) → Q (.ref u) H') : rCatA K (.ref a) (.ref b) H Q := by
  refine ⟨a, b, xs, ys, rfl, rfl, ha, hb, by rw [sizeLine_eq]; omega, fun e => ?_, fun e1 e2 => ?_, fun e1 e2 p np => ?_⟩
  · subst e
    exact k H b (Same.refl _) hb
  · subst e2
    exact k H a (Same.refl _) (by rw [List.append_nil]; exact ha)
  · exact k _ p (same_new np) (SqT.of upd_same)
/-- one of a list of things -/
theorem pickA {K : PySem.W.Frag} {H : Hp} {vs : List V} {xs : List Anv} (h : AnsA K H vs xs) {r : Int} (r0 : 0 ≤ r) (r1 : r < (xs.length : Int)) : ∃ v x, atI vs r = some v ∧ AnA K H v x ∧ x ∈ xs := by
  obtain ⟨k, rfl⟩ := Int.eq_ofNat_of_zero_le r0
  have hk : k < vs.length := by
    rw [h.len]
    omega
  obtain ⟨x, e, a⟩ := h.get (List.getElem?_eq_getElem hk)
  exact ⟨vs[k], x, atI_nat (List.getElem?_eq_getElem hk), a, List.mem_of_getElem? e⟩
end KS
namespace PySem
namespace XInvalidWord
open PySem.W PySem.Calls PyProof.Rows PySem.HandSPX
/-! ### the text of __init__ -/
def iA (p1 p2 : Pos) : Arguments := { posonlyargs := [], args := [{ arg := "self", annotation := none, pos := p1 }, { arg := "index", annotation := none, pos := p2 }], vararg := none, kwonlyargs := [], kw_defaults := [], kwarg := none, defaults := [] }
def iB (q1 q2 q3 q4 : Pos) : List Stmt := [.Assign [.Attribute (.Name "self" q1) "index" q2] (.Name "index" q3) q4]
def iS : Scope := { kind := .function, names := [(PySem.Str.ofString "self", .local), (PySem.Str.ofString "index", .local)], isGenerator := false, isCoroutine := false, more := [] }
/-- what the written part says of Low, at C, and of its __init__, at fI -/
structure InvalidWordTxt (K : Frag) (mg : Str → Option Value) (C fI : Addr) : Prop where
  gC : mg "InvalidWord" = some (.ref C)
  cls : ∃ nm q N bs bm sn sub ab col dd k0 k1 k2 k3 k5, K.lookup C = some (excClassObj nm q C N bs bm true sn sub ab col dd k0 k1 k2 k3 k5 "ValueError.__new__") ∧ refsVE bm = true
  sa : findIn K (.ref C) "__setattr__" = some (some (.builtin "object.__setattr__"))
  ga : findIn K (.ref C) "__getattribute__" = some (some (.builtin "BaseException.__getattribute__"))
  gg : findIn K (.ref C) "__getattr__" = some none
  noN : findIn K (.ref C) "index" = some none
  iC : findIn K (.ref C) "__init__" = some (some (.ref fI))
  tC : typeIn K (.ref fI) = some (.type "function")
  kC : keepIn K (.ref C) = true
  exC : subIn K (.ref C) (.type "BaseException") = some true
  tyC : typeIn K (.ref C) = some (.type "type")
  hdC : hasDictIn K C = true
  te : exmOne K (.ref C) (.ref C) = some true
  fn : ∃ (oc : Value) (od : Option Addr) (doc pm : Value) (an : Option Addr) (cdv ct : Value) (osl : Array (Option Value)) (p1 p2 q1 q2 q3 q4 : Pos),
    K.lookup fI = some ⟨oc, od, .func (fnOf "__init__" "InvalidWord.__init__" (iA p1 p2) (iB q1 q2 q3 q4) iS .none .none doc pm an cdv ct), osl⟩ ∧ codeIn K cdv "InvalidWord.__init__" = true
theorem one_size (v : Value) : [v].length ≤ sizeLine := by
  rw [sizeLine_eq]
  exact (by decide : 1 ≤ 16777216)
theorem kept_but {K : Frag} {h h' : Heap} {x : Addr} (X : K.In h) (hx : K.lookup x = none) (k : ∀ b o, b ≠ x → h.get? b = some o → h'.get? b = some o) : K.In h' := fun a o e =>
  k a o (fun z => by rw [z, hx] at e; cases e) (X a o e)
theorem ldC {M : Model} {s : Shared} {name : Str} {scope : Scope} {L a : Addr} {cd : Value} {m : Str → Option Value} {x : Str} {pos : Pos} {v : Value} {Q : Value → Shared → Prop} {A : Around} {E : Value → Shared → Prop} (hn : s.heap.Ns L m) (hv : m x = some v) (h : Q v s)
    (hk : scope.kind = .function := by rfl) (hl : (envOfC name scope L a cd).kindOf x = some .local := by rfl) (hd : (x == ("__debug__" : Str)) = false := by decide) :
    wpAny M A (eval (.Name x pos) (envOfC name scope L a cd)) Q E s := wpAny_Name (wpAny_loadName_local hk hl hn hv h) hd
/-- what __init__ leaves of a fresh exception at x -/
structure InitEnd (h h' : Heap) (x C dx t1 : Addr) (v : Value) : Prop where
  keep : ∀ b o, b ≠ x → h.get? b = some o → h'.get? b = some o
  obj : h'.get? x = some { cls := .ref C, dict := some dx, data := .fields #[.ref t1, .none, .none, .none, .bool false, .none] }
  dbig : h.objs.size ≤ dx
  dne : dx ≠ x
  ns : h'.Ns1 dx (fun y => if y = "index" then some v else none)
/-- made -/
structure OwnMade (h h' : Heap) (e C d : Addr) (v : Value) : Prop where
  keep : ∀ b o, h.get? b = some o → h'.get? b = some o
  new : h.objs.size ≤ e
  obj : ∃ oe vs, h'.get? e = some oe ∧ oe.cls = .ref C ∧ oe.dict = some d ∧ oe.data = .fields vs ∧ vs[1]? = some .none
  dbig : h.objs.size ≤ d
  dne : d ≠ e
  ns : h'.Ns1 d (fun y => if y = "index" then some v else none)
section
variable {prog : Program} {w : World} {A : Around} {E : Value → Shared → Prop} {R : Result → Shared → Prop} {s : Shared} {K : Frag} {mg : Str → Option Value} {C fI : Addr}
theorem _initInvalidWord (T : InvalidWordTxt K mg C fI) {x t0 : Addr} {v : Value} (X : K.In s.heap) (hlim : s.heap.NoLimit) (hx : s.heap.get? x = some (excO C t0)) (hnx : K.lookup x = none) (hroom : A.depth < recursionLimit)
    (hq : ∀ h' tk dx, InitEnd s.heap h' x C dx t0 v → R (.ok (.ret .none)) { s with heap := h', toks := tk }) :
    codeAny (model prog w) A (.call (.ref fI) ⟨[.ref x, v], []⟩) R s := by
  obtain ⟨oc, od, doc, pm, an, cdv, ct, osl, p1, p2, q1, q2, q3, q4, ho, hcd⟩ := T.fn
  obtain ⟨nm, q, N, bs, bm, sn, sub, ab, col, dd, k0, k1, k2, k3, k5, hC, hbm⟩ := T.cls
  have hcl : clsIn K C = some { name := nm, bases := bs, mro := .ref C :: bm, ns := N, qualname := q, hasDict := true, slotNames := sn, subclasses := sub, abstract := ab, collection := col, hasDel := false } := by unfold clsIn; rw [hC] <;> rfl
  refine Att.call_fn (binds := [("self", .ref x), ("index", v)]) X hlim ho hcd hroom (BindsTo.of_eq (by first | rfl | with_unfolding_all rfl)) (by first | rfl | decide | with_unfolding_all rfl) (fun s₁ IC => ?_) rfl rfl rfl
  obtain ⟨h₁, tk₁, rfl⟩ := IC.toInCall.same
  have k : ∀ b o, s.heap.get? b = some o → h₁.get? b = some o := IC.toInCall.keep
  have hn := IC.toInCall.ns
  have hxL : s.heap.objs.size ≠ x := Nat.ne_of_gt (Heap.lt_size hx)
  have X₁ : K.In h₁ := X.keeps k
  have hx₁ := k _ _ hx
  -- self.f = f
  show wpAny _ _ (execs _ _) _ _ _
  refine wpAny_execs_cons (plainObj_wpAny_Assign_Attribute ?_)
  refine ldC (v := v) hn (by first | rfl | with_unfolding_all rfl | kernel_rfl) (ldC (v := .ref x) hn (by first | rfl | with_unfolding_all rfl | kernel_rfl) ?_)
  refine set_plain X₁ (ox := excO C t0) (od := none) ⟨hx₁, rfl, rfl, trivial⟩ T.sa ?_
  refine exc_osa X₁ hx₁ hcl (show refsVE (.ref C :: bm) = true from hbm) rfl T.noN (fun h₃ tk₃ dx k₃ dn dne hx₃ hn₃ => ?_)
  show wpAny _ _ (execs _ _) _ _ _
  have z : s.heap.objs.size < h₁.objs.size := hn.lt
  exact wpAny_execs_nil (hq h₃ tk₃ dx ⟨fun b o hb e => k₃ b o hb (k b o e), hx₃, Nat.le_of_lt (Nat.lt_of_lt_of_le z dn), dne, hn₃⟩)
theorem _madeInvalidWord (T : InvalidWordTxt K mg C fI) {v : Value} (X : K.In s.heap) (hlim : s.heap.NoLimit) (hroom : A.depth + 1 < recursionLimit)
    (hq : ∀ h' tk e d, OwnMade s.heap h' e C d v → R (.ok (.ret (.ref e))) { s with heap := h', toks := tk }) :
    codeAny (model prog w) A (.call (.ref C) ⟨[v], []⟩) R s := by
  obtain ⟨nm, q, N, bs, bm, sn, sub, ab, col, dd, k0, k1, k2, k3, k5, hC, hbm⟩ := T.cls
  obtain ⟨hp, g, dr, tk, os⟩ := s
  have k : ∀ b o, hp.get? b = some o → ((hp.push (kdv_tup [v])).push (excO C hp.objs.size)).get? b = some o := fun b o e => Heap.get?_push_of_some _ (Heap.get?_push_of_some _ e)
  have hget : ((hp.push (kdv_tup [v])).push (excO C hp.objs.size)).get? (hp.objs.size + 1) = some (excO C hp.objs.size) := by heap_get
  have hnx : K.lookup (hp.objs.size + 1) = none := by
    cases e : K.lookup (hp.objs.size + 1) with
    | none => rfl
    | some o =>
      have z : hp.get? (hp.objs.size + 1) = some o := X _ _ e
      exact absurd (Nat.lt_of_succ_lt (Heap.lt_size z)) (Nat.lt_irrefl _)
  refine call_own F.excBase_ValueError (fun X => refsVE_contains X bm hbm) (X _ _ hC) (looks_findIn X T.iC) (fun self => bind_fn X self T.tC) (one_size v) ?_
  refine _initInvalidWord (s := ⟨(hp.push (kdv_tup [v])).push (excO C hp.objs.size), g, dr, tk, os⟩) T (X.keeps k) (hlim.keeps k) hget hnx ?_ fun h' tk' dx ⟨k', hx, dn, dne, hns⟩ => ?_
  · show A.depth + 1 < recursionLimit
    exact hroom
  · have old : ∀ b o, hp.get? b = some o → h'.get? b = some o := fun b o e => k' b o (Nat.ne_of_lt (Nat.lt_succ_of_lt (Heap.lt_size e))) (k b o e)
    have z : hp.objs.size + 1 + 1 ≤ dx := by
      first
        | (simpa only [Heap.size_push] using dn)
        | exact dn
        | (have q := dn; rw [Heap.size_push, Heap.size_push] at q; exact q)
    exact ⟨rfl, hq h' tk' (hp.objs.size + 1) dx ⟨old, Nat.le_succ _, ⟨_, _, hx, rfl, rfl, rfl, rfl⟩, Nat.le_trans (Nat.le_trans (Nat.le_succ _) (Nat.le_succ _)) z, dne, hns⟩⟩
end
end XInvalidWord
end PySem
namespace L2
open PySem PySem.Spec PyProof.Rows
theorem relO_InvalidWord {v : V} {v' : Value} (r : RelV v v') (f : Str) : RelO (List.lookup f [(("index" : Str), v)]) (if f = "index" then some v' else none) := by
  by_cases hw : f = "index"
  · subst hw
    rw [if_pos rfl]
    have q : List.lookup ("index" : Str) [(("index" : Str), v)] = some v := by simp [List.lookup]
    rw [q]
    exact r
  · rw [if_neg hw]
    have qw : (f == ("index" : Str)) = false := by simpa using hw
    have q2 : List.lookup f [(("index" : Str), v)] = none := by simp [List.lookup, qw]
    rw [q2]
    trivial
section
variable {X : Cx} {C fI : Addr}
/-- Low(e) -/
def tMkInvalidWord (C : Addr) (ta : TA) : St → Hp → XK → Prop := fun σ H Q => ta σ H fun vs H1 => ∃ v, vs = [v] ∧ ∀ d, H1 d = none → Q (.ref C) (some d) (upd H1 d (.xd [(("index" : Str), v)]))
theorem pmk_InvalidWord {a : Expr} {ta : TA} {p pos : Pos} {k : Nat} (T : PySem.XInvalidWord.InvalidWordTxt X.K X.mg C fI) (hr : Room k X.A) (ha : PA X [a] ta) (hg : Gl X "InvalidWord" := by rfl)
    (he : starEach (a :: []) X.env = (false, eval a X.env) :: starEach [] X.env := by rfl) (hpl : (backTo pos (starEach [] X.env)).any (·.1) = false := by rfl) :
    PMk X (.Call (.Name "InvalidWord" p) [a] [] pos) (tMkInvalidWord C ta) := by
  intro pins s σ H Q I h
  refine wpAny_Call_Name_kw (ld_glob I hg T.gC ?_)
  refine PySem.W.callWith_K (h₀ := X.base) I.ok.mod.kin T.kC (thn (ha.run pos pins s σ H _ I h) fun us s1 hh => ?_) he hpl
  obtain ⟨vs, H1, I1, r1, v, ev, q1⟩ := hh
  subst ev
  refine ⟨I1.kIn, ?_⟩
  cases r1 with
  | cons rv rn =>
    rename_i v' us'
    cases rn
    show wpAny _ _ (call (.ref C) [v']) _ _ _
    have hlim := I1.nolimit
    obtain ⟨hp, g, dr, tk, os⟩ := s1
    refine wpAny_call (PySem.XInvalidWord._madeInvalidWord T I1.kIn hlim (by have := hr.dp; omega) fun h' tk' e d M => ?_)
    show MkP X pins σ Q (.ref e) ⟨h', g, dr, tk', os⟩
    obtain ⟨oe, fv, hoe, hc, hd, hdat, h1⟩ := M.obj
    have hns := M.ns
    obtain ⟨G', g1, g2⟩ := restrict h' fun b => decide (b ≠ e)
    have gk : ∀ b, b ≠ e → G'.get? b = h'.get? b := fun b hb => g1 b (decide_eq_true hb)
    have ge : G'.get? e = none := g2 e (by simp)
    have old : ∀ b o, hp.get? b = some o → G'.get? b = some o := fun b o q => (gk b (Nat.ne_of_lt (Nat.lt_of_lt_of_le (Heap.lt_size q) M.new))).trans (M.keep b o q)
    have ob : ObjOk X.prog X.w (upd H1 d (.xd [(("index" : Str), v)])) G' d (.xd [(("index" : Str), v)]) :=
      ⟨_, hns.at (fun o q => (gk d M.dne).trans q), fun f => relO_InvalidWord rv f⟩
    have J : Inv X pins σ (upd H1 d (.xd [(("index" : Str), v)])) ⟨G', g, dr, tk', os⟩ := I1.laid (t' := tk') old M.dbig ob
    refine ⟨e, oe, fv, ⟨G', g, dr, tk', os⟩, _, .ref C, some d, rfl, J, fun b o q => ?_, ge, hoe, ⟨hc, hd⟩, hdat, h1, ?_, rfl, I1.bare, raises_own T.exC T.tyC, q1 d (I1.hok.fresh M.dbig)⟩
    · by_cases hb : b = e
      · have q' : G'.get? b = some o := q
        rw [hb, ge] at q'; cases q'
      · exact (gk b hb).symm.trans q
    · rw [upd_ne (Ne.symm M.dne)]
      exact I1.hok.fresh M.new
/-- raise C(e) -/
def tRaiseInvalidWord (C : Addr) (W : WX) (ta : TA) : TS := fun _ σ H => tMkInvalidWord C ta σ H fun cls d H' => W cls d σ H'
theorem ps_raiseInvalidWord {a : Expr} {ta : TA} {W : WX} {p pos pos2 : Pos} {k : Nat} (hc : X.calm = true) (T : PySem.XInvalidWord.InvalidWordTxt X.K X.mg C fI) (hr : Room k X.A) (tk : Takes X W) (ha : PA X [a] ta) (hg : Gl X "InvalidWord" := by rfl)
    (he : starEach (a :: []) X.env = (false, eval a X.env) :: starEach [] X.env := by rfl) (hpl : (backTo pos (starEach [] X.env)).any (·.1) = false := by rfl) :
    PS X (.Raise (some (.Call (.Name "InvalidWord" p) [a] [] pos)) none pos2) (tRaiseInvalidWord C W ta) := ps_raise hc tk (pmk_InvalidWord T hr ha hg he hpl)
/-- x.f, low the exception that the suite holds (at a; its class cls, its dict d) -/
def tByInvalidWord (C : Addr) (a : Addr) (cls : Value) (d : Option Addr) (te : TE) : TE := fun σ H Q => te σ H fun x H1 => x = .ref a ∧ cls = .ref C ∧ ∃ (dd : Addr) (v : V), d = some dd ∧ H1 dd = some (.xd [(("index" : Str), v)]) ∧ Q v H1
theorem pe_byInvalidWord {a : Addr} {oe : Obj} {cls : Value} {d : Option Addr} {pn : List (Addr × Obj)} {e : Expr} {te : TE} {pos : Pos} (T : PySem.XInvalidWord.InvalidWordTxt X.K X.mg C fI) (hz : Zc cls d oe) (hf : ∃ vs, oe.data = .fields vs) (he : PE (X.suite a ((a, oe) :: pn)) e te)
    (hb : attributeBase e "index" X.env (eval e X.env) = eval e X.env := by rfl) :
    PE (X.suite a ((a, oe) :: pn)) (.Attribute e "index" pos) (tByInvalidWord C a cls d te) := by
  refine ⟨fun pins s σ H Q I h => ?_⟩
  refine attr_of hb (thn (he.run pins s σ H _ I h) fun u s1 hh => ?_)
  obtain ⟨x, H1, I1, rx, ex, ec, dd, v, ed, ea, q⟩ := hh
  subst ex
  obtain rfl : u = Value.ref a := rx
  subst ec
  subst ed
  obtain ⟨ha, _⟩ := I1.pin (a, oe) (List.mem_append_left _ List.mem_cons_self)
  obtain ⟨vs, hd⟩ := hf
  have hx : ObjOk X.prog X.w H1 s1.heap dd (.xd [(("index" : Str), v)]) := I1.hok dd _ ea
  obtain ⟨mA, hns, hr⟩ := hx
  obtain ⟨od, ho, hl⟩ := lookIn_ns hns
  have l : List.lookup ("index" : Str) [(("index" : Str), v)] = some v := by simp [List.lookup]
  obtain ⟨u, hu, ru⟩ := RelO.some_of (v := v) (o := mA "index") (by rw [← l]; exact hr "index")
  have J : PySem.W.InstAt s1.heap a oe C (some od) := ⟨ha, hz.1, by unfold PySem.W.notCls; rw [hd] <;> rfl, by rw [hz.2]; exact ho⟩
  exact HandSPX.exc_get I1.kIn J T.ga T.gg T.exC (PySem.W.findObj_own T.hdC T.noN rfl (by rw [hl, hu])) (handed_of ru) ⟨v, H1, I1.tok _, ru, q⟩
end
end L2
namespace PySem
namespace XInvalidProgram
open PySem.W PySem.Calls PyProof.Rows PySem.HandSPX
/-! ### the text of __init__ -/
def iA (p1 p2 : Pos) : Arguments := { posonlyargs := [], args := [{ arg := "self", annotation := none, pos := p1 }, { arg := "index", annotation := none, pos := p2 }], vararg := none, kwonlyargs := [], kw_defaults := [], kwarg := none, defaults := [] }
def iB (q1 q2 q3 q4 : Pos) : List Stmt := [.Assign [.Attribute (.Name "self" q1) "index" q2] (.Name "index" q3) q4]
def iS : Scope := { kind := .function, names := [(PySem.Str.ofString "self", .local), (PySem.Str.ofString "index", .local)], isGenerator := false, isCoroutine := false, more := [] }
/-- what the written part says of Low, at C, and of its __init__, at fI -/
structure InvalidProgramTxt (K : Frag) (mg : Str → Option Value) (C fI : Addr) : Prop where
  gC : mg "InvalidProgram" = some (.ref C)
  cls : ∃ nm q N bs bm sn sub ab col dd k0 k1 k2 k3 k5, K.lookup C = some (excClassObj nm q C N bs bm true sn sub ab col dd k0 k1 k2 k3 k5 "ValueError.__new__") ∧ refsVE bm = true
  sa : findIn K (.ref C) "__setattr__" = some (some (.builtin "object.__setattr__"))
  ga : findIn K (.ref C) "__getattribute__" = some (some (.builtin "BaseException.__getattribute__"))
  gg : findIn K (.ref C) "__getattr__" = some none
  noN : findIn K (.ref C) "index" = some none
  iC : findIn K (.ref C) "__init__" = some (some (.ref fI))
  tC : typeIn K (.ref fI) = some (.type "function")
  kC : keepIn K (.ref C) = true
  exC : subIn K (.ref C) (.type "BaseException") = some true
  tyC : typeIn K (.ref C) = some (.type "type")
  hdC : hasDictIn K C = true
  te : exmOne K (.ref C) (.ref C) = some true
  fn : ∃ (oc : Value) (od : Option Addr) (doc pm : Value) (an : Option Addr) (cdv ct : Value) (osl : Array (Option Value)) (p1 p2 q1 q2 q3 q4 : Pos),
    K.lookup fI = some ⟨oc, od, .func (fnOf "__init__" "InvalidProgram.__init__" (iA p1 p2) (iB q1 q2 q3 q4) iS .none .none doc pm an cdv ct), osl⟩ ∧ codeIn K cdv "InvalidProgram.__init__" = true
theorem one_size (v : Value) : [v].length ≤ sizeLine := by
  rw [sizeLine_eq]
  exact (by decide : 1 ≤ 16777216)
theorem kept_but {K : Frag} {h h' : Heap} {x : Addr} (X : K.In h) (hx : K.lookup x = none) (k : ∀ b o, b ≠ x → h.get? b = some o → h'.get? b = some o) : K.In h' := fun a o e =>
  k a o (fun z => by rw [z, hx] at e; cases e) (X a o e)
theorem ldC {M : Model} {s : Shared} {name : Str} {scope : Scope} {L a : Addr} {cd : Value} {m : Str → Option Value} {x : Str} {pos : Pos} {v : Value} {Q : Value → Shared → Prop} {A : Around} {E : Value → Shared → Prop} (hn : s.heap.Ns L m) (hv : m x = some v) (h : Q v s)
    (hk : scope.kind = .function := by rfl) (hl : (envOfC name scope L a cd).kindOf x = some .local := by rfl) (hd : (x == ("__debug__" : Str)) = false := by decide) :
    wpAny M A (eval (.Name x pos) (envOfC name scope L a cd)) Q E s := wpAny_Name (wpAny_loadName_local hk hl hn hv h) hd
/-- what __init__ leaves of a fresh exception at x -/
structure InitEnd (h h' : Heap) (x C dx t1 : Addr) (v : Value) : Prop where
  keep : ∀ b o, b ≠ x → h.get? b = some o → h'.get? b = some o
  obj : h'.get? x = some { cls := .ref C, dict := some dx, data := .fields #[.ref t1, .none, .none, .none, .bool false, .none] }
  dbig : h.objs.size ≤ dx
  dne : dx ≠ x
  ns : h'.Ns1 dx (fun y => if y = "index" then some v else none)
/-- made -/
structure OwnMade (h h' : Heap) (e C d : Addr) (v : Value) : Prop where
  keep : ∀ b o, h.get? b = some o → h'.get? b = some o
  new : h.objs.size ≤ e
  obj : ∃ oe vs, h'.get? e = some oe ∧ oe.cls = .ref C ∧ oe.dict = some d ∧ oe.data = .fields vs ∧ vs[1]? = some .none
  dbig : h.objs.size ≤ d
  dne : d ≠ e
  ns : h'.Ns1 d (fun y => if y = "index" then some v else none)
section
variable {prog : Program} {w : World} {A : Around} {E : Value → Shared → Prop} {R : Result → Shared → Prop} {s : Shared} {K : Frag} {mg : Str → Option Value} {C fI : Addr}
theorem _initInvalidProgram (T : InvalidProgramTxt K mg C fI) {x t0 : Addr} {v : Value} (X : K.In s.heap) (hlim : s.heap.NoLimit) (hx : s.heap.get? x = some (excO C t0)) (hnx : K.lookup x = none) (hroom : A.depth < recursionLimit)
    (hq : ∀ h' tk dx, InitEnd s.heap h' x C dx t0 v → R (.ok (.ret .none)) { s with heap := h', toks := tk }) :
    codeAny (model prog w) A (.call (.ref fI) ⟨[.ref x, v], []⟩) R s := by
  obtain ⟨oc, od, doc, pm, an, cdv, ct, osl, p1, p2, q1, q2, q3, q4, ho, hcd⟩ := T.fn
  obtain ⟨nm, q, N, bs, bm, sn, sub, ab, col, dd, k0, k1, k2, k3, k5, hC, hbm⟩ := T.cls
  have hcl : clsIn K C = some { name := nm, bases := bs, mro := .ref C :: bm, ns := N, qualname := q, hasDict := true, slotNames := sn, subclasses := sub, abstract := ab, collection := col, hasDel := false } := by unfold clsIn; rw [hC] <;> rfl
  refine Att.call_fn (binds := [("self", .ref x), ("index", v)]) X hlim ho hcd hroom (BindsTo.of_eq (by first | rfl | with_unfolding_all rfl)) (by first | rfl | decide | with_unfolding_all rfl) (fun s₁ IC => ?_) rfl rfl rfl
  obtain ⟨h₁, tk₁, rfl⟩ := IC.toInCall.same
  have k : ∀ b o, s.heap.get? b = some o → h₁.get? b = some o := IC.toInCall.keep
  have hn := IC.toInCall.ns
  have hxL : s.heap.objs.size ≠ x := Nat.ne_of_gt (Heap.lt_size hx)
  have X₁ : K.In h₁ := X.keeps k
  have hx₁ := k _ _ hx
  -- self.f = f
  show wpAny _ _ (execs _ _) _ _ _
  refine wpAny_execs_cons (plainObj_wpAny_Assign_Attribute ?_)
  refine ldC (v := v) hn (by first | rfl | with_unfolding_all rfl | kernel_rfl) (ldC (v := .ref x) hn (by first | rfl | with_unfolding_all rfl | kernel_rfl) ?_)
  refine set_plain X₁ (ox := excO C t0) (od := none) ⟨hx₁, rfl, rfl, trivial⟩ T.sa ?_
  refine exc_osa X₁ hx₁ hcl (show refsVE (.ref C :: bm) = true from hbm) rfl T.noN (fun h₃ tk₃ dx k₃ dn dne hx₃ hn₃ => ?_)
  show wpAny _ _ (execs _ _) _ _ _
  have z : s.heap.objs.size < h₁.objs.size := hn.lt
  exact wpAny_execs_nil (hq h₃ tk₃ dx ⟨fun b o hb e => k₃ b o hb (k b o e), hx₃, Nat.le_of_lt (Nat.lt_of_lt_of_le z dn), dne, hn₃⟩)
theorem _madeInvalidProgram (T : InvalidProgramTxt K mg C fI) {v : Value} (X : K.In s.heap) (hlim : s.heap.NoLimit) (hroom : A.depth + 1 < recursionLimit)
    (hq : ∀ h' tk e d, OwnMade s.heap h' e C d v → R (.ok (.ret (.ref e))) { s with heap := h', toks := tk }) :
    codeAny (model prog w) A (.call (.ref C) ⟨[v], []⟩) R s := by
  obtain ⟨nm, q, N, bs, bm, sn, sub, ab, col, dd, k0, k1, k2, k3, k5, hC, hbm⟩ := T.cls
  obtain ⟨hp, g, dr, tk, os⟩ := s
  have k : ∀ b o, hp.get? b = some o → ((hp.push (kdv_tup [v])).push (excO C hp.objs.size)).get? b = some o := fun b o e => Heap.get?_push_of_some _ (Heap.get?_push_of_some _ e)
  have hget : ((hp.push (kdv_tup [v])).push (excO C hp.objs.size)).get? (hp.objs.size + 1) = some (excO C hp.objs.size) := by heap_get
  have hnx : K.lookup (hp.objs.size + 1) = none := by
    cases e : K.lookup (hp.objs.size + 1) with
    | none => rfl
    | some o =>
      have z : hp.get? (hp.objs.size + 1) = some o := X _ _ e
      exact absurd (Nat.lt_of_succ_lt (Heap.lt_size z)) (Nat.lt_irrefl _)
  refine call_own F.excBase_ValueError (fun X => refsVE_contains X bm hbm) (X _ _ hC) (looks_findIn X T.iC) (fun self => bind_fn X self T.tC) (one_size v) ?_
  refine _initInvalidProgram (s := ⟨(hp.push (kdv_tup [v])).push (excO C hp.objs.size), g, dr, tk, os⟩) T (X.keeps k) (hlim.keeps k) hget hnx ?_ fun h' tk' dx ⟨k', hx, dn, dne, hns⟩ => ?_
  · show A.depth + 1 < recursionLimit
    exact hroom
  · have old : ∀ b o, hp.get? b = some o → h'.get? b = some o := fun b o e => k' b o (Nat.ne_of_lt (Nat.lt_succ_of_lt (Heap.lt_size e))) (k b o e)
    have z : hp.objs.size + 1 + 1 ≤ dx := by
      first
        | (simpa only [Heap.size_push] using dn)
        | exact dn
        | (have q := dn; rw [Heap.size_push, Heap.size_push] at q; exact q)
    exact ⟨rfl, hq h' tk' (hp.objs.size + 1) dx ⟨old, Nat.le_succ _, ⟨_, _, hx, rfl, rfl, rfl, rfl⟩, Nat.le_trans (Nat.le_trans (Nat.le_succ _) (Nat.le_succ _)) z, dne, hns⟩⟩
end
end XInvalidProgram
end PySem
namespace L2
open PySem PySem.Spec PyProof.Rows
theorem relO_InvalidProgram {v : V} {v' : Value} (r : RelV v v') (f : Str) : RelO (List.lookup f [(("index" : Str), v)]) (if f = "index" then some v' else none) := by
  by_cases hw : f = "index"
  · subst hw
    rw [if_pos rfl]
    have q : List.lookup ("index" : Str) [(("index" : Str), v)] = some v := by simp [List.lookup]
    rw [q]
    exact r
  · rw [if_neg hw]
    have qw : (f == ("index" : Str)) = false := by simpa using hw
    have q2 : List.lookup f [(("index" : Str), v)] = none := by simp [List.lookup, qw]
    rw [q2]
    trivial
section
variable {X : Cx} {C fI : Addr}
/-- Low(e) -/
def tMkInvalidProgram (C : Addr) (ta : TA) : St → Hp → XK → Prop := fun σ H Q => ta σ H fun vs H1 => ∃ v, vs = [v] ∧ ∀ d, H1 d = none → Q (.ref C) (some d) (upd H1 d (.xd [(("index" : Str), v)]))
theorem pmk_InvalidProgram {a : Expr} {ta : TA} {p pos : Pos} {k : Nat} (T : PySem.XInvalidProgram.InvalidProgramTxt X.K X.mg C fI) (hr : Room k X.A) (ha : PA X [a] ta) (hg : Gl X "InvalidProgram" := by rfl)
    (he : starEach (a :: []) X.env = (false, eval a X.env) :: starEach [] X.env := by rfl) (hpl : (backTo pos (starEach [] X.env)).any (·.1) = false := by rfl) :
    PMk X (.Call (.Name "InvalidProgram" p) [a] [] pos) (tMkInvalidProgram C ta) := by
  intro pins s σ H Q I h
  refine wpAny_Call_Name_kw (ld_glob I hg T.gC ?_)
  refine PySem.W.callWith_K (h₀ := X.base) I.ok.mod.kin T.kC (thn (ha.run pos pins s σ H _ I h) fun us s1 hh => ?_) he hpl
  obtain ⟨vs, H1, I1, r1, v, ev, q1⟩ := hh
  subst ev
  refine ⟨I1.kIn, ?_⟩
  cases r1 with
  | cons rv rn =>
    rename_i v' us'
    cases rn
    show wpAny _ _ (call (.ref C) [v']) _ _ _
    have hlim := I1.nolimit
    obtain ⟨hp, g, dr, tk, os⟩ := s1
    refine wpAny_call (PySem.XInvalidProgram._madeInvalidProgram T I1.kIn hlim (by have := hr.dp; omega) fun h' tk' e d M => ?_)
    show MkP X pins σ Q (.ref e) ⟨h', g, dr, tk', os⟩
    obtain ⟨oe, fv, hoe, hc, hd, hdat, h1⟩ := M.obj
    have hns := M.ns
    obtain ⟨G', g1, g2⟩ := restrict h' fun b => decide (b ≠ e)
    have gk : ∀ b, b ≠ e → G'.get? b = h'.get? b := fun b hb => g1 b (decide_eq_true hb)
    have ge : G'.get? e = none := g2 e (by simp)
    have old : ∀ b o, hp.get? b = some o → G'.get? b = some o := fun b o q => (gk b (Nat.ne_of_lt (Nat.lt_of_lt_of_le (Heap.lt_size q) M.new))).trans (M.keep b o q)
    have ob : ObjOk X.prog X.w (upd H1 d (.xd [(("index" : Str), v)])) G' d (.xd [(("index" : Str), v)]) :=
      ⟨_, hns.at (fun o q => (gk d M.dne).trans q), fun f => relO_InvalidProgram rv f⟩
    have J : Inv X pins σ (upd H1 d (.xd [(("index" : Str), v)])) ⟨G', g, dr, tk', os⟩ := I1.laid (t' := tk') old M.dbig ob
    refine ⟨e, oe, fv, ⟨G', g, dr, tk', os⟩, _, .ref C, some d, rfl, J, fun b o q => ?_, ge, hoe, ⟨hc, hd⟩, hdat, h1, ?_, rfl, I1.bare, raises_own T.exC T.tyC, q1 d (I1.hok.fresh M.dbig)⟩
    · by_cases hb : b = e
      · have q' : G'.get? b = some o := q
        rw [hb, ge] at q'; cases q'
      · exact (gk b hb).symm.trans q
    · rw [upd_ne (Ne.symm M.dne)]
      exact I1.hok.fresh M.new
/-- raise C(e) -/
def tRaiseInvalidProgram (C : Addr) (W : WX) (ta : TA) : TS := fun _ σ H => tMkInvalidProgram C ta σ H fun cls d H' => W cls d σ H'
theorem ps_raiseInvalidProgram {a : Expr} {ta : TA} {W : WX} {p pos pos2 : Pos} {k : Nat} (hc : X.calm = true) (T : PySem.XInvalidProgram.InvalidProgramTxt X.K X.mg C fI) (hr : Room k X.A) (tk : Takes X W) (ha : PA X [a] ta) (hg : Gl X "InvalidProgram" := by rfl)
    (he : starEach (a :: []) X.env = (false, eval a X.env) :: starEach [] X.env := by rfl) (hpl : (backTo pos (starEach [] X.env)).any (·.1) = false := by rfl) :
    PS X (.Raise (some (.Call (.Name "InvalidProgram" p) [a] [] pos)) none pos2) (tRaiseInvalidProgram C W ta) := ps_raise hc tk (pmk_InvalidProgram T hr ha hg he hpl)
/-- x.f, low the exception that the suite holds (at a; its class cls, its dict d) -/
def tByInvalidProgram (C : Addr) (a : Addr) (cls : Value) (d : Option Addr) (te : TE) : TE := fun σ H Q => te σ H fun x H1 => x = .ref a ∧ cls = .ref C ∧ ∃ (dd : Addr) (v : V), d = some dd ∧ H1 dd = some (.xd [(("index" : Str), v)]) ∧ Q v H1
theorem pe_byInvalidProgram {a : Addr} {oe : Obj} {cls : Value} {d : Option Addr} {pn : List (Addr × Obj)} {e : Expr} {te : TE} {pos : Pos} (T : PySem.XInvalidProgram.InvalidProgramTxt X.K X.mg C fI) (hz : Zc cls d oe) (hf : ∃ vs, oe.data = .fields vs) (he : PE (X.suite a ((a, oe) :: pn)) e te)
    (hb : attributeBase e "index" X.env (eval e X.env) = eval e X.env := by rfl) :
    PE (X.suite a ((a, oe) :: pn)) (.Attribute e "index" pos) (tByInvalidProgram C a cls d te) := by
  refine ⟨fun pins s σ H Q I h => ?_⟩
  refine attr_of hb (thn (he.run pins s σ H _ I h) fun u s1 hh => ?_)
  obtain ⟨x, H1, I1, rx, ex, ec, dd, v, ed, ea, q⟩ := hh
  subst ex
  obtain rfl : u = Value.ref a := rx
  subst ec
  subst ed
  obtain ⟨ha, _⟩ := I1.pin (a, oe) (List.mem_append_left _ List.mem_cons_self)
  obtain ⟨vs, hd⟩ := hf
  have hx : ObjOk X.prog X.w H1 s1.heap dd (.xd [(("index" : Str), v)]) := I1.hok dd _ ea
  obtain ⟨mA, hns, hr⟩ := hx
  obtain ⟨od, ho, hl⟩ := lookIn_ns hns
  have l : List.lookup ("index" : Str) [(("index" : Str), v)] = some v := by simp [List.lookup]
  obtain ⟨u, hu, ru⟩ := RelO.some_of (v := v) (o := mA "index") (by rw [← l]; exact hr "index")
  have J : PySem.W.InstAt s1.heap a oe C (some od) := ⟨ha, hz.1, by unfold PySem.W.notCls; rw [hd] <;> rfl, by rw [hz.2]; exact ho⟩
  exact HandSPX.exc_get I1.kIn J T.ga T.gg T.exC (PySem.W.findObj_own T.hdC T.noN rfl (by rw [hl, hu])) (handed_of ru) ⟨v, H1, I1.tok _, ru, q⟩
end
end L2
namespace KS
open PySem PySem.Spec PyProof.Rows L2 RZ TL
theorem kit_str {K : PySem.W.Frag} {H : Hp} {v : V} {t : String} (h : Oth K H v t) : PySem.W.kitOne K (.type t) (.type "str") = some (decide (t = "str")) := by
  cases h <;> exact kit_ty (by decide +kernel)
/-! ### the promises, of anything -/
def spCLA (C : Addr) : Sp := fun vs H Q E => ∃ x : Str, vs = [.str x, .str "RC"] ∧ x.length ≤ 1000 ∧ (wB x = true → ∀ H', Same H H' → Q .non H') ∧ (wB x = false → ∀ H' d e, Same H H' → H d = none → H' d = some (.xd [(("index" : Str), e)]) → E (.ref C) (some d) H')
def spCWA (C : Addr) : Sp := fun vs H Q E => ∃ x : Str, vs = [.str x] ∧ x.length ≤ 1000 ∧ (wB x = true → ∀ H', Same H H' → Q .non H') ∧ (wB x = false → ∀ H' d e, Same H H' → H d = none → H' d = some (.xd [(("index" : Str), e)]) → E (.ref C) (some d) H')
def spIWA : Sp := fun vs H Q _ => ∃ x : Str, vs = [.str x] ∧ x.length ≤ 1000 ∧ ∀ H', Same H H' → Q (.bl (wB x)) H'
def spIRA (K : PySem.W.Frag) : Sp := fun vs H Q _ => ∃ (v : V) (x : Anv), vs = [v] ∧ AnA K H v x ∧ Q (.bl (isRepA x)) H
def spCSA (K : PySem.W.Frag) (m : Nat) : Sp := fun vs H Q _ => ∃ (v : V) (x : Anv) (room : Int), vs = [v, .int (5 - (m : Nat)), .int room] ∧ AnA K H v x ∧ room ≤ 60 ∧ ∀ H', Same H H' → Q (csV m room x) H'
def spCPA (K : PySem.W.Frag) (C : Addr) : Sp := fun vs H Q E => ∃ (v : V) (x : Anv), vs = [v] ∧ AnA K H v x ∧ (goodA x = true → ∀ H', Same H H' → Q .non H') ∧ (goodA x = false → ∀ H' d e, Same H H' → H d = none → H' d = some (.xd [(("index" : Str), e)]) → E (.ref C) (some d) H')
def spIPA (K : PySem.W.Frag) : Sp := fun vs H Q _ => ∃ (v : V) (x : Anv), vs = [v] ∧ AnA K H v x ∧ ∀ H', Same H H' → Q (.bl (goodA x)) H'
theorem mem_RC {c : Nat} : decide (c ∈ ("RC" : Str).cps.toList) = (c == 82 || c == 67) := by
  have e : ("RC" : Str).cps.toList = [82, 67] := by decide +kernel
  rw [e, Bool.eq_iff_iff]
  simp
def isS (z : Str) : Anv → Bool
  | .s r => decide (r = z)
  | _ => false
theorem anyV_ne {K : PySem.W.Frag} {H : Hp} {v : V} {x : Anv} (h : AnA K H v x) (z : Str) : decide (v = .str z) = isS z x := by
  cases h with
  | s _ => exact decide_eq_decide.mpr ⟨fun e => V.str.inj e, fun e => by rw [e]⟩
  | _ => exact decide_eq_false (fun e => by cases e)
def tmA : Anv → Bool
  | .i n => decide (1 ≤ n ∧ n ≤ 10 ^ 30)
  | _ => false
theorem same_xd {H H1 : Hp} (s : Same H H1) {d : Addr} {o : HO} (hd : H1 d = none) : Same H (upd H1 d o) ∧ H d = none := ⟨s.trans (same_new hd), s.free hd⟩
section
variable {P : Program} {w : World} {K : PySem.W.Frag} {mg : Str → Option Value} {base : Heap}
theorem ok_wholeA {f : Addr} {fd : FuncData} (F : Fun K "is_whole" "is_whole" sWhole f fd) (mi : mg "isinstance" = none) (mI : mg "int" = none) (mB : mg "bool" = none) : FnOk P w K mg base CX0 1 f fd ["value"] (spWholeG K) := by
  refine F.ok scWhole (fun vs H Q E h => ?_) (fun cdv A outer s H vs Q E hr h => ?_)
  · obtain ⟨v, t, rfl, _⟩ := h
    rfl
  · obtain ⟨v, t, rfl, ho, q⟩ := h
    refine ⟨_, pss_one (ps_ret (pe_and (pe_callB call_isi (by rfl) mi (by decide +kernel) (pa_cons (pv 0) (pa_cons (pe_bltn (v := .ty "int") (by rfl) mI (by decide +kernel) rfl) pa_nil)))
      (pe_one (pe_not (pe_callB call_isi (by rfl) mi (by decide +kernel) (pa_cons (pv 0) (pa_cons (pe_bltn (v := .ty "bool") (by rfl) mB (by decide +kernel) rfl) pa_nil))))))), ?_⟩
    refine ⟨_, rfl, v, _, _, _, _, rfl, .ty "int", ho.ty, kit_int ho, _, rfl, ite2 (fun e => ?_) (fun e => ?_)⟩
    · refine ⟨_, rfl, v, _, _, _, _, rfl, .ty "bool", ho.ty, kit_bool ho, _, rfl, ?_⟩
      have e' := of_decide_eq_true e
      have z : (!decide (t = "bool")) = decide (t = "int") := by
        rcases e' with e' | e' <;> subst e' <;> decide
      rw [z]
      exact q
    · have z : decide (t = "int") = false := decide_eq_false fun y => e (decide_eq_true (.inl y))
      rw [z] at q
      exact q
theorem ok_betweenA {f fW : Addr} {fd fdW : FuncData} (F : Fun K "is_between" "is_between" sBetween f fd) (GW : FnOk P w K mg base CX0 1 fW fdW ["value"] (spWholeG K)) (bW : Binds K fdW ["value"] []) (gW : mg "is_whole" = some (.ref fW)) (kW : PySem.W.keepIn K (.ref fW) = true) :
    FnOk P w K mg base CX0 2 f fd ["value", "least", "most"] (spBetweenG K) := by
  refine F.ok scBetween (fun vs H Q E h => ?_) (fun cdv A outer s H vs Q E hr h => ?_)
  · obtain ⟨v, lo, hi, b, rfl, _⟩ := h
    rfl
  · obtain ⟨v, lo, hi, b, rfl, hp, q⟩ := h
    refine ⟨_, pss_one (ps_ret (pe_and (pe_call GW hr (by rfl) gW kW bW .nil pass0 (pa_cons (pv 0) pa_nil)) (pe_one (pe_chain op_le op_le (pv 1) (pv 0) (pv 2))))), ?_⟩
    have go : ∀ i : Int, v = .int i → b = decide (lo ≤ i ∧ i ≤ hi) → tAndV (tCall (spWholeG K) [] E0 (tCons (tVar 0) tNil)) (tChain rLe rLe (tVar 1) (tVar 0) (tVar 2)) [some v, some (.int lo), some (.int hi)] H Q := fun i ei eb => by
      subst ei
      refine ⟨_, rfl, .int i, "int", rfl, .int i, true, rfl, ?_⟩
      refine ⟨_, rfl, _, rfl, _, _, rfl, rfl, _, rfl, ite2 (fun e => ?_) (fun e => ?_)⟩
      · have e' := of_decide_eq_true e
        refine ⟨_, rfl, _, _, rfl, rfl, ?_⟩
        have z : decide (i ≤ hi) = b := by
          rw [eb]
          by_cases y : i ≤ hi
          · rw [decide_eq_true y, decide_eq_true ⟨e', y⟩]
          · rw [decide_eq_false y, decide_eq_false fun x => y x.2]
        show Q (V.bl (decide (i ≤ hi))) H
        rw [z]
        exact q
      · have z : b = false := by
          rw [eb]
          exact decide_eq_false fun x => e (decide_eq_true x.1)
        rw [z] at q
        exact q
    cases b with
    | true =>
      obtain ⟨i, rfl, h0, h1⟩ := hp
      exact go i rfl (decide_eq_true ⟨h0, h1⟩).symm
    | false =>
      rcases hp with ⟨i, rfl, hn⟩ | ⟨ty, ho, hn⟩
      · exact go i rfl (decide_eq_false hn).symm
      · refine ⟨_, rfl, v, ty, rfl, ho, _, rfl, ?_⟩
        rw [decide_eq_false hn]
        exact q

theorem ok_checkLA {f C fN : Addr} {fd : FuncData} {tk : Tok} (F : Fun K "check_letters" "check_letters" sCheckL f fd) (T : PySem.XInvalidWord.InvalidWordTxt K mg C fN) (mi : mg "isinstance" = none) (mS : mg "str" = none) (ml : mg "len" = none) (me : mg "enumerate" = none) (mM : mg "MOST_LETTERS" = some (.int 400 tk)) :
    FnOk P w K mg base (L2.CX P w) 1 f fd ["word", "letters"] (spCLA C) := by
  refine F.okX scCheckL (fun vs H Q E h => ?_) (fun cdv A outer s H vs Q E hr h => ?_)
  · obtain ⟨x, rfl, _⟩ := h
    rfl
  · obtain ⟨x, rfl, hl, kQ, kE⟩ := h
    have nd := scCheckL.nd
    refine ⟨_, pss_cons (ps_if (PW.pt (pw_or (pt_not (pt_val (pe_callB call_isi (by rfl) mi (by decide +kernel) (pa_cons (pv 0) (pa_cons (pe_bltn (v := .ty "str") (by rfl) mS (by decide +kernel) rfl) pa_nil)))))
          (pw_or1 (pt_cmpR op_gt (pe_callB call_len_str (by rfl) ml PySem.boot_len (pa_cons (pv 0) pa_nil)) (pe_glob (v := .int 400) (by rfl) mM ⟨_, rfl⟩) (nomark _)))))
        (pss_one (ps_raiseInvalidWord rfl T hr (takes_of rfl rfl rfl rfl) (pa_cons pe_non pa_nil))) pss_nil)
      (pss_one (ps_for (passes_of rfl) rfl (pi_enumS (by rfl) me (pa_cons (pv 0) pa_nil)) (pg_tup (by rfl) (pgs_cons (pg_name (i := 2) nd rfl (.inl rfl)) (pgs_cons (pg_name (i := 3) nd rfl (.inl rfl)) pgs_nil)))
        (pss_one (ps_if (pt_cmpR op_notIn_sign (pv 3) (pv 1) (by rfl)) (pss_one (ps_raiseInvalidWord rfl T hr (takes_of rfl rfl rfl rfl) (pa_cons (pv 2) pa_nil))) pss_nil)))), ?_⟩
    refine ⟨_, rfl, _, _, _, _, true, rfl, .ty "str", .base (.str _), kit_ty (by decide +kernel), true, rfl, ?_⟩
    refine ⟨_, rfl, _, rfl, by rw [sizeLine_eq]; omega, _, _, rfl, rfl, _, rfl, ite2 (fun e => ?_) (fun e => ?_)⟩
    · have e' : ((x.length : Nat) : Int) > 400 := of_decide_eq_true e
      have z : wB x = false := by
        unfold wB
        rw [decide_eq_false (show ¬ x.length ≤ 400 by omega)]
        rfl
      exact ⟨_, rfl, fun d hd => kE z _ d _ (same_new hd) hd upd_same⟩
    · have e' : ¬ ((x.length : Nat) : Int) > 400 := fun y => e (decide_eq_true y)
      refine ⟨_, rfl, _, rfl, for_enumS (fun i σ H' => Same H H' ∧ (∀ j c, j < i → x.cps[j]? = some c → (c == 82 || c == 67) = true) ∧ ∃ y1 y2, σ = [some (.str x), some (.str "RC"), y1, y2]) ?_ ?_ ?_⟩
      · exact ⟨Same.refl _, fun j c h => absurd h (Nat.not_lt_zero _), none, none, rfl⟩
      · rintro i c σ H' Tp hi ⟨sm, al, y1, y2, rfl⟩ nT
        have sT := same_new (o := .tup [.int (i : Nat), .str ⟨#[c]⟩]) nT
        have s2 := sm.trans sT
        refine ⟨Tp, _, rfl, SqT.of upd_same, rfl, _, _, rfl, _, _, rfl, rfl, ?_⟩
        refine ⟨_, rfl, _, rfl, _, _, rfl, rfl, _, rfl, ite2 (fun e2 => ?_) (fun e2 => ?_)⟩
        · rw [mem_RC] at e2
          have z : wB x = false := by
            unfold wB
            have : ((tl x).all fun c => c == 82 || c == 67) = false := by
              rw [List.all_eq_false]
              have hm : c ∈ tl x := by
                have := Array.mem_of_getElem? hi
                exact Array.mem_toList_iff.mpr this
              refine ⟨c, hm, ?_⟩
              rw [Bool.not_eq_true']at e2
              rw [e2]
              decide
            rw [this, Bool.and_false]
          exact ⟨_, rfl, _, rfl, fun d hd => kE z _ d _ (s2.trans (same_new hd)) (s2.free hd) upd_same⟩
        · rw [mem_RC] at e2
          refine ⟨s2, fun j c' hj e3 => ?_, _, _, rfl⟩
          by_cases hji : j < i
          · exact al j c' hji e3
          · have : j = i := by omega
            subst this
            rw [hi] at e3
            cases e3
            cases hz : (c == 82 || c == 67) with
            | true => rfl
            | false =>
              rw [hz] at e2
              exact absurd rfl e2
      · rintro σ H' ⟨sm, al, _⟩
        refine kQ ?_ H' sm
        unfold wB
        rw [decide_eq_true (show x.length ≤ 400 by omega), Bool.true_and, List.all_eq_true]
        intro c hc
        have hc' : c ∈ x.cps := Array.mem_toList_iff.mp hc
        obtain ⟨j, hj, ej⟩ := Array.getElem_of_mem hc'
        exact al j c hj (by rw [Array.getElem?_eq_getElem hj, ej])
theorem ok_checkWA {f fL C : Addr} {fd fdL : FuncData} (F : Fun K "check_word" "check_word" sCheckW f fd) (GL : FnOk P w K mg base (L2.CX P w) 1 fL fdL ["word", "letters"] (spCLA C)) (bL : Binds K fdL ["word", "letters"] []) (gL : mg "check_letters" = some (.ref fL)) (kL : PySem.W.keepIn K (.ref fL) = true) :
    FnOk P w K mg base (L2.CX P w) 2 f fd ["word"] (spCWA C) := by
  refine F.okX scCheckW (fun vs H Q E h => ?_) (fun cdv A outer s H vs Q E hr h => ?_)
  · obtain ⟨x, rfl, _⟩ := h
    rfl
  · obtain ⟨x, rfl, hl, kQ, kE⟩ := h
    refine ⟨_, pss_one (ps_expr (pe_callS GL hr (by rfl) gL kL bL (fun σ => passAt (takes_of rfl rfl rfl rfl) σ) (pa_cons (pv 0) (pa_cons pe_str pa_nil)))), ?_⟩
    exact ⟨_, rfl, x, rfl, hl, kQ, kE⟩
theorem ok_isWordA {f fC C fN : Addr} {fd fdC : FuncData} (F : Fun K "is_word" "is_word" sIsWord f fd) (GC : FnOk P w K mg base (L2.CX P w) 2 fC fdC ["word"] (spCWA C)) (bC : Binds K fdC ["word"] []) (gC : mg "check_word" = some (.ref fC)) (kC : PySem.W.keepIn K (.ref fC) = true)
    (T : PySem.XInvalidWord.InvalidWordTxt K mg C fN) : FnOk P w K mg base CX0 3 f fd ["value"] spIWA := by
  refine F.ok scIsWord (fun vs H Q E h => ?_) (fun cdv A outer s H vs Q E hr h => ?_)
  · obtain ⟨x, rfl, _⟩ := h
    rfl
  · obtain ⟨x, rfl, hl, q⟩ := h
    refine ⟨_, pss_cons (ps_try_only (tb := fun W => tDrop (tCallS (spCWA C) (WE W) (tCons (tVar 0) tNil))) (ts := fun _ _ _ => tRet (tC (.bl false))) (Wout := fun _ _ _ _ => False) rfl rfl ⟨rfl, by decide, Or.inl T.gC⟩ takes0
        (fun W pn xe tk _ => pss_one (ps_expr (by exact (pe_callS GC hr rfl gC kC bC (fun σ => passAt tk σ) (by exact (pa_cons (pv 0) pa_nil))))))
        (fun a oe cls d pn _ _ => pss_one (ps_ret pe_bl)))
      (pss_one (ps_ret pe_bl)), ?_⟩
    refine ⟨_, rfl, x, rfl, hl, fun g H' s1 => ?_, fun g H' d e s1 nd hd => ?_⟩
    · have := q H' s1
      rw [g] at this
      exact this
    · refine ⟨true, T.te, fun _ a ha => ?_, fun z => Bool.noConfusion z⟩
      have := q H' s1
      rw [g] at this
      exact this
theorem ok_isRepA {f fB : Addr} {fd fdB : FuncData} {tk : Tok} (F : Fun K "is_repeat" "is_repeat" sIsRep f fd) (GB : FnOk P w K mg base CX0 2 fB fdB ["value", "least", "most"] (spBetweenG K)) (bB : Binds K fdB ["value", "least", "most"] []) (gB : mg "is_between" = some (.ref fB)) (kB : PySem.W.keepIn K (.ref fB) = true)
    (mi : mg "isinstance" = none) (mT : mg "tuple" = none) (ml : mg "len" = none) (mM : mg "MOST_TIMES" = some (.int 1000000000000000000000000000000 tk)) : FnOk P w K mg base CX0 3 f fd ["value"] (spIRA K) := by
  refine F.ok scIsRep (fun vs H Q E h => ?_) (fun cdv A outer s H vs Q E hr h => ?_)
  · obtain ⟨v, x, rfl, _⟩ := h
    rfl
  · obtain ⟨v, x, rfl, hx, q⟩ := h
    refine ⟨_, pss_cons (ps_if (PW.pt (pw_or (pt_not (pt_val (pe_callB call_isi (by rfl) mi (by decide +kernel) (pa_cons (pv 0) (pa_cons (pe_bltn (v := .ty "tuple") (by rfl) mT (by decide +kernel) rfl) pa_nil)))))
          (pw_or (pt_cmpR op_ne (pe_callB call_len_seq (by rfl) ml PySem.boot_len (pa_cons (pv 0) pa_nil)) pe_int (nomark _))
          (pw_or1 (pt_cmpR (op_neA hr.units0) (pe_ix ix_tup (pv 0) pe_int (fun _ _ => rfl)) pe_str (nomark _)))))) (pss_one (ps_ret pe_bl)) pss_nil)
      (pss_one (ps_ret (pe_and (pe_call GB hr (by rfl) gB kB bB .nil pass0 (pa_cons (pe_ix ix_tup (pv 0) pe_int (fun _ _ => rfl)) (pa_cons pe_int (pa_cons (pe_glob (v := .int 1000000000000000000000000000000) (by rfl) mM ⟨_, rfl⟩) pa_nil))))
        (pe_one (pe_callB call_isi (by rfl) mi (by decide +kernel) (pa_cons (pe_ix ix_tup (pv 0) pe_int (fun _ _ => rfl)) (pa_cons (pe_bltn (v := .ty "tuple") (by rfl) mT (by decide +kernel) rfl) pa_nil))))))), ?_⟩
    by_cases hk : x.kind = "tuple"
    rotate_left
    · refine ⟨_, rfl, v, _, _, _, _, rfl, .ty "tuple", hx.oth.ty, kit_tuple hx.oth, _, rfl, ?_⟩
      rw [decide_eq_false hk]
      have e : isRepA x = false := by
        cases x with
        | t xs => exact absurd rfl hk
        | _ => rfl
      rw [e] at q
      exact q
    cases hx with
    | @t a xs ys hz h1 h2 =>
      refine ⟨_, rfl, _, _, _, _, true, rfl, .ty "tuple", tyx_tup h1, kit_ty (by decide +kernel), true, rfl, ?_⟩
      refine ⟨_, rfl, a, _, rfl, .inr h1, rfl, ?_⟩
      by_cases h3 : ys.length = 3
      rotate_left
      · refine ⟨true, ?_, ?_⟩
        · have : ¬ V.int (xs.length : Nat) = V.int 3 := fun z => h3 (by
            have := V.int.inj z
            rw [h2.len] at this
            omega)
          show V.bl (!decide (V.int (xs.length : Nat) = V.int 3)) = _
          rw [decide_eq_false this]
          rfl
        · have e : isRepA (.t ys) = false := by
            unfold isRepA
            split
            · rename_i z
              injection z with z
              subst z
              exact absurd rfl h3
            · rfl
          rw [e] at q
          exact q
      · cases h2 with
        | nil => exact absurd h3 (by decide)
        | @cons v0 y0 xs1 ys1 a0 h2 =>
          cases h2 with
          | nil => exact absurd h3 (show ¬ (1 : Nat) = 3 by decide)
          | @cons v1 y1 xs2 ys2 a1 h2 =>
            cases h2 with
            | nil => exact absurd h3 (show ¬ (2 : Nat) = 3 by decide)
            | @cons v2 y2 xs3 ys3 a2 h2 =>
              cases h2 with
              | cons b0 b1 =>
                rw [List.length_cons, List.length_cons, List.length_cons, List.length_cons] at h3
                omega
              | nil =>
                refine ⟨false, rfl, ?_⟩
                refine ⟨_, rfl, a, _, 0, v0, rfl, rfl, h1, rfl, _, _, rfl, a0.oth, ?_⟩
                rw [anyV_ne a0]
                by_cases hr0 : y0 = .s "repeat"
                · subst hr0
                  refine ⟨false, ?_, ?_⟩
                  · show V.bl (!decide (("repeat" : Str) = "repeat")) = _
                    rw [decide_eq_true rfl]
                    rfl
                  have bw : ∃ b, BwR K H v1 1 1000000000000000000000000000000 b ∧ b = tmA y1 := by
                    cases a1 with
                    | i n =>
                      have t30 := ten30
                      by_cases hn : 1 ≤ n ∧ n ≤ 10 ^ 30
                      · exact ⟨true, ⟨n, rfl, hn.1, by omega⟩, (decide_eq_true hn).symm⟩
                      · exact ⟨false, .inl ⟨n, rfl, fun z => hn ⟨z.1, by omega⟩⟩, (decide_eq_false hn).symm⟩
                    | s h => exact ⟨false, .inr ⟨_, .str _, by decide⟩, rfl⟩
                    | non => exact ⟨false, .inr ⟨_, .non, by decide⟩, rfl⟩
                    | bl b => exact ⟨false, .inr ⟨_, .bl b, by decide⟩, rfl⟩
                    | l e n => exact ⟨false, .inr ⟨_, .lst e, by decide⟩, rfl⟩
                    | d e => exact ⟨false, .inr ⟨_, .dct e, by decide⟩, rfl⟩
                    | t ez e1 e2 => exact ⟨false, .inr ⟨_, .tup e1, by decide⟩, rfl⟩
                  obtain ⟨b, hb, eb⟩ := bw
                  refine ⟨_, rfl, a, _, 1, v1, rfl, rfl, h1, rfl, v1, 1, _, b, rfl, hb, b, rfl, ?_⟩
                  cases b with
                  | false =>
                    have e : isRepA (.t [.s "repeat", y1, y2]) = false := by
                      unfold isRepA
                      split
                      · rename_i n ys z
                        injection z with z
                        injection z with z1 z
                        injection z with z2 z
                        subst z2
                        have eb' : false = decide (1 ≤ n ∧ n ≤ 10 ^ 30) := eb
                        rw [← eb']
                        exact Bool.and_false _
                      · rfl
                    rw [e] at q
                    exact q
                  | true =>
                    refine ⟨_, rfl, a, _, 2, v2, rfl, rfl, h1, rfl, v2, _, _, _, _, rfl, .ty "tuple", a2.oth.ty, kit_tuple a2.oth, ?_⟩
                    have e : isRepA (.t [.s "repeat", y1, y2]) = decide (y2.kind = "tuple") := by
                      cases y1 with
                      | i n =>
                        cases y2 with
                        | t zs =>
                          show (decide (("repeat" : Str) = "repeat") && decide (1 ≤ n ∧ n ≤ 10 ^ 30)) = _
                          have eb' : true = decide (1 ≤ n ∧ n ≤ 10 ^ 30) := eb
                          rw [← eb', decide_eq_true rfl]
                          rfl
                        | s x => rfl
                        | i x => rfl
                        | o x =>
                          have : x ≠ "tuple" := by
                            cases a2 <;> decide
                          show false = decide (x = "tuple")
                          rw [decide_eq_false this]
                      | s x => cases eb
                      | o x => cases eb
                      | t x => cases eb
                    rw [e] at q
                    exact q
                · have e0 : isS "repeat" y0 = false := by
                    cases y0 with
                    | s r => exact decide_eq_false (fun z => hr0 (by rw [z]))
                    | _ => rfl
                  rw [e0]
                  refine ⟨true, rfl, ?_⟩
                  have e : isRepA (.t [y0, y1, y2]) = false := by
                    unfold isRepA
                    split
                    · rename_i r n ys z
                      injection z with z
                      injection z with z1 z
                      subst z1
                      have : decide (r = "repeat") = false := e0
                      rw [this]
                      rfl
                    · rfl
                  rw [e] at q
                  exact q
    | s _ => exact absurd hk (show ¬ ("str" : String) = "tuple" by decide)
    | i _ => exact absurd hk (show ¬ ("int" : String) = "tuple" by decide)
    | non => exact absurd hk (show ¬ ("NoneType" : String) = "tuple" by decide)
    | bl _ => exact absurd hk (show ¬ ("bool" : String) = "tuple" by decide)
    | l _ _ => exact absurd hk (show ¬ ("list" : String) = "tuple" by decide)
    | d _ => exact absurd hk (show ¬ ("dict" : String) = "tuple" by decide)
end
end KS
namespace KS
open PySem PySem.Spec PyProof.Rows L2 RZ TL
theorem str_ne (x : Str) : V.bl (!decide (V.str x = V.str "")) = V.bl (decide (0 < x.length)) := by
  by_cases h : x = ""
  · subst h
    rfl
  · have h1 : 0 < x.length := by
      rcases Nat.eq_zero_or_pos x.length with z | z
      · refine absurd (ext_tl ?_) h
        rw [len_tl] at z
        rw [List.eq_nil_of_length_eq_zero z]
        decide +kernel
      · exact z
    rw [decide_eq_false (fun e => h (V.str.inj e)), decide_eq_true h1]
    rfl
theorem zero_of {l : List Nat} {i : Nat} (h : l[i]? = some 0) : 0 ∈ l := List.mem_of_getElem? h
theorem zero_not {l : List Nat} (h : ∀ j c, j < l.length → l[j]? = some c → c ≠ 0) : 0 ∉ l := fun z => by
  obtain ⟨j, hj, e⟩ := List.getElem_of_mem z
  exact h j 0 hj (by rw [List.getElem?_eq_getElem hj, e]) rfl
abbrev sIsProg : Stmt := topS 19
theorem scIsProg : FnScope ["value"] ["value"] (defScope sIsProg) := ⟨rfl, rfl, rfl, by decide +kernel, rfl, by decide +kernel, by decide +kernel⟩
section
variable {P : Program} {w : World} {K : PySem.W.Frag} {mg : Str → Option Value} {base : Heap}
theorem ok_countSA {f fW fR : Addr} {fd fdW fdR : FuncData} {tk : Tok} (F : Fun K "count_steps" "count_steps" sCS f fd) (bS : Binds K fd ["step", "depth", "room"] []) (gS : mg "count_steps" = some (.ref f)) (kS : PySem.W.keepIn K (.ref f) = true)
    (GW : FnOk P w K mg base CX0 3 fW fdW ["value"] spIWA) (bW : Binds K fdW ["value"] []) (gW : mg "is_word" = some (.ref fW)) (kW : PySem.W.keepIn K (.ref fW) = true)
    (GR : FnOk P w K mg base CX0 3 fR fdR ["value"] (spIRA K)) (bR : Binds K fdR ["value"] []) (gR : mg "is_repeat" = some (.ref fR)) (kR : PySem.W.keepIn K (.ref fR) = true)
    (mi : mg "isinstance" = none) (mS : mg "str" = none) (mM : mg "MOST_NESTED" = some (.int 5 tk)) : ∀ m, FnOk P w K mg base CX0 (m + 5) f fd ["step", "depth", "room"] (spCSA K m)
  | 0 => by
    refine F.ok scCS (fun vs H Q E h => ?_) (fun cdv A outer s H vs Q E hr h => ?_)
    · obtain ⟨v, x, room, rfl, _⟩ := h
      rfl
    · obtain ⟨v, x, room, rfl, hx, h60, q⟩ := h
      have hr3 : Room 3 _ := hr.mono (by omega)
      refine ⟨_, pss_cons (ps_if (pt_cmpR op_lt (pv 2) pe_int (nomark _)) (pss_one (ps_ret pe_non)) pss_nil)
        (pss_cons (ps_if (pt_val (pe_callB call_isi (by rfl) mi (by decide +kernel) (pa_cons (pv 0) (pa_cons (pe_bltn (v := .ty "str") (by rfl) mS (by decide +kernel) rfl) pa_nil))))
          (pss_one (ps_ret (pe_ifExp (PW.pt (pw_and (pt_cmpR op_ne (pv 0) pe_str (nomark _)) (pw_and1 (pt_val (pe_call GW hr3 (by rfl) gW kW bW .nil pass0 (pa_cons (pv 0) pa_nil)))))) pe_int pe_non))) pss_nil)
        (pss_cons (ps_if (PW.pt (pw_or (pt_cmpR op_eq (pv 1) (pe_glob (v := .int 5) (by rfl) mM ⟨_, rfl⟩) (nomark _)) (pw_or1 (pt_not (pt_val (pe_call GR hr3 (by rfl) gR kR bR .nil pass0 (pa_cons (pv 0) pa_nil))))))) (pss_one (ps_ret pe_non)) pss_nil)
        (pss_cons ps_never (pss_cons ps_never (pss_one ps_never))))), ?_⟩
      refine ⟨_, rfl, _, _, rfl, rfl, _, rfl, ite2 (fun e => ?_) (fun e => ?_)⟩
      · have e' : room < 1 := of_decide_eq_true e
        have z := q H (Same.refl _)
        rw [csV_no (by omega)] at z
        exact z
      have e' : ¬ room < 1 := fun y => e (decide_eq_true y)
      refine ⟨_, rfl, v, _, _, _, _, rfl, .ty "str", hx.oth.ty, kit_str hx.oth, _, rfl, ite2 (fun e2 => ?_) (fun e2 => ?_)⟩
      · have e2 := of_decide_eq_true e2
        cases hx with
        | @s y hl =>
          refine ⟨_, rfl, rfl, _, str_ne y, ite2 (fun e3 => ?_) (fun e3 => ?_)⟩
          · have e3 := of_decide_eq_true e3
            refine ⟨_, rfl, y, rfl, hl, fun H' s' => ⟨_, rfl, ite2 (fun e4 => ?_) (fun e4 => ?_)⟩⟩
            · have z := q H' s'
              have ew : wOk y = true := by
                unfold wOk
                rw [decide_eq_true e3, e4]
                rfl
              have e1 : cntA 0 (.s y) = 1 := by rw [cntA_s, if_pos ew]
              rw [csV_yes (by rw [e1]; decide) (by rw [e1]; omega), e1] at z
              exact z
            · have z := q H' s'
              have ew : ¬ wOk y = true := fun y2 => e4 (by
                unfold wOk at y2
                rw [Bool.and_eq_true] at y2
                exact y2.2)
              rw [csV_no (.inl (by rw [cntA_s, if_neg ew]))] at z
              exact z
          · have z := q H (Same.refl _)
            have ew : ¬ wOk y = true := fun y2 => e3 (by
              unfold wOk at y2
              rw [Bool.and_eq_true] at y2
              exact y2.1)
            rw [csV_no (.inl (by rw [cntA_s, if_neg ew]))] at z
            exact z
        | i _ => exact absurd e2 (show ¬ ("int" : String) = "str" by decide)
        | non => exact absurd e2 (show ¬ ("NoneType" : String) = "str" by decide)
        | bl _ => exact absurd e2 (show ¬ ("bool" : String) = "str" by decide)
        | l _ _ => exact absurd e2 (show ¬ ("list" : String) = "str" by decide)
        | d _ => exact absurd e2 (show ¬ ("dict" : String) = "str" by decide)
        | t _ _ _ => exact absurd e2 (show ¬ ("tuple" : String) = "str" by decide)
      · have e2 : ¬ x.kind = "str" := fun y => e2 (decide_eq_true y)
        refine ⟨_, rfl, rfl, true, rfl, ?_⟩
        have z := q H (Same.refl _)
        rw [csV_no (.inl (cntA_0 e2))] at z
        exact z
  | m + 1 => by
    have GS := ok_countSA F bS gS kS GW bW gW kW GR bR gR kR mi mS mM m
    refine F.ok scCS (fun vs H Q E h => ?_) (fun cdv A outer s H vs Q E hr h => ?_)
    · obtain ⟨v, x, room, rfl, _⟩ := h
      rfl
    · obtain ⟨v, x, room, rfl, hx, h60, q⟩ := h
      have nd := scCS.nd
      have hr3 : Room 3 _ := hr.mono (by omega)
      refine ⟨_, pss_cons (ps_if (pt_cmpR op_lt (pv 2) pe_int (nomark _)) (pss_one (ps_ret pe_non)) pss_nil)
        (pss_cons (ps_if (pt_val (pe_callB call_isi (by rfl) mi (by decide +kernel) (pa_cons (pv 0) (pa_cons (pe_bltn (v := .ty "str") (by rfl) mS (by decide +kernel) rfl) pa_nil))))
          (pss_one (ps_ret (pe_ifExp (PW.pt (pw_and (pt_cmpR op_ne (pv 0) pe_str (nomark _)) (pw_and1 (pt_val (pe_call GW hr3 (by rfl) gW kW bW .nil pass0 (pa_cons (pv 0) pa_nil)))))) pe_int pe_non))) pss_nil)
        (pss_cons (ps_if (PW.pt (pw_or (pt_cmpR op_eq (pv 1) (pe_glob (v := .int 5) (by rfl) mM ⟨_, rfl⟩) (nomark _)) (pw_or1 (pt_not (pt_val (pe_call GR hr3 (by rfl) gR kR bR .nil pass0 (pa_cons (pv 0) pa_nil))))))) (pss_one (ps_ret pe_non)) pss_nil)
        (pss_cons (ps_set (i := 3) nd rfl (.inl rfl) pe_int)
        (pss_cons (ps_for PassesOwn.never rfl (pi_tup (pe_ix ix_tup (pv 0) pe_int (fun _ _ => rfl))) (pg_name (i := 4) nd rfl (.inl rfl))
          (pss_cons (ps_set (i := 5) nd rfl (.inl rfl) (pe_call GS hr (by rfl) gS kS bS .nil pass0 (pa_cons (pv 4) (pa_cons (pe_op op_add (pv 1) pe_int) (pa_cons (pe_op op_sub (pv 2) (pv 3)) pa_nil)))))
          (pss_cons (ps_if (pt_cmpR op_isN (pv 5) pe_non (nomark _)) (pss_one (ps_ret pe_non)) pss_nil)
          (pss_one (ps_aug (i := 3) nd rfl (.inl rfl) (pv 5) iop_add)))))
        (pss_one (ps_ret (pv 3))))))), ?_⟩
      refine ⟨_, rfl, _, _, rfl, rfl, _, rfl, ite2 (fun e => ?_) (fun e => ?_)⟩
      · have e' : room < 1 := of_decide_eq_true e
        have z := q H (Same.refl _)
        rw [csV_no (by omega)] at z
        exact z
      have e' : ¬ room < 1 := fun y => e (decide_eq_true y)
      refine ⟨_, rfl, v, _, _, _, _, rfl, .ty "str", hx.oth.ty, kit_str hx.oth, _, rfl, ite2 (fun e2 => ?_) (fun e2 => ?_)⟩
      · have e2 := of_decide_eq_true e2
        cases hx with
        | @s y hl =>
          refine ⟨_, rfl, rfl, _, str_ne y, ite2 (fun e3 => ?_) (fun e3 => ?_)⟩
          · have e3 := of_decide_eq_true e3
            refine ⟨_, rfl, y, rfl, hl, fun H' s' => ⟨_, rfl, ite2 (fun e4 => ?_) (fun e4 => ?_)⟩⟩
            · have z := q H' s'
              have ew : wOk y = true := by
                unfold wOk
                rw [decide_eq_true e3, e4]
                rfl
              have e1 : cntA (m + 1) (.s y) = 1 := by rw [cntA_s, if_pos ew]
              rw [csV_yes (by rw [e1]; decide) (by rw [e1]; omega), e1] at z
              exact z
            · have z := q H' s'
              have ew : ¬ wOk y = true := fun y2 => e4 (by
                unfold wOk at y2
                rw [Bool.and_eq_true] at y2
                exact y2.2)
              rw [csV_no (.inl (by rw [cntA_s, if_neg ew]))] at z
              exact z
          · have z := q H (Same.refl _)
            have ew : ¬ wOk y = true := fun y2 => e3 (by
              unfold wOk at y2
              rw [Bool.and_eq_true] at y2
              exact y2.1)
            rw [csV_no (.inl (by rw [cntA_s, if_neg ew]))] at z
            exact z
        | i _ => exact absurd e2 (show ¬ ("int" : String) = "str" by decide)
        | non => exact absurd e2 (show ¬ ("NoneType" : String) = "str" by decide)
        | bl _ => exact absurd e2 (show ¬ ("bool" : String) = "str" by decide)
        | l _ _ => exact absurd e2 (show ¬ ("list" : String) = "str" by decide)
        | d _ => exact absurd e2 (show ¬ ("dict" : String) = "str" by decide)
        | t _ _ _ => exact absurd e2 (show ¬ ("tuple" : String) = "str" by decide)
      have e2 : ¬ x.kind = "str" := fun y => e2 (decide_eq_true y)
      refine ⟨_, rfl, rfl, false, ?_, ?_⟩
      · exact congrArg V.bl (decide_eq_false (fun z => by have := V.int.inj z; omega))
      refine ⟨_, rfl, v, x, rfl, hx, _, rfl, ?_⟩
      cases hrp : isRepA x with
      | false =>
        have z := q H (Same.refl _)
        rw [csV_no (.inl (cntA_no hrp e2))] at z
        exact z
      | true =>
        obtain ⟨n, ys, rfl, n1, n2⟩ := isRepA_iff hrp
        cases hx with
        | @t a xs _ hz h1 h2 =>
          cases h2 with
          | @cons v0 _ xs1 _ a0 h2 =>
            cases h2 with
            | @cons v1 _ xs2 _ a1 h2 =>
              cases h2 with
              | @cons v2 _ xs3 _ a2 h2 =>
                cases h2 with
                | nil =>
                  cases a2 with
                  | @t b zs _ gz g1 g2 =>
                    have cr := cntA_r m (n := n) (ys := ys) n1 n2
                    refine ⟨_, rfl, a, _, 2, .ref b, rfl, rfl, h1, rfl, b, rfl, ⟨_, g1⟩, ?_⟩
                    have sl := g2.len
                    refine for_it (walk_tup (K := K) (a := b) (xs := zs)) (fun i σ G => ∃ y4 y5 : Option V, σ = [some (.ref a), some (.int (5 - ((m + 1 : Nat) : Int))), some (.int room), some (.int ((1 + sumTo (ys.map (cntA m)) i : Nat) : Int)), y4, y5] ∧ Same H G ∧ (∀ j c, j < i → (ys.map (cntA m))[j]? = some c → c ≠ 0) ∧ ((1 + sumTo (ys.map (cntA m)) i : Nat) : Int) ≤ room) ?_ ?_ ?_ ?_
                    · refine ⟨none, none, rfl, Same.refl _, fun j c hj => absurd hj (Nat.not_lt_zero _), ?_⟩
                      show ((1 + 0 : Nat) : Int) ≤ room
                      omega
                    · rintro i σ G _ ⟨_, _, _, sm, _⟩
                      exact same_seqT sm g1
                    · rintro i x σ G' G hi ⟨y4, y5, rfl, sm, al, cl⟩ ⟨rfl, hx⟩
                      have hx : zs[i]? = some x := hx
                      obtain ⟨w1, ew, aw⟩ := g2.get hx
                      have ec : (ys.map (cntA m))[i]? = some (cntA m w1) := by rw [List.getElem?_map, ew]; rfl
                      have st := sumTo_succ ec
                      have le := sumTo_le (ys.map (cntA m)) (i + 1)
                      refine ⟨_, rfl, _, rfl, _, _, rfl, rfl, _, rfl, _, rfl, _, _, rfl, rfl, x, w1, room - ((1 + sumTo (ys.map (cntA m)) i : Nat) : Int), ?_, aw.same sm, ?_, fun G1 s2 => ?_⟩
                      · have : (5 - ((m + 1 : Nat) : Int)) + 1 = 5 - ((m : Nat) : Int) := by omega
                        exact congrArg (fun z => [x, V.int z, V.int (room - ((1 + sumTo (ys.map (cntA m)) i : Nat) : Int))]) this
                      · show room - _ ≤ 60
                        omega
                      by_cases good : cntA m w1 ≠ 0 ∧ ((cntA m w1 : Nat) : Int) ≤ room - ((1 + sumTo (ys.map (cntA m)) i : Nat) : Int)
                      · rw [csV_yes good.1 good.2]
                        refine ⟨_, rfl, rfl, false, rfl, ?_⟩
                        refine ⟨_, rfl, _, rfl, _, _, rfl, rfl, ?_⟩
                        refine ⟨some x, some (.int (cntA m w1 : Nat)), ?_, sm.trans s2, fun j c hj ej => ?_, ?_⟩
                        · rw [st]
                          have e9 : ((1 + sumTo (ys.map (cntA m)) i : Nat) : Int) + ((cntA m w1 : Nat) : Int) = ((1 + (sumTo (ys.map (cntA m)) i + cntA m w1) : Nat) : Int) := by omega
                          exact congrArg (fun z => [some (V.ref a), some (V.int (5 - ((m + 1 : Nat) : Int))), some (V.int room), some (V.int z), some x, some (V.int (cntA m w1 : Nat))]) e9
                        · by_cases hji : j < i
                          · exact al j c hji ej
                          · have : j = i := by omega
                            subst this
                            rw [ec] at ej
                            cases ej
                            exact good.1
                        · rw [st]
                          have := good.2
                          omega
                      · have bad : cntA m w1 = 0 ∨ room - ((1 + sumTo (ys.map (cntA m)) i : Nat) : Int) < ((cntA m w1 : Nat) : Int) := by
                          by_cases h0 : cntA m w1 = 0
                          · exact .inl h0
                          · right
                            by_cases h1 : ((cntA m w1 : Nat) : Int) ≤ room - ((1 + sumTo (ys.map (cntA m)) i : Nat) : Int)
                            · exact absurd ⟨h0, h1⟩ good
                            · omega
                        rw [csV_no bad]
                        refine ⟨_, rfl, rfl, true, rfl, ?_⟩
                        have z := q G1 (sm.trans s2)
                        rw [csV_no ?_] at z
                        · exact z
                        · rw [cr]
                          by_cases h0 : 0 ∈ ys.map (cntA m)
                          · rw [if_pos h0]
                            exact .inl rfl
                          · rw [if_neg h0]
                            right
                            rcases bad with bad | bad
                            · rw [bad] at ec
                              exact absurd (zero_of ec) h0
                            · omega
                    · rintro σ G ⟨y4, y5, rfl, sm, al, cl⟩
                      have el : zs.length = (ys.map (cntA m)).length := by rw [List.length_map]; exact sl
                      rw [el] at al cl ⊢
                      rw [sumTo_all] at cl ⊢
                      have z0 := zero_not al
                      have z := q G sm
                      rw [csV_yes (by rw [cr, if_neg z0]; omega) (by rw [cr, if_neg z0]; exact cl), cr, if_neg z0] at z
                      exact ⟨_, rfl, z⟩
theorem ok_checkPA {f fS C fN : Addr} {fd fdS : FuncData} {tk : Tok} (F : Fun K "check_program" "check_program" sCP f fd)
    (GS : FnOk P w K mg base CX0 9 fS fdS ["step", "depth", "room"] (spCSA K 4)) (bS : Binds K fdS ["step", "depth", "room"] []) (gS : mg "count_steps" = some (.ref fS)) (kS : PySem.W.keepIn K (.ref fS) = true)
    (T : PySem.XInvalidProgram.InvalidProgramTxt K mg C fN) (mi : mg "isinstance" = none) (mT : mg "tuple" = none) (me : mg "enumerate" = none) (mM : mg "MOST_STEPS" = some (.int 60 tk)) : FnOk P w K mg base (L2.CX P w) 10 f fd ["program"] (spCPA K C) := by
  refine F.okX scCP (fun vs H Q E h => ?_) (fun cdv A outer s H vs Q E hr h => ?_)
  · obtain ⟨v, x, rfl, _⟩ := h
    rfl
  · obtain ⟨v, x, rfl, hx, kQ, kE⟩ := h
    have nd := scCP.nd
    refine ⟨_, pss_cons (ps_if (pt_not (pt_val (pe_callB call_isi (by rfl) mi (by decide +kernel) (pa_cons (pv 0) (pa_cons (pe_bltn (v := .ty "tuple") (by rfl) mT (by decide +kernel) rfl) pa_nil))))) (pss_one (ps_raiseInvalidProgram rfl T hr (takes_of rfl rfl rfl rfl) (pa_cons pe_non pa_nil))) pss_nil)
      (pss_cons (ps_set (i := 1) nd rfl (.inl rfl) (pe_glob (v := .int 60) (by rfl) mM ⟨_, rfl⟩))
      (pss_one (ps_for (passes_of rfl) rfl (pi_enumT (by rfl) me (pa_cons (pv 0) pa_nil)) (pg_tup (by rfl) (pgs_cons (pg_name (i := 2) nd rfl (.inl rfl)) (pgs_cons (pg_name (i := 3) nd rfl (.inl rfl)) pgs_nil)))
        (pss_cons (ps_set (i := 4) nd rfl (.inl rfl) (pe_call GS hr (by rfl) gS kS bS .nil pass0 (pa_cons (pv 3) (pa_cons pe_int (pa_cons (pv 1) pa_nil)))))
        (pss_cons (ps_if (pt_cmpR op_isN (pv 4) pe_non (nomark _)) (pss_one (ps_raiseInvalidProgram rfl T hr (takes_of rfl rfl rfl rfl) (pa_cons (pv 2) pa_nil))) pss_nil)
        (pss_one (ps_aug (i := 1) nd rfl (.inl rfl) (pv 4) iop_sub))))))), ?_⟩
    refine ⟨_, rfl, v, _, _, _, _, rfl, .ty "tuple", hx.oth.ty, kit_tuple hx.oth, _, rfl, ?_⟩
    by_cases hk : x.kind = "tuple"
    rotate_left
    · rw [decide_eq_false hk]
      have e : goodA x = false := by
        cases x with
        | t xs => exact absurd rfl hk
        | _ => rfl
      exact ⟨_, rfl, fun d hd => kE e _ d _ (same_new hd) hd upd_same⟩
    rw [decide_eq_true hk]
    cases hx with
    | s _ => exact absurd hk (show ¬ ("str" : String) = "tuple" by decide)
    | i _ => exact absurd hk (show ¬ ("int" : String) = "tuple" by decide)
    | non => exact absurd hk (show ¬ ("NoneType" : String) = "tuple" by decide)
    | bl _ => exact absurd hk (show ¬ ("bool" : String) = "tuple" by decide)
    | l _ _ => exact absurd hk (show ¬ ("list" : String) = "tuple" by decide)
    | d _ => exact absurd hk (show ¬ ("dict" : String) = "tuple" by decide)
    | @t t xs ys hz h1 h2 =>
      refine ⟨_, rfl, t, xs, rfl, h1, for_enumT (K := K) (a := t) (xs := xs) (fun i σ G => Same H G ∧ (∀ j c, j < i → (ys.map (cntA 4))[j]? = some c → c ≠ 0) ∧ sumTo (ys.map (cntA 4)) i ≤ 60 ∧ ∃ y2 y3 y4, σ = [some (.ref t), some (.int (60 - (sumTo (ys.map (cntA 4)) i : Nat))), y2, y3, y4]) ?_ ?_ ?_ ?_⟩
      · exact ⟨Same.refl _, fun j c hj => absurd hj (Nat.not_lt_zero _), Nat.zero_le _, none, none, none, rfl⟩
      · rintro i σ G _ ⟨sm, _⟩
        exact same_seqT sm h1
      · rintro i x σ G Tp hi ⟨sm, al, cl, y2, y3, y4, rfl⟩ nT
        obtain ⟨w1, ew, aw⟩ := h2.get hi
        have ec : (ys.map (cntA 4))[i]? = some (cntA 4 w1) := by rw [List.getElem?_map, ew]; rfl
        have st := sumTo_succ ec
        have le := sumTo_le (ys.map (cntA 4)) (i + 1)
        have sT := same_new (o := .tup [.int (i : Nat), x]) nT
        have s2 := sm.trans sT
        refine ⟨Tp, _, rfl, SqT.of upd_same, rfl, _, _, rfl, _, _, rfl, rfl, ?_⟩
        refine ⟨_, rfl, _, rfl, x, w1, _, rfl, aw.same s2, by omega, fun G1 s3 => ?_⟩
        have s4 := s2.trans s3
        by_cases good : cntA 4 w1 ≠ 0 ∧ ((cntA 4 w1 : Nat) : Int) ≤ 60 - (sumTo (ys.map (cntA 4)) i : Nat)
        · rw [csV_yes good.1 good.2]
          refine ⟨_, rfl, rfl, false, rfl, ?_⟩
          refine ⟨_, rfl, _, rfl, _, _, rfl, rfl, ?_⟩
          refine ⟨s4, fun j c hj ej => ?_, ?_, some (.int (i : Nat)), some x, some (.int (cntA 4 w1 : Nat)), ?_⟩
          · by_cases hji : j < i
            · exact al j c hji ej
            · have : j = i := by omega
              subst this
              rw [ec] at ej
              cases ej
              exact good.1
          · have := good.2
            omega
          · rw [st]
            have e9 : (60 - ((sumTo (ys.map (cntA 4)) i : Nat) : Int)) - ((cntA 4 w1 : Nat) : Int) = 60 - ((sumTo (ys.map (cntA 4)) i + cntA 4 w1 : Nat) : Int) := by omega
            exact congrArg (fun z => [some (V.ref t), some (V.int z), some (V.int (i : Nat)), some x, some (V.int (cntA 4 w1 : Nat))]) e9
        · have bad : cntA 4 w1 = 0 ∨ 60 - ((sumTo (ys.map (cntA 4)) i : Nat) : Int) < ((cntA 4 w1 : Nat) : Int) := by
            by_cases h0 : cntA 4 w1 = 0
            · exact .inl h0
            · right
              by_cases h1 : ((cntA 4 w1 : Nat) : Int) ≤ 60 - (sumTo (ys.map (cntA 4)) i : Nat)
              · exact absurd ⟨h0, h1⟩ good
              · omega
          rw [csV_no bad]
          have e : goodA (.t ys) = false := by
            show (!decide (0 ∈ ys.map (cntA 4)) && decide ((ys.map (cntA 4)).sum ≤ 60)) = false
            rcases bad with bad | bad
            · rw [bad] at ec
              rw [decide_eq_true (zero_of ec)]
              rfl
            · rw [decide_eq_false (show ¬ (ys.map (cntA 4)).sum ≤ 60 by omega), Bool.and_false]
          refine ⟨_, rfl, rfl, true, rfl, ?_⟩
          exact ⟨_, rfl, _, rfl, fun d hd => kE e _ d _ (s4.trans (same_new hd)) (s4.free hd) upd_same⟩
      · rintro σ G ⟨sm, al, cl, _⟩
        have el : xs.length = (ys.map (cntA 4)).length := by rw [List.length_map]; exact h2.len
        rw [el] at al cl
        rw [sumTo_all] at cl
        refine kQ ?_ G sm
        show (!decide (0 ∈ ys.map (cntA 4)) && decide ((ys.map (cntA 4)).sum ≤ 60)) = true
        rw [decide_eq_false (zero_not al), decide_eq_true cl]
        rfl
theorem ok_isProgA {f fC C fN : Addr} {fd fdC : FuncData} (F : Fun K "is_program" "is_program" sIsProg f fd) (GC : FnOk P w K mg base (L2.CX P w) 10 fC fdC ["program"] (spCPA K C)) (bC : Binds K fdC ["program"] []) (gC : mg "check_program" = some (.ref fC)) (kC : PySem.W.keepIn K (.ref fC) = true)
    (T : PySem.XInvalidProgram.InvalidProgramTxt K mg C fN) : FnOk P w K mg base CX0 11 f fd ["value"] (spIPA K) := by
  refine F.ok scIsProg (fun vs H Q E h => ?_) (fun cdv A outer s H vs Q E hr h => ?_)
  · obtain ⟨v, x, rfl, _⟩ := h
    rfl
  · obtain ⟨v, x, rfl, hx, q⟩ := h
    refine ⟨_, pss_cons (ps_try_only (tb := fun W => tDrop (tCallS (spCPA K C) (WE W) (tCons (tVar 0) tNil))) (ts := fun _ _ _ => tRet (tC (.bl false))) (Wout := fun _ _ _ _ => False) rfl rfl ⟨rfl, by decide, Or.inl T.gC⟩ takes0
        (fun W pn xe tk _ => pss_one (ps_expr (by exact (pe_callS GC hr rfl gC kC bC (fun σ => passAt tk σ) (by exact (pa_cons (pv 0) pa_nil))))))
        (fun a oe cls d pn _ _ => pss_one (ps_ret pe_bl)))
      (pss_one (ps_ret pe_bl)), ?_⟩
    refine ⟨_, rfl, v, x, rfl, hx, fun g H' s1 => ?_, fun g H' d e s1 nd hd => ?_⟩
    · have := q H' s1
      rw [g] at this
      exact this
    · refine ⟨true, T.te, fun _ a ha => ?_, fun z => Bool.noConfusion z⟩
      have := q H' s1
      rw [g] at this
      exact this
end
end KS
namespace KS
open PySem PySem.Spec PyProof.Rows L2 RZ TL
theorem rep_len {ys : List Anv} (h3 : ¬ ys.length = 3) : isRepA (.t ys) = false := by
  unfold isRepA
  split
  · rename_i z
    injection z with z
    subst z
    exact absurd rfl h3
  · rfl
theorem rep3 (y0 y1 y2 : Anv) (h : ∀ t, y2 = .o t → t ≠ "tuple") : isRepA (.t [y0, y1, y2]) = (isS "repeat" y0 && (tmA y1 && decide (y2.kind = "tuple"))) := by
  cases y0 with
  | s r =>
    cases y1 with
    | i n =>
      cases y2 with
      | t zs =>
        show (decide (r = "repeat") && decide (1 ≤ n ∧ n ≤ 10 ^ 30)) = (decide (r = "repeat") && (decide (1 ≤ n ∧ n ≤ 10 ^ 30) && true))
        rw [Bool.and_true]
      | s x => show false = (decide (r = "repeat") && (decide (1 ≤ n ∧ n ≤ 10 ^ 30) && false)); rw [Bool.and_false, Bool.and_false]
      | i x => show false = (decide (r = "repeat") && (decide (1 ≤ n ∧ n ≤ 10 ^ 30) && false)); rw [Bool.and_false, Bool.and_false]
      | o x =>
        show false = (decide (r = "repeat") && (decide (1 ≤ n ∧ n ≤ 10 ^ 30) && decide (x = "tuple")))
        rw [decide_eq_false (h x rfl), Bool.and_false, Bool.and_false]
    | s x => show false = (decide (r = "repeat") && (false && _)); rw [Bool.false_and, Bool.and_false]
    | o x => show false = (decide (r = "repeat") && (false && _)); rw [Bool.false_and, Bool.and_false]
    | t x => show false = (decide (r = "repeat") && (false && _)); rw [Bool.false_and, Bool.and_false]
  | i n => rfl
  | o t => rfl
  | t z => rfl
theorem cntT_no {d : Nat} {ys : List Anv} (h : isRepA (.t ys) = false) : cntA d (.t ys) = 0 := cntA_no h (show ¬ ("tuple" : String) = "str" by decide)
theorem pt_never {X : Cx} {e : Expr} : PT X e (fun _ _ _ => False) := ⟨fun _ _ _ _ _ _ h => h.elim⟩
theorem an_o {K : PySem.W.Frag} {H : Hp} {v : V} {y : Anv} (h : AnA K H v y) : ∀ t, y = .o t → t ≠ "tuple" := by
  intro t e
  subst e
  cases h <;> decide
theorem an_bw {K : PySem.W.Frag} {H : Hp} {v : V} {y : Anv} (h : AnA K H v y) : BwR K H v 1 (10 ^ 30) (tmA y) := by
  cases h with
  | i n =>
    by_cases hn : 1 ≤ n ∧ n ≤ 10 ^ 30
    · have : tmA (.i n) = true := decide_eq_true hn
      rw [this]
      exact ⟨n, rfl, hn.1, hn.2⟩
    · have : tmA (.i n) = false := decide_eq_false hn
      rw [this]
      exact .inl ⟨n, rfl, hn⟩
  | s h => exact .inr ⟨_, .str _, by decide⟩
  | non => exact .inr ⟨_, .non, by decide⟩
  | bl b => exact .inr ⟨_, .bl b, by decide⟩
  | l e n => exact .inr ⟨_, .lst e, by decide⟩
  | d e => exact .inr ⟨_, .dct e, by decide⟩
  | t ez e1 e2 => exact .inr ⟨_, .tup e1, by decide⟩
theorem in_ints : ∀ l : List Int, inV (.int 0) (l.map V.int) = decide (0 ∈ l)
  | [] => rfl
  | a :: l => by
    have ih := in_ints l
    unfold inV at ih ⊢
    rw [List.map_cons, List.any_cons, ih]
    have e : eqV (V.int a) (V.int 0) = decide (a = 0) := by
      by_cases h : a = 0
      · subst h
        rfl
      · rw [decide_eq_false h]
        show (a == 0) = false
        exact beq_eq_false_iff_ne.mpr h
    rw [e]
    by_cases h : a = 0
    · subst h
      simp
    · have : ¬ (0 = a) := fun z => h z.symm
      simp [h, this]
theorem flat_intsA (l : List Int) : (l.map V.int).all flatV = true := by
  rw [List.all_eq_true]
  intro x hx
  obtain ⟨i, _, rfl⟩ := List.mem_map.mp hx
  rfl
theorem zero_nat (l : List Nat) : decide ((0 : Int) ∈ l.map fun n => ((n : Nat) : Int)) = decide (0 ∈ l) := by
  refine decide_eq_decide.mpr ⟨fun h => ?_, fun h => ?_⟩
  · obtain ⟨n, hn, e⟩ := List.mem_map.mp h
    have : n = 0 := by omega
    rw [← this]
    exact hn
  · exact List.mem_map.mpr ⟨0, h, rfl⟩
theorem sum_nat : ∀ l : List Nat, (l.map fun n => ((n : Nat) : Int)).sum = ((l.sum : Nat) : Int)
  | [] => rfl
  | n :: l => by
    rw [List.map_cons, List.sum_cons, List.sum_cons, sum_nat l]
    omega
def spCtA (K : PySem.W.Frag) (m : Nat) : Sp := fun vs H Q _ => ∃ (v : V) (x : Anv), vs = [v, .int (m : Nat)] ∧ AnA K H v x ∧ ∀ H', Same H H' → Q (.int (cntA m x : Nat)) H'
def spFBA (K : PySem.W.Frag) : Sp := fun vs H Q _ => ∃ (v : V) (x : Anv), vs = [v] ∧ AnA K H v x ∧ ∀ H' L d, Same H H' → (∀ H'', Same H' H'' → Dp K H'' (.ref L) d) → SeqAt.shaped d = true → PyData.eqv d (.list []) = goodA x → Q (.ref L) H'
def spToldA (K : PySem.W.Frag) : Sp := fun vs H Q _ => ∃ (v : V) (x : Anv) (b : Bool), vs = [v, .bl b] ∧ AnA K H v x ∧ goodA x = b ∧ ∀ H', Same H H' → Q (.bl true) H'
abbrev sLWh : Stmt := topS 28
theorem scLWh : FnScope ["_law_thing", "_law_least", "_law_most"] ["_law_thing", "_law_least", "_law_most"] (defScope sLWh) := ⟨rfl, rfl, rfl, by decide +kernel, rfl, by decide +kernel, by decide +kernel⟩
abbrev sCtd : Stmt := topS 29
abbrev nCtd : List Str := ["_law_step", "_law_deep", "_law_inner", "_law_part"]
theorem scCtd : FnScope nCtd ["_law_step", "_law_deep"] (defScope sCtd) := ⟨rfl, rfl, rfl, by decide +kernel, rfl, by decide +kernel, by decide +kernel⟩
abbrev sFB : Stmt := topS 30
abbrev nFB : List Str := ["_law_thing", "_law_total", "_law_at", "_law_step", "_law_more"]
theorem scFB : FnScope nFB ["_law_thing"] (defScope sFB) := ⟨rfl, rfl, rfl, by decide +kernel, rfl, by decide +kernel, by decide +kernel⟩
abbrev sToldR : Stmt := topS 33
theorem scToldA : FnScope ["_law_thing", "_law_due"] ["_law_thing", "_law_due"] (defScope sToldR) := ⟨rfl, rfl, rfl, by decide +kernel, rfl, by decide +kernel, by decide +kernel⟩
section
variable {P : Program} {w : World} {K : PySem.W.Frag} {mg : Str → Option Value} {base : Heap}
theorem ok_lwh {f : Addr} {fd : FuncData} (F : Fun K "_law_whole" "_law_whole" sLWh f fd) (mi : mg "isinstance" = none) (mI : mg "int" = none) (mB : mg "bool" = none) :
    FnOk P w K mg base CX0 1 f fd ["_law_thing", "_law_least", "_law_most"] (spBetweenG K) := by
  refine F.ok scLWh (fun vs H Q E h => ?_) (fun cdv A outer s H vs Q E hr h => ?_)
  · obtain ⟨v, lo, hi, b, rfl, _⟩ := h
    rfl
  · obtain ⟨v, lo, hi, b, rfl, hp, q⟩ := h
    refine ⟨_, pss_one (ps_ret (pe_and (pe_callB call_isi (by rfl) mi (by decide +kernel) (pa_cons (pv 0) (pa_cons (pe_bltn (v := .ty "int") (by rfl) mI (by decide +kernel) rfl) pa_nil)))
      (pe_and (pe_not (pe_callB call_isi (by rfl) mi (by decide +kernel) (pa_cons (pv 0) (pa_cons (pe_bltn (v := .ty "bool") (by rfl) mB (by decide +kernel) rfl) pa_nil)))) (pe_one (pe_chain op_le op_le (pv 1) (pv 0) (pv 2)))))), ?_⟩
    have sp : (∃ i : Int, v = .int i ∧ b = decide (lo ≤ i ∧ i ≤ hi)) ∨ (∃ ty, Oth K H v ty ∧ ty ≠ "int" ∧ b = false) := by
      cases b with
      | true =>
        obtain ⟨i, rfl, h0, h1⟩ := hp
        exact .inl ⟨i, rfl, (decide_eq_true ⟨h0, h1⟩).symm⟩
      | false =>
        rcases hp with ⟨i, rfl, hn⟩ | ⟨ty, ho, hn⟩
        · exact .inl ⟨i, rfl, (decide_eq_false hn).symm⟩
        · exact .inr ⟨ty, ho, hn, rfl⟩
    rcases sp with ⟨i, rfl, eb⟩ | ⟨ty, ho, hn, rfl⟩
    · refine ⟨_, rfl, .int i, _, _, _, _, rfl, .ty "int", (Oth.int (K := K) (H := H) i).ty, kit_int (Oth.int (K := K) (H := H) i), true, rfl, ?_⟩
      refine ⟨_, rfl, .int i, _, _, _, _, rfl, .ty "bool", (Oth.int (K := K) (H := H) i).ty, kit_bool (Oth.int (K := K) (H := H) i), _, rfl, true, rfl, ?_⟩
      refine ⟨_, rfl, _, rfl, _, _, rfl, rfl, _, rfl, ite2 (fun e => ?_) (fun e => ?_)⟩
      · have e' := of_decide_eq_true e
        refine ⟨_, rfl, _, _, rfl, rfl, ?_⟩
        have z : decide (i ≤ hi) = b := by
          rw [eb]
          by_cases y : i ≤ hi
          · rw [decide_eq_true y, decide_eq_true ⟨e', y⟩]
          · rw [decide_eq_false y, decide_eq_false fun x => y x.2]
        show Q (V.bl (decide (i ≤ hi))) H
        rw [z]
        exact q
      · have z : b = false := by
          rw [eb]
          exact decide_eq_false fun x => e (decide_eq_true x.1)
        rw [z] at q
        exact q
    · refine ⟨_, rfl, v, _, _, _, _, rfl, .ty "int", ho.ty, kit_int ho, _, rfl, ite2 (fun e => ?_) (fun e => ?_)⟩
      · have e' := of_decide_eq_true e
        have e2 : ty = "bool" := by
          rcases e' with e' | e'
          · exact absurd e' hn
          · exact e'
        refine ⟨_, rfl, v, _, _, _, _, rfl, .ty "bool", ho.ty, kit_bool ho, _, rfl, ?_⟩
        rw [decide_eq_true e2]
        exact ⟨false, rfl, q⟩
      · exact q
theorem ok_ctd {f fW : Addr} {fd fdW : FuncData} (F : Fun K "_law_counted" "_law_counted" sCtd f fd) (bS : Binds K fd ["_law_step", "_law_deep"] []) (gS : mg "_law_counted" = some (.ref f)) (kS : PySem.W.keepIn K (.ref f) = true)
    (GW : FnOk P w K mg base CX0 1 fW fdW ["_law_thing", "_law_least", "_law_most"] (spBetweenG K)) (bW : Binds K fdW ["_law_thing", "_law_least", "_law_most"] []) (gW : mg "_law_whole" = some (.ref fW)) (kW : PySem.W.keepIn K (.ref fW) = true)
    (mi : mg "isinstance" = none) (mS : mg "str" = none) (mI : mg "int" = none) (ml : mg "len" = none) (mT : mg "tuple" = none) (mU : mg "sum" = none) : ∀ m, FnOk P w K mg base CX0 (m + 2) f fd ["_law_step", "_law_deep"] (spCtA K m) := by
  intro m
  induction m with
  | zero =>
    refine F.ok scCtd (fun vs H Q E h => ?_) (fun cdv A outer s H vs Q E hr h => ?_)
    · obtain ⟨v, x, rfl, _⟩ := h
      rfl
    · obtain ⟨v, x, rfl, hx, q⟩ := h
      have nd := scCtd.nd
      refine ⟨_, pss_cons (ps_if (pt_val (pe_callB call_isi (by rfl) mi (by decide +kernel) (pa_cons (pv 0) (pa_cons (pe_bltn (v := .ty "str") (by rfl) mS (by decide +kernel) rfl) pa_nil))))
          (pss_one (ps_ret (pe_callTy call_int1 (by rfl) mI (by decide +kernel) (pa_cons (pe_and (pe_chain op_lt op_lt pe_int (pe_callB call_len_str (by rfl) ml PySem.boot_len (pa_cons (pv 0) pa_nil)) pe_int)
            (pe_one (pe_cmpR op_eq (pe_op op_add (pe_m1 PySem.F.slot_str_count PySem.F.type_str_count mt_count (pv 0) pe_str) (pe_m1 PySem.F.slot_str_count PySem.F.type_str_count mt_count (pv 0) pe_str)) (pe_callB call_len_str (by rfl) ml PySem.boot_len (pa_cons (pv 0) pa_nil)) (nomark _)))) pa_nil)))) pss_nil)
        (pss_cons (ps_if (PW.pt (pw_or (pt_not (pt_val (pe_callB call_isi (by rfl) mi (by decide +kernel) (pa_cons (pv 0) (pa_cons (pe_bltn (v := .ty "tuple") (by rfl) mT (by decide +kernel) rfl) pa_nil)))))
          (pw_or (pt_cmpR op_ne (pe_callB call_len_seq (by rfl) ml PySem.boot_len (pa_cons (pv 0) pa_nil)) pe_int (nomark _))
          (pw_or (pt_not (pt_val (pe_callB call_isi (by rfl) mi (by decide +kernel) (pa_cons (pe_ix ix_tup (pv 0) pe_int (fun _ _ => rfl)) (pa_cons (pe_bltn (v := .ty "str") (by rfl) mS (by decide +kernel) rfl) pa_nil)))))
          (pw_or1 (pt_cmpR op_ne (pe_ix ix_tup (pv 0) pe_int (fun _ _ => rfl)) pe_str (nomark _))))))) (pss_one (ps_ret pe_int)) pss_nil)
        (pss_cons (ps_if (PW.pt (pw_or (pt_cmpR op_lt (pv 1) pe_int (nomark _)) (pw_or (pt_never) (pw_or1 pt_never)))) (pss_one (ps_ret pe_int)) pss_nil)
        (pss_cons ps_never (pss_one ps_never)))), ?_⟩
      refine ⟨_, rfl, v, _, _, _, _, rfl, .ty "str", hx.oth.ty, kit_str hx.oth, _, rfl, ite2 (fun e2 => ?_) (fun e2 => ?_)⟩
      · have e2 := of_decide_eq_true e2
        have z := q H (Same.refl _)
        cases hx with
        | @s y hl =>
          rw [cntA_s] at z
          have lz : y.length ≤ sizeLine := by rw [sizeLine_eq]; omega
          refine ⟨_, rfl, _, rfl, lz, _, _, rfl, rfl, _, rfl, ite2 (fun e3 => ?_) (fun e3 => ?_)⟩
          · have e3' : (0 : Int) < ((y.length : Nat) : Int) := of_decide_eq_true e3
            refine ⟨_, _, rfl, rfl, _, rfl, ite2 (fun e4 => ?_) (fun e4 => ?_)⟩
            · have e4' : ((y.length : Nat) : Int) < 401 := of_decide_eq_true e4
              refine ⟨_, rfl, ⟨_, rfl⟩, _, _, rfl, rfl, _, rfl, ⟨_, rfl⟩, _, _, rfl, rfl, _, _, rfl, rfl, _, rfl, _, rfl, lz, rfl, .inr ⟨_, rfl, ?_⟩⟩
              have ew : decide (V.int (Txt.count y "R" + Txt.count y "C") = V.int ((y.length : Nat) : Int)) = wOk y := by
                unfold wOk wB
                rw [decide_eq_true (show 0 < y.length by omega), decide_eq_true (show y.length ≤ 400 by omega), Bool.true_and, Bool.true_and]
                cases ha : (tl y).all fun c => c == 82 || c == 67 with
                | true => exact decide_eq_true (by rw [(count_all y).mpr ha])
                | false =>
                  refine decide_eq_false fun e5 => ?_
                  have := (count_all y).mp (V.int.inj e5)
                  rw [ha] at this
                  cases this
              show Q (V.int (if decide (V.int (Txt.count y "R" + Txt.count y "C") = V.int ((y.length : Nat) : Int)) = true then 1 else 0)) H
              rw [ew]
              by_cases hw : wOk y = true
              · rw [if_pos hw] at z ⊢
                exact z
              · rw [if_neg hw] at z ⊢
                exact z
            · have e4' : ¬ ((y.length : Nat) : Int) < 401 := fun y2 => e4 (decide_eq_true y2)
              have ew : ¬ wOk y = true := fun y2 => by
                unfold wOk wB at y2
                rw [decide_eq_false (show ¬ y.length ≤ 400 by omega), Bool.false_and, Bool.and_false] at y2
                cases y2
              rw [if_neg ew] at z
              exact .inr ⟨false, rfl, z⟩
          · have e3' : ¬ (0 : Int) < ((y.length : Nat) : Int) := fun y2 => e3 (decide_eq_true y2)
            have ew : ¬ wOk y = true := fun y2 => by
              unfold wOk at y2
              rw [decide_eq_false (show ¬ 0 < y.length by omega), Bool.false_and] at y2
              cases y2
            rw [if_neg ew] at z
            exact ⟨false, rfl, .inr ⟨false, rfl, z⟩⟩
        | i _ => exact absurd e2 (show ¬ ("int" : String) = "str" by decide)
        | non => exact absurd e2 (show ¬ ("NoneType" : String) = "str" by decide)
        | bl _ => exact absurd e2 (show ¬ ("bool" : String) = "str" by decide)
        | l _ _ => exact absurd e2 (show ¬ ("list" : String) = "str" by decide)
        | d _ => exact absurd e2 (show ¬ ("dict" : String) = "str" by decide)
        | t _ _ _ => exact absurd e2 (show ¬ ("tuple" : String) = "str" by decide)
      have e2 : ¬ x.kind = "str" := fun y => e2 (decide_eq_true y)
      refine ⟨_, rfl, v, _, _, _, _, rfl, .ty "tuple", hx.oth.ty, kit_tuple hx.oth, _, rfl, ?_⟩
      by_cases hk : x.kind = "tuple"
      rotate_left
      · rw [decide_eq_false hk]
        have z := q H (Same.refl _)
        have e : isRepA x = false := by
          cases x with
          | t xs => exact absurd rfl hk
          | _ => rfl
        rw [cntA_no e e2] at z
        exact z
      rw [decide_eq_true hk]
      cases hx with
      | s _ => exact absurd hk (show ¬ ("str" : String) = "tuple" by decide)
      | i _ => exact absurd hk (show ¬ ("int" : String) = "tuple" by decide)
      | non => exact absurd hk (show ¬ ("NoneType" : String) = "tuple" by decide)
      | bl _ => exact absurd hk (show ¬ ("bool" : String) = "tuple" by decide)
      | l _ _ => exact absurd hk (show ¬ ("list" : String) = "tuple" by decide)
      | d _ => exact absurd hk (show ¬ ("dict" : String) = "tuple" by decide)
      | @t a xs ys hz h1 h2 =>
      refine ⟨_, rfl, a, _, rfl, .inr h1, rfl, ?_⟩
      by_cases h3 : ys.length = 3
      rotate_left
      · refine ⟨true, ?_, ?_⟩
        · have : ¬ V.int (xs.length : Nat) = V.int 3 := fun z => h3 (by
            have := V.int.inj z
            rw [h2.len] at this
            omega)
          show V.bl (!decide (V.int (xs.length : Nat) = V.int 3)) = _
          rw [decide_eq_false this]
          rfl
        · have z := q H (Same.refl _)
          rw [cntT_no (rep_len h3)] at z
          exact z
      cases h2 with
      | nil => exact absurd h3 (by decide)
      | @cons v0 y0 xs1 ys1 a0 h2 =>
      cases h2 with
      | nil => exact absurd h3 (show ¬ (1 : Nat) = 3 by decide)
      | @cons v1 y1 xs2 ys2 a1 h2 =>
      cases h2 with
      | nil => exact absurd h3 (show ¬ (2 : Nat) = 3 by decide)
      | @cons v2 y2 xs3 ys3 a2 h2 =>
      cases h2 with
      | cons b0 b1 =>
        rw [List.length_cons, List.length_cons, List.length_cons, List.length_cons] at h3
        omega
      | nil =>
      refine ⟨false, rfl, ?_⟩
      refine ⟨_, rfl, a, _, 0, v0, rfl, rfl, h1, rfl, v0, _, _, _, _, rfl, .ty "str", a0.oth.ty, kit_str a0.oth, _, rfl, ?_⟩
      by_cases hk0 : y0.kind = "str"
      rotate_left
      · rw [decide_eq_false hk0]
        have z := q H (Same.refl _)
        have : isS "repeat" y0 = false := by
          cases y0 with
          | s r => exact absurd rfl hk0
          | _ => rfl
        rw [cntT_no (ys := [y0, y1, y2]) (by rw [rep3 _ _ _ (an_o a2), this, Bool.false_and])] at z
        exact z
      rw [decide_eq_true hk0]
      cases a0 with
      | i _ => exact absurd hk0 (show ¬ ("int" : String) = "str" by decide)
      | non => exact absurd hk0 (show ¬ ("NoneType" : String) = "str" by decide)
      | bl _ => exact absurd hk0 (show ¬ ("bool" : String) = "str" by decide)
      | l _ _ => exact absurd hk0 (show ¬ ("list" : String) = "str" by decide)
      | d _ => exact absurd hk0 (show ¬ ("dict" : String) = "str" by decide)
      | t _ _ _ => exact absurd hk0 (show ¬ ("tuple" : String) = "str" by decide)
      | @s r0 hl0 =>
      refine ⟨_, rfl, a, _, 0, .str r0, rfl, rfl, h1, rfl, rfl, ?_⟩
      by_cases hr0 : r0 = "repeat"
      rotate_left
      · refine ⟨true, ?_, ?_⟩
        · show V.bl (!decide (V.str r0 = V.str "repeat")) = _
          rw [decide_eq_false (fun z => hr0 (V.str.inj z))]
          rfl
        · have z := q H (Same.refl _)
          have : isS "repeat" (.s r0) = false := decide_eq_false hr0
          rw [cntT_no (ys := [.s r0, y1, y2]) (by rw [rep3 _ _ _ (an_o a2), this, Bool.false_and])] at z
          exact z
      subst hr0
      refine ⟨false, ?_, ?_⟩
      · show V.bl (!decide (V.str "repeat" = V.str "repeat")) = _
        rw [decide_eq_true rfl]
        rfl
      · refine ⟨_, rfl, _, _, rfl, rfl, true, bl_true (show ((0 : Nat) : Int) < 1 by decide), ?_⟩
        have z := q H (Same.refl _)
        rw [show cntA 0 (.t [.s "repeat", y1, y2]) = 0 from rfl] at z
        exact z
  | succ m ih =>
    refine F.ok scCtd (fun vs H Q E h => ?_) (fun cdv A outer s H vs Q E hr h => ?_)
    · obtain ⟨v, x, rfl, _⟩ := h
      rfl
    · obtain ⟨v, x, rfl, hx, q⟩ := h
      have nd := scCtd.nd
      have hr1 : Room 1 _ := hr.mono (by omega)
      refine ⟨_, pss_cons (ps_if (pt_val (pe_callB call_isi (by rfl) mi (by decide +kernel) (pa_cons (pv 0) (pa_cons (pe_bltn (v := .ty "str") (by rfl) mS (by decide +kernel) rfl) pa_nil))))
          (pss_one (ps_ret (pe_callTy call_int1 (by rfl) mI (by decide +kernel) (pa_cons (pe_and (pe_chain op_lt op_lt pe_int (pe_callB call_len_str (by rfl) ml PySem.boot_len (pa_cons (pv 0) pa_nil)) pe_int)
            (pe_one (pe_cmpR op_eq (pe_op op_add (pe_m1 PySem.F.slot_str_count PySem.F.type_str_count mt_count (pv 0) pe_str) (pe_m1 PySem.F.slot_str_count PySem.F.type_str_count mt_count (pv 0) pe_str)) (pe_callB call_len_str (by rfl) ml PySem.boot_len (pa_cons (pv 0) pa_nil)) (nomark _)))) pa_nil)))) pss_nil)
        (pss_cons (ps_if (PW.pt (pw_or (pt_not (pt_val (pe_callB call_isi (by rfl) mi (by decide +kernel) (pa_cons (pv 0) (pa_cons (pe_bltn (v := .ty "tuple") (by rfl) mT (by decide +kernel) rfl) pa_nil)))))
          (pw_or (pt_cmpR op_ne (pe_callB call_len_seq (by rfl) ml PySem.boot_len (pa_cons (pv 0) pa_nil)) pe_int (nomark _))
          (pw_or (pt_not (pt_val (pe_callB call_isi (by rfl) mi (by decide +kernel) (pa_cons (pe_ix ix_tup (pv 0) pe_int (fun _ _ => rfl)) (pa_cons (pe_bltn (v := .ty "str") (by rfl) mS (by decide +kernel) rfl) pa_nil)))))
          (pw_or1 (pt_cmpR op_ne (pe_ix ix_tup (pv 0) pe_int (fun _ _ => rfl)) pe_str (nomark _))))))) (pss_one (ps_ret pe_int)) pss_nil)
        (pss_cons (ps_if (PW.pt (pw_or (pt_cmpR op_lt (pv 1) pe_int (nomark _)) (pw_or (pt_not (pt_val (pe_call GW hr1 (by rfl) gW kW bW .nil pass0 (pa_cons (pe_ix ix_tup (pv 0) pe_int (fun _ _ => rfl)) (pa_cons pe_int (pa_cons pl_30 pa_nil))))))
          (pw_or1 (pt_not (pt_val (pe_callB call_isi (by rfl) mi (by decide +kernel) (pa_cons (pe_ix ix_tup (pv 0) pe_int (fun _ _ => rfl)) (pa_cons (pe_bltn (v := .ty "tuple") (by rfl) mT (by decide +kernel) rfl) pa_nil))))))))) (pss_one (ps_ret pe_int)) pss_nil)
        (pss_cons (ps_setLc (i := 2) (own := [("_law_part", 3)]) (g := gName 3) (tt := tYes) rfl nd rfl rfl (sw_true rfl rfl rfl (by decide +kernel)) (pi_tup (pe_ix ix_tup (pv 0) pe_int (fun _ _ => rfl))) (blkOk_by (N := nCtd) (sc := defScope sCtd) (by decide +kernel))
          (fun _ _ _ _ _ => pg_name (i := 3) nd rfl (Or.inl rfl)) (fun _ _ _ _ _ => pts_nil) (fun _ _ _ _ _ => pe_call ih hr (by rfl) gS kS bS .nil pass0 (pa_cons (pv 3) (pa_cons (pe_op op_sub (pv 1) pe_int) pa_nil))))
        (pss_one (ps_ret (pe_ifExp (pt_cmpR op_in_seq pe_int (pv 2) (by rfl)) pe_int (pe_op op_add pe_int (pe_callB (cr_sum rfl) (by rfl) mU (by decide +kernel) (pa_cons (pv 2) pa_nil))))))))), ?_⟩
      refine ⟨_, rfl, v, _, _, _, _, rfl, .ty "str", hx.oth.ty, kit_str hx.oth, _, rfl, ite2 (fun e2 => ?_) (fun e2 => ?_)⟩
      · have e2 := of_decide_eq_true e2
        have z := q H (Same.refl _)
        cases hx with
        | @s y hl =>
          rw [cntA_s] at z
          have lz : y.length ≤ sizeLine := by rw [sizeLine_eq]; omega
          refine ⟨_, rfl, _, rfl, lz, _, _, rfl, rfl, _, rfl, ite2 (fun e3 => ?_) (fun e3 => ?_)⟩
          · have e3' : (0 : Int) < ((y.length : Nat) : Int) := of_decide_eq_true e3
            refine ⟨_, _, rfl, rfl, _, rfl, ite2 (fun e4 => ?_) (fun e4 => ?_)⟩
            · have e4' : ((y.length : Nat) : Int) < 401 := of_decide_eq_true e4
              refine ⟨_, rfl, ⟨_, rfl⟩, _, _, rfl, rfl, _, rfl, ⟨_, rfl⟩, _, _, rfl, rfl, _, _, rfl, rfl, _, rfl, _, rfl, lz, rfl, .inr ⟨_, rfl, ?_⟩⟩
              have ew : decide (V.int (Txt.count y "R" + Txt.count y "C") = V.int ((y.length : Nat) : Int)) = wOk y := by
                unfold wOk wB
                rw [decide_eq_true (show 0 < y.length by omega), decide_eq_true (show y.length ≤ 400 by omega), Bool.true_and, Bool.true_and]
                cases ha : (tl y).all fun c => c == 82 || c == 67 with
                | true => exact decide_eq_true (by rw [(count_all y).mpr ha])
                | false =>
                  refine decide_eq_false fun e5 => ?_
                  have := (count_all y).mp (V.int.inj e5)
                  rw [ha] at this
                  cases this
              show Q (V.int (if decide (V.int (Txt.count y "R" + Txt.count y "C") = V.int ((y.length : Nat) : Int)) = true then 1 else 0)) H
              rw [ew]
              by_cases hw : wOk y = true
              · rw [if_pos hw] at z ⊢
                exact z
              · rw [if_neg hw] at z ⊢
                exact z
            · have e4' : ¬ ((y.length : Nat) : Int) < 401 := fun y2 => e4 (decide_eq_true y2)
              have ew : ¬ wOk y = true := fun y2 => by
                unfold wOk wB at y2
                rw [decide_eq_false (show ¬ y.length ≤ 400 by omega), Bool.false_and, Bool.and_false] at y2
                cases y2
              rw [if_neg ew] at z
              exact .inr ⟨false, rfl, z⟩
          · have e3' : ¬ (0 : Int) < ((y.length : Nat) : Int) := fun y2 => e3 (decide_eq_true y2)
            have ew : ¬ wOk y = true := fun y2 => by
              unfold wOk at y2
              rw [decide_eq_false (show ¬ 0 < y.length by omega), Bool.false_and] at y2
              cases y2
            rw [if_neg ew] at z
            exact ⟨false, rfl, .inr ⟨false, rfl, z⟩⟩
        | i _ => exact absurd e2 (show ¬ ("int" : String) = "str" by decide)
        | non => exact absurd e2 (show ¬ ("NoneType" : String) = "str" by decide)
        | bl _ => exact absurd e2 (show ¬ ("bool" : String) = "str" by decide)
        | l _ _ => exact absurd e2 (show ¬ ("list" : String) = "str" by decide)
        | d _ => exact absurd e2 (show ¬ ("dict" : String) = "str" by decide)
        | t _ _ _ => exact absurd e2 (show ¬ ("tuple" : String) = "str" by decide)
      have e2 : ¬ x.kind = "str" := fun y => e2 (decide_eq_true y)
      refine ⟨_, rfl, v, _, _, _, _, rfl, .ty "tuple", hx.oth.ty, kit_tuple hx.oth, _, rfl, ?_⟩
      by_cases hk : x.kind = "tuple"
      rotate_left
      · rw [decide_eq_false hk]
        have z := q H (Same.refl _)
        have e : isRepA x = false := by
          cases x with
          | t xs => exact absurd rfl hk
          | _ => rfl
        rw [cntA_no e e2] at z
        exact z
      rw [decide_eq_true hk]
      cases hx with
      | s _ => exact absurd hk (show ¬ ("str" : String) = "tuple" by decide)
      | i _ => exact absurd hk (show ¬ ("int" : String) = "tuple" by decide)
      | non => exact absurd hk (show ¬ ("NoneType" : String) = "tuple" by decide)
      | bl _ => exact absurd hk (show ¬ ("bool" : String) = "tuple" by decide)
      | l _ _ => exact absurd hk (show ¬ ("list" : String) = "tuple" by decide)
      | d _ => exact absurd hk (show ¬ ("dict" : String) = "tuple" by decide)
      | @t a xs ys hz h1 h2 =>
      refine ⟨_, rfl, a, _, rfl, .inr h1, rfl, ?_⟩
      by_cases h3 : ys.length = 3
      rotate_left
      · refine ⟨true, ?_, ?_⟩
        · have : ¬ V.int (xs.length : Nat) = V.int 3 := fun z => h3 (by
            have := V.int.inj z
            rw [h2.len] at this
            omega)
          show V.bl (!decide (V.int (xs.length : Nat) = V.int 3)) = _
          rw [decide_eq_false this]
          rfl
        · have z := q H (Same.refl _)
          rw [cntT_no (rep_len h3)] at z
          exact z
      cases h2 with
      | nil => exact absurd h3 (by decide)
      | @cons v0 y0 xs1 ys1 a0 h2 =>
      cases h2 with
      | nil => exact absurd h3 (show ¬ (1 : Nat) = 3 by decide)
      | @cons v1 y1 xs2 ys2 a1 h2 =>
      cases h2 with
      | nil => exact absurd h3 (show ¬ (2 : Nat) = 3 by decide)
      | @cons v2 y2 xs3 ys3 a2 h2 =>
      cases h2 with
      | cons b0 b1 =>
        rw [List.length_cons, List.length_cons, List.length_cons, List.length_cons] at h3
        omega
      | nil =>
      refine ⟨false, rfl, ?_⟩
      refine ⟨_, rfl, a, _, 0, v0, rfl, rfl, h1, rfl, v0, _, _, _, _, rfl, .ty "str", a0.oth.ty, kit_str a0.oth, _, rfl, ?_⟩
      by_cases hk0 : y0.kind = "str"
      rotate_left
      · rw [decide_eq_false hk0]
        have z := q H (Same.refl _)
        have : isS "repeat" y0 = false := by
          cases y0 with
          | s r => exact absurd rfl hk0
          | _ => rfl
        rw [cntT_no (ys := [y0, y1, y2]) (by rw [rep3 _ _ _ (an_o a2), this, Bool.false_and])] at z
        exact z
      rw [decide_eq_true hk0]
      cases a0 with
      | i _ => exact absurd hk0 (show ¬ ("int" : String) = "str" by decide)
      | non => exact absurd hk0 (show ¬ ("NoneType" : String) = "str" by decide)
      | bl _ => exact absurd hk0 (show ¬ ("bool" : String) = "str" by decide)
      | l _ _ => exact absurd hk0 (show ¬ ("list" : String) = "str" by decide)
      | d _ => exact absurd hk0 (show ¬ ("dict" : String) = "str" by decide)
      | t _ _ _ => exact absurd hk0 (show ¬ ("tuple" : String) = "str" by decide)
      | @s r0 hl0 =>
      refine ⟨_, rfl, a, _, 0, .str r0, rfl, rfl, h1, rfl, rfl, ?_⟩
      by_cases hr0 : r0 = "repeat"
      rotate_left
      · refine ⟨true, ?_, ?_⟩
        · show V.bl (!decide (V.str r0 = V.str "repeat")) = _
          rw [decide_eq_false (fun z => hr0 (V.str.inj z))]
          rfl
        · have z := q H (Same.refl _)
          have : isS "repeat" (.s r0) = false := decide_eq_false hr0
          rw [cntT_no (ys := [.s r0, y1, y2]) (by rw [rep3 _ _ _ (an_o a2), this, Bool.false_and])] at z
          exact z
      subst hr0
      refine ⟨false, ?_, ?_⟩
      · show V.bl (!decide (V.str "repeat" = V.str "repeat")) = _
        rw [decide_eq_true rfl]
        rfl
      · refine ⟨_, rfl, _, _, rfl, rfl, false, bl_false (show ¬ ((m + 1 : Nat) : Int) < 1 by omega), ?_⟩
        refine ⟨_, rfl, a, _, 1, v1, rfl, rfl, h1, rfl, v1, 1, _, tmA y1, rfl, an_bw a1, _, rfl, ?_⟩
        cases hb1 : tmA y1 with
        | false =>
          have z := q H (Same.refl _)
          rw [cntT_no (ys := [.s "repeat", y1, y2]) (by rw [rep3 _ _ _ (an_o a2), hb1, Bool.false_and, Bool.and_false])] at z
          exact z
        | true =>
          refine ⟨_, rfl, a, _, 2, v2, rfl, rfl, h1, rfl, v2, _, _, _, _, rfl, .ty "tuple", a2.oth.ty, kit_tuple a2.oth, _, rfl, ?_⟩
          by_cases hk2 : y2.kind = "tuple"
          rotate_left
          · rw [decide_eq_false hk2]
            have z := q H (Same.refl _)
            rw [cntT_no (ys := [.s "repeat", y1, y2]) (by rw [rep3 _ _ _ (an_o a2), decide_eq_false hk2, Bool.and_false, Bool.and_false])] at z
            exact z
          rw [decide_eq_true hk2]
          have hrp : isRepA (.t [.s "repeat", y1, y2]) = true := by
            rw [rep3 _ _ _ (an_o a2), hb1, decide_eq_true hk2]
            have : isS "repeat" (.s "repeat") = true := (decide_eq_true rfl : decide (("repeat" : Str) = "repeat") = true)
            rw [this]
            rfl
          obtain ⟨n, ys, e9, n1, n2⟩ := isRepA_iff hrp
          injection e9 with e9
          injection e9 with _ e9
          injection e9 with e91 e9
          injection e9 with e92 _
          subst e91 e92
          cases a2 with
          | @t b zs _ gz g1 g2 =>
            have cr := cntA_r m (n := n) (ys := ys) n1 n2
            refine ⟨_, rfl, a, _, 2, .ref b, rfl, rfl, h1, rfl, b, rfl, ⟨_, g1⟩, fun D nD => ?_⟩
            have sl := g2.len
            refine lc_tup (K := K) (a := b) (xs := zs) (fun j G => G D = some (.lst ((((ys.take j).map (cntA m)).map fun n => ((n : Nat) : Int)).map V.int)) ∧ (∀ b o, b ≠ D → H b = some o → G b = some o)) ?_ ?_ ?_ ?_
            · exact ⟨upd_same, fun b o n e => by rw [upd_ne n]; exact e⟩
            · rintro j G _ ⟨b1, b2⟩
              exact same_seqT (fun b o e => b2 b o (ne_of_none e nD) e) g1
            · rintro j x G hj ⟨b1, b2⟩
              have sG : Same H G := fun b o e => b2 b o (ne_of_none e nD) e
              obtain ⟨w1, ew, aw⟩ := g2.get hj
              have jl := (List.getElem?_eq_some_iff.mp hj).1
              refine ⟨rfl, _, rfl, _, rfl, _, _, rfl, rfl, x, w1, ?_, aw.same sG, fun G1 s2 => ?_⟩
              · have : ((m + 1 : Nat) : Int) - 1 = ((m : Nat) : Int) := by omega
                exact congrArg (fun z => [x, V.int z]) this
              refine ⟨_, s2 _ _ b1, ?_, ?_, fun b o n e => ?_⟩
              · rw [List.length_map, List.length_map, List.length_map, List.length_take, sizeLine_eq]
                omega
              · rw [upd_same, List.take_add_one, ew, List.map_append, List.map_append, List.map_append]
                rfl
              · rw [upd_ne n]
                exact s2 _ _ (b2 b o n e)
            · rintro G ⟨b1, b2⟩
              have sG : Same H G := fun b o e => b2 b o (ne_of_none e nD) e
              rw [sl, List.take_length] at b1
              refine ⟨_, rfl, D, _, rfl, .inl (SqL.of b1), rfl, flat_intsA _, ?_⟩
              have eI : (if false = true then !inV (.int 0) ((((ys.map (cntA m)).map fun n => ((n : Nat) : Int))).map V.int) else inV (.int 0) ((((ys.map (cntA m)).map fun n => ((n : Nat) : Int))).map V.int)) = decide (0 ∈ ys.map (cntA m)) := by
                rw [if_neg (by decide), in_ints, zero_nat]
              rw [eI]
              have z := q G sG
              rw [cr] at z
              by_cases h0 : 0 ∈ ys.map (cntA m)
              · rw [if_pos h0] at z
                rw [decide_eq_true h0]
                exact ⟨true, rfl, z⟩
              · rw [if_neg h0] at z
                rw [decide_eq_false h0]
                refine ⟨false, rfl, _, rfl, D, _, rfl, SqL.of b1, ?_⟩
                rw [sum_nat]
                refine ⟨_, _, rfl, rfl, ?_⟩
                have e8 : (1 : Int) + (((ys.map (cntA m)).sum : Nat) : Int) = ((1 + (ys.map (cntA m)).sum : Nat) : Int) := by omega
                show Q (V.int ((1 : Int) + (((ys.map (cntA m)).sum : Nat) : Int))) G
                rw [e8]
                exact z
theorem ok_fbA {f fC : Addr} {fd fdC : FuncData} (F : Fun K "_law_first_bad" "_law_first_bad" sFB f fd)
    (GC : FnOk P w K mg base CX0 6 fC fdC ["_law_step", "_law_deep"] (spCtA K 4)) (bC : Binds K fdC ["_law_step", "_law_deep"] []) (gC : mg "_law_counted" = some (.ref fC)) (kC : PySem.W.keepIn K (.ref fC) = true)
    (mi : mg "isinstance" = none) (mT : mg "tuple" = none) (me : mg "enumerate" = none) : FnOk P w K mg base CX0 7 f fd ["_law_thing"] (spFBA K) := by
  refine F.ok scFB (fun vs H Q E h => ?_) (fun cdv A outer s H vs Q E hr h => ?_)
  · obtain ⟨v, x, rfl, _⟩ := h
    rfl
  · obtain ⟨v, x, rfl, hx, q⟩ := h
    have nd := scFB.nd
    refine ⟨_, pss_cons (ps_if (pt_not (pt_val (pe_callB call_isi (by rfl) mi (by decide +kernel) (pa_cons (pv 0) (pa_cons (pe_bltn (v := .ty "tuple") (by rfl) mT (by decide +kernel) rfl) pa_nil))))) (pss_one (ps_ret (pe_lst (pa_cons pe_non pa_nil)))) pss_nil)
      (pss_cons (ps_set (i := 1) nd rfl (.inl rfl) pe_int)
      (pss_cons (ps_for PassesOwn.never rfl (pi_enumT (by rfl) me (pa_cons (pv 0) pa_nil)) (pg_tup (by rfl) (pgs_cons (pg_name (i := 2) nd rfl (.inl rfl)) (pgs_cons (pg_name (i := 3) nd rfl (.inl rfl)) pgs_nil)))
        (pss_cons (ps_set (i := 4) nd rfl (.inl rfl) (pe_call GC hr (by rfl) gC kC bC .nil pass0 (pa_cons (pv 3) (pa_cons pe_int pa_nil))))
        (pss_cons (ps_set (i := 1) nd rfl (.inl rfl) (pe_op op_add (pv 1) (pv 4)))
        (pss_one (ps_if (PW.pt (pw_or (pt_cmpR op_eq (pv 4) pe_int (nomark _)) (pw_or1 (pt_cmpR op_gt (pv 1) pe_int (nomark _))))) (pss_one (ps_ret (pe_lst (pa_cons (pv 2) pa_nil)))) pss_nil)))))
      (pss_one (ps_ret (pe_lst pa_nil))))), ?_⟩
    refine ⟨_, rfl, v, _, _, _, _, rfl, .ty "tuple", hx.oth.ty, kit_tuple hx.oth, _, rfl, ?_⟩
    by_cases hk : x.kind = "tuple"
    rotate_left
    · rw [decide_eq_false hk]
      have e : goodA x = false := by
        cases x with
        | t xs => exact absurd rfl hk
        | _ => rfl
      refine ⟨by show 1 ≤ sizeLine; decide, fun L nL => ?_⟩
      exact q _ L (.list [.none]) (same_new nL) (fun _ sx => .lst (sx.seq (SqL.of upd_same)) (.cons .non .nil)) (by decide) (by rw [e]; rfl)
    rw [decide_eq_true hk]
    cases hx with
    | s _ => exact absurd hk (show ¬ ("str" : String) = "tuple" by decide)
    | i _ => exact absurd hk (show ¬ ("int" : String) = "tuple" by decide)
    | non => exact absurd hk (show ¬ ("NoneType" : String) = "tuple" by decide)
    | bl _ => exact absurd hk (show ¬ ("bool" : String) = "tuple" by decide)
    | l _ _ => exact absurd hk (show ¬ ("list" : String) = "tuple" by decide)
    | d _ => exact absurd hk (show ¬ ("dict" : String) = "tuple" by decide)
    | @t t xs ys hz h1 h2 =>
      refine ⟨_, rfl, t, xs, rfl, h1, for_enumT (K := K) (a := t) (xs := xs) (fun i σ G => Same H G ∧ (∀ j c, j < i → (ys.map (cntA 4))[j]? = some c → c ≠ 0) ∧ sumTo (ys.map (cntA 4)) i ≤ 60 ∧ ∃ y2 y3 y4, σ = [some (.ref t), some (.int (sumTo (ys.map (cntA 4)) i : Nat)), y2, y3, y4]) ?_ ?_ ?_ ?_⟩
      · exact ⟨Same.refl _, fun j c hj => absurd hj (Nat.not_lt_zero _), Nat.zero_le _, none, none, none, rfl⟩
      · rintro i σ G _ ⟨sm, _⟩
        exact same_seqT sm h1
      · rintro i x σ G Tp hi ⟨sm, al, cl, y2, y3, y4, rfl⟩ nT
        obtain ⟨w1, ew, aw⟩ := h2.get hi
        have ec : (ys.map (cntA 4))[i]? = some (cntA 4 w1) := by rw [List.getElem?_map, ew]; rfl
        have st := sumTo_succ ec
        have le := sumTo_le (ys.map (cntA 4)) (i + 1)
        have sT := same_new (o := .tup [.int (i : Nat), x]) nT
        have s2 := sm.trans sT
        refine ⟨Tp, _, rfl, SqT.of upd_same, rfl, _, _, rfl, _, _, rfl, rfl, ?_⟩
        refine ⟨_, rfl, x, w1, rfl, aw.same s2, fun G1 s3 => ?_⟩
        have s4 := s2.trans s3
        refine ⟨_, rfl, _, rfl, _, _, rfl, rfl, ?_⟩
        have e9 : ((sumTo (ys.map (cntA 4)) i : Nat) : Int) + ((cntA 4 w1 : Nat) : Int) = ((sumTo (ys.map (cntA 4)) (i + 1) : Nat) : Int) := by rw [st]; omega
        refine ⟨_, rfl, rfl, ?_⟩
        by_cases z0 : cntA 4 w1 = 0
        · refine ⟨true, ?_, ?_⟩
          · rw [z0]
            rfl
          have e : goodA (.t ys) = false := by
            show (!decide (0 ∈ ys.map (cntA 4)) && decide ((ys.map (cntA 4)).sum ≤ 60)) = false
            rw [z0] at ec
            rw [decide_eq_true (zero_of ec)]
            rfl
          refine ⟨_, rfl, by show 1 ≤ sizeLine; decide, fun L nL => ?_⟩
          exact q _ L (.list [.int (i : Nat)]) (s4.trans (same_new nL)) (fun _ sx => .lst (sx.seq (SqL.of upd_same)) (.cons (.int _) .nil)) (ints_shaped [((i : Nat) : Int)]) (by rw [e]; rfl)
        · refine ⟨false, congrArg V.bl (decide_eq_false (fun y => z0 (by have := V.int.inj y; omega))), ?_⟩
          refine ⟨_, rfl, _, _, rfl, rfl, _, rfl, ite2 (fun e => ?_) (fun e => ?_)⟩
          · have e' : ((sumTo (ys.map (cntA 4)) i : Nat) : Int) + ((cntA 4 w1 : Nat) : Int) > 60 := of_decide_eq_true e
            have eb : goodA (.t ys) = false := by
              show (!decide (0 ∈ ys.map (cntA 4)) && decide ((ys.map (cntA 4)).sum ≤ 60)) = false
              rw [decide_eq_false (show ¬ (ys.map (cntA 4)).sum ≤ 60 by omega), Bool.and_false]
            refine ⟨_, rfl, by show 1 ≤ sizeLine; decide, fun L nL => ?_⟩
            exact q _ L (.list [.int (i : Nat)]) (s4.trans (same_new nL)) (fun _ sx => .lst (sx.seq (SqL.of upd_same)) (.cons (.int _) .nil)) (ints_shaped [((i : Nat) : Int)]) (by rw [eb]; rfl)
          · have e' : ¬ ((sumTo (ys.map (cntA 4)) i : Nat) : Int) + ((cntA 4 w1 : Nat) : Int) > 60 := fun y => e (decide_eq_true y)
            refine ⟨s4, fun j c hj ej => ?_, by omega, some (.int (i : Nat)), some x, some (.int (cntA 4 w1 : Nat)), ?_⟩
            · by_cases hji : j < i
              · exact al j c hji ej
              · have : j = i := by omega
                subst this
                rw [ec] at ej
                cases ej
                exact z0
            · exact congrArg (fun z => [some (V.ref t), some (V.int z), some (V.int (i : Nat)), some x, some (V.int (cntA 4 w1 : Nat))]) e9
      · rintro σ G ⟨sm, al, cl, _⟩
        have el : xs.length = (ys.map (cntA 4)).length := by rw [List.length_map]; exact h2.len
        rw [el] at al cl
        rw [sumTo_all] at cl
        have e : goodA (.t ys) = true := by
          show (!decide (0 ∈ ys.map (cntA 4)) && decide ((ys.map (cntA 4)).sum ≤ 60)) = true
          rw [decide_eq_false (zero_not al), decide_eq_true cl]
          rfl
        refine ⟨by show 0 ≤ sizeLine; decide, fun L nL => ?_⟩
        exact q _ L (.list []) (sm.trans (same_new nL)) (fun _ sx => .lst (sx.seq (SqL.of upd_same)) .nil) (by decide) (by rw [e]; rfl)
theorem ok_toldA {f fI : Addr} {fd fdI : FuncData} (F : Fun K "_law_told_right" "_law_told_right" sToldR f fd)
    (GI : FnOk P w K mg base CX0 11 fI fdI ["value"] (spIPA K)) (bI : Binds K fdI ["value"] []) (wI : KwBinds fdI ["value"] ["value"] id id) (gI : mg "is_program" = some (.ref fI)) (kI : PySem.W.keepIn K (.ref fI) = true)
    (mR : mg "repr" = none) : FnG P w K mg base 12 f fd ["_law_thing", "_law_due"] (spToldA K) := by
  refine okG F scToldA (fun vs H Q E h => ?_) (fun cdv A outer s H vs Q E hr hgd h => ?_)
  · obtain ⟨v, x, b, rfl, _⟩ := h
    rfl
  · obtain ⟨v, x, b, rfl, hx, hg, q⟩ := h
    have hu : (A.deeper (envOfC "_law_told_right" (defScope sToldR) s.heap.objs.size f cdv)).units + 100 < cLine := by
      have := hr.un
      omega
    refine ⟨_, pss_one (ps_ret (pe_cmpR op_eq (pe_callB (call_reprD hgd hu) (by rfl) mR (by decide +kernel) (pa_cons (pe_lst (pa_cons (pe_call GI hr (by rfl) gI kI bI .nil pass0 (pa_cons (pv 0) pa_nil)) (pa_cons (pe_callKw GI hr (by rfl) gI kI wI pass0 (pk_cons (pv 0) pk_nil)) pa_nil))) pa_nil))
      (pe_callB (call_reprD hgd hu) (by rfl) mR (by decide +kernel) (pa_cons (pe_lst (pa_cons (pv 1) (pa_cons (pv 1) pa_nil))) pa_nil)) (nomark _))), ?_⟩
    have sh : ∀ c : Bool, PyData.showable (.list [.bool c, .bool c]) = true ∧ PyData.hasDict (.list [.bool c, .bool c]) = false ∧ (PyData.list [.bool c, .bool c]).shown.length ≤ sizeLine ∧ PyData.depth (.list [.bool c, .bool c]) ≤ 64 := by
      intro c
      cases c <;> exact ⟨by decide +kernel, by decide +kernel, by decide +kernel, by decide +kernel⟩
    obtain ⟨d1, d2, d3, d4⟩ := sh b
    refine ⟨_, rfl, v, x, rfl, hx, fun H1 s1 => ?_⟩
    refine ⟨_, rfl, v, x, rfl, hx.same s1, fun H2 s2 => ?_⟩
    rw [hg]
    refine ⟨by show 2 ≤ sizeLine; decide, fun L nL => ?_⟩
    have sL := same_new (o := .lst [.bl b, .bl b]) nL
    refine ⟨L, .list [.bool b, .bool b], rfl, .lst (SqL.of upd_same) (.cons (.bl _) (.cons (.bl _) .nil)), d1, d2, d3, d4, ?_⟩
    have s12 := (s1.trans s2).trans sL
    refine ⟨_, rfl, _, rfl, by show 2 ≤ sizeLine; decide, fun M nM => ?_⟩
    have sM := same_new (o := .lst [.bl b, .bl b]) nM
    refine ⟨M, .list [.bool b, .bool b], rfl, .lst (SqL.of upd_same) (.cons (.bl _) (.cons (.bl _) .nil)), d1, d2, d3, d4, rfl, ?_⟩
    have z := q _ (s12.trans sM)
    have e : ∀ a : V, decide (a = a) = true := fun a => decide_eq_true rfl
    rw [e]
    exact z
end
end KS
namespace KS
open PySem PySem.Spec PyProof.Rows L2
abbrev sWord : Stmt := topS 24
abbrev nWord : List Str := ["_law_pool_here", "_law_most", "_law_many", "_law_stretch", "_law_found"]
theorem scWord : FnScope nWord ["_law_pool_here", "_law_most"] (defScope sWord) := ⟨rfl, rfl, rfl, by decide +kernel, rfl, by decide +kernel, by decide +kernel⟩
section
variable {P : Program} {w : World} {K : PySem.W.Frag} {mg : Str → Option Value} {base : Heap}
theorem ok_lword {f fD : Addr} {fd fdD : FuncData} (F : Fun K "_law_word" "_law_word" sWord f fd) (GD : FnOk P w K mg base CX0 1 fD fdD ["_law_pool_here", "_law_most"] spDraw)
    (bD : Binds K fdD ["_law_pool_here", "_law_most"] []) (gD : mg "_law_draw" = some (.ref fD)) (kD : PySem.W.keepIn K (.ref fD) = true) (ml : mg "len" = none) :
    FnOk P w K mg base CX0 2 f fd ["_law_pool_here", "_law_most"] (spLWord K) := by
  refine F.ok scWord (fun vs H Q E h => ?_) (fun cdv A outer s H vs Q E hr h => ?_)
  · obtain ⟨p, m, rfl, _⟩ := h
    rfl
  · obtain ⟨p, m, rfl, po, m1, q⟩ := h
    have nd := scWord.nd
    refine ⟨_, pss_cons (ps_par3 (i := 2) (j := 3) (l := 4) (by rfl) nd rfl rfl rfl (by decide) (by decide) (by decide) rfl rfl rfl
        (pa_cons (pe_call GD hr (by rfl) gD kD bD .nil pass0 (pa_cons (pv 0) (pa_cons (pe_op op_add (pv 1) pe_int) pa_nil)))
          (pa_cons (pe_op op_add pe_int (pe_call GD hr (by rfl) gD kD bD .nil pass0 (pa_cons (pv 0) (pa_cons pe_int pa_nil)))) (pa_cons pe_str pa_nil))) (by rfl))
      (pss_cons (ps_while PassesOwn.never (pt_cmpR op_lt (pe_callB call_len_str (by rfl) ml PySem.boot_len (pa_cons (pv 4) pa_nil)) (pv 2) (nomark _))
        (pss_one (ps_set (i := 4) nd rfl (.inl rfl) (pe_op op_add_str (pv 4) (pe_op op_repC (pe_ix ix_str pe_str (pe_call GD hr (by rfl) gD kD bD .nil pass0 (pa_cons (pv 0) (pa_cons pe_int pa_nil))) (fun _ _ => rfl))
          (pe_op op_add pe_int (pe_call GD hr (by rfl) gD kD bD .nil pass0 (pa_cons (pv 0) (pa_cons (pv 3) pa_nil)))))))))
      (pss_one (ps_ret (pe_slice sl_str (pv 4) po_none (po_some (pv 2)))))), ?_⟩
    refine ⟨_, rfl, _, rfl, _, _, rfl, rfl, p, _, rfl, po, by omega, by omega, fun H1 many k1 po1 a0 a1 => ?_⟩
    refine ⟨_, rfl, p, _, rfl, po1, by decide, by decide, fun H2 st k2 po2 b0 b1 => ?_⟩
    refine ⟨_, _, rfl, rfl, _, _, _, rfl, ?_⟩
    refine ⟨fun n σ G => ∃ ws : List Bool, σ = [some (.ref p), some (.int m), some (.int many), some (.int (1 + st)), some (.str (wS ws))] ∧ KeepX p H G ∧ PoolO (G p) ∧ ws.length ≤ 500 ∧ n = (many - ws.length).toNat, ?_, ?_⟩
    · exact ⟨_, [], rfl, k1.trans k2, po2, Nat.zero_le _, rfl⟩
    · rintro n σ G ⟨ws, rfl, kx, po3, wl, rfl⟩
      have hwl := wS_len ws
      have hz : (wS ws).length ≤ sizeLine := by
        rw [hwl, sizeLine_eq]
        omega
      refine ⟨_, rfl, _, rfl, hz, _, rfl, _, _, rfl, rfl, _, rfl, ite2 (fun c => ?_) (fun c => ?_)⟩
      · have c' : ((wS ws).length : Int) < many := of_decide_eq_true c
        rw [hwl] at c'
        refine ⟨fun σ' G' => ∃ n', n' < (many - ws.length).toNat ∧ ∃ ws' : List Bool, σ' = [some (.ref p), some (.int m), some (.int many), some (.int (1 + st)), some (.str (wS ws'))] ∧ KeepX p H G' ∧ PoolO (G' p) ∧ ws'.length ≤ 500 ∧ n' = (many - ws'.length).toNat, fun σ' G' z => z, ?_⟩
        refine ⟨_, rfl, _, rfl, p, 2, rfl, po3, by decide, by decide, fun G1 r k3 po4 r0 r1 => ?_⟩
        obtain ⟨b, hb⟩ : ∃ b : Bool, atI ("RC" : Str).cps.toList r = some (ltr b) := by
          have : r = 0 ∨ r = 1 := by omega
          rcases this with rfl | rfl
          · exact ⟨false, by decide +kernel⟩
          · exact ⟨true, by decide +kernel⟩
        refine ⟨_, r, ltr b, rfl, rfl, by decide, hb, ?_⟩
        refine ⟨_, rfl, _, rfl, p, _, rfl, po4, by omega, by omega, fun G2 t k4 po5 t0 t1 => ?_⟩
        obtain ⟨t', rfl⟩ := Int.eq_ofNat_of_zero_le t0
        refine ⟨_, _, rfl, rfl, ltr b, 1 + t', rfl, by rw [Int.natCast_add]; rfl, by omega, by omega, ?_⟩
        rw [wS_rep]
        have e2 := wS_len (List.replicate (1 + t') b)
        rw [List.length_replicate] at e2
        refine ⟨_, _, rfl, rfl, ?_, ?_⟩
        · rw [hwl, e2, sizeLine_eq]
          omega
        · rw [wS_app]
          have e3 : (ws ++ List.replicate (1 + t') b).length = ws.length + (1 + t') := by
            rw [List.length_append, List.length_replicate]
          exact ⟨_, by omega, ws ++ List.replicate (1 + t') b, rfl, (kx.trans k3).trans k4, po5, by omega, rfl⟩
      · have c' : ¬ ((wS ws).length : Int) < many := fun z => c (decide_eq_true z)
        rw [hwl] at c'
        obtain ⟨mm, rfl⟩ := Int.eq_ofNat_of_zero_le a0
        refine ⟨_, rfl, _, rfl, _, rfl, _, rfl, hz, ?_⟩
        rw [wS_cut _ _ (by omega)]
        refine q G _ kx po3 ?_
        rw [List.length_take]
        omega
end
end KS
namespace KS
open PySem PySem.Spec PyProof.Rows L2 RZ TL
theorem qk {X : Cx} {K : PySem.W.Frag} {es : List Expr} {xs : List Anv} (h : PA X es (tAns K xs)) : PA X es (tAns K xs) := h
theorem slFrom_okG {K : PySem.W.Frag} {H : Hp} {Q : VK} {a : Addr} {xs : List V} {n : Nat} (ha : SqT K H a xs) (k : ∀ H' u, Same H H' → SqT K H' u (xs.drop n) → Q (.ref u) H') : rSlA K (.ref a) (some (n : Int)) none H Q := by
  by_cases hn : n ≤ xs.length
  · exact slFrom_ok ha hn k
  · have e0 : xs.drop n = [] := List.drop_eq_nil_of_le (by omega)
    refine ⟨a, xs, rfl, ha, fun z => ?_, fun _ p np => ?_⟩
    · obtain ⟨z1, _⟩ := z
      rw [show HT.sIx xs.length 0 (some (n : Int)) = min n xs.length from HT.sIx_nat _ _ n] at z1
      refine k H a (Same.refl _) ?_
      have e2 : xs.length = 0 := by omega
      have e3 := List.eq_nil_of_length_eq_zero e2
      subst e3
      rw [e0]
      exact ha
    · refine k _ p (same_new np) (SqT.of ?_)
      have e : cutV xs (some (n : Int)) none = [] := by
        unfold cutV
        rw [show HT.sIx xs.length 0 (some (n : Int)) = min n xs.length from HT.sIx_nat _ _ n]
        have : xs.drop (min n xs.length) = [] := List.drop_eq_nil_of_le (by omega)
        rw [this]
        exact List.take_nil
      rw [upd_same, e, e0]
def oddA1 : List Anv := [.s "", .s "r", .s "RCX", .s (wS (List.replicate 401 [false]).flatten), .s " R", .o "NoneType", .i 5, .o "bool", .t [.s "R"], .o "list", .o "dict", .t [.s "repeat", .i 0, .t []], .t [.s "repeat", .o "bool", .t []]]
def oddA2 : List Anv := [.t [.s "repeat", .i (10 ^ 30 + 1), .t [.s "R"]], .t [.s "repeat", .i 2, .s "R"], .t [.s "repeat", .i 2, .o "list"], .t [.s "repeat", .i 2]]
def oddA3 : List Anv := [.t [.s "repeat", .i 2, .t [.s "R"], .t []], .t [.s "again", .i 2, .t []], .t [.i 2, .s "repeat", .t []], .t [.s "repeat", .i (-1), .t []]]
def oddA4 : List Anv := [.t [.s "repeat", .i 2, .t [.t [.s "repeat", .i 2, .t [.s ""]]]], .t [.s "repeat", .o "NoneType", .t []], .t [.s "repeat", .s "2", .t [.s "C"]]]
def NoI (ys : List Anv) : Prop := ∀ y ∈ ys, ∀ n, y ≠ .i n
def NP3 (ys : List Anv) : Prop := ∀ a b c, ys ≠ [.i a, .i b, .i c]
def BndA (ys : List Anv) (x : Anv) : Prop := ∀ zs, x = .t zs → zs.length ≤ 10 * ys.length + 3 ∧ (NoI ys → NP3 zs)
def spBntA (K : PySem.W.Frag) : Sp := fun vs H Q _ => ∃ (p t : Addr) (xs : List V) (ys : List Anv), vs = [.ref p, .ref t] ∧ PoolO (H p) ∧ SqT K H t xs ∧ AnsA K H xs ys ∧ ys.length ≤ 610 ∧ NP3 ys ∧
  ∀ H' v x, KeepX p H H' → PoolO (H' p) → AnA K H' v x → BndA ys x → Q v H'
theorem bnd_no {ys : List Anv} {x : Anv} (h : x.kind ≠ "tuple") : BndA ys x := fun zs e => by
  subst e
  exact absurd rfl h
theorem bnd_1 {ys zs : List Anv} (h : zs.length ≤ 10 * ys.length + 3) (h1 : ∀ y ys', zs = y :: ys' → ∀ n, y ≠ .i n) : BndA ys (.t zs) := fun z e => by
  injection e with e
  subst e
  exact ⟨h, fun _ a b c e2 => h1 _ _ e2 a rfl⟩
theorem bnd_put {ys : List Anv} {y : Anv} {k n : Nat} : BndA ys (.t (ys.take k ++ [y] ++ ys.drop n)) ∨ ¬ k ≤ n := by
  by_cases hkn : k ≤ n
  · left
    intro zs e
    injection e with e
    subst e
    refine ⟨?_, fun no a b c e2 => ?_⟩
    · rw [List.length_append, List.length_append, List.length_take, List.length_drop]
      show min k ys.length + 1 + (ys.length - n) ≤ _
      omega
    · have hlen := congrArg List.length e2
      rw [List.length_append, List.length_append, List.length_take, List.length_drop] at hlen
      have hlen : min k ys.length + 1 + (ys.length - n) = 3 := hlen
      have nt : ∀ z ∈ ys.take k, ∀ m, z ≠ .i m := fun z hz => no z (List.mem_of_mem_take hz)
      have ndp : ∀ z ∈ ys.drop n, ∀ m, z ≠ .i m := fun z hz => no z (List.mem_of_mem_drop hz)
      cases ht : ys.take k with
      | cons z zs =>
        rw [ht] at e2
        have : z = .i a := (List.cons.inj e2).1
        exact nt z (by rw [ht]; exact List.mem_cons_self ..) a this
      | nil =>
        rw [ht] at e2
        cases hd : ys.drop n with
        | nil =>
          rw [hd] at e2
          have := congrArg List.length e2
          cases this
        | cons z zs =>
          rw [hd] at e2
          have e3 : y :: z :: zs = [.i a, .i b, .i c] := e2
          have : z = .i b := (List.cons.inj (List.cons.inj e3).2).1
          exact ndp z (by rw [hd]; exact List.mem_cons_self ..) b this
  · exact .inr hkn
abbrev sBntA : Stmt := topS 31
abbrev nBntA : List Str := ["_law_pool_here", "_law_parts", "_law_odd", "_law_way", "_law_at", "_law_thing", "_law_turn"]
theorem scBntA : FnScope nBntA ["_law_pool_here", "_law_parts"] (defScope sBntA) := ⟨rfl, rfl, rfl, by decide +kernel, rfl, by decide +kernel, by decide +kernel⟩
section
variable {P : Program} {w : World} {K : PySem.W.Frag} {mg : Str → Option Value} {base : Heap}
theorem ok_bntA {f fD : Addr} {fd fdD : FuncData} (F : Fun K "_law_bent" "_law_bent" sBntA f fd) (GD : FnOk P w K mg base CX0 1 fD fdD ["_law_pool_here", "_law_most"] spDraw)
    (bD : Binds K fdD ["_law_pool_here", "_law_most"] []) (gD : mg "_law_draw" = some (.ref fD)) (kD : PySem.W.keepIn K (.ref fD) = true)
    (ml : mg "len" = none) (mr : mg "range" = none) (mL : mg "list" = none) : FnOk P w K mg base CX0 2 f fd ["_law_pool_here", "_law_parts"] (spBntA K) := by
  refine F.ok scBntA (fun vs H Q E h => ?_) (fun cdv A outer s H vs Q E hr h => ?_)
  · obtain ⟨p, t, xs, ys, rfl, _⟩ := h
    rfl
  · obtain ⟨p, t, xs, ys, rfl, po, hx, hy, hl, np3, q⟩ := h
    have nd := scBntA.nd
    refine ⟨_, pss_cons (ps_set (i := 2) nd rfl (.inl rfl) (pe_lst (qk (K := K) (xs := oddA1) (qc (q_s (by decide +kernel)) (qc (q_s (by decide +kernel)) (qc (q_s (by decide +kernel)) (qc (q_rp [false] 401 (by decide +kernel) (by decide) (by decide) (by decide) (by decide +kernel)) (qc (q_s (by decide +kernel)) (qc (q_non pe_non) (qc (q_i pe_int) (qc (q_bl pe_bl) (qc (q_t (qc (q_s (by decide +kernel)) qn) (by decide)) (qc (q_l (qc (q_s (by decide +kernel)) qn) (by decide) (by simp)) (qc (q_d) (qc (q_t (qc (q_s (by decide +kernel)) (qc (q_i pe_int) (qc (q_t qn (by decide)) qn))) (by decide)) (qc (q_t (qc (q_s (by decide +kernel)) (qc (q_bl pe_bl) (qc (q_t qn (by decide)) qn))) (by decide)) qn))))))))))))))))
      (pss_cons (ps_set (i := 2) nd rfl (.inl rfl) (pe_op op_cat (pv 2) (pe_lst (qk (K := K) (xs := oddA2) (qc (q_t (qc (q_s (by decide +kernel)) (qc (q_i (q_inc pl_30)) (qc (q_t (qc (q_s (by decide +kernel)) qn) (by decide)) qn))) (by decide)) (qc (q_t (qc (q_s (by decide +kernel)) (qc (q_i pe_int) (qc (q_s (by decide +kernel)) qn))) (by decide)) (qc (q_t (qc (q_s (by decide +kernel)) (qc (q_i pe_int) (qc (q_l (qc (q_s (by decide +kernel)) qn) (by decide) (by simp)) qn))) (by decide)) (qc (q_t (qc (q_s (by decide +kernel)) (qc (q_i pe_int) qn)) (by decide)) qn))))))))
      (pss_cons (ps_set (i := 2) nd rfl (.inl rfl) (pe_op op_cat (pv 2) (pe_lst (qk (K := K) (xs := oddA3) (qc (q_t (qc (q_s (by decide +kernel)) (qc (q_i pe_int) (qc (q_t (qc (q_s (by decide +kernel)) qn) (by decide)) (qc (q_t qn (by decide)) qn)))) (by decide)) (qc (q_t (qc (q_s (by decide +kernel)) (qc (q_i pe_int) (qc (q_t qn (by decide)) qn))) (by decide)) (qc (q_t (qc (q_i pe_int) (qc (q_s (by decide +kernel)) (qc (q_t qn (by decide)) qn))) (by decide)) (qc (q_t (qc (q_s (by decide +kernel)) (qc (q_i q_neg) (qc (q_t qn (by decide)) qn))) (by decide)) qn))))))))
      (pss_cons (ps_set (i := 2) nd rfl (.inl rfl) (pe_op op_cat (pv 2) (pe_lst (qk (K := K) (xs := oddA4) (qc (q_t (qc (q_s (by decide +kernel)) (qc (q_i pe_int) (qc (q_t (qc (q_t (qc (q_s (by decide +kernel)) (qc (q_i pe_int) (qc (q_t (qc (q_s (by decide +kernel)) qn) (by decide)) qn))) (by decide)) qn) (by decide)) qn))) (by decide)) (qc (q_t (qc (q_s (by decide +kernel)) (qc (q_non pe_non) (qc (q_t qn (by decide)) qn))) (by decide)) (qc (q_t (qc (q_s (by decide +kernel)) (qc (q_s (by decide +kernel)) (qc (q_t (qc (q_s (by decide +kernel)) qn) (by decide)) qn))) (by decide)) qn)))))))
      (pss_cons (ps_par3 (i := 3) (j := 4) (l := 5) (by rfl) nd rfl rfl rfl (by decide) (by decide) (by decide) rfl rfl rfl
        (pa_cons (pe_call GD hr (by rfl) gD kD bD .nil pass0 (pa_cons (pv 0) (pa_cons pe_int pa_nil)))
        (pa_cons (pe_call GD hr (by rfl) gD kD bD .nil pass0 (pa_cons (pv 0) (pa_cons (pe_op op_add (pe_callB call_len_seq (by rfl) ml PySem.boot_len (pa_cons (pv 1) pa_nil)) pe_int) pa_nil)))
        (pa_cons (pe_ix ix_list (pv 2) (pe_call GD hr (by rfl) gD kD bD .nil pass0 (pa_cons (pv 0) (pa_cons (pe_callB call_len_seq (by rfl) ml PySem.boot_len (pa_cons (pv 2) pa_nil)) pa_nil))) (fun _ _ => rfl)) pa_nil))) (by rfl))
      (pss_cons (ps_if (pt_cmpR op_lt (pv 3) pe_int (nomark _)) (pss_one (ps_ret (pe_op op_catA (pe_op op_catA (pe_slice sl_tupA (pv 1) po_none (po_some (pv 4))) (pe_tup (pa_cons (pv 5) pa_nil))) (pe_slice sl_tupA (pv 1) (po_some (pe_op op_sub (pe_op op_add (pv 4) pe_int) (pv 3))) po_none)))) pss_nil)
      (pss_cons (ps_if (pt_cmpR op_eq (pv 3) pe_int (nomark _)) (pss_cons (ps_for PassesOwn.never rfl (pi_range1 (by rfl) mr (pa_cons (pe_op op_add pe_int (pe_call GD hr (by rfl) gD kD bD .nil pass0 (pa_cons (pv 0) (pa_cons pe_int pa_nil)))) pa_nil)) (pg_name (i := 6) nd rfl (.inl rfl))
          (pss_one (ps_set (i := 1) nd rfl (.inl rfl) (pe_tup (pa_cons (pe_tup (pa_cons pe_str (pa_cons (pe_op op_add pe_int (pe_call GD hr (by rfl) gD kD bD .nil pass0 (pa_cons (pv 0) (pa_cons pe_int pa_nil)))) (pa_cons (pv 1) pa_nil)))) pa_nil)))))
          (pss_one (ps_ret (pv 1)))) pss_nil)
      (pss_cons (ps_if (pt_cmpR op_eq (pv 3) pe_int (nomark _)) (pss_one (ps_ret (pe_op op_repA (pv 1) (pe_op op_add pe_int (pe_call GD hr (by rfl) gD kD bD .nil pass0 (pa_cons (pv 0) (pa_cons pe_int pa_nil))))))) pss_nil)
      (pss_cons (ps_if (pt_cmpR op_eq (pv 3) pe_int (nomark _)) (pss_one (ps_ret (pe_ix ix_list (pe_lst (pa_cons (pe_callTy call_list_of (by rfl) mL (by decide +kernel) (pa_cons (pv 1) pa_nil)) (qk (K := K) (xs := [.o "NoneType", .s "R", .i 7, .o "dict", .o "bool", .t [.s "repeat", .i 2, .t []]]) (qc (q_non pe_non) (qc (q_s (by decide +kernel)) (qc (q_i pe_int) (qc (q_d) (qc (q_bl pe_bl) (qc (q_t (qc (q_s (by decide +kernel)) (qc (q_i pe_int) (qc (q_t qn (by decide)) qn))) (by decide)) qn))))))))) (pe_call GD hr (by rfl) gD kD bD .nil pass0 (pa_cons (pv 0) (pa_cons pe_int pa_nil))) (fun _ _ => rfl)))) pss_nil)
      (pss_one (ps_ret (pe_op op_catA (pe_tup (pa_cons (pe_tup (pa_cons pe_str (pa_cons pe_int (pa_cons (pe_op op_catA (pe_slice sl_tupA (pv 1) po_none (po_some (pv 4))) (pe_tup (pa_cons (pv 5) pa_nil))) pa_nil)))) pa_nil)) (pe_slice sl_tupA (pv 1) (po_some (pv 4)) po_none)))))))))))), ?_⟩
    -- odd
    intro H1 w1 s1 a1
    refine ⟨by rw [a1.len]; decide, fun L1 n1 => ?_⟩
    have t1 := same_new (o := .lst w1) n1
    have hL1 : upd H1 L1 (.lst w1) L1 = some (.lst w1) := upd_same
    have a1 := a1.same t1
    have u1 := s1.trans t1
    generalize upd H1 L1 (.lst w1) = G1 at hL1 a1 u1 ⊢
    refine ⟨_, rfl, fun H2 w2 s2 a2 => ⟨by rw [a2.len]; decide, fun M2 m2 => ?_⟩⟩
    have t2 := same_new (o := .lst w2) m2
    have hM2 : upd H2 M2 (.lst w2) M2 = some (.lst w2) := upd_same
    have a2 := a2.same t2
    have v2 := s2.trans t2
    generalize upd H2 M2 (.lst w2) = G2 at hM2 a2 v2 ⊢
    refine ⟨L1, M2, _, _, rfl, rfl, v2 _ _ hL1, hM2, by rw [a1.len, a2.len]; decide, fun L2 n2 => ?_⟩
    have t2' := same_new (o := .lst (w1 ++ w2)) n2
    have hL2 : upd G2 L2 (.lst (w1 ++ w2)) L2 = some (.lst (w1 ++ w2)) := upd_same
    have b2 : AnsA K (upd G2 L2 (.lst (w1 ++ w2))) (w1 ++ w2) (oddA1 ++ oddA2) := (a1.same (v2.trans t2')).app (a2.same t2')
    have u2 := u1.trans (v2.trans t2')
    generalize upd G2 L2 (.lst (w1 ++ w2)) = G3 at hL2 b2 u2 ⊢
    refine ⟨_, rfl, fun H3 w3 s3 a3 => ⟨by rw [a3.len]; decide, fun M3 m3 => ?_⟩⟩
    have t3 := same_new (o := .lst w3) m3
    have hM3 : upd H3 M3 (.lst w3) M3 = some (.lst w3) := upd_same
    have a3 := a3.same t3
    have v3 := s3.trans t3
    generalize upd H3 M3 (.lst w3) = G4 at hM3 a3 v3 ⊢
    refine ⟨L2, M3, _, _, rfl, rfl, v3 _ _ hL2, hM3, by rw [b2.len, a3.len]; decide, fun L3 n3 => ?_⟩
    have t3' := same_new (o := .lst (w1 ++ w2 ++ w3)) n3
    have hL3 : upd G4 L3 (.lst (w1 ++ w2 ++ w3)) L3 = some (.lst (w1 ++ w2 ++ w3)) := upd_same
    have b3 : AnsA K (upd G4 L3 (.lst (w1 ++ w2 ++ w3))) (w1 ++ w2 ++ w3) (oddA1 ++ oddA2 ++ oddA3) := (b2.same (v3.trans t3')).app (a3.same t3')
    have u3 := u2.trans (v3.trans t3')
    generalize upd G4 L3 (.lst (w1 ++ w2 ++ w3)) = G5 at hL3 b3 u3 ⊢
    refine ⟨_, rfl, fun H4 w4 s4 a4 => ⟨by rw [a4.len]; decide, fun M4 m4 => ?_⟩⟩
    have t4 := same_new (o := .lst w4) m4
    have hM4 : upd H4 M4 (.lst w4) M4 = some (.lst w4) := upd_same
    have a4 := a4.same t4
    have v4 := s4.trans t4
    generalize upd H4 M4 (.lst w4) = G6 at hM4 a4 v4 ⊢
    refine ⟨L3, M4, _, _, rfl, rfl, v4 _ _ hL3, hM4, by rw [b3.len, a4.len]; decide, fun L4 n4 => ?_⟩
    have t4' := same_new (o := .lst (w1 ++ w2 ++ w3 ++ w4)) n4
    have hL4 : upd G6 L4 (.lst (w1 ++ w2 ++ w3 ++ w4)) L4 = some (.lst (w1 ++ w2 ++ w3 ++ w4)) := upd_same
    have b4 : AnsA K (upd G6 L4 (.lst (w1 ++ w2 ++ w3 ++ w4))) (w1 ++ w2 ++ w3 ++ w4) (oddA1 ++ oddA2 ++ oddA3 ++ oddA4) := (b3.same (v4.trans t4')).app (a4.same t4')
    have u4 := u3.trans (v4.trans t4')
    have po4 := po.same u4
    have nLp : L4 ≠ p := Ne.symm ((po.same (u3.trans v4)).ne n4)
    generalize upd G6 L4 (.lst (w1 ++ w2 ++ w3 ++ w4)) = G at hL4 b4 u4 po4 ⊢
    generalize w1 ++ w2 ++ w3 ++ w4 = ws at hL4 b4 ⊢
    have wl := b4.len
    have ol : (oddA1 ++ oddA2 ++ oddA3 ++ oddA4).length = 24 := by decide
    clear hL1 a1 u1 hM2 a2 v2 hL2 b2 u2 hM3 a3 v3 hL3 b3 u3 hM4 a4 v4
    have hx := same_seqT u4 hx
    have hy := hy.same u4
    have xl := hy.len
    -- draws
    refine ⟨_, rfl, p, 6, rfl, po4, by decide, by decide, fun J1 way k1 po1 r0 r1 => ?_⟩
    refine ⟨_, rfl, _, rfl, t, xs, rfl, .inr (keepX_seqT po4 k1 hx), _, _, rfl, rfl, p, (xs.length : Int) + 1, rfl, po1, by omega, by omega, fun J2 at_ k2 po2 q0 q1 => ?_⟩
    refine ⟨_, rfl, _, rfl, _, rfl, L4, ws, rfl, .inl (SqL.of ((k1.trans k2) _ _ nLp hL4)), p, (ws.length : Int), rfl, po2, by omega, by omega, fun J3 rr k3 po3 z0 z1 => ?_⟩
    have kx := (k1.trans k2).trans k3
    have b5 : AnsA K J3 ws (oddA1 ++ oddA2 ++ oddA3 ++ oddA4) := b4.ka (.of_keepX po4 kx)
    obtain ⟨th, xt, hat, hth, _⟩ := pickA b5 z0 (by rw [← wl]; exact z1)
    refine ⟨L4, ws, rr, th, rfl, rfl, SqL.of (kx _ _ nLp hL4), hat, _, _, _, rfl, ?_⟩
    have hx3 := keepX_seqT po4 kx hx
    have hy3 : AnsA K J3 xs ys := hy.ka (.of_keepX po4 kx)
    have KX : KeepX p H J3 := (KeepX.of_same u4).trans kx
    obtain ⟨n, rfl⟩ := Int.eq_ofNat_of_zero_le q0
    have hn : n ≤ xs.length := by omega
    refine ⟨_, rfl, _, _, rfl, rfl, _, rfl, ite2 (fun e => ?_) (fun e => ?_)⟩
    · -- one thing more, or another one
      have e' : way < 2 := of_decide_eq_true e
      refine ⟨_, rfl, _, rfl, (n : Int), rfl, slTo_ok hx3 hn (fun A1 u1 sa hu1 => ?_)⟩
      refine ⟨_, rfl, by show 1 ≤ sizeLine; decide, fun T nT => ?_⟩
      have sT := same_new (o := .tup [th]) nT
      have hT : SqT K (upd A1 T (.tup [th])) T [th] := SqT.of upd_same
      generalize upd A1 T (.tup [th]) = A2 at sT hT ⊢
      refine catA_okB (same_seqT sT hu1) hT (by rw [List.length_take]; show _ + 1 ≤ _; omega) (fun A3 u2 sc hu2 => ?_)
      have sAA := (sa.trans sT).trans sc
      refine ⟨_, rfl, _, rfl, _, _, rfl, rfl, _, rfl, _, _, rfl, rfl, _, rfl, ?_⟩
      have ej : ((n : Int) + 1) - way = ((n + 1 - way.toNat : Nat) : Int) := by omega
      show rSlA K (V.ref t) (some (((n : Int) + 1) - way)) none A3 (fun y H2 => rCatA K (V.ref u2) y H2 Q)
      rw [ej]
      refine slFrom_okG (same_seqT sAA hx3) (fun A4 u3 sd hu3 => ?_)
      refine catA_okB (same_seqT sd hu2) hu3 (by rw [List.length_append, List.length_take, List.length_drop]; show _ + 1 + _ ≤ _; omega) (fun A5 u4 se hu4 => ?_)
      have sF := (sAA.trans sd).trans se
      refine q A5 (.ref u4) (.t (ys.take n ++ [xt] ++ ys.drop (n + 1 - way.toNat))) (KX.trans (.of_same sF)) (po3.same sF) (.t ?_ hu4 (((hy3.take n).app (.cons hth .nil)).app (hy3.drop _) |>.same sF)) ?_
      · rw [List.length_append, List.length_append, List.length_take, List.length_drop]
        show _ + 1 + _ ≤ _
        omega
      · rcases bnd_put (ys := ys) (y := xt) (k := n) (n := n + 1 - way.toNat) with z | z
        · exact z
        · omega
    have e1 : ¬ way < 2 := fun y => e (decide_eq_true y)
    refine ⟨_, rfl, rfl, _, rfl, ite2 (fun e => ?_) (fun e => ?_)⟩
    · -- in repeats
      refine ⟨_, rfl, p, 2, rfl, po3, by decide, by decide, fun B1 rt kb pob t0 t1 => ?_⟩
      refine ⟨_, _, rfl, rfl, _, rfl, by omega, by omega, ?_⟩
      refine for_range (lo := 0) (n := (1 + rt).toNat) (fun i σ C => ∃ (tt : Addr) (zs : List V) (us : List Anv) (y6 : Option V), σ = [some (.ref p), some (.ref tt), some (.ref L4), some (.int way), some (.int (n : Nat)), some th, y6] ∧ KeepX p H C ∧ PoolO (C p) ∧ SqT K C tt zs ∧ AnsA K C zs us ∧ us.length ≤ 610 ∧ (0 < i → ∃ z, us = [.t z])) ?_ ?_ ?_
      · exact ⟨t, xs, ys, none, rfl, KX.trans kb, pob, keepX_seqT po3 kb hx3, hy3.ka (.of_keepX po3 kb), hl, fun h => absurd h (Nat.lt_irrefl _)⟩
      · rintro i σ C hi ⟨tt, zs, us, y6, rfl, kc, poc, hz, hu, ul, _⟩
        refine ⟨_, rfl, p, 3, rfl, poc, by decide, by decide, fun C1 r3 k4 po5 x0 x1 => ?_⟩
        refine ⟨_, _, rfl, rfl, _, rfl, by show 3 ≤ sizeLine; decide, fun T1 nT1 => ?_⟩
        have sT1 := same_new (o := .tup [.str "repeat", .int (1 + r3), .ref tt]) nT1
        have hT1 : SqT K (upd C1 T1 (.tup [.str "repeat", .int (1 + r3), .ref tt])) T1 [.str "repeat", .int (1 + r3), .ref tt] := SqT.of upd_same
        generalize upd C1 T1 (.tup [.str "repeat", .int (1 + r3), .ref tt]) = C2 at sT1 hT1 ⊢
        refine ⟨by show 1 ≤ sizeLine; decide, fun T2 nT2 => ?_⟩
        have sT2 := same_new (o := .tup [.ref T1]) nT2
        have hT2 : SqT K (upd C2 T2 (.tup [.ref T1])) T2 [.ref T1] := SqT.of upd_same
        generalize upd C2 T2 (.tup [.ref T1]) = C3 at sT2 hT2 ⊢
        have s12 := sT1.trans sT2
        have hz1 := same_seqT s12 (keepX_seqT poc k4 hz)
        have hu1 := (hu.ka (.of_keepX poc k4)).same s12
        refine ⟨T2, [.ref T1], [.t [.s "repeat", .i (1 + r3), .t us]], _, rfl, (kc.trans k4).trans (.of_same s12), po5.same s12, hT2, .cons (.t (by show 3 ≤ 100000; decide) (same_seqT sT2 hT1) (.cons (.s (by decide +kernel)) (.cons (.i _) (.cons (.t (by rw [hu.len]; omega) hz1 hu1) .nil)))) .nil, by show 1 ≤ 610; decide, fun _ => ⟨_, rfl⟩⟩
      · rintro σ C ⟨tt, zs, us, y6, rfl, kc, poc, hz, hu, ul, hi⟩
        obtain ⟨z, rfl⟩ := hi (by omega)
        refine ⟨_, rfl, q C (.ref tt) (.t [.t z]) kc poc (.t (by rw [hu.len]; show 1 ≤ 100000; decide) hz hu) (bnd_1 (by show 1 ≤ _; omega) (fun y ys' e n => ?_))⟩
        have := (List.cons.inj e).1
        subst this
        exact fun z => by cases z
    refine ⟨_, rfl, rfl, _, rfl, ite2 (fun e => ?_) (fun e => ?_)⟩
    · -- again and again
      refine ⟨_, rfl, _, rfl, p, 9, rfl, po3, by decide, by decide, fun B1 rt kb pob t0 t1 => ?_⟩
      have hxB := keepX_seqT po3 kb hx3
      have hyB : AnsA K B1 xs ys := hy3.ka (.of_keepX po3 kb)
      have e0 : xs = [] → ys = [] := fun e => by
        subst e
        cases hyB
        rfl
      have rl : ((List.replicate (2 + rt).toNat ys).flatten).length ≤ 10 * ys.length := by
        rw [PyProof.Rows.lm_len_rep_flat]
        exact Nat.mul_le_mul_right _ (by omega)
      refine ⟨_, _, rfl, rfl, t, _, xs, rfl, rfl, hxB, by omega, by omega, by omega, fun e => ?_, fun ne pp np => ?_⟩
      · have ey := e0 e
        subst e ey
        exact q B1 (.ref t) (.t []) (KX.trans kb) pob (.t (by decide) hxB hyB) (bnd_1 (by decide) (fun y ys' e => by cases e))
      · have sp := same_new (o := .tup (List.replicate (2 + rt).toNat xs).flatten) np
        refine q _ (.ref pp) (.t (List.replicate (2 + rt).toNat ys).flatten) ((KX.trans kb).trans (.of_same sp)) (pob.same sp) (.t ?_ (SqT.of upd_same) ((hyB.rep _).same sp)) (fun zs e => ?_)
        · rw [(hyB.rep _).len]
          omega
        · injection e with e
          subst e
          refine ⟨by omega, fun no a b c e2 => ?_⟩
          have hm : Anv.i a ∈ (List.replicate (2 + rt).toNat ys).flatten := by
            rw [e2]
            exact List.mem_cons_self ..
          obtain ⟨l, hl1, hl2⟩ := List.mem_flatten.mp hm
          rw [(List.mem_replicate.mp hl1).2] at hl2
          exact no _ hl2 a rfl
    refine ⟨_, rfl, rfl, _, rfl, ite2 (fun e => ?_) (fun e => ?_)⟩
    · -- of another kind
      refine ⟨_, rfl, t, xs, rfl, .inr hx3, fun l nl => ?_⟩
      have sl := same_new (o := .lst xs) nl
      have hl0 : upd J3 l (.lst xs) l = some (.lst xs) := upd_same
      have npx : NP xs := hy3.np np3
      generalize upd J3 l (.lst xs) = B1 at sl hl0 ⊢
      refine fun B2 w5 s5 a5 => ⟨by show w5.length + 1 ≤ sizeLine; rw [a5.len]; decide, fun M nM => ?_⟩
      have sM := same_new (o := .lst (.ref l :: w5)) nM
      have hM : upd B2 M (.lst (.ref l :: w5)) M = some (.lst (.ref l :: w5)) := upd_same
      have aM : AnsA K (upd B2 M (.lst (.ref l :: w5))) (.ref l :: w5) (.o "list" :: [.o "NoneType", .s "R", .i 7, .o "dict", .o "bool", .t [.s "repeat", .i 2, .t []]]) := .cons (.l ((s5.trans sM) _ _ hl0) npx) (a5.same sM)
      have sB := (sl.trans s5).trans sM
      generalize upd B2 M (.lst (.ref l :: w5)) = B3 at hM aM sB ⊢
      have nMp : M ≠ p := fun z => by
        have := sB
        rw [z] at nM
        exact (po3.same (sl.trans s5)).ne nM rfl
      refine ⟨_, rfl, p, 7, rfl, po3.same sB, by decide, by decide, fun B4 r7 kb pob t0 t1 => ?_⟩
      have aN : AnsA K B4 (.ref l :: w5) _ := aM.ka (.of_keepX (po3.same sB) kb)
      obtain ⟨vv, xv, hat2, hav, hmem⟩ := pickA aN t0 (by show r7 < 7; exact t1)
      refine ⟨M, _, r7, vv, rfl, rfl, SqL.of (kb _ _ nMp hM), hat2, ?_⟩
      refine q B4 vv xv ((KX.trans (.of_same sB)).trans kb) pob hav ?_
      simp only [List.mem_cons, List.not_mem_nil, or_false] at hmem
      rcases hmem with z | z | z | z | z | z | z <;> subst z
      · exact bnd_no (show ¬ ("list" : String) = "tuple" by decide)
      · exact bnd_no (show ¬ ("NoneType" : String) = "tuple" by decide)
      · exact bnd_no (show ¬ ("str" : String) = "tuple" by decide)
      · exact bnd_no (show ¬ ("int" : String) = "tuple" by decide)
      · exact bnd_no (show ¬ ("dict" : String) = "tuple" by decide)
      · exact bnd_no (show ¬ ("bool" : String) = "tuple" by decide)
      · refine bnd_1 (by show 3 ≤ _; omega) (fun y ys' e n => ?_)
        have := (List.cons.inj e).1
        subst this
        exact fun z => by cases z
    · -- a part of it in a repeat
      refine ⟨_, rfl, _, rfl, (n : Int), rfl, slTo_ok hx3 hn (fun A1 u1 sa hu1 => ?_)⟩
      refine ⟨_, rfl, by show 1 ≤ sizeLine; decide, fun T nT => ?_⟩
      have sT := same_new (o := .tup [th]) nT
      have hT : SqT K (upd A1 T (.tup [th])) T [th] := SqT.of upd_same
      generalize upd A1 T (.tup [th]) = A2 at sT hT ⊢
      refine catA_okB (same_seqT sT hu1) hT (by rw [List.length_take]; show _ + 1 ≤ _; omega) (fun A3 u2 sc hu2 => ?_)
      have sAA := (sa.trans sT).trans sc
      refine ⟨by show 3 ≤ sizeLine; decide, fun T1 nT1 => ?_⟩
      have sT1 := same_new (o := .tup [.str "repeat", .int 2, .ref u2]) nT1
      have hT1 : SqT K (upd A3 T1 (.tup [.str "repeat", .int 2, .ref u2])) T1 [.str "repeat", .int 2, .ref u2] := SqT.of upd_same
      generalize upd A3 T1 (.tup [.str "repeat", .int 2, .ref u2]) = A4 at sT1 hT1 ⊢
      refine ⟨by show 1 ≤ sizeLine; decide, fun T2 nT2 => ?_⟩
      have sT2 := same_new (o := .tup [.ref T1]) nT2
      have hT2 : SqT K (upd A4 T2 (.tup [.ref T1])) T2 [.ref T1] := SqT.of upd_same
      generalize upd A4 T2 (.tup [.ref T1]) = A5 at sT2 hT2 ⊢
      have s12 := sT1.trans sT2
      have sAll := sAA.trans s12
      refine ⟨_, rfl, _, rfl, (n : Int), rfl, ?_⟩
      show rSlA K (V.ref t) (some (n : Int)) none A5 (fun y H2 => rCatA K (V.ref T2) y H2 Q)
      refine slFrom_okG (same_seqT sAll hx3) (fun A6 u3 sd hu3 => ?_)
      refine catA_okB (same_seqT sd hT2) hu3 (by rw [List.length_drop]; show 1 + _ ≤ _; omega) (fun A7 u4 se hu4 => ?_)
      have sF := (sAll.trans sd).trans se
      have sG := (s12.trans sd).trans se
      have tl0 : (xs.take n ++ [th]).length ≤ 100000 := by
        rw [List.length_append, List.length_take]
        show _ + 1 ≤ _
        omega
      refine q A7 (.ref u4) (.t ([.t [.s "repeat", .i 2, .t (ys.take n ++ [xt])]] ++ ys.drop n)) (KX.trans (.of_same sF)) (po3.same sF) (.t ?_ hu4 (AnsA.app (.cons (.t (by show 3 ≤ 100000; decide) (same_seqT ((sT2.trans sd).trans se) hT1) (.cons (.s (by decide +kernel)) (.cons (.i _) (.cons (.t tl0 (same_seqT sG hu2) (((hy3.take n).app (.cons hth .nil)).same sF)) .nil)))) .nil) ((hy3.drop n).same sF))) ?_
      · rw [List.length_append, List.length_drop]
        show 1 + _ ≤ _
        omega
      · refine bnd_1 ?_ (fun y ys' e n => ?_)
        · rw [List.length_append, List.length_drop]
          show 1 + _ ≤ _
          omega
        · have := (List.cons.inj e).1
          subst this
          exact fun z => by cases z
end
end KS
namespace KS
open PySem PySem.Spec PyProof.Rows L2
section
variable {X : Cx} {k : Nat} {f : Addr} {fd : FuncData} {ps : List Str} {sp : Sp} {x : Str} {p pos : Pos}
/-- f(), f a def with guards -/
theorem pe_callG0 (F : FnG X.prog X.w X.K X.mg X.base k f fd ps sp) (hr : Room k X.A) (hgd : X.A.guards = some []) (hg : Gl X x) (hm : X.mg x = some (.ref f)) (hk : PySem.W.keepIn X.K (.ref f) = true) (hb : Binds X.K fd ps [])
    (hdb : (x == ("__debug__" : Str)) = false := by decide) : PE X (.Call (.Name x p) [] [] pos) (tCall sp [] E0 tNil) := by
  refine ⟨fun pins s σ H Q I h => wpAny_Call_Name_kw (ld_glob I hg hm (PySem.W.callWith_K0 I.kIn hk ?_) hdb)⟩
  have q1 : sp [] H Q E0 := h
  have hl : ([] ++ [] : List Value).length = ps.length := F.len _ _ _ _ q1
  refine wpAny_call (codeAny_mono (F.run X.A X.stack s H ⟨[], []⟩ [] [] Q E0 hr hgd I.env0 (hb s [] I.kIn hl) .nil q1) fun z s' hq => ?_)
  cases z with
  | error e => cases hq
  | ok fl =>
    cases fl with
    | ret u => exact I.after hq
    | next => cases hq
    | brk => cases hq
    | cont => cases hq
end
/-- the numbers i, i - 1, .., j + 1 -/
def dnI (i j : Int) : List Int := (List.range (i - j).toNat).map fun (k : Nat) => i - (k : Int)
def tTupDn (ta : TA) : TE := fun σ H Q => ta σ H fun vs H1 => ∃ i j : Int, vs = [.int i, .int j, .int (-1)] ∧ 0 ≤ j ∧ j ≤ i ∧ i ≤ 1000 ∧ ∀ q, H1 q = none → Q (.ref q) (upd H1 q (.tup ((dnI i j).map V.int)))
theorem vals_dn {i j : Int} {acc : Array Value} (h : ItemsOf (fun k v => ∃ t, v = .int (i + k * (-1)) t) acc (i - j).toNat) : Vals ((dnI i j).map V.int) acc.toList := by
  have e : acc.toList.length = (i - j).toNat := by
    rw [Array.length_toList]
    exact h.1
  unfold dnI
  rw [List.map_map, ← e]
  refine vals_of_get acc.toList _ fun k u hk => ?_
  obtain ⟨t, rfl⟩ := h.2 k u (by rw [← hk, Array.getElem?_toList])
  refine ⟨t, ?_⟩
  have r : i + (k : Int) * (-1) = i - (k : Int) := by omega
  rw [r]
theorem pe_tupDn {X : Cx} {a b c : Expr} {ta : TA} {p p2 pos pos2 : Pos} (hc : X.calm = true) (hg : Gl X "tuple") (hm : X.mg "tuple" = none) (hg2 : Gl X "range") (hm2 : X.mg "range" = none) (ha : PA X [a, b, c] ta)
    (hs : starEach [a, b, c] X.env = (false, eval a X.env) :: starEach [b, c] X.env := by rfl) (hpl : (backTo pos2 (starEach [b, c] X.env)).any (·.1) = false := by rfl)
    (na : starEach [.Call (.Name "range" p2) [a, b, c] [] pos2] X.env = (false, eval (.Call (.Name "range" p2) [a, b, c] [] pos2) X.env) :: starEach [] X.env := by rfl) :
    PE X (.Call (.Name "tuple" p) [.Call (.Name "range" p2) [a, b, c] [] pos2] [] pos) (tTupDn ta) := by
  refine ⟨fun pins s σ H Q I h => Call_ (ld_blt I hg hm boot_tuple (PyProof.Rows.callWith_type1 (args_cons ?_ na) na))⟩
  refine Call_ (ld_blt I hg2 hm2 boot_range (PyProof.Rows.callWith_type1 (thn (ha.run pos2 pins s σ H _ I h) fun us s1 hh => ?_) hs hpl))
  obtain ⟨vs, H1, I1, r1, i, j, ev, j0, ij, i1, q⟩ := hh
  subst ev
  cases r1 with
  | cons r rr =>
    cases rr with
    | cons r' rr =>
      cases rr with
      | cons r'' rr =>
        cases rr
        obtain ⟨t, rfl⟩ := r
        obtain ⟨t', rfl⟩ := r'
        obtain ⟨t'', rfl⟩ := r''
        obtain ⟨c0, c1, c2, c3⟩ := RgC.neg (i := i) (j := j) (by omega) (by omega) (by omega) (by omega)
        refine call_range_3 c0 ?_ (.inl (PyProof.noPylong_small c1))
        refine args_nil ?_
        have I2 : Inv X pins σ H1 { s1 with heap := s1.heap.push { cls := .type "range", data := .fields #[.int i t, .int j t', .int (-1) t''] }, toks := s1.toks } := I1.kept fun b u e => Heap.get?_push_of_some _ e
        refine call_tuple_range (n := (i - j).toNat) (I2.ok.hd hc) (IsRange.new ..) c2 c3 (by omega) fun h' tk acc hk hi => ?_
        have I3 : Inv X pins σ H1 { s1 with heap := h', toks := tk } := I2.kept hk
        refine ⟨.ref h'.objs.size, upd H1 h'.objs.size (.tup ((dnI i j).map V.int)), I3.laid (t' := tk) (fun c o e => Heap.get?_push_of_some _ e) (Nat.le_refl _) (show ObjOk X.prog X.w _ _ _ (.tup ((dnI i j).map V.int)) from ⟨?_, acc.toList, vals_dn hi, ?_⟩), rfl, q _ (I3.hok.fresh (Nat.le_refl _))⟩
        · rw [List.length_map, sizeLine_eq]
          unfold dnI
          rw [List.length_map, List.length_range]
          omega
        · rw [Array.toArray_toList]
          exact IsTup.new _ _
end KS
namespace KS
open PySem PySem.Spec PyProof.Rows L2
theorem call_divmodW {X : Cx} : CallR X (.builtin "divmod") (fun xs H Q => ∃ i j, xs = [.int i, .int j] ∧ (0 < j ∧ j < 10 ^ 20) ∧ ∀ p, H p = none → Q (.ref p) (upd H p (.tup [.int (i / j), .int (i % j)]))) := by
  intro pins s σ H xs us Q I r h
  obtain ⟨i, j, rfl, ⟨h1, h2⟩, q⟩ := h
  obtain ⟨u, w', rfl, ⟨t, rfl⟩, ⟨t', rfl⟩⟩ := vals2 r
  have hl : j.natAbs.log2 < 9000 := by
    have e : (10 : Int) ^ 20 = 100000000000000000000 := by decide +kernel
    have e2 : (100000000000000000000 : Nat) < 2 ^ 100 := by decide +kernel
    have : j.natAbs.log2 < 100 := (Nat.log2_lt (by omega)).mpr (by omega)
    omega
  refine divmod_int (by omega) ?_ (.inl (PyProof.noPylong_of_log2 hl))
  rw [Int.fdiv_eq_ediv_of_nonneg i (by omega), Int.fmod_eq_emod_of_nonneg i (by omega)]
  have hn : H s.heap.objs.size = none := I.hok.fresh (Nat.le_refl _)
  refine ⟨.ref s.heap.objs.size, _, ?_, rfl, q _ hn⟩
  refine I.laid (fun b o e => Heap.get?_push_of_some _ e) (Nat.le_refl _) ⟨by simp only [List.length_cons, List.length_nil]; rw [sizeLine_eq]; decide, [.int (i / j) s.toks, .int (i % j) (s.toks + 1)], .cons ⟨_, rfl⟩ (.cons ⟨_, rfl⟩ .nil), ?_⟩
  exact ⟨_, Heap.get?_push_size s.heap rfl, rfl, 0, rfl⟩
def spDrawW : Sp := fun vs H Q _ => ∃ (p : Addr) (m : Int), vs = [.ref p, .int m] ∧ PoolO (H p) ∧ 0 < m ∧ m < 10 ^ 20 ∧ ∀ H' r, KeepX p H H' → PoolO (H' p) → 0 ≤ r → r < m → Q (.int r) H'
section
variable {P : Program} {w : World} {K : PySem.W.Frag} {mg : Str → Option Value} {base : Heap}
theorem ok_drawW {f : Addr} {fd : FuncData} (F : Fun K "_law_draw" "_law_draw" sDraw f fd) (md : mg "divmod" = none) : FnOk P w K mg base CX0 1 f fd ["_law_pool_here", "_law_most"] spDrawW := by
  refine F.ok scDraw (fun vs H Q E h => ?_) (fun cdv A outer s H vs Q E hr h => ?_)
  · obtain ⟨p, m, rfl, _⟩ := h
    rfl
  · obtain ⟨p, m, rfl, ⟨a, b, c, hp, a0, a1, b0⟩, m0, m1, q⟩ := h
    refine ⟨_, pss_cons (ps_asg (pe_op op_add (pe_ix ix_list (pv 0) pe_int (fun _ _ => rfl)) pe_int) (pg_sub (pv 0) pe_int set_list))
      (pss_cons (ps_set (i := 2) scDraw.nd rfl (.inl rfl) (pe_ix ix_list (pv 0) pe_int (fun _ _ => rfl)))
      (pss_cons (ps_asg (pe_op op_mod (pe_op op_add (pe_op op_mul (pv 2) (pe_op op_add (pe_op op_mod (pv 2) pe_int) pe_int)) (pe_op op_mul pe_int (pe_ix ix_list (pv 0) pe_int (fun _ _ => rfl)))) pe_int) (pg_sub (pv 0) pe_int set_list))
      (pss_cons (ps_if (pt_cmpR op_gt (pe_ix ix_list (pv 0) pe_int (fun _ _ => rfl)) pe_int (nomark _))
        (pss_cons (ps_asg (pe_callB call_divmodW (by rfl) md (by decide +kernel) (pa_cons (pe_ix ix_list (pv 0) pe_int (fun _ _ => rfl)) (pa_cons (pv 1) pa_nil)))
            (pg_tup (by rfl) (pgs_cons (pg_sub (pv 0) pe_int set_list) (pgs_cons (pg_name (i := 3) scDraw.nd rfl (.inl rfl)) pgs_nil))))
          (pss_one (ps_ret (pv 3)))) pss_nil)
      (pss_one (ps_ret (pe_op op_mod (pe_op op_fdiv (pe_ix ix_list (pv 0) pe_int (fun _ _ => rfl)) pe_int) (pv 1))))))), ?_⟩
    -- pool[2] = pool[2] + 1
    refine ⟨_, rfl, p, _, 2, .int c, rfl, rfl, SqL.of hp, rfl, _, _, rfl, rfl, _, rfl, p, _, 2, 2, rfl, rfl, hp, rfl, ?_⟩
    refine ⟨_, rfl, p, _, 0, .int a, rfl, rfl, SqL.of upd_same, rfl, ?_⟩
    have bm := int_mod_bd a (m := 50021) (by decide)
    refine ⟨_, rfl, _, rfl, _, _, rfl, rfl, by show (0 : Int) < 50021; decide, _, _, rfl, rfl, _, _, rfl, rfl, .inl ⟨by omega, by omega⟩, _, rfl, p, _, 2, .int (c + 1), rfl, rfl, SqL.of upd_same, rfl, _, _, rfl, rfl, .inl ⟨by decide, by decide⟩, _, _, rfl, rfl, _, _, rfl, rfl, by show (0 : Int) < 2147483249; decide, ?_⟩
    refine ⟨_, rfl, p, _, 0, 0, rfl, rfl, upd_same, rfl, ?_⟩
    have bz := int_mod_bd (a * (a % 50021 + 30011) + 80021 * (c + 1)) (m := 2147483249) (by decide)
    rw [upd_upd]
    show _
    refine ⟨_, rfl, p, _, 1, .int b, rfl, rfl, SqL.of upd_same, rfl, _, _, rfl, rfl, _, rfl, ite2 (fun e => ?_) (fun e => ?_)⟩
    · refine ⟨_, rfl, p, _, 1, .int b, rfl, rfl, SqL.of upd_same, rfl, _, rfl, b, m, rfl, ⟨m0, m1⟩, fun t nt => ?_⟩
      have npt : p ≠ t := ne_of_none upd_same nt
      refine ⟨t, _, rfl, SqT.of upd_same, rfl, _, _, rfl, ?_⟩
      refine ⟨_, rfl, p, _, 1, 1, rfl, rfl, by rw [upd_ne npt]; exact upd_same, rfl, _, [], rfl, rfl, ?_⟩
      have br := int_mod_bd b m0
      refine ⟨_, rfl, q _ _ (fun x o n e => ?_) ⟨_, _, _, upd_same, bz.1, bz.2, Int.ediv_nonneg b0 (by omega)⟩ br.1 br.2⟩
      rw [upd_ne n, upd_ne, upd_ne n]
      · exact e
      · intro z
        rw [z] at e
        rw [upd_ne (Ne.symm npt)] at nt
        rw [nt] at e
        cases e
    · refine ⟨_, rfl, p, _, 0, .int ((a * (a % 50021 + 30011) + 80021 * (c + 1)) % 2147483249), rfl, rfl, SqL.of upd_same, rfl, _, _, rfl, rfl, ⟨by decide, by decide⟩, _, rfl, _, _, rfl, rfl, m0, ?_⟩
      have br := int_mod_bd ((a * (a % 50021 + 30011) + 80021 * (c + 1)) % 2147483249 / 64) m0
      exact q _ _ keepX_upd ⟨_, _, _, upd_same, bz.1, bz.2, b0⟩ br.1 br.2
end
end KS
-- topS
namespace KS
open PySem PySem.Spec PyProof.Rows L2 RZ
/-! ### words of any length, said at most three times -/
mutual
def Stp.sm3 : Stp → Prop
  | .w l => True
  | .r n b => n ≤ 3 ∧ sm3L b
def sm3L : List Stp → Prop
  | [] => True
  | s :: b => s.sm3 ∧ sm3L b
end
mutual
theorem sm_sm3 : ∀ s : Stp, s.sm → s.sm3
  | .w l, _ => by simp only [Stp.sm3]
  | .r n b, h => by
    simp only [Stp.sm] at h
    simp only [Stp.sm3]
    exact ⟨h.1, smL_sm3 b h.2⟩
theorem smL_sm3 : ∀ b : List Stp, smL b → sm3L b
  | [], _ => by simp only [sm3L]
  | s :: b, h => by
    simp only [smL] at h
    simp only [sm3L]
    exact ⟨sm_sm3 s h.1, smL_sm3 b h.2⟩
end
theorem sm3L_app : ∀ {a b : List Stp}, sm3L (a ++ b) ↔ sm3L a ∧ sm3L b
  | [], b => by rw [List.nil_append]; simp only [sm3L]; exact ⟨fun h => ⟨trivial, h⟩, fun h => h.2⟩
  | s :: a, b => by
    rw [List.cons_append]
    simp only [sm3L]
    rw [sm3L_app (a := a)]
    exact ⟨fun ⟨x, y, z⟩ => ⟨⟨x, y⟩, z⟩, fun ⟨⟨x, y⟩, z⟩ => ⟨x, y, z⟩⟩
theorem sm3_mem : ∀ {b : List Stp} {s : Stp}, sm3L b → s ∈ b → s.sm3
  | [], _, _, h => by cases h
  | x :: b, s, o, h => by
    simp only [sm3L] at o
    rcases List.mem_cons.mp h with e | h
    · subst e
      exact o.1
    · exact sm3_mem o.2 h
mutual
theorem spell_len3 : ∀ s : Stp, s.sm3 → s.ok → s.spell.length ≤ 400 * s.steps * 3 ^ s.nest
  | .w l, h, o => by
    simp only [Stp.ok] at o
    simp only [Stp.spell, Stp.steps, Stp.nest]
    omega
  | .r n b, h, o => by
    simp only [Stp.sm3] at h
    simp only [Stp.ok] at o
    have ih := spellL_len3 b h.2 o.2.2
    simp only [Stp.spell, Stp.steps, Stp.nest]
    rw [List.length_flatten, List.map_replicate, List.sum_replicate_nat]
    have e : 3 ^ (1 + nestL b) = 3 * 3 ^ nestL b := by rw [Nat.add_comm, Nat.pow_succ, Nat.mul_comm]
    rw [e]
    have m1 : n.toNat * (spellL b).length ≤ 3 * (400 * stepsL b * 3 ^ nestL b) := Nat.mul_le_mul (by omega) ih
    have e2 : 3 * (400 * stepsL b * 3 ^ nestL b) = 400 * stepsL b * (3 * 3 ^ nestL b) := Nat.mul_left_comm _ _ _
    have m2 : 400 * stepsL b * (3 * 3 ^ nestL b) ≤ 400 * (1 + stepsL b) * (3 * 3 ^ nestL b) := Nat.mul_le_mul_right _ (by omega)
    omega
theorem spellL_len3 : ∀ b : List Stp, sm3L b → okL b → (spellL b).length ≤ 400 * stepsL b * 3 ^ nestL b
  | [], _, _ => by simp only [spellL, stepsL, nestL]; decide
  | s :: b, h, o => by
    simp only [sm3L] at h
    simp only [okL] at o
    have i1 := spell_len3 s h.1 o.1
    have i2 := spellL_len3 b h.2 o.2
    simp only [spellL, stepsL, nestL]
    rw [List.length_append]
    have p1 : 3 ^ s.nest ≤ 3 ^ (max s.nest (nestL b)) := Nat.pow_le_pow_right (by decide) (by omega)
    have p2 : 3 ^ nestL b ≤ 3 ^ (max s.nest (nestL b)) := Nat.pow_le_pow_right (by decide) (by omega)
    have m1 : 400 * s.steps * 3 ^ s.nest ≤ 400 * s.steps * 3 ^ (max s.nest (nestL b)) := Nat.mul_le_mul_left _ p1
    have m2 : 400 * stepsL b * 3 ^ nestL b ≤ 400 * stepsL b * 3 ^ (max s.nest (nestL b)) := Nat.mul_le_mul_left _ p2
    have e : 400 * (s.steps + stepsL b) * 3 ^ (max s.nest (nestL b)) = 400 * s.steps * 3 ^ (max s.nest (nestL b)) + 400 * stepsL b * 3 ^ (max s.nest (nestL b)) := by rw [Nat.mul_add, Nat.add_mul]
    omega
end
theorem spellL_small3 {b : List Stp} (h : sm3L b) (o : okL b) (hs : stepsL b ≤ 12) (hn : nestL b ≤ 3) : (spellL b).length ≤ 129600 := by
  have i := spellL_len3 b h o
  have p : 3 ^ nestL b ≤ 3 ^ 3 := Nat.pow_le_pow_right (by decide) hn
  have m : 400 * stepsL b * 3 ^ nestL b ≤ 4800 * 3 ^ 3 := Nat.mul_le_mul (by omega) p
  omega
def spSplB (K : PySem.W.Frag) (m : Nat) : Sp := fun xs H Q _ => ∃ (t : Addr) (ss : List Stp), xs = [.ref t] ∧ PgA K H t ss ∧ okL ss ∧ sm3L ss ∧ nestL ss ≤ m ∧ nestL ss ≤ 3 ∧ stepsL ss ≤ 12 ∧ ∀ H', Same H H' → Q (.str (wS (spellL ss))) H'
/-- a word, however often -/
def rRepB : R2 := fun x y H Q => ∃ (wd : List Bool) (n : Int), x = .str (wS wd) ∧ y = .int n ∧ 1 ≤ n ∧ n ≤ 3 ∧ wd.length ≤ 130000 ∧ Q (.str (wS (List.replicate n.toNat wd).flatten)) H
theorem op_repB {X : Cx} : OpR X (binaryOp .Mult) rRepB := by
  intro pins s σ H x y v u Q I rx ry h
  obtain ⟨wd, n, rfl, rfl, n0, n1, w1, q⟩ := h
  obtain ⟨t, rfl⟩ := rx
  obtain ⟨t', rfl⟩ := ry
  have e1 : ¬ (n < 1) := by omega
  have hl := wS_len wd
  have hm : wd.length * n.toNat ≤ 390000 := Nat.mul_le_mul w1 (show n.toNat ≤ 3 by omega)
  refine P.mul_str ?_ ?_ ?_ ?_
  · have h1 : ¬ n < -(2 ^ 63 : Int) := by omega
    have h2 : ¬ n ≥ 2 ^ 63 := by omega
    rw [decide_eq_false h1, decide_eq_false h2]
    rfl
  · intro _ _
    rw [hl]
    have : (wd.length : Int) ≤ (2 ^ 63 - 1) / n := (Int.le_ediv_iff_mul_le (by omega)).mpr (by
      have : ((wd.length * n.toNat : Nat) : Int) ≤ 390000 := by omega
      rw [Int.natCast_mul, Int.toNat_of_nonneg (by omega)] at this
      omega)
    omega
  · intro _ _
    refine decide_eq_false ?_
    rw [hl, sizeLine_eq]
    omega
  · rw [if_neg e1]
    by_cases z : ((n == 1) || ((wS wd).length == 0)) = true
    · rw [if_pos z]
      have ez : wS wd = wS (List.replicate n.toNat wd).flatten := by
        rw [Bool.or_eq_true] at z
        rcases z with z | z
        · have : n = 1 := by simpa using z
          subst this
          show wS wd = wS (wd ++ [])
          rw [List.append_nil]
        · rw [hl] at z
          have : wd = [] := List.length_eq_zero_iff.mp (by simpa using z)
          subst this
          congr 1
          have : ∀ k : Nat, (List.replicate k ([] : List Bool)).flatten = [] := fun k => by
            induction k with
            | zero => rfl
            | succ k ih => rw [List.replicate_succ, List.flatten_cons, ih]; rfl
          rw [this]
      rw [ez] at *
      first | exact ⟨.str (wS (List.replicate n.toNat wd).flatten), H, I, ⟨_, rfl⟩, q⟩ | exact ⟨.str (wS (List.replicate n.toNat wd).flatten), H, I.tok _, ⟨_, rfl⟩, q⟩
    · rw [if_neg z]
      have ez : (⟨(List.replicate n.toNat (wS wd).cps).foldl (· ++ ·) #[]⟩ : Str) = wS (List.replicate n.toNat wd).flatten := by
        show (⟨(List.replicate n.toNat (wd.map ltr).toArray).foldl (· ++ ·) #[]⟩ : Str) = _
        rw [rep_words]
        unfold wS
        simp
      rw [ez]
      refine ⟨?_, .str (wS (List.replicate n.toNat wd).flatten), H, I.tok _, ⟨_, rfl⟩, q⟩
      rw [wS_len, List.length_flatten, List.map_replicate, List.sum_replicate_nat, sizeLine_eq, Nat.mul_comm]
      omega
theorem last_at {α : Type} {l : List α} {v : α} : atI (l ++ [v]) (-1) = some v := by
  have hl : (l ++ [v]).length = l.length + 1 := by rw [List.length_append]; rfl
  unfold atI
  have e : ixN (l ++ [v]).length (-1) = some l.length := by
    unfold ixN
    rw [if_neg (by decide), hl]
    rw [if_pos (by omega)]
    congr 1
    omega
  rw [e]
  show (l ++ [v])[l.length]? = some v
  rw [List.getElem?_append_right (Nat.le_refl _), Nat.sub_self]
  rfl
abbrev sTimes : Stmt := topS 25
theorem scTimes : FnScope ["_law_pool_here", "_law_small"] ["_law_pool_here", "_law_small"] (defScope sTimes) := ⟨rfl, rfl, rfl, by decide +kernel, rfl, by decide +kernel, by decide +kernel⟩
abbrev sLSteps : Stmt := topS 26
abbrev nLSt : List Str := ["_law_step", "_law_inner"]
theorem scLSteps : FnScope nLSt ["_law_step"] (defScope sLSteps) := ⟨rfl, rfl, rfl, by decide +kernel, rfl, by decide +kernel, by decide +kernel⟩
abbrev sLProg : Stmt := topS 27
abbrev nLProg : List Str := ["_law_pool_here", "_law_deep", "_law_most", "_law_small", "_law_found", "_law_left"]
theorem scLProg : FnScope nLProg ["_law_pool_here", "_law_deep", "_law_most", "_law_small"] (defScope sLProg) := ⟨rfl, rfl, rfl, by decide +kernel, rfl, by decide +kernel, by decide +kernel⟩
abbrev nSpelt : List Str := ["_law_parts", "_law_found", "_law_step"]
section
variable {P : Program} {w : World} {K : PySem.W.Frag} {mg : Str → Option Value} {base : Heap}
theorem ok_times {f fD : Addr} {fd fdD : FuncData} (F : Fun K "_law_times" "_law_times" sTimes f fd) (GD : FnOk P w K mg base CX0 1 fD fdD ["_law_pool_here", "_law_most"] spDrawW) (bD : Binds K fdD ["_law_pool_here", "_law_most"] []) (gD : mg "_law_draw" = some (.ref fD)) (kD : PySem.W.keepIn K (.ref fD) = true) :
    FnOk P w K mg base CX0 2 f fd ["_law_pool_here", "_law_small"] spTimes := by
  refine F.ok scTimes (fun vs H Q E h => ?_) (fun cdv A outer s H vs Q E hr h => ?_)
  · obtain ⟨p, b, rfl, _⟩ := h
    rfl
  · obtain ⟨p, b, rfl, po, q⟩ := h
    refine ⟨_, pss_cons (ps_if (pt_val (pv 1)) (pss_one (ps_ret (pe_op op_add pe_int (pe_call GD hr (by rfl) gD kD bD .nil pass0 (pa_cons (pv 0) (pa_cons pe_int pa_nil)))))) pss_nil)
      (pss_one (ps_ret (pe_ix ix_list (pe_lst (pa_cons pe_int (pa_cons pe_int (pa_cons pe_int (pa_cons (pe_op op_add pe_int (pe_call GD hr (by rfl) gD kD bD .nil pass0 (pa_cons (pv 0) (pa_cons pe_int pa_nil))))
          (pa_cons (pe_op op_add pe_int (pe_call GD hr (by rfl) gD kD bD .nil pass0 (pa_cons (pv 0) (pa_cons (pe_op op_pow pe_int pe_int) pa_nil)))) (pa_cons (pe_op op_pow pe_int pe_int) pa_nil)))))))
        (pe_call GD hr (by rfl) gD kD bD .nil pass0 (pa_cons (pv 0) (pa_cons pe_int pa_nil))) (fun _ _ => rfl)))), ?_⟩
    have t30 := ten30
    cases b with
    | true =>
      refine ⟨_, rfl, true, rfl, ?_⟩
      refine ⟨_, rfl, p, 3, rfl, po, by decide, by decide, fun H1 r k1 po1 r0 r1 => ?_⟩
      exact ⟨_, _, rfl, rfl, q H1 _ k1 po1 (by omega) (by omega) (fun _ => by omega)⟩
    | false =>
      refine ⟨_, rfl, false, rfl, ?_⟩
      refine ⟨_, rfl, p, 9, rfl, po, by decide, by decide, fun H1 r k1 po1 r0 r1 => ?_⟩
      refine ⟨_, _, rfl, rfl, _, rfl, _, _, rfl, rfl, ⟨by decide, by decide, by decide⟩, p, _, rfl, po1, by decide, by decide, fun H2 r2 k2 po2 r20 r21 => ?_⟩
      refine ⟨_, _, rfl, rfl, _, _, rfl, rfl, ⟨by decide, by decide, by decide⟩, by show 6 ≤ sizeLine; decide, fun L nL => ?_⟩
      have sL := same_new (o := .lst (([1, 2, 3, 4 + r, 1 + r2, 10 ^ (30 : Int).toNat] : List Int).map V.int)) nL
      have nLp : L ≠ p := Ne.symm (po2.ne nL)
      refine ⟨_, rfl, p, 6, rfl, po2.same sL, by decide, by decide, fun H3 r3 k3 po3 r30 r31 => ?_⟩
      have e12 : (10 : Int) ^ (12 : Int).toNat = 1000000000000 := by decide +kernel
      have e30 : (10 : Int) ^ (30 : Int).toNat = 1000000000000000000000000000000 := by decide +kernel
      rw [e12] at r21
      obtain ⟨x, hxm, hat⟩ : ∃ x : Int, (1 ≤ x ∧ x ≤ 10 ^ 30) ∧ atI (([1, 2, 3, 4 + r, 1 + r2, 10 ^ (30 : Int).toNat] : List Int).map V.int) r3 = some (.int x) := by
        have : r3 = 0 ∨ r3 = 1 ∨ r3 = 2 ∨ r3 = 3 ∨ r3 = 4 ∨ r3 = 5 := by omega
        rcases this with z | z | z | z | z | z <;> subst z
        · exact ⟨1, by omega, rfl⟩
        · exact ⟨2, by omega, rfl⟩
        · exact ⟨3, by omega, rfl⟩
        · exact ⟨4 + r, by omega, rfl⟩
        · exact ⟨1 + r2, by omega, rfl⟩
        · exact ⟨10 ^ (30 : Int).toNat, by omega, rfl⟩
      refine ⟨L, _, r3, .int x, rfl, rfl, SqL.of (k3 _ _ nLp upd_same), hat, ?_⟩
      exact q H3 x (((k1.trans k2).trans (.of_same sL)).trans k3) po3 hxm.1 hxm.2 (fun z => Bool.noConfusion z)
theorem ok_lsteps {f : Addr} {fd : FuncData} (F : Fun K "_law_steps" "_law_steps" sLSteps f fd) (bS : Binds K fd ["_law_step"] []) (gS : mg "_law_steps" = some (.ref f)) (kS : PySem.W.keepIn K (.ref f) = true)
    (mi : mg "isinstance" = none) (mS : mg "str" = none) (mU : mg "sum" = none) : ∀ m, FnOk P w K mg base CX0 (m + 1) f fd ["_law_step"] (spLSt K m)
  | 0 => by
    refine F.ok scLSteps (fun vs H Q E h => ?_) (fun cdv A outer s H vs Q E hr h => ?_)
    · obtain ⟨v, st, rfl, _⟩ := h
      rfl
    · obtain ⟨v, st, rfl, hs, hn, h60, q⟩ := h
      refine ⟨_, pss_one (ps_ret (pe_ifExp (pt_val (pe_callB call_isi (by rfl) mi (by decide +kernel) (pa_cons (pv 0) (pa_cons (pe_bltn (v := .ty "str") (by rfl) mS (by decide +kernel) rfl) pa_nil)))) pe_int pe_never)), ?_⟩
      cases hs with
      | w l =>
        refine ⟨_, rfl, _, _, _, _, true, rfl, .ty "str", .base (.str _), kit_ty (by decide +kernel), true, rfl, ?_⟩
        exact q H (Same.refl _)
      | r h1 h2 h3 =>
        simp only [Stp.nest] at hn
        omega
  | m + 1 => by
    have GS := ok_lsteps F bS gS kS mi mS mU m
    refine F.ok scLSteps (fun vs H Q E h => ?_) (fun cdv A outer s H vs Q E hr h => ?_)
    · obtain ⟨v, st, rfl, _⟩ := h
      rfl
    · obtain ⟨v, st, rfl, hs, hn, h60, q⟩ := h
      have nd := scLSteps.nd
      refine ⟨_, pss_one (ps_ret (pe_ifExp (pt_val (pe_callB call_isi (by rfl) mi (by decide +kernel) (pa_cons (pv 0) (pa_cons (pe_bltn (v := .ty "str") (by rfl) mS (by decide +kernel) rfl) pa_nil)))) pe_int
          (pe_op op_add pe_int (pe_callB (cr_sum rfl) (by rfl) mU (by decide +kernel) (pa_cons
            (pe_lc (own := [("_law_inner", 1)]) (g := gName 1) (tt := tYes) rfl nd (pi_tup (pe_ix ix_tup (pv 0) pe_int (fun _ _ => rfl))) (blkOk_by (N := nLSt) (sc := defScope sLSteps) (by decide +kernel))
              (fun _ _ _ _ _ => pg_name (i := 1) nd rfl (Or.inl rfl)) (fun _ _ _ _ _ => pts_nil) (fun _ _ _ _ _ => pe_call GS hr (by rfl) gS kS bS .nil pass0 (pa_cons (pv 1) pa_nil))) pa_nil))))), ?_⟩
      cases hs with
      | w l =>
        refine ⟨_, rfl, _, _, _, _, true, rfl, .ty "str", .base (.str _), kit_ty (by decide +kernel), true, rfl, ?_⟩
        exact q H (Same.refl _)
      | @r t b n xs ss h1 h2 h3 =>
        simp only [Stp.nest] at hn
        simp only [Stp.steps] at h60 q
        refine ⟨_, rfl, _, _, _, _, false, rfl, .ty "str", tyx_tup h1, kit_ty (by decide +kernel), false, rfl, ?_⟩
        refine ⟨_, rfl, t, _, 2, .ref b, rfl, rfl, h1, rfl, b, rfl, ⟨_, h2⟩, fun D nD => ?_⟩
        have sl := h3.len
        have lb : ss.length ≤ stepsL ss := by
          clear h3 h60 q hn sl
          induction ss with
          | nil => exact Nat.le_refl _
          | cons s ss ih =>
            simp only [stepsL, List.length_cons]
            have := steps_pos s
            omega
        refine lc_tup (K := K) (a := b) (xs := xs) (fun j G => G D = some (.lst (((ss.take j).map fun s => ((s.steps : Nat) : Int)).map V.int)) ∧ (∀ b o, b ≠ D → H b = some o → G b = some o)) ?_ ?_ ?_ ?_
        · exact ⟨upd_same, fun b o n e => by rw [upd_ne n]; exact e⟩
        · rintro j G _ ⟨a1, a2⟩
          exact same_seqT (fun b o e => a2 b o (ne_of_none e nD) e) h2
        · rintro j x G hj ⟨a1, a2⟩
          have sG : Same H G := fun b o e => a2 b o (ne_of_none e nD) e
          obtain ⟨s1, e1, a3⟩ := h3.get hj
          have m1 := List.mem_of_getElem? e1
          have n1 := nest_mem m1
          obtain ⟨_, t2⟩ := stepsL_take e1
          have jl := (List.getElem?_eq_some_iff.mp e1).1
          refine ⟨rfl, _, rfl, x, s1, rfl, a3.kt (.of_same sG), by omega, by omega, fun G1 s2 => ?_⟩
          refine ⟨_, s2 _ _ a1, ?_, ?_, fun b o n e => ?_⟩
          · rw [List.length_map, List.length_map, List.length_take]
            exact small64 (by omega)
          · rw [upd_same, List.take_add_one, e1, List.map_append, List.map_append]
            rfl
          · rw [upd_ne n]
            exact s2 _ _ (a2 b o n e)
        · rintro G ⟨a1, a2⟩
          have sG : Same H G := fun b o e => a2 b o (ne_of_none e nD) e
          rw [sl, List.take_length] at a1
          refine ⟨D, _, rfl, SqL.of a1, ?_⟩
          have es : ∀ ss : List Stp, (ss.map fun s => ((s.steps : Nat) : Int)).sum = ((stepsL ss : Nat) : Int) := fun ss => by
            induction ss with
            | nil => rfl
            | cons s ss ih =>
              rw [List.map_cons, List.sum_cons, ih]
              simp only [stepsL]
              omega
          rw [es]
          refine ⟨_, _, rfl, rfl, ?_⟩
          have z := q G sG
          have e : (1 : Int) + ((stepsL ss : Nat) : Int) = ((1 + stepsL ss : Nat) : Int) := by omega
          show Q (V.int ((1 : Int) + ((stepsL ss : Nat) : Int))) G
          rw [e]
          exact z
end
end KS
namespace KS
open PySem PySem.Spec PyProof.Rows L2 RZ
theorem cut22 {R : L2.St → Hp → Prop} {Pm : L2.St → Hp → Prop} {goal : Prop} (main : (∀ σ' H', Pm σ' H' → R σ' H') → goal) (fin : ∀ σ' H', Pm σ' H' → R σ' H') : goal := main fin
theorem sts_kx {K : PySem.W.Frag} {p : Addr} {H H' : Hp} (po : PoolO (H p)) (k : KeepX p H H') {xs : List V} {ss : List Stp} (h : StsA K H xs ss) : StsA K H' xs ss := h.kt (.of_keepX po k)
theorem len_steps : ∀ ss : List Stp, ss.length ≤ stepsL ss
  | [] => Nat.le_refl _
  | s :: ss => by
    have := len_steps ss
    have := steps_pos s
    simp only [stepsL, List.length_cons]
    omega
def spLPrG (K : PySem.W.Frag) (m : Nat) : Sp := fun xs H Q _ => ∃ (p : Addr) (d : Nat) (most : Nat) (sml : Bool), xs = [.ref p, .int (d : Nat), .int (most : Nat), .bl sml] ∧ PoolO (H p) ∧ 1 ≤ d ∧ d ≤ m + 1 ∧ d ≤ 5 ∧ most ≤ 60 ∧
  ∀ H' t ss, KeepX p H H' → PoolO (H' p) → PgA K H' t ss → okL ss → nestL ss ≤ d - 1 → stepsL ss ≤ most → Q (.ref t) H'
section
variable {P : Program} {w : World} {K : PySem.W.Frag} {mg : Str → Option Value} {base : Heap}
theorem ok_lprogG {f fD fT fW fS : Addr} {fd fdD fdT fdW fdS : FuncData} (F : Fun K "_law_program" "_law_program" sLProg f fd) (bP : Binds K fd ["_law_pool_here", "_law_deep", "_law_most", "_law_small"] []) (gP : mg "_law_program" = some (.ref f)) (kP : PySem.W.keepIn K (.ref f) = true)
    (GD : FnOk P w K mg base CX0 1 fD fdD ["_law_pool_here", "_law_most"] spDraw) (bD : Binds K fdD ["_law_pool_here", "_law_most"] []) (gD : mg "_law_draw" = some (.ref fD)) (kD : PySem.W.keepIn K (.ref fD) = true)
    (GT : FnOk P w K mg base CX0 2 fT fdT ["_law_pool_here", "_law_small"] spTimes) (bT : Binds K fdT ["_law_pool_here", "_law_small"] []) (gT : mg "_law_times" = some (.ref fT)) (kT : PySem.W.keepIn K (.ref fT) = true)
    (GW : FnOk P w K mg base CX0 2 fW fdW ["_law_pool_here", "_law_most"] (spLWord K)) (bW : Binds K fdW ["_law_pool_here", "_law_most"] []) (gW : mg "_law_word" = some (.ref fW)) (kW : PySem.W.keepIn K (.ref fW) = true)
    (GS : FnOk P w K mg base CX0 5 fS fdS ["_law_step"] (spLSt K 4)) (bS : Binds K fdS ["_law_step"] []) (gS : mg "_law_steps" = some (.ref fS)) (kS : PySem.W.keepIn K (.ref fS) = true)
    (mT : mg "tuple" = none) : ∀ m, FnOk P w K mg base CX0 (m + 6) f fd ["_law_pool_here", "_law_deep", "_law_most", "_law_small"] (spLPrG K m) := by
  intro m
  induction m with
  | zero =>
    refine F.ok scLProg (fun vs H Q E h => ?_) (fun cdv A outer s H vs Q E hr h => ?_)
    · obtain ⟨p, d, most, sml, rfl, _⟩ := h
      rfl
    · obtain ⟨p, d, most, sml, rfl, po, d1, dm, d3, m12, q⟩ := h
      have nd := scLProg.nd
      have hr1 : Room 1 _ := hr.mono (by omega)
      have hr2 : Room 2 _ := hr.mono (by omega)
      have hr5 : Room 5 _ := hr.mono (by omega)
      refine ⟨_, pss_cons (ps_par (i := 4) (j := 5) (by rfl) nd rfl rfl (by decide) rfl rfl (pa_cons (pe_lst pa_nil) (pa_cons (pe_call GD hr1 (by rfl) gD kD bD .nil pass0 (pa_cons (pv 0) (pa_cons (pe_op op_add (pv 2) pe_int) pa_nil))) pa_nil)) (by rfl))
        (pss_cons (ps_while PassesOwn.never (pt_cmpR op_gt (pv 5) pe_int (nomark _))
          (pss_cons (ps_if (PW.pt (pw_and (pt_cmpR op_eq (pe_call GD hr1 (by rfl) gD kD bD .nil pass0 (pa_cons (pv 0) (pa_cons pe_int pa_nil))) pe_int (nomark _)) (pw_and1 (pt_cmpR op_gt (pv 1) pe_int (nomark _))))) (pss_one ps_never)
            (pss_one (ps_expr (pe_bm PySem.F.plainAttrs_list PySem.F.slot_list_append PySem.F.type_list_append mt_append (pv 4) (pa_cons (pe_op op_add_str (pe_ix ix_str pe_str (pe_call GD hr1 (by rfl) gD kD bD .nil pass0 (pa_cons (pv 0) (pa_cons pe_int pa_nil))) (fun _ _ => rfl)) (pe_call GW hr2 (by rfl) gW kW bW .nil pass0 (pa_cons (pv 0) (pa_cons (pe_ix ix_list (pe_lst (pa_cons pe_int (pa_cons pe_int (pa_cons pe_int pa_nil)))) (pe_call GD hr1 (by rfl) gD kD bD .nil pass0 (pa_cons (pv 0) (pa_cons pe_int pa_nil))) (fun _ _ => rfl)) pa_nil)))) pa_nil)))))
          (pss_one (ps_set (i := 5) nd rfl (.inl rfl) (pe_op op_sub (pv 5) (pe_call GS hr5 (by rfl) gS kS bS .nil pass0 (pa_cons (pe_ix ix_list (pv 4) (pe_un un_neg pe_int) (fun _ _ => rfl)) pa_nil)))))))
        (pss_one (ps_ret (pe_callTy call_tuple_of (by rfl) mT (by decide +kernel) (pa_cons (pv 4) pa_nil))))), ?_⟩
      refine ⟨by show 0 ≤ sizeLine; decide, fun L nL => ?_⟩
      have sL := same_new (o := .lst []) nL
      have hL0 : upd H L (.lst []) L = some (.lst []) := upd_same
      have nLp : L ≠ p := Ne.symm (po.ne nL)
      refine ⟨_, rfl, _, rfl, _, _, rfl, rfl, p, (most : Int) + 1, rfl, po.same sL, by omega, by omega, fun H2 r k2 po2 r0 r1 => ⟨_, _, rfl, ?_⟩⟩
      obtain ⟨rn, rfl⟩ := Int.eq_ofNat_of_zero_le r0
      have hL2 := k2 _ _ nLp hL0
      have kH2 : ∀ b o, b ≠ p → b ≠ L → H b = some o → H2 b = some o := fun b o n1 n2 e => k2 b o n1 (sL _ _ e)
      refine ⟨fun n σ G => ∃ (left : Nat) (xs : List V) (ss : List Stp), left = n ∧ σ = [some (.ref p), some (.int (d : Nat)), some (.int (most : Nat)), some (.bl sml), some (.ref L), some (.int (left : Nat))] ∧ PoolO (G p) ∧ G L = some (.lst xs) ∧ StsA K G xs ss ∧ okL ss ∧ nestL ss ≤ d - 1 ∧ stepsL ss + left ≤ most ∧ (∀ b o, b ≠ p → b ≠ L → H b = some o → G b = some o), ?_, ?_⟩
      · exact ⟨rn, rn, [], [], rfl, rfl, po2, hL2, .nil, trivial, by simp only [nestL]; omega, by simp only [stepsL]; omega, kH2⟩
      · rintro n σ G ⟨left, xs, ss, rfl, rfl, pog, hL, hs, ok, hn, hst, kG⟩
        refine ⟨_, rfl, _, _, rfl, rfl, ?_⟩
        by_cases c0 : 0 < left
        rotate_left
        · refine ⟨false, bl_false (show ¬ (left : Int) > 0 by omega), ?_⟩
          refine ⟨_, rfl, L, xs, rfl, .inl ⟨SqL.of hL, fun t nt => ?_⟩⟩
          have st := same_new (o := .tup xs) nt
          refine q _ t ss (fun b o n e => st _ _ (kG b o n (ne_of_none e nL) e)) (pog.same st) ⟨xs, SqT.of upd_same, hs.kt (.of_same st)⟩ ok hn (by omega)
        refine ⟨true, bl_true (show (left : Int) > 0 by omega), fun σ' G' => ∃ n', n' < left ∧ ∃ (left : Nat) (xs : List V) (ss : List Stp), left = n' ∧ σ' = [some (.ref p), some (.int (d : Nat)), some (.int (most : Nat)), some (.bl sml), some (.ref L), some (.int (left : Nat))] ∧ PoolO (G' p) ∧ G' L = some (.lst xs) ∧ StsA K G' xs ss ∧ okL ss ∧ nestL ss ≤ d - 1 ∧ stepsL ss + left ≤ most ∧ (∀ b o, b ≠ p → b ≠ L → H b = some o → G' b = some o), fun σ' G' z => z, ?_⟩
        refine' cut22 (Pm := fun σ' H' => ∃ (x : V) (s1 : Stp), σ' = [some (.ref p), some (.int (d : Nat)), some (.int (most : Nat)), some (.bl sml), some (.ref L), some (.int (left : Nat))] ∧ PoolO (H' p) ∧ H' L = some (.lst (xs ++ [x])) ∧ StsA K H' xs ss ∧ StA K H' x s1 ∧ s1.ok ∧ s1.nest ≤ d - 1 ∧ s1.steps ≤ left ∧ (∀ b o, b ≠ p → b ≠ L → G b = some o → H' b = some o)) (fun fin => ?_) ?_
        rotate_left
        · refine ⟨_, rfl, p, 4, rfl, pog, by decide, by decide, fun G1 r1 k1 po1 r10 r11 => ?_⟩
          refine ⟨rfl, _, rfl, ite2 (fun e => ?_) (fun e => ?_)⟩
          · refine ⟨_, rfl, _, _, rfl, rfl, false, bl_false (show ¬ (d : Int) > 1 by omega), ?_⟩
            refine ⟨_, rfl, .inl ⟨rfl, _, SqL.of (k1 _ _ nLp hL)⟩, ?_⟩
            refine ⟨_, rfl, p, 2, rfl, po1, by decide, by decide, fun G2 r2 k2 po2 r20 r21 => ?_⟩
            obtain ⟨b, hb⟩ : ∃ b : Bool, atI ("RC" : Str).cps.toList r2 = some (ltr b) := by
              have : r2 = 0 ∨ r2 = 1 := by omega
              rcases this with rfl | rfl
              · exact ⟨false, by decide +kernel⟩
              · exact ⟨true, by decide +kernel⟩
            refine ⟨_, r2, ltr b, rfl, rfl, by decide, hb, _, rfl, by show 3 ≤ sizeLine; decide, fun M nM => ?_⟩
            have sM := same_new (o := .lst [.int 0, .int 3, .int 5]) nM
            have nMp : M ≠ p := Ne.symm (po2.ne nM)
            refine ⟨_, rfl, p, 3, rfl, po2.same sM, by decide, by decide, fun G3 r3 k3 po3 r30 r31 => ?_⟩
            obtain ⟨mm, hm5, hat⟩ : ∃ mm : Nat, mm ≤ 5 ∧ atI ([.int 0, .int 3, .int 5] : List V) r3 = some (.int (mm : Nat)) := by
              have : r3 = 0 ∨ r3 = 1 ∨ r3 = 2 := by omega
              rcases this with rfl | rfl | rfl
              · exact ⟨0, by decide, rfl⟩
              · exact ⟨3, by decide, rfl⟩
              · exact ⟨5, by decide, rfl⟩
            refine ⟨M, _, r3, .int (mm : Nat), rfl, rfl, SqL.of (k3 _ _ nMp upd_same), hat, p, mm, rfl, po3, by omega, fun G4 l k4 po4 ll => ?_⟩
            have kx := (((k1.trans k2).trans (.of_same sM)).trans k3).trans k4
            have hL4 := kx _ _ nLp hL
            refine ⟨_, _, rfl, rfl, by show (wS [b]).length + (wS l).length ≤ sizeLine; rw [wS_len, wS_len, sizeLine_eq]; show 1 + l.length ≤ _; omega, L, _, _, rfl, rfl, hL4, by rw [hs.len]; have := len_steps ss; exact small64 (by omega), ?_⟩
            have ex : V.str ((⟨#[ltr b]⟩ : Str) ++ wS l) = V.str (wS (b :: l)) := congrArg V.str (wS_app [b] l)
            rw [ex]
            try dsimp only []
            refine fin _ _ ⟨V.str (wS (b :: l)), .w (b :: l), rfl, ?_, upd_same, ?_, .w _, ?_, ?_, ?_, fun c o n1 n2 e => ?_⟩
            · rw [upd_ne (Ne.symm nLp)]
              exact po4
            · exact (sts_kx pog kx hs).kt (KT.upd hL4)
            · simp only [Stp.ok, List.length_cons]
              exact ⟨List.cons_ne_nil _ _, by omega⟩
            · simp only [Stp.nest]
              omega
            · simp only [Stp.steps]
              omega
            · rw [upd_ne n2]
              exact kx c o n1 e
          · skip
            refine ⟨_, rfl, .inl ⟨rfl, _, SqL.of (k1 _ _ nLp hL)⟩, ?_⟩
            refine ⟨_, rfl, p, 2, rfl, po1, by decide, by decide, fun G2 r2 k2 po2 r20 r21 => ?_⟩
            obtain ⟨b, hb⟩ : ∃ b : Bool, atI ("RC" : Str).cps.toList r2 = some (ltr b) := by
              have : r2 = 0 ∨ r2 = 1 := by omega
              rcases this with rfl | rfl
              · exact ⟨false, by decide +kernel⟩
              · exact ⟨true, by decide +kernel⟩
            refine ⟨_, r2, ltr b, rfl, rfl, by decide, hb, _, rfl, by show 3 ≤ sizeLine; decide, fun M nM => ?_⟩
            have sM := same_new (o := .lst [.int 0, .int 3, .int 5]) nM
            have nMp : M ≠ p := Ne.symm (po2.ne nM)
            refine ⟨_, rfl, p, 3, rfl, po2.same sM, by decide, by decide, fun G3 r3 k3 po3 r30 r31 => ?_⟩
            obtain ⟨mm, hm5, hat⟩ : ∃ mm : Nat, mm ≤ 5 ∧ atI ([.int 0, .int 3, .int 5] : List V) r3 = some (.int (mm : Nat)) := by
              have : r3 = 0 ∨ r3 = 1 ∨ r3 = 2 := by omega
              rcases this with rfl | rfl | rfl
              · exact ⟨0, by decide, rfl⟩
              · exact ⟨3, by decide, rfl⟩
              · exact ⟨5, by decide, rfl⟩
            refine ⟨M, _, r3, .int (mm : Nat), rfl, rfl, SqL.of (k3 _ _ nMp upd_same), hat, p, mm, rfl, po3, by omega, fun G4 l k4 po4 ll => ?_⟩
            have kx := (((k1.trans k2).trans (.of_same sM)).trans k3).trans k4
            have hL4 := kx _ _ nLp hL
            refine ⟨_, _, rfl, rfl, by show (wS [b]).length + (wS l).length ≤ sizeLine; rw [wS_len, wS_len, sizeLine_eq]; show 1 + l.length ≤ _; omega, L, _, _, rfl, rfl, hL4, by rw [hs.len]; have := len_steps ss; exact small64 (by omega), ?_⟩
            have ex : V.str ((⟨#[ltr b]⟩ : Str) ++ wS l) = V.str (wS (b :: l)) := congrArg V.str (wS_app [b] l)
            rw [ex]
            try dsimp only []
            refine fin _ _ ⟨V.str (wS (b :: l)), .w (b :: l), rfl, ?_, upd_same, ?_, .w _, ?_, ?_, ?_, fun c o n1 n2 e => ?_⟩
            · rw [upd_ne (Ne.symm nLp)]
              exact po4
            · exact (sts_kx pog kx hs).kt (KT.upd hL4)
            · simp only [Stp.ok, List.length_cons]
              exact ⟨List.cons_ne_nil _ _, by omega⟩
            · simp only [Stp.nest]
              omega
            · simp only [Stp.steps]
              omega
            · rw [upd_ne n2]
              exact kx c o n1 e
        · rintro σ' G5 ⟨x, s1, rfl, po5, hL5, hs5, hx5, ok1, ne1, st1, k5⟩
          have sp := steps_pos s1
          refine ⟨_, rfl, _, rfl, _, rfl, L, _, -1, x, rfl, rfl, SqL.of hL5, last_at, x, s1, rfl, hx5, by omega, by omega, fun G6 s6 => ?_⟩
          refine ⟨_, _, rfl, rfl, ?_⟩
          have el : ((left : Int) - ((s1.steps : Nat) : Int)) = ((left - s1.steps : Nat) : Int) := by omega
          refine ⟨left - s1.steps, by omega, left - s1.steps, xs ++ [x], ss ++ [s1], rfl, ?_, po5.same s6, s6 _ _ hL5, (hs5.app (.cons hx5 .nil)).kt (.of_same s6), okL_app.mpr ⟨ok, ok1, trivial⟩, ?_, ?_, fun b o n1 n2 e => s6 _ _ (k5 b o n1 n2 (kG b o n1 n2 e))⟩
          · exact congrArg (fun z => [some (V.ref p), some (V.int (d : Nat)), some (V.int (most : Nat)), some (V.bl sml), some (V.ref L), some (V.int z)]) el
          · rw [nestL_app]
            simp only [nestL]
            omega
          · rw [stepsL_app]
            simp only [stepsL]
            omega
  | succ m ih =>
    refine F.ok scLProg (fun vs H Q E h => ?_) (fun cdv A outer s H vs Q E hr h => ?_)
    · obtain ⟨p, d, most, sml, rfl, _⟩ := h
      rfl
    · obtain ⟨p, d, most, sml, rfl, po, d1, dm, d3, m12, q⟩ := h
      have nd := scLProg.nd
      have hr1 : Room 1 _ := hr.mono (by omega)
      have hr2 : Room 2 _ := hr.mono (by omega)
      have hr5 : Room 5 _ := hr.mono (by omega)
      refine ⟨_, pss_cons (ps_par (i := 4) (j := 5) (by rfl) nd rfl rfl (by decide) rfl rfl (pa_cons (pe_lst pa_nil) (pa_cons (pe_call GD hr1 (by rfl) gD kD bD .nil pass0 (pa_cons (pv 0) (pa_cons (pe_op op_add (pv 2) pe_int) pa_nil))) pa_nil)) (by rfl))
        (pss_cons (ps_while PassesOwn.never (pt_cmpR op_gt (pv 5) pe_int (nomark _))
          (pss_cons (ps_if (PW.pt (pw_and (pt_cmpR op_eq (pe_call GD hr1 (by rfl) gD kD bD .nil pass0 (pa_cons (pv 0) (pa_cons pe_int pa_nil))) pe_int (nomark _)) (pw_and1 (pt_cmpR op_gt (pv 1) pe_int (nomark _))))) (pss_one (ps_expr (pe_bm PySem.F.plainAttrs_list PySem.F.slot_list_append PySem.F.type_list_append mt_append (pv 4) (pa_cons (pe_tup (pa_cons pe_str (pa_cons (pe_call GT hr2 (by rfl) gT kT bT .nil pass0 (pa_cons (pv 0) (pa_cons (pv 3) pa_nil))) (pa_cons (pe_call ih hr (by rfl) gP kP bP .nil pass0 (pa_cons (pv 0) (pa_cons (pe_op op_sub (pv 1) pe_int) (pa_cons (pe_op op_sub (pv 5) pe_int) (pa_cons (pv 3) pa_nil))))) pa_nil)))) pa_nil))))
            (pss_one (ps_expr (pe_bm PySem.F.plainAttrs_list PySem.F.slot_list_append PySem.F.type_list_append mt_append (pv 4) (pa_cons (pe_op op_add_str (pe_ix ix_str pe_str (pe_call GD hr1 (by rfl) gD kD bD .nil pass0 (pa_cons (pv 0) (pa_cons pe_int pa_nil))) (fun _ _ => rfl)) (pe_call GW hr2 (by rfl) gW kW bW .nil pass0 (pa_cons (pv 0) (pa_cons (pe_ix ix_list (pe_lst (pa_cons pe_int (pa_cons pe_int (pa_cons pe_int pa_nil)))) (pe_call GD hr1 (by rfl) gD kD bD .nil pass0 (pa_cons (pv 0) (pa_cons pe_int pa_nil))) (fun _ _ => rfl)) pa_nil)))) pa_nil)))))
          (pss_one (ps_set (i := 5) nd rfl (.inl rfl) (pe_op op_sub (pv 5) (pe_call GS hr5 (by rfl) gS kS bS .nil pass0 (pa_cons (pe_ix ix_list (pv 4) (pe_un un_neg pe_int) (fun _ _ => rfl)) pa_nil)))))))
        (pss_one (ps_ret (pe_callTy call_tuple_of (by rfl) mT (by decide +kernel) (pa_cons (pv 4) pa_nil))))), ?_⟩
      refine ⟨by show 0 ≤ sizeLine; decide, fun L nL => ?_⟩
      have sL := same_new (o := .lst []) nL
      have hL0 : upd H L (.lst []) L = some (.lst []) := upd_same
      have nLp : L ≠ p := Ne.symm (po.ne nL)
      refine ⟨_, rfl, _, rfl, _, _, rfl, rfl, p, (most : Int) + 1, rfl, po.same sL, by omega, by omega, fun H2 r k2 po2 r0 r1 => ⟨_, _, rfl, ?_⟩⟩
      obtain ⟨rn, rfl⟩ := Int.eq_ofNat_of_zero_le r0
      have hL2 := k2 _ _ nLp hL0
      have kH2 : ∀ b o, b ≠ p → b ≠ L → H b = some o → H2 b = some o := fun b o n1 n2 e => k2 b o n1 (sL _ _ e)
      refine ⟨fun n σ G => ∃ (left : Nat) (xs : List V) (ss : List Stp), left = n ∧ σ = [some (.ref p), some (.int (d : Nat)), some (.int (most : Nat)), some (.bl sml), some (.ref L), some (.int (left : Nat))] ∧ PoolO (G p) ∧ G L = some (.lst xs) ∧ StsA K G xs ss ∧ okL ss ∧ nestL ss ≤ d - 1 ∧ stepsL ss + left ≤ most ∧ (∀ b o, b ≠ p → b ≠ L → H b = some o → G b = some o), ?_, ?_⟩
      · exact ⟨rn, rn, [], [], rfl, rfl, po2, hL2, .nil, trivial, by simp only [nestL]; omega, by simp only [stepsL]; omega, kH2⟩
      · rintro n σ G ⟨left, xs, ss, rfl, rfl, pog, hL, hs, ok, hn, hst, kG⟩
        refine ⟨_, rfl, _, _, rfl, rfl, ?_⟩
        by_cases c0 : 0 < left
        rotate_left
        · refine ⟨false, bl_false (show ¬ (left : Int) > 0 by omega), ?_⟩
          refine ⟨_, rfl, L, xs, rfl, .inl ⟨SqL.of hL, fun t nt => ?_⟩⟩
          have st := same_new (o := .tup xs) nt
          refine q _ t ss (fun b o n e => st _ _ (kG b o n (ne_of_none e nL) e)) (pog.same st) ⟨xs, SqT.of upd_same, hs.kt (.of_same st)⟩ ok hn (by omega)
        refine ⟨true, bl_true (show (left : Int) > 0 by omega), fun σ' G' => ∃ n', n' < left ∧ ∃ (left : Nat) (xs : List V) (ss : List Stp), left = n' ∧ σ' = [some (.ref p), some (.int (d : Nat)), some (.int (most : Nat)), some (.bl sml), some (.ref L), some (.int (left : Nat))] ∧ PoolO (G' p) ∧ G' L = some (.lst xs) ∧ StsA K G' xs ss ∧ okL ss ∧ nestL ss ≤ d - 1 ∧ stepsL ss + left ≤ most ∧ (∀ b o, b ≠ p → b ≠ L → H b = some o → G' b = some o), fun σ' G' z => z, ?_⟩
        refine' cut22 (Pm := fun σ' H' => ∃ (x : V) (s1 : Stp), σ' = [some (.ref p), some (.int (d : Nat)), some (.int (most : Nat)), some (.bl sml), some (.ref L), some (.int (left : Nat))] ∧ PoolO (H' p) ∧ H' L = some (.lst (xs ++ [x])) ∧ StsA K H' xs ss ∧ StA K H' x s1 ∧ s1.ok ∧ s1.nest ≤ d - 1 ∧ s1.steps ≤ left ∧ (∀ b o, b ≠ p → b ≠ L → G b = some o → H' b = some o)) (fun fin => ?_) ?_
        rotate_left
        · refine ⟨_, rfl, p, 4, rfl, pog, by decide, by decide, fun G1 r1 k1 po1 r10 r11 => ?_⟩
          refine ⟨rfl, _, rfl, ite2 (fun e => ?_) (fun e => ?_)⟩
          · by_cases c1 : 1 < d
            · refine ⟨_, rfl, _, _, rfl, rfl, true, bl_true (show (d : Int) > 1 by omega), ?_⟩
              refine ⟨_, rfl, .inl ⟨rfl, _, SqL.of (k1 _ _ nLp hL)⟩, ?_⟩
              refine ⟨_, rfl, _, rfl, p, sml, rfl, po1, fun G2 n k2 po2 n1 n30 _ => ?_⟩
              have e1 : ((d : Int) - 1) = ((d - 1 : Nat) : Int) := by omega
              have e2 : ((left : Int) - 1) = ((left - 1 : Nat) : Int) := by omega
              refine ⟨_, rfl, _, rfl, _, _, rfl, rfl, _, rfl, _, _, rfl, rfl, _, rfl, p, d - 1, left - 1, sml, ?_, po2, by omega, by omega, by omega, by omega, fun G3 t3 ss3 k3 po3 hp3 ok3 ne3 st3 => ?_⟩
              · show [V.ref p, V.int ((d : Int) - 1), V.int ((left : Int) - 1), V.bl sml] = _
                rw [e1, e2]
              refine ⟨by show 3 ≤ sizeLine; decide, fun T nT => ?_⟩
              have sT := same_new (o := .tup [.str "repeat", .int n, .ref t3]) nT
              have kx := ((k1.trans k2).trans k3).trans (.of_same sT)
              have hL4 := kx _ _ nLp hL
              have hT : upd G3 T (.tup [.str "repeat", .int n, .ref t3]) T = some (.tup [.str "repeat", .int n, .ref t3]) := upd_same
              have hp4 := hp3.kt (.of_same sT)
              have po4 := po3.same sT
              generalize upd G3 T (.tup [.str "repeat", .int n, .ref t3]) = G4 at sT kx hL4 hT hp4 po4
              refine ⟨L, _, _, rfl, rfl, hL4, by rw [hs.len]; have := len_steps ss; exact small64 (by omega), ?_⟩
              obtain ⟨ys, hy1, hy2⟩ := hp4
              have ku : KT K G4 (upd G4 L (.lst (xs ++ [.ref T]))) := KT.upd hL4
              try dsimp only []
              refine fin _ _ ⟨.ref T, .r n ss3, rfl, ?_, upd_same, ?_, .r (ku _ _ (SqT.of hT)) (ku _ _ hy1) (hy2.kt ku), ?_, ?_, ?_, fun c o n1 n2 e => ?_⟩
              · rw [upd_ne (Ne.symm nLp)]
                exact po4
              · exact (sts_kx pog kx hs).kt ku
              · simp only [Stp.ok]
                exact ⟨n1, n30, ok3⟩
              · simp only [Stp.nest]
                omega
              · simp only [Stp.steps]
                omega
              · rw [upd_ne n2]
                exact kx c o n1 e
            · refine ⟨_, rfl, _, _, rfl, rfl, false, bl_false (show ¬ (d : Int) > 1 by omega), ?_⟩
              refine ⟨_, rfl, .inl ⟨rfl, _, SqL.of (k1 _ _ nLp hL)⟩, ?_⟩
              refine ⟨_, rfl, p, 2, rfl, po1, by decide, by decide, fun G2 r2 k2 po2 r20 r21 => ?_⟩
              obtain ⟨b, hb⟩ : ∃ b : Bool, atI ("RC" : Str).cps.toList r2 = some (ltr b) := by
                have : r2 = 0 ∨ r2 = 1 := by omega
                rcases this with rfl | rfl
                · exact ⟨false, by decide +kernel⟩
                · exact ⟨true, by decide +kernel⟩
              refine ⟨_, r2, ltr b, rfl, rfl, by decide, hb, _, rfl, by show 3 ≤ sizeLine; decide, fun M nM => ?_⟩
              have sM := same_new (o := .lst [.int 0, .int 3, .int 5]) nM
              have nMp : M ≠ p := Ne.symm (po2.ne nM)
              refine ⟨_, rfl, p, 3, rfl, po2.same sM, by decide, by decide, fun G3 r3 k3 po3 r30 r31 => ?_⟩
              obtain ⟨mm, hm5, hat⟩ : ∃ mm : Nat, mm ≤ 5 ∧ atI ([.int 0, .int 3, .int 5] : List V) r3 = some (.int (mm : Nat)) := by
                have : r3 = 0 ∨ r3 = 1 ∨ r3 = 2 := by omega
                rcases this with rfl | rfl | rfl
                · exact ⟨0, by decide, rfl⟩
                · exact ⟨3, by decide, rfl⟩
                · exact ⟨5, by decide, rfl⟩
              refine ⟨M, _, r3, .int (mm : Nat), rfl, rfl, SqL.of (k3 _ _ nMp upd_same), hat, p, mm, rfl, po3, by omega, fun G4 l k4 po4 ll => ?_⟩
              have kx := (((k1.trans k2).trans (.of_same sM)).trans k3).trans k4
              have hL4 := kx _ _ nLp hL
              refine ⟨_, _, rfl, rfl, by show (wS [b]).length + (wS l).length ≤ sizeLine; rw [wS_len, wS_len, sizeLine_eq]; show 1 + l.length ≤ _; omega, L, _, _, rfl, rfl, hL4, by rw [hs.len]; have := len_steps ss; exact small64 (by omega), ?_⟩
              have ex : V.str ((⟨#[ltr b]⟩ : Str) ++ wS l) = V.str (wS (b :: l)) := congrArg V.str (wS_app [b] l)
              rw [ex]
              try dsimp only []
              refine fin _ _ ⟨V.str (wS (b :: l)), .w (b :: l), rfl, ?_, upd_same, ?_, .w _, ?_, ?_, ?_, fun c o n1 n2 e => ?_⟩
              · rw [upd_ne (Ne.symm nLp)]
                exact po4
              · exact (sts_kx pog kx hs).kt (KT.upd hL4)
              · simp only [Stp.ok, List.length_cons]
                exact ⟨List.cons_ne_nil _ _, by omega⟩
              · simp only [Stp.nest]
                omega
              · simp only [Stp.steps]
                omega
              · rw [upd_ne n2]
                exact kx c o n1 e
          · skip
            refine ⟨_, rfl, .inl ⟨rfl, _, SqL.of (k1 _ _ nLp hL)⟩, ?_⟩
            refine ⟨_, rfl, p, 2, rfl, po1, by decide, by decide, fun G2 r2 k2 po2 r20 r21 => ?_⟩
            obtain ⟨b, hb⟩ : ∃ b : Bool, atI ("RC" : Str).cps.toList r2 = some (ltr b) := by
              have : r2 = 0 ∨ r2 = 1 := by omega
              rcases this with rfl | rfl
              · exact ⟨false, by decide +kernel⟩
              · exact ⟨true, by decide +kernel⟩
            refine ⟨_, r2, ltr b, rfl, rfl, by decide, hb, _, rfl, by show 3 ≤ sizeLine; decide, fun M nM => ?_⟩
            have sM := same_new (o := .lst [.int 0, .int 3, .int 5]) nM
            have nMp : M ≠ p := Ne.symm (po2.ne nM)
            refine ⟨_, rfl, p, 3, rfl, po2.same sM, by decide, by decide, fun G3 r3 k3 po3 r30 r31 => ?_⟩
            obtain ⟨mm, hm5, hat⟩ : ∃ mm : Nat, mm ≤ 5 ∧ atI ([.int 0, .int 3, .int 5] : List V) r3 = some (.int (mm : Nat)) := by
              have : r3 = 0 ∨ r3 = 1 ∨ r3 = 2 := by omega
              rcases this with rfl | rfl | rfl
              · exact ⟨0, by decide, rfl⟩
              · exact ⟨3, by decide, rfl⟩
              · exact ⟨5, by decide, rfl⟩
            refine ⟨M, _, r3, .int (mm : Nat), rfl, rfl, SqL.of (k3 _ _ nMp upd_same), hat, p, mm, rfl, po3, by omega, fun G4 l k4 po4 ll => ?_⟩
            have kx := (((k1.trans k2).trans (.of_same sM)).trans k3).trans k4
            have hL4 := kx _ _ nLp hL
            refine ⟨_, _, rfl, rfl, by show (wS [b]).length + (wS l).length ≤ sizeLine; rw [wS_len, wS_len, sizeLine_eq]; show 1 + l.length ≤ _; omega, L, _, _, rfl, rfl, hL4, by rw [hs.len]; have := len_steps ss; exact small64 (by omega), ?_⟩
            have ex : V.str ((⟨#[ltr b]⟩ : Str) ++ wS l) = V.str (wS (b :: l)) := congrArg V.str (wS_app [b] l)
            rw [ex]
            try dsimp only []
            refine fin _ _ ⟨V.str (wS (b :: l)), .w (b :: l), rfl, ?_, upd_same, ?_, .w _, ?_, ?_, ?_, fun c o n1 n2 e => ?_⟩
            · rw [upd_ne (Ne.symm nLp)]
              exact po4
            · exact (sts_kx pog kx hs).kt (KT.upd hL4)
            · simp only [Stp.ok, List.length_cons]
              exact ⟨List.cons_ne_nil _ _, by omega⟩
            · simp only [Stp.nest]
              omega
            · simp only [Stp.steps]
              omega
            · rw [upd_ne n2]
              exact kx c o n1 e
        · rintro σ' G5 ⟨x, s1, rfl, po5, hL5, hs5, hx5, ok1, ne1, st1, k5⟩
          have sp := steps_pos s1
          refine ⟨_, rfl, _, rfl, _, rfl, L, _, -1, x, rfl, rfl, SqL.of hL5, last_at, x, s1, rfl, hx5, by omega, by omega, fun G6 s6 => ?_⟩
          refine ⟨_, _, rfl, rfl, ?_⟩
          have el : ((left : Int) - ((s1.steps : Nat) : Int)) = ((left - s1.steps : Nat) : Int) := by omega
          refine ⟨left - s1.steps, by omega, left - s1.steps, xs ++ [x], ss ++ [s1], rfl, ?_, po5.same s6, s6 _ _ hL5, (hs5.app (.cons hx5 .nil)).kt (.of_same s6), okL_app.mpr ⟨ok, ok1, trivial⟩, ?_, ?_, fun b o n1 n2 e => s6 _ _ (k5 b o n1 n2 (kG b o n1 n2 e))⟩
          · exact congrArg (fun z => [some (V.ref p), some (V.int (d : Nat)), some (V.int (most : Nat)), some (V.bl sml), some (V.ref L), some (V.int z)]) el
          · rw [nestL_app]
            simp only [nestL]
            omega
          · rw [stepsL_app]
            simp only [stepsL]
            omega
end
end KS
-- topS
namespace KS
open PySem PySem.Spec PyProof.Rows L2 RZ TL
def deepS : Nat → List Stp
  | 0 => [.w [false]]
  | n + 1 => [.r 1 (deepS n)]
def deepA (n : Nat) : Anv := .t (anyL (deepS n))
theorem deepS_ok : ∀ n, okL (deepS n) ∧ stepsL (deepS n) = n + 1
  | 0 => ⟨⟨⟨by decide, by decide⟩, trivial⟩, rfl⟩
  | n + 1 => by
    obtain ⟨h1, h2⟩ := deepS_ok n
    refine ⟨⟨⟨by decide, by decide +kernel, h1⟩, trivial⟩, ?_⟩
    show stepsL [.r 1 (deepS n)] = _
    simp only [stepsL, Stp.steps]
    omega
theorem PgA.an {K : PySem.W.Frag} {H : Hp} {t : Addr} {ss : List Stp} (h : PgA K H t ss) (ok : okL ss) (hs : stepsL ss ≤ 1000) : AnA K H (.ref t) (.t (anyL ss)) := by
  obtain ⟨xs, h1, h2⟩ := h
  have := len_stepsA ss
  exact .t (by rw [h2.len]; omega) h1 (h2.an ok hs)
theorem PgsA.an {K : PySem.W.Frag} {H : Hp} : ∀ {vs : List V} {pp : List (List Stp)}, PgsA K H vs pp → (∀ ss ∈ pp, okL ss ∧ stepsL ss ≤ 1000) → AnsA K H vs (pp.map fun ss => .t (anyL ss))
  | _, _, .nil, _ => .nil
  | _, _, .cons h1 h2, h => .cons (h1.an (h _ (List.mem_cons_self ..)).1 (h _ (List.mem_cons_self ..)).2) (PgsA.an h2 fun ss hs => h ss (List.mem_cons_of_mem _ hs))
theorem qk6 {X : Cx} {K : PySem.W.Frag} {es : List Expr} {xs : List Anv} (h : PA X es (tAns K xs)) : PA X es (tAns K xs) := h
def lim2 : List Anv := [.t (List.replicate 60 [Anv.s "R"]).flatten, .t (List.replicate 61 [Anv.s "C"]).flatten, .t [.t [.s "repeat", .i 3, .t (List.replicate 59 [Anv.s "R"]).flatten]], .t [.t [.s "repeat", .i 3, .t (List.replicate 60 [Anv.s "R"]).flatten]]]
def lim3 : List Anv := [.t [.s (wS (List.replicate 400 [false]).flatten)], .t [.s (wS (List.replicate 401 [true]).flatten)], .t [], .t [.t [.s "repeat", .i (10 ^ 30), .t []]], .t [.t [.s "repeat", .i (10 ^ 30 + 1), .t []]]]
def lim4 : List Anv := [.t [.s "RC", .s (wS (List.replicate 200 [true, false]).flatten)], .t [.s "RC", .s "S"], .t [.t [.s "repeat", .i 0, .t [.s "R"]]], .t [.s "repeat", .i 1, .t []]]
def limA : List Anv := (List.range 6).map deepA ++ lim2 ++ lim3 ++ lim4
def spLimA (K : PySem.W.Frag) : Sp := fun vs H Q _ => vs = [] ∧ ∀ H' L ws, Same H H' → H L = none → H' L = some (.lst ws) → AnsA K H' ws limA → Q (.ref L) H'
abbrev sLimA : Stmt := topS 32
abbrev nLimA : List Str := ["_law_deep", "_law_found", "_law_turn"]
theorem scLimA : FnScope nLimA [] (defScope sLimA) := ⟨rfl, rfl, rfl, by decide +kernel, rfl, by decide +kernel, by decide +kernel⟩
section
variable {P : Program} {w : World} {K : PySem.W.Frag} {mg : Str → Option Value} {base : Heap}
theorem ok_limA {f : Addr} {fd : FuncData} (F : Fun K "_law_at_limits" "_law_at_limits" sLimA f fd) (mr : mg "range" = none) : FnG P w K mg base 1 f fd [] (spLimA K) := by
  refine okG F scLimA (fun vs H Q E h => ?_) (fun cdv A outer s H vs Q E hr hgd h => ?_)
  · obtain ⟨rfl, _⟩ := h
    rfl
  · obtain ⟨rfl, q⟩ := h
    have nd := scLimA.nd
    refine ⟨_, pss_cons (ps_par (i := 0) (j := 1) (by rfl) nd rfl rfl (by decide) rfl rfl (pa_cons (pl_pg (K := K) (ss := [.w [false]]) (pl_cons (pl_w [false] (by decide +kernel)) pl_nil) (by decide)) (pa_cons (pe_lst pa_nil) pa_nil)) (by rfl))
      (pss_cons (ps_for PassesOwn.never rfl (pi_range1 (by rfl) mr (pa_cons pe_int pa_nil)) (pg_name (i := 2) nd rfl (.inl rfl))
        (pss_cons (ps_expr (pe_bm PySem.F.plainAttrs_list PySem.F.slot_list_append PySem.F.type_list_append mt_append (pv 1) (pa_cons (pv 0) pa_nil)))
        (pss_one (ps_set (i := 0) nd rfl (.inl rfl) (pe_tup (pa_cons (pe_tup (pa_cons pe_str (pa_cons pe_int (pa_cons (pv 0) pa_nil)))) pa_nil))))))
      (pss_cons (ps_set (i := 1) nd rfl (.inl rfl) (pe_op op_cat (pv 1) (pe_lst (qk6 (K := K) (xs := lim2) (qc (q_rt 60 (q_t (qc (q_s (by decide +kernel)) qn) (by decide)) (by simp) (by decide) (by decide) (by decide)) (qc (q_rt 61 (q_t (qc (q_s (by decide +kernel)) qn) (by decide)) (by simp) (by decide) (by decide) (by decide)) (qc (q_t (qc (q_t (qc (q_s (by decide +kernel)) (qc (q_i pe_int) (qc (q_rt 59 (q_t (qc (q_s (by decide +kernel)) qn) (by decide)) (by simp) (by decide) (by decide) (by decide)) qn))) (by decide)) qn) (by decide)) (qc (q_t (qc (q_t (qc (q_s (by decide +kernel)) (qc (q_i pe_int) (qc (q_rt 60 (q_t (qc (q_s (by decide +kernel)) qn) (by decide)) (by simp) (by decide) (by decide) (by decide)) qn))) (by decide)) qn) (by decide)) qn))))))))
      (pss_cons (ps_set (i := 1) nd rfl (.inl rfl) (pe_op op_cat (pv 1) (pe_lst (qk6 (K := K) (xs := lim3) (qc (q_t (qc (q_rp [false] 400 (by decide +kernel) (by decide) (by decide) (by decide) (by decide +kernel)) qn) (by decide)) (qc (q_t (qc (q_rp [true] 401 (by decide +kernel) (by decide) (by decide) (by decide) (by decide +kernel)) qn) (by decide)) (qc (q_t qn (by decide)) (qc (q_t (qc (q_t (qc (q_s (by decide +kernel)) (qc (q_i pl_30) (qc (q_t qn (by decide)) qn))) (by decide)) qn) (by decide)) (qc (q_t (qc (q_t (qc (q_s (by decide +kernel)) (qc (q_i (q_inc pl_30)) (qc (q_t qn (by decide)) qn))) (by decide)) qn) (by decide)) qn)))))))))
      (pss_one (ps_ret (pe_op op_cat (pv 1) (pe_lst (qk6 (K := K) (xs := lim4) (qc (q_t (qc (q_s (by decide +kernel)) (qc (q_rp [true, false] 200 (by decide +kernel) (by decide) (by decide) (by decide) (by decide +kernel)) qn)) (by decide)) (qc (q_t (qc (q_s (by decide +kernel)) (qc (q_s (by decide +kernel)) qn)) (by decide)) (qc (q_t (qc (q_t (qc (q_s (by decide +kernel)) (qc (q_i pe_int) (qc (q_t (qc (q_s (by decide +kernel)) qn) (by decide)) qn))) (by decide)) qn) (by decide)) (qc (q_t (qc (q_s (by decide +kernel)) (qc (q_i pe_int) (qc (q_t qn (by decide)) qn))) (by decide)) qn)))))))))))), ?_⟩
    intro H1 t0 s1 a1
    refine ⟨by show 0 ≤ sizeLine; decide, fun L nL => ?_⟩
    have sL := same_new (o := .lst []) nL
    have hL0 : upd H1 L (.lst []) L = some (.lst []) := upd_same
    have a1 := a1.kt (K := K) (.of_same sL)
    have nLH : H L = none := s1.free nL
    have u0 := s1.trans sL
    generalize upd H1 L (.lst []) = G0 at hL0 a1 u0 ⊢
    refine ⟨_, _, rfl, 6, rfl, by decide, by decide, for_range (lo := 0) (n := 6) (fun i σ G => ∃ (t : Addr) (ws : List V) (y2 : Option V), σ = [some (.ref t), some (.ref L), y2] ∧ Same H G ∧ G L = some (.lst ws) ∧ PgA K G t (deepS i) ∧ PgsA K G ws ((List.range i).map deepS)) ?_ ?_ ?_⟩
    · exact ⟨t0, [], none, rfl, u0, hL0, a1, .nil⟩
    · rintro i σ G hi ⟨t, ws, y2, rfl, sG, hL, ad, aw⟩
      have wl := aw.len
      rw [List.length_map, List.length_range] at wl
      refine ⟨_, rfl, .inl ⟨rfl, _, SqL.of hL⟩, _, rfl, L, ws, _, rfl, rfl, hL, by rw [sizeLine_eq]; omega, ?_⟩
      have kt : KT K G (upd G L (.lst (ws ++ [.ref t]))) := KT.upd hL
      have hL1 : upd G L (.lst (ws ++ [.ref t])) L = some (.lst (ws ++ [.ref t])) := upd_same
      have ad := ad.kt kt
      have aw := aw.kt kt
      have sG1 : Same H (upd G L (.lst (ws ++ [.ref t]))) := fun b o e => by
        rw [upd_ne (ne_of_none e nLH)]
        exact sG b o e
      generalize upd G L (.lst (ws ++ [.ref t])) = G1 at hL1 ad aw sG1 ⊢
      refine ⟨_, rfl, by show 3 ≤ sizeLine; decide, fun T1 n1 => ?_⟩
      have c1 := same_new (o := .tup [.str "repeat", .int 1, .ref t]) n1
      have hT1 : SqT K (upd G1 T1 (.tup [.str "repeat", .int 1, .ref t])) T1 [.str "repeat", .int 1, .ref t] := SqT.of upd_same
      generalize upd G1 T1 (.tup [.str "repeat", .int 1, .ref t]) = G2 at c1 hT1 ⊢
      refine ⟨by show 1 ≤ sizeLine; decide, fun T2 n2 => ?_⟩
      have c2 := same_new (o := .tup [.ref T1]) n2
      have hT2 : SqT K (upd G2 T2 (.tup [.ref T1])) T2 [.ref T1] := SqT.of upd_same
      generalize upd G2 T2 (.tup [.ref T1]) = G3 at c2 hT2 ⊢
      have c12 := c1.trans c2
      have ad3 := ad.kt (.of_same c12)
      obtain ⟨zs, z1, z2⟩ := id ad3
      refine ⟨T2, ws ++ [.ref t], _, rfl, sG1.trans c12, c12 _ _ hL1, ⟨_, hT2, .cons (.r (same_seqT c2 hT1) z1 z2) .nil⟩, ?_⟩
      rw [List.range_succ, List.map_append]
      exact (aw.kt (.of_same c12)).app (.cons ad3 .nil)
    · rintro σ G ⟨t, ws, y2, rfl, sG, hL, ad, aw⟩
      have b1 : AnsA K G ws ((List.range 6).map deepA) := by
        have := aw.an (fun ss hs => by
          obtain ⟨k, hk, rfl⟩ := List.mem_map.mp hs
          have := List.mem_range.mp hk
          obtain ⟨x1, x2⟩ := deepS_ok k
          exact ⟨x1, by omega⟩)
        rw [List.map_map] at this
        exact this
      clear aw ad
      refine ⟨_, rfl, fun H2 w2 s2 a2 => ⟨by rw [a2.len]; decide, fun M2 m2 => ?_⟩⟩
      have t2 := same_new (o := .lst w2) m2
      have hM2 : upd H2 M2 (.lst w2) M2 = some (.lst w2) := upd_same
      have a2 := a2.same t2
      have v2 := s2.trans t2
      generalize upd H2 M2 (.lst w2) = G2 at hM2 a2 v2 ⊢
      refine ⟨L, M2, _, _, rfl, rfl, v2 _ _ hL, hM2, by rw [b1.len, a2.len]; decide, fun L2 n2 => ?_⟩
      have t2' := same_new (o := .lst (ws ++ w2)) n2
      have hL2 : upd G2 L2 (.lst (ws ++ w2)) L2 = some (.lst (ws ++ w2)) := upd_same
      have b2 : AnsA K (upd G2 L2 (.lst (ws ++ w2))) (ws ++ w2) ((List.range 6).map deepA ++ lim2) := (b1.same (v2.trans t2')).app (a2.same t2')
      have u2 := sG.trans (v2.trans t2')
      generalize upd G2 L2 (.lst (ws ++ w2)) = G3 at hL2 b2 u2 ⊢
      refine ⟨_, rfl, fun H3 w3 s3 a3 => ⟨by rw [a3.len]; decide, fun M3 m3 => ?_⟩⟩
      have t3 := same_new (o := .lst w3) m3
      have hM3 : upd H3 M3 (.lst w3) M3 = some (.lst w3) := upd_same
      have a3 := a3.same t3
      have v3 := s3.trans t3
      generalize upd H3 M3 (.lst w3) = G4 at hM3 a3 v3 ⊢
      refine ⟨L2, M3, _, _, rfl, rfl, v3 _ _ hL2, hM3, by rw [b2.len, a3.len]; decide, fun L3 n3 => ?_⟩
      have t3' := same_new (o := .lst (ws ++ w2 ++ w3)) n3
      have hL3 : upd G4 L3 (.lst (ws ++ w2 ++ w3)) L3 = some (.lst (ws ++ w2 ++ w3)) := upd_same
      have b3 : AnsA K (upd G4 L3 (.lst (ws ++ w2 ++ w3))) (ws ++ w2 ++ w3) ((List.range 6).map deepA ++ lim2 ++ lim3) := (b2.same (v3.trans t3')).app (a3.same t3')
      have u3 := u2.trans (v3.trans t3')
      generalize upd G4 L3 (.lst (ws ++ w2 ++ w3)) = G5 at hL3 b3 u3 ⊢
      refine ⟨_, rfl, fun H4 w4 s4 a4 => ⟨by rw [a4.len]; decide, fun M4 m4 => ?_⟩⟩
      have t4 := same_new (o := .lst w4) m4
      have hM4 : upd H4 M4 (.lst w4) M4 = some (.lst w4) := upd_same
      have a4 := a4.same t4
      have v4 := s4.trans t4
      generalize upd H4 M4 (.lst w4) = G6 at hM4 a4 v4 ⊢
      refine ⟨L3, M4, _, _, rfl, rfl, v4 _ _ hL3, hM4, by rw [b3.len, a4.len]; decide, fun L4 n4 => ?_⟩
      have t4' := same_new (o := .lst (ws ++ w2 ++ w3 ++ w4)) n4
      exact q _ L4 _ (u3.trans (v4.trans t4')) ((u3.trans v4).free n4) upd_same ((b3.same (v4.trans t4')).app (a4.same t4'))
end
end KS
namespace KS
open PySem PySem.Spec PyProof.Rows L2 RZ TL
theorem KeepX.same_of {p : Addr} {H H' : Hp} (h : H p = none) (k : KeepX p H H') : Same H H' := fun b o e => k b o (ne_of_none e h) e
mutual
theorem any_cnt : ∀ (s : Stp) (d : Nat), s.ok → s.nest ≤ d → cntA d s.any = s.steps
  | .w l, d, ok, _ => by
    simp only [Stp.ok] at ok
    simp only [Stp.any, Stp.steps]
    rw [cntA_s]
    have h1 : wB (wS l) = true := by
      unfold wB
      rw [wS_len, decide_eq_true ok.2, Bool.true_and, List.all_eq_true]
      intro c hc
      have hc' : c ∈ (l.map ltr).toArray.toList := hc
      rw [List.toList_toArray] at hc'
      obtain ⟨b, _, rfl⟩ := List.mem_map.mp hc'
      cases b <;> rfl
    have h2 : wOk (wS l) = true := by
      unfold wOk
      rw [h1, wS_len, decide_eq_true (List.length_pos_iff.mpr ok.1)]
      rfl
    rw [if_pos h2]
  | .r n b, 0, ok, hn => by
    simp only [Stp.nest] at hn
    omega
  | .r n b, d + 1, ok, hn => by
    simp only [Stp.ok] at ok
    simp only [Stp.nest] at hn
    simp only [Stp.any, Stp.steps]
    obtain ⟨h1, h2⟩ := any_cntL b d ok.2.2 (by omega)
    rw [cntA_r d ok.1 ok.2.1, if_neg h1, h2]
theorem any_cntL : ∀ (b : List Stp) (d : Nat), okL b → nestL b ≤ d → 0 ∉ (anyL b).map (cntA d) ∧ ((anyL b).map (cntA d)).sum = stepsL b
  | [], d, _, _ => by
    simp only [anyL, stepsL]
    exact ⟨List.not_mem_nil, rfl⟩
  | s :: b, d, ok, hn => by
    simp only [okL] at ok
    simp only [nestL] at hn
    simp only [anyL, stepsL]
    have h0 := any_cnt s d ok.1 (by omega)
    obtain ⟨h1, h2⟩ := any_cntL b d ok.2 (by omega)
    rw [List.map_cons, List.sum_cons, h0, h2]
    refine ⟨fun z => ?_, rfl⟩
    rcases List.mem_cons.mp z with z | z
    · have := steps_pos s
      omega
    · exact h1 z
end
theorem any_good {ss : List Stp} (ok : okL ss) (hn : nestL ss ≤ 4) (hs : stepsL ss ≤ 60) : goodA (.t (anyL ss)) = true := by
  obtain ⟨h1, h2⟩ := any_cntL ss 4 ok hn
  show (!decide (0 ∈ (anyL ss).map (cntA 4)) && decide (((anyL ss).map (cntA 4)).sum ≤ 60)) = true
  rw [decide_eq_false h1, h2, decide_eq_true hs]
  rfl
abbrev sRight : Stmt := topS 34
abbrev nRgA : List Str := ["_law_pool_here", "_law_parts", "_law_turn", "_law_once", "_law_twice"]
theorem scRgA : FnScope nRgA ["_law_pool_here"] (defScope sRight) := ⟨rfl, rfl, rfl, by decide +kernel, rfl, by decide +kernel, by decide +kernel⟩
section
variable {P : Program} {w : World} {K : PySem.W.Frag} {mg : Str → Option Value} {base : Heap}
theorem ok_right19 {f fG fT fB fF : Addr} {fd fdG fdT fdB fdF : FuncData} (F : Fun K "_law_right" "_law_right" sRight f fd)
    (GG : FnOk P w K mg base CX0 10 fG fdG ["_law_pool_here", "_law_deep", "_law_most", "_law_small"] (spLPrG K 4)) (bG : Binds K fdG ["_law_pool_here", "_law_deep", "_law_most", "_law_small"] []) (gG : mg "_law_program" = some (.ref fG)) (kG : PySem.W.keepIn K (.ref fG) = true)
    (GT : FnG P w K mg base 12 fT fdT ["_law_thing", "_law_due"] (spToldA K)) (bT : Binds K fdT ["_law_thing", "_law_due"] []) (gT : mg "_law_told_right" = some (.ref fT)) (kT : PySem.W.keepIn K (.ref fT) = true)
    (GB : FnOk P w K mg base CX0 2 fB fdB ["_law_pool_here", "_law_parts"] (spBntA K)) (bB : Binds K fdB ["_law_pool_here", "_law_parts"] []) (gB : mg "_law_bent" = some (.ref fB)) (kB : PySem.W.keepIn K (.ref fB) = true)
    (GF : FnOk P w K mg base CX0 7 fF fdF ["_law_thing"] (spFBA K)) (bF : Binds K fdF ["_law_thing"] []) (gF : mg "_law_first_bad" = some (.ref fF)) (kF : PySem.W.keepIn K (.ref fF) = true)
    (mr : mg "range" = none) (mi : mg "isinstance" = none) (mT : mg "tuple" = none) : FnG P w K mg base 13 f fd ["_law_pool_here"] spRight := by
  refine okG F scRgA (fun vs H Q E h => ?_) (fun cdv A outer s H vs Q E hr hgd h => ?_)
  · obtain ⟨p, rfl, _⟩ := h
    rfl
  · obtain ⟨p, rfl, po, q⟩ := h
    have nd := scRgA.nd
    have hr2 : Room 2 _ := hr.mono (by omega)
    have hr7 : Room 7 _ := hr.mono (by omega)
    have hr10 : Room 10 _ := hr.mono (by omega)
    refine ⟨_, pss_cons (ps_set (i := 1) nd rfl (.inl rfl) (pe_call GG hr10 (by rfl) gG kG bG .nil pass0 (pa_cons (pv 0) (pa_cons pe_int (pa_cons pe_int (pa_cons pe_bl pa_nil))))))
      (pss_cons (ps_if (pt_not (pt_val (pe_callG GT hr hgd (by rfl) gT kT bT (pa_cons (pv 1) (pa_cons pe_bl pa_nil))))) (pss_one ps_never) pss_nil)
      (pss_cons (ps_for PassesOwn.never rfl (pi_range1 (by rfl) mr (pa_cons pe_int pa_nil)) (pg_name (i := 2) nd rfl (.inl rfl))
        (pss_cons (ps_set (i := 3) nd rfl (.inl rfl) (pe_call GB hr2 (by rfl) gB kB bB .nil pass0 (pa_cons (pv 0) (pa_cons (pv 1) pa_nil))))
        (pss_cons (ps_if (pt_not (pt_val (pe_callG GT hr hgd (by rfl) gT kT bT (pa_cons (pv 3) (pa_cons (pe_cmpR (op_eqD hr.units) (pe_call GF hr7 (by rfl) gF kF bF .nil pass0 (pa_cons (pv 3) pa_nil)) (pe_lst pa_nil) (nomark _)) pa_nil))))) (pss_one ps_never) pss_nil)
        (pss_one (ps_if (pt_val (pe_callB call_isi (by rfl) mi (by decide +kernel) (pa_cons (pv 3) (pa_cons (pe_bltn (v := .ty "tuple") (by rfl) mT (by decide +kernel) rfl) pa_nil))))
          (pss_cons (ps_set (i := 4) nd rfl (.inl rfl) (pe_call GB hr2 (by rfl) gB kB bB .nil pass0 (pa_cons (pv 0) (pa_cons (pv 3) pa_nil))))
          (pss_one (ps_if (pt_not (pt_val (pe_callG GT hr hgd (by rfl) gT kT bT (pa_cons (pv 4) (pa_cons (pe_cmpR (op_eqD hr.units) (pe_call GF hr7 (by rfl) gF kF bF .nil pass0 (pa_cons (pv 4) pa_nil)) (pe_lst pa_nil) (nomark _)) pa_nil))))) (pss_one ps_never) pss_nil))) pss_nil)))))
      (pss_one (ps_ret pe_bl)))), ?_⟩
    refine ⟨_, rfl, p, 5, 60, false, rfl, po, by decide, by decide, by decide, by decide, fun H1 t ss k1 po1 hp ok hn hst => ?_⟩
    refine ⟨_, rfl, .ref t, _, true, rfl, hp.an ok (by omega), any_good ok (by omega) hst, fun H2 s2 => ⟨true, rfl, ?_⟩⟩
    refine ⟨12, rfl, by decide, by decide, for_range (lo := 0) (n := 12) (fun i σ G => ∃ y2 y3 y4 : Option V, σ = [some (.ref p), some (.ref t), y2, y3, y4] ∧ KeepX p H G ∧ PoolO (G p) ∧ PgA K G t ss) ?_ ?_ ?_⟩
    · exact ⟨none, none, none, rfl, k1.trans (.of_same s2), po1.same s2, hp.kt (.of_same s2)⟩
    · rintro i σ G hi ⟨y2, y3, y4, rfl, kG', poG, hpG⟩
      obtain ⟨xs, hx, hs⟩ := id hpG
      have hys := hs.an ok (by omega)
      have ll := anyL_len ss
      have l60 := len_stepsA ss
      have noi : NoI (anyL ss) := anyL_noint ss
      refine ⟨_, rfl, _, rfl, p, t, xs, anyL ss, rfl, poG, hx, hys, by omega, fun a b c e => noi (.i a) (by rw [e]; exact List.mem_cons_self ..) a rfl, fun H3 v x k3 po3 hv hb => ?_⟩
      refine ⟨_, rfl, _, rfl, v, x, rfl, hv, fun H4 L d s4 hd sd ed => ?_⟩
      refine ⟨by show 0 ≤ sizeLine; decide, fun M nM => ?_⟩
      have sM := same_new (o := .lst []) nM
      refine ⟨d, .list [], hd _ sM, .lst (SqL.of upd_same) .nil, sd, by decide, ?_⟩
      rw [ed]
      refine ⟨v, x, _, rfl, hv.same (s4.trans sM), rfl, fun H5 s5 => ⟨true, rfl, ?_⟩⟩
      have s345 := (s4.trans sM).trans s5
      have hv5 := hv.same s345
      have kx5 := k3.trans (.of_same s345)
      have po5 := po3.same s345
      have hp5 := (hpG.kt (.of_keepX poG k3)).kt (.of_same s345)
      refine ⟨_, rfl, v, _, _, _, _, rfl, .ty "tuple", hv5.oth.ty, kit_tuple hv5.oth, _, rfl, ?_⟩
      by_cases hk : x.kind = "tuple"
      rotate_left
      · rw [decide_eq_false hk]
        exact ⟨_, _, _, rfl, kG'.trans kx5, po5, hp5⟩
      rw [decide_eq_true hk]
      cases hv5 with
      | s _ => exact absurd hk (show ¬ ("str" : String) = "tuple" by decide)
      | i _ => exact absurd hk (show ¬ ("int" : String) = "tuple" by decide)
      | non => exact absurd hk (show ¬ ("NoneType" : String) = "tuple" by decide)
      | bl _ => exact absurd hk (show ¬ ("bool" : String) = "tuple" by decide)
      | l _ _ => exact absurd hk (show ¬ ("list" : String) = "tuple" by decide)
      | d _ => exact absurd hk (show ¬ ("dict" : String) = "tuple" by decide)
      | @t t2 zs us hz h1 h2 =>
        obtain ⟨bl, bn⟩ := hb us rfl
        refine ⟨_, rfl, _, rfl, p, t2, zs, us, rfl, po5, h1, h2, by omega, bn noi, fun H6 v2 x2 k6 po6 hv2 _ => ?_⟩
        refine ⟨_, rfl, _, rfl, v2, x2, rfl, hv2, fun H7 L2 d2 s7 hd2 sd2 ed2 => ?_⟩
        refine ⟨by show 0 ≤ sizeLine; decide, fun M2 nM2 => ?_⟩
        have sM2 := same_new (o := .lst []) nM2
        refine ⟨d2, .list [], hd2 _ sM2, .lst (SqL.of upd_same) .nil, sd2, by decide, ?_⟩
        rw [ed2]
        refine ⟨v2, x2, _, rfl, hv2.same (s7.trans sM2), rfl, fun H8 s8 => ⟨true, rfl, ?_⟩⟩
        have s78 := (s7.trans sM2).trans s8
        exact ⟨_, _, _, rfl, (kG'.trans kx5).trans (k6.trans (.of_same s78)), po6.same s78, (hp5.kt (.of_keepX po5 k6)).kt (.of_same s78)⟩
    · rintro σ G ⟨y2, y3, y4, rfl, kG', poG, hpG⟩
      exact q G kG'
end
end KS
namespace KS
open PySem PySem.Spec PyProof.Rows L2 RZ TL
mutual
def Anv.pu : Anv → Bool
  | .s _ => true
  | .i _ => true
  | .o k => decide (k ≠ "list") && decide (k ≠ "dict")
  | .t xs => puL xs
def puL : List Anv → Bool
  | [] => true
  | x :: xs => x.pu && puL xs
end
mutual
theorem AnA.kp {K : PySem.W.Frag} {H H' : Hp} (k : KT K H H') : ∀ {v : V} {x : Anv}, AnA K H v x → x.pu = true → AnA K H' v x
  | _, _, .s h, _ => .s h
  | _, _, .i n, _ => .i n
  | _, _, .non, _ => .non
  | _, _, .bl b, _ => .bl b
  | _, _, .l e n, p => by simp [Anv.pu] at p
  | _, _, .d e, p => by simp [Anv.pu] at p
  | _, _, .t hz h1 h2, p => by
    simp only [Anv.pu] at p
    exact .t hz (k _ _ h1) (AnsA.kp k h2 p)
theorem AnsA.kp {K : PySem.W.Frag} {H H' : Hp} (k : KT K H H') : ∀ {vs : List V} {xs : List Anv}, AnsA K H vs xs → puL xs = true → AnsA K H' vs xs
  | _, _, .nil, _ => .nil
  | _, _, .cons h1 h2, p => by
    simp only [puL, Bool.and_eq_true] at p
    exact .cons (AnA.kp k h1 p.1) (AnsA.kp k h2 p.2)
end
def dueB : List Bool := [true, true, true, true, true, false, true, false, true, false, true, false, true, true, false, true, false, false, false]
def twA : List Anv := [.t [.t [.s "repeat", .i 1, .t []]], .t [.t [.s "repeat", .o "bool", .t []]], .t [.s "R", .t [.s "repeat", .i 1, .t [.s "C"]]]]
def twB : Anv := .t [.s "R", .t [.s "repeat", .o "bool", .t [.s "C"]]]
def thsA : List Anv := limA ++ (twA ++ [twB]) ++ (twA ++ [twB])
def dueA : List Bool := dueB ++ [true, false, true, false, true, false, true, false]
theorem ths_good : thsA.map goodA = dueA := by decide +kernel
def stpB : List Anv := [.t [], .t [.o "list", .i 2, .t []], .t [.o "dict", .i 2, .t [.s "R"]], .t [.o "list", .i 1, .i 1]]
theorem stp_bad : ∀ x ∈ stpB, goodA (.t [x]) = false ∧ goodA (.t [.s "R", x]) = false ∧ goodA (.t [.t [.s "repeat", .i 2, .t [.s "R", x]]]) = false := by
  intro x h
  simp only [stpB, List.mem_cons, List.not_mem_nil, or_false] at h
  rcases h with rfl | rfl | rfl | rfl <;> decide +kernel
abbrev sLaw : Stmt := topS 35
abbrev nLw19 : List Str := ["_law_script", "_law_due", "_law_twins", "_law_thing", "_law_good", "_law_step", "_law_k"]
theorem scLw19 : FnScope nLw19 ["_law_script"] (defScope sLaw) := ⟨rfl, rfl, rfl, by decide +kernel, rfl, by decide +kernel, by decide +kernel⟩
section
variable {P : Program} {w : World} {K : PySem.W.Frag} {mg : Str → Option Value} {base : Heap}
theorem ok_law19 {f fC fP fR fL fT fF : Addr} {fd fdC fdP fdR fdL fdT fdF : FuncData} (F : Fun K "law" "law" sLaw f fd)
    (GC : FnOk P w K mg base CX0 1 fC fdC ["_law_script", "_law_k"] (spCell K)) (bC : Binds K fdC ["_law_script", "_law_k"] []) (gC : mg "_law_cell" = some (.ref fC)) (kC : PySem.W.keepIn K (.ref fC) = true)
    (GP : FnOk P w K mg base CX0 1 fP fdP ["_law_number"] spPool) (bP : Binds K fdP ["_law_number"] []) (gP : mg "_law_pool" = some (.ref fP)) (kP : PySem.W.keepIn K (.ref fP) = true)
    (GR : FnG P w K mg base 13 fR fdR ["_law_pool_here"] spRight) (bR : Binds K fdR ["_law_pool_here"] []) (gR : mg "_law_right" = some (.ref fR)) (kR : PySem.W.keepIn K (.ref fR) = true)
    (GL : FnG P w K mg base 1 fL fdL [] (spLimA K)) (bL : Binds K fdL [] []) (gL : mg "_law_at_limits" = some (.ref fL)) (kL : PySem.W.keepIn K (.ref fL) = true)
    (GT : FnG P w K mg base 12 fT fdT ["_law_thing", "_law_due"] (spToldA K)) (bT : Binds K fdT ["_law_thing", "_law_due"] []) (gT : mg "_law_told_right" = some (.ref fT)) (kT : PySem.W.keepIn K (.ref fT) = true)
    (GF : FnOk P w K mg base CX0 7 fF fdF ["_law_thing"] (spFBA K)) (bF : Binds K fdF ["_law_thing"] []) (gF : mg "_law_first_bad" = some (.ref fF)) (kF : PySem.W.keepIn K (.ref fF) = true)
    (mz : mg "zip" = none) (ma : mg "all" = none) (mr : mg "range" = none) (mx : mg "max" = none) (mn : mg "min" = none) (ml : mg "len" = none) : FnG P w K mg base 14 f fd ["_law_script"] (spLaw K) := by
  refine okG F scLw19 (fun vs H Q E h => ?_) (fun cdv A outer s H vs Q E hr hgd h => ?_)
  · obtain ⟨a, ns, rfl, _⟩ := h
    rfl
  · obtain ⟨a, ns, rfl, hS, hl, q⟩ := h
    have nd := scLw19.nd
    have hr1 : Room 1 _ := hr.mono (by omega)
    have hr7 : Room 7 _ := hr.mono (by omega)
    have hr12 : Room 12 _ := hr.mono (by omega)
    refine ⟨_, pss_cons (ps_set (i := 1) nd rfl (.inl rfl) (pe_op op_cat (pe_op op_cat (pe_op op_rep (pe_lst (pa_cons pe_bl pa_nil)) pe_int) (pe_lst (pa_cons pe_bl (pa_cons pe_bl (pa_cons pe_bl (pa_cons pe_bl (pa_cons pe_bl (pa_cons pe_bl (pa_cons pe_bl (pa_cons pe_bl (pa_cons pe_bl (pa_cons pe_bl pa_nil))))))))))))  (pe_lst (pa_cons pe_bl (pa_cons pe_bl (pa_cons pe_bl (pa_cons pe_bl pa_nil)))))))
      (pss_cons (ps_set (i := 2) nd rfl (.inl rfl) (pe_lst (qk (K := K) (xs := twA) (qc (q_t (qc (q_t (qc (q_s (by decide +kernel)) (qc (q_i pe_int) (qc (q_t qn (by decide)) qn))) (by decide)) qn) (by decide)) (qc (q_t (qc (q_t (qc (q_s (by decide +kernel)) (qc (q_bl pe_bl) (qc (q_t qn (by decide)) qn))) (by decide)) qn) (by decide)) (qc (q_t (qc (q_s (by decide +kernel)) (qc (q_t (qc (q_s (by decide +kernel)) (qc (q_i pe_int) (qc (q_t (qc (q_s (by decide +kernel)) qn) (by decide)) qn))) (by decide)) qn)) (by decide)) qn))))))
      (pss_cons (ps_expr (pe_bm PySem.F.plainAttrs_list PySem.F.slot_list_append PySem.F.type_list_append mt_append (pv 2) (pa_cons (q_t (K := K) (xs := [.s "R", .t [.s "repeat", .o "bool", .t [.s "C"]]]) (qc (q_s (by decide +kernel)) (qc (q_t (qc (q_s (by decide +kernel)) (qc (q_bl pe_bl) (qc (q_t (qc (q_s (by decide +kernel)) qn) (by decide)) qn))) (by decide)) qn)) (by decide)) pa_nil)))
      (pss_cons (ps_for PassesOwn.never rfl (pi_zipA (by rfl) mz (pa_cons (pe_op op_cat (pe_op op_cat (pe_callG0 GL hr1 hgd (by rfl) gL kL bL) (pv 2)) (pv 2)) (pa_cons (pe_op op_cat (pv 1) (pe_op op_rep (pe_lst (pa_cons pe_bl (pa_cons pe_bl pa_nil))) pe_int)) pa_nil)))
          (pg_tup (by rfl) (pgs_cons (pg_name (i := 3) nd rfl (.inl rfl)) (pgs_cons (pg_name (i := 4) nd rfl (.inl rfl)) pgs_nil)))
        (pss_one (ps_if (PW.pt (pw_or (pt_not (pt_val (pe_callG GT hr12 hgd (by rfl) gT kT bT (pa_cons (pv 3) (pa_cons (pv 4) pa_nil)))))
          (pw_or1 (pt_cmpR op_ne (pe_cmpR (op_eqD hr.units) (pe_call GF hr7 (by rfl) gF kF bF .nil pass0 (pa_cons (pv 3) pa_nil)) (pe_lst pa_nil) (nomark _)) (pv 4) (nomark _))))) (pss_one ps_never) pss_nil)))
      (pss_cons (ps_for PassesOwn.never rfl (pi_list (pe_lst (qk (K := K) (xs := stpB) (qc (q_t qn (by decide)) (qc (q_t (qc (q_l qn (by decide) (by simp)) (qc (q_i pe_int) (qc (q_t qn (by decide)) qn))) (by decide)) (qc (q_t (qc (q_d) (qc (q_i pe_int) (qc (q_t (qc (q_s (by decide +kernel)) qn) (by decide)) qn))) (by decide)) (qc (q_t (qc (q_l qn (by decide) (by simp)) (qc (q_i pe_int) (qc (q_i pe_int) qn))) (by decide)) qn))))))) (pg_name (i := 5) nd rfl (.inl rfl))
        (pss_one (ps_for PassesOwn.never rfl (pi_list (pe_lst (pa_cons (pe_tup (pa_cons (pv 5) pa_nil)) (pa_cons (pe_tup (pa_cons pe_str (pa_cons (pv 5) pa_nil))) (pa_cons (pe_tup (pa_cons (pe_tup (pa_cons pe_str (pa_cons pe_int (pa_cons (pe_tup (pa_cons pe_str (pa_cons (pv 5) pa_nil))) pa_nil)))) pa_nil)) pa_nil))))) (pg_name (i := 3) nd rfl (.inl rfl))
          (pss_one (ps_if (pt_not (pt_val (pe_callG GT hr12 hgd (by rfl) gT kT bT (pa_cons (pv 3) (pa_cons pe_bl pa_nil))))) (pss_one ps_never) pss_nil)))))
      (pss_one (ps_ret (pe_callB (cr_all rfl) (by rfl) ma (by decide +kernel) (pa_cons
        (pe_lc (own := [("_law_k", 6)]) (g := gName 6) (tt := tYes) rfl nd (pi_range1 (by rfl) mr (pa_cons (pe_callB (call_max2 rfl) (by rfl) mx (by decide +kernel) (pa_cons pe_int (pa_cons (pe_callB (call_min2 rfl) (by rfl) mn (by decide +kernel)
          (pa_cons (pe_callB call_len_seq (by rfl) ml PySem.boot_len (pa_cons (pv 0) pa_nil)) (pa_cons pe_int pa_nil))) pa_nil))) pa_nil)) (blkOk_by (N := nLw19) (sc := defScope sLaw) (by decide +kernel))
        (fun _ _ _ _ _ => pg_name (i := 6) nd rfl (Or.inl rfl)) (fun _ _ _ _ _ => pts_nil)
        (fun _ _ _ _ _ => pe_callG GR hr hgd (by rfl) gR kR bR (pa_cons (pe_call GP hr1 (by rfl) gP kP bP .nil pass0 (pa_cons (pe_call GC hr1 (by rfl) gC kC bC .nil pass0 (pa_cons (pv 0) (pa_cons (pv 6) pa_nil))) pa_nil)) pa_nil))) pa_nil)))))))), ?_⟩
    -- due
    refine ⟨by show 1 ≤ sizeLine; decide, fun D1 m1 => ?_⟩
    have c1 := same_new (o := .lst [.bl true]) m1
    have g1 : upd H D1 (.lst [.bl true]) D1 = some (.lst [.bl true]) := upd_same
    generalize upd H D1 (.lst [.bl true]) = H1 at c1 g1 ⊢
    refine ⟨D1, 5, _, rfl, rfl, g1, by decide, by decide, by decide, fun D2 m2 => ?_⟩
    have c2 := same_new (o := .lst (List.replicate (5 : Int).toNat [V.bl true]).flatten) m2
    have g2 : upd H1 D2 (.lst (List.replicate (5 : Int).toNat [V.bl true]).flatten) D2 = some (.lst (List.replicate (5 : Int).toNat [V.bl true]).flatten) := upd_same
    generalize upd H1 D2 (.lst (List.replicate (5 : Int).toNat [V.bl true]).flatten) = H2 at c2 g2 ⊢
    refine ⟨by show 10 ≤ sizeLine; decide, fun D3 m3 => ?_⟩
    have c3 := same_new (o := .lst [.bl false, .bl true, .bl false, .bl true, .bl false, .bl true, .bl false, .bl true, .bl true, .bl false]) m3
    have g3 : upd H2 D3 (.lst [.bl false, .bl true, .bl false, .bl true, .bl false, .bl true, .bl false, .bl true, .bl true, .bl false]) D3 = some (.lst [.bl false, .bl true, .bl false, .bl true, .bl false, .bl true, .bl false, .bl true, .bl true, .bl false]) := upd_same
    generalize upd H2 D3 (.lst [.bl false, .bl true, .bl false, .bl true, .bl false, .bl true, .bl false, .bl true, .bl true, .bl false]) = H3 at c3 g3 ⊢
    refine ⟨D2, D3, _, _, rfl, rfl, c3 _ _ g2, g3, by decide, fun D4 m4 => ?_⟩
    have c4 := same_new (o := .lst ((List.replicate (5 : Int).toNat [V.bl true]).flatten ++ [.bl false, .bl true, .bl false, .bl true, .bl false, .bl true, .bl false, .bl true, .bl true, .bl false])) m4
    have g4 : upd H3 D4 (.lst ((List.replicate (5 : Int).toNat [V.bl true]).flatten ++ [.bl false, .bl true, .bl false, .bl true, .bl false, .bl true, .bl false, .bl true, .bl true, .bl false])) D4 = some (.lst ((List.replicate (5 : Int).toNat [V.bl true]).flatten ++ [.bl false, .bl true, .bl false, .bl true, .bl false, .bl true, .bl false, .bl true, .bl true, .bl false])) := upd_same
    generalize upd H3 D4 (.lst ((List.replicate (5 : Int).toNat [V.bl true]).flatten ++ [.bl false, .bl true, .bl false, .bl true, .bl false, .bl true, .bl false, .bl true, .bl true, .bl false])) = H4 at c4 g4 ⊢
    refine ⟨by show 4 ≤ sizeLine; decide, fun D5 m5 => ?_⟩
    have c5 := same_new (o := .lst [.bl true, .bl false, .bl false, .bl false]) m5
    have g5 : upd H4 D5 (.lst [.bl true, .bl false, .bl false, .bl false]) D5 = some (.lst [.bl true, .bl false, .bl false, .bl false]) := upd_same
    generalize upd H4 D5 (.lst [.bl true, .bl false, .bl false, .bl false]) = H5 at c5 g5 ⊢
    refine ⟨D4, D5, _, _, rfl, rfl, c5 _ _ g4, g5, by decide, fun DU m6 => ?_⟩
    have ed : ((List.replicate (5 : Int).toNat [V.bl true]).flatten ++ [.bl false, .bl true, .bl false, .bl true, .bl false, .bl true, .bl false, .bl true, .bl true, .bl false]) ++ [.bl true, .bl false, .bl false, .bl false] = dueB.map V.bl := rfl
    rw [ed]
    have c6 := same_new (o := .lst (dueB.map V.bl)) m6
    have gD : upd H5 DU (.lst (dueB.map V.bl)) DU = some (.lst (dueB.map V.bl)) := upd_same
    have z0 := ((((c1.trans c2).trans c3).trans c4).trans c5).trans c6
    generalize upd H5 DU (.lst (dueB.map V.bl)) = G0 at gD z0 ⊢
    clear c1 c2 c3 c4 c5 c6 g1 g2 g3 g4 g5
    -- twins
    intro H6 w1 s6 a6
    refine ⟨by rw [a6.len]; decide, fun Tw nTw => ?_⟩
    have sTw := same_new (o := .lst w1) nTw
    have hTw : upd H6 Tw (.lst w1) Tw = some (.lst w1) := upd_same
    have a6 := a6.same sTw
    have u6 := s6.trans sTw
    have nTwG : G0 Tw = none := s6.free nTw
    generalize upd H6 Tw (.lst w1) = G1 at hTw a6 u6 ⊢
    refine ⟨_, rfl, .inl ⟨rfl, _, SqL.of hTw⟩, fun H7 v7 s7 a7 => ?_⟩
    have hTw7 := s7 _ _ hTw
    refine ⟨Tw, w1, _, rfl, rfl, hTw7, by rw [a6.len]; decide, ?_⟩
    have kt : KT K H7 (upd H7 Tw (.lst (w1 ++ [v7]))) := KT.upd hTw7
    have hTw8 : upd H7 Tw (.lst (w1 ++ [v7])) Tw = some (.lst (w1 ++ [v7])) := upd_same
    have aT : AnsA K (upd H7 Tw (.lst (w1 ++ [v7]))) (w1 ++ [v7]) (twA ++ [twB]) := AnsA.kp kt ((a6.same s7).app (.cons a7 .nil)) (by decide)
    have u7 : Same G0 (upd H7 Tw (.lst (w1 ++ [v7]))) := fun b o e => by
      rw [upd_ne (ne_of_none e nTwG)]
      exact (u6.trans s7) b o e
    generalize upd H7 Tw (.lst (w1 ++ [v7])) = G2 at hTw8 aT u7 ⊢
    have gD2 := u7 _ _ gD
    generalize w1 ++ [v7] = wt at hTw8 aT ⊢
    -- the pairs
    refine ⟨rfl, fun H8 LL wl s8 nLL hLL aL => ?_⟩
    refine ⟨_, rfl, LL, Tw, _, _, rfl, rfl, hLL, s8 _ _ hTw8, by rw [aL.len, aT.len]; decide, fun M1 nM1 => ?_⟩
    have e1 := same_new (o := .lst (wl ++ wt)) nM1
    have hM1 : upd H8 M1 (.lst (wl ++ wt)) M1 = some (.lst (wl ++ wt)) := upd_same
    have aM1 : AnsA K (upd H8 M1 (.lst (wl ++ wt))) (wl ++ wt) (limA ++ (twA ++ [twB])) := (aL.same e1).app (aT.same (s8.trans e1))
    have u8 := s8.trans e1
    generalize upd H8 M1 (.lst (wl ++ wt)) = G3 at hM1 aM1 u8 ⊢
    refine ⟨_, rfl, M1, Tw, _, _, rfl, rfl, hM1, u8 _ _ hTw8, by rw [aM1.len, aT.len]; decide, fun M2 nM2 => ?_⟩
    have e2 := same_new (o := .lst (wl ++ wt ++ wt)) nM2
    have hM2 : upd G3 M2 (.lst (wl ++ wt ++ wt)) M2 = some (.lst (wl ++ wt ++ wt)) := upd_same
    have aM2 : AnsA K (upd G3 M2 (.lst (wl ++ wt ++ wt))) (wl ++ wt ++ wt) thsA := (aM1.same e2).app (aT.same (u8.trans e2))
    have u9 := u8.trans e2
    generalize upd G3 M2 (.lst (wl ++ wt ++ wt)) = G4 at hM2 aM2 u9 ⊢
    generalize wl ++ wt ++ wt = ws at hM2 aM2 ⊢
    refine ⟨_, rfl, by show 2 ≤ sizeLine; decide, fun B1 nB1 => ?_⟩
    have e3 := same_new (o := .lst [.bl true, .bl false]) nB1
    have hB1 : upd G4 B1 (.lst [.bl true, .bl false]) B1 = some (.lst [.bl true, .bl false]) := upd_same
    generalize upd G4 B1 (.lst [.bl true, .bl false]) = G5 at e3 hB1 ⊢
    refine ⟨B1, 4, _, rfl, rfl, hB1, by decide, by decide, by decide, fun B2 nB2 => ?_⟩
    have e4 := same_new (o := .lst (List.replicate (4 : Int).toNat [V.bl true, V.bl false]).flatten) nB2
    have hB2 : upd G5 B2 (.lst (List.replicate (4 : Int).toNat [V.bl true, V.bl false]).flatten) B2 = some (.lst (List.replicate (4 : Int).toNat [V.bl true, V.bl false]).flatten) := upd_same
    generalize upd G5 B2 (.lst (List.replicate (4 : Int).toNat [V.bl true, V.bl false]).flatten) = G6 at e4 hB2 ⊢
    refine ⟨DU, B2, _, _, rfl, rfl, (e3.trans e4) _ _ (u9 _ _ gD2), hB2, by decide, fun B3 nB3 => ?_⟩
    have ed2 : dueB.map V.bl ++ (List.replicate (4 : Int).toNat [V.bl true, V.bl false]).flatten = dueA.map V.bl := rfl
    rw [ed2]
    have e5 := same_new (o := .lst (dueA.map V.bl)) nB3
    have hB3 : SqL K (upd G6 B3 (.lst (dueA.map V.bl))) B3 (dueA.map V.bl) := SqL.of upd_same
    have e345 := (e3.trans e4).trans e5
    have hZ : SqL K (upd G6 B3 (.lst (dueA.map V.bl))) M2 ws := SqL.of (e345 _ _ hM2)
    have aZ := aM2.same e345
    have uZ := ((z0.trans u7).trans u9).trans e345
    generalize upd G6 B3 (.lst (dueA.map V.bl)) = G7 at hB3 hZ aZ uZ ⊢
    refine ⟨M2, B3, ws, dueA.map V.bl, rfl, .inl ⟨hZ, hB3, ?_⟩⟩
    have lws : ws.length = 27 := by
      rw [aZ.len]
      decide
    refine for_zipL (K := K) (a := M2) (b := B3) (xs := ws) (ys := dueA.map V.bl) (by rw [lws]; rfl) (fun i σ G => ∃ y3 y4 : Option V, σ = [some (.ref a), some (.ref DU), some (.ref Tw), y3, y4, none, none] ∧ Same G7 G) ?_ ?_ ?_ ?_
    · exact ⟨none, none, rfl, Same.refl _⟩
    · rintro i σ G ⟨_, _, _, sm⟩
      exact ⟨sm.seq hZ, sm.seq hB3⟩
    · rintro i x y T σ G hx hy ⟨y3, y4, rfl, sm⟩ nT
      have sT := same_new (o := .tup [x, y]) nT
      have s2 := sm.trans sT
      obtain ⟨ax, ex, hax⟩ := aZ.get hx
      rw [List.getElem?_map] at hy
      obtain ⟨b, eb, rfl⟩ := Option.map_eq_some_iff.mp hy
      have hg : goodA ax = b := by
        have := congrArg (fun l => l[i]?) ths_good
        simp only [List.getElem?_map, ex] at this
        rw [eb] at this
        exact Option.some.inj this
      refine ⟨T, _, rfl, SqT.of upd_same, rfl, _, _, rfl, _, _, rfl, rfl, ?_⟩
      refine ⟨_, rfl, _, rfl, x, ax, b, rfl, hax.same s2, hg, fun J1 j1 => ⟨true, rfl, ?_⟩⟩
      refine ⟨_, rfl, x, ax, rfl, hax.same (s2.trans j1), fun J2 L d j2 hd sd ed => ?_⟩
      refine ⟨by show 0 ≤ sizeLine; decide, fun M nM => ?_⟩
      have sM := same_new (o := .lst []) nM
      refine ⟨d, .list [], hd _ sM, .lst (SqL.of upd_same) .nil, sd, by decide, ?_⟩
      rw [ed, hg]
      refine ⟨_, rfl, rfl, false, ?_, ?_⟩
      · rw [decide_eq_true rfl]
        rfl
      exact ⟨_, _, rfl, (((s2.trans j1).trans j2).trans sM)⟩
    · rintro σ G ⟨y3, y4, rfl, sm⟩
      have uG := uZ.trans sm
      -- steps that are none
      intro H9 w9 s9 a9
      refine ⟨by rw [a9.len]; decide, fun SL nSL => ?_⟩
      have sSL := same_new (o := .lst w9) nSL
      have hSL : SqL K (upd H9 SL (.lst w9)) SL w9 := SqL.of upd_same
      have a9 := a9.same sSL
      have uS := uG.trans (s9.trans sSL)
      generalize upd H9 SL (.lst w9) = K0 at hSL a9 uS ⊢
      refine ⟨SL, rfl, ⟨_, hSL⟩, ?_⟩
      refine for_it (walk_list (K := K) (a := SL) (xs := w9)) (fun i σ J => ∃ y3 y5 : Option V, σ = [some (.ref a), some (.ref DU), some (.ref Tw), y3, y4, y5, none] ∧ Same K0 J) ?_ ?_ ?_ ?_
      · exact ⟨y3, none, rfl, Same.refl _⟩
      · rintro i σ J _ ⟨_, _, _, sj⟩
        exact sj.seq hSL
      · rintro i x σ J' J hi ⟨y3', y5, rfl, sj⟩ ⟨rfl, hx⟩
        have hx : w9[i]? = some x := hx
        obtain ⟨ax, ex, hax⟩ := a9.get hx
        obtain ⟨b1, b2, b3⟩ := stp_bad ax (List.mem_of_getElem? ex)
        have hax := hax.same sj
        refine ⟨_, rfl, by show 1 ≤ sizeLine; decide, fun T1 n1 => ?_⟩
        have t1 := same_new (o := .tup [x]) n1
        have h1 : SqT K (upd J T1 (.tup [x])) T1 [x] := SqT.of upd_same
        generalize upd J T1 (.tup [x]) = J1 at t1 h1 ⊢
        refine ⟨_, rfl, by show 2 ≤ sizeLine; decide, fun T2 n2 => ?_⟩
        have t2 := same_new (o := .tup [.str "R", x]) n2
        have h2 : SqT K (upd J1 T2 (.tup [.str "R", x])) T2 [.str "R", x] := SqT.of upd_same
        generalize upd J1 T2 (.tup [.str "R", x]) = J2 at t2 h2 ⊢
        refine ⟨_, rfl, by show 2 ≤ sizeLine; decide, fun T3 n3 => ?_⟩
        have t3 := same_new (o := .tup [.str "R", x]) n3
        have h3 : SqT K (upd J2 T3 (.tup [.str "R", x])) T3 [.str "R", x] := SqT.of upd_same
        generalize upd J2 T3 (.tup [.str "R", x]) = J3 at t3 h3 ⊢
        refine ⟨by show 3 ≤ sizeLine; decide, fun T4 n4 => ?_⟩
        have t4 := same_new (o := .tup [.str "repeat", .int 2, .ref T3]) n4
        have h4 : SqT K (upd J3 T4 (.tup [.str "repeat", .int 2, .ref T3])) T4 [.str "repeat", .int 2, .ref T3] := SqT.of upd_same
        generalize upd J3 T4 (.tup [.str "repeat", .int 2, .ref T3]) = J4 at t4 h4 ⊢
        refine ⟨by show 1 ≤ sizeLine; decide, fun T5 n5 => ?_⟩
        have t5 := same_new (o := .tup [.ref T4]) n5
        have h5 : SqT K (upd J4 T5 (.tup [.ref T4])) T5 [.ref T4] := SqT.of upd_same
        generalize upd J4 T5 (.tup [.ref T4]) = J5 at t5 h5 ⊢
        refine ⟨by show 3 ≤ sizeLine; decide, fun TL nTL => ?_⟩
        have t6 := same_new (o := .lst [.ref T1, .ref T2, .ref T5]) nTL
        have h6 : SqL K (upd J5 TL (.lst [.ref T1, .ref T2, .ref T5])) TL [.ref T1, .ref T2, .ref T5] := SqL.of upd_same
        generalize upd J5 TL (.lst [.ref T1, .ref T2, .ref T5]) = J6 at t6 h6 ⊢
        have p5 := t6
        have p4 := t5.trans p5
        have p3 := t4.trans p4
        have p2 := t3.trans p3
        have p1 := t2.trans p2
        have p0 := t1.trans p1
        have hax6 := hax.same p0
        have sR : AnA K J6 (.str "R") (.s "R") := .s (by decide +kernel)
        have big : ∀ {l : List V}, l.length ≤ 3 → l.length ≤ 100000 := fun h => by omega
        have all3 : ∀ (j : Nat) (v : V), [V.ref T1, .ref T2, .ref T5][j]? = some v → ∃ y, AnA K J6 v y ∧ goodA y = false := by
          intro j v hv
          match j, hv with
          | 0, hv =>
            cases hv
            exact ⟨.t [ax], .t (big (by show 1 ≤ 3; decide)) (same_seqT p1 h1) (.cons hax6 .nil), b1⟩
          | 1, hv =>
            cases hv
            exact ⟨.t [.s "R", ax], .t (big (by show 2 ≤ 3; decide)) (same_seqT p2 h2) (.cons sR (.cons hax6 .nil)), b2⟩
          | 2, hv =>
            cases hv
            exact ⟨.t [.t [.s "repeat", .i 2, .t [.s "R", ax]]], .t (big (by show 1 ≤ 3; decide)) (same_seqT p5 h5) (.cons (.t (big (by show 3 ≤ 3; decide)) (same_seqT p4 h4) (.cons (.s (by decide +kernel)) (.cons (.i 2) (.cons (.t (big (by show 2 ≤ 3; decide)) (same_seqT p3 h3) (.cons sR (.cons hax6 .nil))) .nil)))) .nil), b3⟩
          | j + 3, hv => cases hv
        refine ⟨TL, rfl, ⟨_, h6⟩, ?_⟩
        refine for_it (walk_list (K := K) (a := TL) (xs := [.ref T1, .ref T2, .ref T5])) (fun i σ J => ∃ y3 : Option V, σ = [some (.ref a), some (.ref DU), some (.ref Tw), y3, y4, some x, none] ∧ Same J6 J) ?_ ?_ ?_ ?_
        · exact ⟨_, rfl, Same.refl _⟩
        · rintro i σ J _ ⟨_, _, s6⟩
          exact s6.seq h6
        · rintro i v σ J' J hi ⟨y3', rfl, s6⟩ ⟨rfl, hv⟩
          obtain ⟨y, hy, gy⟩ := all3 i v hv
          refine ⟨_, rfl, v, y, false, rfl, hy.same s6, gy, fun J7 s7 => ⟨true, rfl, ?_⟩⟩
          exact ⟨_, rfl, s6.trans s7⟩
        · rintro σ J7 ⟨y3', rfl, s6⟩
          exact ⟨_, _, rfl, (sj.trans p0).trans s6⟩
      · rintro σ J ⟨y3', y5, rfl, sj⟩
        have uJ := uS.trans sj
        refine ⟨_, rfl, a, _, rfl, .inl (uJ.seq hS), _, _, rfl, _, _, rfl, _, rfl, ?_, ?_, fun D nD => ?_⟩
        · (repeat' split) <;> omega
        · (repeat' split) <;> omega
        generalize hN : (if (if (6 : Int) < ((ns.map V.int).length : Int) then (6 : Int) else ((ns.map V.int).length : Int)) > 2 then (if (6 : Int) < ((ns.map V.int).length : Int) then (6 : Int) else ((ns.map V.int).length : Int)) else 2) = N
        have hNb : 0 ≤ N ∧ N ≤ 6 := by
          rw [← hN]
          (repeat' split) <;> omega
        refine lc_range (lo := 0) (n := N.toNat) (fun i H' => H' D = some (.lst ((List.replicate i true).map V.bl)) ∧ (∀ b o, b ≠ D → J b = some o → H' b = some o)) ?_ ?_ ?_
        · exact ⟨upd_same, fun b o n e => by rw [upd_ne n]; exact e⟩
        · rintro i H' hi ⟨a1, a2⟩
          have sD : Same J H' := fun b o e => a2 b o (ne_of_none e nD) e
          refine ⟨rfl, _, rfl, _, rfl, a, ns, i, by
            show [V.ref a, V.int (0 + (i : Int))] = _
            rw [Int.zero_add], (uJ.trans sD).seq hS, by omega, fun H1 n s1 => ⟨n, rfl, fun H2 p s2 np po => ⟨p, rfl, po, fun H3 kx => ?_⟩⟩⟩
          have nDp : D ≠ p := ne_of_none (s1 _ _ a1) np
          have s12 := s1.trans s2
          refine ⟨_, kx _ _ nDp (s12 _ _ a1), ?_, ?_, fun b o n e => ?_⟩
          · rw [List.length_map, List.length_replicate]
            exact small64 (by omega)
          · rw [upd_same, List.replicate_succ', List.map_append]
            rfl
          · rw [upd_ne n]
            have e1 := a2 b o n e
            exact kx _ _ (ne_of_none (s1 _ _ e1) np) (s12 _ _ e1)
        · rintro H' ⟨a1, a2⟩
          refine ⟨D, _, rfl, SqL.of a1, ?_⟩
          rw [show (List.replicate N.toNat true).all id = true by simp]
          exact q H'
end
end KS
namespace KS
open PySem PySem.Spec PyProof.Rows L2
-- topS
theorem all_mk {l : PySem.W.OpenLaw} {w : World} {K : PySem.W.Frag} {h : Heap} {mg : Str → Option Value} {fa f0 f1 f2 f3 f4 f5 f6 f7 f8 f9 f10 f11 f12 f13 f14 f15 f16 f17 f18 f19 f20 f21 f22 f23 : Addr} (X : K.In h) (G : h.Ns mainGlobals mg) (hfa : mg "law" = some (.ref fa))
    {od0 an0 od1 an1 od2 an2 od3 an3 od4 an4 od5 an5 od6 an6 od7 an7 od8 an8 od9 an9 od10 an10 od11 an11 od12 an12 od13 an13 od14 an14 od15 an15 od16 an16 od17 an17 od18 an18 od19 an19 od20 an20 od21 an21 od22 an22 od23 an23 : Option Addr} {sl0 sl1 sl2 sl3 sl4 sl5 sl6 sl7 sl8 sl9 sl10 sl11 sl12 sl13 sl14 sl15 sl16 sl17 sl18 sl19 sl20 sl21 sl22 sl23 : Array (Option Value)}
    {oc0 kV0 dc0 pm0 cd0 ct0 oc1 kV1 dc1 pm1 cd1 ct1 oc2 kV2 dc2 pm2 cd2 ct2 oc3 kV3 dc3 pm3 cd3 ct3 oc4 kV4 dc4 pm4 cd4 ct4 oc5 kV5 dc5 pm5 cd5 ct5 oc6 kV6 dc6 pm6 cd6 ct6 oc7 kV7 dc7 pm7 cd7 ct7 oc8 kV8 dc8 pm8 cd8 ct8 oc9 kV9 dc9 pm9 cd9 ct9 oc10 kV10 dc10 pm10 cd10 ct10 oc11 kV11 dc11 pm11 cd11 ct11 oc12 kV12 dc12 pm12 cd12 ct12 oc13 kV13 dc13 pm13 cd13 ct13 oc14 kV14 dc14 pm14 cd14 ct14 oc15 kV15 dc15 pm15 cd15 ct15 oc16 kV16 dc16 pm16 cd16 ct16 oc17 kV17 dc17 pm17 cd17 ct17 oc18 kV18 dc18 pm18 cd18 ct18 oc19 kV19 dc19 pm19 cd19 ct19 oc20 kV20 dc20 pm20 cd20 ct20 oc21 kV21 dc21 pm21 cd21 ct21 oc22 kV22 dc22 pm22 cd22 ct22 oc23 kV23 dc23 pm23 cd23 ct23 : Value} {tk0 tk1 tk2 tk3 : Tok}
    (a0 : PySem.W.nsIn K mainGlobals "is_whole" = some (some (.ref f0)))
    (l0 : K.lookup f0 = some ⟨oc0, od0, .func (PySem.W.fnOf "is_whole" "is_whole" (defArgs sWhole) (defBody sWhole) (defScope sWhole) .none kV0 dc0 pm0 an0 cd0 ct0), sl0⟩)
    (c0 : PySem.W.codeIn K cd0 "is_whole" = true) (k0 : PySem.W.keepIn K (.ref f0) = true)
    (a1 : PySem.W.nsIn K mainGlobals "is_between" = some (some (.ref f1)))
    (l1 : K.lookup f1 = some ⟨oc1, od1, .func (PySem.W.fnOf "is_between" "is_between" (defArgs sBetween) (defBody sBetween) (defScope sBetween) .none kV1 dc1 pm1 an1 cd1 ct1), sl1⟩)
    (c1 : PySem.W.codeIn K cd1 "is_between" = true) (k1 : PySem.W.keepIn K (.ref f1) = true)
    (a2 : PySem.W.nsIn K mainGlobals "check_letters" = some (some (.ref f2)))
    (l2 : K.lookup f2 = some ⟨oc2, od2, .func (PySem.W.fnOf "check_letters" "check_letters" (defArgs sCheckL) (defBody sCheckL) (defScope sCheckL) .none kV2 dc2 pm2 an2 cd2 ct2), sl2⟩)
    (c2 : PySem.W.codeIn K cd2 "check_letters" = true) (k2 : PySem.W.keepIn K (.ref f2) = true)
    (a3 : PySem.W.nsIn K mainGlobals "check_word" = some (some (.ref f3)))
    (l3 : K.lookup f3 = some ⟨oc3, od3, .func (PySem.W.fnOf "check_word" "check_word" (defArgs sCheckW) (defBody sCheckW) (defScope sCheckW) .none kV3 dc3 pm3 an3 cd3 ct3), sl3⟩)
    (c3 : PySem.W.codeIn K cd3 "check_word" = true) (k3 : PySem.W.keepIn K (.ref f3) = true)
    (a4 : PySem.W.nsIn K mainGlobals "is_word" = some (some (.ref f4)))
    (l4 : K.lookup f4 = some ⟨oc4, od4, .func (PySem.W.fnOf "is_word" "is_word" (defArgs sIsWord) (defBody sIsWord) (defScope sIsWord) .none kV4 dc4 pm4 an4 cd4 ct4), sl4⟩)
    (c4 : PySem.W.codeIn K cd4 "is_word" = true) (k4 : PySem.W.keepIn K (.ref f4) = true)
    (a5 : PySem.W.nsIn K mainGlobals "is_repeat" = some (some (.ref f5)))
    (l5 : K.lookup f5 = some ⟨oc5, od5, .func (PySem.W.fnOf "is_repeat" "is_repeat" (defArgs sIsRep) (defBody sIsRep) (defScope sIsRep) .none kV5 dc5 pm5 an5 cd5 ct5), sl5⟩)
    (c5 : PySem.W.codeIn K cd5 "is_repeat" = true) (k5 : PySem.W.keepIn K (.ref f5) = true)
    (a6 : PySem.W.nsIn K mainGlobals "count_steps" = some (some (.ref f6)))
    (l6 : K.lookup f6 = some ⟨oc6, od6, .func (PySem.W.fnOf "count_steps" "count_steps" (defArgs sCS) (defBody sCS) (defScope sCS) .none kV6 dc6 pm6 an6 cd6 ct6), sl6⟩)
    (c6 : PySem.W.codeIn K cd6 "count_steps" = true) (k6 : PySem.W.keepIn K (.ref f6) = true)
    (a7 : PySem.W.nsIn K mainGlobals "check_program" = some (some (.ref f7)))
    (l7 : K.lookup f7 = some ⟨oc7, od7, .func (PySem.W.fnOf "check_program" "check_program" (defArgs sCP) (defBody sCP) (defScope sCP) .none kV7 dc7 pm7 an7 cd7 ct7), sl7⟩)
    (c7 : PySem.W.codeIn K cd7 "check_program" = true) (k7 : PySem.W.keepIn K (.ref f7) = true)
    (a8 : PySem.W.nsIn K mainGlobals "is_program" = some (some (.ref f8)))
    (l8 : K.lookup f8 = some ⟨oc8, od8, .func (PySem.W.fnOf "is_program" "is_program" (defArgs sIsProg) (defBody sIsProg) (defScope sIsProg) .none kV8 dc8 pm8 an8 cd8 ct8), sl8⟩)
    (c8 : PySem.W.codeIn K cd8 "is_program" = true) (k8 : PySem.W.keepIn K (.ref f8) = true)
    (a9 : PySem.W.nsIn K mainGlobals "_law_cell" = some (some (.ref f9)))
    (l9 : K.lookup f9 = some ⟨oc9, od9, .func (PySem.W.fnOf "_law_cell" "_law_cell" (defArgs sCell) (defBody sCell) (defScope sCell) .none kV9 dc9 pm9 an9 cd9 ct9), sl9⟩)
    (c9 : PySem.W.codeIn K cd9 "_law_cell" = true) (k9 : PySem.W.keepIn K (.ref f9) = true)
    (a10 : PySem.W.nsIn K mainGlobals "_law_pool" = some (some (.ref f10)))
    (l10 : K.lookup f10 = some ⟨oc10, od10, .func (PySem.W.fnOf "_law_pool" "_law_pool" (defArgs sPool) (defBody sPool) (defScope sPool) .none kV10 dc10 pm10 an10 cd10 ct10), sl10⟩)
    (c10 : PySem.W.codeIn K cd10 "_law_pool" = true) (k10 : PySem.W.keepIn K (.ref f10) = true)
    (a11 : PySem.W.nsIn K mainGlobals "_law_draw" = some (some (.ref f11)))
    (l11 : K.lookup f11 = some ⟨oc11, od11, .func (PySem.W.fnOf "_law_draw" "_law_draw" (defArgs sDraw) (defBody sDraw) (defScope sDraw) .none kV11 dc11 pm11 an11 cd11 ct11), sl11⟩)
    (c11 : PySem.W.codeIn K cd11 "_law_draw" = true) (k11 : PySem.W.keepIn K (.ref f11) = true)
    (a12 : PySem.W.nsIn K mainGlobals "_law_word" = some (some (.ref f12)))
    (l12 : K.lookup f12 = some ⟨oc12, od12, .func (PySem.W.fnOf "_law_word" "_law_word" (defArgs sWord) (defBody sWord) (defScope sWord) .none kV12 dc12 pm12 an12 cd12 ct12), sl12⟩)
    (c12 : PySem.W.codeIn K cd12 "_law_word" = true) (k12 : PySem.W.keepIn K (.ref f12) = true)
    (a13 : PySem.W.nsIn K mainGlobals "_law_times" = some (some (.ref f13)))
    (l13 : K.lookup f13 = some ⟨oc13, od13, .func (PySem.W.fnOf "_law_times" "_law_times" (defArgs sTimes) (defBody sTimes) (defScope sTimes) .none kV13 dc13 pm13 an13 cd13 ct13), sl13⟩)
    (c13 : PySem.W.codeIn K cd13 "_law_times" = true) (k13 : PySem.W.keepIn K (.ref f13) = true)
    (a14 : PySem.W.nsIn K mainGlobals "_law_steps" = some (some (.ref f14)))
    (l14 : K.lookup f14 = some ⟨oc14, od14, .func (PySem.W.fnOf "_law_steps" "_law_steps" (defArgs sLSteps) (defBody sLSteps) (defScope sLSteps) .none kV14 dc14 pm14 an14 cd14 ct14), sl14⟩)
    (c14 : PySem.W.codeIn K cd14 "_law_steps" = true) (k14 : PySem.W.keepIn K (.ref f14) = true)
    (a15 : PySem.W.nsIn K mainGlobals "_law_program" = some (some (.ref f15)))
    (l15 : K.lookup f15 = some ⟨oc15, od15, .func (PySem.W.fnOf "_law_program" "_law_program" (defArgs sLProg) (defBody sLProg) (defScope sLProg) .none kV15 dc15 pm15 an15 cd15 ct15), sl15⟩)
    (c15 : PySem.W.codeIn K cd15 "_law_program" = true) (k15 : PySem.W.keepIn K (.ref f15) = true)
    (a16 : PySem.W.nsIn K mainGlobals "_law_whole" = some (some (.ref f16)))
    (l16 : K.lookup f16 = some ⟨oc16, od16, .func (PySem.W.fnOf "_law_whole" "_law_whole" (defArgs sLWh) (defBody sLWh) (defScope sLWh) .none kV16 dc16 pm16 an16 cd16 ct16), sl16⟩)
    (c16 : PySem.W.codeIn K cd16 "_law_whole" = true) (k16 : PySem.W.keepIn K (.ref f16) = true)
    (a17 : PySem.W.nsIn K mainGlobals "_law_counted" = some (some (.ref f17)))
    (l17 : K.lookup f17 = some ⟨oc17, od17, .func (PySem.W.fnOf "_law_counted" "_law_counted" (defArgs sCtd) (defBody sCtd) (defScope sCtd) .none kV17 dc17 pm17 an17 cd17 ct17), sl17⟩)
    (c17 : PySem.W.codeIn K cd17 "_law_counted" = true) (k17 : PySem.W.keepIn K (.ref f17) = true)
    (a18 : PySem.W.nsIn K mainGlobals "_law_first_bad" = some (some (.ref f18)))
    (l18 : K.lookup f18 = some ⟨oc18, od18, .func (PySem.W.fnOf "_law_first_bad" "_law_first_bad" (defArgs sFB) (defBody sFB) (defScope sFB) .none kV18 dc18 pm18 an18 cd18 ct18), sl18⟩)
    (c18 : PySem.W.codeIn K cd18 "_law_first_bad" = true) (k18 : PySem.W.keepIn K (.ref f18) = true)
    (a19 : PySem.W.nsIn K mainGlobals "_law_bent" = some (some (.ref f19)))
    (l19 : K.lookup f19 = some ⟨oc19, od19, .func (PySem.W.fnOf "_law_bent" "_law_bent" (defArgs sBntA) (defBody sBntA) (defScope sBntA) .none kV19 dc19 pm19 an19 cd19 ct19), sl19⟩)
    (c19 : PySem.W.codeIn K cd19 "_law_bent" = true) (k19 : PySem.W.keepIn K (.ref f19) = true)
    (a20 : PySem.W.nsIn K mainGlobals "_law_at_limits" = some (some (.ref f20)))
    (l20 : K.lookup f20 = some ⟨oc20, od20, .func (PySem.W.fnOf "_law_at_limits" "_law_at_limits" (defArgs sLimA) (defBody sLimA) (defScope sLimA) .none kV20 dc20 pm20 an20 cd20 ct20), sl20⟩)
    (c20 : PySem.W.codeIn K cd20 "_law_at_limits" = true) (k20 : PySem.W.keepIn K (.ref f20) = true)
    (a21 : PySem.W.nsIn K mainGlobals "_law_told_right" = some (some (.ref f21)))
    (l21 : K.lookup f21 = some ⟨oc21, od21, .func (PySem.W.fnOf "_law_told_right" "_law_told_right" (defArgs sToldR) (defBody sToldR) (defScope sToldR) .none kV21 dc21 pm21 an21 cd21 ct21), sl21⟩)
    (c21 : PySem.W.codeIn K cd21 "_law_told_right" = true) (k21 : PySem.W.keepIn K (.ref f21) = true)
    (a22 : PySem.W.nsIn K mainGlobals "_law_right" = some (some (.ref f22)))
    (l22 : K.lookup f22 = some ⟨oc22, od22, .func (PySem.W.fnOf "_law_right" "_law_right" (defArgs sRight) (defBody sRight) (defScope sRight) .none kV22 dc22 pm22 an22 cd22 ct22), sl22⟩)
    (c22 : PySem.W.codeIn K cd22 "_law_right" = true) (k22 : PySem.W.keepIn K (.ref f22) = true)
    (a23 : PySem.W.nsIn K mainGlobals "law" = some (some (.ref f23)))
    (l23 : K.lookup f23 = some ⟨oc23, od23, .func (PySem.W.fnOf "law" "law" (defArgs sLaw) (defBody sLaw) (defScope sLaw) .none kV23 dc23 pm23 an23 cd23 ct23), sl23⟩)
    (c23 : PySem.W.codeIn K cd23 "law" = true) (k23 : PySem.W.keepIn K (.ref f23) = true)
    (z0 : PySem.W.nsIn K mainGlobals "isinstance" = some none)
    (z1 : PySem.W.nsIn K mainGlobals "int" = some none)
    (z2 : PySem.W.nsIn K mainGlobals "bool" = some none)
    (z3 : PySem.W.nsIn K mainGlobals "str" = some none)
    (z4 : PySem.W.nsIn K mainGlobals "len" = some none)
    (z5 : PySem.W.nsIn K mainGlobals "enumerate" = some none)
    (z6 : PySem.W.nsIn K mainGlobals "tuple" = some none)
    (z7 : PySem.W.nsIn K mainGlobals "abs" = some none)
    (z8 : PySem.W.nsIn K mainGlobals "divmod" = some none)
    (z9 : PySem.W.nsIn K mainGlobals "sum" = some none)
    (z10 : PySem.W.nsIn K mainGlobals "range" = some none)
    (z11 : PySem.W.nsIn K mainGlobals "list" = some none)
    (z12 : PySem.W.nsIn K mainGlobals "repr" = some none)
    (z13 : PySem.W.nsIn K mainGlobals "zip" = some none)
    (z14 : PySem.W.nsIn K mainGlobals "all" = some none)
    (z15 : PySem.W.nsIn K mainGlobals "max" = some none)
    (z16 : PySem.W.nsIn K mainGlobals "min" = some none)
    (w0 : PySem.W.nsIn K mainGlobals "MOST_LETTERS" = some (some (.int 400 tk0)))
    (w1 : PySem.W.nsIn K mainGlobals "MOST_TIMES" = some (some (.int 1000000000000000000000000000000 tk1)))
    (w2 : PySem.W.nsIn K mainGlobals "MOST_NESTED" = some (some (.int 5 tk2)))
    (w3 : PySem.W.nsIn K mainGlobals "MOST_STEPS" = some (some (.int 60 tk3)))
    {Ce0 fNe0 Sxe0 Ne0 : Addr} {nme0 qe0 : Str} {bse0 : List Value} {sne0 : List Str} {sube0 : List Value} {abe0 : Bool} {cole0 : Option Bool} {dde0 : Option Addr} {x0e0 x1e0 x2e0 x3e0 x5e0 : Option Value}
    {odNe0 anNe0 : Option Addr} {slNe0 : Array (Option Value)} {ocNe0 dcNe0 pmNe0 cdNe0 ctNe0 : Value} {p1e0 p2e0 q1e0 q2e0 q3e0 q4e0 : Pos}
    (aCe0 : PySem.W.nsIn K mainGlobals "InvalidWord" = some (some (.ref Ce0)))
    (xLe0 : K.lookup Ce0 = some (excClassObj nme0 qe0 Ce0 Ne0 bse0 [.ref Sxe0, .type "ValueError", .type "Exception", .type "BaseException", .type "object"] true sne0 sube0 abe0 cole0 dde0 x0e0 x1e0 x2e0 x3e0 x5e0 "ValueError.__new__"))
    (sae0 : PySem.W.findIn K (.ref Ce0) "__setattr__" = some (some (.builtin "object.__setattr__"))) (gae0 : PySem.W.findIn K (.ref Ce0) "__getattribute__" = some (some (.builtin "BaseException.__getattribute__")))
    (gge0 : PySem.W.findIn K (.ref Ce0) "__getattr__" = some none) (nbe0 : PySem.W.findIn K (.ref Ce0) "index" = some none)
    (aNe0 : PySem.W.findIn K (.ref Ce0) "__init__" = some (some (.ref fNe0))) (tNe0 : PySem.W.typeIn K (.ref fNe0) = some (.type "function"))
    (lNe0 : K.lookup fNe0 = some ⟨ocNe0, odNe0, .func (PySem.W.fnOf "__init__" "InvalidWord.__init__" (PySem.XInvalidWord.iA p1e0 p2e0) (PySem.XInvalidWord.iB q1e0 q2e0 q3e0 q4e0) PySem.XInvalidWord.iS .none .none dcNe0 pmNe0 anNe0 cdNe0 ctNe0), slNe0⟩) (cNe0 : PySem.W.codeIn K cdNe0 "InvalidWord.__init__" = true)
    (kCe0 : PySem.W.keepIn K (.ref Ce0) = true) (eCe0 : PySem.W.subIn K (.ref Ce0) (.type "BaseException") = some true) (tCe0 : PySem.W.typeIn K (.ref Ce0) = some (.type "type")) (hCe0 : PySem.W.hasDictIn K Ce0 = true) (iCe0 : PySem.W.isClsIn K Ce0 = true) (sCe0 : PySem.W.subIn K (.ref Ce0) (.ref Ce0) = some true)
    {Ce1 fNe1 Sxe1 Ne1 : Addr} {nme1 qe1 : Str} {bse1 : List Value} {sne1 : List Str} {sube1 : List Value} {abe1 : Bool} {cole1 : Option Bool} {dde1 : Option Addr} {x0e1 x1e1 x2e1 x3e1 x5e1 : Option Value}
    {odNe1 anNe1 : Option Addr} {slNe1 : Array (Option Value)} {ocNe1 dcNe1 pmNe1 cdNe1 ctNe1 : Value} {p1e1 p2e1 q1e1 q2e1 q3e1 q4e1 : Pos}
    (aCe1 : PySem.W.nsIn K mainGlobals "InvalidProgram" = some (some (.ref Ce1)))
    (xLe1 : K.lookup Ce1 = some (excClassObj nme1 qe1 Ce1 Ne1 bse1 [.ref Sxe1, .type "ValueError", .type "Exception", .type "BaseException", .type "object"] true sne1 sube1 abe1 cole1 dde1 x0e1 x1e1 x2e1 x3e1 x5e1 "ValueError.__new__"))
    (sae1 : PySem.W.findIn K (.ref Ce1) "__setattr__" = some (some (.builtin "object.__setattr__"))) (gae1 : PySem.W.findIn K (.ref Ce1) "__getattribute__" = some (some (.builtin "BaseException.__getattribute__")))
    (gge1 : PySem.W.findIn K (.ref Ce1) "__getattr__" = some none) (nbe1 : PySem.W.findIn K (.ref Ce1) "index" = some none)
    (aNe1 : PySem.W.findIn K (.ref Ce1) "__init__" = some (some (.ref fNe1))) (tNe1 : PySem.W.typeIn K (.ref fNe1) = some (.type "function"))
    (lNe1 : K.lookup fNe1 = some ⟨ocNe1, odNe1, .func (PySem.W.fnOf "__init__" "InvalidProgram.__init__" (PySem.XInvalidProgram.iA p1e1 p2e1) (PySem.XInvalidProgram.iB q1e1 q2e1 q3e1 q4e1) PySem.XInvalidProgram.iS .none .none dcNe1 pmNe1 anNe1 cdNe1 ctNe1), slNe1⟩) (cNe1 : PySem.W.codeIn K cdNe1 "InvalidProgram.__init__" = true)
    (kCe1 : PySem.W.keepIn K (.ref Ce1) = true) (eCe1 : PySem.W.subIn K (.ref Ce1) (.type "BaseException") = some true) (tCe1 : PySem.W.typeIn K (.ref Ce1) = some (.type "type")) (hCe1 : PySem.W.hasDictIn K Ce1 = true) (iCe1 : PySem.W.isClsIn K Ce1 = true) (sCe1 : PySem.W.subIn K (.ref Ce1) (.ref Ce1) = some true)
    : ∃ fd : FuncData, (∀ (s : Shared) (v : Value), BindsTo s fd ⟨[v], []⟩ [("_law_script", v)]) ∧ ∀ base : Heap, K.In base → base.Ns mainGlobals mg → FnG l.prog w K mg base 14 fa fd ["_law_script"] (spLaw K) := by
  have e := hfa.symm.trans (PySem.W.mg_of X G a23)
  cases e
  have F0 := fun_mk (st := sWhole) l0 c0 k0
  have m0 := PySem.W.mg_of X G a0
  have F1 := fun_mk (st := sBetween) l1 c1 k1
  have m1 := PySem.W.mg_of X G a1
  have F2 := fun_mk (st := sCheckL) l2 c2 k2
  have m2 := PySem.W.mg_of X G a2
  have F3 := fun_mk (st := sCheckW) l3 c3 k3
  have m3 := PySem.W.mg_of X G a3
  have F4 := fun_mk (st := sIsWord) l4 c4 k4
  have m4 := PySem.W.mg_of X G a4
  have F5 := fun_mk (st := sIsRep) l5 c5 k5
  have m5 := PySem.W.mg_of X G a5
  have F6 := fun_mk (st := sCS) l6 c6 k6
  have m6 := PySem.W.mg_of X G a6
  have F7 := fun_mk (st := sCP) l7 c7 k7
  have m7 := PySem.W.mg_of X G a7
  have F8 := fun_mk (st := sIsProg) l8 c8 k8
  have m8 := PySem.W.mg_of X G a8
  have F9 := fun_mk (st := sCell) l9 c9 k9
  have m9 := PySem.W.mg_of X G a9
  have F10 := fun_mk (st := sPool) l10 c10 k10
  have m10 := PySem.W.mg_of X G a10
  have F11 := fun_mk (st := sDraw) l11 c11 k11
  have m11 := PySem.W.mg_of X G a11
  have F12 := fun_mk (st := sWord) l12 c12 k12
  have m12 := PySem.W.mg_of X G a12
  have F13 := fun_mk (st := sTimes) l13 c13 k13
  have m13 := PySem.W.mg_of X G a13
  have F14 := fun_mk (st := sLSteps) l14 c14 k14
  have m14 := PySem.W.mg_of X G a14
  have F15 := fun_mk (st := sLProg) l15 c15 k15
  have m15 := PySem.W.mg_of X G a15
  have F16 := fun_mk (st := sLWh) l16 c16 k16
  have m16 := PySem.W.mg_of X G a16
  have F17 := fun_mk (st := sCtd) l17 c17 k17
  have m17 := PySem.W.mg_of X G a17
  have F18 := fun_mk (st := sFB) l18 c18 k18
  have m18 := PySem.W.mg_of X G a18
  have F19 := fun_mk (st := sBntA) l19 c19 k19
  have m19 := PySem.W.mg_of X G a19
  have F20 := fun_mk (st := sLimA) l20 c20 k20
  have m20 := PySem.W.mg_of X G a20
  have F21 := fun_mk (st := sToldR) l21 c21 k21
  have m21 := PySem.W.mg_of X G a21
  have F22 := fun_mk (st := sRight) l22 c22 k22
  have m22 := PySem.W.mg_of X G a22
  have F23 := fun_mk (st := sLaw) l23 c23 k23
  have m23 := PySem.W.mg_of X G a23
  have n_isinstance := PySem.W.mg_none_of X G z0
  have n_int := PySem.W.mg_none_of X G z1
  have n_bool := PySem.W.mg_none_of X G z2
  have n_str := PySem.W.mg_none_of X G z3
  have n_len := PySem.W.mg_none_of X G z4
  have n_enumerate := PySem.W.mg_none_of X G z5
  have n_tuple := PySem.W.mg_none_of X G z6
  have n_abs := PySem.W.mg_none_of X G z7
  have n_divmod := PySem.W.mg_none_of X G z8
  have n_sum := PySem.W.mg_none_of X G z9
  have n_range := PySem.W.mg_none_of X G z10
  have n_list := PySem.W.mg_none_of X G z11
  have n_repr := PySem.W.mg_none_of X G z12
  have n_zip := PySem.W.mg_none_of X G z13
  have n_all := PySem.W.mg_none_of X G z14
  have n_max := PySem.W.mg_none_of X G z15
  have n_min := PySem.W.mg_none_of X G z16
  have c_MOST_LETTERS := PySem.W.mg_of X G w0
  have c_MOST_TIMES := PySem.W.mg_of X G w1
  have c_MOST_NESTED := PySem.W.mg_of X G w2
  have c_MOST_STEPS := PySem.W.mg_of X G w3
  have b0 := F0.binds (ps := ["value"]) fun _ _ _ _ _ _ us hl => match us, hl with | [_], _ => rfl
  have b1 := F1.binds (ps := ["value", "least", "most"]) fun _ _ _ _ _ _ us hl => match us, hl with | [_, _, _], _ => rfl
  have b2 := F2.binds (ps := ["word", "letters"]) fun _ _ _ _ _ _ us hl => match us, hl with | [_, _], _ => rfl
  have b3 := F3.binds (ps := ["word"]) fun _ _ _ _ _ _ us hl => match us, hl with | [_], _ => rfl
  have b4 := F4.binds (ps := ["value"]) fun _ _ _ _ _ _ us hl => match us, hl with | [_], _ => rfl
  have b5 := F5.binds (ps := ["value"]) fun _ _ _ _ _ _ us hl => match us, hl with | [_], _ => rfl
  have b6 := F6.binds (ps := ["step", "depth", "room"]) fun _ _ _ _ _ _ us hl => match us, hl with | [_, _, _], _ => rfl
  have b7 := F7.binds (ps := ["program"]) fun _ _ _ _ _ _ us hl => match us, hl with | [_], _ => rfl
  have b8 := F8.binds (ps := ["value"]) fun _ _ _ _ _ _ us hl => match us, hl with | [_], _ => rfl
  have w8 : KwBinds _ ["value"] ["value"] id id := kw_binds F8 (fun _ _ _ _ _ _ ws hl => match ws, hl with | [_], _ => rfl) (fun r => r)
  have b9 := F9.binds (ps := ["_law_script", "_law_k"]) fun _ _ _ _ _ _ us hl => match us, hl with | [_, _], _ => rfl
  have b10 := F10.binds (ps := ["_law_number"]) fun _ _ _ _ _ _ us hl => match us, hl with | [_], _ => rfl
  have b11 := F11.binds (ps := ["_law_pool_here", "_law_most"]) fun _ _ _ _ _ _ us hl => match us, hl with | [_, _], _ => rfl
  have b12 := F12.binds (ps := ["_law_pool_here", "_law_most"]) fun _ _ _ _ _ _ us hl => match us, hl with | [_, _], _ => rfl
  have b13 := F13.binds (ps := ["_law_pool_here", "_law_small"]) fun _ _ _ _ _ _ us hl => match us, hl with | [_, _], _ => rfl
  have b14 := F14.binds (ps := ["_law_step"]) fun _ _ _ _ _ _ us hl => match us, hl with | [_], _ => rfl
  have b15 := F15.binds (ps := ["_law_pool_here", "_law_deep", "_law_most", "_law_small"]) fun _ _ _ _ _ _ us hl => match us, hl with | [_, _, _, _], _ => rfl
  have b16 := F16.binds (ps := ["_law_thing", "_law_least", "_law_most"]) fun _ _ _ _ _ _ us hl => match us, hl with | [_, _, _], _ => rfl
  have b17 := F17.binds (ps := ["_law_step", "_law_deep"]) fun _ _ _ _ _ _ us hl => match us, hl with | [_, _], _ => rfl
  have b18 := F18.binds (ps := ["_law_thing"]) fun _ _ _ _ _ _ us hl => match us, hl with | [_], _ => rfl
  have b19 := F19.binds (ps := ["_law_pool_here", "_law_parts"]) fun _ _ _ _ _ _ us hl => match us, hl with | [_, _], _ => rfl
  have b20 := F20.binds (ps := []) fun _ _ _ _ _ _ us hl => match us, hl with | [], _ => rfl
  have b21 := F21.binds (ps := ["_law_thing", "_law_due"]) fun _ _ _ _ _ _ us hl => match us, hl with | [_, _], _ => rfl
  have b22 := F22.binds (ps := ["_law_pool_here"]) fun _ _ _ _ _ _ us hl => match us, hl with | [_], _ => rfl
  have lowInvalidWord : PySem.XInvalidWord.InvalidWordTxt K mg Ce0 fNe0 :=
    { gC := PySem.W.mg_of X G aCe0, cls := ⟨nme0, qe0, Ne0, bse0, _, sne0, sube0, abe0, cole0, dde0, x0e0, x1e0, x2e0, x3e0, x5e0, xLe0, rfl⟩, sa := sae0, ga := gae0, gg := gge0, noN := nbe0, iC := aNe0, tC := tNe0, kC := kCe0, exC := eCe0, tyC := tCe0, hdC := hCe0, te := exm_self eCe0 iCe0 tCe0 sCe0, fn := ⟨_, _, _, _, _, _, _, _, _, _, _, _, _, _, lNe0, cNe0⟩ }
  have lowInvalidProgram : PySem.XInvalidProgram.InvalidProgramTxt K mg Ce1 fNe1 :=
    { gC := PySem.W.mg_of X G aCe1, cls := ⟨nme1, qe1, Ne1, bse1, _, sne1, sube1, abe1, cole1, dde1, x0e1, x1e1, x2e1, x3e1, x5e1, xLe1, rfl⟩, sa := sae1, ga := gae1, gg := gge1, noN := nbe1, iC := aNe1, tC := tNe1, kC := kCe1, exC := eCe1, tyC := tCe1, hdC := hCe1, te := exm_self eCe1 iCe1 tCe1 sCe1, fn := ⟨_, _, _, _, _, _, _, _, _, _, _, _, _, _, lNe1, cNe1⟩ }
  refine ⟨PySem.W.fnOf "law" "law" (defArgs sLaw) (defBody sLaw) (defScope sLaw) .none kV23 dc23 pm23 an23 cd23 ct23, fun s v => .of_eq rfl, fun base _ _ => ?_⟩
  have G0 := ok_wholeA (P := l.prog) (w := w) (mg := mg) (base := base) F0 n_isinstance n_int n_bool
  have G1 := ok_betweenA (P := l.prog) (w := w) (mg := mg) (base := base) F1 G0 b0 m0 k0
  have G2 := ok_checkLA (P := l.prog) (w := w) (mg := mg) (base := base) F2 lowInvalidWord n_isinstance n_str n_len n_enumerate c_MOST_LETTERS
  have G3 := ok_checkWA (P := l.prog) (w := w) (mg := mg) (base := base) F3 G2 b2 m2 k2
  have G4 := ok_isWordA (P := l.prog) (w := w) (mg := mg) (base := base) F4 G3 b3 m3 k3 lowInvalidWord
  have G5 := ok_isRepA (P := l.prog) (w := w) (mg := mg) (base := base) F5 G1 b1 m1 k1 n_isinstance n_tuple n_len c_MOST_TIMES
  have G6 := ok_countSA (P := l.prog) (w := w) (mg := mg) (base := base) F6 b6 m6 k6 G4 b4 m4 k4 G5 b5 m5 k5 n_isinstance n_str c_MOST_NESTED 4
  have G7 := ok_checkPA (P := l.prog) (w := w) (mg := mg) (base := base) F7 G6 b6 m6 k6 lowInvalidProgram n_isinstance n_tuple n_enumerate c_MOST_STEPS
  have G8 := ok_isProgA (P := l.prog) (w := w) (mg := mg) (base := base) F8 G7 b7 m7 k7 lowInvalidProgram
  have G9 := ok_cell (P := l.prog) (w := w) (mg := mg) (base := base) F9 n_len
  have G10 := ok_pool (P := l.prog) (w := w) (mg := mg) (base := base) F10 n_abs
  have G11 := ok_draw (P := l.prog) (w := w) (mg := mg) (base := base) F11 n_divmod
  have G11W := ok_drawW (P := l.prog) (w := w) (mg := mg) (base := base) F11 n_divmod
  have G12 := ok_lword (P := l.prog) (w := w) (mg := mg) (base := base) F12 G11 b11 m11 k11 n_len
  have G13 := ok_times (P := l.prog) (w := w) (mg := mg) (base := base) F13 G11W b11 m11 k11
  have G14 := ok_lsteps (P := l.prog) (w := w) (mg := mg) (base := base) F14 b14 m14 k14 n_isinstance n_str n_sum 4
  have G15 := ok_lprogG (P := l.prog) (w := w) (mg := mg) (base := base) F15 b15 m15 k15 G11 b11 m11 k11 G13 b13 m13 k13 G12 b12 m12 k12 G14 b14 m14 k14 n_tuple 4
  have G16 := ok_lwh (P := l.prog) (w := w) (mg := mg) (base := base) F16 n_isinstance n_int n_bool
  have G17 := ok_ctd (P := l.prog) (w := w) (mg := mg) (base := base) F17 b17 m17 k17 G16 b16 m16 k16 n_isinstance n_str n_int n_len n_tuple n_sum 4
  have G18 := ok_fbA (P := l.prog) (w := w) (mg := mg) (base := base) F18 G17 b17 m17 k17 n_isinstance n_tuple n_enumerate
  have G19 := ok_bntA (P := l.prog) (w := w) (mg := mg) (base := base) F19 G11 b11 m11 k11 n_len n_range n_list
  have G20 := ok_limA (P := l.prog) (w := w) (mg := mg) (base := base) F20 n_range
  have G21 := ok_toldA (P := l.prog) (w := w) (mg := mg) (base := base) F21 G8 b8 w8 m8 k8 n_repr
  have G22 := ok_right19 (P := l.prog) (w := w) (mg := mg) (base := base) F22 G15 b15 m15 k15 G21 b21 m21 k21 G19 b19 m19 k19 G18 b18 m18 k18 n_range n_isinstance n_tuple
  exact ok_law19 F23 G9 b9 m9 k9 G10 b10 m10 k10 G22 b22 m22 k22 G20 b20 m20 k20 G21 b21 m21 k21 G18 b18 m18 k18 n_zip n_all n_range n_max n_min n_len
end KS
open PySem PySem.W PyProof.Rows
set_option maxHeartbeats 0 in
theorem PySem.Challenge.cw_keepsort_k19_programs_and_others_holds : PySem.Challenge.rw_keepsort_k19_programs_and_others.Holds := by
  w_on; o_law; k_head; (case hw => w_witness2)
  k_fill
  refine KS.walk_ofG (l := PySem.Challenge.rw_keepsort_k19_programs_and_others) (n := 63) (k := 14) (x := "_law_script") (sp := fun w => KS.spLaw _) rfl (by decide) rfl ⟨rfl, by decide, by decide⟩ (fun w h Y => PySem.W.kIn_of Y) ?F (fun _ _ a ns hl _ hS => ⟨a, ns, rfl, hS, hl, fun _ => rfl⟩)
  case F =>
    intro w mg fa h KX G hmg
    refine' KS.all_mk KX G hmg ?a0 ?l0 ?c0 ?k0 ?a1 ?l1 ?c1 ?k1 ?a2 ?l2 ?c2 ?k2 ?a3 ?l3 ?c3 ?k3 ?a4 ?l4 ?c4 ?k4 ?a5 ?l5 ?c5 ?k5 ?a6 ?l6 ?c6 ?k6 ?a7 ?l7 ?c7 ?k7 ?a8 ?l8 ?c8 ?k8 ?a9 ?l9 ?c9 ?k9 ?a10 ?l10 ?c10 ?k10 ?a11 ?l11 ?c11 ?k11 ?a12 ?l12 ?c12 ?k12 ?a13 ?l13 ?c13 ?k13 ?a14 ?l14 ?c14 ?k14 ?a15 ?l15 ?c15 ?k15 ?a16 ?l16 ?c16 ?k16 ?a17 ?l17 ?c17 ?k17 ?a18 ?l18 ?c18 ?k18 ?a19 ?l19 ?c19 ?k19 ?a20 ?l20 ?c20 ?k20 ?a21 ?l21 ?c21 ?k21 ?a22 ?l22 ?c22 ?k22 ?a23 ?l23 ?c23 ?k23 ?z0 ?z1 ?z2 ?z3 ?z4 ?z5 ?z6 ?z7 ?z8 ?z9 ?z10 ?z11 ?z12 ?z13 ?z14 ?z15 ?z16 ?w0 ?w1 ?w2 ?w3 ?xaCe0 ?xxLe0 ?xsae0 ?xgae0 ?xgge0 ?xnbe0 ?xaNe0 ?xtNe0 ?xlNe0 ?xcNe0 ?xkCe0 ?xeCe0 ?xtCe0 ?xhCe0 ?xiCe0 ?xsCe0 ?xaCe1 ?xxLe1 ?xsae1 ?xgae1 ?xgge1 ?xnbe1 ?xaNe1 ?xtNe1 ?xlNe1 ?xcNe1 ?xkCe1 ?xeCe1 ?xtCe1 ?xhCe1 ?xiCe1 ?xsCe1
    (case a0 => k_is)
    (case l0 => k_is)
    (case c0 => k_is)
    (case k0 => k_is)
    (case a1 => k_is)
    (case l1 => k_is)
    (case c1 => k_is)
    (case k1 => k_is)
    (case a2 => k_is)
    (case l2 => k_is)
    (case c2 => k_is)
    (case k2 => k_is)
    (case a3 => k_is)
    (case l3 => k_is)
    (case c3 => k_is)
    (case k3 => k_is)
    (case a4 => k_is)
    (case l4 => k_is)
    (case c4 => k_is)
    (case k4 => k_is)
    (case a5 => k_is)
    (case l5 => k_is)
    (case c5 => k_is)
    (case k5 => k_is)
    (case a6 => k_is)
    (case l6 => k_is)
    (case c6 => k_is)
    (case k6 => k_is)
    (case a7 => k_is)
    (case l7 => k_is)
    (case c7 => k_is)
    (case k7 => k_is)
    (case a8 => k_is)
    (case l8 => k_is)
    (case c8 => k_is)
    (case k8 => k_is)
    (case a9 => k_is)
    (case l9 => k_is)
    (case c9 => k_is)
    (case k9 => k_is)
    (case a10 => k_is)
    (case l10 => k_is)
    (case c10 => k_is)
    (case k10 => k_is)
    (case a11 => k_is)
    (case l11 => k_is)
    (case c11 => k_is)
    (case k11 => k_is)
    (case a12 => k_is)
    (case l12 => k_is)
    (case c12 => k_is)
    (case k12 => k_is)
    (case a13 => k_is)
    (case l13 => k_is)
    (case c13 => k_is)
    (case k13 => k_is)
    (case a14 => k_is)
    (case l14 => k_is)
    (case c14 => k_is)
    (case k14 => k_is)
    (case a15 => k_is)
    (case l15 => k_is)
    (case c15 => k_is)
    (case k15 => k_is)
    (case a16 => k_is)
    (case l16 => k_is)
    (case c16 => k_is)
    (case k16 => k_is)
    (case a17 => k_is)
    (case l17 => k_is)
    (case c17 => k_is)
    (case k17 => k_is)
    (case a18 => k_is)
    (case l18 => k_is)
    (case c18 => k_is)
    (case k18 => k_is)
    (case a19 => k_is)
    (case l19 => k_is)
    (case c19 => k_is)
    (case k19 => k_is)
    (case a20 => k_is)
    (case l20 => k_is)
    (case c20 => k_is)
    (case k20 => k_is)
    (case a21 => k_is)
    (case l21 => k_is)
    (case c21 => k_is)
    (case k21 => k_is)
    (case a22 => k_is)
    (case l22 => k_is)
    (case c22 => k_is)
    (case k22 => k_is)
    (case a23 => k_is)
    (case l23 => k_is)
    (case c23 => k_is)
    (case k23 => k_is)
    (case z0 => k_is)
    (case z1 => k_is)
    (case z2 => k_is)
    (case z3 => k_is)
    (case z4 => k_is)
    (case z5 => k_is)
    (case z6 => k_is)
    (case z7 => k_is)
    (case z8 => k_is)
    (case z9 => k_is)
    (case z10 => k_is)
    (case z11 => k_is)
    (case z12 => k_is)
    (case z13 => k_is)
    (case z14 => k_is)
    (case z15 => k_is)
    (case z16 => k_is)
    (case w0 => k_is)
    (case w1 => k_is)
    (case w2 => k_is)
    (case w3 => k_is)
    (case xaCe0 => k_is)
    (case xxLe0 => k_is)
    (case xsae0 => k_is)
    (case xgae0 => k_is)
    (case xgge0 => k_is)
    (case xnbe0 => k_is)
    (case xaNe0 => k_is)
    (case xtNe0 => k_is)
    (case xlNe0 => k_is)
    (case xcNe0 => k_is)
    (case xkCe0 => k_is)
    (case xeCe0 => k_is)
    (case xtCe0 => k_is)
    (case xhCe0 => k_is)
    (case xiCe0 => k_is)
    (case xsCe0 => first | rfl | k_is)
    (case xaCe1 => k_is)
    (case xxLe1 => k_is)
    (case xsae1 => k_is)
    (case xgae1 => k_is)
    (case xgge1 => k_is)
    (case xnbe1 => k_is)
    (case xaNe1 => k_is)
    (case xtNe1 => k_is)
    (case xlNe1 => k_is)
    (case xcNe1 => k_is)
    (case xkCe1 => k_is)
    (case xeCe1 => k_is)
    (case xtCe1 => k_is)
    (case xhCe1 => k_is)
    (case xiCe1 => k_is)
    (case xsCe1 => first | rfl | k_is)
