import PyProof.Rows.All
import Wide.All
import OpenK.AllK
import Wide.FinOn
import HandS.ForMost
import HandS.Style
import HandS.Flow
import KE.GoesMore
import KE.GoesEnum
import KE.KTupSum
import PyProof.ReprRoads
import PyProof.ReprLen
import HandS.IsInst
import HandS.TupLe
import HandS.SetKeys
import HandS.SortRule
import HandS.More
import HandS.SortInts
import HandS.Zip
import HandS.Conv
import HandS.TupAny
import PyProof.P3In
import HandS.Deep
import HandS.Iter
import HandS.Text
import HandS.Walk
import PyProof.StrOps2
import KE.GoesZip
import KE.KRevSl
import HandS.TupMul
import HandS.ForExc
import PyProof.TupleOfSeq
import PySem.Challenge.RW_keepsort_k56_whole_the_last_rows
set_option Elab.async false
set_option linter.all false
set_option maxRecDepth 100000
set_option maxHeartbeats 4000000
namespace KS
open PySem PySem.Spec PyProof.Rows L2
/-- three whole numbers: the state, the digits left, how many draws -/
def PoolO (o : Option HO) : Prop := ∃ a b c : Int, o = some (.lst [.int a, .int b, .int c]) ∧ 0 ≤ a ∧ a < 2147483249 ∧ 0 ≤ b
/-- what stood, but at p, stands -/
def KeepX (p : Addr) (H H' : Hp) : Prop := ∀ b o, b ≠ p → H b = some o → H' b = some o
theorem KeepX.refl (p : Addr) (H : Hp) : KeepX p H H := fun _ _ _ e => e
theorem KeepX.trans {p : Addr} {H H1 H2 : Hp} (a : KeepX p H H1) (b : KeepX p H1 H2) : KeepX p H H2 := fun c o n e => b c o n (a c o n e)
theorem KeepX.of_same {p : Addr} {H H1 : Hp} (a : Same H H1) : KeepX p H H1 := fun c o _ e => a c o e
theorem same_new {H : Hp} {p : Addr} {o : HO} (h : H p = none) : Same H (upd H p o) := fun b x e => by
  rw [upd_ne (ne_of_none e h)]
  exact e
theorem keepX_upd {H : Hp} {p : Addr} {o : HO} : KeepX p H (upd H p o) := fun b x n e => by
  rw [upd_ne n]
  exact e
theorem PoolO.same {H H' : Hp} {p : Addr} (s : Same H H') (h : PoolO (H p)) : PoolO (H' p) := by
  obtain ⟨a, b, c, e, r⟩ := h
  exact ⟨a, b, c, s _ _ e, r⟩
theorem PoolO.ne {H : Hp} {p q : Addr} (h : PoolO (H p)) (n : H q = none) : p ≠ q := by
  obtain ⟨a, b, c, e, r⟩ := h
  exact ne_of_none e n
theorem same_seqT {K : PySem.W.Frag} {H H' : Hp} {a : Addr} {xs : List V} (e : Same H H') (h : SqT K H a xs) : SqT K H' a xs := by
  rcases h with (h | ⟨o, h⟩) | h
  · exact .inl (.inl (e _ _ h))
  · exact .inl (.inr ⟨o, e _ _ h⟩)
  · exact .inr h
theorem keepX_seqT {K : PySem.W.Frag} {H H' : Hp} {a p : Addr} {xs : List V} (hp : PoolO (H p)) (e : KeepX p H H') (h : SqT K H a xs) : SqT K H' a xs := by
  obtain ⟨x, y, z, ep, _⟩ := hp
  rcases h with (h | ⟨o, h⟩) | h
  · exact .inl (.inl (e _ _ (fun q => by rw [q, ep] at h; cases h) h))
  · exact .inl (.inr ⟨o, e _ _ (fun q => by rw [q, ep] at h; cases h) h⟩)
  · exact .inr h
theorem int_mod_bd (x : Int) {m : Int} (h : 0 < m) : 0 ≤ x % m ∧ x % m < m := ⟨Int.emod_nonneg x (by omega), Int.emod_lt_of_pos x h⟩
def spCell (K : PySem.W.Frag) : Sp := fun vs H Q _ => ∃ (a : Addr) (ns : List Int) (k : Nat), vs = [.ref a, .int k] ∧ SqL K H a (ns.map V.int) ∧ k ≤ 63 ∧ ∀ H' n, Same H H' → Q (.int n) H'
def spPool : Sp := fun vs H Q _ => ∃ (n : Int), vs = [.int n] ∧ ∀ H' p, Same H H' → H p = none → PoolO (H' p) → Q (.ref p) H'
def spDraw : Sp := fun vs H Q _ => ∃ (p : Addr) (m : Int), vs = [.ref p, .int m] ∧ PoolO (H p) ∧ 0 < m ∧ m < 1073741824 ∧ ∀ H' r, KeepX p H H' → PoolO (H' p) → 0 ≤ r → r < m → Q (.int r) H'
end KS
namespace KS
open PySem PySem.Spec PyProof.Rows L2
open Sem (wp)
open AutoSeq1 (wpAny_loadPart')
/-! ### sum(t), t a tuple of whole numbers -/
def rSumT (K : PySem.W.Frag) : List V → Hp → VK → Prop := fun vs H Q => ∃ (a : Addr) (ns : List Int), vs = [V.ref a] ∧ SqT K H a (ns.map V.int) ∧ Q (.int ns.sum) H
theorem cr_sumT {X : Cx} (hc : X.calm = true) : CallR X (.builtin "sum") (rSumT X.K) := by
  intro pins s σ H vs us Q I r h
  obtain ⟨a, ns, rfl, hs, q⟩ := h
  obtain ⟨its, rv, hl, _⟩ := I.tuple hs
  rw [Vals.ref1 r]
  have hi := rv.ints
  obtain ⟨xs, e⟩ := hi.allInts.items
  have hn : numsOf (intItems xs).toList = ns := by
    rw [← e]
    exact hi.numsOf
  rw [nums_intItems] at hn
  have hl2 : s.heap.IsTuple a (intItems xs) := by
    rw [← e]
    exact hl
  refine PySem.W.ktm_sumG (I.ok.hd hc) hl2 fun h' tk t' hk => ⟨.int ns.sum, H, I.kept hk, ⟨t', ?_⟩, q⟩
  rw [preSum_eq, List.take_of_length_le (by simp), hn]
/-- tuple(x), x a list or a tuple -/
def rTupOf (K : PySem.W.Frag) : List V → Hp → VK → Prop := fun xs H Q => ∃ p ys, xs = [.ref p] ∧ ((SqL K H p ys ∧ ∀ l, H l = none → Q (.ref l) (upd H l (.tup ys))) ∨ (SqT K H p ys ∧ Q (.ref p) H))
theorem cr_tupOf {X : Cx} : CallR X (.type "tuple") (rTupOf X.K) := call_tuple_of
/-! ### enumerate(t), t a tuple -/
abbrev tupItO (l : Addr) : Obj := { cls := .type "tuple_iterator", data := .fields #[.ref l, .int 0 0] }
abbrev enumO (it : Addr) : Obj := { cls := .type "enumerate", data := .fields #[.none, .bool false, .ref it, rawInt 0, .none, .none] }
theorem meets_enumT (l : Addr) (items : Array Value) (n : Nat) (dct : Option Addr) (sl : Array (Option Value)) :
    Meets (Builtin.«enumerate.__new__» ⟨[.type "enumerate", .ref l], []⟩) (fun _ R s =>
      s.heap.get? l = some { cls := .type "tuple", dict := dct, data := .seq items n, slots := sl } ∧
      R (.ok (.ret (.ref (s.heap.push (tupItO l)).objs.size))) { s with heap := (s.heap.push (tupItO l)).push (enumO s.heap.objs.size) }) :=
  .of_wp fun prog w A R s h => by
    obtain ⟨hp, g, d, tk, os⟩ := s
    obtain ⟨hl, h⟩ := h
    have hsub := sub_enumerate
    have hT : Heap.IsTuple (Shared.heap ⟨hp, g, d, tk, os⟩) l items := ⟨_, hl, rfl, n, rfl⟩
    wp_walk using wpAny_loadPart' hl
    refine wpAny_stack_any fun st => wpAny_pure ?_
    split
    · rename_i c _ _ _ _ _
      cases (c == Value.type "enumerate")
      · wp_walk using wpAny_loadPart' hl, wpAny_pyIter_tuple hT
        exact ⟨_, rfl, h⟩
      · wp_walk using wpAny_loadPart' hl, wpAny_pyIter_tuple hT
        exact ⟨_, rfl, h⟩
    · wp_walk using wpAny_loadPart' hl, wpAny_pyIter_tuple hT
      exact ⟨_, rfl, h⟩
theorem call_enumT {prog : Program} {w : World} {A : Around} {E : Value → Shared → Prop} {s : Shared} {l : Addr} {items : Array Value} {Q : Value → Shared → Prop} (hL : s.heap.IsTuple l items)
    (h : ∀ h', IsEnum h' (s.heap.objs.size + 1) s.heap.objs.size 0 .none → h'.IsTupleIter s.heap.objs.size l 0 →
      (∀ b o, s.heap.get? b = some o → h'.get? b = some o) → Q (.ref (s.heap.objs.size + 1)) { s with heap := h' }) :
    wpAny (model prog w) A (call (.type "enumerate") [.ref l]) Q E s := by
  obtain ⟨⟨c, dct, dt, sl⟩, hl, hc, n, hd⟩ := hL
  replace hc : c = .type "tuple" := hc
  replace hd : dt = .seq items n := hd
  subst hc
  subst hd
  refine callType_new F.called_enumerate (by decide) (F.typeCall_enumerate_1 _) (F.newCall_enumerate_1 _)
    (fun obj => F.args_object_init_2 obj _) F.entry_enumerate_new (meets_enumT l items n dct sl) ⟨hl, ?_⟩
  generalize hg1 : s.heap.push (tupItO l) = g1
  have hz : g1.objs.size = s.heap.objs.size + 1 := by
    rw [← hg1]
    exact Heap.size_push ..
  have hit : g1.get? s.heap.objs.size = some (tupItO l) := by
    rw [← hg1]
    exact Heap.get?_push_size _ rfl
  have hold : ∀ b o, s.heap.get? b = some o → g1.get? b = some o := fun b o e => by
    rw [← hg1]
    exact Heap.get?_push_of_some _ e
  show _ ∧ _
  rw [hz]
  have he : IsEnum (g1.push (enumO s.heap.objs.size))
      (s.heap.objs.size + 1) s.heap.objs.size 0 .none := by
    have z := Heap.get?_push_size g1 (o := enumO s.heap.objs.size) rfl
    rw [hz] at z
    exact z
  exact ⟨⟨_, he, rfl⟩, h _ he ⟨tupItO l, Heap.get?_push_of_some _ hit, rfl, rfl⟩ fun b o x => Heap.get?_push_of_some _ (hold b o x)⟩
/-- the pairs (i, item i) of the tuple at a, each a new tuple -/
def IteT (K : PySem.W.Frag) (a : Addr) : It :=
  ⟨fun i H => ∃ (xs : List V) (x : V), SqT K H a xs ∧ xs[i]? = some x,
   fun i H v H' => ∃ T x, v = .ref T ∧ H T = none ∧ H' = upd H T (.tup [.int (i : Nat), x]) ∧ ∀ xs, SqT K H a xs → xs[i]? = some x,
   fun i H => ∃ xs : List V, SqT K H a xs ∧ xs.length ≤ i⟩
theorem turn_enumT {P : Program} {w : World} {K : PySem.W.Frag} {elts : List Expr} {kk : Nat} {tpos : Pos} (a e it : Addr) :
    Turn P w K (.Tuple elts kk tpos) (IteT K a) [e, it] e
      (fun i h => (∃ old, IsEnum h e it ((i : Nat) : Int) old) ∧ h.IsTupleIter it a i ∧ e ≠ it) where
  mem := by simp
  obj := fun i h st b hb => by
    obtain ⟨⟨old, he⟩, ⟨o, ho, hc, hd⟩, _⟩ := st
    rcases (by simpa using hb : b = e ∨ b = it) with z | z
    · subst z
      exact ⟨_, he, fun v q => nomatch q⟩
    · subst z
      exact ⟨o, ho, fun v q => by rw [hd] at q; cases q⟩
  keep := fun i h h' st k => by
    obtain ⟨⟨old, he⟩, hi, hne⟩ := st
    exact ⟨⟨old, k e (by simp) _ he⟩, hi.at fun o q => k it (by simp) o q, hne⟩
  item := by
    intro X hP hw hK hc i pins s σ H E I hf st hg
    subst hP hw hK
    obtain ⟨⟨old, he⟩, hit, hne⟩ := st
    obtain ⟨xs, x, hq, hx⟩ := hg
    obtain ⟨its, rv, p, hz⟩ := I.tuple hq
    have p1 : s.heap.IsTuple a its.toArray := p
    obtain ⟨u0, hu0, ru0⟩ := rv.get hx
    have hel : e < s.heap.objs.size := Heap.lt_size he
    have hil : it < s.heap.objs.size := by
      obtain ⟨_, q, _⟩ := hit
      exact Heap.lt_size q
    have hai : a ≠ it := fun z => by
      obtain ⟨o1, g1, c1, _⟩ := p1
      obtain ⟨o2, g2, c2, _⟩ := hit
      rw [z, g2] at g1
      cases g1
      rw [c1] at c2
      injection c2 with c3
      exact absurd c3 (by decide)
    have hea : e ≠ a := fun z => by
      obtain ⟨o1, g1, c1, _⟩ := p1
      have g2 : s.heap.get? e = some _ := he
      rw [z, g1] at g2
      cases g2
      have c2 : Value.type "enumerate" = Value.type "tuple" := c1
      injection c2 with c3
      exact absurd c3 (by decide)
    have hlt : i < its.toArray.size := by
      have z : i < its.length := (List.getElem?_eq_some_iff.mp hu0).1
      simpa using z
    have DD : Draws X.prog X.w X.A.in1 it [it, a] its.toArray.size (fun i v => its.toArray[i]? = some v) (fun i h => h.IsTupleIter it a i ∧ h.IsTuple a its.toArray) :=
      Draws.tuple (show X.A.in1.handled = none from I.ok.hd hc) it a hai its.toArray
    refine wpAny_pyNext_enum_itemD DD he ⟨hit, p1⟩ hlt hne (by simp [hne, hea]) fun u h' tk hu ho hst hT hsz hk => ?_
    have eu : u = u0 := by
      have z : its[i]? = some u := by simpa using hu
      rw [hu0] at z
      exact (Option.some.inj z).symm
    subst eu
    refine ⟨_, rfl, wpAny_letOwnedTupleGo_enum (s := { s with heap := h', toks := tk + 1 }) ho fun h'' he' sb => ?_⟩
    have hT2 : h''.get? s.heap.objs.size = some { cls := .type "tuple", data := .seq #[.int i tk, u] } := (sb.2 _ (Nat.ne_of_gt hel)).trans hT
    have new : ObjOk X.prog X.w (upd H s.heap.objs.size (.tup [.int (i : Nat), x])) h'' s.heap.objs.size (.tup [.int (i : Nat), x]) :=
      ⟨by show 2 ≤ sizeLine; decide, [.int i tk, u], .cons ⟨_, rfl⟩ (.cons ru0 .nil), ⟨_, hT2, rfl, _, rfl⟩⟩
    have I1 : Inv X pins σ (upd H s.heap.objs.size (.tup [.int (i : Nat), x])) { s with heap := h'', toks := tk + 1 } :=
      I.turnedNew (ch := [e, it]) (fun b ob hb q => (sb.2 b (fun z => hb (by simp [z]))).trans
        (hk b ob (fun z => hb (by simp [z])) (fun z => hb (by simp [z])) q)) hf (Nat.le_refl _) new
    refine ⟨.ref s.heap.objs.size, _, I1, rfl, ⟨_, x, rfl, I.hok.fresh (Nat.le_refl _), rfl, fun ys hy => ?_⟩,
      ⟨⟨u, ?_⟩, hst.1.at fun o q => (sb.2 it (Ne.symm hne)).trans q, hne⟩, fun b hb => ?_⟩
    · rw [I.tuple_inj hy hq]
      exact hx
    · have e1 : ((i + 1 : Nat) : Int) = (i : Int) + 1 := by omega
      rw [e1]
      exact he'
    · have hb' : b < s.heap.objs.size := by
        rcases (by simpa using hb : b = e ∨ b = it) with z | z
        · rw [z]
          exact hel
        · rw [z]
          exact hil
      rw [upd_ne (Nat.ne_of_lt hb')]
      exact (hf b hb).1
  done := by
    intro X hP hw hK hc i pins s σ H E I hf st hg
    subst hP hw hK
    obtain ⟨⟨old, he⟩, hit, hne⟩ := st
    obtain ⟨xs, hq, hx⟩ := hg
    obtain ⟨its, rv, p, hz⟩ := I.tuple hq
    have p1 : s.heap.IsTuple a its.toArray := p
    obtain ⟨f0, f1, f2, f3, f4, f5⟩ := hf it (by simp)
    have hl := rv.length
    have DD : Draws X.prog X.w X.A.in1 it [it, a] i (fun _ _ => True) (fun j h => j = i ∧ h.IsTupleIter it a i ∧ h.IsTuple a its.toArray) :=
      { live := fun _ _ st => let ⟨o, ho, _⟩ := st.2.1; ⟨o, ho⟩
        frame := fun _ _ _ st hk => ⟨st.1, st.2.1.at fun o e => hk it (by simp) o e, st.2.2.at fun o e => hk a (by simp) o e⟩
        item := fun j s Q E hj st hQ => absurd st.1 (by omega)
        done := fun s Q E st hE => wpAny_nextOf_tuple_end (show X.A.in1.handled = none from I.ok.hd hc) st.2.1 st.2.2 (by simp; omega) hE }
    exact wpAny_pyNext_enum_endD DD he ⟨rfl, hit, p1⟩ fun h' eb => ⟨rfl, I.turned (t' := s.toks) (fun b o hb q => eb b o hb q) f0 f1 f3 f4 f5⟩
  self := fun A i s Q E st h => by
    obtain ⟨⟨_, he⟩, _⟩ := st
    exact wpAny_pyIter_enum he h
def iEnumT (K : PySem.W.Frag) (ta : TA) : TI := fun σ H R => ta σ H fun vs H1 => ∃ a xs, vs = [.ref a] ∧ SqT K H1 a xs ∧ R (IteT K a) H1
theorem pi_enumT {X : Cx} {e : Expr} {ta : TA} {p pos tpos : Pos} {elts : List Expr} {kk : Nat} (hg : Gl X "enumerate") (hm : X.mg "enumerate" = none) (ha : PA X [e] ta)
    (hs : starEach [e] X.env = [(false, eval e X.env)] := by rfl) : PI X (.Tuple elts kk tpos) (.Call (.Name "enumerate" p) [e] [] pos) (iEnumT X.K ta) := by
  refine ⟨fun pins s σ H R I h => ?_⟩
  refine Call_ (ld_blt I hg hm boot_enumerate (PyProof.Rows.callWith_type1 (thn (ha.run pos pins s σ H _ I h) fun us s1 hh => ?_) hs rfl))
  obtain ⟨vs, H1, I1, r1, a, xs, ex, hq, q⟩ := hh
  subst ex
  cases r1 with
  | cons r rr =>
    cases rr
    cases r
    obtain ⟨its, rv, p1, hz⟩ := I1.tuple hq
    refine call_enumT (items := its.toArray) p1 fun h' he hit hk => wpAny_pyIter_enum he ?_
    have I2 : Inv X pins σ H1 { s1 with heap := h' } := I1.kept (t' := s1.toks) hk
    refine ⟨s1.heap.objs.size + 1, [s1.heap.objs.size + 1, s1.heap.objs.size], _, _, H1, rfl, I2, turn_enumT a (s1.heap.objs.size + 1) s1.heap.objs.size,
      ⟨⟨.none, he⟩, hit, Nat.succ_ne_self _⟩, fun b hb => ?_, q⟩
    have hle : s1.heap.objs.size ≤ b := by
      rcases (by simpa using hb : b = s1.heap.objs.size + 1 ∨ b = s1.heap.objs.size) with z | z
      · rw [z]
        exact Nat.le_succ _
      · rw [z]
        exact Nat.le_refl _
    exact I1.fpOk hle (I1.hok.fresh hle)
/-- a for over enumerate(t): Pv at each turn; the pair stands in a new tuple at T -/
theorem for_enumT {K : PySem.W.Frag} {a : Addr} {xs : List V} {g : TG} {tb : TS} {D : Ends} {σ : L2.St} {H : Hp} (Pv : Nat → L2.St → Hp → Prop) (h0 : Pv 0 σ H)
    (hl : ∀ i σ H, i ≤ xs.length → Pv i σ H → SqT K H a xs)
    (hs : ∀ i x σ H T, xs[i]? = some x → Pv i σ H → H T = none → g (.ref T) σ (upd H T (.tup [.int (i : Nat), x])) fun σ2 H2 => tb { D with nx := Pv (i + 1), ct := Pv (i + 1), bk := D.nx } σ2 H2)
    (hd : ∀ σ H, Pv xs.length σ H → D.nx σ H) :
    ∃ W : Nat → Nat → L2.St → Hp → Prop, (∃ m, W 0 m σ H) ∧ ∀ i m σ H, W i m σ H →
      ((IteT K a).stop i H ∧ D.nx σ H) ∨ ((IteT K a).go i H ∧ ∃ N : L2.St → Hp → Prop, (∀ σ' H', N σ' H' → ∃ m', m' < m ∧ W (i + 1) m' σ' H') ∧
        ∀ x H', (IteT K a).yld i H x H' → g x σ H' fun σ2 H2 => tb { D with nx := N, ct := N, bk := D.nx } σ2 H2) := by
  refine ⟨fun i m σ H => m = xs.length - i ∧ i ≤ xs.length ∧ Pv i σ H, ⟨xs.length, by simp, Nat.zero_le _, h0⟩, ?_⟩
  rintro i m σ H ⟨rfl, hi, p⟩
  have q := hl i σ H hi p
  by_cases hlt : i < xs.length
  · refine .inr ⟨⟨xs, xs[i], q, by simp [hlt]⟩, Pv (i + 1), fun σ' H' p' => ⟨xs.length - (i + 1), by omega, rfl, hlt, p'⟩, fun x H' y => ?_⟩
    obtain ⟨T, x1, rfl, nT, rfl, hx⟩ := y
    exact hs i x1 σ H T (hx _ q) p nT
  · have e : i = xs.length := by omega
    subst e
    exact .inl ⟨⟨xs, q, Nat.le_refl _⟩, hd σ H p⟩
end KS
namespace KS
open PySem PySem.Spec PyProof.Rows L2
/-! ### promises of defs that are only called where no repr is under way -/
structure FnG (P : Program) (w : World) (K : PySem.W.Frag) (mg : Str → Option Value) (base : Heap) (k : Nat) (f : Addr) (fd : FuncData) (ps : List Str) (sp : Sp) : Prop where
  len : ∀ vs H Q E, sp vs H Q E → vs.length = ps.length
  run : ∀ (A : Around) (outer : List Env) (s : Shared) (H : Hp) (args : Args) (us : List Value) (vs : List V) (Q : VK) (E : XK),
    Room k A → A.guards = some [] → Env0 P w K mg base A outer s H → BindsTo s fd args (ps.zip us) → Vals vs us → sp vs H Q E →
    codeAny (model P w) A (.call (.ref f) args) (CR CX0 outer P w H s Q E) s
section
variable {P : Program} {w : World} {K : PySem.W.Frag} {mg : Str → Option Value} {base : Heap}
theorem okG {x qual : Str} {st : Stmt} {f : Addr} {fd : FuncData} {N ps : List Str} {k : Nat} {sp : Sp} (F : Fun K x qual st f fd) (S : FnScope N ps (defScope st))
    (len : ∀ vs H Q E, sp vs H Q E → vs.length = ps.length)
    (hbody : ∀ (cdv : Value) (A : Around) (outer : List Env) (s : Shared) (H : Hp) (vs : List V) (Q : VK) (E : XK),
      Room k (A.deeper (envOfC qual (defScope st) s.heap.objs.size f cdv)) → A.guards = some [] → sp vs H Q E →
      ∃ t, PSs (cxOf CX0 P w K mg base N qual (defScope st) f cdv A outer s H E).nox (defBody st) t ∧ t { nx := fun _ H' => Q .non H', rt := Q } (start N vs) H) :
    FnG P w K mg base (k + 1) f fd ps sp := by
  obtain ⟨oc, od, kV, doc, pm, an, cdv, ct, osl, rfl, lk, hcd⟩ := F.ex
  refine ⟨len, fun A outer s H args us vs Q E hr hgd e0 hb r hsp => ?_⟩
  have hl := len _ _ _ _ hsp
  have kept : ∀ b o, base.get? b = some o → s.heap.get? b = some o := fun b o e => (e0.bs b o e).1
  have KX : K.In s.heap := e0.mod.kin.keeps kept
  have lim : s.heap.NoLimit := e0.mod.nolimit.keeps kept
  have hkind : ∀ y ∈ ps.zip us, (defScope st).names.lookup y.1 = some .local ∨
      ((defScope st).names.lookup y.1 = some .cell ∧ ((cellsFrom (s.heap.objs.size + 1) (defScope st).names []).lookup y.1).isSome = true) := by
    rintro ⟨n, v⟩ hy
    rcases S.par n (List.of_mem_zip hy).1 with q | q
    · left
      exact q
    · right
      exact ⟨q, PySem.W.cellsFrom_some _ _ _ (.inl q)⟩
  refine codeAny_call_function hr.depth (KX _ _ lk) rfl S.co S.gen rfl
    (PySem.W.codeRec_of KX hcd) (hb _ _ _ _ ?_)
  refine wpAny_newFunctionEnv_cells S.kind hkind fun env he s1 x => ?_
  subst he
  refine ⟨lim.keeps x.toInCall.keep, codeAny_func ?_⟩
  obtain ⟨t, ht0, hq⟩ := hbody cdv A outer s H vs Q E (hr.deeper _) hgd hsp
  have ht := ht0.nox
  have I := inv_start (CX := CX0) (E := E) (cd := cdv) (qual := qual) (f := f) S hr.hd e0 hl r x
  refine wpAny_mono (ht.run [] s1 (start N vs) H _ I hq) (fun fl s' hs => ?_)
    fun e s' hs => hs
  cases fl with
  | ret u =>
    obtain ⟨v, σ', H', J, rv, q⟩ := hs
    exact ⟨v, H', J.os, J.bare, J.base, J.hok, rv, q⟩
  | next =>
    obtain ⟨σ', H', J, q⟩ := hs
    exact ⟨V.non, H', J.os, J.bare, J.base, J.hok, rfl, q⟩
  | brk =>
    obtain ⟨_, _, _, q⟩ := hs
    cases q
  | cont =>
    obtain ⟨_, _, _, q⟩ := hs
    cases q
end
section
variable {X : Cx} {k : Nat} {f : Addr} {fd : FuncData} {ps : List Str} {sp : Sp} {x : Str} {p pos : Pos} {e : Expr} {es : List Expr} {t : TA}
theorem pe_callG (F : FnG X.prog X.w X.K X.mg X.base k f fd ps sp) (hr : Room k X.A) (hgd : X.A.guards = some []) (hg : Gl X x) (hm : X.mg x = some (.ref f))
    (hk : PySem.W.keepIn X.K (.ref f) = true) (hb : Binds X.K fd ps []) (ha : PA X (e :: es) t) (hdb : (x == ("__debug__" : Str)) = false := by decide)
    (he : starEach (e :: es) X.env = (false, eval e X.env) :: starEach es X.env := by rfl)
    (hpl : (backTo pos (starEach es X.env)).any (·.1) = false := by rfl) :
    PE X (.Call (.Name x p) (e :: es) [] pos) (tCall sp [] E0 t) := by
  refine ⟨fun pins s σ H Q I h => wpAny_Call_Name_kw (ld_glob I hg hm ?_ hdb)⟩
  refine PySem.W.callWith_K (h₀ := X.base) I.ok.mod.kin hk (thn (ha.run pos pins s σ H _ I h) fun us s1 hh => ?_) he hpl
  obtain ⟨vs, H1, I1, r, q⟩ := hh
  refine ⟨I1.kIn, ?_⟩
  have q1 : sp (vs ++ []) H1 Q E0 := q
  rw [List.append_nil] at q1
  have hl : (us ++ []).length = ps.length := by
    rw [List.append_nil, ← r.length]
    exact F.len _ _ _ _ q1
  have bb := hb s1 us I1.kIn hl
  rw [List.append_nil] at bb
  refine wpAny_call (codeAny_mono (F.run X.A X.stack s1 H1 ⟨us, []⟩ us vs Q E0 hr hgd I1.env0 bb r q1) fun z s' hq => ?_)
  cases z with
  | error e => cases hq
  | ok fl =>
    cases fl with
    | ret u => exact I1.after hq
    | next => cases hq
    | brk => cases hq
    | cont => cases hq
/-- repr(x), x a list or tuple of plain data, where no repr is under way -/
theorem call_reprD (hgd : X.A.guards = some []) (hu : X.A.units + 100 < cLine) : CallR X (.builtin "repr") (fun xs H Q => ∃ (a : Addr) (d : PyData), xs = [.ref a] ∧ Dp X.K H (.ref a) d ∧
    d.showable = true ∧ d.hasDict = false ∧ d.shown.length ≤ sizeLine ∧ d.depth ≤ 64 ∧ Q (.str d.shown) H) := by
  intro pins s σ H xs us Q I r h
  obtain ⟨a, d, rfl, hd, h1, h2, h3, h4, q⟩ := h
  rw [Vals.ref1 r]
  obtain ⟨as, R⟩ := Dp.reads I d (.ref a) (.ref a) hd rfl
  exact repr_of_reads' R h1 (PyData.noDict_hsm h2) hgd (by omega) (fun _ _ e => e) (fun h' u tk hk => ⟨.str d.shown, H, I.kept hk, ⟨u, rfl⟩, q⟩) h3
end
/-! ### the end of a row whose law has such a promise -/
theorem law_callG {P : Program} {w : World} {K : PySem.W.Frag} {mg mb : Str → Option Value} {k : Nat} {fa a : Addr} {fd : FuncData} {x : Str} {sp : Sp} {s₁ : Shared} {vs : List Value} {ns : List Int}
    (KX : K.In s₁.heap) (hns : s₁.heap.Ns mainGlobals mg) (hb : s₁.heap.Ns builtinsNs mb) (hbb : ∀ x : Str, x ≠ "__name__" → mb x = bootBuiltins x) (hlim : s₁.heap.NoLimit) (hg : s₁.gens = #[])
    (ha : s₁.heap.get? a = some { cls := .type "list", data := .seq vs.toArray }) (hi : IntsAre vs ns) (hl : ns.length ≤ sizeLine) (hr : Room k callerA)
    (F : ∀ base : Heap, K.In base → base.Ns mainGlobals mg → FnG P w K mg base k fa fd [x] sp)
    (hbind : ∀ (s : Shared) (u : Value), BindsTo s fd ⟨[u], []⟩ [(x, u)])
    (hsp : ∀ H : Hp, Only H → SqL K H a (ns.map V.int) → sp [.ref a] H (fun v _ => v = .bl true) fun _ _ _ => False) :
    codeAny (model P w) callerA (.call (.ref fa) ⟨[.ref a], []⟩)
      (fun r s' => r = .ok (.ret (.bool true)) ∧ OldK s₁.heap s'.heap ∧ s'.os = s₁.os ∧ AllBare s'.gens) s₁ := by
  have rv := vals_ints hi
  have lenV := hi.length
  have core : ∀ H : Hp, Only H → SqL K H a (ns.map V.int) → HOk P w H s₁.heap → (∀ b, H b ≠ none → b = a) → (H a ≠ none → K.lookup a = none) →
      codeAny (model P w) callerA (.call (.ref fa) ⟨[.ref a], []⟩)
        (fun r s' => r = .ok (.ret (.bool true)) ∧ OldK s₁.heap s'.heap ∧ s'.os = s₁.os ∧ AllBare s'.gens) s₁ := by
    intro H hO hS hok hA hK
    have only_a : ∀ {b : Addr} {u : HO}, H b = some u → b = a := fun {b u} q => hA b (by
      rw [q]
      simp)
    have noA : ∀ {b : Addr} {o : Obj} {es : Array DictEntry} {ep : Nat}, s₁.heap.get? b = some o → o.data = .dict es ep → H b = none := by
      intro b o es ep e d
      cases q : H b with
      | none => rfl
      | some u =>
        have e' := only_a q
        subst e'
        rw [ha] at e
        cases e
        have d' : Data.seq vs.toArray _ = Data.dict es ep := d
        cases d'
    have nsK : ∀ {b : Addr} {m : Str → Option Value}, s₁.heap.Ns b m → (hidT s₁.heap H).Ns b m := by
      rintro b m ⟨o, es, ep, e, d, r⟩
      exact ⟨o, es, ep, hidT_get e (noA e d), d, r⟩
    have hKb : K.In (hidT s₁.heap H) := by
      intro b o e
      refine hidT_get (KX b o e) ?_
      cases q : H b with
      | none => rfl
      | some u =>
        have e' := only_a q
        subst e'
        rw [hK (by rw [q]; simp)] at e
        cases e
    have hM : Mod K mg (hidT s₁.heap H) := by
      obtain ⟨mc, h1, h2⟩ := hlim
      exact ⟨hKb, nsK hns, ⟨mb, nsK hb, hbb⟩, ⟨mc, nsK h1, h2⟩⟩
    have e0 : Env0 P w K mg (hidT s₁.heap H) callerA [] s₁ H :=
      ⟨rfl, hM, fun b o e => of_hidT e, Nat.le_of_eq (hidT_size _ _), trivial,
        fun b hb => absurd (show b ∈ ([] : List Addr) from hb) (by simp), hok, .of_eq hg⟩
    have go := (F _ hKb (nsK hns)).run callerA [] s₁ H ⟨[.ref a], []⟩ [.ref a] [.ref a] _ _ hr rfl e0 (hbind s₁ (.ref a)) (.cons rfl .nil) (hsp H hO hS)
    refine codeAny_mono go fun r s' h => ?_
    cases r with
    | error e => cases h
    | ok fl =>
      cases fl with
      | next => cases h
      | brk => cases h
      | cont => cases h
      | ret u =>
        obtain ⟨v, H', os, bare, un, hok', r', q⟩ := h
        have q' : v = .bl true := q
        subst q'
        obtain rfl : u = Value.bool true := r'
        refine ⟨rfl, OldK.of_keep fun b o e => ?_, os, bare⟩
        cases q : H b with
        | none =>
          exact un.keep b o e q (fun z => absurd (show b ∈ ([] : List Addr) from z) (by simp)) (by simp)
        | some u =>
          rcases hO b with z | ⟨ob, xs, z⟩
          · rw [q] at z
            cases z
          · obtain ⟨e1, _⟩ := hok b _ z
            obtain ⟨e2, _⟩ := hok' b _ (un.frzs b ob _ z)
            rw [e] at e1
            cases e1
            exact e2
  cases hk : K.lookup a with
  | some o =>
    have e := KX a o hk
    rw [ha] at e
    cases e
    have sq : SqL K (fun _ => none) a (ns.map V.int) :=
      .inr ⟨_, vs.toArray, _, hk, rfl, rfl, rfl, by rw [List.size_toArray, lenV]; exact hl, by simpa using rv⟩
    exact core (fun _ => none) (fun _ => .inl rfl) sq (fun b u z => by cases z) (fun b z => absurd rfl z) fun z => absurd rfl z
  | none =>
    refine core (fun b => if b = a then some (.frz { cls := .type "list", data := .seq vs.toArray } (.lst (ns.map V.int))) else none)
      (fun b => ?_) (.inl (.inr ⟨{ cls := .type "list", data := .seq vs.toArray }, if_pos rfl⟩)) (fun b u z => ?_) (fun b z => ?_) fun _ => hk
    · by_cases hb : b = a
      · exact .inr ⟨_, _, if_pos hb⟩
      · exact .inl (if_neg hb)
    · by_cases hb : b = a
      · have z' := (if_pos hb).symm.trans z
        cases z'
        subst hb
        exact ⟨ha, by rw [List.length_map]; exact hl, vs, _, rv, ha⟩
      · have z' := (if_neg hb).symm.trans z
        cases z'
    · by_cases hb : b = a
      · exact hb
      · exact absurd (if_neg hb) z
theorem walk_ofG {l : PySem.W.OpenLaw} {n k : Nat} {q : Program} {loose : List Str} {XP : (Str → Option Value) → Heap → Prop} {YP : World → Heap → Prop} {d : DefRec} {K : Params → PySem.W.Frag} {sp : World → Sp} {x : Str}
    (hn : l.most = some n) (hn2 : n ≤ sizeLine) (hdf : d.params.defaults = []) (hr : Room k callerA) (hY : ∀ (w : World) (h : Heap), YP w h → (K w.params).In h)
    (F : ∀ (w : World) (mg : Str → Option Value) (fa : Addr) (h : Heap), (K w.params).In h → h.Ns mainGlobals mg → mg d.name = some (.ref fa) →
      ∃ fd : FuncData, (∀ (s : Shared) (u : Value), BindsTo s fd ⟨[u], []⟩ [(x, u)]) ∧
        ∀ base : Heap, (K w.params).In base → base.Ns mainGlobals mg → FnG l.prog w (K w.params) mg base k fa fd [x] (sp w))
    (hsp : ∀ (w : World) (H : Hp) (a : Addr) (ns : List Int), ns.length ≤ n → Only H → SqL (K w.params) H a (ns.map V.int) →
      sp w [.ref a] H (fun v _ => v = .bl true) fun _ _ _ => False) :
    PySem.W.WalkO q loose XP YP l.row.toRowW d [] (fun f vs => PySem.call f vs) := by
  refine Att.attach_call hn hdf fun w s₀ s₁ mg mb fa o pm cd doc a vs ns G Y ho hd hcd hmg hobj hints hlen hg => ?_
  obtain ⟨fd, hb, hF⟩ := F w mg fa _ (hY w _ Y) G.T.g hmg
  exact law_callG (hY w _ Y) G.T.g G.T.b G.T.builtins G.T.nolimit hg hobj hints (Nat.le_trans hlen hn2) hr hF hb
    (fun H hO hS => hsp w H a ns hlen hO hS)
end KS
namespace KS
open PySem PySem.Spec PyProof.Rows L2
/-! ### cells and plans -/
abbrev Cell := Int × Int
def CellAt (K : PySem.W.Frag) (H : Hp) (x : V) (c : Cell) : Prop := ∃ t, x = .ref t ∧ SqT K H t [.int c.1, .int c.2]
abbrev CellsAt (K : PySem.W.Frag) (H : Hp) : List V → List Cell → Prop := Paired (CellAt K H)
def lt2 (a b : Cell) : Prop := a.1 < b.1 ∨ (a.1 = b.1 ∧ a.2 < b.2)
def InGrid (c : Cell) : Prop := 0 ≤ c.1 ∧ c.1 ≤ 7 ∧ 0 ≤ c.2 ∧ c.2 ≤ 7
structure Good (cs : List Cell) : Prop where
  asc : cs.Pairwise lt2
  grid : ∀ c ∈ cs, InGrid c
  ne : cs ≠ []
/-- tuples are kept -/
def KT (K : PySem.W.Frag) (H H' : Hp) : Prop := ∀ a xs, SqT K H a xs → SqT K H' a xs
section
variable {K : PySem.W.Frag} {H H1 H2 H' : Hp}
theorem KT.trans (a : KT K H H1) (b : KT K H1 H2) : KT K H H2 := fun x xs h => b x xs (a x xs h)
theorem KT.of_same (a : Same H H1) : KT K H H1 := fun _ _ h => same_seqT a h
theorem KT.of_keepX {p : Addr} (hp : PoolO (H p)) (a : KeepX p H H1) : KT K H H1 := fun _ _ h => keepX_seqT hp a h
theorem KT.upd {e : Addr} {ys : List V} {o : HO} (h : H e = some (.lst ys)) : KT K H (upd H e o) := fun a xs q => by
  rcases q with (q | ⟨ob, q⟩) | q
  · exact .inl (.inl (by rw [upd_ne (ne_of q h (by intro z; cases z))]; exact q))
  · exact .inl (.inr ⟨ob, by rw [upd_ne (ne_of q h (by intro z; cases z))]; exact q⟩)
  · exact .inr q
theorem CellAt.kt {x : V} {c : Cell} (k : KT K H H') (h : CellAt K H x c) : CellAt K H' x c := by
  obtain ⟨t, e, q⟩ := h
  exact ⟨t, e, k _ _ q⟩
theorem cells_kt {xs : List V} {cs : List Cell} (k : KT K H H') (h : CellsAt K H xs cs) : CellsAt K H' xs cs := Paired.mono (fun _ _ q => q.kt k) h
end
theorem paired_append {α β : Type} {F : α → β → Prop} : ∀ {l₁ l₁' : List α} {l₂ l₂' : List β}, Paired F l₁ l₂ → Paired F l₁' l₂' → Paired F (l₁ ++ l₁') (l₂ ++ l₂')
  | _, _, _, _, .nil, h => h
  | _, _, _, _, .cons r t, h => .cons r (paired_append t h)
theorem paired_get {α β : Type} {F : α → β → Prop} : ∀ {l₁ : List α} {l₂ : List β} {i : Nat} {x : α}, Paired F l₁ l₂ → l₁[i]? = some x → ∃ y, l₂[i]? = some y ∧ F x y
  | _, _, _, _, .nil, h => by simp at h
  | _, _, 0, _, .cons r t, h => by
    simp at h
    subst h
    exact ⟨_, rfl, r⟩
  | _, _, i + 1, _, .cons r t, h => by
    simp at h
    obtain ⟨y, e, f⟩ := paired_get t h
    exact ⟨y, by simpa using e, f⟩
theorem paired_erase {α β : Type} {F : α → β → Prop} : ∀ {l₁ : List α} {l₂ : List β} (i : Nat), Paired F l₁ l₂ → Paired F (l₁.eraseIdx i) (l₂.eraseIdx i)
  | _, _, _, .nil => .nil
  | _, _, 0, .cons r t => t
  | _, _, i + 1, .cons r t => .cons r (paired_erase i t)
/-- the cells of one row -/
def rowCells (r c : Int) (n : Nat) : List Cell := (List.range n).map fun (s : Nat) => (r, c + (s : Int))
theorem rowCells_succ (r c : Int) (n : Nat) : rowCells r c (n + 1) = rowCells r c n ++ [(r, c + (n : Int))] := by
  unfold rowCells
  rw [List.range_succ, List.map_append]
  rfl
theorem rowCells_mem {r c : Int} {n : Nat} {x : Cell} (h : x ∈ rowCells r c n) : x.1 = r ∧ c ≤ x.2 ∧ x.2 < c + n := by
  unfold rowCells at h
  obtain ⟨s, hs, rfl⟩ := List.mem_map.mp h
  have := List.mem_range.mp hs
  refine ⟨rfl, ?_, ?_⟩ <;> show _ <;> simp <;> omega
theorem rowCells_asc (r c : Int) : ∀ n : Nat, (rowCells r c n).Pairwise lt2
  | 0 => List.Pairwise.nil
  | n + 1 => by
    rw [rowCells_succ, List.pairwise_append]
    refine ⟨rowCells_asc r c n, List.pairwise_singleton _ _, fun a ha b hb => ?_⟩
    obtain ⟨e1, e2, e3⟩ := rowCells_mem ha
    rw [List.mem_singleton] at hb
    subst hb
    exact .inr ⟨e1, e3⟩
theorem rowCells_len (r c : Int) (n : Nat) : (rowCells r c n).length = n := by
  unfold rowCells
  rw [List.length_map, List.length_range]
def PlanAt (K : PySem.W.Frag) (H : Hp) (a : Addr) (cs : List Cell) : Prop := ∃ xs, SqT K H a xs ∧ CellsAt K H xs cs
theorem PlanAt.kt {K : PySem.W.Frag} {H H' : Hp} {a : Addr} {cs : List Cell} (k : KT K H H') (h : PlanAt K H a cs) : PlanAt K H' a cs := by
  obtain ⟨xs, h1, h2⟩ := h
  exact ⟨xs, k _ _ h1, cells_kt k h2⟩
def spPlan (K : PySem.W.Frag) : Sp := fun vs H Q _ => ∃ (p : Addr) (m : Int), vs = [.ref p, .int m] ∧ PoolO (H p) ∧ 1 ≤ m ∧ m ≤ 24 ∧
  ∀ H' a cs, KeepX p H H' → PoolO (H' p) → PlanAt K H' a cs → Good cs → (cs.length : Int) ≤ m → H a = none → Q (.ref a) H'
/-- where _law_plan stands behind its first loop -/
structure PlSt (K : PySem.W.Frag) (p : Addr) (H : Hp) (m mode wide high top left : Int) (σ : L2.St) (H' : Hp) : Prop where
  ex : ∃ (e : Addr) (xs : List V) (cs : List Cell) (y8 y9 y10 : Option V),
    σ = [some (.ref p), some (.int m), some (.int mode), some (.int wide), some (.int high), some (.int top), some (.int left), some (.ref e), y8, y9, y10, none, none] ∧
    H e = none ∧ e ≠ p ∧ H' e = some (.lst xs) ∧ CellsAt K H' xs cs ∧ Good cs ∧ cs.length ≤ 64
  kx : KeepX p H H'
  po : PoolO (H' p)
/-- every = [spot for spot in every if ..] or every -/
def tFil (K : PySem.W.Frag) (tc : TT) : TS := tAsg (tOrT K (tLc (iList K (tVar 7)) (gName 12) tc (tVar 12) [12]) (tVar 7)) (gName 7)
theorem small64 {n : Nat} (h : n ≤ 64) : n < sizeLine := by
  rw [sizeLine_eq]
  omega
theorem fil_ok {K : PySem.W.Frag} {p : Addr} {H : Hp} {m mode wide high top left : Int} {tc : TT} {D : Ends} {σ : L2.St} {H' : Hp} (h : PlSt K p H m mode wide high top left σ H')
    (htc : ∀ (t : Addr) (c : Cell) (H2 : Hp) (R : Bool → Hp → Prop), SqT K H2 t [.int c.1, .int c.2] → PoolO (H2 p) → (∀ b H3, KeepX p H2 H3 → PoolO (H3 p) → R b H3) → tc (σ.set 12 (some (.ref t))) H2 R)
    (k : ∀ σ' H'', PlSt K p H m mode wide high top left σ' H'' → D.nx σ' H'') : tFil K tc D σ H' := by
  obtain ⟨⟨e, xs, cs, y8, y9, y10, rfl, he0, hep, he, hc, gd, hl⟩, kx, po⟩ := h
  have hlen := Paired.length hc
  refine ⟨_, rfl, e, rfl, ⟨_, SqL.of he⟩, fun d nd => ?_⟩
  have ned : e ≠ d := ne_of_none he nd
  have npd : p ≠ d := po.ne nd
  refine lc_list (K := K) (a := e) (xs := xs) (fun i H2 => ∃ (acc : List V) (cs' : List Cell), H2 d = some (.lst acc) ∧ CellsAt K H2 acc cs' ∧ cs'.Sublist (cs.take i) ∧
    KeepX p H H2 ∧ PoolO (H2 p) ∧ H2 e = some (.lst xs) ∧ CellsAt K H2 xs cs) ?_ ?_ ?_ ?_
  · have s1 := same_new (o := .lst []) nd
    refine ⟨[], [], upd_same, .nil, List.nil_sublist _, kx.trans (.of_same s1), po.same s1, s1 _ _ he, cells_kt (.of_same s1) hc⟩
  · rintro i H2 _ ⟨acc, cs', _, _, _, _, _, h6, _⟩
    exact SqL.of h6
  · rintro i x H2 hi ⟨acc, cs', h1, h2, h3, h4, h5, h6, h7⟩
    obtain ⟨c, hci, t, rfl, ht⟩ := paired_get h7 hi
    have hlt : i < cs.length := (List.getElem?_eq_some_iff.mp hci).1
    have tk : cs.take (i + 1) = cs.take i ++ [c] := by
      rw [List.take_add_one, hci]
      rfl
    refine ⟨rfl, htc t c H2 _ ht h5 (fun b H3 k3 p3 => ?_)⟩
    have q3 : KT K H2 H3 := KT.of_keepX h5 k3
    have hd3 : H3 d = some (.lst acc) := k3 _ _ (Ne.symm npd) h1
    have he3 : H3 e = some (.lst xs) := k3 _ _ hep h6
    have hal : acc.length ≤ 64 := by
      rw [Paired.length h2]
      exact Nat.le_trans h3.length_le (by rw [List.length_take]; omega)
    refine ite2 (fun _ => ?_) (fun _ => ?_)
    · refine ⟨_, rfl, acc, hd3, small64 hal, acc ++ [.ref t], cs' ++ [c], upd_same, ?_, ?_, ?_, ?_, ?_, ?_⟩
      · exact cells_kt (q3.trans (KT.upd hd3)) (paired_append h2 (.cons ⟨t, rfl, ht⟩ .nil))
      · rw [tk]
        exact List.Sublist.append h3 (List.Sublist.refl _)
      · intro b o n e2
        rw [upd_ne (fun z => by
          subst z
          have q := kx b o n e2
          rw [nd] at q
          cases q)]
        exact k3 _ _ n (h4 _ _ n e2)
      · rw [upd_ne npd]
        exact p3
      · rw [upd_ne ned]
        exact he3
      · exact cells_kt (q3.trans (KT.upd hd3)) h7
    · refine ⟨acc, cs', hd3, cells_kt q3 h2, ?_, h4.trans k3, p3, he3, cells_kt q3 h7⟩
      rw [tk]
      exact List.Sublist.trans h3 (List.sublist_append_left _ _)
  · rintro H2 ⟨acc, cs', h1, h2, h3, h4, h5, h6, h7⟩
    have h3' : cs'.Sublist cs := List.Sublist.trans h3 (List.take_sublist _ _)
    refine ⟨!acc.isEmpty, .inl ⟨acc, SqL.of h1, rfl⟩, ite2 (fun e1 => ?_) (fun e1 => ?_)⟩
    · refine k _ _ ⟨⟨d, acc, cs', y8, y9, y10, rfl, ?_, Ne.symm npd, h1, h2, ⟨gd.asc.sublist h3', fun c hc => gd.grid c (h3'.subset hc), ?_⟩, Nat.le_trans h3'.length_le hl⟩, h4, h5⟩
      · cases q : H d with
        | none => rfl
        | some o =>
          have z := kx d o (Ne.symm npd) q
          rw [nd] at z
          cases z
      · intro z
        subst z
        cases h2
        cases e1
    · exact ⟨_, rfl, k _ _ ⟨⟨e, xs, cs, y8, y9, y10, rfl, he0, hep, h6, h7, gd, hl⟩, h4, h5⟩⟩
end KS
namespace KS
open PySem PySem.Spec PyProof.Rows L2
abbrev tDr (tm : TE) : TE := tCall spDraw [] E0 (tCons (tVar 0) (tCons tm tNil))
abbrev rAdd : V → V → Hp → VK → Prop := rI0 fun i j => .int (i + j)
/-- if mode == 2: high, wide = 1 + draw(pool, 8), 1 + draw(pool, 8) -/
theorem par_if {p : Addr} {m mode wide high : Int} {σr : L2.St} {H2 : Hp} {D : Ends} (po : PoolO (H2 p)) (hw : 1 ≤ wide ∧ wide ≤ 8) (hh : 1 ≤ high ∧ high ≤ 8)
    (k : ∀ (wide' high' : Int) (H3 : Hp), KeepX p H2 H3 → PoolO (H3 p) → 1 ≤ wide' ∧ wide' ≤ 8 → 1 ≤ high' ∧ high' ≤ 8 → D.nx (some (.ref p) :: some (.int m) :: some (.int mode) :: some (.int wide') :: some (.int high') :: σr) H3) :
    tIfS (tTest (tOp rEq (tVar 2) (tC (.int 2)))) (tPar 4 3 (tCons (tOp rAdd (tC (.int 1)) (tDr (tC (.int 8)))) (tCons (tOp rAdd (tC (.int 1)) (tDr (tC (.int 8)))) tNil))) tNext D
      (some (.ref p) :: some (.int m) :: some (.int mode) :: some (.int wide) :: some (.int high) :: σr) H2 := by
  refine ⟨_, rfl, rfl, _, rfl, ite2 (fun e => ?_) (fun e => ?_)⟩
  · refine ⟨_, rfl, p, 8, rfl, po, by decide, by decide, fun H3 a k3 po3 a0 a1 => ?_⟩
    refine ⟨_, _, rfl, rfl, _, rfl, p, 8, rfl, po3, by decide, by decide, fun H4 b k4 po4 b0 b1 => ?_⟩
    exact ⟨_, _, rfl, rfl, _, _, rfl, k (1 + b) (1 + a) H4 (k3.trans k4) po4 ⟨by omega, by omega⟩ ⟨by omega, by omega⟩⟩
  · exact k wide high H2 (KeepX.refl _ _) po hw hh
/-- if mode == n: every = [spot for spot in every if ..] or every -/
theorem fil_if {K : PySem.W.Frag} {p : Addr} {H : Hp} {m mode wide high top left n : Int} {tc : TT} {D : Ends} {σ : L2.St} {H' : Hp} (h : PlSt K p H m mode wide high top left σ H')
    (htc : ∀ (t : Addr) (c : Cell) (H2 : Hp) (R : Bool → Hp → Prop), SqT K H2 t [.int c.1, .int c.2] → PoolO (H2 p) → (∀ b H3, KeepX p H2 H3 → PoolO (H3 p) → R b H3) → tc (σ.set 12 (some (.ref t))) H2 R)
    (k : ∀ σ' H'', PlSt K p H m mode wide high top left σ' H'' → D.nx σ' H'') : tIfS (tTest (tOp rEq (tVar 2) (tC (.int n)))) (tFil K tc) tNext D σ H' := by
  obtain ⟨e, xs, cs, y8, y9, y10, es, rest⟩ := h.ex
  refine ⟨.int mode, by rw [es]; rfl, rfl, _, rfl, ite2 (fun e => ?_) (fun e => ?_)⟩
  · exact fil_ok h htc k
  · exact k _ _ h
theorem draw_test {K : PySem.W.Frag} {p : Addr} {H : Hp} {m mode wide high top left n : Int} {σ : L2.St} {H' : Hp} (h : PlSt K p H m mode wide high top left σ H') (n0 : 0 < n) (n1 : n < 1073741824)
    (t : Addr) (c : Cell) (H2 : Hp) (R : Bool → Hp → Prop) (ht : SqT K H2 t [.int c.1, .int c.2]) (po : PoolO (H2 p)) (k : ∀ b H3, KeepX p H2 H3 → PoolO (H3 p) → R b H3) :
    tTest (tOp (rI0 fun i j => .bl (decide (i > j))) (tDr (tC (.int n))) (tC (.int 0))) (σ.set 12 (some (.ref t))) H2 R := by
  obtain ⟨e, xs, cs, y8, y9, y10, es, rest⟩ := h.ex
  subst es
  exact ⟨_, rfl, p, n, rfl, po, n0, n1, fun H3 r k3 po3 r0 r1 => ⟨_, _, rfl, rfl, _, rfl, k _ _ k3 po3⟩⟩
end KS
namespace KS
open PySem PySem.Spec PyProof.Rows L2
abbrev rSub : V → V → Hp → VK → Prop := rI0 fun i j => .int (i - j)
abbrev rLe : V → V → Hp → VK → Prop := rI0 fun i j => .bl (decide (i ≤ j))
theorem fil3_if {K : PySem.W.Frag} {p : Addr} {H : Hp} {m mode wide high top left : Int} {D : Ends} {σ : L2.St} {H' : Hp} (h : PlSt K p H m mode wide high top left σ H')
    (k : ∀ σ' H'', PlSt K p H m mode wide high top left σ' H'' → D.nx σ' H'') :
    tIfS (tTest (tOp rEq (tVar 2) (tC (.int 3)))) (tSeq (tAsg (tOp rAdd (tOp rAdd (tVar 5) (tVar 6)) (tDr (tC (.int 4)))) (gName 9))
      (tSeq (tAsg (tOp rSub (tOp rSub (tOp rAdd (tOp rAdd (tOp rAdd (tVar 5) (tVar 6)) (tVar 4)) (tVar 3)) (tC (.int 2))) (tDr (tC (.int 4)))) (gName 10))
      (tFil K (tTest (tChain rLe rLe (tVar 9) (tCB (rSumT K) (tCons (tVar 12) tNil)) (tVar 10)))))) tNext D σ H' := by
  obtain ⟨⟨e, xs, cs, y8, y9, y10, rfl, he0, hep, he, hc, gd, hl⟩, kx, po⟩ := id h
  refine ⟨_, rfl, rfl, _, rfl, ite2 (fun e => ?_) (fun e => ?_)⟩
  · refine ⟨_, rfl, _, rfl, _, _, rfl, rfl, _, rfl, p, 4, rfl, po, by decide, by decide, fun H1 a k1 po1 _ _ => ⟨_, _, rfl, rfl, ?_⟩⟩
    refine ⟨_, rfl, _, rfl, _, _, rfl, rfl, _, rfl, _, _, rfl, rfl, _, rfl, _, _, rfl, rfl, _, _, rfl, rfl, _, rfl, p, 4, rfl, po1, by decide, by decide, fun H2 b k2 po2 _ _ => ⟨_, _, rfl, rfl, ?_⟩⟩
    have k12 := k1.trans k2
    refine fil_ok (p := p) (H := H) (m := m) (mode := mode) (wide := wide) (high := high) (top := top) (left := left)
      ⟨⟨_, xs, cs, y8, _, _, rfl, he0, hep, k12 _ _ hep he, cells_kt (KT.of_keepX po k12) hc, gd, hl⟩, kx.trans k12, po2⟩ (fun t c H3 R ht p3 kk => ?_) k
    refine ⟨_, rfl, _, rfl, t, [c.1, c.2], rfl, ht, _, _, rfl, rfl, _, rfl, ite2 (fun e1 => ?_) (fun e1 => ?_)⟩
    · exact ⟨_, rfl, _, _, rfl, rfl, _, rfl, kk _ _ (KeepX.refl _ _) p3⟩
    · exact ⟨_, rfl, kk _ _ (KeepX.refl _ _) p3⟩
  · exact k _ _ h
end KS
namespace KS
open PySem PySem.Spec PyProof.Rows L2
theorem tyx_tup {K : PySem.W.Frag} {H : Hp} {a : Addr} {xs : List V} (h : SqT K H a xs) : TyX K H (.ref a) (.type "tuple") := by
  rcases h with (h | ⟨o, h⟩) | h
  · exact .base (.tup h)
  · exact .fTuple h
  · obtain ⟨o, its, n, e, c, r⟩ := h
    exact .kTuple e c
theorem bl_true {p : Prop} [Decidable p] (h : p) : V.bl (decide p) = V.bl true := by rw [decide_eq_true h]
theorem bl_false {p : Prop} [Decidable p] (h : ¬ p) : V.bl (decide p) = V.bl false := by rw [decide_eq_false h]
/-- a number of a row or column -/
def Place (v : Int) : Prop := 0 ≤ v ∧ v ≤ 7
def spWhole : Sp := fun vs H Q _ => ∃ i : Int, vs = [.int i] ∧ Q (.bl true) H
def spBetween : Sp := fun vs H Q _ => ∃ i lo hi : Int, vs = [.int i, .int lo, .int hi] ∧ lo ≤ i ∧ i ≤ hi ∧ Q (.bl true) H
def spPlace : Sp := fun vs H Q _ => ∃ i : Int, vs = [.int i] ∧ Place i ∧ Q (.bl true) H
def spIsCell (K : PySem.W.Frag) : Sp := fun vs H Q _ => ∃ (a : Addr) (c : Cell), vs = [.ref a] ∧ SqT K H a [.int c.1, .int c.2] ∧ InGrid c ∧ Q (.bl true) H
def spCheck (K : PySem.W.Frag) : Sp := fun vs H Q _ => ∃ (a : Addr) (cs : List Cell), vs = [.ref a] ∧ PlanAt K H a cs ∧ Good cs ∧ cs.length ≤ 24 ∧ ∀ H', Same H H' → Q .non H'
theorem good_step {cs : List Cell} (g : cs.Pairwise lt2) {i : Nat} {a b : Cell} (h1 : cs[i]? = some a) (h2 : cs[i + 1]? = some b) : lt2 a b := by
  obtain ⟨l1, e1⟩ := List.getElem?_eq_some_iff.mp h1
  obtain ⟨l2, e2⟩ := List.getElem?_eq_some_iff.mp h2
  have := (List.pairwise_iff_getElem.mp g) i (i + 1) l1 l2 (by omega)
  rw [e1, e2] at this
  exact this
theorem not_le2 {a b : Cell} (h : lt2 a b) : Ob.lexAt (fun j => decide (([b.1, b.2] : List Int).getD j 0 = ([a.1, a.2] : List Int).getD j 0)) (fun j => decide (([b.1, b.2] : List Int).getD j 0 ≤ ([a.1, a.2] : List Int).getD j 0)) (decide (([b.1, b.2] : List Int).length ≤ ([a.1, a.2] : List Int).length)) 0 (min ([b.1, b.2] : List Int).length ([a.1, a.2] : List Int).length) = false := by
  show Ob.lexAt _ _ _ 0 2 = false
  rw [Ob.lexAt_succ, Ob.lexAt_succ]
  show (if decide (b.1 = a.1) = true then (if decide (b.2 = a.2) = true then _ else decide (b.2 ≤ a.2)) else decide (b.1 ≤ a.1)) = false
  rcases h with h | ⟨h1, h2⟩
  · rw [if_neg (by simp; omega)]
    simp
    omega
  · rw [if_pos (by simp; omega), if_neg (by simp; omega)]
    simp
    omega
end KS
namespace KS
open PySem PySem.Spec PyProof.Rows L2
/-! ### f(k = v, ..), keywords alone -/
structure KwBinds (fd : FuncData) (ps ks : List Str) (g : List Value → List Value) (gV : List V → List V) : Prop where
  to : ∀ (s : Shared) (ws : List Value), (g ws).length = ps.length → BindsTo s fd ⟨[], ks.zip ws⟩ (ps.zip (g ws))
  rel : ∀ {zs : List V} {ws : List Value}, Vals zs ws → Vals (gV zs) (g ws)
def tCallKw (sp : Sp) (gV : List V → List V) (E : XK) (tk : TA) : TE := fun σ H Q => tk σ H fun zs H2 => sp (gV zs) H2 Q E
section
variable {X : Cx} {CX : CXT} {k : Nat} {f : Addr} {fd : FuncData} {ps ks : List Str} {sp : Sp} {E : XK} {x : Str} {p pos : Pos} {kws : List Keyword} {tk : TA} {g : List Value → List Value} {gV : List V → List V}
theorem pe_callKw (F : FnOk X.prog X.w X.K X.mg X.base CX k f fd ps sp) (hr : Room k X.A) (hg : Gl X x) (hm : X.mg x = some (.ref f)) (hk : PySem.W.keepIn X.K (.ref f) = true) (hb : KwBinds fd ps ks g gV)
    (hx : Passes CX X E) (hkw : PK X kws tk) (hall : (backToKw pos (keywordEach kws X.env)).all (·.1.isSome) = true := by rfl)
    (hks : (backToKw pos (keywordEach kws X.env)).filterMap (·.1) = ks := by rfl) (hdb : (x == ("__debug__" : Str)) = false := by decide)
    (hpl : ((backTo pos (starEach [] X.env)).any (·.1) || (backToKw pos (keywordEach kws X.env)).any (·.1.isNone)) = false := by rfl) :
    PE X (.Call (.Name x p) [] kws pos) (tCallKw sp gV E tk) := by
  refine ⟨fun pins s σ H Q I h => wpAny_Call_Name_kw (ld_glob I hg hm ?_ hdb)⟩
  refine PySem.W.callWith_KW0 (h₀ := X.base) I.ok.mod.kin hk hall ?_ hpl
  refine thn (hkw.run pos pins s σ H _ I h) fun ws s2 hh => ?_
  obtain ⟨zs, H2, I2, rz, q2⟩ := hh
  refine ⟨I2.kIn, ?_⟩
  rw [hks]
  have r2 := hb.rel rz
  have hl : (g ws).length = ps.length := by
    rw [← r2.length]
    exact F.len _ _ _ _ q2
  show wpAny _ _ (call (.ref f) [] (ks.zip ws)) _ _ _
  refine wpAny_call (codeAny_mono (F.run X.A X.stack s2 H2 ⟨[], ks.zip ws⟩ (g ws) (gV zs) Q E hr I2.env0 (hb.to s2 ws hl) r2 q2) fun z s' hq => ?_)
  cases z with
  | error e => exact hx pins σ H2 s2 e s' I2 hq
  | ok fl =>
    cases fl with
    | ret u => exact I2.after hq
    | next => cases hq
    | brk => cases hq
    | cont => cases hq
end
theorem kw_binds {K : PySem.W.Frag} {x qual : Str} {st : Stmt} {f : Addr} {fd : FuncData} {ps ks : List Str} {g : List Value → List Value} {gV : List V → List V} (F : Fun K x qual st f fd)
    (h : ∀ (kV doc pm : Value) (an : Option Addr) (cdv ct : Value) (ws : List Value), (g ws).length = ps.length →
      bindArgs (PySem.W.fnOf x qual (defArgs st) (defBody st) (defScope st) .none kV doc pm an cdv ct) ⟨[], ks.zip ws⟩ = pure (ps.zip (g ws)))
    (rel : ∀ {zs : List V} {ws : List Value}, Vals zs ws → Vals (gV zs) (g ws)) : KwBinds fd ps ks g gV := by
  obtain ⟨oc, od, kV, doc, pm, an, cdv, ct, osl, rfl, lk, hcd⟩ := F.ex
  exact ⟨fun s ws hl => .of_eq (h kV doc pm an cdv ct ws hl), rel⟩
/-- two keywords, in the other order -/
def swap2 {α : Type} : List α → List α
  | [a, b] => [b, a]
  | _ => []
theorem swap2_rel {zs : List V} {ws : List Value} (r : Vals zs ws) : Vals (swap2 zs) (swap2 ws) := by
  cases r with
  | nil => exact .nil
  | cons r1 r2 =>
    cases r2 with
    | nil => exact .nil
    | cons r3 r4 =>
      cases r4 with
      | nil => exact .cons r3 (.cons r1 .nil)
      | cons _ _ => exact .nil
/-! ### lines, as numbers -/
/-- row (false) or column (true) of a cell -/
def pick (b : Bool) (c : Cell) : Int := if b = true then c.2 else c.1
/-- the indexes below i of cells in line r -/
def idxs (b : Bool) (cs : List Cell) (i : Nat) (r : Int) : List Int := ((List.range i).filter fun j => decide ((cs[j]?).map (pick b) = some r)).map fun (j : Nat) => (j : Int)
theorem idxs_zero (b : Bool) (cs : List Cell) (r : Int) : idxs b cs 0 r = [] := rfl
theorem idxs_hit {b : Bool} {cs : List Cell} {i : Nat} {c : Cell} (h : cs[i]? = some c) : idxs b cs (i + 1) (pick b c) = idxs b cs i (pick b c) ++ [(i : Int)] := by
  unfold idxs
  rw [List.range_succ, List.filter_append, List.map_append]
  congr 1
  rw [List.filter_cons_of_pos (by simp [h])]
  rfl
theorem idxs_miss {b : Bool} {cs : List Cell} {i : Nat} {c : Cell} {r : Int} (h : cs[i]? = some c) (n : pick b c ≠ r) : idxs b cs (i + 1) r = idxs b cs i r := by
  unfold idxs
  rw [List.range_succ, List.filter_append, List.map_append]
  rw [List.filter_cons_of_neg (by simp [h, n])]
  simp
def lnsOf (b : Bool) (cs : List Cell) : List (List Int) := ((List.range 8).map fun (r : Nat) => idxs b cs cs.length (r : Int)).filter fun l => decide (l ≠ [])
theorem idxs_mem {b : Bool} {cs : List Cell} {i : Nat} {r x : Int} (h : x ∈ idxs b cs i r) : 0 ≤ x ∧ x < (i : Int) := by
  unfold idxs at h
  obtain ⟨j, hj, rfl⟩ := List.mem_map.mp h
  have := List.mem_range.mp (List.mem_filter.mp hj).1
  omega
theorem idxs_len (b : Bool) (cs : List Cell) (i : Nat) (r : Int) : (idxs b cs i r).length ≤ i := by
  unfold idxs
  rw [List.length_map]
  exact Nat.le_trans (List.length_filter_le _ _) (by simp)
theorem idxs_grid {b : Bool} {cs : List Cell} {i : Nat} {r : Int} (g : ∀ c ∈ cs, InGrid c) (h : idxs b cs i r ≠ []) : 0 ≤ r ∧ r < 8 := by
  cases e : idxs b cs i r with
  | nil => exact absurd e h
  | cons x l =>
    have hx : x ∈ idxs b cs i r := by
      rw [e]
      exact List.mem_cons_self
    unfold idxs at hx
    obtain ⟨j, hj, rfl⟩ := List.mem_map.mp hx
    have q := of_decide_eq_true (List.mem_filter.mp hj).2
    cases z : cs[j]? with
    | none =>
      rw [z] at q
      cases q
    | some c =>
      rw [z] at q
      have q' : pick b c = r := Option.some.inj q
      have gc := g c (List.mem_of_getElem? z)
      unfold pick at q'
      unfold InGrid at gc
      split at q' <;> omega
/-- two strictly ascending lists with the same members are one -/
theorem asc_ext : ∀ {l m : List Int}, l.Pairwise (· < ·) → m.Pairwise (· < ·) → (∀ x, x ∈ l ↔ x ∈ m) → l = m
  | [], [], _, _, _ => rfl
  | [], y :: m, _, _, h => absurd ((h y).mpr List.mem_cons_self) (by simp)
  | x :: l, [], _, _, h => absurd ((h x).mp List.mem_cons_self) (by simp)
  | x :: l, y :: m, h1, h2, h => by
    rw [List.pairwise_cons] at h1 h2
    have e : x = y := by
      rcases List.mem_cons.mp ((h x).mp List.mem_cons_self) with z | z
      · exact z
      · rcases List.mem_cons.mp ((h y).mpr List.mem_cons_self) with z2 | z2
        · exact z2.symm
        · have a := h2.1 x z
          have b := h1.1 y z2
          omega
    subst e
    congr 1
    refine asc_ext h1.2 h2.2 fun z => ⟨fun hz => ?_, fun hz => ?_⟩
    · rcases List.mem_cons.mp ((h z).mp (List.mem_cons_of_mem _ hz)) with e | e
      · have := h1.1 z hz
        omega
      · exact e
    · rcases List.mem_cons.mp ((h z).mpr (List.mem_cons_of_mem _ hz)) with e | e
      · have := h2.1 z hz
        omega
      · exact e
theorem strict_of {l : List Int} (h : l.Pairwise (· ≤ ·)) (n : l.Nodup) : l.Pairwise (· < ·) := by
  rw [List.nodup_iff_pairwise_ne] at n
  exact (h.and n).imp fun {a b} q => by omega
/-- the lines in use, by number -/
def usedOf (b : Bool) (cs : List Cell) : List Int := ((List.range 8).map fun (r : Nat) => (r : Int)).filter fun r => decide (idxs b cs cs.length r ≠ [])
theorem used_asc (b : Bool) (cs : List Cell) : (usedOf b cs).Pairwise (· < ·) := by
  unfold usedOf
  exact List.Pairwise.sublist List.filter_sublist (by decide)
theorem used_lines (b : Bool) (cs : List Cell) : (usedOf b cs).map (fun r => idxs b cs cs.length r) = lnsOf b cs := by
  unfold usedOf lnsOf
  rw [List.filter_map, List.filter_map, List.map_map]
  rfl
theorem used_mem {b : Bool} {cs : List Cell} (g : ∀ c ∈ cs, InGrid c) (r : Int) : r ∈ usedOf b cs ↔ idxs b cs cs.length r ≠ [] := by
  unfold usedOf
  rw [List.mem_filter]
  refine ⟨fun h => of_decide_eq_true h.2, fun h => ⟨?_, decide_eq_true h⟩⟩
  have := idxs_grid g h
  rw [List.mem_map]
  exact ⟨r.toNat, List.mem_range.mpr (by omega), by omega⟩
/-! ### lines, in the heap -/
def TupI (K : PySem.W.Frag) (H : Hp) (x : V) (l : List Int) : Prop := ∃ t, x = .ref t ∧ SqT K H t (l.map V.int)
def LstI (H : Hp) (x : V) (l : List Int) : Prop := ∃ t, x = .ref t ∧ H t = some (.lst (l.map V.int))
abbrev lineD (l : List Int) : PyData := .tuple (l.map PyData.int)
abbrev linesD (ls : List (List Int)) : PyData := .tuple (ls.map lineD)
theorem dp_ints {K : PySem.W.Frag} {H : Hp} : ∀ l : List Int, DpAll K H (l.map V.int) (l.map PyData.int)
  | [] => .nil
  | x :: l => .cons (.int x) (dp_ints l)
theorem dp_lines {K : PySem.W.Frag} {H : Hp} : ∀ {xs : List V} {ls : List (List Int)}, Paired (TupI K H) xs ls → DpAll K H xs (ls.map lineD)
  | _, _, .nil => .nil
  | _, _, .cons ⟨t, e, h⟩ r => by
    subst e
    exact .cons (.tup h (dp_ints _)) (dp_lines r)
theorem tupI_kt {K : PySem.W.Frag} {H H' : Hp} (k : KT K H H') {xs : List V} {ls : List (List Int)} (h : Paired (TupI K H) xs ls) : Paired (TupI K H') xs ls :=
  Paired.mono (fun _ _ ⟨t, e, q⟩ => ⟨t, e, k _ _ q⟩) h
def spIsKind : Sp := fun vs H Q _ => ∃ b : Bool, vs = [.str (if b = true then "C" else "R")] ∧ ∀ H', Same H H' → Q (.bl true) H'
def spKind : Sp := fun vs H Q _ => ∃ b : Bool, vs = [.str (if b = true then "C" else "R")] ∧ ∀ H', Same H H' → Q .non H'
def spLines (K : PySem.W.Frag) : Sp := fun vs H Q _ => ∃ (a : Addr) (b : Bool) (cs : List Cell), vs = [.ref a, .str (if b = true then "C" else "R")] ∧ PlanAt K H a cs ∧ Good cs ∧ cs.length ≤ 24 ∧
  ∀ H' p xs, Same H H' → SqT K H' p xs → Paired (TupI K H') xs (lnsOf b cs) → Q (.ref p) H'
def spLawLines (K : PySem.W.Frag) : Sp := fun vs H Q _ => ∃ (a : Addr) (b : Bool) (cs : List Cell), vs = [.ref a, .str (if b = true then "C" else "R")] ∧ PlanAt K H a cs ∧ cs.length ≤ 24 ∧
  ∀ H' p xs, Same H H' → H' p = some (.lst xs) → Paired (LstI H') xs (lnsOf b cs) → Q (.ref p) H'
end KS
namespace KS
open PySem PySem.Spec PyProof.Rows L2
/-- 0 if kind == "R" else 1 -/
theorem side_ok {b : Bool} {σ : L2.St} {H : Hp} {Q : VK} (hσ : σ[1]? = some (some (.str (if b = true then "C" else "R")))) (k : Q (.int (if b = true then 1 else 0)) H) :
    tIf (tTest (tOp rEq (tVar 1) (tC (.str "R")))) (tC (.int 0)) (tC (.int 1)) σ H Q := by
  refine ⟨_, hσ, by cases b <;> rfl, _, rfl, ?_⟩
  cases b
  · rw [if_pos (by decide +kernel)]
    exact k
  · rw [if_neg (by decide +kernel)]
    exact k
theorem at_pick {b : Bool} {c : Cell} : atI [V.int c.1, V.int c.2] (if b = true then 1 else 0) = some (V.int (pick b c)) := by
  cases b <;> rfl
/-- the dict of lines behind i cells -/
structure Grp (b : Bool) (cs : List Cell) (i : Nat) (d : Addr) (kvs : List (Key × V)) (ad : Int → Addr) (H : Hp) : Prop where
  dict : H d = some (.dK kvs)
  keys : ∃ ks : List Int, kvs.map (·.1) = ks.map Sum.inl ∧ ks.Nodup ∧ ks.length ≤ i
  val : ∀ r : Int, valV kvs (.inl r) = if idxs b cs i r = [] then none else some (.ref (ad r))
  lst : ∀ r : Int, idxs b cs i r ≠ [] → H (ad r) = some (.lst ((idxs b cs i r).map V.int))
  inj : ∀ r r' : Int, idxs b cs i r ≠ [] → idxs b cs i r' ≠ [] → ad r = ad r' → r = r'
theorem Grp.same {b : Bool} {cs : List Cell} {i : Nat} {d : Addr} {kvs : List (Key × V)} {ad : Int → Addr} {H H' : Hp} (g : Grp b cs i d kvs ad H) (s : Same H H') : Grp b cs i d kvs ad H' :=
  ⟨s _ _ g.dict, g.keys, g.val, fun r h => s _ _ (g.lst r h), g.inj⟩
theorem Grp.more {b : Bool} {cs : List Cell} {i : Nat} {d : Addr} {kvs : List (Key × V)} {ad : Int → Addr} {H : Hp} {c : Cell} (g : Grp b cs i d kvs ad H) (hc : cs[i]? = some c) (h : idxs b cs i (pick b c) ≠ []) :
    Grp b cs (i + 1) d kvs ad (upd H (ad (pick b c)) (.lst ((idxs b cs i (pick b c)).map V.int ++ [.int (i : Nat)]))) := by
  have same : ∀ r, (idxs b cs (i + 1) r = []) ↔ (idxs b cs i r = []) := fun r => by
    by_cases e : pick b c = r
    · subst e
      rw [idxs_hit hc]
      simp [h]
    · rw [idxs_miss hc e]
  have hd : d ≠ ad (pick b c) := ne_of g.dict (g.lst _ h) (by intro z; cases z)
  obtain ⟨ks, k1, k2, k3⟩ := g.keys
  refine ⟨by rw [upd_ne hd]; exact g.dict, ⟨ks, k1, k2, by omega⟩, fun r => ?_, fun r hr => ?_, fun r r' h1 h2 => g.inj r r' (fun z => h1 ((same r).mpr z)) (fun z => h2 ((same r').mpr z))⟩
  · rw [g.val r]
    by_cases e : idxs b cs i r = []
    · rw [if_pos e, if_pos ((same r).mpr e)]
    · rw [if_neg e, if_neg (fun z => e ((same r).mp z))]
  · have hr' : idxs b cs i r ≠ [] := fun z => hr ((same r).mpr z)
    by_cases e : pick b c = r
    · subst e
      rw [upd_same, idxs_hit hc, List.map_append]
      rfl
    · rw [upd_ne (fun z => e (g.inj _ _ h hr' z.symm)), idxs_miss hc e]
      exact g.lst r hr'
theorem Grp.new {b : Bool} {cs : List Cell} {i : Nat} {d z : Addr} {kvs : List (Key × V)} {ad : Int → Addr} {H : Hp} {c : Cell} (g : Grp b cs i d kvs ad H) (hc : cs[i]? = some c) (h : idxs b cs i (pick b c) = []) (nz : H z = none) :
    Grp b cs (i + 1) d (putK kvs (.inl (pick b c)) (.ref z)) (fun r => if r = pick b c then z else ad r) (upd (upd (upd H z (.lst [])) d (.dK (putK kvs (.inl (pick b c)) (.ref z)))) z (.lst ([] ++ [.int (i : Nat)]))) := by
  have hv : valV kvs (.inl (pick b c)) = none := by
    rw [g.val, if_pos h]
  have hdz : d ≠ z := ne_of_none g.dict nz
  have hput : putK kvs (Sum.inl (pick b c)) (V.ref z) = kvs ++ [(Sum.inl (pick b c), V.ref z)] := by
    unfold putK
    rw [if_neg]
    rw [valV_any, hv]
    simp
  have hit : idxs b cs (i + 1) (pick b c) = [(i : Int)] := by
    rw [idxs_hit hc, h]
    rfl
  obtain ⟨ks, k1, k2, k3⟩ := g.keys
  refine ⟨?_, ⟨ks ++ [pick b c], ?_, ?_, ?_⟩, fun r => ?_, fun r hr => ?_, fun r r' h1 h2 => ?_⟩
  · rw [upd_ne hdz, upd_same]
  · rw [hput, List.map_append, List.map_append, k1]
    rfl
  · rw [List.nodup_append]
    refine ⟨k2, by simp, fun x hx y hy e => ?_⟩
    rw [List.mem_singleton] at hy
    subst hy
    subst e
    apply valV_not hv
    rw [k1]
    exact List.mem_map.mpr ⟨_, hx, rfl⟩
  · rw [List.length_append]
    simp
    omega
  · rw [valV_put]
    by_cases e : r = pick b c
    · subst e
      rw [if_pos rfl, hit, if_neg (by simp), if_pos rfl]
    · rw [if_neg (fun q => e (Sum.inl.inj q)), g.val, idxs_miss hc (Ne.symm e), if_neg e]
  · by_cases e : r = pick b c
    · subst e
      show upd _ _ _ (if _ then z else _) = _
      rw [if_pos rfl, upd_same, hit]
      rfl
    · show upd _ _ _ (if _ then z else _) = _
      rw [if_neg e]
      rw [idxs_miss hc (Ne.symm e)] at hr ⊢
      have hl := g.lst r hr
      rw [upd_ne (ne_of_none hl nz), upd_ne (ne_of hl g.dict (by intro q; cases q)), upd_ne (ne_of_none hl nz)]
      exact hl
  · intro e
    by_cases e1 : r = pick b c
    · by_cases e2 : r' = pick b c
      · rw [e1, e2]
      · have e' : (if r = pick b c then z else ad r) = (if r' = pick b c then z else ad r') := e
        rw [if_pos e1, if_neg e2] at e'
        rw [idxs_miss hc (Ne.symm e2)] at h2
        have := g.lst r' h2
        rw [← e', nz] at this
        cases this
    · have e' : (if r = pick b c then z else ad r) = (if r' = pick b c then z else ad r') := e
      rw [idxs_miss hc (Ne.symm e1)] at h1
      by_cases e2 : r' = pick b c
      · rw [if_neg e1, if_pos e2] at e'
        have := g.lst r h1
        rw [e', nz] at this
        cases this
      · rw [if_neg e1, if_neg e2] at e'
        rw [idxs_miss hc (Ne.symm e2)] at h2
        exact g.inj r r' h1 h2 e'
/-- the sorted keys are the lines in use -/
theorem Grp.used {b : Bool} {cs : List Cell} {d : Addr} {kvs : List (Key × V)} {ad : Int → Addr} {H : Hp} {ks ys : List Int} (g : Grp b cs cs.length d kvs ad H) (gr : ∀ c ∈ cs, InGrid c) (e : kvs.map (·.1) = ks.map Sum.inl) (n : ks.Nodup) (p : ys.Perm ks) (s : ys.Pairwise (· ≤ ·)) : ys = usedOf b cs := by
  refine asc_ext (strict_of s (p.nodup_iff.mpr n)) (used_asc b cs) fun r => ?_
  rw [p.mem_iff, used_mem gr]
  have key : r ∈ ks ↔ (Sum.inl r : Key) ∈ kvs.map (·.1) := by
    rw [e, List.mem_map]
    exact ⟨fun h => ⟨r, h, rfl⟩, fun ⟨x, hx, q⟩ => by cases q; exact hx⟩
  rw [key]
  constructor
  · intro h z
    have hv : valV kvs (.inl r) = none := by rw [g.val, if_pos z]
    exact valV_not hv h
  · intro h
    exact valV_in (v := .ref (ad r)) (by rw [g.val, if_neg h])
end KS
namespace KS
open PySem PySem.Spec PyProof.Rows L2
theorem ints_lay : ∀ l : List Int, PyData.canLayAll0 (l.map PyData.int) = true ∧ PyData.depthAll (l.map PyData.int) = 0
  | [] => ⟨by simp only [List.map_nil, PyData.canLayAll0], by simp only [List.map_nil, PyData.depthAll]⟩
  | x :: l => by
    obtain ⟨h1, h2⟩ := ints_lay l
    simp only [List.map_cons, PyData.canLayAll0, PyData.depthAll, PyData.canLay0, PyData.depth, h1, h2, Bool.and_self, Nat.max_self, and_self]
theorem ints_shaped (l : List Int) : SeqAt.shaped (.list (l.map PyData.int)) = true := by
  obtain ⟨h1, h2⟩ := ints_lay l
  unfold SeqAt.shaped
  simp only [PyData.canLay0, PyData.depth, h1, h2]
  decide
theorem ints_eqv_nil (l : List Int) : PyData.eqv (.list (l.map PyData.int)) (.list []) = l.isEmpty := by
  cases l with
  | nil => decide
  | cons x l => rfl
theorem kind_test (b : Bool) : decide (V.str (if b = true then "C" else "R") = V.str "C") = b := by
  cases b <;> decide +kernel
/-- the lines below r that are in use -/
def lnsTo (b : Bool) (cs : List Cell) (r : Nat) : List (List Int) := ((List.range r).map fun (r : Nat) => idxs b cs cs.length (r : Int)).filter fun l => decide (l ≠ [])
theorem lnsTo_hit {b : Bool} {cs : List Cell} {r : Nat} (h : idxs b cs cs.length (r : Int) ≠ []) : lnsTo b cs (r + 1) = lnsTo b cs r ++ [idxs b cs cs.length (r : Int)] := by
  unfold lnsTo
  rw [List.range_succ, List.map_append, List.filter_append]
  congr 1
  rw [List.map_cons, List.filter_cons_of_pos (by simpa using h)]
  rfl
theorem lnsTo_miss {b : Bool} {cs : List Cell} {r : Nat} (h : idxs b cs cs.length (r : Int) = []) : lnsTo b cs (r + 1) = lnsTo b cs r := by
  unfold lnsTo
  rw [List.range_succ, List.map_append, List.filter_append, List.map_cons, List.filter_cons_of_neg (by simp [h])]
  simp
theorem lnsTo_len (b : Bool) (cs : List Cell) (r : Nat) : (lnsTo b cs r).length ≤ r := by
  unfold lnsTo
  exact Nat.le_trans (List.length_filter_le _ _) (by simp)
end KS
namespace KS
open PySem PySem.Spec PyProof.Rows L2
/-! ### a sort of lines, as mathematics -/
def sortI (l : List Int) : List Int := l.mergeSort (fun a b => decide (a ≤ b))
theorem sortI_perm (l : List Int) : (sortI l).Perm l := List.mergeSort_perm _ _
theorem sortI_asc (l : List Int) : (sortI l).Pairwise (· ≤ ·) := by
  have h := List.pairwise_mergeSort (le := fun (a b : Int) => decide (a ≤ b)) (by
    intro a b c h1 h2
    have h1 := of_decide_eq_true h1
    have h2 := of_decide_eq_true h2
    exact decide_eq_true (by omega)) (by
    intro a b
    rw [Bool.or_eq_true, decide_eq_true_eq, decide_eq_true_eq]
    omega) l
  exact h.imp fun z => of_decide_eq_true z
theorem sortI_eq {l m : List Int} (p : m.Perm l) (a : m.Pairwise (· ≤ ·)) : m = sortI l :=
  List.Perm.eq_of_pairwise (fun x y _ _ h1 h2 => by omega) a (sortI_asc l) (p.trans (sortI_perm l).symm)
theorem sortI_len (l : List Int) : (sortI l).length = l.length := (sortI_perm l).length_eq
def getI (vs : List Int) (k : Int) : Int := vs.getD k.toNat 0
def putZ (acc : List Int) (zs : List (Int × Int)) : List Int := zs.foldl (fun a z => a.set z.1.toNat z.2) acc
theorem putZ_len (zs : List (Int × Int)) : ∀ acc, (putZ acc zs).length = acc.length := by
  induction zs with
  | nil => intro acc; rfl
  | cons z zs ih =>
    intro acc
    show (putZ (acc.set z.1.toNat z.2) zs).length = _
    rw [ih, List.length_set]
theorem putZ_more (acc : List Int) (zs : List (Int × Int)) (z : Int × Int) : putZ acc (zs ++ [z]) = (putZ acc zs).set z.1.toNat z.2 := by
  unfold putZ
  rw [List.foldl_append]
  rfl
def srtL (vs acc : List Int) (l : List Int) : List Int := putZ acc (l.zip (sortI (l.map (getI vs))))
def srtTo (vs : List Int) (ls : List (List Int)) : List Int := ls.foldl (srtL vs) vs
/-- the values after a sort of this kind -/
def srt (b : Bool) (cs : List Cell) (vs : List Int) : List Int := srtTo vs (lnsOf b cs)
theorem srtTo_more (vs : List Int) (ls : List (List Int)) (l : List Int) : srtTo vs (ls ++ [l]) = srtL vs (srtTo vs ls) l := by
  unfold srtTo
  rw [List.foldl_append]
  rfl
theorem srtL_len (vs acc l : List Int) : (srtL vs acc l).length = acc.length := putZ_len _ _
theorem foldl_len {f : List Int → List Int → List Int} (h : ∀ a l, (f a l).length = a.length) : ∀ (ls : List (List Int)) (a : List Int), (ls.foldl f a).length = a.length
  | [], _ => rfl
  | l :: ls, a => by
    show (ls.foldl f (f a l)).length = _
    rw [foldl_len h ls, h]
theorem srtTo_len (vs : List Int) (ls : List (List Int)) : (srtTo vs ls).length = vs.length := foldl_len (srtL_len vs) ls vs
theorem srt_len (b : Bool) (cs : List Cell) (vs : List Int) : (srt b cs vs).length = vs.length := srtTo_len _ _
theorem idxs_nat {b : Bool} {cs : List Cell} {i : Nat} {r k : Int} (h : k ∈ idxs b cs i r) : ∃ j : Nat, k = (j : Int) ∧ j < i := by
  unfold idxs at h
  obtain ⟨j, hj, rfl⟩ := List.mem_map.mp h
  exact ⟨j, rfl, List.mem_range.mp (List.mem_filter.mp hj).1⟩
theorem lns_mem {b : Bool} {cs : List Cell} {l : List Int} (h : l ∈ lnsOf b cs) : (∀ k ∈ l, ∃ j : Nat, k = (j : Int) ∧ j < cs.length) ∧ l.length ≤ cs.length := by
  unfold lnsOf at h
  obtain ⟨r, _, rfl⟩ := List.mem_map.mp (List.mem_filter.mp h).1
  exact ⟨fun k hk => idxs_nat hk, idxs_len _ _ _ _⟩
theorem getI_at {vs : List Int} {j : Nat} (h : j < vs.length) : (vs.map V.int)[j]? = some (.int (getI vs (j : Int))) := by
  unfold getI
  rw [List.getElem?_map, Int.toNat_natCast, List.getD_eq_getElem?_getD, List.getElem?_eq_getElem h]
  rfl
theorem ixN_at {n j : Nat} (h : j < n) : ixN n (j : Int) = some j := by
  unfold ixN
  rw [if_pos (by omega), if_pos (by omega), Int.toNat_natCast]
/-- the law's own sort: of a tuple of whole numbers -/
def spLSorted (K : PySem.W.Frag) : Sp := fun xs H Q _ => ∃ (a t : Addr) (b : Bool) (cs : List Cell) (vs : List Int), xs = [.ref a, .ref t, .str (if b = true then "C" else "R")] ∧ PlanAt K H a cs ∧ cs.length ≤ 24 ∧
  SqT K H t (vs.map V.int) ∧ vs.length = cs.length ∧ ∀ H' u, Same H H' → SqT K H' u ((srt b cs vs).map V.int) → H u = none → Q (.ref u) H'
end KS
namespace KS
open PySem PySem.Spec PyProof.Rows L2
theorem ints_eqvAll : ∀ l m : List Int, PyData.eqvAll (l.map PyData.int) (m.map PyData.int) = decide (l = m)
  | [], [] => by simp [PyData.eqvAll]
  | [], _ :: _ => by simp [PyData.eqvAll]
  | _ :: _, [] => by simp [PyData.eqvAll]
  | x :: l, y :: m => by
    have h : PyData.eqvAll ((x :: l).map PyData.int) ((y :: m).map PyData.int) = (x == y && PyData.eqvAll (l.map PyData.int) (m.map PyData.int)) := by
      simp only [List.map_cons, PyData.eqvAll, PyData.eqv]
    rw [h, ints_eqvAll l m]
    by_cases e : x = y <;> by_cases e2 : l = m <;> simp [e, e2]
theorem ints_eqvL (l m : List Int) : PyData.eqv (.list (l.map PyData.int)) (.list (m.map PyData.int)) = decide (l = m) := by
  have h : PyData.eqv (.list (l.map PyData.int)) (.list (m.map PyData.int)) = PyData.eqvAll (l.map PyData.int) (m.map PyData.int) := by simp only [PyData.eqv]
  rw [h, ints_eqvAll]
theorem ints_eqvT (l m : List Int) : PyData.eqv (.tuple (l.map PyData.int)) (.tuple (m.map PyData.int)) = decide (l = m) := by
  have h : PyData.eqv (.tuple (l.map PyData.int)) (.tuple (m.map PyData.int)) = PyData.eqvAll (l.map PyData.int) (m.map PyData.int) := by simp only [PyData.eqv]
  rw [h, ints_eqvAll]
/-- whether the values of a line ascend -/
def upL (vs l : List Int) : Bool := decide (l.map (getI vs) = sortI (l.map (getI vs)))
/-- whether each line of the kind ascends -/
def rises (b : Bool) (cs : List Cell) (vs : List Int) : Bool := (lnsOf b cs).all (upL vs)
def spLRises (K : PySem.W.Frag) : Sp := fun xs H Q _ => ∃ (a t : Addr) (b : Bool) (cs : List Cell) (vs : List Int), xs = [.ref a, .ref t, .str (if b = true then "C" else "R")] ∧ PlanAt K H a cs ∧ cs.length ≤ 24 ∧
  SqT K H t (vs.map V.int) ∧ vs.length = cs.length ∧ ∀ H', Same H H' → Q (.bl (rises b cs vs)) H'
/-- the law's own words: the sorts of the letters, from left to right -/
def kindS (b : Bool) : Str := if b = true then "C" else "R"
def aft (cs : List Cell) (w : List Bool) (vs : List Int) : List Int := w.foldl (fun a b => srt b cs a) vs
theorem aft_len (cs : List Cell) : ∀ (w : List Bool) (vs : List Int), (aft cs w vs).length = vs.length
  | [], _ => rfl
  | b :: w, vs => by
    show (aft cs w (srt b cs vs)).length = _
    rw [aft_len cs w, srt_len]
theorem aft_more (cs : List Cell) (w : List Bool) (b : Bool) (vs : List Int) : aft cs (w ++ [b]) vs = srt b cs (aft cs w vs) := by
  unfold aft
  rw [List.foldl_append]
  rfl
end KS
namespace KS
open PySem PySem.Spec PyProof.Rows L2
/-- the values of a line, a new list -/
theorem pick_line {K : PySem.W.Frag} {t' : Addr} {σ : L2.St} {H : Hp} {Q : VK} {vs l : List Int} {i1 i2 i3 : Nat} {tt : Addr} (h1 : σ[i1]? = some (some (.ref t'))) (h2 : σ[i2]? = some (some (.ref tt))) (hlt : H t' = some (.lst (l.map V.int))) (ht : SqT K H tt (vs.map V.int))
    (hm : ∀ k ∈ l, ∃ j : Nat, k = (j : Int) ∧ j < vs.length) (hl : l.length ≤ 24) (h3 : i3 < σ.length) (h13 : i2 ≠ i3)
    (k : ∀ D, H D = none → Q (.ref D) (upd H D (.lst ((l.map (getI vs)).map V.int)))) :
    tLc (iList K (tVar i1)) (gName i3) tYes (tOp (rIxT K) (tVar i2) (tVar i3)) [i3] σ H Q := by
  refine ⟨_, h1, t', rfl, ⟨_, SqL.of hlt⟩, fun D nD => ?_⟩
  have ntD : t' ≠ D := ne_of_none hlt nD
  refine lc_list (K := K) (a := t') (xs := l.map V.int) (fun j G => G = upd H D (.lst (((l.take j).map (getI vs)).map V.int))) ?_ ?_ ?_ ?_
  · rfl
  · rintro j G _ rfl
    exact SqL.of (by rw [upd_ne ntD]; exact hlt)
  · rintro j x G hj rfl
    rw [List.getElem?_map] at hj
    cases ev : l[j]? with
    | none =>
      rw [ev] at hj
      cases hj
    | some k =>
      rw [ev] at hj
      cases hj
      obtain ⟨j', rfl, hj'⟩ := hm k (List.mem_of_getElem? ev)
      refine ⟨?_, .ref tt, ?_, .int (j' : Int), ?_, tt, _, _, .int (getI vs (j' : Int)), rfl, rfl, same_seqT (same_new nD) ht, atI_nat (getI_at hj'), _, upd_same, ?_, ?_⟩
      · show ((σ.set i3 none).set i3 _).set i3 none = σ.set i3 none
        rw [List.set_set, List.set_set]
      · show ((σ.set i3 none).set i3 _)[i2]? = _
        rw [List.set_set, List.getElem?_set_ne (Ne.symm h13)]
        exact h2
      · show ((σ.set i3 none).set i3 _)[i3]? = _
        rw [List.set_set, List.getElem?_set_self h3]
      · rw [List.length_map, List.length_map, List.length_take]
        exact small64 (by omega)
      · rw [upd_upd, List.take_add_one, ev, List.map_append, List.map_append]
        rfl
  · rintro G rfl
    rw [List.length_map, List.take_length]
    exact k D nD
end KS
namespace KS
open PySem PySem.Spec PyProof.Rows L2
theorem rd_ifNe {K : PySem.W.Frag} {ta tb : TE} {t u : TS} {D : Ends} {σ : L2.St} {H : Hp} (h : ta σ H fun x H1 => tb σ H1 fun y H2 => rNeD K x y H2 fun v H3 => ∃ k, v = .bl k ∧ if k = true then t D σ H3 else u D σ H3) :
    tIfS (tTest (tOp (rNeD K) ta tb)) t u D σ H := h
theorem rd_cb1 {r : List V → Hp → VK → Prop} {ta : TE} {σ : L2.St} {H : Hp} {Q : VK} (h : ta σ H fun x H1 => r [x] H1 Q) : tCB r (tCons ta tNil) σ H Q := h
theorem up_if {K : PySem.W.Frag} {t' : Addr} {σ : L2.St} {H : Hp} {vs l : List Int} {i1 i2 i3 : Nat} {tt : Addr} {tb : TS} {D : Ends} (h1 : σ[i1]? = some (some (.ref t'))) (h2 : σ[i2]? = some (some (.ref tt))) (hlt : H t' = some (.lst (l.map V.int))) (ht : SqT K H tt (vs.map V.int))
    (hm : ∀ k ∈ l, ∃ j : Nat, k = (j : Int) ∧ j < vs.length) (hl : l.length ≤ 24) (h3 : i3 < σ.length) (h13 : i2 ≠ i3)
    (k1 : ∀ H', Same H H' → upL vs l = true → D.nx σ H') (k2 : ∀ H', Same H H' → upL vs l = false → tb D σ H') :
    tIfS (tTest (tOp (rNeD K) (tLc (iList K (tVar i1)) (gName i3) tYes (tOp (rIxT K) (tVar i2) (tVar i3)) [i3]) (tCB (rSortedI K) (tCons (tLc (iList K (tVar i1)) (gName i3) tYes (tOp (rIxT K) (tVar i2) (tVar i3)) [i3]) tNil)))) tb tNext D σ H := by
  refine rd_ifNe (pick_line (K := K) (σ := σ) h1 h2 hlt ht hm hl h3 h13 (fun D1 n1 => ?_))
  have s1 := same_new (o := .lst ((l.map (getI vs)).map V.int)) n1
  refine rd_cb1 (pick_line (K := K) (σ := σ) h1 h2 (s1 _ _ hlt) (same_seqT s1 ht) hm hl h3 h13 (fun D2 n2 => ?_))
  have s2 := same_new (o := .lst ((l.map (getI vs)).map V.int)) n2
  refine ⟨D2, _, rfl, SqL.of upd_same, fun ys D3 perm asc n3 => ?_⟩
  have ey := sortI_eq perm asc
  have s3 := same_new (o := .lst (ys.map V.int)) n3
  refine ⟨_, _, .lst (SqL.of (s3 _ _ (s2 _ _ upd_same))) (dp_ints _), .lst (SqL.of upd_same) (dp_ints _), ints_shaped _, ints_shaped _, _, rfl, ?_⟩
  rw [ints_eqvL]
  have sm := (s1.trans s2).trans s3
  by_cases c : l.map (getI vs) = ys
  · rw [decide_eq_true c]
    refine k1 _ sm ?_
    unfold upL
    rw [← ey]
    exact decide_eq_true c
  · rw [decide_eq_false c]
    refine k2 _ sm ?_
    unfold upL
    rw [← ey]
    exact decide_eq_false c
end KS
namespace KS
open PySem PySem.Spec PyProof.Rows L2
/-! ### a sort takes inversions away -/
def lt1 (a b : Int) : Nat := if a < b then 1 else 0
def cnt (a : Int) : List Int → Nat
  | [] => 0
  | b :: l => lt1 b a + cnt a l
def inv : List Int → Nat
  | [] => 0
  | a :: l => cnt a l + inv l
theorem cnt_set (b x y : Int) : ∀ {m : List Int} {j : Nat}, m[j]? = some y → cnt b (m.set j x) + lt1 y b = cnt b m + lt1 x b
  | [], _, h => by cases h
  | c :: m, 0, h => by
    cases h
    show lt1 x b + cnt b m + lt1 y b = lt1 y b + cnt b m + lt1 x b
    omega
  | c :: m, j + 1, h => by
    have ih := cnt_set b x y (m := m) (j := j) h
    show lt1 c b + cnt b (m.set j x) + lt1 y b = lt1 c b + cnt b m + lt1 x b
    omega
theorem lt1_four {x y b : Int} (h : y < x) : lt1 b y + lt1 x b ≤ lt1 b x + lt1 y b := by
  unfold lt1
  split <;> split <;> split <;> split <;> omega
theorem inv_front {x y : Int} (h : y < x) : ∀ {l : List Int} {j : Nat}, l[j]? = some y → cnt y (l.set j x) + inv (l.set j x) < cnt x l + inv l
  | [], _, e => by cases e
  | b :: m, 0, e => by
    cases e
    show lt1 x y + cnt y m + (cnt x m + inv m) < lt1 y x + cnt x m + (cnt y m + inv m)
    have h1 : lt1 x y = 0 := if_neg (by omega)
    have h2 : lt1 y x = 1 := if_pos h
    omega
  | b :: m, j + 1, e => by
    have ih := inv_front h (l := m) (j := j) e
    have c := cnt_set b x y (m := m) (j := j) e
    have f := lt1_four (b := b) h
    show lt1 b y + cnt y (m.set j x) + (cnt b (m.set j x) + inv (m.set j x)) < lt1 b x + cnt x m + (cnt b m + inv m)
    omega
theorem inv_swap {x y : Int} (h : y < x) : ∀ {l : List Int} {i j : Nat}, i < j → l[i]? = some x → l[j]? = some y → inv ((l.set i y).set j x) < inv l
  | [], _, _, _, e, _ => by cases e
  | a :: l, 0, 0, hij, _, _ => absurd hij (Nat.lt_irrefl _)
  | a :: l, 0, j + 1, _, e, e2 => by
    cases e
    exact inv_front h (l := l) (j := j) e2
  | a :: l, i + 1, 0, hij, _, _ => absurd hij (Nat.not_lt_zero _)
  | a :: l, i + 1, j + 1, hij, e, e2 => by
    have hij' : i < j := Nat.lt_of_succ_lt_succ hij
    have ih := inv_swap h (l := l) (i := i) (j := j) hij' e e2
    have c1 := cnt_set a y x (m := l) (j := i) e
    have e3 : (l.set i y)[j]? = some y := by
      rw [List.getElem?_set_ne (by omega)]
      exact e2
    have c2 := cnt_set a x y (m := l.set i y) (j := j) e3
    show cnt a ((l.set i y).set j x) + inv ((l.set i y).set j x) < cnt a l + inv l
    omega
theorem cnt_le (a : Int) : ∀ l : List Int, cnt a l ≤ l.length
  | [] => Nat.le_refl _
  | b :: l => by
    have := cnt_le a l
    have h : lt1 b a ≤ 1 := by
      unfold lt1
      split <;> omega
    show lt1 b a + cnt a l ≤ l.length + 1
    omega
theorem inv_le : ∀ l : List Int, 2 * inv l ≤ l.length * (l.length - 1)
  | [] => Nat.le_refl _
  | a :: l => by
    have h := inv_le l
    have c := cnt_le a l
    show 2 * (cnt a l + inv l) ≤ (l.length + 1) * (l.length + 1 - 1)
    rw [Nat.add_sub_cancel]
    cases hl : l.length with
    | zero =>
      rw [hl] at h c
      simp at h c
      omega
    | succ n =>
      rw [hl] at h c
      rw [Nat.add_sub_cancel] at h
      have e : (n + 1 + 1) * (n + 1) = (n + 1) * n + 2 * (n + 1) := by
        rw [Nat.add_mul (n + 1) 1 (n + 1), Nat.mul_add (n + 1) n 1]
        omega
      omega
end KS
namespace KS
open PySem PySem.Spec PyProof.Rows L2
def putN : List Int → List Nat → List Int → List Int
  | acc, k :: ks, y :: ys => putN (acc.set k y) ks ys
  | acc, _, _ => acc
def getN (acc : List Int) (ks : List Nat) : List Int := ks.map fun k => acc.getD k 0
theorem putN_nil (acc : List Int) (ys : List Int) : putN acc [] ys = acc := by
  unfold putN
  rfl
theorem putN_cons (acc : List Int) (k : Nat) (ks : List Nat) (y : Int) (ys : List Int) : putN acc (k :: ks) (y :: ys) = putN (acc.set k y) ks ys := by
  rw [putN]
theorem putN_none (acc : List Int) (ks : List Nat) : putN acc ks [] = acc := by
  cases ks <;> (unfold putN; rfl)
theorem putN_len : ∀ (ks : List Nat) (ys acc : List Int), (putN acc ks ys).length = acc.length
  | [], ys, acc => by rw [putN_nil]
  | k :: ks, [], acc => by rw [putN_none]
  | k :: ks, y :: ys, acc => by rw [putN_cons, putN_len ks ys, List.length_set]
theorem putN_off : ∀ {ks : List Nat} {ys acc : List Int} {i : Nat}, i ∉ ks → (putN acc ks ys)[i]? = acc[i]?
  | [], ys, acc, i, _ => by rw [putN_nil]
  | k :: ks, [], acc, i, _ => by rw [putN_none]
  | k :: ks, y :: ys, acc, i, h => by
    have hk : k ≠ i := fun e => h (e ▸ List.mem_cons_self)
    rw [putN_cons, putN_off (fun m => h (List.mem_cons_of_mem _ m)), List.getElem?_set_ne hk]
theorem getD_of {acc : List Int} {k : Nat} {v : Int} (h : acc[k]? = some v) : acc.getD k 0 = v := by
  rw [List.getD_eq_getElem?_getD, h]
  rfl
theorem get_put : ∀ {ks : List Nat} {ys acc : List Int}, ks.Nodup → ks.length = ys.length → (∀ k ∈ ks, k < acc.length) → getN (putN acc ks ys) ks = ys
  | [], [], acc, _, _, _ => rfl
  | [], _ :: _, acc, _, h, _ => by cases h
  | _ :: _, [], acc, _, h, _ => by cases h
  | k :: ks, y :: ys, acc, nd, hl, hb => by
    rw [List.nodup_cons] at nd
    rw [putN_cons]
    show (putN (acc.set k y) ks ys).getD k 0 :: getN (putN (acc.set k y) ks ys) ks = y :: ys
    rw [get_put nd.2 (by simpa using hl) (fun j hj => by rw [List.length_set]; exact hb j (List.mem_cons_of_mem _ hj))]
    congr 1
    refine getD_of ?_
    rw [putN_off nd.1, List.getElem?_set_self (hb k List.mem_cons_self)]
theorem put_same : ∀ {ks : List Nat} {acc : List Int}, (∀ k ∈ ks, k < acc.length) → putN acc ks (getN acc ks) = acc
  | [], acc, _ => by rw [putN_nil]
  | k :: ks, acc, hb => by
    show putN acc (k :: ks) (acc.getD k 0 :: getN acc ks) = acc
    have hk := hb k List.mem_cons_self
    have e : acc.set k (acc.getD k 0) = acc := by
      rw [List.getD_eq_getElem?_getD, List.getElem?_eq_getElem hk]
      exact List.set_getElem_self hk
    rw [putN_cons, e]
    exact put_same fun j hj => hb j (List.mem_cons_of_mem _ hj)
theorem put_over : ∀ {ks : List Nat} {zs a b : List Int}, a.length = b.length → ks.length = zs.length → (∀ i, i ∉ ks → a[i]? = b[i]?) → putN a ks zs = putN b ks zs
  | [], zs, a, b, _, _, h => by
    rw [putN_nil, putN_nil]
    exact List.ext_getElem? fun i => h i (by simp)
  | k :: ks, [], a, b, _, hl, _ => by cases hl
  | k :: ks, z :: zs, a, b, hab, hl, h => by
    rw [putN_cons, putN_cons]
    refine put_over (by rw [List.length_set, List.length_set, hab]) (by simpa using hl) fun i hi => ?_
    by_cases e : k = i
    · subst e
      by_cases c : k < a.length
      · rw [List.getElem?_set_self c, List.getElem?_set_self (by omega)]
      · rw [List.getElem?_eq_none (by rw [List.length_set]; omega), List.getElem?_eq_none (by rw [List.length_set]; omega)]
    · rw [List.getElem?_set_ne e, List.getElem?_set_ne e]
      refine h i fun m => ?_
      rcases List.mem_cons.mp m with z | z
      · exact e z.symm
      · exact hi z
/-- the same, or fewer inversions -/
def Dn (a b : List Int) : Prop := b = a ∨ inv b < inv a
theorem Dn.trans {a b c : List Int} (h : Dn a b) (k : Dn b c) : Dn a c := by
  rcases h with rfl | h
  · exact k
  · rcases k with rfl | k
    · exact .inr h
    · exact .inr (Nat.lt_trans k h)
def ins (x : Int) : List Int → List Int
  | [] => [x]
  | y :: s => if x ≤ y then x :: y :: s else y :: ins x s
def isort : List Int → List Int
  | [] => []
  | x :: l => ins x (isort l)
theorem ins_perm (x : Int) : ∀ s : List Int, (ins x s).Perm (x :: s)
  | [] => List.Perm.refl _
  | y :: s => by
    unfold ins
    split
    · exact List.Perm.refl _
    · exact ((ins_perm x s).cons y).trans (List.Perm.swap _ _ _)
theorem isort_perm : ∀ l : List Int, (isort l).Perm l
  | [] => List.Perm.refl _
  | x :: l => (ins_perm x _).trans ((isort_perm l).cons x)
theorem ins_asc {x : Int} : ∀ {s : List Int}, s.Pairwise (· ≤ ·) → (ins x s).Pairwise (· ≤ ·)
  | [], _ => by simp [ins]
  | y :: s, h => by
    rw [List.pairwise_cons] at h
    unfold ins
    split
    · rename_i c
      rw [List.pairwise_cons, List.pairwise_cons]
      refine ⟨fun z hz => ?_, h.1, h.2⟩
      rcases List.mem_cons.mp hz with rfl | m
      · exact c
      · have := h.1 z m
        omega
    · rename_i c
      rw [List.pairwise_cons]
      refine ⟨fun z hz => ?_, ins_asc h.2⟩
      rcases List.mem_cons.mp ((ins_perm x s).mem_iff.mp hz) with rfl | m
      · omega
      · exact h.1 z m
theorem isort_asc : ∀ l : List Int, (isort l).Pairwise (· ≤ ·)
  | [] => List.Pairwise.nil
  | _ :: l => ins_asc (isort_asc l)
theorem isort_eq (l : List Int) : isort l = sortI l := sortI_eq (isort_perm l) (isort_asc l)
theorem ins_dn : ∀ {ks : List Nat} {k : Nat} {acc s : List Int} {x : Int}, (k :: ks).Pairwise (· < ·) → (∀ j ∈ k :: ks, j < acc.length) → getN acc (k :: ks) = x :: s → Dn acc (putN acc (k :: ks) (ins x s))
  | [], k, acc, s, x, _, hb, e => by
    have e' : [acc.getD k 0] = x :: s := e
    cases e'
    exact .inl (put_same (ks := [k]) hb)
  | k' :: ks, k, acc, [], x, _, hb, e => by
    have e' : acc.getD k 0 :: acc.getD k' 0 :: getN acc ks = [x] := e
    cases e'
  | k' :: ks, k, acc, y :: s, x, hp, hb, e => by
    unfold ins
    split
    · rw [← e]
      exact .inl (put_same hb)
    · rename_i c
      have e' : acc.getD k 0 :: acc.getD k' 0 :: getN acc ks = x :: y :: s := e
      injection e' with e1 e2
      injection e2 with e2 e3
      rw [List.pairwise_cons] at hp
      have hk := hb k List.mem_cons_self
      have hk' := hb k' (List.mem_cons_of_mem _ List.mem_cons_self)
      have hlt : k < k' := hp.1 k' List.mem_cons_self
      have g1 : acc[k]? = some x := by
        rw [List.getElem?_eq_getElem hk, ← e1, List.getD_eq_getElem?_getD, List.getElem?_eq_getElem hk]
        rfl
      have g2 : acc[k']? = some y := by
        rw [List.getElem?_eq_getElem hk', ← e2, List.getD_eq_getElem?_getD, List.getElem?_eq_getElem hk']
        rfl
      have sw := inv_swap (x := x) (y := y) (by omega) hlt g1 g2
      have hp2 := List.pairwise_cons.mp hp.2
      have gg : getN ((acc.set k y).set k' x) (k' :: ks) = x :: s := by
        show ((acc.set k y).set k' x).getD k' 0 :: getN ((acc.set k y).set k' x) ks = x :: s
        rw [getD_of (List.getElem?_set_self (by rw [List.length_set]; exact hk'))]
        congr 1
        rw [← e3]
        refine List.map_congr_left fun j hj => ?_
        have j1 : k' < j := hp2.1 j hj
        show ((acc.set k y).set k' x).getD j 0 = acc.getD j 0
        rw [List.getD_eq_getElem?_getD, List.getD_eq_getElem?_getD, List.getElem?_set_ne (by omega), List.getElem?_set_ne (by omega)]
      have ih := ins_dn (acc := (acc.set k y).set k' x) hp.2 (fun j hj => by rw [List.length_set, List.length_set]; exact hb j (List.mem_cons_of_mem _ hj)) gg
      have ep : putN acc (k :: k' :: ks) (y :: ins x s) = putN ((acc.set k y).set k' x) (k' :: ks) (ins x s) := by
        rw [putN_cons]
        cases h : ins x s with
        | nil =>
          have := (ins_perm x s).length_eq
          rw [h] at this
          cases this
        | cons z zs => rw [putN_cons, putN_cons, List.set_set]
      rw [ep]
      exact Dn.trans (.inr sw) ih
theorem sort_dn : ∀ {ks : List Nat} {acc : List Int}, ks.Pairwise (· < ·) → (∀ j ∈ ks, j < acc.length) → Dn acc (putN acc ks (isort (getN acc ks)))
  | [], acc, _, _ => .inl (putN_nil _ _)
  | k :: ks, acc, hp, hb => by
    have hp' := List.pairwise_cons.mp hp
    have hb' : ∀ j ∈ ks, j < acc.length := fun j hj => hb j (List.mem_cons_of_mem _ hj)
    have ih := sort_dn hp'.2 hb'
    have nk : k ∉ ks := fun m => Nat.lt_irrefl _ (hp'.1 k m)
    have nd : ks.Nodup := hp'.2.imp fun h => Nat.ne_of_lt h
    have ll : ks.length = (isort (getN acc ks)).length := by
      rw [(isort_perm _).length_eq]
      unfold getN
      rw [List.length_map]
    have g : getN (putN acc ks (isort (getN acc ks))) (k :: ks) = acc.getD k 0 :: isort (getN acc ks) := by
      show (putN acc ks (isort (getN acc ks))).getD k 0 :: getN (putN acc ks (isort (getN acc ks))) ks = _
      rw [get_put nd ll hb', List.getD_eq_getElem?_getD, putN_off nk, ← List.getD_eq_getElem?_getD]
    have b := ins_dn (acc := putN acc ks (isort (getN acc ks))) hp (fun j hj => by rw [putN_len]; exact hb j hj) g
    have e : putN (putN acc ks (isort (getN acc ks))) (k :: ks) (ins (acc.getD k 0) (isort (getN acc ks))) = putN acc (k :: ks) (ins (acc.getD k 0) (isort (getN acc ks))) := by
      refine put_over (putN_len _ _ _) ?_ fun i hi => putN_off fun m => hi (List.mem_cons_of_mem _ m)
      rw [(ins_perm _ _).length_eq, List.length_cons, List.length_cons, ll]
    rw [e] at b
    exact ih.trans b
end KS
namespace KS
open PySem PySem.Spec PyProof.Rows L2
def up (ks : List Nat) : List Int := ks.map fun (k : Nat) => (k : Int)
theorem putZ_up : ∀ (ks : List Nat) (ys acc : List Int), putZ acc ((up ks).zip ys) = putN acc ks ys
  | [], ys, acc => by rw [putN_nil]; rfl
  | k :: ks, [], acc => by rw [putN_none]; rfl
  | k :: ks, y :: ys, acc => by
    rw [putN_cons, ← putZ_up ks ys]
    rfl
theorem get_up (vs : List Int) (ks : List Nat) : (up ks).map (getI vs) = getN vs ks := by
  unfold up getN
  rw [List.map_map]
  rfl
def srtN (vs acc : List Int) (ks : List Nat) : List Int := putN acc ks (sortI (getN vs ks))
theorem srtL_up (vs acc : List Int) (ks : List Nat) : srtL vs acc (up ks) = srtN vs acc ks := by
  unfold srtL srtN
  rw [putZ_up, get_up]
theorem srtTo_up (vs : List Int) : ∀ (ls : List (List Nat)) (acc : List Int), (ls.map up).foldl (srtL vs) acc = ls.foldl (srtN vs) acc
  | [], _ => rfl
  | ks :: ls, acc => by
    show (ls.map up).foldl (srtL vs) (srtL vs acc (up ks)) = ls.foldl (srtN vs) (srtN vs acc ks)
    rw [srtL_up, srtTo_up vs ls]
def idxsN (b : Bool) (cs : List Cell) (i : Nat) (r : Int) : List Nat := (List.range i).filter fun j => decide ((cs[j]?).map (pick b) = some r)
theorem idxs_up (b : Bool) (cs : List Cell) (i : Nat) (r : Int) : idxs b cs i r = up (idxsN b cs i r) := rfl
def lnsN (b : Bool) (cs : List Cell) : List (List Nat) := ((List.range 8).map fun (r : Nat) => idxsN b cs cs.length (r : Int)).filter fun l => decide (l ≠ [])
theorem filter_up : ∀ ls : List (List Nat), (ls.map up).filter (fun l => decide (l ≠ [])) = (ls.filter fun l => decide (l ≠ [])).map up
  | [] => rfl
  | [] :: ls => filter_up ls
  | (k :: ks) :: ls => by
    show up (k :: ks) :: (ls.map up).filter _ = up (k :: ks) :: (ls.filter _).map up
    rw [filter_up ls]
theorem lns_up (b : Bool) (cs : List Cell) : lnsOf b cs = (lnsN b cs).map up := by
  unfold lnsOf lnsN
  rw [← filter_up, List.map_map]
  rfl
structure Parts (n : Nat) (ls : List (List Nat)) : Prop where
  asc : ∀ ks ∈ ls, ks.Pairwise (· < ·)
  bd : ∀ ks ∈ ls, ∀ k ∈ ks, k < n
  apart : ls.Pairwise fun ks ms => ∀ k ∈ ks, k ∉ ms
theorem srtN_len (vs acc : List Int) (ks : List Nat) : (srtN vs acc ks).length = acc.length := putN_len _ _ _
theorem getN_congr {a b : List Int} {ks : List Nat} (h : ∀ k ∈ ks, a[k]? = b[k]?) : getN a ks = getN b ks := by
  refine List.map_congr_left fun k hk => ?_
  show a.getD k 0 = b.getD k 0
  rw [List.getD_eq_getElem?_getD, List.getD_eq_getElem?_getD, h k hk]
theorem fold_off {vs : List Int} {i : Nat} : ∀ {ls : List (List Nat)} {acc : List Int}, (∀ ks ∈ ls, i ∉ ks) → (ls.foldl (srtN vs) acc)[i]? = acc[i]?
  | [], _, _ => rfl
  | ks :: ls, acc, h => by
    show (ls.foldl (srtN vs) (srtN vs acc ks))[i]? = _
    rw [fold_off fun ms hm => h ms (List.mem_cons_of_mem _ hm)]
    exact putN_off (h ks List.mem_cons_self)
theorem fold_dn {vs : List Int} : ∀ {ls : List (List Nat)} {acc : List Int}, Parts acc.length ls → (∀ ks ∈ ls, ∀ k ∈ ks, acc[k]? = vs[k]?) → Dn acc (ls.foldl (srtN vs) acc)
  | [], acc, _, _ => .inl rfl
  | ks :: ls, acc, P, h => by
    have pc := List.pairwise_cons.mp P.apart
    have e : getN vs ks = getN acc ks := getN_congr fun k hk => (h ks List.mem_cons_self k hk).symm
    have d : Dn acc (srtN vs acc ks) := by
      unfold srtN
      rw [e, ← isort_eq]
      exact sort_dn (P.asc ks List.mem_cons_self) (P.bd ks List.mem_cons_self)
    refine d.trans (fold_dn (ls := ls) ⟨fun ms hm => P.asc ms (List.mem_cons_of_mem _ hm), fun ms hm k hk => ?_, pc.2⟩ fun ms hm k hk => ?_)
    · rw [srtN_len]
      exact P.bd ms (List.mem_cons_of_mem _ hm) k hk
    · have nk : k ∉ ks := fun m => pc.1 ms hm k m hk
      rw [show (srtN vs acc ks)[k]? = acc[k]? from putN_off nk]
      exact h ms (List.mem_cons_of_mem _ hm) k hk
theorem fold_get {vs : List Int} : ∀ {ls : List (List Nat)} {acc : List Int}, Parts acc.length ls → ∀ ks ∈ ls, getN (ls.foldl (srtN vs) acc) ks = sortI (getN vs ks)
  | [], _, _, _, m => by cases m
  | ms :: ls, acc, P, ks, m => by
    have pc := List.pairwise_cons.mp P.apart
    have P' : Parts (srtN vs acc ms).length ls := ⟨fun z hm => P.asc z (List.mem_cons_of_mem _ hm), fun z hm k hk => by rw [srtN_len]; exact P.bd z (List.mem_cons_of_mem _ hm) k hk, pc.2⟩
    rcases List.mem_cons.mp m with rfl | m
    · show getN (ls.foldl (srtN vs) (srtN vs acc ks)) ks = _
      rw [getN_congr (b := srtN vs acc ks) fun k hk => fold_off fun z hz => pc.1 z hz k hk]
      refine get_put ((P.asc ks List.mem_cons_self).imp fun h => Nat.ne_of_lt h) ?_ (P.bd ks List.mem_cons_self)
      rw [sortI_len]
      unfold getN
      rw [List.length_map]
    · exact fold_get P' ks m
theorem fold_fix {vs : List Int} : ∀ {ls : List (List Nat)}, (∀ ks ∈ ls, ∀ k ∈ ks, k < vs.length) → (∀ ks ∈ ls, getN vs ks = sortI (getN vs ks)) → ls.foldl (srtN vs) vs = vs
  | [], _, _ => rfl
  | ks :: ls, hb, h => by
    have e : srtN vs vs ks = vs := by
      unfold srtN
      rw [← h ks List.mem_cons_self]
      exact put_same (hb ks List.mem_cons_self)
    show ls.foldl (srtN vs) (srtN vs vs ks) = vs
    rw [e]
    exact fold_fix (fun z hz => hb z (List.mem_cons_of_mem _ hz)) fun z hz => h z (List.mem_cons_of_mem _ hz)
theorem idxsN_mem {b : Bool} {cs : List Cell} {i k : Nat} {r : Int} (h : k ∈ idxsN b cs i r) : k < i ∧ (cs[k]?).map (pick b) = some r := by
  have := List.mem_filter.mp h
  exact ⟨List.mem_range.mp this.1, of_decide_eq_true this.2⟩
theorem lns_parts (b : Bool) (cs : List Cell) : Parts cs.length (lnsN b cs) := by
  refine ⟨fun ks h => ?_, fun ks h k hk => ?_, ?_⟩
  · obtain ⟨r, _, rfl⟩ := List.mem_map.mp (List.mem_filter.mp h).1
    exact List.pairwise_lt_range.filter _
  · obtain ⟨r, _, rfl⟩ := List.mem_map.mp (List.mem_filter.mp h).1
    exact (idxsN_mem hk).1
  · refine List.Pairwise.filter _ (List.pairwise_map.2 (List.pairwise_lt_range.imp ?_))
    intro r q hrq k h1 h2
    have a := (idxsN_mem h1).2
    rw [(idxsN_mem h2).2] at a
    injection a with a
    omega
theorem srt_up (b : Bool) (cs : List Cell) (vs : List Int) : srt b cs vs = (lnsN b cs).foldl (srtN vs) vs := by
  unfold srt srtTo
  rw [lns_up, srtTo_up]
/-- a sort leaves all as it is, or takes inversions away -/
theorem srt_dn {b : Bool} {cs : List Cell} {vs : List Int} (h : vs.length = cs.length) : Dn vs (srt b cs vs) := by
  rw [srt_up]
  exact fold_dn (by rw [h]; exact lns_parts b cs) fun _ _ _ _ => rfl
theorem upL_up (vs : List Int) (ks : List Nat) : upL vs (up ks) = decide (getN vs ks = sortI (getN vs ks)) := by
  unfold upL
  rw [get_up]
theorem rises_iff {b : Bool} {cs : List Cell} {vs : List Int} : rises b cs vs = true ↔ ∀ ks ∈ lnsN b cs, getN vs ks = sortI (getN vs ks) := by
  unfold rises
  rw [lns_up, List.all_map, List.all_eq_true]
  constructor
  · intro h ks hk
    have := h ks hk
    exact of_decide_eq_true ((upL_up vs ks).symm.trans this)
  · intro h ks hk
    exact (upL_up vs ks).trans (decide_eq_true (h ks hk))
theorem sortI_fix (l : List Int) : sortI (sortI l) = sortI l := (sortI_eq (List.Perm.refl _) (sortI_asc l)).symm
/-- behind a sort the lines of the kind ascend -/
theorem srt_rises {b : Bool} {cs : List Cell} {vs : List Int} (h : vs.length = cs.length) : rises b cs (srt b cs vs) = true := by
  rw [rises_iff]
  intro ks hk
  have g : getN (srt b cs vs) ks = sortI (getN vs ks) := by
    rw [srt_up]
    exact fold_get (by rw [h]; exact lns_parts b cs) ks hk
  rw [g, sortI_fix]
/-- lines that ascend are left alone -/
theorem rises_fix {b : Bool} {cs : List Cell} {vs : List Int} (h : vs.length = cs.length) (r : rises b cs vs = true) : srt b cs vs = vs := by
  rw [srt_up]
  exact fold_fix (fun ks hk k hkk => by rw [h]; exact (lns_parts b cs).bd ks hk k hkk) (rises_iff.mp r)
/-- lines that do not ascend lose inversions -/
theorem srt_lt {b : Bool} {cs : List Cell} {vs : List Int} (h : vs.length = cs.length) (r : rises b cs vs = false) : inv (srt b cs vs) < inv vs := by
  rcases srt_dn (b := b) h with e | e
  · have := srt_rises (b := b) h
    rw [e, r] at this
    cases this
  · exact e
end KS
namespace KS
open PySem PySem.Spec PyProof.Rows L2
/-- kinds in turns, this one first -/
def turns : Bool → Nat → List Bool
  | _, 0 => []
  | b, n + 1 => b :: turns (!b) n
def kindAt (b : Bool) (n : Nat) : Bool := if n % 2 = 0 then b else !b
theorem turns_succ : ∀ (b : Bool) (n : Nat), turns b (n + 1) = turns b n ++ [kindAt b n]
  | b, 0 => rfl
  | b, n + 1 => by
    show b :: turns (!b) (n + 1) = b :: (turns (!b) n ++ [kindAt b (n + 1)])
    rw [turns_succ (!b) n]
    have e : kindAt (!b) n = kindAt b (n + 1) := by
      unfold kindAt
      rcases Nat.mod_two_eq_zero_or_one n with h | h
      · rw [if_pos h, if_neg (by omega)]
      · rw [if_neg (by omega), if_pos (by omega)]
        simp
    rw [e]
theorem kindAt_succ (b : Bool) (n : Nat) : kindAt b (n + 1) = !kindAt b n := by
  unfold kindAt
  rcases Nat.mod_two_eq_zero_or_one n with h | h
  · rw [if_pos h, if_neg (show ¬ (n + 1) % 2 = 0 by omega)]
  · rw [if_pos (show (n + 1) % 2 = 0 by omega), if_neg (show ¬ n % 2 = 0 by omega)]
    simp
theorem turns_len : ∀ (b : Bool) (n : Nat), (turns b n).length = n
  | _, 0 => rfl
  | b, n + 1 => by
    show (turns (!b) n).length + 1 = n + 1
    rw [turns_len (!b) n]
def settled (cs : List Cell) (vs : List Int) : Bool := rises false cs vs && rises true cs vs
def stat (cs : List Cell) (b : Bool) (vs : List Int) (n : Nat) : List Int := aft cs (turns b n) vs
theorem stat_succ (cs : List Cell) (b : Bool) (vs : List Int) (n : Nat) : stat cs b vs (n + 1) = srt (kindAt b n) cs (stat cs b vs n) := by
  unfold stat
  rw [turns_succ, aft_more]
theorem stat_len (cs : List Cell) (b : Bool) (vs : List Int) (n : Nat) : (stat cs b vs n).length = vs.length := aft_len _ _ _
/-- the least number of sorts in turns behind which both kinds ascend, and the values then -/
structure RestIs (cs : List Cell) (b : Bool) (vs : List Int) (n : Nat) : Prop where
  end_ : settled cs (stat cs b vs n) = true
  least : ∀ m, m < n → settled cs (stat cs b vs m) = false
theorem RestIs.uniq {cs : List Cell} {b : Bool} {vs : List Int} {n m : Nat} (h : RestIs cs b vs n) (k : RestIs cs b vs m) : n = m := by
  rcases Nat.lt_trichotomy n m with c | c | c
  · have := k.least n c
    rw [h.end_] at this
    cases this
  · exact c
  · have := h.least m c
    rw [k.end_] at this
    cases this
theorem settled_not {cs : List Cell} {vs : List Int} {k : Bool} (h : settled cs vs = false) (r : rises k cs vs = true) : rises (!k) cs vs = false := by
  unfold settled at h
  cases k
  · rw [r] at h
    simpa using h
  · rw [r] at h
    simpa using h
/-- a variant of the turns -/
def fuel (cs : List Cell) (k : Bool) (vs : List Int) : Nat := 2 * inv vs + if rises k cs vs = true then 1 else 0
theorem fuel_lt {cs : List Cell} {k : Bool} {vs : List Int} (hl : vs.length = cs.length) (h : settled cs vs = false) : fuel cs (!k) (srt k cs vs) < fuel cs k vs := by
  unfold fuel
  cases r : rises k cs vs with
  | true =>
    rw [rises_fix hl r, if_pos rfl, if_neg (by rw [settled_not h r]; decide)]
    omega
  | false =>
    have := srt_lt hl r
    rw [if_neg (show ¬ (false = true) by decide)]
    split <;> omega
/-- at most 277 sorts settle any table of 24 cells -/
theorem stat_inv {cs : List Cell} {b : Bool} {vs : List Int} {n : Nat} (hl : vs.length = cs.length) (h : RestIs cs b vs n) : ∀ m, m + 1 ≤ n → inv (stat cs b vs (m + 1)) + m ≤ inv (stat cs b vs 1)
  | 0, _ => Nat.le_refl _
  | m + 1, hm => by
    have ih := stat_inv hl h m (by omega)
    have ns := h.least (m + 1) (by omega)
    have ln : (stat cs b vs m).length = cs.length := by rw [stat_len, hl]
    have r : rises (kindAt b m) cs (stat cs b vs (m + 1)) = true := by
      rw [stat_succ]
      exact srt_rises ln
    have r2 := settled_not ns r
    rw [← kindAt_succ] at r2
    have lt := srt_lt (by rw [stat_len, hl]) r2
    rw [← stat_succ] at lt
    omega
theorem rest_le {cs : List Cell} {b : Bool} {vs : List Int} {n : Nat} (hl : vs.length = cs.length) (hc : cs.length ≤ 24) (h : RestIs cs b vs n) : n ≤ 277 := by
  cases n with
  | zero => omega
  | succ m =>
    have i := stat_inv hl h m (Nat.le_refl _)
    have le := inv_le (stat cs b vs 1)
    rw [stat_len, hl] at le
    have : cs.length * (cs.length - 1) ≤ 24 * 23 := Nat.mul_le_mul hc (by omega)
    omega
end KS
namespace KS
open PySem PySem.Spec PyProof.Rows L2
/-- so many different whole numbers from 1 to 9999 -/
structure Vals9 (n : Nat) (fs : List Int) : Prop where
  len : fs.length = n
  nd : fs.Nodup
  bd : ∀ v ∈ fs, 1 ≤ v ∧ v ≤ 9999
def spValues (K : PySem.W.Frag) : Sp := fun vs H Q _ => ∃ (p : Addr) (n : Nat), vs = [.ref p, .int n] ∧ PoolO (H p) ∧ 1 ≤ n ∧ n ≤ 24 ∧
  ∀ H' t fs, KeepX p H H' → PoolO (H' p) → SqT K H' t (fs.map V.int) → Vals9 n fs → H t = none → Q (.ref t) H'
theorem Vals9.perm {n : Nat} {as bs : List Int} (h : Vals9 n as) (p : as.Perm bs) : Vals9 n bs := ⟨p.length_eq ▸ h.len, p.nodup_iff.mp h.nd, fun v m => h.bd v (p.mem_iff.mpr m)⟩
theorem map_eraseIdx {f : Int → V} : ∀ (l : List Int) (k : Nat), (l.map f).eraseIdx k = (l.eraseIdx k).map f
  | [], _ => rfl
  | _ :: _, 0 => rfl
  | x :: l, k + 1 => by
    show f x :: (l.map f).eraseIdx k = f x :: (l.eraseIdx k).map f
    rw [map_eraseIdx l k]
theorem erase_perm : ∀ {l : List Int} {k : Nat} (h : k < l.length), l.Perm (l[k] :: l.eraseIdx k)
  | _ :: _, 0, _ => List.Perm.refl _
  | x :: l, k + 1, h => ((erase_perm (l := l) (k := k) (Nat.lt_of_succ_lt_succ h)).cons x).trans (List.Perm.swap _ _ _)
theorem pick_perm {fs l : List Int} {k : Nat} (h : k < l.length) : (fs ++ l).Perm ((fs ++ [l[k]]) ++ l.eraseIdx k) := by
  rw [List.append_assoc]
  exact (erase_perm h).append_left fs
def rgI (a b : Int) : List Int := (List.range (b - a).toNat).map fun (i : Nat) => a + (i : Int)
theorem rgV_ints (a b : Int) : rgV a b = (rgI a b).map V.int := by
  unfold rgV rgI
  rw [List.map_map]
  rfl
theorem rgI_len (a b : Int) : (rgI a b).length = (b - a).toNat := by
  unfold rgI
  rw [List.length_map, List.length_range]
theorem rgI_nd (a b : Int) : (rgI a b).Nodup := by
  unfold rgI
  refine List.pairwise_map.2 (List.nodup_range.imp ?_)
  intro x y h e
  exact h (by omega)
theorem rgI_mem {a b v : Int} (h : v ∈ rgI a b) : a ≤ v ∧ v < b := by
  unfold rgI at h
  obtain ⟨i, hi, rfl⟩ := List.mem_map.mp h
  have := List.mem_range.mp hi
  omega
theorem vals9_low {n : Nat} (n1 : n ≤ 24) : Vals9 n (rgI 1 ((n : Int) + 1)) := by
  refine ⟨by rw [rgI_len]; omega, rgI_nd _ _, fun v h => ?_⟩
  have := rgI_mem h
  omega
theorem vals9_high {n : Nat} (n1 : n ≤ 24) : Vals9 n (rgI (10000 - (n : Int)) 10000) := by
  refine ⟨by rw [rgI_len]; omega, rgI_nd _ _, fun v h => ?_⟩
  have := rgI_mem h
  omega
theorem vals9_step {n : Nat} {st : Int} (n0 : 1 ≤ n) (s0 : 1 ≤ st) (s1 : st ≤ 9999 / (n : Int)) : Vals9 n ((rgI 1 ((n : Int) + 1)).map fun v => st * v) := by
  refine ⟨by rw [List.length_map, rgI_len]; omega, List.pairwise_map.2 ((rgI_nd _ _).imp ?_), fun v h => ?_⟩
  · intro x y h e
    exact h (Int.eq_of_mul_eq_mul_left (by omega) e)
  · obtain ⟨u, hu, rfl⟩ := List.mem_map.mp h
    have b := rgI_mem hu
    have h1 : st * (n : Int) ≤ 9999 := (Int.le_ediv_iff_mul_le (by omega)).mp s1
    have h2 : st * u ≤ st * (n : Int) := Int.mul_le_mul_of_nonneg_left (by omega) (by omega)
    have h3 : 1 * 1 ≤ st * u := Int.mul_le_mul s0 b.1 (by omega) (by omega)
    omega
def VSt (p : Addr) (n : Nat) (mode : Int) (H : Hp) (σ : L2.St) (H' : Hp) : Prop := ∃ (e : Addr) (y4 : Option V) (ls : List Int), σ = [some (.ref p), some (.int n), some (.int mode), some (.ref e), y4, none, none, none] ∧
  H e = none ∧ e ≠ p ∧ H' e = some (.lst (ls.map V.int)) ∧ Vals9 n ls ∧ KeepX p H H' ∧ PoolO (H' p)
theorem KeepX.free {p q : Addr} {H H' : Hp} (k : KeepX p H H') (po : PoolO (H' p)) (n : H' q = none) : H q = none := by
  cases z : H q with
  | none => rfl
  | some o =>
    have := k q o (Ne.symm (po.ne n)) z
    rw [n] at this
    cases this
theorem vals_ifs {K : PySem.W.Frag} {p e : Addr} {n : Nat} {mode : Int} {H H2 : Hp} {tr : TS} {D : Ends} (n0 : 1 ≤ n) (n1 : n ≤ 24) (he0 : H e = none) (hep : e ≠ p) (he : H2 e = some (.lst (rgV 1 ((n : Int) + 1)))) (kx : KeepX p H H2) (po : PoolO (H2 p))
    (k : ∀ σ' H', VSt p n mode H σ' H' → tr D σ' H') :
    tSeq (tIfS (tTest (tOp rEq (tVar 2) (tC (V.int 1)))) (tAsg (tLstRg (tRg2 (tOp (rI0 fun i j => V.int (i - j)) (tC (V.int 10000)) (tVar 1)) (tC (V.int 10000)))) (gName 3)) tNext)
      (tSeq (tIfS (tTest (tOp (rI0 fun i j => V.bl (decide (i > j))) (tVar 2) (tC (V.int 1))))
        (tSeq (tAsg (tOp (rI0 fun i j => V.int (i + j)) (tC (V.int 1)) (tCall spDraw [] E0 (tCons (tVar 0) (tCons (tOp (rI CDiv fun i j => V.int (i / j)) (tC (V.int 9999)) (tVar 1)) tNil)))) (gName 4))
          (tAsg (tLc (iList K (tVar 3)) (gName 7) tYes (tOp (rI CMul fun i j => V.int (i * j)) (tVar 4) (tVar 7)) [7]) (gName 3))) tNext) tr) D
      [some (.ref p), some (.int n), some (.int mode), some (.ref e), none, none, none, none] H2 := by
  refine ⟨_, rfl, rfl, _, rfl, ite2 (fun c => ?_) (fun c => ?_)⟩
  · have cm : mode = 1 := V.int.inj (of_decide_eq_true c)
    subst cm
    refine ⟨_, rfl, _, _, rfl, rfl, _, _, rfl, rfl, ⟨by omega, by omega, by omega, by omega, by omega⟩, fun g ng => ?_⟩
    have sg := same_new (o := .lst (rgV (10000 - (n : Int)) 10000)) ng
    refine ⟨_, rfl, _, _, rfl, rfl, _, rfl, ite2 (fun c => ?_) (fun c => ?_)⟩
    · exact absurd (of_decide_eq_true c) (by decide)
    · refine k _ _ ⟨g, none, rgI (10000 - (n : Int)) 10000, rfl, kx.free po ng, Ne.symm (po.ne ng), ?_, vals9_high n1, kx.trans (.of_same sg), po.same sg⟩
      rw [upd_same, rgV_ints]
  · refine ⟨_, rfl, _, _, rfl, rfl, _, rfl, ite2 (fun c => ?_) (fun c => ?_)⟩
    · have qd : 1 ≤ (9999 : Int) / (n : Int) := (Int.le_ediv_iff_mul_le (by omega)).mpr (by omega)
      have qu : (9999 : Int) / (n : Int) ≤ 9999 := Int.ediv_le_self _ (by decide)
      refine ⟨_, rfl, _, rfl, _, _, rfl, rfl, ⟨by omega, by omega⟩, p, _, rfl, po, by omega, by omega, fun H3 r k3 po3 r0 r1 => ?_⟩
      refine ⟨_, _, rfl, rfl, ?_⟩
      have he3 := k3 _ _ hep he
      refine ⟨_, rfl, e, rfl, ⟨_, SqL.of he3⟩, fun D0 nD => ?_⟩
      have neD : e ≠ D0 := ne_of_none he3 nD
      refine lc_list (K := K) (a := e) (xs := rgV 1 ((n : Int) + 1)) (fun j G => G = upd H3 D0 (.lst (((rgI 1 ((n : Int) + 1)).take j).map fun v => V.int ((1 + r) * v)))) ?_ ?_ ?_ ?_
      · rfl
      · rintro j G _ rfl
        exact SqL.of (by rw [upd_ne neD]; exact he3)
      · rintro j x G hj rfl
        rw [rgV_ints, List.getElem?_map] at hj
        cases ev : (rgI 1 ((n : Int) + 1))[j]? with
        | none =>
          rw [ev] at hj
          cases hj
        | some v =>
          rw [ev] at hj
          cases hj
          have hv := rgI_mem (List.mem_of_getElem? ev)
          refine ⟨rfl, _, rfl, _, rfl, _, _, rfl, rfl, .inl ⟨by omega, by omega⟩, _, upd_same, ?_, ?_⟩
          · rw [List.length_map, List.length_take]
            refine small64 ?_
            rw [rgI_len]
            omega
          · rw [upd_upd, List.take_add_one, ev, List.map_append]
            rfl
      · rintro G rfl
        rw [rgV_length, List.take_of_length_le (by rw [rgI_len]; omega)]
        have sD := same_new (o := .lst ((rgI 1 ((n : Int) + 1)).map fun v => V.int ((1 + r) * v))) nD
        refine k _ _ ⟨D0, _, (rgI 1 ((n : Int) + 1)).map fun v => (1 + r) * v, rfl, (kx.trans k3).free po3 nD, Ne.symm (po3.ne nD), ?_, vals9_step n0 (by omega) (by omega), (kx.trans k3).trans (.of_same sD), po3.same sD⟩
        rw [upd_same, List.map_map]
        rfl
    · refine k _ _ ⟨e, none, rgI 1 ((n : Int) + 1), rfl, he0, hep, ?_, vals9_low n1, kx, po⟩
      rw [← rgV_ints]
      exact he
end KS
namespace KS
open PySem PySem.Spec PyProof.Rows L2
/-! ### small data can be shown -/
theorem small_int {x : Int} (h0 : 0 ≤ x) (h1 : x < 10000) : PyData.leavesShort 8 (.int x) = true ∧ PyData.showable (.int x) = true ∧ PyData.weight (.int x) ≤ 14 := by
  obtain ⟨n, rfl⟩ := Int.eq_ofNat_of_zero_le h0
  have hn : n < 10000 := by omega
  have hlog : n.log2 < 14 := by
    rcases Nat.eq_zero_or_pos n with z | z
    · subst z
      decide
    · exact (Nat.log2_lt (by omega)).mpr (by omega)
  refine ⟨?_, ?_, ?_⟩
  · simp only [PyData.leavesShort]
    exact decide_eq_true (by
      simp only [PyData.shown]
      exact toString_length_le (k := 8) (by omega) (by decide) (by show (n : Int) < 10 ^ 8; omega))
  · simp only [PyData.showable]
    exact decide_eq_true (by show n.log2 < 1920; omega)
  · simp only [PyData.weight]
    split
    · omega
    · show n.log2 + 1 ≤ 14
      omega
/-- what repr asks of its data -/
structure Shows (d : PyData) (n : Nat) : Prop where
  short : d.leavesShort 8 = true
  show_ : d.showable = true
  nod : d.hasDict = false
  wt : d.weight ≤ n
structure ShowsAll (ds : List PyData) (n : Nat) : Prop where
  short : PyData.leavesShortAll 8 ds = true
  show_ : PyData.showableAll ds = true
  nod : PyData.hasDictAll ds = false
  wt : PyData.weightAll ds ≤ (n + 1) * ds.length
theorem showsAll_of {n : Nat} : ∀ {ds : List PyData}, (∀ d ∈ ds, Shows d n) → ShowsAll ds n
  | [], _ => ⟨by simp only [PyData.leavesShortAll], by simp only [PyData.showableAll], by simp only [PyData.hasDictAll], by simp [PyData.weightAll]⟩
  | d :: ds, h => by
    have h1 := h d List.mem_cons_self
    have h2 := showsAll_of fun x hx => h x (List.mem_cons_of_mem _ hx)
    refine ⟨?_, ?_, ?_, ?_⟩
    · simp only [PyData.leavesShortAll, h1.short, h2.short, Bool.and_self]
    · simp only [PyData.showableAll, h1.show_, h2.show_, Bool.and_self]
    · simp only [PyData.hasDictAll, h1.nod, h2.nod, Bool.or_self]
    · simp only [PyData.weightAll, List.length_cons]
      have a := h1.wt
      have b := h2.wt
      rw [Nat.mul_add, Nat.mul_one]
      omega
theorem shows_tuple {n m : Nat} {ds : List PyData} (h : ShowsAll ds n) (hm : (n + 1) * ds.length ≤ m) : Shows (.tuple ds) m := by
  refine ⟨?_, ?_, ?_, ?_⟩
  · simp only [PyData.leavesShort, h.short]
  · simp only [PyData.showable, h.show_]
  · simp only [PyData.hasDict, h.nod]
  · simp only [PyData.weight]
    exact Nat.le_trans h.wt hm
theorem shows_int {x : Int} (h0 : 0 ≤ x) (h1 : x < 10000) : Shows (.int x) 14 := by
  obtain ⟨a, b, c⟩ := small_int h0 h1
  exact ⟨a, b, by simp only [PyData.hasDict], c⟩
theorem Shows.len {d : PyData} {n : Nat} (h : Shows d n) (hn : n ≤ 1048576) : d.shown.length ≤ sizeLine :=
  PyData.shown_fits (B := 8) (by decide) (by decide) h.short (Nat.le_trans h.wt (by
    show n ≤ 2 ^ 20
    have : (2 : Nat) ^ 20 = 1048576 := by decide
    omega))
theorem shows_line {l : List Int} (h : ∀ x ∈ l, 0 ≤ x ∧ x < 10000) (hl : l.length ≤ 64) : Shows (lineD l) 960 := by
  refine shows_tuple (n := 14) (showsAll_of fun d hd => ?_) ?_
  · obtain ⟨x, hx, rfl⟩ := List.mem_map.mp hd
    exact shows_int (h x hx).1 (h x hx).2
  · rw [List.length_map]
    omega
theorem shows_lines {ls : List (List Int)} (h : ∀ l ∈ ls, (∀ x ∈ l, 0 ≤ x ∧ x < 10000) ∧ l.length ≤ 64) (hl : ls.length ≤ 64) : Shows (linesD ls) 61504 := by
  refine shows_tuple (n := 960) (showsAll_of fun d hd => ?_) ?_
  · obtain ⟨l, hx, rfl⟩ := List.mem_map.mp hd
    exact shows_line (h l hx).1 (h l hx).2
  · rw [List.length_map]
    omega
theorem depth_line (l : List Int) : (lineD l).depth = 1 := by
  simp only [PyData.depth, (ints_lay l).2]
theorem depth_lines : ∀ ls : List (List Int), PyData.depthAll (ls.map lineD) ≤ 1
  | [] => by simp [PyData.depthAll]
  | l :: ls => by
    have a := depth_lines ls
    have b := depth_line l
    simp only [List.map_cons, PyData.depthAll]
    omega
theorem lns_small {b : Bool} {cs : List Cell} (hl : cs.length ≤ 24) : Shows (linesD (lnsOf b cs)) 61504 ∧ (linesD (lnsOf b cs)).depth ≤ 64 := by
  refine ⟨shows_lines (fun l h => ?_) ?_, ?_⟩
  · unfold lnsOf at h
    obtain ⟨r, _, rfl⟩ := List.mem_map.mp (List.mem_filter.mp h).1
    refine ⟨fun x hx => ?_, ?_⟩
    · have := idxs_mem hx
      omega
    · have := idxs_len b cs cs.length (r : Int)
      omega
  · have : (lnsOf b cs).length ≤ 8 := lnsTo_len b cs 8
    omega
  · have := depth_lines (lnsOf b cs)
    simp only [PyData.depth]
    omega
/-! ### sorted cells -/
def keyOf (H : Hp) : V → Int × Int
  | .ref t => match H t with
    | some (.tup [.int i, .int j]) => (i, j)
    | _ => (0, 0)
  | _ => (0, 0)
theorem keyOf_at {H : Hp} {t : Addr} {i j : Int} (h : H t = some (.tup [.int i, .int j])) : keyOf H (.ref t) = (i, j) := by
  show (match H t with
    | some (.tup [.int i, .int j]) => ((i, j) : Int × Int)
    | _ => (0, 0)) = (i, j)
  rw [h]
theorem nodup_of_asc {cs : List Cell} (h : cs.Pairwise lt2) : cs.Nodup := by
  rw [List.nodup_iff_pairwise_ne]
  refine h.imp fun {a b} q e => ?_
  subst e
  rcases q with q | q <;> omega
/-- new cells, in a list -/
def NewCells (H : Hp) : List V → List Cell → Prop := Paired fun x c => ∃ t, x = .ref t ∧ H t = some (.tup [.int c.1, .int c.2])
theorem newCells_mono {H H' : Hp} (k : ∀ t ys, H t = some (.tup ys) → H' t = some (.tup ys)) {xs : List V} {cs : List Cell} (h : NewCells H xs cs) : NewCells H' xs cs :=
  Paired.mono (fun _ _ ⟨t, e, q⟩ => ⟨t, e, k _ _ q⟩) h
theorem newCells_key {H : Hp} : ∀ {xs : List V} {cs : List Cell}, NewCells H xs cs → xs.map (keyOf H) = cs
  | _, _, .nil => rfl
  | _, _, .cons ⟨t, e, h⟩ r => by
    subst e
    rw [List.map_cons, keyOf_at h, newCells_key r]
theorem newCells_mem {H : Hp} : ∀ {xs : List V} {cs : List Cell}, NewCells H xs cs → ∀ x ∈ xs, ∃ t, x = .ref t ∧ H t = some (.tup [.int (keyOf H x).1, .int (keyOf H x).2])
  | _, _, .nil, _, h => nomatch h
  | _, _, .cons ⟨t, e, h⟩ r, x, hx => by
    rcases List.mem_cons.mp hx with z | z
    · subst z
      subst e
      exact ⟨t, rfl, by rw [keyOf_at h]; exact h⟩
    · exact newCells_mem r x z
theorem cells_of_mem {K : PySem.W.Frag} {H : Hp} : ∀ {ys : List V}, (∀ x ∈ ys, ∃ t, x = .ref t ∧ H t = some (.tup [.int (keyOf H x).1, .int (keyOf H x).2])) → CellsAt K H ys (ys.map (keyOf H))
  | [], _ => .nil
  | y :: ys, h => by
    obtain ⟨t, e, q⟩ := h y List.mem_cons_self
    exact .cons ⟨t, e, SqT.of q⟩ (cells_of_mem fun x hx => h x (List.mem_cons_of_mem _ hx))
/-- sorted of new cells, all different: they ascend -/
theorem sorted_cells {K : PySem.W.Frag} {H : Hp} {xs ys : List V} {cs : List Cell} (h : NewCells H xs cs) (nd : cs.Nodup) (hs : SrtO.Srtd (ltP (keyOf H)) ys) (hp : ys.Perm xs) :
    CellsAt K H ys (ys.map (keyOf H)) ∧ (ys.map (keyOf H)).Perm cs ∧ (ys.map (keyOf H)).Pairwise lt2 := by
  have p1 : (ys.map (keyOf H)).Perm cs := by
    rw [← newCells_key h]
    exact hp.map _
  refine ⟨cells_of_mem fun x hx => newCells_mem h x (hp.mem_iff.mp hx), p1, ?_⟩
  have n1 : (ys.map (keyOf H)).Nodup := p1.nodup_iff.mpr nd
  have s1 : (ys.map (keyOf H)).Pairwise fun a b => SrtO.lexB b a = false := by
    rw [List.pairwise_map]
    exact hs
  rw [List.nodup_iff_pairwise_ne] at n1
  refine (s1.and n1).imp fun {a b} q => ?_
  obtain ⟨q1, q2⟩ := q
  have q3 : ¬ (b.1 < a.1 ∨ (b.1 = a.1 ∧ b.2 < a.2)) := fun z => by
    rw [SrtO.lexB_iff.mpr z] at q1
    cases q1
  by_cases e1 : a.1 < b.1
  · exact .inl e1
  · by_cases e2 : a.1 = b.1
    · refine .inr ⟨e2, ?_⟩
      by_cases e3 : a.2 = b.2
      · exact absurd (Prod.ext e2 e3) q2
      · have : ¬ b.2 < a.2 := fun z => q3 (.inr ⟨e2.symm, z⟩)
        omega
    · exact absurd (.inl (by omega)) q3
def mir (c : Cell) : Cell := (c.1, 7 - c.2)
theorem nodup_mir {cs : List Cell} (h : cs.Nodup) : (cs.map mir).Nodup := by
  rw [List.nodup_iff_pairwise_ne] at h ⊢
  rw [List.pairwise_map]
  refine h.imp fun {a b} q e => q ?_
  have e0 : ((a.1, 7 - a.2) : Int × Int) = (b.1, 7 - b.2) := e
  injection e0 with e1 e2
  exact Prod.ext e1 (by omega)
theorem good_mir {cs ds : List Cell} (g : Good cs) (p : ds.Perm (cs.map mir)) (a : ds.Pairwise lt2) : Good ds ∧ ds.length = cs.length := by
  have hl : ds.length = cs.length := by rw [p.length_eq, List.length_map]
  refine ⟨⟨a, fun d hd => ?_, fun z => ?_⟩, hl⟩
  · obtain ⟨c, hc, rfl⟩ := List.mem_map.mp (p.mem_iff.mp hd)
    have := g.grid c hc
    unfold InGrid at this ⊢
    show 0 ≤ c.1 ∧ c.1 ≤ 7 ∧ 0 ≤ 7 - c.2 ∧ 7 - c.2 ≤ 7
    omega
  · rw [z] at hl
    exact g.ne (List.eq_nil_of_length_eq_zero hl.symm)
def spRight : Sp := fun vs H Q _ => ∃ p : Addr, vs = [.ref p] ∧ PoolO (H p) ∧ ∀ H', KeepX p H H' → Q (.bl true) H'
def spLaw (K : PySem.W.Frag) : Sp := fun vs H Q _ => ∃ (a : Addr) (ns : List Int), vs = [.ref a] ∧ SqL K H a (ns.map V.int) ∧ ns.length ≤ 63 ∧ ∀ H', Q (.bl true) H'
end KS
namespace KS
open PySem PySem.Spec PyProof.Rows L2
/-! ### x in t, t a tuple of plain data -/
def rInT (K : PySem.W.Frag) : V → V → Hp → VK → Prop := fun x y H Q => ∃ d ds, Dp K H x d ∧ Dp K H y (.tuple ds) ∧ SeqAt.shaped d = true ∧ SeqAt.shaped (.tuple ds) = true ∧ Q (.bl (ds.any fun z => PyData.eqv z d)) H
theorem op_inT {X : Cx} (hu : X.A.units + 65 < cLine) : OpR X (compareOp .In) (rInT X.K) := by
  intro pins s σ H x y v u Q I rx ry h
  obtain ⟨d, ds, hd, he, sd, se, q⟩ := h
  obtain ⟨as, r1⟩ := Dp.reads I d x v hd rx
  obtain ⟨bs, r2⟩ := Dp.reads I (.tuple ds) y u he ry
  refine SeqAt.in_tuple_reads r2 r1 (SeqAt.canLay_of_shaped se) (SeqAt.canLay_of_shaped sd) ?_ ⟨.bl _, H, I, rfl, q⟩
  have := SeqAt.depth_of_shaped sd
  have h2 : min (PyData.depthAll ds) d.depth ≤ d.depth := Nat.min_le_right _ _
  omega
/-! ### plans as data -/
abbrev cellD (c : Cell) : PyData := .tuple [.int c.1, .int c.2]
abbrev planD (cs : List Cell) : PyData := .tuple (cs.map cellD)
theorem dp_cell {K : PySem.W.Frag} {H : Hp} {t : Addr} {c : Cell} (h : SqT K H t [.int c.1, .int c.2]) : Dp K H (.ref t) (cellD c) := .tup h (.cons (.int _) (.cons (.int _) .nil))
theorem dp_cells {K : PySem.W.Frag} {H : Hp} : ∀ {xs : List V} {cs : List Cell}, CellsAt K H xs cs → DpAll K H xs (cs.map cellD)
  | _, _, .nil => .nil
  | _, _, .cons ⟨t, e, h⟩ r => by
    subst e
    exact .cons (dp_cell h) (dp_cells r)
theorem PlanAt.dp {K : PySem.W.Frag} {H : Hp} {a : Addr} {cs : List Cell} (h : PlanAt K H a cs) : Dp K H (.ref a) (planD cs) := by
  obtain ⟨xs, h1, h2⟩ := h
  exact .tup h1 (dp_cells h2)
theorem cell_lay (c : Cell) : (cellD c).canLay0 = true ∧ (cellD c).depth = 1 := by
  simp [PyData.canLay0, PyData.canLayAll0, PyData.depth, PyData.depthAll]
theorem cells_lay : ∀ cs : List Cell, PyData.canLayAll0 (cs.map cellD) = true ∧ PyData.depthAll (cs.map cellD) ≤ 1
  | [] => ⟨by simp only [List.map_nil, PyData.canLayAll0], by simp [PyData.depthAll]⟩
  | c :: cs => by
    obtain ⟨a, b⟩ := cells_lay cs
    obtain ⟨x, y⟩ := cell_lay c
    refine ⟨?_, ?_⟩
    · rw [List.map_cons, PyData.canLayAll0, x, a]
      rfl
    · rw [List.map_cons, PyData.depthAll, y]
      omega
theorem cell_shaped (c : Cell) : SeqAt.shaped (cellD c) = true := by
  obtain ⟨x, y⟩ := cell_lay c
  unfold SeqAt.shaped
  rw [x, y]
  rfl
theorem plan_shaped (cs : List Cell) : SeqAt.shaped (planD cs) = true := by
  obtain ⟨a, b⟩ := cells_lay cs
  unfold SeqAt.shaped
  rw [Bool.and_eq_true]
  refine ⟨?_, decide_eq_true ?_⟩
  · simp only [PyData.canLay0, a]
  · simp only [PyData.depth]
    omega
theorem cell_eqv (a b : Cell) : PyData.eqv (cellD a) (cellD b) = decide (a = b) := by
  have h : PyData.eqv (cellD a) (cellD b) = (a.1 == b.1 && (a.2 == b.2 && true)) := by
    simp only [PyData.eqv, PyData.eqvAll]
  rw [h, Bool.and_true]
  by_cases e : a = b
  · subst e
    simp
  · rw [decide_eq_false e]
    by_cases e1 : a.1 = b.1
    · have e2 : a.2 ≠ b.2 := fun z => e (Prod.ext e1 z)
      simp [e1, e2]
    · simp [e1]
theorem in_plan (cs : List Cell) (c : Cell) : ((cs.map cellD).any fun z => PyData.eqv z (cellD c)) = decide (c ∈ cs) := by
  rw [List.any_map]
  by_cases h : c ∈ cs
  · rw [decide_eq_true h, List.any_eq_true]
    exact ⟨c, h, by show PyData.eqv (cellD c) (cellD c) = true; rw [cell_eqv]; simp⟩
  · rw [decide_eq_false h, List.any_eq_false]
    intro x hx z
    have z' : PyData.eqv (cellD x) (cellD c) = true := z
    rw [cell_eqv] at z'
    have := of_decide_eq_true z'
    subst this
    exact h hx
theorem shows_plan {cs : List Cell} (g : ∀ c ∈ cs, InGrid c) (hl : cs.length ≤ 64) : Shows (planD cs) 1984 ∧ (planD cs).depth ≤ 64 := by
  refine ⟨shows_tuple (n := 30) (showsAll_of fun d hd => ?_) ?_, ?_⟩
  · obtain ⟨c, hc, rfl⟩ := List.mem_map.mp hd
    have := g c hc
    unfold InGrid at this
    refine shows_tuple (n := 14) (showsAll_of fun d hd => ?_) (by show (14 + 1) * 2 ≤ 30; decide)
    rcases List.mem_cons.mp hd with z | z
    · subst z
      exact shows_int (by omega) (by omega)
    · rcases List.mem_cons.mp z with z | z
      · subst z
        exact shows_int (by omega) (by omega)
      · cases z
  · rw [List.length_map]
    omega
  · have := (cells_lay cs).2
    simp only [PyData.depth]
    omega
/-! ### ascending lists of cells -/
theorem asc_ext2 : ∀ {l m : List Cell}, l.Pairwise lt2 → m.Pairwise lt2 → (∀ x, x ∈ l ↔ x ∈ m) → l = m
  | [], [], _, _, _ => rfl
  | [], y :: m, _, _, h => absurd ((h y).mpr List.mem_cons_self) (by simp)
  | x :: l, [], _, _, h => absurd ((h x).mp List.mem_cons_self) (by simp)
  | x :: l, y :: m, h1, h2, h => by
    rw [List.pairwise_cons] at h1 h2
    have no : ∀ a b : Cell, lt2 a b → lt2 b a → False := fun a b p q => by
      unfold lt2 at p q
      omega
    have e : x = y := by
      rcases List.mem_cons.mp ((h x).mp List.mem_cons_self) with z | z
      · exact z
      · rcases List.mem_cons.mp ((h y).mpr List.mem_cons_self) with z2 | z2
        · exact z2.symm
        · exact (no _ _ (h2.1 x z) (h1.1 y z2)).elim
    subst e
    congr 1
    refine asc_ext2 h1.2 h2.2 fun z => ⟨fun hz => ?_, fun hz => ?_⟩
    · rcases List.mem_cons.mp ((h z).mp (List.mem_cons_of_mem _ hz)) with e | e
      · exact (no _ _ (h1.1 z hz) (e ▸ h1.1 z hz)).elim
      · exact e
    · rcases List.mem_cons.mp ((h z).mpr (List.mem_cons_of_mem _ hz)) with e | e
      · exact (no _ _ (h2.1 z hz) (e ▸ h2.1 z hz)).elim
      · exact e
theorem asc_perm {l m : List Cell} (h1 : l.Pairwise lt2) (h2 : m.Pairwise lt2) (p : l.Perm m) : l = m := asc_ext2 h1 h2 fun x => p.mem_iff
def swp (c : Cell) : Cell := (c.2, c.1)
theorem nodup_swp {cs : List Cell} (h : cs.Nodup) : (cs.map swp).Nodup := by
  rw [List.nodup_iff_pairwise_ne] at h ⊢
  rw [List.pairwise_map]
  refine h.imp fun {a b} q e => q ?_
  have e0 : ((a.2, a.1) : Int × Int) = (b.2, b.1) := e
  injection e0 with e1 e2
  exact Prod.ext e2 e1
theorem good_swp {cs ds : List Cell} (g : Good cs) (p : ds.Perm (cs.map swp)) (a : ds.Pairwise lt2) : Good ds ∧ ds.length = cs.length := by
  have hl : ds.length = cs.length := by rw [p.length_eq, List.length_map]
  refine ⟨⟨a, fun d hd => ?_, fun z => ?_⟩, hl⟩
  · obtain ⟨c, hc, rfl⟩ := List.mem_map.mp (p.mem_iff.mp hd)
    have := g.grid c hc
    unfold InGrid at this ⊢
    show 0 ≤ c.2 ∧ c.2 ≤ 7 ∧ 0 ≤ c.1 ∧ c.1 ≤ 7
    omega
  · rw [z] at hl
    exact g.ne (List.eq_nil_of_length_eq_zero hl.symm)
theorem swp_back {cs ds es : List Cell} (g : cs.Pairwise lt2) (p : ds.Perm (cs.map swp)) (p2 : es.Perm (ds.map swp)) (a : es.Pairwise lt2) : es = cs := by
  refine asc_perm a g (p2.trans ?_)
  have := p.map swp
  refine this.trans ?_
  rw [List.map_map]
  have e : (swp ∘ swp) = id := by
    funext c
    rfl
  rw [e, List.map_id]
/-! ### rectangles -/
def Full (cs : List Cell) : Prop := ∀ r k : Int, (∃ c ∈ cs, c.1 ≤ r) → (∃ c ∈ cs, r ≤ c.1) → (∃ c ∈ cs, c.2 ≤ k) → (∃ c ∈ cs, k ≤ c.2) → (r, k) ∈ cs
noncomputable def rectB (cs : List Cell) : Bool := @decide (Full cs) (Classical.propDecidable _)
theorem rectB_true {cs : List Cell} (h : Full cs) : rectB cs = true := by
  unfold rectB
  exact @decide_eq_true _ (Classical.propDecidable _) h
theorem rectB_false {cs : List Cell} (h : ¬ Full cs) : rectB cs = false := by
  unfold rectB
  exact @decide_eq_false _ (Classical.propDecidable _) h
theorem full_swp {cs ds : List Cell} (p : ds.Perm (cs.map swp)) (h : Full cs) : Full ds := by
  have to : ∀ c : Cell, c ∈ ds → swp c ∈ cs := fun c hc => by
    obtain ⟨x, hx, rfl⟩ := List.mem_map.mp (p.mem_iff.mp hc)
    exact hx
  intro r k ⟨a, ha, a1⟩ ⟨b, hb, b1⟩ ⟨c, hc, c1⟩ ⟨d, hd, d1⟩
  have := h k r ⟨swp c, to c hc, c1⟩ ⟨swp d, to d hd, d1⟩ ⟨swp a, to a ha, a1⟩ ⟨swp b, to b hb, b1⟩
  exact p.mem_iff.mpr (List.mem_map.mpr ⟨(k, r), this, rfl⟩)
theorem rectB_swp {cs ds : List Cell} (p : ds.Perm (cs.map swp)) : rectB ds = rectB cs := by
  have q : cs.Perm (ds.map swp) := by
    have := (p.map swp).symm
    rw [List.map_map] at this
    have e : (swp ∘ swp) = id := by
      funext c
      rfl
    rw [e, List.map_id] at this
    exact this
  by_cases h : Full cs
  · rw [rectB_true h, rectB_true (full_swp p h)]
  · rw [rectB_false h, rectB_false fun z => h (full_swp q z)]
theorem len_of_subset : ∀ {l m : List Cell}, l.Nodup → (∀ x ∈ l, x ∈ m) → l.length ≤ m.length
  | [], _, _, _ => Nat.zero_le _
  | x :: l, m, n, h => by
    rw [List.nodup_cons] at n
    have hx := h x List.mem_cons_self
    have ih := len_of_subset (m := m.erase x) n.2 fun y hy => by
      have hne : y ≠ x := fun e => n.1 (e ▸ hy)
      exact (List.mem_erase_of_ne hne).mpr (h y (List.mem_cons_of_mem _ hy))
    rw [List.length_erase_of_mem hx] at ih
    have : 0 < m.length := List.length_pos_of_mem hx
    rw [List.length_cons]
    omega
/-- the cells of a box: n rows from r, k columns from c -/
def boxOf (r c : Int) (n k : Nat) : List Cell := (List.range n).flatMap fun (i : Nat) => rowCells (r + (i : Int)) c k
theorem box_len (r c : Int) (n k : Nat) : (boxOf r c n k).length = n * k := by
  unfold boxOf
  rw [List.length_flatMap]
  induction n with
  | zero => simp
  | succ n ih =>
    rw [List.range_succ, List.map_append, List.sum_append, ih, List.map_cons, rowCells_len, Nat.succ_mul]
    simp
theorem box_mem {r c : Int} {n k : Nat} {x : Cell} : x ∈ boxOf r c n k ↔ r ≤ x.1 ∧ x.1 < r + n ∧ c ≤ x.2 ∧ x.2 < c + k := by
  unfold boxOf
  rw [List.mem_flatMap]
  constructor
  · rintro ⟨i, hi, hx⟩
    have := List.mem_range.mp hi
    have := rowCells_mem hx
    omega
  · rintro ⟨h1, h2, h3, h4⟩
    refine ⟨(x.1 - r).toNat, List.mem_range.mpr (by omega), ?_⟩
    unfold rowCells
    refine List.mem_map.mpr ⟨(x.2 - c).toNat, List.mem_range.mpr (by omega), ?_⟩
    refine Prod.ext ?_ ?_
    · show r + ((x.1 - r).toNat : Int) = x.1
      omega
    · show c + ((x.2 - c).toNat : Int) = x.2
      omega
theorem box_asc (r c : Int) (k : Nat) : ∀ n : Nat, (boxOf r c n k).Pairwise lt2
  | 0 => List.Pairwise.nil
  | n + 1 => by
    have e : boxOf r c (n + 1) k = boxOf r c n k ++ rowCells (r + (n : Int)) c k := by
      unfold boxOf
      rw [List.range_succ, List.flatMap_append]
      simp
    rw [e, List.pairwise_append]
    refine ⟨box_asc r c k n, rowCells_asc _ _ _, fun a ha b hb => .inl ?_⟩
    have := box_mem.mp ha
    have := rowCells_mem hb
    omega
/-- the count of cells tells the rectangle -/
theorem rect_count {cs : List Cell} {a b c d : Int} (nd : cs.Nodup) (ha : a ∈ cs.map (·.1)) (ha' : ∀ x ∈ cs.map (·.1), a ≤ x) (hb : b ∈ cs.map (·.1)) (hb' : ∀ x ∈ cs.map (·.1), x ≤ b)
    (hc : c ∈ cs.map (·.2)) (hc' : ∀ x ∈ cs.map (·.2), c ≤ x) (hd : d ∈ cs.map (·.2)) (hd' : ∀ x ∈ cs.map (·.2), x ≤ d) : decide ((cs.length : Int) = (b - a + 1) * (d - c + 1)) = rectB cs := by
  have hab : a ≤ b := ha' b hb
  have hcd : c ≤ d := hc' d hd
  have inb : ∀ x ∈ cs, x ∈ boxOf a c (b - a + 1).toNat (d - c + 1).toNat := fun x hx => by
    have h1 := ha' x.1 (List.mem_map.mpr ⟨x, hx, rfl⟩)
    have h2 := hb' x.1 (List.mem_map.mpr ⟨x, hx, rfl⟩)
    have h3 := hc' x.2 (List.mem_map.mpr ⟨x, hx, rfl⟩)
    have h4 := hd' x.2 (List.mem_map.mpr ⟨x, hx, rfl⟩)
    exact box_mem.mpr ⟨h1, by omega, h3, by omega⟩
  have area : (((b - a + 1).toNat * (d - c + 1).toNat : Nat) : Int) = (b - a + 1) * (d - c + 1) := by
    rw [Int.natCast_mul, Int.toNat_of_nonneg (by omega), Int.toNat_of_nonneg (by omega)]
  have le1 := len_of_subset nd inb
  rw [box_len] at le1
  by_cases h : Full cs
  · rw [rectB_true h]
    have le2 : (boxOf a c (b - a + 1).toNat (d - c + 1).toNat).length ≤ cs.length := len_of_subset (nodup_of_asc (box_asc _ _ _ _)) fun x hx => by
      have := box_mem.mp hx
      obtain ⟨xa, ma, ea⟩ := List.mem_map.mp ha
      obtain ⟨xb, mb, eb⟩ := List.mem_map.mp hb
      obtain ⟨xc, mc, ec⟩ := List.mem_map.mp hc
      obtain ⟨xd, md, ed⟩ := List.mem_map.mp hd
      have := h x.1 x.2 ⟨xa, ma, by omega⟩ ⟨xb, mb, by omega⟩ ⟨xc, mc, by omega⟩ ⟨xd, md, by omega⟩
      exact this
    rw [box_len] at le2
    exact decide_eq_true (by rw [← area]; omega)
  · rw [rectB_false h]
    refine decide_eq_false fun e => h ?_
    rw [← area] at e
    have e' : cs.length = (b - a + 1).toNat * (d - c + 1).toNat := by omega
    intro r k ⟨x1, m1, q1⟩ ⟨x2, m2, q2⟩ ⟨x3, m3, q3⟩ ⟨x4, m4, q4⟩
    have h1 := ha' x1.1 (List.mem_map.mpr ⟨x1, m1, rfl⟩)
    have h2 := hb' x2.1 (List.mem_map.mpr ⟨x2, m2, rfl⟩)
    have h3 := hc' x3.2 (List.mem_map.mpr ⟨x3, m3, rfl⟩)
    have h4 := hd' x4.2 (List.mem_map.mpr ⟨x4, m4, rfl⟩)
    have hin : ((r, k) : Cell) ∈ boxOf a c (b - a + 1).toNat (d - c + 1).toNat := box_mem.mpr ⟨by show a ≤ r; omega, by show r < _; omega, by show c ≤ k; omega, by show k < _; omega⟩
    by_cases hm : ((r, k) : Cell) ∈ cs
    · exact hm
    · have le3 := len_of_subset (l := (r, k) :: cs) (List.nodup_cons.mpr ⟨hm, nd⟩) fun x hx => by
        rcases List.mem_cons.mp hx with z | z
        · subst z
          exact hin
        · exact inb x z
      rw [box_len, List.length_cons] at le3
      omega
end KS
namespace KS
open PySem PySem.Spec PyProof.Rows L2
def Small4 (l : List Int) : Prop := ∀ x ∈ l, 0 ≤ x ∧ x < 10000
theorem Vals9.small {n : Nat} {vs : List Int} (h : Vals9 n vs) : Small4 vs := fun x hx => by
  have := h.bd x hx
  omega
theorem getI_small {vs : List Int} (h : Small4 vs) (k : Int) : 0 ≤ getI vs k ∧ getI vs k < 10000 := by
  unfold getI
  rw [List.getD_eq_getElem?_getD]
  cases e : vs[k.toNat]? with
  | none => exact ⟨by decide, by decide⟩
  | some v => exact h v (List.mem_of_getElem? e)
theorem putZ_small : ∀ {zs : List (Int × Int)} {acc : List Int}, Small4 acc → (∀ z ∈ zs, 0 ≤ z.2 ∧ z.2 < 10000) → Small4 (putZ acc zs)
  | [], _, h, _ => h
  | z :: zs, acc, h, hz => by
    refine putZ_small (zs := zs) (acc := acc.set z.1.toNat z.2) (fun x hx => ?_) (fun y hy => hz y (List.mem_cons_of_mem _ hy))
    rcases List.mem_or_eq_of_mem_set hx with m | rfl
    · exact h x m
    · exact hz z List.mem_cons_self
theorem srtL_small {vs acc l : List Int} (h : Small4 vs) (ha : Small4 acc) : Small4 (srtL vs acc l) := by
  refine putZ_small ha fun z hz => ?_
  have m := (List.of_mem_zip (show (z.1, z.2) ∈ _ from hz)).2
  have m2 := (sortI_perm _).mem_iff.mp m
  obtain ⟨k, _, e⟩ := List.mem_map.mp m2
  rw [← e]
  exact getI_small h k
theorem foldl_small {vs : List Int} (h : Small4 vs) : ∀ (ls : List (List Int)) {acc : List Int}, Small4 acc → Small4 (ls.foldl (srtL vs) acc)
  | [], _, ha => ha
  | l :: ls, _, ha => foldl_small h ls (srtL_small h ha)
theorem srt_small {b : Bool} {cs : List Cell} {vs : List Int} (h : Small4 vs) : Small4 (srt b cs vs) := foldl_small h _ h
theorem line_small {l : List Int} (h : Small4 l) (hl : l.length ≤ 64) : Shows (lineD l) 960 ∧ (lineD l).depth ≤ 64 := ⟨shows_line h hl, by rw [depth_line]; decide⟩
/-- a plan and its values, as data -/
def tabD (cs : List Cell) (vs : List Int) : PyData := .tuple [planD cs, lineD vs]
theorem tab_small {cs : List Cell} {vs : List Int} (g : ∀ c ∈ cs, InGrid c) (hl : cs.length ≤ 64) (h : Small4 vs) (hv : vs.length ≤ 64) : Shows (tabD cs vs) 8000 ∧ (tabD cs vs).depth ≤ 64 := by
  have hp := shows_plan g hl
  have hn := line_small h hv
  refine ⟨shows_tuple (n := 1984) (showsAll_of fun d hd => ?_) (by show (1984 + 1) * 2 ≤ 8000; decide), ?_⟩
  · rcases List.mem_cons.mp hd with z | z
    · subst z
      exact hp.1
    · rcases List.mem_cons.mp z with z | z
      · subst z
        exact ⟨hn.1.short, hn.1.show_, hn.1.nod, Nat.le_trans hn.1.wt (by decide)⟩
      · cases z
  · have a := (cells_lay cs).2
    have b := (ints_lay vs).2
    show (PyData.tuple [.tuple (cs.map cellD), .tuple (vs.map PyData.int)]).depth ≤ 64
    simp only [PyData.depth, PyData.depthAll]
    omega
def rev3 {α : Type} : List α → List α
  | [a, b, c] => [c, b, a]
  | _ => []
theorem rev3_rel {zs : List V} {ws : List Value} (r : Vals zs ws) : Vals (rev3 zs) (rev3 ws) := by
  cases r with
  | nil => exact .nil
  | cons r1 r =>
    cases r with
    | nil => exact .nil
    | cons r2 r =>
      cases r with
      | nil => exact .nil
      | cons r3 r =>
        cases r with
        | nil => exact .cons r3 (.cons r2 (.cons r1 .nil))
        | cons r4 r => exact .nil
/-- the program's sort -/
def spSortL (K : PySem.W.Frag) : Sp := fun xs H Q _ => ∃ (a t : Addr) (b : Bool) (cs : List Cell) (vs : List Int), xs = [.ref a, .ref t, .str (if b = true then "C" else "R")] ∧ PlanAt K H a cs ∧ Good cs ∧ cs.length ≤ 24 ∧
  SqT K H t (vs.map V.int) ∧ Vals9 cs.length vs ∧ ∀ H' u, Same H H' → SqT K H' u ((srt b cs vs).map V.int) → Q (.ref u) H'
end KS
namespace KS
open PySem PySem.Spec PyProof.Rows L2
/-! ### a sort only moves the values -/
def one (x y : Int) : Nat := if x = y then 1 else 0
theorem count_one (x a : Int) (l : List Int) : (a :: l).count x = l.count x + one a x := by
  rw [List.count_cons]
  unfold one
  by_cases e : a = x
  · rw [if_pos e, if_pos (by simpa using e)]
  · rw [if_neg e, if_neg (by simpa using e)]
theorem count_set (x y : Int) : ∀ {l : List Int} {k : Nat} {v : Int}, l[k]? = some v → (l.set k y).count x + one v x = l.count x + one y x
  | [], k, v, h => by simp at h
  | a :: l, 0, v, h => by
    simp at h
    subst h
    show (y :: l).count x + one a x = (a :: l).count x + one y x
    rw [count_one, count_one]
    omega
  | a :: l, k + 1, v, h => by
    have h' : l[k]? = some v := by simpa using h
    have ih := count_set x y h'
    show (a :: l.set k y).count x + one v x = (a :: l).count x + one y x
    rw [count_one, count_one]
    omega
theorem getN_set {acc : List Int} {k : Nat} {y : Int} {ks : List Nat} (h : k ∉ ks) : getN (acc.set k y) ks = getN acc ks := by
  unfold getN
  refine List.map_congr_left fun j hj => ?_
  have : k ≠ j := fun e => h (e ▸ hj)
  rw [List.getD_eq_getElem?_getD, List.getD_eq_getElem?_getD, List.getElem?_set_ne this]
theorem put_count (x : Int) : ∀ {ks : List Nat} {ys acc : List Int}, ks.Nodup → ks.length = ys.length → (∀ k ∈ ks, k < acc.length) → (putN acc ks ys).count x + (getN acc ks).count x = acc.count x + ys.count x
  | [], [], acc, _, _, _ => by
    rw [putN_nil]
    rfl
  | [], _ :: _, acc, _, h, _ => by simp at h
  | _ :: _, [], acc, _, h, _ => by simp at h
  | k :: ks, y :: ys, acc, nd, hl, hb => by
    rw [List.nodup_cons] at nd
    have hk := hb k List.mem_cons_self
    obtain ⟨v, hv⟩ : ∃ v, acc[k]? = some v := ⟨acc[k], List.getElem?_eq_getElem hk⟩
    have ih := put_count x (ks := ks) (ys := ys) (acc := acc.set k y) nd.2 (by simpa using hl) (fun j hj => by
      rw [List.length_set]
      exact hb j (List.mem_cons_of_mem _ hj))
    rw [getN_set nd.1] at ih
    have cs := count_set x y hv
    rw [putN_cons]
    have eg : getN acc (k :: ks) = v :: getN acc ks := by
      unfold getN
      rw [List.map_cons, getD_of hv]
    rw [eg, count_one, count_one]
    omega
theorem put_perm {ks : List Nat} {ys acc : List Int} (nd : ks.Nodup) (hb : ∀ k ∈ ks, k < acc.length) (p : ys.Perm (getN acc ks)) : (putN acc ks ys).Perm acc := by
  rw [List.perm_iff_count]
  intro x
  have hl : ks.length = ys.length := by
    rw [p.length_eq]
    unfold getN
    rw [List.length_map]
  have := put_count x (ys := ys) nd hl hb
  rw [p.count_eq] at this
  omega
theorem asc_nodup {ks : List Nat} (h : ks.Pairwise (· < ·)) : ks.Nodup := h.imp fun q e => by omega
theorem fold_perm {vs : List Int} : ∀ {ls : List (List Nat)} {acc : List Int}, Parts acc.length ls → (∀ ks ∈ ls, ∀ k ∈ ks, acc[k]? = vs[k]?) → (ls.foldl (srtN vs) acc).Perm acc
  | [], acc, _, _ => List.Perm.refl _
  | ks :: ls, acc, P, h => by
    have pc := List.pairwise_cons.mp P.apart
    have e : getN vs ks = getN acc ks := getN_congr fun k hk => (h ks List.mem_cons_self k hk).symm
    have d : (srtN vs acc ks).Perm acc := by
      unfold srtN
      rw [e]
      exact put_perm (asc_nodup (P.asc ks List.mem_cons_self)) (P.bd ks List.mem_cons_self) (sortI_perm _)
    refine List.Perm.trans (fold_perm (ls := ls) (acc := srtN vs acc ks) ⟨fun ms hm => P.asc ms (List.mem_cons_of_mem _ hm), fun ms hm k hk => ?_, pc.2⟩ fun ms hm k hk => ?_) d
    · rw [srtN_len]
      exact P.bd ms (List.mem_cons_of_mem _ hm) k hk
    · have nk : k ∉ ks := fun m => pc.1 ms hm k m hk
      rw [show (srtN vs acc ks)[k]? = acc[k]? from putN_off nk]
      exact h ms (List.mem_cons_of_mem _ hm) k hk
theorem srt_perm {b : Bool} {cs : List Cell} {vs : List Int} (h : vs.length = cs.length) : (srt b cs vs).Perm vs := by
  rw [srt_up]
  exact fold_perm (by rw [h]; exact lns_parts b cs) fun _ _ _ _ => rfl
theorem srt9 {b : Bool} {cs : List Cell} {vs : List Int} (h : Vals9 cs.length vs) : Vals9 cs.length (srt b cs vs) := h.perm (srt_perm h.len).symm
theorem aft9 {cs : List Cell} : ∀ (w : List Bool) {vs : List Int}, Vals9 cs.length vs → Vals9 cs.length (aft cs w vs)
  | [], _, h => h
  | b :: w, _, h => aft9 w (srt9 (b := b) h)
theorem aft_perm {cs : List Cell} : ∀ (w : List Bool) {vs : List Int}, vs.length = cs.length → (aft cs w vs).Perm vs
  | [], _, _ => List.Perm.refl _
  | b :: w, vs, h => (aft_perm w (by rw [srt_len]; exact h)).trans (srt_perm (b := b) h)
theorem fix_rises {b : Bool} {cs : List Cell} {vs : List Int} (h : vs.length = cs.length) : decide (srt b cs vs = vs) = rises b cs vs := by
  cases r : rises b cs vs with
  | true => exact decide_eq_true (rises_fix h r)
  | false =>
    refine decide_eq_false fun e => ?_
    have := srt_rises (b := b) h
    rw [e, r] at this
    cases this
def spIsSorted (K : PySem.W.Frag) : Sp := fun xs H Q _ => ∃ (a t : Addr) (b : Bool) (cs : List Cell) (vs : List Int), xs = [.ref a, .ref t, .str (if b = true then "C" else "R")] ∧ PlanAt K H a cs ∧ Good cs ∧ cs.length ≤ 24 ∧
  SqT K H t (vs.map V.int) ∧ Vals9 cs.length vs ∧ ∀ H', Same H H' → Q (.bl (rises b cs vs)) H'
def spSettled (K : PySem.W.Frag) : Sp := fun xs H Q _ => ∃ (a t : Addr) (cs : List Cell) (vs : List Int), xs = [.ref a, .ref t] ∧ PlanAt K H a cs ∧ Good cs ∧ cs.length ≤ 24 ∧
  SqT K H t (vs.map V.int) ∧ Vals9 cs.length vs ∧ ∀ H', Same H H' → Q (.bl (settled cs vs)) H'
def spOther : Sp := fun xs H Q _ => ∃ b : Bool, xs = [.str (if b = true then "C" else "R")] ∧ Q (.str (if (!b) = true then "C" else "R")) H
def spRestP (K : PySem.W.Frag) : Sp := fun xs H Q _ => ∃ (a t : Addr) (b : Bool) (cs : List Cell) (vs : List Int), xs = [.ref a, .ref t, .str (if b = true then "C" else "R")] ∧ PlanAt K H a cs ∧ Good cs ∧ cs.length ≤ 24 ∧
  SqT K H t (vs.map V.int) ∧ Vals9 cs.length vs ∧ ∀ H' r u n, Same H H' → SqT K H' r [.int (n : Nat), .ref u] → SqT K H' u ((stat cs b vs n).map V.int) → RestIs cs b vs n → Q (.ref r) H'
end KS
namespace KS
open PySem PySem.Spec PyProof.Rows L2
/-- the letter of a kind, and a word -/
def ltr (b : Bool) : Nat := if b = true then 67 else 82
def wS (w : List Bool) : Str := ⟨(w.map ltr).toArray⟩
theorem wS_len (w : List Bool) : (wS w).length = w.length := by
  show (w.map ltr).toArray.size = _
  rw [List.size_toArray, List.length_map]
theorem ltr_str (b : Bool) : V.str ⟨#[ltr b]⟩ = V.str (if b = true then "C" else "R") := by
  cases b <;> decide +kernel
theorem wS_at {w : List Bool} {i : Nat} {c : Nat} (h : (wS w).cps[i]? = some c) : ∃ b, w[i]? = some b ∧ c = ltr b := by
  have h' : (w.map ltr).toArray[i]? = some c := h
  rw [List.getElem?_toArray, List.getElem?_map] at h'
  cases e : w[i]? with
  | none =>
    rw [e] at h'
    cases h'
  | some b =>
    rw [e] at h'
    cases h'
    exact ⟨b, rfl, rfl⟩
def spLAfter (K : PySem.W.Frag) : Sp := fun xs H Q _ => ∃ (a t : Addr) (w : List Bool) (cs : List Cell) (vs : List Int), xs = [.ref a, .ref t, .str (wS w)] ∧ PlanAt K H a cs ∧ cs.length ≤ 24 ∧
  SqT K H t (vs.map V.int) ∧ vs.length = cs.length ∧ ∀ H' u, Same H H' → SqT K H' u ((aft cs w vs).map V.int) → Q (.ref u) H'
end KS
namespace KS
open PySem PySem.Spec PyProof.Rows L2
/-- one letter, so many times -/
def rRepC : R2 := fun x y H Q => ∃ (c : Nat) (n : Nat), x = .str ⟨#[c]⟩ ∧ y = .int n ∧ 1 ≤ n ∧ n ≤ 64 ∧ Q (.str ⟨(List.replicate n c).toArray⟩) H
theorem rep_fold (c : Nat) : ∀ (n : Nat) (a : Array Nat), (List.replicate n #[c]).foldl (· ++ ·) a = a ++ (List.replicate n c).toArray
  | 0, a => by simp
  | n + 1, a => by
    rw [List.replicate_succ, List.foldl_cons, rep_fold c n, List.replicate_succ]
    apply Array.ext'
    simp
theorem op_repC {X : Cx} : OpR X (binaryOp .Mult) rRepC := by
  intro pins s σ H x y v u Q I rx ry h
  obtain ⟨c, n, rfl, rfl, n0, n1, q⟩ := h
  obtain ⟨t, rfl⟩ := rx
  obtain ⟨t', rfl⟩ := ry
  have e1 : ¬ ((n : Int) < 1) := by omega
  refine P.mul_str ?_ ?_ ?_ ?_
  · have h1 : ¬ (n : Int) < -(2 ^ 63 : Int) := by omega
    have h2 : ¬ (n : Int) ≥ 2 ^ 63 := by omega
    rw [decide_eq_false h1, decide_eq_false h2]
    rfl
  · intro _ _
    show ¬ ((1 : Int) > (2 ^ 63 - 1) / (n : Int))
    have : (1 : Int) ≤ (2 ^ 63 - 1) / (n : Int) := (Int.le_ediv_iff_mul_le (by omega)).mpr (by omega)
    omega
  · intro _ _
    show decide (1 * (n : Int).toNat > sizeLine) = false
    refine decide_eq_false ?_
    rw [sizeLine_eq]
    omega
  · rw [if_neg e1]
    by_cases e : n = 1
    · subst e
      exact ⟨.str ⟨#[c]⟩, H, I, ⟨_, rfl⟩, q⟩
    · have z : (((n : Int) == 1) || ((⟨#[c]⟩ : Str).length == 0)) = false := by
        have : ((n : Int) == 1) = false := by
          rw [beq_eq_false_iff_ne]
          omega
        rw [this]
        rfl
      rw [if_neg (by rw [z]; decide)]
      have ez : (⟨(List.replicate (n : Int).toNat (⟨#[c]⟩ : Str).cps).foldl (· ++ ·) #[]⟩ : Str) = ⟨(List.replicate n c).toArray⟩ := by
        rw [Int.toNat_natCast]
        show (⟨(List.replicate n #[c]).foldl (· ++ ·) #[]⟩ : Str) = _
        rw [rep_fold]
        simp
      rw [ez]
      refine ⟨?_, .str ⟨(List.replicate n c).toArray⟩, H, I.tok _, ⟨_, rfl⟩, q⟩
      show (List.replicate n c).toArray.size ≤ sizeLine
      rw [List.size_toArray, List.length_replicate, sizeLine_eq]
      omega
theorem wS_app (a b : List Bool) : wS a ++ wS b = wS (a ++ b) := by
  show (⟨(a.map ltr).toArray ++ (b.map ltr).toArray⟩ : Str) = ⟨((a ++ b).map ltr).toArray⟩
  rw [List.map_append]
  simp
theorem wS_rep (b : Bool) (n : Nat) : (⟨(List.replicate n (ltr b)).toArray⟩ : Str) = wS (List.replicate n b) := by
  unfold wS
  rw [List.map_replicate]
theorem wS_cut (a : List Bool) (n : Nat) (h : n ≤ a.length) : cutS (wS a) none (some (n : Int)) = wS (a.take n) := by
  have hl := wS_len a
  unfold cutS
  have e0 : HT.sIx (wS a).length 0 none = 0 := rfl
  have e1 : HT.sIx (wS a).length (wS a).length (some (n : Int)) = n := by
    rw [HT.sIx_nat, hl]
    omega
  rw [e0, e1]
  show (⟨(((a.map ltr).toArray.toList.drop 0).take (n - 0)).toArray⟩ : Str) = ⟨((a.take n).map ltr).toArray⟩
  simp
/-- a word of at most so many letters -/
def spLWord (K : PySem.W.Frag) : Sp := fun xs H Q _ => ∃ (p : Addr) (m : Nat), xs = [.ref p, .int m] ∧ PoolO (H p) ∧ m ≤ 400 ∧ ∀ H' w, KeepX p H H' → PoolO (H' p) → w.length ≤ m → Q (.str (wS w)) H'
end KS
namespace KS
open PySem PySem.Spec PyProof.Rows L2
theorem aft_small {cs : List Cell} : ∀ (w : List Bool) {vs : List Int}, Small4 vs → Small4 (aft cs w vs)
  | [], _, h => h
  | b :: w, _, h => aft_small w (srt_small (b := b) (cs := cs) h)
/-- the program's word -/
def spAfterP (K : PySem.W.Frag) : Sp := fun xs H Q _ => ∃ (a t : Addr) (w : List Bool) (cs : List Cell) (vs : List Int), xs = [.ref a, .ref t, .str (wS w)] ∧ PlanAt K H a cs ∧ Good cs ∧ cs.length ≤ 24 ∧
  SqT K H t (vs.map V.int) ∧ Vals9 cs.length vs ∧ w.length ≤ 400 ∧ ∀ H' u, Same H H' → SqT K H' u ((aft cs w vs).map V.int) → Q (.ref u) H'
theorem wS_nil : V.str (wS []) = V.str "" := by decide +kernel
theorem line_shaped (l : List Int) : SeqAt.shaped (lineD l) = true := by
  obtain ⟨h1, h2⟩ := ints_lay l
  show SeqAt.shaped (.tuple (l.map PyData.int)) = true
  unfold SeqAt.shaped
  simp only [PyData.canLay0, PyData.depth, h1, h2]
  decide
end KS
namespace KS
open PySem PySem.Spec PyProof.Rows L2
def lS (b : Bool) : Str := ⟨#[ltr b]⟩
theorem lS_w (b : Bool) : lS b = wS [b] := rfl
theorem join_ws : ∀ w : List Bool, Str.join "" (w.map lS) = wS w
  | [] => by decide +kernel
  | [b] => rfl
  | b :: c :: r => by
    have h := join_ws (c :: r)
    show lS b ++ "" ++ Str.join "" ((c :: r).map lS) = _
    rw [h, show ("" : Str) = wS [] from by decide +kernel, lS_w, wS_app, wS_app]
    rfl
theorem join_letters (w : List Bool) : Txt.join "" (w.map lS) = wS w := by
  show Builtin.Str.glued "" (w.map lS) = _
  rw [StrLaws.glued_eq_join, join_ws]
theorem lS_sum : ∀ w : List Bool, ((w.map lS).map (·.length)).sum = w.length
  | [] => rfl
  | b :: w => by
    show 1 + ((w.map lS).map (·.length)).sum = _
    rw [lS_sum w, List.length_cons]
    omega
def pcell (j : Nat) : Cell := (((j : Int) / 2), ((j : Int) / 2 + (j : Int) % 2))
def pathTo (n : Nat) : List Cell := (List.range n).map pcell
theorem pathTo_succ (n : Nat) : pathTo (n + 1) = pathTo n ++ [pcell n] := by
  unfold pathTo
  rw [List.range_succ, List.map_append]
  rfl
theorem path_good : Good (pathTo 15) := by
  refine ⟨?_, ?_, by decide⟩
  · unfold pathTo
    refine List.pairwise_map.2 (List.pairwise_lt_range.imp ?_)
    intro x y h
    show ((x : Int) / 2 < (y : Int) / 2) ∨ ((x : Int) / 2 = (y : Int) / 2 ∧ (x : Int) / 2 + (x : Int) % 2 < (y : Int) / 2 + (y : Int) % 2)
    omega
  · intro c hc
    obtain ⟨j, hj, rfl⟩ := List.mem_map.mp hc
    have := List.mem_range.mp hj
    show 0 ≤ (j : Int) / 2 ∧ (j : Int) / 2 ≤ 7 ∧ 0 ≤ (j : Int) / 2 + (j : Int) % 2 ∧ (j : Int) / 2 + (j : Int) % 2 ≤ 7
    omega
def four : List Cell := [(0, 0), (0, 1), (1, 1), (2, 0)]
theorem four_good : Good four := by
  refine ⟨?_, ?_, by decide⟩
  · simp [four, lt2]
  · simp [four, InGrid]
end KS
namespace KS
open PySem PySem.Spec PyProof.Rows L2
/-! ### zip(t, l): t a tuple, l a list, of one length -/
def ItTL (K : PySem.W.Frag) (a b : Addr) : It where
  go := fun i H => ∃ (ts ls : List V) (x y : V), SqT K H a ts ∧ SqL K H b ls ∧ ts[i]? = some x ∧ ls[i]? = some y
  yld := fun i H v H' => ∃ (T : Addr) (x y : V), v = .ref T ∧ H T = none ∧ H' = upd H T (.tup [x, y]) ∧ (∀ ts, SqT K H a ts → ts[i]? = some x) ∧ (∀ ls, SqL K H b ls → ls[i]? = some y)
  stop := fun i H => ∃ ts ls : List V, SqT K H a ts ∧ SqL K H b ls ∧ ts.length = i ∧ ls.length = i
def TLs (a b z TI TO i1 i2 : Addr) (i : Nat) (h : Heap) : Prop :=
  IsZip h z TI TO .none ∧ IsTupOf2 h TI (.ref i1) (.ref i2) ∧ (∃ x y, IsTupOf2 h TO x y) ∧ h.IsTupleIter i1 a i ∧ h.IsListIter i2 b i
theorem mem5 {c z TI TO i1 i2 : Addr} (h : c ∈ [z, TI, TO, i1, i2]) : c = z ∨ c = TI ∨ c = TO ∨ c = i1 ∨ c = i2 := by simpa using h
theorem out4 {c z TI TO i1 i2 : Addr} (h : c ∉ [z, TI, TO, i1, i2]) : c ≠ z ∧ c ≠ TO ∧ c ≠ i1 ∧ c ≠ i2 := by
  simp only [List.mem_cons, not_or] at h
  exact ⟨h.1, h.2.2.1, h.2.2.2.1, h.2.2.2.2.1⟩
theorem apart_sep {z TI TO i1 i2 a b : Addr} (D : ZipApart z TI TO i1 i2 a b) : ZipSep2 z TI TO i1 i2 [i1, a] [i2, b] where
  TIz := D.TIz
  TOz := D.TOz
  TITO := D.TITO
  TIi1 := D.TIi1
  TIi2 := D.TIi2
  mem1 := List.mem_cons_self
  mem2 := List.mem_cons_self
  zf1 := by simp [D.i1z.symm, D.l1z.symm]
  zf2 := by simp [D.i2z.symm, D.l2z.symm]
  Tf1 := by simp [D.TOi1, D.l1TO.symm]
  Tf2 := by simp [D.TOi2, D.l2TO.symm]
  sep1_2 := by simp [D.i12, D.l2i1.symm]
  sep2_1 := by simp [D.i12.symm, D.l1i2.symm]
theorem tls_lt {a b z TI TO i1 i2 : Addr} {i : Nat} {h : Heap} (st : TLs a b z TI TO i1 i2 i h) {c : Addr} (hc : c ∈ [z, TI, TO, i1, i2]) : ∃ o, h.get? c = some o ∧ ∀ v, o.data ≠ .cell v := by
  obtain ⟨q0, q1, ⟨x, y, q2⟩, ⟨o3, q3, _, d3⟩, ⟨o4, q4, _, d4⟩⟩ := st
  rcases mem5 hc with e | e | e | e | e <;> subst e
  · exact ⟨_, q0, fun v z => nomatch z⟩
  · exact ⟨_, q1, fun v z => nomatch z⟩
  · exact ⟨_, q2, fun v z => nomatch z⟩
  · exact ⟨o3, q3, fun v z => by rw [d3] at z; cases z⟩
  · exact ⟨o4, q4, fun v z => by rw [d4] at z; cases z⟩
theorem turn_TL {P : Program} {w : World} {K : PySem.W.Frag} {elts : List Expr} {kk : Nat} {tpos : Pos} {a b z TI TO i1 i2 : Addr} (D : ZipApart z TI TO i1 i2 a b) :
    Turn P w K (.Tuple elts kk tpos) (ItTL K a b) [z, TI, TO, i1, i2] z (TLs a b z TI TO i1 i2) where
  mem := List.mem_cons_self
  obj := fun i h st c hc => tls_lt st hc
  keep := fun i h h' st k => by
    obtain ⟨q0, q1, ⟨x, y, q2⟩, q3, q4⟩ := st
    exact ⟨k z (by simp) _ q0, k TI (by simp) _ q1, ⟨x, y, k TO (by simp) _ q2⟩, q3.at fun o e => k i1 (by simp) o e, q4.at fun o e => k i2 (by simp) o e⟩
  self := fun A i s Q E st h => wpAny_pyIter_zip st.1 h
  item := by
    intro X hP hw hK hc i pins s σ H E I hf st hg
    subst hP hw hK
    have st0 := st
    obtain ⟨q0, q1, ⟨x0, y0, q2⟩, q3, q4⟩ := st
    obtain ⟨ts, ls, x, y, ht, hl, ex, ey⟩ := hg
    obtain ⟨its, rv, p1, _⟩ := I.tuple ht
    obtain ⟨jts, rw', p2, _⟩ := I.list hl
    obtain ⟨u, hu, ru⟩ := rv.get ex
    obtain ⟨v, hv, rv'⟩ := rw'.get ey
    have n1 : i < its.toArray.size := by
      have := (List.getElem?_eq_some_iff.mp hu).1
      simpa using this
    have n2 : i < jts.toArray.size := by
      have := (List.getElem?_eq_some_iff.mp hv).1
      simpa using this
    have hh : X.A.in1.handled = none := I.ok.hd hc
    have zlt : z < s.heap.objs.size := Heap.lt_size q0
    refine wpAny_pyNext_zipD2_item (apart_sep D) (Draws.tuple hh i1 a D.l1i1 its.toArray) (Draws.list hh i2 b D.l2i2 jts.toArray) q0 q1 q2 ⟨q3, p1⟩ ⟨q4, p2.isList⟩ n1 n2 fun u' v' h1 tk hu' hv' z1 o1 a1 b1 hT sz kp => ?_
    have eu : u' = u := by
      have z : its[i]? = some u' := by simpa using hu'
      rw [hu] at z
      exact (Option.some.inj z).symm
    have ev : v' = v := by
      have z : jts[i]? = some v' := by simpa using hv'
      rw [hv] at z
      exact (Option.some.inj z).symm
    subst eu ev
    refine ⟨_, rfl, wpAny_letOwnedTupleGo_zip (s := { s with heap := h1, toks := tk }) z1 fun h2 z2 sb => ?_⟩
    have hT2 : h2.get? s.heap.objs.size = some { cls := .type "tuple", data := .seq #[u', v'] } := (sb.2 _ (Nat.ne_of_gt zlt)).trans hT
    have nw : ObjOk X.prog X.w (upd H s.heap.objs.size (.tup [x, y])) h2 s.heap.objs.size (.tup [x, y]) := ⟨by show 2 ≤ sizeLine; decide, [u', v'], .cons ru (.cons rv' .nil), ⟨_, hT2, rfl, _, rfl⟩⟩
    have I1 : Inv X pins σ (upd H s.heap.objs.size (.tup [x, y])) { s with heap := h2, toks := tk } := by
      refine I.turnedNew (ch := [z, TI, TO, i1, i2]) (fun c o n e => ?_) hf (Nat.le_refl _) nw
      obtain ⟨n1, n2, n3, n4⟩ := out4 n
      exact (sb.2 c n1).trans (kp c o n1 n2 n3 n4 e)
    refine ⟨.ref s.heap.objs.size, _, I1, rfl, ⟨_, x, y, rfl, I.hok.fresh (Nat.le_refl _), rfl, fun m hm => by rw [I.tuple_inj hm ht]; exact ex, fun m hm => by rw [I.list_inj hm hl]; exact ey⟩, ⟨z2, ?_, ⟨u', v', ?_⟩, ?_, ?_⟩, fun c hcm => ?_⟩
    · exact (sb.2 TI D.TIz).trans (kp TI _ D.TIz D.TITO D.TIi1 D.TIi2 q1)
    · exact (sb.2 TO D.TOz).trans o1
    · exact a1.1.at fun o e => (sb.2 i1 D.i1z).trans e
    · exact b1.1.at fun o e => (sb.2 i2 D.i2z).trans e
    · obtain ⟨o, ho, _⟩ := tls_lt st0 hcm
      rw [upd_ne (Nat.ne_of_lt (Heap.lt_size ho))]
      exact (hf c hcm).1
  done := by
    intro X hP hw hK hc i pins s σ H E I hf st hg
    subst hP hw hK
    obtain ⟨q0, q1, ⟨x0, y0, q2⟩, q3, q4⟩ := st
    obtain ⟨ts, ls, ht, hl, e1, e2⟩ := hg
    obtain ⟨its, rv, p1, _⟩ := I.tuple ht
    obtain ⟨jts, rw', p2, _⟩ := I.list hl
    have m1 : its.toArray.size = i := by
      have := rv.length
      simp
      omega
    have m2 : jts.toArray.size = i := by
      have := rw'.length
      simp
      omega
    have hh : X.A.in1.handled = none := I.ok.hd hc
    refine wpAny_pyNext_zipD2_end (apart_sep D) (Draws.tuple hh i1 a D.l1i1 its.toArray) (Draws.list hh i2 b D.l2i2 jts.toArray) q0 q1 q2 ⟨q3, p1⟩ ⟨q4, p2.isList⟩ (by omega) (by omega) (.inl m1.symm) fun h1 tk kp => ⟨rfl, ?_⟩
    refine I.turnedL (ch := [z, TI, TO, i1, i2]) (fun c o n e => ?_) hf
    obtain ⟨n1, n2, n3, n4⟩ := out4 n
    exact kp c o n1 n2 n3 n4 e
def iZipTL (K : PySem.W.Frag) (ta : TA) : TI := fun σ H R => ta σ H fun vs H1 => ∃ a b ts ls, vs = [.ref a, .ref b] ∧ SqT K H1 a ts ∧ SqL K H1 b ls ∧ R (ItTL K a b) H1
theorem pi_zipTL {X : Cx} {e e2 : Expr} {ta : TA} {p pos tpos : Pos} {elts : List Expr} {kk : Nat} (hg : Gl X "zip") (hm : X.mg "zip" = none) (ha : PA X [e, e2] ta)
    (hs : starEach [e, e2] X.env = (false, eval e X.env) :: starEach [e2] X.env := by rfl) (hpl : (backTo pos (starEach [e2] X.env)).any (·.1) = false := by rfl) :
    PI X (.Tuple elts kk tpos) (.Call (.Name "zip" p) [e, e2] [] pos) (iZipTL X.K ta) := by
  refine ⟨fun pins s σ H R I h => Call_ (ld_blt I hg hm PyProof.Rows.boot_zip (PyProof.Rows.callWith_type1 (thn (ha.run pos pins s σ H _ I h) fun us s1 hh => ?_) hs hpl))⟩
  obtain ⟨vs, H1, I1, r1, a, b, ts, ls, ev, ht, hl, q⟩ := hh
  subst ev
  cases r1 with
  | cons r rr =>
    cases rr with
    | cons r' rr =>
      cases rr
      cases r
      cases r'
      obtain ⟨its, rv, p1, _⟩ := I1.tuple ht
      obtain ⟨jts, rw', p2, _⟩ := I1.list hl
      have la : a < s1.heap.objs.size := by
        obtain ⟨o, ho, _⟩ := id p1
        exact Heap.lt_size ho
      refine zip_begins2 (begins_tuple a its.toArray) (begins_list b jts.toArray) p1 p2.isList fun h1 z1 t1 o1 g1 g2 sz kp => wpAny_pyIter_zip z1 ?_
      have I2 : Inv X pins σ H1 { s1 with heap := h1 } := I1.kept (t' := s1.toks) kp
      refine ⟨_, [s1.heap.objs.size + 4, s1.heap.objs.size + 2, s1.heap.objs.size + 3, s1.heap.objs.size, s1.heap.objs.size + 1], _, _, H1, rfl, I2, turn_TL (PySem.W.ktu_apart s1.heap.objs.size a b la p2.lt), ⟨z1, t1, ⟨_, _, o1⟩, ⟨_, g1, rfl, rfl⟩, ⟨_, g2, rfl, rfl⟩⟩, fun c hc => ?_, q⟩
      have le : s1.heap.objs.size ≤ c := by
        rcases mem5 hc with e | e | e | e | e <;> rw [e] <;> first | exact Nat.le_add_right _ _ | exact Nat.le_refl _
      exact I1.fpOk le (I1.hok.fresh le)
/-- a loop over zip(t, l), of one length -/
theorem for_zipTL {K : PySem.W.Frag} {a b : Addr} {xs ys : List V} {g : TG} {tb : TS} {D : Ends} {σ : L2.St} {H : Hp} (hl : xs.length = ys.length) (Pv : Nat → L2.St → Hp → Prop) (h0 : Pv 0 σ H) (hq : ∀ i σ H, Pv i σ H → SqT K H a xs ∧ SqL K H b ys)
    (hs : ∀ (i : Nat) (x y : V) (T : Addr) (σ : L2.St) (G : Hp), xs[i]? = some x → ys[i]? = some y → Pv i σ G → G T = none → g (.ref T) σ (upd G T (.tup [x, y])) fun σ2 G2 => tb { D with nx := Pv (i + 1), ct := Pv (i + 1), bk := D.nx } σ2 G2) (hd : ∀ σ G, Pv xs.length σ G → D.nx σ G) :
    ∃ W : Nat → Nat → L2.St → Hp → Prop, (∃ m, W 0 m σ H) ∧ ∀ i m σ H, W i m σ H → ((ItTL K a b).stop i H ∧ D.nx σ H) ∨ ((ItTL K a b).go i H ∧ ∃ N : L2.St → Hp → Prop, (∀ σ' H', N σ' H' → ∃ m', m' < m ∧ W (i + 1) m' σ' H') ∧
      ∀ v H', (ItTL K a b).yld i H v H' → g v σ H' fun σ2 H2 => tb { D with nx := N, ct := N, bk := D.nx } σ2 H2) := by
  refine ⟨fun i m σ G => m + i = xs.length ∧ Pv i σ G, ⟨xs.length, rfl, h0⟩, fun i m σ G hw => ?_⟩
  obtain ⟨hm, p⟩ := hw
  obtain ⟨qx, qy⟩ := hq i σ G p
  cases m with
  | zero =>
    have e : i = xs.length := by omega
    subst e
    exact .inl ⟨⟨xs, ys, qx, qy, rfl, hl.symm⟩, hd σ G p⟩
  | succ m =>
    have l1 : i < xs.length := by omega
    have l2 : i < ys.length := by omega
    refine .inr ⟨⟨xs, ys, _, _, qx, qy, List.getElem?_eq_getElem l1, List.getElem?_eq_getElem l2⟩, Pv (i + 1), fun σ' G' p' => ⟨m, Nat.lt_succ_self _, by omega, p'⟩, fun v G' y => ?_⟩
    obtain ⟨T, x, y, rfl, nT, rfl, f1, f2⟩ := y
    exact hs i x y T σ G (f1 xs qx) (f2 ys qy) p nT
end KS
namespace KS
open PySem PySem.Spec PyProof.Rows L2
/-! ### what the program's own helpers keep, for good values -/
def spFF (K : PySem.W.Frag) : Sp := fun xs H Q _ => ∃ (t : Addr) (m : Int) (vs : List Int), xs = [.ref t, .int m] ∧ SqT K H t (vs.map V.int) ∧ vs.Nodup ∧ (∀ v ∈ vs, 1 ≤ v ∧ v ≤ m) ∧ ∀ H', Same H H' → Q .non H'
def spCheckF (K : PySem.W.Frag) : Sp := fun xs H Q _ => ∃ (n : Nat) (t : Addr) (vs : List Int), xs = [.int n, .ref t] ∧ SqT K H t (vs.map V.int) ∧ Vals9 n vs ∧ n ≤ 24 ∧ ∀ H', Same H H' → Q .non H'
def spAlong (K : PySem.W.Frag) : Sp := fun xs H Q _ => ∃ (g t : Addr) (gs : List V) (ls : List (List Int)) (vs : List Int), xs = [.ref g, .ref t] ∧ SqT K H g gs ∧ Paired (TupI K H) gs ls ∧
  (∀ l ∈ ls, (∀ k ∈ l, ∃ j : Nat, k = (j : Int) ∧ j < vs.length) ∧ l.length ≤ 24) ∧ SqT K H t (vs.map V.int) ∧ ∀ H' u, Same H H' → SqT K H' u ((srtTo vs ls).map V.int) → H u = none → Q (.ref u) H'
theorem inV_take {vs : List Int} (nd : vs.Nodup) {i : Nat} {v : Int} (h : vs[i]? = some v) : inV (.int v) ((vs.take i).map V.int) = false := by
  unfold inV
  rw [List.any_eq_false]
  intro x hx
  obtain ⟨y, hy, rfl⟩ := List.mem_map.mp hx
  obtain ⟨j, hj⟩ := List.mem_iff_getElem?.mp hy
  rw [List.getElem?_take] at hj
  split at hj
  · rename_i hlt
    show ¬ ((y == v) = true)
    intro e
    have e' : y = v := by simpa using e
    subst e'
    obtain ⟨l1, e1⟩ := List.getElem?_eq_some_iff.mp h
    obtain ⟨l2, e2⟩ := List.getElem?_eq_some_iff.mp hj
    have := (List.pairwise_iff_getElem.mp nd) j i l2 l1 hlt
    rw [e1, e2] at this
    exact this rfl
  · cases hj
theorem flat_ints (l : List Int) : (l.map V.int).all flatV = true := by
  rw [List.all_eq_true]
  intro x hx
  obtain ⟨y, _, rfl⟩ := List.mem_map.mp hx
  rfl
theorem cut_take {l : List V} {i : Nat} (h : i ≤ l.length) : cutV l none (some (i : Int)) = l.take i := by
  unfold cutV
  have e0 : HT.sIx l.length 0 none = 0 := rfl
  have e1 : HT.sIx l.length l.length (some (i : Int)) = i := by
    rw [HT.sIx_nat]
    omega
  rw [e0, e1]
  simp
theorem cut_not {l : List V} {i : Nat} (h : i < l.length) : ¬ (HT.sIx l.length 0 none = 0 ∧ HT.sIx l.length l.length (some (i : Int)) = l.length) := by
  intro z
  have e1 : HT.sIx l.length l.length (some (i : Int)) = i := by
    rw [HT.sIx_nat]
    omega
  omega
theorem lns_ok {b : Bool} {cs : List Cell} {vs : List Int} (hl : cs.length ≤ 24) (hv : vs.length = cs.length) : ∀ l ∈ lnsOf b cs, (∀ k ∈ l, ∃ j : Nat, k = (j : Int) ∧ j < vs.length) ∧ l.length ≤ 24 := fun l h => by
  have := lns_mem h
  rw [hv]
  exact ⟨this.1, by omega⟩
end KS
namespace KS
open PySem PySem.Spec PyProof.Rows L2
section
variable {K : PySem.W.Frag} {σ : L2.St} {H : Hp} {Q : VK} {ta : TA}
theorem catA_ok2 {a b : Addr} {xs ys : List V} (ha : SqT K H a xs) (hb : SqT K H b ys) (hl : xs.length + ys.length ≤ 64)
    (k : ∀ H' u, Same H H' → SqT K H' u (xs ++ ys) → Q (.ref u) H') : rCatA K (.ref a) (.ref b) H Q := by
  refine ⟨a, b, xs, ys, rfl, rfl, ha, hb, Nat.le_of_lt (small64 hl), fun e => ?_, fun _ e => ?_, fun _ _ p np => ?_⟩
  · subst e
    exact k H b (Same.refl _) hb
  · subst e
    exact k H a (Same.refl _) (by rw [List.append_nil]; exact ha)
  · exact k _ p (same_new np) (SqT.of upd_same)
theorem cut_to2 {xs : List V} {k : Nat} (h : k ≤ xs.length) : cutV xs none (some (k : Int)) = xs.take k := by
  unfold cutV
  rw [HT.sIx_none, HT.sIx_nat, Nat.min_eq_left h]
  simp
theorem cut_from2 {xs : List V} {k : Nat} (h : k ≤ xs.length) : cutV xs (some (k : Int)) none = xs.drop k := by
  unfold cutV
  rw [HT.sIx_none, HT.sIx_nat, Nat.min_eq_left h]
  exact List.take_of_length_le (by rw [List.length_drop]; exact Nat.le_refl _)
theorem slTo_ok2 {a : Addr} {xs : List V} {n : Nat} (ha : SqT K H a xs) (hn : n ≤ xs.length) (k : ∀ H' u, Same H H' → SqT K H' u (xs.take n) → Q (.ref u) H') : rSlA K (.ref a) none (some (n : Int)) H Q := by
  refine ⟨a, xs, rfl, ha, fun z => ?_, fun _ p np => ?_⟩
  · obtain ⟨_, z2⟩ := z
    rw [show HT.sIx xs.length xs.length (some (n : Int)) = min n xs.length from HT.sIx_nat _ _ n] at z2
    have e : n = xs.length := by omega
    refine k H a (Same.refl _) ?_
    rw [e, List.take_length]
    exact ha
  · refine k _ p (same_new np) (SqT.of ?_)
    rw [upd_same, cut_to2 hn]
theorem slFrom_ok2 {a : Addr} {xs : List V} {n : Nat} (ha : SqT K H a xs) (hn : n ≤ xs.length) (k : ∀ H' u, Same H H' → SqT K H' u (xs.drop n) → Q (.ref u) H') : rSlA K (.ref a) (some (n : Int)) none H Q := by
  refine ⟨a, xs, rfl, ha, fun z => ?_, fun _ p np => ?_⟩
  · obtain ⟨z1, _⟩ := z
    rw [show HT.sIx xs.length 0 (some (n : Int)) = min n xs.length from HT.sIx_nat _ _ n] at z1
    refine k H a (Same.refl _) ?_
    rcases Nat.eq_zero_or_pos n with e | e
    · subst e
      exact ha
    · have e2 : xs.length = 0 := by omega
      have e3 := List.eq_nil_of_length_eq_zero e2
      subst e3
      simpa using ha
  · refine k _ p (same_new np) (SqT.of ?_)
    rw [upd_same, cut_from2 hn]
end
end KS
namespace KS
open PySem PySem.Spec PyProof.Rows L2
/-! ### ranked tables of rectangles -/
structure Tab (n : Nat) (vs : List Int) : Prop where
  len : vs.length = n
  nd : vs.Nodup
  bd : ∀ v ∈ vs, 1 ≤ v ∧ v ≤ (n : Int)
theorem Tab.perm {n : Nat} {as bs : List Int} (h : Tab n as) (p : as.Perm bs) : Tab n bs := ⟨p.length_eq ▸ h.len, p.nodup_iff.mp h.nd, fun v m => h.bd v (p.mem_iff.mpr m)⟩
theorem tab_low (n : Nat) : Tab n (rgI 1 ((n : Int) + 1)) := by
  refine ⟨by rw [rgI_len]; omega, rgI_nd _ _, fun v h => ?_⟩
  have := rgI_mem h
  omega
/-- a rectangle's sides -/
structure Sides (r c : Nat) : Prop where
  r1 : 1 ≤ r
  c1 : 1 ≤ c
  rc : r * c ≤ 24
theorem Sides.le {r c : Nat} (h : Sides r c) : r ≤ 24 ∧ c ≤ 24 := by
  have h1 := h.r1
  have h2 := h.c1
  have h3 := h.rc
  constructor
  · have := Nat.le_mul_of_pos_right r h2
    omega
  · have := Nat.le_mul_of_pos_left c h1
    omega
def spRcOk : Sp := fun xs H Q _ => ∃ r c : Nat, xs = [.int (r : Nat), .int (c : Nat)] ∧ Sides r c ∧ Q .non H
def spTabOk (K : PySem.W.Frag) : Sp := fun xs H Q _ => ∃ (n : Nat) (t : Addr) (vs : List Int), xs = [.int (n : Nat), .ref t] ∧ SqT K H t (vs.map V.int) ∧ Tab n vs ∧ ∀ H', Same H H' → Q .non H'
/-- how many values of at least the limit stand in the last rows -/
def lastN (r c : Nat) (vs : List Int) (lim : Int) (k : Nat) : Nat := ((vs.drop ((r - k) * c)).filter fun v => decide (lim ≤ v)).length
def spLast (K : PySem.W.Frag) : Sp := fun xs H Q _ => ∃ (r c k : Nat) (t : Addr) (vs : List Int) (lim : Int), xs = [.int (r : Nat), .int (c : Nat), .ref t, .int lim, .int (k : Nat)] ∧ Sides r c ∧ SqT K H t (vs.map V.int) ∧ Tab (r * c) vs ∧ k ≤ r ∧
  ∀ H', Same H H' → Q (.int (lastN r c vs lim k : Nat)) H'
def rev5 {α : Type} : List α → List α
  | [a, b, c, d, e] => [e, d, c, b, a]
  | _ => []
theorem rev5_rel {zs : List V} {ws : List Value} (r : Vals zs ws) : Vals (rev5 zs) (rev5 ws) := by
  cases r with
  | nil => exact .nil
  | cons r1 r =>
    cases r with
    | nil => exact .nil
    | cons r2 r =>
      cases r with
      | nil => exact .nil
      | cons r3 r =>
        cases r with
        | nil => exact .nil
        | cons r4 r =>
          cases r with
          | nil => exact .nil
          | cons r5 r =>
            cases r with
            | nil => exact .cons r5 (.cons r4 (.cons r3 (.cons r2 (.cons r1 .nil))))
            | cons r6 r => exact .nil
/-- the law's own draws -/
def spSides : Sp := fun xs H Q _ => ∃ (p : Addr) (m : Nat), xs = [.ref p, .int (m : Nat)] ∧ PoolO (H p) ∧ 1 ≤ m ∧ m ≤ 24 ∧ ∀ H' t (r c : Nat), KeepX p H H' → PoolO (H' p) → H' t = some (.tup [.int (r : Nat), .int (c : Nat)]) → Sides r c → r * c ≤ m → Q (.ref t) H'
def spMixed (K : PySem.W.Frag) : Sp := fun xs H Q _ => ∃ (p : Addr) (n : Nat), xs = [.ref p, .int (n : Nat)] ∧ PoolO (H p) ∧ 1 ≤ n ∧ n ≤ 24 ∧ ∀ H' t vs, KeepX p H H' → PoolO (H' p) → SqT K H' t (vs.map V.int) → Tab n vs → Q (.ref t) H'
def spIs : Sp := fun xs H Q _ => ∃ i j : Int, xs = [.int i, .int j] ∧ Q (.bl (decide (i = j))) H
end KS
namespace KS
/-! ### a rectangle as a plan -/
def rowC (r w : Nat) : List Cell := (List.range w).map fun (c : Nat) => ((r : Int), (c : Int))
def rectC (h w : Nat) : List Cell := (List.range h).flatMap fun r => rowC r w
theorem rect_more (h w : Nat) : rectC (h + 1) w = rectC h w ++ rowC h w := by
  unfold rectC
  rw [List.range_succ, List.flatMap_append]
  simp
theorem rowC_succ (r j : Nat) : rowC r (j + 1) = rowC r j ++ [((r : Int), (j : Int))] := by
  unfold rowC
  rw [List.range_succ, List.map_append]
  rfl
theorem rowC_len (r j : Nat) : (rowC r j).length = j := by
  unfold rowC
  rw [List.length_map, List.length_range]
theorem rectC_len : ∀ h w, (rectC h w).length = h * w
  | 0, w => by rw [Nat.zero_mul]; rfl
  | h + 1, w => by rw [rect_more, List.length_append, rectC_len h w, rowC_len, Nat.succ_mul]
instance : DecidableRel lt2 := fun a b => by
  unfold lt2
  exact inferInstance
instance (c : Cell) : Decidable (InGrid c) := by
  unfold InGrid
  exact inferInstance
def rowN (c i : Nat) : List Nat := (List.range c).map fun j => i * c + j
def colN (r c j : Nat) : List Nat := (List.range r).map fun i => i * c + j
def rowsN (r c : Nat) : List (List Nat) := (List.range r).map (rowN c)
def colsN (r c : Nat) : List (List Nat) := (List.range c).map (colN r c)
def sidesL : List (Nat × Nat) := ((List.range 9).flatMap fun r => (List.range 9).map fun c => (r, c)).filter fun p => decide (1 ≤ p.1 ∧ 1 ≤ p.2 ∧ p.1 * p.2 ≤ 24)
structure Sides8 (r c : Nat) : Prop where
  s : Sides r c
  r8 : r ≤ 8
  c8 : c ≤ 8
theorem sides_mem {r c : Nat} (h : Sides8 r c) : (r, c) ∈ sidesL := by
  unfold sidesL
  rw [List.mem_filter, List.mem_flatMap]
  refine ⟨⟨r, List.mem_range.mpr (by have := h.r8; omega), List.mem_map.mpr ⟨c, List.mem_range.mpr (by have := h.c8; omega), rfl⟩⟩, decide_eq_true ⟨h.s.r1, h.s.c1, h.s.rc⟩⟩
theorem rc_lines : ∀ p ∈ sidesL, lnsN false (rectC p.1 p.2) = rowsN p.1 p.2 ∧ lnsN true (rectC p.1 p.2) = colsN p.1 p.2 := by decide +kernel
theorem rc_good0 : ∀ p ∈ sidesL, (rectC p.1 p.2).Pairwise lt2 ∧ (∀ c ∈ rectC p.1 p.2, InGrid c) ∧ rectC p.1 p.2 ≠ [] := by decide +kernel
theorem rc_rows : ∀ p ∈ sidesL, ∀ m, m < p.1 + 1 → (List.range (p.1 * p.2)).drop ((p.1 - m) * p.2) = ((rowsN p.1 p.2).drop (p.1 - m)).flatten := by decide +kernel
theorem rc_cols : ∀ p ∈ sidesL, ∀ m, m < p.1 + 1 → ((rowsN p.1 p.2).drop (p.1 - m)).flatten.Perm ((colsN p.1 p.2).map (List.drop (p.1 - m))).flatten := by decide +kernel
theorem rc_good {r c : Nat} (h : Sides8 r c) : Good (rectC r c) := by
  obtain ⟨a, b, d⟩ := rc_good0 _ (sides_mem h)
  exact ⟨a, b, d⟩
/-! ### how many are at least low -/
def cntG (low : Int) (l : List Int) : Nat := l.countP fun v => decide (low ≤ v)
theorem cntG_perm {low : Int} {a b : List Int} (h : a.Perm b) : cntG low a = cntG low b := h.countP_eq _
theorem cntG_sortI (low : Int) (l : List Int) : cntG low (sortI l) = cntG low l := cntG_perm (sortI_perm l)
theorem cntG_len (low : Int) (l : List Int) : cntG low l ≤ l.length := List.countP_le_length
theorem cntG_flat (low : Int) : ∀ ls : List (List Int), cntG low ls.flatten = (ls.map (cntG low)).sum
  | [] => rfl
  | l :: ls => by
    rw [List.flatten_cons, List.map_cons, List.sum_cons, ← cntG_flat low ls]
    exact List.countP_append
/-- the last of a list that ascends -/
theorem cntG_last {low : Int} : ∀ {L : List Int} {m : Nat}, L.Pairwise (· ≤ ·) → m ≤ L.length → cntG low (L.drop (L.length - m)) = min m (cntG low L)
  | [], m, _, h => by
    have : m = 0 := by simpa using h
    subst this
    rfl
  | x :: t, m, pw, h => by
    obtain ⟨p1, p2⟩ := List.pairwise_cons.mp pw
    rw [List.length_cons] at h ⊢
    by_cases c : m = t.length + 1
    · rw [c, Nat.sub_self, List.drop_zero]
      have := cntG_len low (x :: t)
      rw [List.length_cons] at this
      omega
    · have e : t.length + 1 - m = (t.length - m) + 1 := by omega
      rw [e, List.drop_succ_cons, cntG_last p2 (by omega)]
      by_cases d : low ≤ x
      · have e1 : cntG low t = t.length := by
          unfold cntG
          rw [List.countP_eq_length]
          intro v hv
          have := p1 v hv
          exact decide_eq_true (by omega)
        have e2 : cntG low (x :: t) = cntG low t + 1 := List.countP_cons_of_pos (decide_eq_true d)
        omega
      · have e2 : cntG low (x :: t) = cntG low t := List.countP_cons_of_neg (by simpa using d)
        rw [e2]
theorem cntG_at {low : Int} {L : List Int} (pw : L.Pairwise (· ≤ ·)) {j : Nat} {v : Int} (h : L[j]? = some v) : low ≤ v ↔ L.length - j ≤ cntG low L := by
  have hj := (List.getElem?_eq_some_iff.mp h).1
  have e := cntG_last (low := low) pw (m := L.length - j) (by omega)
  have e1 : L.length - (L.length - j) = j := by omega
  rw [e1] at e
  have hd : L.drop j = v :: L.drop (j + 1) := by
    rw [List.drop_eq_getElem_cons hj]
    have := (List.getElem?_eq_some_iff.mp h).2
    rw [this]
  constructor
  · intro q
    have : cntG low (L.drop j) = (L.drop j).length := by
      unfold cntG
      rw [List.countP_eq_length]
      intro z hz
      rw [hd] at hz
      rcases List.mem_cons.mp hz with w | w
      · rw [w]
        exact decide_eq_true q
      · have pw2 := pw.sublist (List.drop_sublist j L)
        rw [hd] at pw2
        have := (List.pairwise_cons.mp pw2).1 z w
        exact decide_eq_true (by omega)
    rw [List.length_drop] at this
    omega
  · intro q
    have e2 : cntG low (L.drop j) = (L.drop j).length := by
      rw [List.length_drop]
      omega
    unfold cntG at e2
    rw [List.countP_eq_length] at e2
    exact of_decide_eq_true (e2 v (by rw [hd]; exact List.mem_cons_self))
theorem getN_drop (vs : List Int) (ks : List Nat) (n : Nat) : getN vs (ks.drop n) = (getN vs ks).drop n := by
  unfold getN
  exact List.map_drop
theorem getN_all {vs : List Int} {n : Nat} (h : vs.length = n) : getN vs (List.range n) = vs := by
  refine List.ext_getElem? fun i => ?_
  unfold getN
  rw [List.getElem?_map]
  by_cases c : i < n
  · rw [List.getElem?_range c]
    show some (vs.getD i 0) = _
    rw [List.getD_eq_getElem?_getD, List.getElem?_eq_getElem (by omega)]
    rfl
  · rw [List.getElem?_eq_none (by rw [List.length_range]; omega), List.getElem?_eq_none (by omega)]
    rfl
theorem getN_flat' (vs : List Int) : ∀ ls : List (List Nat), getN vs ls.flatten = (ls.map (getN vs)).flatten
  | [] => rfl
  | l :: ls => by
    rw [List.flatten_cons, List.map_cons, List.flatten_cons, ← getN_flat' vs ls]
    exact List.map_append
theorem srt_line {b : Bool} {cs : List Cell} {vs : List Int} (h : vs.length = cs.length) {ks : List Nat} (hk : ks ∈ lnsN b cs) : getN (srt b cs vs) ks = sortI (getN vs ks) := by
  rw [srt_up]
  exact fold_get (by rw [h]; exact lns_parts b cs) ks hk
def rowK (low : Int) (vs : List Int) (c i : Nat) : Nat := cntG low (getN vs (rowN c i))
def colK (low : Int) (vs : List Int) (r c j : Nat) : Nat := cntG low (getN vs (colN r c j))
def inR (low : Int) (vs : List Int) (r c : Nat) : List Nat := (List.range r).map (rowK low vs c)
theorem last_cnt (r c : Nat) (vs : List Int) (lim : Int) (k : Nat) : lastN r c vs lim k = cntG lim (vs.drop ((r - k) * c)) := by
  unfold lastN cntG
  rw [List.countP_eq_length_filter]
section
variable {r c m : Nat} {low : Int} {vs : List Int} (sd : Sides8 r c) (hm : m ≤ r) (hv : vs.length = r * c)
include sd hm hv
/-- counted by rows -/
theorem last_rows : lastN r c vs low m = ((inR low vs r c).drop (r - m)).sum := by
  rw [last_cnt]
  conv => lhs; rw [← getN_all hv]
  rw [← getN_drop, rc_rows _ (sides_mem sd) m (by show m < r + 1; omega), getN_flat', cntG_flat]
  unfold inR rowsN
  rw [← List.map_drop, ← List.map_drop, List.map_map, List.map_map]
  rfl
/-- counted by columns -/
theorem last_cols : lastN r c vs low m = ((List.range c).map fun j => cntG low ((getN vs (colN r c j)).drop (r - m))).sum := by
  rw [last_cnt]
  conv => lhs; rw [← getN_all hv]
  rw [← getN_drop, rc_rows _ (sides_mem sd) m (by show m < r + 1; omega)]
  have p := rc_cols _ (sides_mem sd) m (by show m < r + 1; omega)
  have p2 : (getN vs ((rowsN r c).drop (r - m)).flatten).Perm (getN vs ((colsN r c).map (List.drop (r - m))).flatten) := p.map _
  rw [cntG_perm p2, getN_flat', cntG_flat]
  unfold colsN
  rw [List.map_map, List.map_map, List.map_map]
  congr 1
  refine List.map_congr_left fun j _ => ?_
  show cntG low (getN vs ((colN r c j).drop (r - m))) = _
  rw [getN_drop]
/-- behind a sort of the rows -/
theorem last_R : lastN r c (srt false (rectC r c) vs) low m = ((inR low vs r c).drop (r - m)).sum := by
  have hl : vs.length = (rectC r c).length := by rw [rectC_len]; exact hv
  rw [last_rows sd hm (by rw [srt_len]; exact hv)]
  congr 2
  unfold inR
  refine List.map_congr_left fun i hi => ?_
  unfold rowK
  rw [srt_line hl (by rw [(rc_lines _ (sides_mem sd)).1]; exact List.mem_map.mpr ⟨i, hi, rfl⟩), cntG_sortI]
/-- behind a sort of the columns -/
theorem last_C : lastN r c (srt true (rectC r c) vs) low m = ((List.range c).map fun j => min m (colK low vs r c j)).sum := by
  have hl : vs.length = (rectC r c).length := by rw [rectC_len]; exact hv
  rw [last_cols sd hm (by rw [srt_len]; exact hv)]
  congr 1
  refine List.map_congr_left fun j hj => ?_
  have cl : (sortI (getN vs (colN r c j))).length = r := by
    rw [sortI_len]
    unfold getN colN
    rw [List.length_map, List.length_map, List.length_range]
  rw [srt_line hl (by rw [(rc_lines _ (sides_mem sd)).2]; exact List.mem_map.mpr ⟨j, hj, rfl⟩)]
  have := cntG_last (low := low) (sortI_asc (getN vs (colN r c j))) (m := m) (by omega)
  rw [cl, cntG_sortI] at this
  exact this
omit hm in
/-- a column, once the rows are sorted -/
theorem col_R {j : Nat} (hj : j < c) : colK low (srt false (rectC r c) vs) r c j = (inR low vs r c).countP fun x => decide (c - j ≤ x) := by
  have hl : vs.length = (rectC r c).length := by rw [rectC_len]; exact hv
  unfold colK cntG inR
  rw [List.countP_map]
  unfold getN colN
  rw [List.map_map, List.countP_map]
  refine List.countP_congr fun i hi => ?_
  have hrow : rowN c i ∈ lnsN false (rectC r c) := by
    rw [(rc_lines _ (sides_mem sd)).1]
    exact List.mem_map.mpr ⟨i, hi, rfl⟩
  have e := srt_line hl hrow
  have hat : (sortI (getN vs (rowN c i)))[j]? = some ((srt false (rectC r c) vs).getD (i * c + j) 0) := by
    rw [← e]
    unfold getN rowN
    rw [List.getElem?_map, List.getElem?_map, List.getElem?_range hj]
    rfl
  have cl : (sortI (getN vs (rowN c i))).length = c := by
    rw [sortI_len]
    unfold getN rowN
    rw [List.length_map, List.length_map, List.length_range]
  have := cntG_at (low := low) (sortI_asc _) hat
  rw [cl, cntG_sortI] at this
  show decide (low ≤ (srt false (rectC r c) vs).getD (i * c + j) 0) = true ↔ decide (c - j ≤ rowK low vs c i) = true
  rw [decide_eq_true_iff, decide_eq_true_iff]
  exact this
end
/-! ### the sum, counted the other way -/
theorem tail_sum {x c : Nat} (h : x ≤ c) : ((List.range c).map fun j => if c - j ≤ x then 1 else 0).sum = x := by
  induction c generalizing x with
  | zero =>
    have : x = 0 := by omega
    subst this
    rfl
  | succ c ih =>
    rw [List.range_succ_eq_map, List.map_cons, List.sum_cons, List.map_map]
    by_cases e : x = c + 1
    · subst e
      rw [if_pos (by omega)]
      have := ih (x := c) (Nat.le_refl c)
      have e2 : ((List.range c).map ((fun j => if c + 1 - j ≤ c + 1 then 1 else 0) ∘ Nat.succ)) = (List.range c).map fun j => if c - j ≤ c then 1 else 0 := List.map_congr_left fun j _ => by
        show (if c + 1 - (j + 1) ≤ c + 1 then 1 else 0) = if c - j ≤ c then 1 else 0
        rw [if_pos (by omega), if_pos (by omega)]
      rw [e2, this]
      omega
    · rw [if_neg (by omega), Nat.zero_add]
      have e2 : ((List.range c).map ((fun j => if c + 1 - j ≤ x then 1 else 0) ∘ Nat.succ)) = (List.range c).map fun j => if c - j ≤ x then 1 else 0 := List.map_congr_left fun j _ => by
        show (if c + 1 - (j + 1) ≤ x then 1 else 0) = if c - j ≤ x then 1 else 0
        have : c + 1 - (j + 1) = c - j := by omega
        rw [this]
      rw [e2]
      exact ih (by omega)
theorem sum_add (f g : Nat → Nat) : ∀ l : List Nat, (l.map fun j => f j + g j).sum = (l.map f).sum + (l.map g).sum
  | [] => rfl
  | x :: l => by
    rw [List.map_cons, List.map_cons, List.map_cons, List.sum_cons, List.sum_cons, List.sum_cons, sum_add f g l]
    omega
theorem sum_le {f g : Nat → Nat} : ∀ {l : List Nat}, (∀ j ∈ l, f j ≤ g j) → (l.map f).sum ≤ (l.map g).sum
  | [], _ => Nat.le_refl _
  | x :: l, h => by
    rw [List.map_cons, List.map_cons, List.sum_cons, List.sum_cons]
    have := sum_le (f := f) (g := g) fun j hj => h j (List.mem_cons_of_mem _ hj)
    have := h x List.mem_cons_self
    omega
theorem sum_zero : ∀ l : List Nat, (l.map fun _ => 0).sum = 0
  | [] => rfl
  | x :: l => by rw [List.map_cons, List.sum_cons, sum_zero l]
theorem tails_sum {c : Nat} : ∀ {L : List Nat}, (∀ x ∈ L, x ≤ c) → ((List.range c).map fun j => L.countP fun x => decide (c - j ≤ x)).sum = L.sum
  | [], _ => by
    show ((List.range c).map fun _ => 0).sum = 0
    exact sum_zero _
  | x :: L, h => by
    have ih := tails_sum (L := L) fun z hz => h z (List.mem_cons_of_mem _ hz)
    have e : (fun j => (x :: L).countP fun x => decide (c - j ≤ x)) = fun j => (L.countP fun x => decide (c - j ≤ x)) + if c - j ≤ x then 1 else 0 := by
      funext j
      rw [List.countP_cons]
      congr 1
      by_cases d : c - j ≤ x
      · rw [if_pos d, if_pos (decide_eq_true d)]
      · rw [if_neg d, if_neg (by simpa using d)]
    rw [e, sum_add, ih, tail_sum (h x List.mem_cons_self), List.sum_cons]
    omega
/-! ### the fullest rows -/
def nI (l : List Nat) : List Int := l.map fun (n : Nat) => (n : Int)
theorem cntG_nI (t : Nat) (l : List Nat) : cntG (t : Int) (nI l) = l.countP fun x => decide (t ≤ x) := by
  unfold cntG nI
  rw [List.countP_map]
  refine List.countP_congr fun x _ => ?_
  show decide ((t : Int) ≤ (x : Int)) = true ↔ _
  rw [decide_eq_true_iff, decide_eq_true_iff]
  omega
theorem pre_perm {α : Type} [DecidableEq α] {β : Type} [DecidableEq β] {f : α → β} : ∀ {l : List β} {rows : List α}, l.Perm (rows.map f) → ∃ rows' : List α, rows'.Perm rows ∧ rows'.map f = l
  | [], rows, h => by
    have := h.length_eq
    rw [List.length_map] at this
    have : rows = [] := List.length_eq_zero_iff.mp this.symm
    subst this
    exact ⟨[], List.Perm.refl _, rfl⟩
  | x :: l, rows, h => by
    obtain ⟨a, ha, e⟩ := List.mem_map.mp (h.mem_iff.mp List.mem_cons_self)
    have p := List.perm_cons_erase ha
    have h2 := h.trans (p.map f)
    rw [List.map_cons, e] at h2
    obtain ⟨rows', q1, q2⟩ := pre_perm h2.cons_inv
    exact ⟨a :: rows', (q1.cons a).trans p.symm, by rw [List.map_cons, e, q2]⟩
theorem inR_le {low : Int} {vs : List Int} {r c : Nat} : ∀ x ∈ inR low vs r c, x ≤ c := by
  intro x hx
  obtain ⟨i, _, rfl⟩ := List.mem_map.mp hx
  unfold rowK
  have := cntG_len low (getN vs (rowN c i))
  have e : (getN vs (rowN c i)).length = c := by
    unfold getN rowN
    rw [List.length_map, List.length_map, List.length_range]
  omega
theorem inR_len (low : Int) (vs : List Int) (r c : Nat) : (inR low vs r c).length = r := by
  unfold inR
  rw [List.length_map, List.length_range]
/-- sorted, as natural numbers: the rows in the order of their counts -/
theorem sort_nat (l : List Nat) : ∃ l' : List Nat, l'.Perm l ∧ sortI (nI l) = nI l' := by
  obtain ⟨l', p, e⟩ := pre_perm (f := fun (n : Nat) => (n : Int)) (show (sortI (nI l)).Perm (l.map fun (n : Nat) => (n : Int)) from sortI_perm _)
  exact ⟨l', p, e.symm⟩
section
variable {r c m : Nat} {low : Int} {vs : List Int} (sd : Sides8 r c) (hm : m ≤ r) (hv : vs.length = r * c)
include sd hm hv
/-- rows, then columns: the fullest rows -/
theorem last_RC {l' : List Nat} (hp : l'.Perm (inR low vs r c)) (hs : sortI (nI (inR low vs r c)) = nI l') : lastN r c (srt true (rectC r c) (srt false (rectC r c) vs)) low m = (l'.drop (r - m)).sum := by
  have ll : l'.length = r := by rw [hp.length_eq, inR_len]
  rw [last_C sd hm (by rw [srt_len]; exact hv)]
  have key : ∀ j ∈ List.range c, min m (colK low (srt false (rectC r c) vs) r c j) = (l'.drop (r - m)).countP fun x => decide (c - j ≤ x) := fun j hj => by
    rw [col_R sd hv (List.mem_range.mp hj), ← hp.countP_eq, ← cntG_nI, ← cntG_nI]
    have pw : (nI l').Pairwise (· ≤ ·) := by rw [← hs]; exact sortI_asc _
    have nl : (nI l').length = r := by
      unfold nI
      rw [List.length_map]
      exact ll
    have := cntG_last (low := ((c - j : Nat) : Int)) pw (m := m) (by omega)
    rw [nl] at this
    rw [← this]
    unfold nI
    rw [List.map_drop]
  rw [List.map_congr_left key]
  exact tails_sum fun x hx => inR_le (low := low) (vs := vs) (r := r) x (hp.mem_iff.mp (List.mem_of_mem_drop hx))
omit hm in
/-- no columns hold less than the fullest rows -/
theorem full_le {l' : List Nat} (hp : l'.Perm (inR low vs r c)) : (l'.drop (r - m)).sum ≤ ((List.range c).map fun j => min m (colK low vs r c j)).sum := by
  obtain ⟨rows, p, e⟩ := pre_perm (show l'.Perm ((List.range r).map (rowK low vs c)) from hp)
  have ll : rows.length = r := by rw [p.length_eq, List.length_range]
  have h1 : (l'.drop (r - m)).sum = ((rows.drop (r - m)).map (rowK low vs c)).sum := by rw [← e, List.map_drop]
  -- counted by columns
  have h2 : ∀ R : List Nat, (R.map (rowK low vs c)).sum = ((List.range c).map fun j => R.countP fun i => decide (low ≤ vs.getD (i * c + j) 0)).sum := by
    intro R
    induction R with
    | nil =>
      show 0 = ((List.range c).map fun _ => 0).sum
      exact (sum_zero _).symm
    | cons i R ih =>
      rw [List.map_cons, List.sum_cons, ih]
      have e : (fun j => (i :: R).countP fun i => decide (low ≤ vs.getD (i * c + j) 0)) = fun j => (R.countP fun i => decide (low ≤ vs.getD (i * c + j) 0)) + if low ≤ vs.getD (i * c + j) 0 then 1 else 0 := by
        funext j
        rw [List.countP_cons]
        congr 1
        by_cases d : low ≤ vs.getD (i * c + j) 0
        · rw [if_pos d, if_pos (decide_eq_true d)]
        · rw [if_neg d, if_neg (by simpa using d)]
      rw [e, sum_add, Nat.add_comm]
      congr 1
      unfold rowK cntG getN rowN
      rw [List.map_map, List.countP_map]
      generalize List.range c = js
      induction js with
      | nil => rfl
      | cons j js ih2 =>
        rw [List.countP_cons, List.map_cons, List.sum_cons, ih2, Nat.add_comm]
        congr 1
        show (if decide (low ≤ vs.getD (i * c + j) 0) = true then 1 else 0) = _
        by_cases d : low ≤ vs.getD (i * c + j) 0
        · rw [if_pos d, if_pos (decide_eq_true d)]
        · rw [if_neg d, if_neg (by simpa using d)]
  rw [h1, h2]
  refine sum_le fun j hj => ?_
  have a1 : ((rows.drop (r - m)).countP fun i => decide (low ≤ vs.getD (i * c + j) 0)) ≤ m := by
    have := List.countP_le_length (p := fun i => decide (low ≤ vs.getD (i * c + j) 0)) (l := rows.drop (r - m))
    rw [List.length_drop] at this
    omega
  have a2 : ((rows.drop (r - m)).countP fun i => decide (low ≤ vs.getD (i * c + j) 0)) ≤ colK low vs r c j := by
    have s := (List.drop_sublist (r - m) rows).countP_le (p := fun i => decide (low ≤ vs.getD (i * c + j) 0))
    rw [p.countP_eq] at s
    have e2 : colK low vs r c j = (List.range r).countP fun i => decide (low ≤ vs.getD (i * c + j) 0) := by
      unfold colK cntG getN colN
      rw [List.map_map, List.countP_map]
      rfl
    omega
  omega
end
end KS
namespace KS
open PySem PySem.Spec PyProof.Rows L2
def topS (i : Nat) : Stmt := PySem.Challenge.pw_keepsort_k56_whole_the_last_rows.main.body.getD i (.Pass ⟨0, 0, 0, 0⟩)
abbrev sCell : Stmt := topS 34
abbrev sPool : Stmt := topS 35
abbrev sDraw : Stmt := topS 36
theorem scCell : FnScope ["_law_script", "_law_k", "_law_state", "_law_item"] ["_law_script", "_law_k"] (defScope sCell) := ⟨rfl, rfl, rfl, by decide +kernel, rfl, by decide +kernel, by decide +kernel⟩
theorem scPool : FnScope ["_law_item", "_law_digits"] ["_law_item"] (defScope sPool) := ⟨rfl, rfl, rfl, by decide +kernel, rfl, by decide +kernel, by decide +kernel⟩
theorem scDraw : FnScope ["_law_pool_here", "_law_most", "_law_state", "_law_digit"] ["_law_pool_here", "_law_most"] (defScope sDraw) := ⟨rfl, rfl, rfl, by decide +kernel, rfl, by decide +kernel, by decide +kernel⟩
section
variable {P : Program} {w : World} {K : PySem.W.Frag} {mg : Str → Option Value} {base : Heap}
theorem ok_cell {f : Addr} {fd : FuncData} (F : Fun K "_law_cell" "_law_cell" sCell f fd) (ml : mg "len" = none) : FnOk P w K mg base CX0 1 f fd ["_law_script", "_law_k"] (spCell K) := by
  refine F.ok scCell (fun vs H Q E h => ?_) (fun cdv A outer s H vs Q E hr h => ?_)
  · obtain ⟨a, ns, k, rfl, _⟩ := h
    rfl
  · obtain ⟨a, ns, k, rfl, hS, hk, q⟩ := h
    refine ⟨_, pss_cons (ps_if (pt_cmpR op_lt (pv 1) (pe_callB call_len_seq (by rfl) ml PySem.boot_len (pa_cons (pv 0) pa_nil)) (nomark _))
        (pss_one (ps_ret (pe_ix ix_list (pv 0) (pv 1) (fun _ _ => rfl)))) pss_nil)
      (pss_cons (ps_set (i := 2) scCell.nd rfl (.inl rfl) (pe_op op_mod (pe_op op_mul pe_int (pe_op op_add (pe_op op_add (pe_op op_mul (pv 1) (pv 1)) (pe_op op_mul pe_int (pv 1))) pe_int)) pe_int))
      (pss_cons (ps_for PassesOwn.never rfl (pi_list (pe_slice sl_list (pv 0) po_none (po_some pe_int))) (pg_name (i := 3) scCell.nd rfl (.inl rfl))
        (pss_one (ps_set (i := 2) scCell.nd rfl (.inl rfl) (pe_op op_mod (pe_op op_add (pe_op op_mul (pv 2) pe_int) (pv 3)) pe_int))))
      (pss_one (ps_ret (pv 2))))), ?_⟩
    refine ⟨_, rfl, _, rfl, a, ns.map V.int, rfl, .inl hS, _, _, rfl, rfl, _, rfl, ite2 (fun e => ?_) (fun e => ?_)⟩
    · have e0 : (k : Int) < ((ns.map V.int).length : Int) := of_decide_eq_true e
      rw [List.length_map] at e0
      have hj : k < ns.length := by omega
      refine ⟨_, rfl, _, rfl, a, _, _, .int ns[k], rfl, rfl, hS, atI_nat (j := k) ?_, q H _ (Same.refl H)⟩
      rw [List.getElem?_map, List.getElem?_eq_getElem hj]
      rfl
    · refine ⟨_, rfl, _, rfl, _, _, rfl, rfl, .inl ⟨by omega, by omega⟩, _, rfl, _, _, rfl, rfl, .inl ⟨by omega, by omega⟩, _, _, rfl, rfl, _, _, rfl, rfl, _, _, rfl, rfl, .inl ⟨by omega, by omega⟩, _, _, rfl, rfl, by show (0 : Int) < 2147483249; decide, ?_⟩
      refine ⟨_, rfl, 3, rfl, a, _, rfl, hS, fun c nc => ?_⟩
      have s1 := same_new (o := .lst (cutV (ns.map V.int) none (some 3))) nc
      have hc : SqL K (upd H c (.lst (cutV (ns.map V.int) none (some 3)))) c (cutV (ns.map V.int) none (some 3)) := SqL.of upd_same
      refine ⟨c, rfl, ⟨_, hc⟩, for_list (K := K) (a := c) (xs := cutV (ns.map V.int) none (some 3)) (fun i σ H' => ∃ (st : Int) (y : Option V), σ = [some (.ref a), some (.int k), some (.int st), y] ∧ 0 ≤ st ∧ st < 2147483249 ∧ H' = upd H c (.lst (cutV (ns.map V.int) none (some 3)))) ?_ ?_ ?_ ?_⟩
      · have b := int_mod_bd (60013 * ((k : Int) * k + 5 * k + 3)) (m := 2147483249) (by decide)
        exact ⟨_, none, rfl, b.1, b.2, rfl⟩
      · rintro i σ H' _ ⟨st, y, rfl, _, _, rfl⟩
        exact hc
      · rintro i x σ H' hi ⟨st, y, rfl, h0, h1, rfl⟩
        have hm : x ∈ ns.map V.int := by
          have := List.mem_of_getElem? hi
          unfold cutV at this
          exact List.mem_of_mem_drop (List.mem_of_mem_take this)
        obtain ⟨n, _, rfl⟩ := List.mem_map.mp hm
        have b := int_mod_bd (st * 41221 + n) (m := 2147483249) (by decide)
        refine ⟨_, rfl, _, _, rfl, rfl, .inl ⟨by omega, by omega⟩, _, rfl, _, _, rfl, rfl, _, _, rfl, rfl, by show (0 : Int) < 2147483249; decide, ?_⟩
        exact ⟨_, some (.int n), rfl, b.1, b.2, rfl⟩
      · rintro σ H' ⟨st, y, rfl, h0, h1, rfl⟩
        exact ⟨_, rfl, q _ _ s1⟩
theorem ok_pool {f : Addr} {fd : FuncData} (F : Fun K "_law_pool" "_law_pool" sPool f fd) (ma : mg "abs" = none) : FnOk P w K mg base CX0 1 f fd ["_law_item"] spPool := by
  refine F.ok scPool (fun vs H Q E h => ?_) (fun cdv A outer s H vs Q E hr h => ?_)
  · obtain ⟨n, rfl, _⟩ := h
    rfl
  · obtain ⟨n, rfl, q⟩ := h
    refine ⟨_, pss_cons (ps_set (i := 1) scPool.nd rfl (.inl rfl) (pe_ifExp (PW.pt (pw_or (pt_cmpR op_lt (pv 0) pe_int (nomark _)) (pw_or1 (pt_cmpR op_ge (pv 0) (pe_op op_pow pe_int pe_int) (nomark _)))))
        (pe_callB call_abs (by rfl) ma (by decide +kernel) (pa_cons (pv 0) pa_nil)) pe_int))
      (pss_one (ps_ret (pe_lst (pa_cons (pe_op op_mod (pv 0) pe_int) (pa_cons (pv 1) (pa_cons pe_int pa_nil)))))), ?_⟩
    have b := int_mod_bd n (m := 2147483249) (by decide)
    have fin : ∀ d : Int, 0 ≤ d → tRet (tLst (tCons (tOp (rI (fun _ j => 0 < j) fun i j => .int (i % j)) (tVar 0) (tC (.int 2147483249))) (tCons (tVar 1) (tCons (tC (.int 0)) tNil)))) { nx := fun _ H' => Q .non H', rt := Q } [some (.int n), some (.int d)] H := fun d hd => by
      refine ⟨_, rfl, _, _, rfl, rfl, by show (0 : Int) < 2147483249; decide, _, rfl, (by show 3 ≤ sizeLine; decide), fun p np => ?_⟩
      exact q _ _ (same_new np) np ⟨_, _, _, upd_same, b.1, b.2, hd⟩
    refine ⟨_, rfl, _, _, rfl, rfl, _, rfl, ite2 (fun e => ?_) (fun e => ?_)⟩
    · have e0 : n < 0 := of_decide_eq_true e
      refine iteT ⟨_, rfl, n, rfl, ?_⟩
      rw [if_pos e0]
      exact fin _ (by omega)
    · refine ⟨_, rfl, _, _, rfl, rfl, ⟨by decide, by decide, by decide⟩, _, _, rfl, rfl, _, rfl, ite2 (fun e1 => ?_) (fun e1 => ?_)⟩
      · have e0 : ¬ n < 0 := fun z => e (decide_eq_true z)
        refine ⟨_, rfl, n, rfl, ?_⟩
        rw [if_neg e0]
        exact fin _ (by omega)
      · exact fin _ (by omega)
theorem ok_draw {f : Addr} {fd : FuncData} (F : Fun K "_law_draw" "_law_draw" sDraw f fd) (md : mg "divmod" = none) : FnOk P w K mg base CX0 1 f fd ["_law_pool_here", "_law_most"] spDraw := by
  refine F.ok scDraw (fun vs H Q E h => ?_) (fun cdv A outer s H vs Q E hr h => ?_)
  · obtain ⟨p, m, rfl, _⟩ := h
    rfl
  · obtain ⟨p, m, rfl, ⟨a, b, c, hp, a0, a1, b0⟩, m0, m1, q⟩ := h
    refine ⟨_, pss_cons (ps_asg (pe_op op_add (pe_ix ix_list (pv 0) pe_int (fun _ _ => rfl)) pe_int) (pg_sub (pv 0) pe_int set_list))
      (pss_cons (ps_set (i := 2) scDraw.nd rfl (.inl rfl) (pe_ix ix_list (pv 0) pe_int (fun _ _ => rfl)))
      (pss_cons (ps_asg (pe_op op_mod (pe_op op_add (pe_op op_mul (pv 2) (pe_op op_add (pe_op op_mod (pv 2) pe_int) pe_int)) (pe_op op_mul pe_int (pe_ix ix_list (pv 0) pe_int (fun _ _ => rfl)))) pe_int) (pg_sub (pv 0) pe_int set_list))
      (pss_cons (ps_if (pt_cmpR op_gt (pe_ix ix_list (pv 0) pe_int (fun _ _ => rfl)) pe_int (nomark _))
        (pss_cons (ps_asg (pe_callB call_divmod (by rfl) md (by decide +kernel) (pa_cons (pe_ix ix_list (pv 0) pe_int (fun _ _ => rfl)) (pa_cons (pv 1) pa_nil)))
            (pg_tup (by rfl) (pgs_cons (pg_sub (pv 0) pe_int set_list) (pgs_cons (pg_name (i := 3) scDraw.nd rfl (.inl rfl)) pgs_nil))))
          (pss_one (ps_ret (pv 3)))) pss_nil)
      (pss_one (ps_ret (pe_op op_mod (pe_op op_fdiv (pe_ix ix_list (pv 0) pe_int (fun _ _ => rfl)) pe_int) (pv 1))))))), ?_⟩
    -- pool[2] = pool[2] + 1
    refine ⟨_, rfl, p, _, 2, .int c, rfl, rfl, SqL.of hp, rfl, _, _, rfl, rfl, _, rfl, p, _, 2, 2, rfl, rfl, hp, rfl, ?_⟩
    refine ⟨_, rfl, p, _, 0, .int a, rfl, rfl, SqL.of upd_same, rfl, ?_⟩
    have bm := int_mod_bd a (m := 50021) (by decide)
    refine ⟨_, rfl, _, rfl, _, _, rfl, rfl, by show (0 : Int) < 50021; decide, _, _, rfl, rfl, _, _, rfl, rfl, .inl ⟨by omega, by omega⟩, _, rfl, p, _, 2, .int (c + 1), rfl, rfl, SqL.of upd_same, rfl, _, _, rfl, rfl, .inl ⟨by decide, by decide⟩, _, _, rfl, rfl, _, _, rfl, rfl, by show (0 : Int) < 2147483249; decide, ?_⟩
    refine ⟨_, rfl, p, _, 0, 0, rfl, rfl, upd_same, rfl, ?_⟩
    have bz := int_mod_bd (a * (a % 50021 + 30011) + 80021 * (c + 1)) (m := 2147483249) (by decide)
    rw [upd_upd]
    show _
    refine ⟨_, rfl, p, _, 1, .int b, rfl, rfl, SqL.of upd_same, rfl, _, _, rfl, rfl, _, rfl, ite2 (fun e => ?_) (fun e => ?_)⟩
    · refine ⟨_, rfl, p, _, 1, .int b, rfl, rfl, SqL.of upd_same, rfl, _, rfl, b, m, rfl, ⟨m0, m1⟩, fun t nt => ?_⟩
      have npt : p ≠ t := ne_of_none upd_same nt
      refine ⟨t, _, rfl, SqT.of upd_same, rfl, _, _, rfl, ?_⟩
      refine ⟨_, rfl, p, _, 1, 1, rfl, rfl, by rw [upd_ne npt]; exact upd_same, rfl, _, [], rfl, rfl, ?_⟩
      have br := int_mod_bd b m0
      refine ⟨_, rfl, q _ _ (fun x o n e => ?_) ⟨_, _, _, upd_same, bz.1, bz.2, Int.ediv_nonneg b0 (by omega)⟩ br.1 br.2⟩
      rw [upd_ne n, upd_ne, upd_ne n]
      · exact e
      · intro z
        rw [z] at e
        rw [upd_ne (Ne.symm npt)] at nt
        rw [nt] at e
        cases e
    · refine ⟨_, rfl, p, _, 0, .int ((a * (a % 50021 + 30011) + 80021 * (c + 1)) % 2147483249), rfl, rfl, SqL.of upd_same, rfl, _, _, rfl, rfl, ⟨by decide, by decide⟩, _, rfl, _, _, rfl, rfl, m0, ?_⟩
      have br := int_mod_bd ((a * (a % 50021 + 30011) + 80021 * (c + 1)) % 2147483249 / 64) m0
      exact q _ _ keepX_upd ⟨_, _, _, upd_same, bz.1, bz.2, b0⟩ br.1 br.2
end
end KS
namespace KS
open PySem PySem.Spec PyProof.Rows L2
abbrev sWhole : Stmt := topS 13
abbrev sBetween : Stmt := topS 14
abbrev sPlace : Stmt := topS 15
abbrev sIsCell : Stmt := topS 16
abbrev sCheck : Stmt := topS 17
theorem scWhole : FnScope ["value"] ["value"] (defScope sWhole) := ⟨rfl, rfl, rfl, by decide +kernel, rfl, by decide +kernel, by decide +kernel⟩
theorem scBetween : FnScope ["value", "least", "most"] ["value", "least", "most"] (defScope sBetween) := ⟨rfl, rfl, rfl, by decide +kernel, rfl, by decide +kernel, by decide +kernel⟩
theorem scPlace : FnScope ["value"] ["value"] (defScope sPlace) := ⟨rfl, rfl, rfl, by decide +kernel, rfl, by decide +kernel, by decide +kernel⟩
theorem scIsCell : FnScope ["value"] ["value"] (defScope sIsCell) := ⟨rfl, rfl, rfl, by decide +kernel, rfl, by decide +kernel, by decide +kernel⟩
theorem scCheck : FnScope ["plan", "index", "cell"] ["plan"] (defScope sCheck) := ⟨rfl, rfl, rfl, by decide +kernel, rfl, by decide +kernel, by decide +kernel⟩
section
variable {P : Program} {w : World} {K : PySem.W.Frag} {mg : Str → Option Value} {base : Heap}
theorem ok_whole {f : Addr} {fd : FuncData} (F : Fun K "is_whole" "is_whole" sWhole f fd) (mi : mg "isinstance" = none) (mI : mg "int" = none) (mB : mg "bool" = none) : FnOk P w K mg base CX0 1 f fd ["value"] spWhole := by
  refine F.ok scWhole (fun vs H Q E h => ?_) (fun cdv A outer s H vs Q E hr h => ?_)
  · obtain ⟨i, rfl, _⟩ := h
    rfl
  · obtain ⟨i, rfl, q⟩ := h
    refine ⟨_, pss_one (ps_ret (pe_and (pe_callB call_isi (by rfl) mi (by decide +kernel) (pa_cons (pv 0) (pa_cons (pe_bltn (v := .ty "int") (by rfl) mI (by decide +kernel) rfl) pa_nil)))
      (pe_one (pe_not (pe_callB call_isi (by rfl) mi (by decide +kernel) (pa_cons (pv 0) (pa_cons (pe_bltn (v := .ty "bool") (by rfl) mB (by decide +kernel) rfl) pa_nil))))))), ?_⟩
    refine ⟨_, rfl, _, _, _, _, true, rfl, .ty "int", .base (.int i), kit_ty (by decide +kernel), true, rfl, ?_⟩
    refine ⟨_, rfl, _, _, _, _, false, rfl, .ty "bool", .base (.int i), kit_ty (by decide +kernel), false, rfl, ?_⟩
    exact q
theorem ok_between {f fW : Addr} {fd fdW : FuncData} (F : Fun K "is_between" "is_between" sBetween f fd) (GW : FnOk P w K mg base CX0 1 fW fdW ["value"] spWhole) (bW : Binds K fdW ["value"] []) (gW : mg "is_whole" = some (.ref fW)) (kW : PySem.W.keepIn K (.ref fW) = true) :
    FnOk P w K mg base CX0 2 f fd ["value", "least", "most"] spBetween := by
  refine F.ok scBetween (fun vs H Q E h => ?_) (fun cdv A outer s H vs Q E hr h => ?_)
  · obtain ⟨i, lo, hi, rfl, _⟩ := h
    rfl
  · obtain ⟨i, lo, hi, rfl, h1, h2, q⟩ := h
    refine ⟨_, pss_one (ps_ret (pe_and (pe_call GW hr (by rfl) gW kW bW .nil pass0 (pa_cons (pv 0) pa_nil)) (pe_one (pe_chain op_le op_le (pv 1) (pv 0) (pv 2))))), ?_⟩
    refine ⟨_, rfl, i, rfl, true, rfl, ?_⟩
    refine ⟨_, rfl, _, rfl, _, _, rfl, rfl, true, bl_true h1, ?_⟩
    refine ⟨_, rfl, _, _, rfl, rfl, ?_⟩
    show Q (V.bl (decide (i ≤ hi))) H
    rw [bl_true h2]
    exact q
theorem ok_place {f fB : Addr} {fd fdB : FuncData} {t : Tok} (F : Fun K "is_place" "is_place" sPlace f fd) (GB : FnOk P w K mg base CX0 2 fB fdB ["value", "least", "most"] spBetween) (bB : Binds K fdB ["value", "least", "most"] []) (gB : mg "is_between" = some (.ref fB)) (kB : PySem.W.keepIn K (.ref fB) = true)
    (mM : mg "MOST_INDEX" = some (.int 7 t)) : FnOk P w K mg base CX0 3 f fd ["value"] spPlace := by
  refine F.ok scPlace (fun vs H Q E h => ?_) (fun cdv A outer s H vs Q E hr h => ?_)
  · obtain ⟨i, rfl, _⟩ := h
    rfl
  · obtain ⟨i, rfl, hp, q⟩ := h
    refine ⟨_, pss_one (ps_ret (pe_call GB hr (by rfl) gB kB bB .nil pass0 (pa_cons (pv 0) (pa_cons pe_int (pa_cons (pe_glob (v := .int 7) (by rfl) mM ⟨_, rfl⟩) pa_nil))))), ?_⟩
    exact ⟨_, rfl, i, 0, 7, rfl, hp.1, hp.2, q⟩
theorem ok_isCell {f fP : Addr} {fd fdP : FuncData} (F : Fun K "is_cell" "is_cell" sIsCell f fd) (GP : FnOk P w K mg base CX0 3 fP fdP ["value"] spPlace) (bP : Binds K fdP ["value"] []) (gP : mg "is_place" = some (.ref fP)) (kP : PySem.W.keepIn K (.ref fP) = true)
    (mi : mg "isinstance" = none) (mT : mg "tuple" = none) (ml : mg "len" = none) : FnOk P w K mg base CX0 4 f fd ["value"] (spIsCell K) := by
  refine F.ok scIsCell (fun vs H Q E h => ?_) (fun cdv A outer s H vs Q E hr h => ?_)
  · obtain ⟨a, c, rfl, _⟩ := h
    rfl
  · obtain ⟨a, c, rfl, ht, hg, q⟩ := h
    refine ⟨_, pss_one (ps_ret (pe_and (pe_callB call_isi (by rfl) mi (by decide +kernel) (pa_cons (pv 0) (pa_cons (pe_bltn (v := .ty "tuple") (by rfl) mT (by decide +kernel) rfl) pa_nil)))
      (pe_and (pe_cmpR op_eq (pe_callB call_len_seq (by rfl) ml PySem.boot_len (pa_cons (pv 0) pa_nil)) pe_int (nomark _))
      (pe_and (pe_call GP hr (by rfl) gP kP bP .nil pass0 (pa_cons (pe_ix ix_tup (pv 0) pe_int (fun _ _ => rfl)) pa_nil))
      (pe_one (pe_call GP hr (by rfl) gP kP bP .nil pass0 (pa_cons (pe_ix ix_tup (pv 0) pe_int (fun _ _ => rfl)) pa_nil))))))), ?_⟩
    refine ⟨_, rfl, _, _, _, _, true, rfl, .ty "tuple", tyx_tup ht, kit_ty (by decide +kernel), true, rfl, ?_⟩
    refine ⟨_, rfl, a, _, rfl, .inr ht, rfl, true, rfl, ?_⟩
    refine ⟨_, rfl, a, _, 0, .int c.1, rfl, rfl, ht, rfl, c.1, rfl, ⟨hg.1, hg.2.1⟩, true, rfl, ?_⟩
    exact ⟨_, rfl, a, _, 1, .int c.2, rfl, rfl, ht, rfl, c.2, rfl, ⟨hg.2.2.1, hg.2.2.2⟩, q⟩
theorem ok_check {f fI : Addr} {fd fdI : FuncData} {t : Tok} (F : Fun K "check_plan" "check_plan" sCheck f fd) (GI : FnOk P w K mg base CX0 4 fI fdI ["value"] (spIsCell K)) (bI : Binds K fdI ["value"] []) (gI : mg "is_cell" = some (.ref fI)) (kI : PySem.W.keepIn K (.ref fI) = true)
    (mi : mg "isinstance" = none) (mT : mg "tuple" = none) (ml : mg "len" = none) (me : mg "enumerate" = none) (mM : mg "MOST_CELLS" = some (.int 24 t)) : FnOk P w K mg base CX0 5 f fd ["plan"] (spCheck K) := by
  refine F.ok scCheck (fun vs H Q E h => ?_) (fun cdv A outer s H vs Q E hr h => ?_)
  · obtain ⟨a, c, rfl, _⟩ := h
    rfl
  · obtain ⟨a, cs, rfl, ⟨xs, hx, hc⟩, gd, hl, q⟩ := h
    have nd := scCheck.nd
    refine ⟨_, pss_cons (ps_if (PW.pt (pw_or (pt_not (pt_val (pe_callB call_isi (by rfl) mi (by decide +kernel) (pa_cons (pv 0) (pa_cons (pe_bltn (v := .ty "tuple") (by rfl) mT (by decide +kernel) rfl) pa_nil)))))
          (pw_or1 (pt_not (pt_chain op_le op_le pe_int (pe_callB call_len_seq (by rfl) ml PySem.boot_len (pa_cons (pv 0) pa_nil)) (pe_glob (v := .int 24) (by rfl) mM ⟨_, rfl⟩))))))
        (pss_one ps_never) pss_nil)
      (pss_one (ps_for PassesOwn.never rfl (pi_enumT (by rfl) me (pa_cons (pv 0) pa_nil)) (pg_tup (by rfl) (pgs_cons (pg_name (i := 1) nd rfl (.inl rfl)) (pgs_cons (pg_name (i := 2) nd rfl (.inl rfl)) pgs_nil)))
        (pss_cons (ps_if (pt_not (pt_val (pe_call GI hr (by rfl) gI kI bI .nil pass0 (pa_cons (pv 2) pa_nil)))) (pss_one ps_never) pss_nil)
        (pss_one (ps_if (PW.pt (pw_and (pt_cmpR op_gt (pv 1) pe_int (nomark _)) (pw_and1 (pt_cmpR (op_leT hr.units0) (pv 2) (pe_ix ix_tup (pv 0) (pe_op op_sub (pv 1) pe_int) (fun _ _ => rfl)) (nomark _))))) (pss_one ps_never) pss_nil))))), ?_⟩
    have hlen := Paired.length hc
    have h1 : 1 ≤ xs.length := by
      rcases Nat.eq_zero_or_pos cs.length with z | z
      · exact absurd (List.eq_nil_of_length_eq_zero z) gd.ne
      · omega
    refine ⟨_, rfl, _, _, _, _, true, rfl, .ty "tuple", tyx_tup hx, kit_ty (by decide +kernel), true, rfl, ?_⟩
    refine ⟨_, rfl, a, _, rfl, .inr hx, _, _, rfl, rfl, true, bl_true (show (1 : Int) ≤ (xs.length : Int) by omega), ?_⟩
    refine ⟨_, _, rfl, rfl, true, bl_true (show (xs.length : Int) ≤ 24 by omega), ?_⟩
    refine ⟨_, rfl, a, xs, rfl, hx, for_enumT (K := K) (a := a) (xs := xs) (fun i σ H' => Same H H' ∧ ∃ y1 y2, σ = [some (.ref a), y1, y2]) ?_ ?_ ?_ ?_⟩
    · exact ⟨Same.refl _, none, none, rfl⟩
    · rintro i σ H' _ ⟨sm, _⟩
      exact same_seqT sm hx
    · rintro i x σ H' T hi ⟨sm, y1, y2, rfl⟩ nT
      obtain ⟨c, hci, tt, rfl, ht⟩ := paired_get hc hi
      have sT := same_new (o := .tup [.int (i : Nat), .ref tt]) nT
      have s2 := sm.trans sT
      refine ⟨T, _, rfl, SqT.of upd_same, rfl, _, _, rfl, _, _, rfl, rfl, ?_⟩
      refine ⟨_, rfl, tt, c, rfl, same_seqT s2 ht, gd.grid c (List.mem_of_getElem? hci), true, rfl, ?_⟩
      refine ⟨_, rfl, _, _, rfl, rfl, _, rfl, ite2 (fun e => ?_) (fun e => ?_)⟩
      · have e' : (0 : Int) < (i : Int) := of_decide_eq_true e
        obtain ⟨j, rfl⟩ : ∃ j, i = j + 1 := ⟨i - 1, by omega⟩
        have hj : j < xs.length := by
          have := (List.getElem?_eq_some_iff.mp hi).1
          omega
        obtain ⟨c0, hc0, t0, e0, ht0⟩ := paired_get hc (List.getElem?_eq_getElem hj)
        have gx : xs[j]? = some (.ref t0) := by rw [List.getElem?_eq_getElem hj, e0]
        have ej : ((j + 1 : Nat) : Int) - 1 = ((j : Nat) : Int) := by omega
        refine ⟨_, rfl, _, rfl, _, rfl, _, _, rfl, rfl, a, xs, _, .ref t0, rfl, rfl, same_seqT s2 hx, ?_, tt, t0, [c.1, c.2], [c0.1, c0.2], rfl, rfl, same_seqT s2 ht, same_seqT s2 ht0, false, ?_, ?_⟩
        · show atI xs (((j + 1 : Nat) : Int) - 1) = _
          rw [ej]
          exact atI_nat gx
        · rw [not_le2 (good_step gd.asc hc0 hci)]
        · exact ⟨s2, _, _, rfl⟩
      · exact ⟨s2, _, _, rfl⟩
    · rintro σ H' ⟨sm, _⟩
      exact q H' sm
end
end KS
namespace KS
open PySem PySem.Spec PyProof.Rows L2
/-! ### t[::-1], t a tuple -/
section
variable {prog : Program} {w : World} {A : Around} {E : Value → Shared → Prop} {s : Shared}
theorem adjust_rev (n : Nat) : Builtin.Slice.sliceAdjust none none (-1) (n : Int) = ((n : Int) - 1, -1) := by
  first
  | rfl
  | simp [Builtin.Slice.sliceAdjust]
theorem places_rev (n : Nat) : Builtin.Slice.slicePlaces ((n : Int) - 1) (-1) (-1) = n := by
  unfold Builtin.Slice.slicePlaces
  by_cases h : n = 0
  · subst h
    decide
  · simp
    omega
theorem applied_rev {sl : Addr} {vl vu vs : Value} {n : Nat} {Q : Int × Int × Nat → Shared → Prop} (hs : s.heap.IsSliceOf sl vl vu vs) (pl : IsPart vl none) (pu : IsPart vu none) (ps : IsPart vs (some (-1)))
    (h : Q ((n : Int) - 1, -1, n) s) : wpAny (model prog w) A (Builtin.Slice.sliceApplied (.ref sl) (pure (n : Int))) Q E s := by
  obtain ⟨os, hos, hcs, hds⟩ := id hs
  unfold Builtin.Slice.sliceApplied Builtin.Slice.sliceFields
  refine wpAny_bind (wpAny_bind (wpAny_field hos hds (x := vl) rfl
    (wpAny_bind (wpAny_field hos hds (x := vu) rfl (wpAny_bind (wpAny_field hos hds (x := vs) rfl (wpAny_pure ?_)))))))
  refine wpAny_bind (HT.slicePart_ ps ?_)
  show wpAny _ _ (if ((-1 : Int) == 0) = true then _ else _) _ _ s
  rw [if_neg (by decide)]
  refine wpAny_bind (HT.slicePart_ pl (wpAny_bind (HT.slicePart_ pu (wpAny_bind (wpAny_pure ?_)))))
  show wpAny _ _ (match Builtin.Slice.sliceAdjust none none (-1) (n : Int) with | (lo, hi) => pure (lo, (-1 : Int), Builtin.Slice.slicePlaces lo hi (-1))) _ _ s
  rw [adjust_rev n]
  show wpAny _ _ (pure ((n : Int) - 1, (-1 : Int), Builtin.Slice.slicePlaces ((n : Int) - 1) (-1) (-1))) _ _ s
  rw [places_rev]
  exact wpAny_pure h
theorem pick_rev (xs : Array Value) : ((List.range xs.size).filterMap fun (k : Nat) => xs[(((xs.size : Int) - 1) + (k : Int) * (-1)).toNat]?).toArray = xs.toList.reverse.toArray := by
  have e : (fun (k : Nat) => xs[(((xs.size : Int) - 1) + (k : Int) * (-1)).toNat]?) = (xs[·]?) ∘ fun k => xs.size - 1 - k := by
    funext k
    show xs[(((xs.size : Int) - 1) + (k : Int) * (-1)).toNat]? = xs[xs.size - 1 - k]?
    have z : (((xs.size : Int) - 1) + (k : Int) * (-1)).toNat = xs.size - 1 - k := by omega
    rw [z]
  rw [e, ← List.filterMap_map, PySem.W.krv_range, List.filterMap_reverse, PySem.W.krv_all]
theorem getItem_tuple_rev {t sl : Addr} {items : Array Value} {vl vu vs : Value} {Q : Value → Shared → Prop} (ht : IsTup s.heap t items) (hs : s.heap.IsSliceOf sl vl vu vs) (pl : IsPart vl none) (pu : IsPart vu none)
    (ps : IsPart vs (some (-1))) (h : Q (.ref s.heap.objs.size) { s with heap := s.heap.push { cls := .type "tuple", data := .seq items.toList.reverse.toArray } }) (hsz : items.size ≤ sizeLine) :
    wpAny (model prog w) A (getItem (.ref t) (.ref sl)) Q E s := by
  have htake : sizeOk (.seq items.toList.reverse.toArray) := by
    show items.toList.reverse.toArray.size ≤ sizeLine
    rw [List.size_toArray, List.length_reverse, Array.length_toList]
    exact hsz
  obtain ⟨os, hos, hcs, hds⟩ := id hs
  have hTs : s.TypeIs (.ref sl) "slice" := ⟨os, hos, hcs⟩
  unfold getItem
  try with_reducible refine wpAny_holding ?_
  first | refine wpAny_bind (wpAny_pure ?_) | skip
  refine wpAny_bind (wpAny_sequenceKey ht.typeIs (by decide) ?_)
  refine wpAny_bind (wpAny_callSpecial?_slot (name := Str.ofString "__getitem__") ht.typeIs PyProof.Rows.slot_tuple_getitem (wpAny_call_entry PyProof.Rows.slot_tuple_getitem ht.typeIs entry_tuple_getitem ?_ (args_tuple_getitem _ _)))
  show wpAny _ _ (Builtin.Tuple.tupleItemsOf (.ref t) >>= _) _ _ s
  refine wpAny_bind (tupleItemsOf_ ht (wpAny_bind (wpAny_typeOf hTs ?_)))
  rw [if_pos (by decide)]
  refine wpAny_bind (applied_rev hs pl pu ps ?_)
  have hno : ¬ ((((items.size : Int) - 1) == 0 && (-1 : Int) == 1 && items.size == items.size) = true) := by
    simp
  show wpAny _ _ (if (((items.size : Int) - 1) == 0 && (-1 : Int) == 1 && items.size == items.size) = true then _ else _) _ _ s
  rw [if_neg hno, pick_rev]
  first
    | exact wpAny_bind (m := Builtin.Tuple.tupleExact _) (wpAny_newObj_type (wpAny_pure ⟨_, rfl, wpAny_pure h⟩) htake)
    | exact wpAny_bind (m := Builtin.Tuple.tupleExact _) (wpAny_newObj_type (wpAny_bind (wpAny_pure (wpAny_pure ⟨_, rfl, wpAny_pure h⟩))) htake)
    | exact wpAny_bind (wpAny_bind (m := Builtin.Tuple.tupleExact _) (wpAny_newObj_type (wpAny_pure (wpAny_pure ⟨_, rfl, wpAny_pure h⟩)) htake))
    | exact wpAny_bind (wpAny_bind (m := Builtin.Tuple.tupleExact _) (wpAny_newObj_type (wpAny_pure ⟨_, rfl, wpAny_pure h⟩) htake))
end
def tRevT (K : PySem.W.Frag) (te : TE) : TE := fun σ H Q => te σ H fun x H1 => ∃ a xs, x = .ref a ∧ SqT K H1 a xs ∧ ∀ p, H1 p = none → Q (.ref p) (upd H1 p (.tup xs.reverse))
theorem pe_revT {X : Cx} {e : Expr} {te : TE} {k : Nat} {p1 p2 p3 pos : Pos} (he : PE X e te) :
    PE X (.Subscript e (.Slice none none (some (.UnaryOp .USub (.Constant (.int 1) k p1) p2)) p3) pos) (tRevT X.K te) := by
  refine ⟨fun pins s σ H Q I h => Subscript_ (thn (he.run pins s σ H _ I h) fun v s1 hh => ?_)⟩
  obtain ⟨x, H1, I1, r1, a, xs, ex, hx, q⟩ := hh
  subst ex
  cases r1
  have hst : PO X (some (.UnaryOp .USub (.Constant (.int 1) k p1) p2)) (tPart (tUn (rU fun i => .int (-i)) (tC (.int 1)))) := po_some (pe_un un_neg pe_int)
  refine wpAny_Slice (thn (po_none.run pins s1 σ H1 (fun o H2 => o = none ∧ H2 = H1) I1 ⟨rfl, rfl⟩) fun vl s2 h2 => ?_)
  obtain ⟨l, H2, I2, pl, el, e2⟩ := h2
  subst el e2
  refine thn (po_none.run pins s2 σ H2 (fun o H3 => o = none ∧ H3 = H2) I2 ⟨rfl, rfl⟩) fun vu s3 h3 => ?_
  obtain ⟨u, H3, I3, pu, eu, e3⟩ := h3
  subst eu e3
  refine thn (hst.run pins s3 σ H3 (fun o H4 => o = some (-1) ∧ H4 = H3) I3 ⟨1, rfl, -1, rfl, rfl, rfl⟩) fun vs s4 h4 => ?_
  obtain ⟨o, H4, I4, ps, eo, e4⟩ := h4
  subst eo e4
  have I5 : Inv X pins σ H4 { s4 with heap := s4.heap.push { cls := .type "slice", data := .fields #[vl, vu, vs] } } :=
    I4.kept (t' := s4.toks) fun b ob q => Heap.get?_push_of_some _ q
  obtain ⟨its, r, ht, hz⟩ := I5.tuple hx
  have hlen := r.length
  show wpAny (model X.prog X.w) X.A (subscriptTail e (.Slice none none (some (.UnaryOp .USub (.Constant (.int 1) k p1) p2)) p3) (.ref a) (.ref s4.heap.objs.size)) (EP X pins σ Q) X.xe
    { s4 with heap := s4.heap.push { cls := .type "slice", data := .fields #[vl, vu, vs] } }
  refine tail_any (ops := [.ref a, .ref s4.heap.objs.size]) ht.typeIs PyProof.Rows.slot_tuple_getitem.lookup ?_ (by with_unfolding_all rfl)
  refine getItem_tuple_rev ht (Heap.IsSliceOf.new _ vl vu vs) pl pu ps ?_ (by rw [List.size_toArray]; omega)
  refine ⟨.ref _, _, I5.laid (t' := s4.toks) (o := .tup xs.reverse) (fun b ob q => Heap.get?_push_of_some _ q) (Nat.le_refl _) ?_, rfl, q _ (I5.hok.fresh (Nat.le_refl _))⟩
  exact ⟨by rw [List.length_reverse]; exact hz, _, r.reverse, IsTup.new _ _⟩
end KS
namespace PySem
namespace XInvalidPlan
open PySem.W PySem.Calls PyProof.Rows PySem.HandSPX
/-! ### the text of __init__ -/
def iA (p1 p2 : Pos) : Arguments := { posonlyargs := [], args := [{ arg := "self", annotation := none, pos := p1 }, { arg := "index", annotation := none, pos := p2 }], vararg := none, kwonlyargs := [], kw_defaults := [], kwarg := none, defaults := [] }
def iB (q1 q2 q3 q4 : Pos) : List Stmt := [.Assign [.Attribute (.Name "self" q1) "index" q2] (.Name "index" q3) q4]
def iS : Scope := { kind := .function, names := [(PySem.Str.ofString "self", .local), (PySem.Str.ofString "index", .local)], isGenerator := false, isCoroutine := false, more := [] }
/-- what the written part says of Low, at C, and of its __init__, at fI -/
structure InvalidPlanTxt (K : Frag) (mg : Str → Option Value) (C fI : Addr) : Prop where
  gC : mg "InvalidPlan" = some (.ref C)
  cls : ∃ nm q N bs bm sn sub ab col dd k0 k1 k2 k3 k5, K.lookup C = some (excClassObj nm q C N bs bm true sn sub ab col dd k0 k1 k2 k3 k5 "ValueError.__new__") ∧ refsVE bm = true
  sa : findIn K (.ref C) "__setattr__" = some (some (.builtin "object.__setattr__"))
  ga : findIn K (.ref C) "__getattribute__" = some (some (.builtin "BaseException.__getattribute__"))
  gg : findIn K (.ref C) "__getattr__" = some none
  noN : findIn K (.ref C) "index" = some none
  iC : findIn K (.ref C) "__init__" = some (some (.ref fI))
  tC : typeIn K (.ref fI) = some (.type "function")
  kC : keepIn K (.ref C) = true
  exC : subIn K (.ref C) (.type "BaseException") = some true
  tyC : typeIn K (.ref C) = some (.type "type")
  hdC : hasDictIn K C = true
  te : exmOne K (.ref C) (.ref C) = some true
  fn : ∃ (oc : Value) (od : Option Addr) (doc pm : Value) (an : Option Addr) (cdv ct : Value) (osl : Array (Option Value)) (p1 p2 q1 q2 q3 q4 : Pos),
    K.lookup fI = some ⟨oc, od, .func (fnOf "__init__" "InvalidPlan.__init__" (iA p1 p2) (iB q1 q2 q3 q4) iS .none .none doc pm an cdv ct), osl⟩ ∧ codeIn K cdv "InvalidPlan.__init__" = true
theorem one_size (v : Value) : [v].length ≤ sizeLine := by
  rw [sizeLine_eq]
  exact (by decide : 1 ≤ 16777216)
theorem kept_but {K : Frag} {h h' : Heap} {x : Addr} (X : K.In h) (hx : K.lookup x = none) (k : ∀ b o, b ≠ x → h.get? b = some o → h'.get? b = some o) : K.In h' := fun a o e =>
  k a o (fun z => by rw [z, hx] at e; cases e) (X a o e)
theorem ldC {M : Model} {s : Shared} {name : Str} {scope : Scope} {L a : Addr} {cd : Value} {m : Str → Option Value} {x : Str} {pos : Pos} {v : Value} {Q : Value → Shared → Prop} {A : Around} {E : Value → Shared → Prop} (hn : s.heap.Ns L m) (hv : m x = some v) (h : Q v s)
    (hk : scope.kind = .function := by rfl) (hl : (envOfC name scope L a cd).kindOf x = some .local := by rfl) (hd : (x == ("__debug__" : Str)) = false := by decide) :
    wpAny M A (eval (.Name x pos) (envOfC name scope L a cd)) Q E s := wpAny_Name (wpAny_loadName_local hk hl hn hv h) hd
/-- what __init__ leaves of a fresh exception at x -/
structure InitEnd (h h' : Heap) (x C dx t1 : Addr) (v : Value) : Prop where
  keep : ∀ b o, b ≠ x → h.get? b = some o → h'.get? b = some o
  obj : h'.get? x = some { cls := .ref C, dict := some dx, data := .fields #[.ref t1, .none, .none, .none, .bool false, .none] }
  dbig : h.objs.size ≤ dx
  dne : dx ≠ x
  ns : h'.Ns1 dx (fun y => if y = "index" then some v else none)
/-- made -/
structure OwnMade (h h' : Heap) (e C d : Addr) (v : Value) : Prop where
  keep : ∀ b o, h.get? b = some o → h'.get? b = some o
  new : h.objs.size ≤ e
  obj : ∃ oe vs, h'.get? e = some oe ∧ oe.cls = .ref C ∧ oe.dict = some d ∧ oe.data = .fields vs ∧ vs[1]? = some .none
  dbig : h.objs.size ≤ d
  dne : d ≠ e
  ns : h'.Ns1 d (fun y => if y = "index" then some v else none)
section
variable {prog : Program} {w : World} {A : Around} {E : Value → Shared → Prop} {R : Result → Shared → Prop} {s : Shared} {K : Frag} {mg : Str → Option Value} {C fI : Addr}
theorem _initInvalidPlan (T : InvalidPlanTxt K mg C fI) {x t0 : Addr} {v : Value} (X : K.In s.heap) (hlim : s.heap.NoLimit) (hx : s.heap.get? x = some (excO C t0)) (hnx : K.lookup x = none) (hroom : A.depth < recursionLimit)
    (hq : ∀ h' tk dx, InitEnd s.heap h' x C dx t0 v → R (.ok (.ret .none)) { s with heap := h', toks := tk }) :
    codeAny (model prog w) A (.call (.ref fI) ⟨[.ref x, v], []⟩) R s := by
  obtain ⟨oc, od, doc, pm, an, cdv, ct, osl, p1, p2, q1, q2, q3, q4, ho, hcd⟩ := T.fn
  obtain ⟨nm, q, N, bs, bm, sn, sub, ab, col, dd, k0, k1, k2, k3, k5, hC, hbm⟩ := T.cls
  have hcl : clsIn K C = some { name := nm, bases := bs, mro := .ref C :: bm, ns := N, qualname := q, hasDict := true, slotNames := sn, subclasses := sub, abstract := ab, collection := col, hasDel := false } := by unfold clsIn; rw [hC] <;> rfl
  refine Att.call_fn (binds := [("self", .ref x), ("index", v)]) X hlim ho hcd hroom (BindsTo.of_eq (by first | rfl | with_unfolding_all rfl)) (by first | rfl | decide | with_unfolding_all rfl) (fun s₁ IC => ?_) rfl rfl rfl
  obtain ⟨h₁, tk₁, rfl⟩ := IC.toInCall.same
  have k : ∀ b o, s.heap.get? b = some o → h₁.get? b = some o := IC.toInCall.keep
  have hn := IC.toInCall.ns
  have hxL : s.heap.objs.size ≠ x := Nat.ne_of_gt (Heap.lt_size hx)
  have X₁ : K.In h₁ := X.keeps k
  have hx₁ := k _ _ hx
  -- self.f = f
  show wpAny _ _ (execs _ _) _ _ _
  refine wpAny_execs_cons (plainObj_wpAny_Assign_Attribute ?_)
  refine ldC (v := v) hn (by first | rfl | with_unfolding_all rfl | kernel_rfl) (ldC (v := .ref x) hn (by first | rfl | with_unfolding_all rfl | kernel_rfl) ?_)
  refine set_plain X₁ (ox := excO C t0) (od := none) ⟨hx₁, rfl, rfl, trivial⟩ T.sa ?_
  refine exc_osa X₁ hx₁ hcl (show refsVE (.ref C :: bm) = true from hbm) rfl T.noN (fun h₃ tk₃ dx k₃ dn dne hx₃ hn₃ => ?_)
  show wpAny _ _ (execs _ _) _ _ _
  have z : s.heap.objs.size < h₁.objs.size := hn.lt
  exact wpAny_execs_nil (hq h₃ tk₃ dx ⟨fun b o hb e => k₃ b o hb (k b o e), hx₃, Nat.le_of_lt (Nat.lt_of_lt_of_le z dn), dne, hn₃⟩)
theorem _madeInvalidPlan (T : InvalidPlanTxt K mg C fI) {v : Value} (X : K.In s.heap) (hlim : s.heap.NoLimit) (hroom : A.depth + 1 < recursionLimit)
    (hq : ∀ h' tk e d, OwnMade s.heap h' e C d v → R (.ok (.ret (.ref e))) { s with heap := h', toks := tk }) :
    codeAny (model prog w) A (.call (.ref C) ⟨[v], []⟩) R s := by
  obtain ⟨nm, q, N, bs, bm, sn, sub, ab, col, dd, k0, k1, k2, k3, k5, hC, hbm⟩ := T.cls
  obtain ⟨hp, g, dr, tk, os⟩ := s
  have k : ∀ b o, hp.get? b = some o → ((hp.push (kdv_tup [v])).push (excO C hp.objs.size)).get? b = some o := fun b o e => Heap.get?_push_of_some _ (Heap.get?_push_of_some _ e)
  have hget : ((hp.push (kdv_tup [v])).push (excO C hp.objs.size)).get? (hp.objs.size + 1) = some (excO C hp.objs.size) := by heap_get
  have hnx : K.lookup (hp.objs.size + 1) = none := by
    cases e : K.lookup (hp.objs.size + 1) with
    | none => rfl
    | some o =>
      have z : hp.get? (hp.objs.size + 1) = some o := X _ _ e
      exact absurd (Nat.lt_of_succ_lt (Heap.lt_size z)) (Nat.lt_irrefl _)
  refine call_own F.excBase_ValueError (fun X => refsVE_contains X bm hbm) (X _ _ hC) (looks_findIn X T.iC) (fun self => bind_fn X self T.tC) (one_size v) ?_
  refine _initInvalidPlan (s := ⟨(hp.push (kdv_tup [v])).push (excO C hp.objs.size), g, dr, tk, os⟩) T (X.keeps k) (hlim.keeps k) hget hnx ?_ fun h' tk' dx ⟨k', hx, dn, dne, hns⟩ => ?_
  · show A.depth + 1 < recursionLimit
    exact hroom
  · have old : ∀ b o, hp.get? b = some o → h'.get? b = some o := fun b o e => k' b o (Nat.ne_of_lt (Nat.lt_succ_of_lt (Heap.lt_size e))) (k b o e)
    have z : hp.objs.size + 1 + 1 ≤ dx := by
      first
        | (simpa only [Heap.size_push] using dn)
        | exact dn
        | (have q := dn; rw [Heap.size_push, Heap.size_push] at q; exact q)
    exact ⟨rfl, hq h' tk' (hp.objs.size + 1) dx ⟨old, Nat.le_succ _, ⟨_, _, hx, rfl, rfl, rfl, rfl⟩, Nat.le_trans (Nat.le_trans (Nat.le_succ _) (Nat.le_succ _)) z, dne, hns⟩⟩
end
end XInvalidPlan
end PySem
namespace L2
open PySem PySem.Spec PyProof.Rows
theorem relO_InvalidPlan {v : V} {v' : Value} (r : RelV v v') (f : Str) : RelO (List.lookup f [(("index" : Str), v)]) (if f = "index" then some v' else none) := by
  by_cases hw : f = "index"
  · subst hw
    rw [if_pos rfl]
    have q : List.lookup ("index" : Str) [(("index" : Str), v)] = some v := by simp [List.lookup]
    rw [q]
    exact r
  · rw [if_neg hw]
    have qw : (f == ("index" : Str)) = false := by simpa using hw
    have q2 : List.lookup f [(("index" : Str), v)] = none := by simp [List.lookup, qw]
    rw [q2]
    trivial
section
variable {X : Cx} {C fI : Addr}
/-- Low(e) -/
def tMkInvalidPlan (C : Addr) (ta : TA) : St → Hp → XK → Prop := fun σ H Q => ta σ H fun vs H1 => ∃ v, vs = [v] ∧ ∀ d, H1 d = none → Q (.ref C) (some d) (upd H1 d (.xd [(("index" : Str), v)]))
theorem pmk_InvalidPlan {a : Expr} {ta : TA} {p pos : Pos} {k : Nat} (T : PySem.XInvalidPlan.InvalidPlanTxt X.K X.mg C fI) (hr : Room k X.A) (ha : PA X [a] ta) (hg : Gl X "InvalidPlan" := by rfl)
    (he : starEach (a :: []) X.env = (false, eval a X.env) :: starEach [] X.env := by rfl) (hpl : (backTo pos (starEach [] X.env)).any (·.1) = false := by rfl) :
    PMk X (.Call (.Name "InvalidPlan" p) [a] [] pos) (tMkInvalidPlan C ta) := by
  intro pins s σ H Q I h
  refine wpAny_Call_Name_kw (ld_glob I hg T.gC ?_)
  refine PySem.W.callWith_K (h₀ := X.base) I.ok.mod.kin T.kC (thn (ha.run pos pins s σ H _ I h) fun us s1 hh => ?_) he hpl
  obtain ⟨vs, H1, I1, r1, v, ev, q1⟩ := hh
  subst ev
  refine ⟨I1.kIn, ?_⟩
  cases r1 with
  | cons rv rn =>
    rename_i v' us'
    cases rn
    show wpAny _ _ (call (.ref C) [v']) _ _ _
    have hlim := I1.nolimit
    obtain ⟨hp, g, dr, tk, os⟩ := s1
    refine wpAny_call (PySem.XInvalidPlan._madeInvalidPlan T I1.kIn hlim (by have := hr.dp; omega) fun h' tk' e d M => ?_)
    show MkP X pins σ Q (.ref e) ⟨h', g, dr, tk', os⟩
    obtain ⟨oe, fv, hoe, hc, hd, hdat, h1⟩ := M.obj
    have hns := M.ns
    obtain ⟨G', g1, g2⟩ := restrict h' fun b => decide (b ≠ e)
    have gk : ∀ b, b ≠ e → G'.get? b = h'.get? b := fun b hb => g1 b (decide_eq_true hb)
    have ge : G'.get? e = none := g2 e (by simp)
    have old : ∀ b o, hp.get? b = some o → G'.get? b = some o := fun b o q => (gk b (Nat.ne_of_lt (Nat.lt_of_lt_of_le (Heap.lt_size q) M.new))).trans (M.keep b o q)
    have ob : ObjOk X.prog X.w (upd H1 d (.xd [(("index" : Str), v)])) G' d (.xd [(("index" : Str), v)]) :=
      ⟨_, hns.at (fun o q => (gk d M.dne).trans q), fun f => relO_InvalidPlan rv f⟩
    have J : Inv X pins σ (upd H1 d (.xd [(("index" : Str), v)])) ⟨G', g, dr, tk', os⟩ := I1.laid (t' := tk') old M.dbig ob
    refine ⟨e, oe, fv, ⟨G', g, dr, tk', os⟩, _, .ref C, some d, rfl, J, fun b o q => ?_, ge, hoe, ⟨hc, hd⟩, hdat, h1, ?_, rfl, I1.bare, raises_own T.exC T.tyC, q1 d (I1.hok.fresh M.dbig)⟩
    · by_cases hb : b = e
      · have q' : G'.get? b = some o := q
        rw [hb, ge] at q'; cases q'
      · exact (gk b hb).symm.trans q
    · rw [upd_ne (Ne.symm M.dne)]
      exact I1.hok.fresh M.new
/-- raise C(e) -/
def tRaiseInvalidPlan (C : Addr) (W : WX) (ta : TA) : TS := fun _ σ H => tMkInvalidPlan C ta σ H fun cls d H' => W cls d σ H'
theorem ps_raiseInvalidPlan {a : Expr} {ta : TA} {W : WX} {p pos pos2 : Pos} {k : Nat} (hc : X.calm = true) (T : PySem.XInvalidPlan.InvalidPlanTxt X.K X.mg C fI) (hr : Room k X.A) (tk : Takes X W) (ha : PA X [a] ta) (hg : Gl X "InvalidPlan" := by rfl)
    (he : starEach (a :: []) X.env = (false, eval a X.env) :: starEach [] X.env := by rfl) (hpl : (backTo pos (starEach [] X.env)).any (·.1) = false := by rfl) :
    PS X (.Raise (some (.Call (.Name "InvalidPlan" p) [a] [] pos)) none pos2) (tRaiseInvalidPlan C W ta) := ps_raise hc tk (pmk_InvalidPlan T hr ha hg he hpl)
/-- x.f, low the exception that the suite holds (at a; its class cls, its dict d) -/
def tByInvalidPlan (C : Addr) (a : Addr) (cls : Value) (d : Option Addr) (te : TE) : TE := fun σ H Q => te σ H fun x H1 => x = .ref a ∧ cls = .ref C ∧ ∃ (dd : Addr) (v : V), d = some dd ∧ H1 dd = some (.xd [(("index" : Str), v)]) ∧ Q v H1
theorem pe_byInvalidPlan {a : Addr} {oe : Obj} {cls : Value} {d : Option Addr} {pn : List (Addr × Obj)} {e : Expr} {te : TE} {pos : Pos} (T : PySem.XInvalidPlan.InvalidPlanTxt X.K X.mg C fI) (hz : Zc cls d oe) (hf : ∃ vs, oe.data = .fields vs) (he : PE (X.suite a ((a, oe) :: pn)) e te)
    (hb : attributeBase e "index" X.env (eval e X.env) = eval e X.env := by rfl) :
    PE (X.suite a ((a, oe) :: pn)) (.Attribute e "index" pos) (tByInvalidPlan C a cls d te) := by
  refine ⟨fun pins s σ H Q I h => ?_⟩
  refine attr_of hb (thn (he.run pins s σ H _ I h) fun u s1 hh => ?_)
  obtain ⟨x, H1, I1, rx, ex, ec, dd, v, ed, ea, q⟩ := hh
  subst ex
  obtain rfl : u = Value.ref a := rx
  subst ec
  subst ed
  obtain ⟨ha, _⟩ := I1.pin (a, oe) (List.mem_append_left _ List.mem_cons_self)
  obtain ⟨vs, hd⟩ := hf
  have hx : ObjOk X.prog X.w H1 s1.heap dd (.xd [(("index" : Str), v)]) := I1.hok dd _ ea
  obtain ⟨mA, hns, hr⟩ := hx
  obtain ⟨od, ho, hl⟩ := lookIn_ns hns
  have l : List.lookup ("index" : Str) [(("index" : Str), v)] = some v := by simp [List.lookup]
  obtain ⟨u, hu, ru⟩ := RelO.some_of (v := v) (o := mA "index") (by rw [← l]; exact hr "index")
  have J : PySem.W.InstAt s1.heap a oe C (some od) := ⟨ha, hz.1, by unfold PySem.W.notCls; rw [hd] <;> rfl, by rw [hz.2]; exact ho⟩
  exact HandSPX.exc_get I1.kIn J T.ga T.gg T.exC (PySem.W.findObj_own T.hdC T.noN rfl (by rw [hl, hu])) (handed_of ru) ⟨v, H1, I1.tok _, ru, q⟩
end
end L2

namespace KS
open PySem PySem.Spec PyProof.Rows L2
theorem exm_self {K : PySem.W.Frag} {S : Addr} (h1 : PySem.W.subIn K (.ref S) (.type "BaseException") = some true) (h2 : PySem.W.isClsIn K S = true) (h3 : PySem.W.typeIn K (.ref S) = some (.type "type")) (h4 : PySem.W.subIn K (.ref S) (.ref S) = some true) :
    PySem.W.exmOne K (.ref S) (.ref S) = some true := by
  have e1 : (PySem.W.subIn K (.ref S) (.type "BaseException") == some true) = true := by rw [h1] <;> rfl
  have e2 : ((PySem.W.clsIn K S).isSome && PySem.W.typeIn K (.ref S) == some (.type "type")) = true := by
    have h2' : (PySem.W.clsIn K S).isSome = true := h2
    rw [h2', h3] <;> rfl
  show (if (PySem.W.subIn K (.ref S) (.type "BaseException") == some true) = true then (if ((PySem.W.clsIn K S).isSome && PySem.W.typeIn K (.ref S) == some (.type "type")) = true then PySem.W.subIn K (.ref S) (.ref S) else none) else none) = some true
  rw [if_pos e1, if_pos e2]
  exact h4
end KS
namespace KS
open PySem PySem.Spec PyProof.Rows L2
/-! ### things of any kind, as is_plan and its law look at them -/
inductive Oth (K : PySem.W.Frag) (H : Hp) : V → String → Prop
  | non : Oth K H .non "NoneType"
  | bl (b : Bool) : Oth K H (.bl b) "bool"
  | int (i : Int) : Oth K H (.int i) "int"
  | str (x : Str) : Oth K H (.str x) "str"
  | lst {a : Addr} {xs : List V} : H a = some (.lst xs) → Oth K H (.ref a) "list"
  | dct {a : Addr} {kvs : List (Key × V)} : H a = some (.dK kvs) → Oth K H (.ref a) "dict"
  | tup {a : Addr} {xs : List V} : SqT K H a xs → Oth K H (.ref a) "tuple"
theorem Oth.ty {K : PySem.W.Frag} {H : Hp} {v : V} {t : String} (h : Oth K H v t) : TyX K H v (.type t) := by
  cases h with
  | non => exact .base .non
  | bl b => exact .base (.bl b)
  | int i => exact .base (.int i)
  | str x => exact .base (.str x)
  | lst e => exact .base (.lst e)
  | dct e => exact .base (.dK e)
  | tup e => exact tyx_tup e
/-- a number of a row or column (true), or a known other thing -/
def PlR (K : PySem.W.Frag) (H : Hp) (v : V) : Bool → Prop
  | true => ∃ i, v = .int i ∧ 0 ≤ i ∧ i ≤ 7
  | false => (∃ i, v = .int i ∧ ¬ (0 ≤ i ∧ i ≤ 7)) ∨ ∃ t, Oth K H v t ∧ t ≠ "int"
/-- an int between bounds (true), or a known other thing -/
def BwR (K : PySem.W.Frag) (H : Hp) (v : V) (lo hi : Int) : Bool → Prop
  | true => ∃ i, v = .int i ∧ lo ≤ i ∧ i ≤ hi
  | false => (∃ i, v = .int i ∧ ¬ (lo ≤ i ∧ i ≤ hi)) ∨ ∃ t, Oth K H v t ∧ t ≠ "int"
def spBetweenG (K : PySem.W.Frag) : Sp := fun vs H Q _ => ∃ (v : V) (lo hi : Int) (b : Bool), vs = [v, .int lo, .int hi] ∧ BwR K H v lo hi b ∧ Q (.bl b) H
theorem bw_of_pl {K : PySem.W.Frag} {H : Hp} {v : V} {b : Bool} (h : PlR K H v b) : BwR K H v 0 7 b := by
  cases b <;> exact h
/-- a cell, or a known other thing -/
def ElR (K : PySem.W.Frag) (H : Hp) (x : V) : Option Cell → Prop
  | some c => CellAt K H x c ∧ InGrid c
  | none => (∃ t, Oth K H x t ∧ t ≠ "tuple") ∨ (∃ t ys, x = .ref t ∧ SqT K H t ys ∧ ys.length ≠ 2) ∨
      ∃ t y0 y1 b0 b1, x = .ref t ∧ SqT K H t [y0, y1] ∧ PlR K H y0 b0 ∧ PlR K H y1 b1 ∧ (b0 && b1) = false
abbrev Els (K : PySem.W.Frag) (H : Hp) : List V → List (Option Cell) → Prop := Paired (ElR K H)
/-- the first i elements are cells that ascend -/
def OkTo (rs : List (Option Cell)) (i : Nat) : Prop := ∀ j, j < i → ∃ c, rs[j]? = some (some c) ∧ ∀ k, j = k + 1 → ∃ c', rs[k]? = some (some c') ∧ lt2 c' c
def BadAt (rs : List (Option Cell)) (i : Nat) : Prop := rs[i]? = some none ∨ ∃ c c' k, rs[i]? = some (some c) ∧ i = k + 1 ∧ rs[k]? = some (some c') ∧ ¬ lt2 c' c
inductive Verd | ok | non | at (i : Nat)
/-- what a thing is worth as a plan -/
def PlanV (K : PySem.W.Frag) (H : Hp) (v : V) : Verd → Prop
  | .ok => ∃ a xs rs, v = .ref a ∧ SqT K H a xs ∧ 1 ≤ xs.length ∧ xs.length ≤ 24 ∧ Els K H xs rs ∧ OkTo rs rs.length
  | .non => (∃ t, Oth K H v t ∧ t ≠ "tuple") ∨ ∃ a xs, v = .ref a ∧ SqT K H a xs ∧ (xs.length = 0 ∨ 24 < xs.length)
  | .at i => ∃ a xs rs, v = .ref a ∧ SqT K H a xs ∧ 1 ≤ xs.length ∧ xs.length ≤ 24 ∧ Els K H xs rs ∧ OkTo rs i ∧ BadAt rs i
def Verd.good : Verd → Bool
  | .ok => true
  | _ => false
theorem lt2_dec (a b : Cell) : lt2 a b ∨ ¬ lt2 a b := Classical.em _
/-- each list of verdicts has a first fault, or none -/
theorem first_bad (rs : List (Option Cell)) : ∀ n, n ≤ rs.length → OkTo rs n ∨ ∃ i, i < n ∧ OkTo rs i ∧ BadAt rs i
  | 0, _ => .inl fun j hj => absurd hj (Nat.not_lt_zero _)
  | n + 1, h => by
    rcases first_bad rs n (by omega) with ok | ⟨i, h1, h2, h3⟩
    · have hn : n < rs.length := by omega
      cases e : rs[n]? with
      | none =>
        have := List.getElem?_eq_none_iff.mp e
        omega
      | some o =>
        cases o with
        | none => exact .inr ⟨n, by omega, ok, .inl e⟩
        | some c =>
          have fin : (∀ k, n = k + 1 → ∃ c', rs[k]? = some (some c') ∧ lt2 c' c) → OkTo rs (n + 1) := fun q j hj => by
            by_cases z : j < n
            · exact ok j z
            · have : j = n := by omega
              subst this
              exact ⟨c, e, q⟩
          cases n with
          | zero => exact .inl (fin fun k z => by omega)
          | succ m =>
            obtain ⟨c', e', _⟩ := ok m (by omega)
            rcases lt2_dec c' c with z | z
            · exact .inl (fin fun k hk => by
                have : k = m := by omega
                subst this
                exact ⟨c', e', z⟩)
            · exact .inr ⟨m + 1, by omega, ok, .inr ⟨c, c', m, e, rfl, e', z⟩⟩
    · exact .inr ⟨i, by omega, h2, h3⟩
/-- a tuple whose elements are known has a worth -/
theorem planV_of {K : PySem.W.Frag} {H : Hp} {a : Addr} {xs : List V} {rs : List (Option Cell)} (h : SqT K H a xs) (e : Els K H xs rs) : ∃ v, PlanV K H (.ref a) v := by
  by_cases c : xs.length = 0 ∨ 24 < xs.length
  · exact ⟨.non, .inr ⟨a, xs, rfl, h, c⟩⟩
  · have hl := Paired.length e
    rcases first_bad rs rs.length (Nat.le_refl _) with ok | ⟨i, _, h2, h3⟩
    · exact ⟨.ok, a, xs, rs, rfl, h, by omega, by omega, e, ok⟩
    · exact ⟨.at i, a, xs, rs, rfl, h, by omega, by omega, e, h2, h3⟩
theorem els_cells {K : PySem.W.Frag} {H : Hp} : ∀ {xs : List V} {cs : List Cell}, CellsAt K H xs cs → (∀ c ∈ cs, InGrid c) → Els K H xs (cs.map some)
  | _, _, .nil, _ => .nil
  | _, _, .cons r t, g => .cons ⟨r, g _ List.mem_cons_self⟩ (els_cells t fun c hc => g c (List.mem_cons_of_mem _ hc))
theorem okTo_good {cs : List Cell} (h : cs.Pairwise lt2) : OkTo (cs.map some) (cs.map some).length := by
  intro j hj
  rw [List.length_map] at hj
  refine ⟨cs[j], by rw [List.getElem?_map, List.getElem?_eq_getElem hj]; rfl, fun k hk => ?_⟩
  subst hk
  have hk : k < cs.length := by omega
  exact ⟨cs[k], by rw [List.getElem?_map, List.getElem?_eq_getElem hk]; rfl, (List.pairwise_iff_getElem.mp h) k (k + 1) hk hj (by omega)⟩
theorem planV_good {K : PySem.W.Frag} {H : Hp} {a : Addr} {cs : List Cell} (h : PlanAt K H a cs) (g : Good cs) (hl : cs.length ≤ 24) : PlanV K H (.ref a) .ok := by
  obtain ⟨xs, h1, h2⟩ := h
  have hlen := Paired.length h2
  have hpos : 0 < cs.length := by
    rcases Nat.eq_zero_or_pos cs.length with z | z
    · exact absurd (List.eq_nil_of_length_eq_zero z) g.ne
    · exact z
  exact ⟨a, xs, cs.map some, rfl, h1, by omega, by omega, els_cells h2 g.grid, okTo_good g.asc⟩
/-! ### what stays -/
theorem Oth.same {K : PySem.W.Frag} {H H' : Hp} {v : V} {t : String} (s : Same H H') (h : Oth K H v t) : Oth K H' v t := by
  cases h with
  | non => exact .non
  | bl b => exact .bl b
  | int i => exact .int i
  | str x => exact .str x
  | lst e => exact .lst (s _ _ e)
  | dct e => exact .dct (s _ _ e)
  | tup e => exact .tup (same_seqT s e)
theorem PlR.same {K : PySem.W.Frag} {H H' : Hp} {v : V} {b : Bool} (s : Same H H') (h : PlR K H v b) : PlR K H' v b := by
  cases b with
  | true => exact h
  | false =>
    rcases h with h | ⟨t, h, n⟩
    · exact .inl h
    · exact .inr ⟨t, h.same s, n⟩
theorem ElR.same {K : PySem.W.Frag} {H H' : Hp} {x : V} {o : Option Cell} (s : Same H H') (h : ElR K H x o) : ElR K H' x o := by
  cases o with
  | some c => exact ⟨h.1.kt (.of_same s), h.2⟩
  | none =>
    rcases h with ⟨t, h, n⟩ | ⟨t, ys, e, h, n⟩ | ⟨t, y0, y1, b0, b1, e, h, p0, p1, n⟩
    · exact .inl ⟨t, h.same s, n⟩
    · exact .inr (.inl ⟨t, ys, e, same_seqT s h, n⟩)
    · exact .inr (.inr ⟨t, y0, y1, b0, b1, e, same_seqT s h, p0.same s, p1.same s, n⟩)
theorem els_same {K : PySem.W.Frag} {H H' : Hp} (s : Same H H') {xs : List V} {rs : List (Option Cell)} (h : Els K H xs rs) : Els K H' xs rs := Paired.mono (fun _ _ q => q.same s) h
theorem PlanV.same {K : PySem.W.Frag} {H H' : Hp} {v : V} {b : Verd} (s : Same H H') (h : PlanV K H v b) : PlanV K H' v b := by
  cases b with
  | ok =>
    obtain ⟨a, xs, rs, e, h1, h2, h3, h4, h5⟩ := h
    exact ⟨a, xs, rs, e, same_seqT s h1, h2, h3, els_same s h4, h5⟩
  | non =>
    rcases h with ⟨t, h, n⟩ | ⟨a, xs, e, h, n⟩
    · exact .inl ⟨t, h.same s, n⟩
    · exact .inr ⟨a, xs, e, same_seqT s h, n⟩
  | «at» i =>
    obtain ⟨a, xs, rs, e, h1, h2, h3, h4, h5⟩ := h
    exact ⟨a, xs, rs, e, same_seqT s h1, h2, h3, els_same s h4, h5⟩
/-! ### the promises -/
def spWholeG (K : PySem.W.Frag) : Sp := fun vs H Q _ => ∃ (v : V) (t : String), vs = [v] ∧ Oth K H v t ∧ Q (.bl (decide (t = "int"))) H
def spPlaceG (K : PySem.W.Frag) : Sp := fun vs H Q _ => ∃ (v : V) (b : Bool), vs = [v] ∧ PlR K H v b ∧ Q (.bl b) H
def spIsCellG (K : PySem.W.Frag) : Sp := fun vs H Q _ => ∃ (v : V) (o : Option Cell), vs = [v] ∧ ElR K H v o ∧ ∀ H', Same H H' → Q (.bl o.isSome) H'
def vIdx : Verd → V
  | .at i => .int (i : Nat)
  | _ => .non
def spCheckG (K : PySem.W.Frag) (C : Addr) : Sp := fun vs H Q E => ∃ (v : V) (b : Verd), vs = [v] ∧ PlanV K H v b ∧ (b.good = true → ∀ H', Same H H' → Q .non H') ∧
  (b.good = false → ∀ H' d, Same H H' → H d = none → H' d = some (.xd [(("index" : Str), vIdx b)]) → E (.ref C) (some d) H')
def spIsPlan (K : PySem.W.Frag) : Sp := fun vs H Q _ => ∃ (v : V) (b : Verd), vs = [v] ∧ PlanV K H v b ∧ ∀ H', Same H H' → Q (.bl b.good) H'
theorem le2_iff {a b : Cell} : Ob.lexAt (fun j => decide (([b.1, b.2] : List Int).getD j 0 = ([a.1, a.2] : List Int).getD j 0)) (fun j => decide (([b.1, b.2] : List Int).getD j 0 ≤ ([a.1, a.2] : List Int).getD j 0)) (decide (([b.1, b.2] : List Int).length ≤ ([a.1, a.2] : List Int).length)) 0 (min ([b.1, b.2] : List Int).length ([a.1, a.2] : List Int).length) = true ↔ ¬ lt2 a b := by
  constructor
  · intro h z
    rw [not_le2 z] at h
    cases h
  · intro h
    show Ob.lexAt _ _ _ 0 2 = true
    rw [Ob.lexAt_succ, Ob.lexAt_succ]
    show (if decide (b.1 = a.1) = true then (if decide (b.2 = a.2) = true then _ else decide (b.2 ≤ a.2)) else decide (b.1 ≤ a.1)) = true
    unfold lt2 at h
    by_cases e1 : b.1 = a.1
    · rw [if_pos (by simpa using e1)]
      by_cases e2 : b.2 = a.2
      · rw [if_pos (by simpa using e2)]
        rfl
      · rw [if_neg (by simpa using e2)]
        simp
        omega
    · rw [if_neg (by simpa using e1)]
      simp
      omega
/-- isinstance's answers -/
theorem kit_int {K : PySem.W.Frag} {H : Hp} {v : V} {t : String} (h : Oth K H v t) : PySem.W.kitOne K (.type t) (.type "int") = some (decide (t = "int" ∨ t = "bool")) := by
  cases h <;> exact kit_ty (by decide +kernel)
theorem kit_bool {K : PySem.W.Frag} {H : Hp} {v : V} {t : String} (h : Oth K H v t) : PySem.W.kitOne K (.type t) (.type "bool") = some (decide (t = "bool")) := by
  cases h <;> exact kit_ty (by decide +kernel)
theorem kit_tuple {K : PySem.W.Frag} {H : Hp} {v : V} {t : String} (h : Oth K H v t) : PySem.W.kitOne K (.type t) (.type "tuple") = some (decide (t = "tuple")) := by
  cases h <;> exact kit_ty (by decide +kernel)
end KS
namespace KS
open PySem PySem.Spec PyProof.Rows L2
theorem ok_notBad {rs : List (Option Cell)} {n i : Nat} (h : OkTo rs n) (hi : i < n) : ¬ BadAt rs i := by
  obtain ⟨c, e, k⟩ := h i hi
  rintro (z | ⟨c1, c2, j, e1, e2, e3, e4⟩)
  · rw [e] at z
    cases z
  · rw [e] at e1
    cases e1
    obtain ⟨c3, e5, e6⟩ := k j e2
    rw [e3] at e5
    cases e5
    exact e4 e6
theorem bad_lt {rs : List (Option Cell)} {i : Nat} (h : BadAt rs i) : i < rs.length := by
  rcases h with z | ⟨c1, c2, j, e1, _⟩
  · exact (List.getElem?_eq_some_iff.mp z).1
  · exact (List.getElem?_eq_some_iff.mp e1).1
/-- the two ways of a tuple of a right length -/
def TwoWays (rs : List (Option Cell)) (b : Verd) : Prop := (b.good = true ∧ OkTo rs rs.length) ∨ ∃ i, b = .at i ∧ OkTo rs i ∧ BadAt rs i
theorem TwoWays.bad {rs : List (Option Cell)} {b : Verd} {i : Nat} (h : TwoWays rs b) (ok : OkTo rs i) (bad : BadAt rs i) : b = .at i := by
  rcases h with ⟨_, h⟩ | ⟨j, e, h1, h2⟩
  · exact absurd bad (ok_notBad h (bad_lt bad))
  · have : i = j := by
      rcases Nat.lt_trichotomy i j with z | z | z
      · exact absurd bad (ok_notBad h1 z)
      · exact z
      · exact absurd h2 (ok_notBad ok z)
    rw [this]
    exact e
theorem TwoWays.ok {rs : List (Option Cell)} {b : Verd} (h : TwoWays rs b) (ok : OkTo rs rs.length) : b.good = true := by
  rcases h with ⟨h, _⟩ | ⟨j, e, h1, h2⟩
  · exact h
  · exact absurd h2 (ok_notBad ok (bad_lt h2))
theorem PlanV.split {K : PySem.W.Frag} {H : Hp} {v : V} {b : Verd} (h : PlanV K H v b) : (b = .non ∧ ((∃ t, Oth K H v t ∧ t ≠ "tuple") ∨ ∃ a xs, v = .ref a ∧ SqT K H a xs ∧ (xs.length = 0 ∨ 24 < xs.length))) ∨
    ∃ a xs rs, v = .ref a ∧ SqT K H a xs ∧ 1 ≤ xs.length ∧ xs.length ≤ 24 ∧ Els K H xs rs ∧ TwoWays rs b := by
  cases b with
  | ok =>
    obtain ⟨a, xs, rs, e, h1, h2, h3, h4, h5⟩ := h
    exact .inr ⟨a, xs, rs, e, h1, h2, h3, h4, .inl ⟨rfl, h5⟩⟩
  | non => exact .inl ⟨rfl, h⟩
  | «at» i =>
    obtain ⟨a, xs, rs, e, h1, h2, h3, h4, h5, h6⟩ := h
    exact .inr ⟨a, xs, rs, e, h1, h2, h3, h4, .inr ⟨i, rfl, h5, h6⟩⟩
theorem okTo_succ {rs : List (Option Cell)} {i : Nat} {c : Cell} (h : OkTo rs i) (e : rs[i]? = some (some c)) (k : ∀ j, i = j + 1 → ∃ c', rs[j]? = some (some c') ∧ lt2 c' c) : OkTo rs (i + 1) := fun j hj => by
  by_cases z : j < i
  · exact h j z
  · have : j = i := by omega
    subst this
    exact ⟨c, e, k⟩
end KS
namespace KS
open PySem PySem.Spec PyProof.Rows L2
section
variable {K : PySem.W.Frag} {H H' : Hp} {p : Addr}
theorem Oth.keepX {v : V} {t : String} (hp : PoolO (H p)) (hp' : PoolO (H' p)) (k : KeepX p H H') (h : Oth K H v t) : Oth K H' v t := by
  obtain ⟨x1, x2, x3, e1, _⟩ := hp
  cases h with
  | non => exact .non
  | bl b => exact .bl b
  | int i => exact .int i
  | str x => exact .str x
  | @lst a xs e =>
    by_cases z : a = p
    · subst z
      obtain ⟨y1, y2, y3, e2, _⟩ := hp'
      exact .lst e2
    · exact .lst (k _ _ z e)
  | @dct a kvs e => exact .dct (k _ _ (ne_of e e1 (by intro q; cases q)) e)
  | tup e => exact .tup (keepX_seqT ⟨x1, x2, x3, e1, by assumption⟩ k e)
theorem PlR.keepX {v : V} {b : Bool} (hp : PoolO (H p)) (hp' : PoolO (H' p)) (k : KeepX p H H') (h : PlR K H v b) : PlR K H' v b := by
  cases b with
  | true => exact h
  | false =>
    rcases h with h | ⟨t, h, n⟩
    · exact .inl h
    · exact .inr ⟨t, h.keepX hp hp' k, n⟩
theorem ElR.keepX {x : V} {o : Option Cell} (hp : PoolO (H p)) (hp' : PoolO (H' p)) (k : KeepX p H H') (h : ElR K H x o) : ElR K H' x o := by
  cases o with
  | some c => exact ⟨h.1.kt (.of_keepX hp k), h.2⟩
  | none =>
    rcases h with ⟨t, h, n⟩ | ⟨t, ys, e, h, n⟩ | ⟨t, y0, y1, b0, b1, e, h, p0, p1, n⟩
    · exact .inl ⟨t, h.keepX hp hp' k, n⟩
    · exact .inr (.inl ⟨t, ys, e, keepX_seqT hp k h, n⟩)
    · exact .inr (.inr ⟨t, y0, y1, b0, b1, e, keepX_seqT hp k h, p0.keepX hp hp' k, p1.keepX hp hp' k, n⟩)
theorem PlanV.keepX {v : V} {b : Verd} (hp : PoolO (H p)) (hp' : PoolO (H' p)) (k : KeepX p H H') (h : PlanV K H v b) : PlanV K H' v b := by
  have lift : ∀ {xs : List V} {rs : List (Option Cell)}, Els K H xs rs → Els K H' xs rs := fun h => Paired.mono (fun _ _ q => q.keepX hp hp' k) h
  cases b with
  | ok =>
    obtain ⟨a, xs, rs, e, h1, h2, h3, h4, h5⟩ := h
    exact ⟨a, xs, rs, e, keepX_seqT hp k h1, h2, h3, lift h4, h5⟩
  | non =>
    rcases h with ⟨t, h, n⟩ | ⟨a, xs, e, h, n⟩
    · exact .inl ⟨t, h.keepX hp hp' k, n⟩
    · exact .inr ⟨a, xs, e, keepX_seqT hp k h, n⟩
  | «at» i =>
    obtain ⟨a, xs, rs, e, h1, h2, h3, h4, h5⟩ := h
    exact ⟨a, xs, rs, e, keepX_seqT hp k h1, h2, h3, lift h4, h5⟩
/-- odd things -/
theorem odd2 {t : Addr} {y0 y1 : V} {b0 b1 : Bool} (h : H t = some (.tup [y0, y1])) (p0 : PlR K H y0 b0) (p1 : PlR K H y1 b1) (n : (b0 && b1) = false) : ElR K H (.ref t) none :=
  .inr (.inr ⟨t, y0, y1, b0, b1, rfl, SqT.of h, p0, p1, n⟩)
theorem oddN {t : Addr} {ys : List V} (h : SqT K H t ys) (n : ys.length ≠ 2) : ElR K H (.ref t) none := .inr (.inl ⟨t, ys, rfl, h, n⟩)
theorem oddO {x : V} {t : String} (h : Oth K H x t) (n : t ≠ "tuple") : ElR K H x none := .inl ⟨t, h, n⟩
theorem pl_yes {i : Int} (h : 0 ≤ i ∧ i ≤ 7) : PlR K H (.int i) true := ⟨i, rfl, h.1, h.2⟩
theorem pl_no {i : Int} (h : ¬ (0 ≤ i ∧ i ≤ 7)) : PlR K H (.int i) false := .inl ⟨i, rfl, h⟩
theorem pl_oth {x : V} {t : String} (h : Oth K H x t) (n : t ≠ "int") : PlR K H x false := .inr ⟨t, h, n⟩
theorem odd_plan {a : Addr} {cs : List Cell} (h : PlanAt K H a cs) : ElR K H (.ref a) none := by
  obtain ⟨xs, h1, h2⟩ := h
  by_cases c : xs.length = 2
  · cases h2 with
    | nil => cases c
    | @cons x c0 xs1 cs1 r0 h3 =>
      cases h3 with
      | nil => cases c
      | @cons y c1 xs2 cs2 r1 h4 =>
        cases h4 with
        | cons _ _ =>
          simp at c
        | nil =>
          obtain ⟨t0, e0, q0⟩ := r0
          obtain ⟨t1, e1, q1⟩ := r1
          subst e0
          subst e1
          exact .inr (.inr ⟨a, _, _, false, false, rfl, h1, pl_oth (.tup q0) (by decide), pl_oth (.tup q1) (by decide), rfl⟩)
  · exact oddN h1 c
end
def spBent (K : PySem.W.Frag) : Sp := fun vs H Q _ => ∃ (p a : Addr) (cs : List Cell), vs = [.ref p, .ref a] ∧ PoolO (H p) ∧ PlanAt K H a cs ∧ Good cs ∧ cs.length ≤ 24 ∧
  ∀ H' v b, KeepX p H H' → PoolO (H' p) → PlanV K H' v b → Q v H'
end KS
namespace KS
open PySem PySem.Spec PyProof.Rows L2
section
variable {K : PySem.W.Frag} {σ : L2.St} {H : Hp} {Q : VK} {ta : TA}
/-- a display of values that are at hand: a new object -/
theorem tup_ok (vs : List V) (h : ∀ R : List V → Hp → Prop, R vs H → ta σ H R) (hl : vs.length ≤ 64) (k : ∀ H' t, Same H H' → H' t = some (.tup vs) → H t = none → Q (.ref t) H') : tTup ta σ H Q :=
  h _ ⟨Nat.le_of_lt (small64 hl), fun p np => k _ p (same_new np) upd_same np⟩
theorem lst_ok (vs : List V) (h : ∀ R : List V → Hp → Prop, R vs H → ta σ H R) (hl : vs.length ≤ 64) (k : ∀ H' t, Same H H' → H' t = some (.lst vs) → H t = none → Q (.ref t) H') : tLst ta σ H Q :=
  h _ ⟨Nat.le_of_lt (small64 hl), fun p np => k _ p (same_new np) upd_same np⟩
theorem dnew_ok (k : ∀ H' t, Same H H' → H' t = some (.dK []) → H t = none → Q (.ref t) H') : tDNewK σ H Q :=
  fun p np => k _ p (same_new np) upd_same np
theorem catA_ok {a b : Addr} {xs ys : List V} (ha : SqT K H a xs) (hb : SqT K H b ys) (hl : xs.length + ys.length ≤ 64)
    (k : ∀ H' u, Same H H' → SqT K H' u (xs ++ ys) → Q (.ref u) H') : rCatA K (.ref a) (.ref b) H Q := by
  refine ⟨a, b, xs, ys, rfl, rfl, ha, hb, Nat.le_of_lt (small64 hl), fun e => ?_, fun _ e => ?_, fun _ _ p np => ?_⟩
  · subst e
    exact k H b (Same.refl _) hb
  · subst e
    exact k H a (Same.refl _) (by rw [List.append_nil]; exact ha)
  · exact k _ p (same_new np) (SqT.of upd_same)
theorem cut_to {xs : List V} {k : Nat} (h : k ≤ xs.length) : cutV xs none (some (k : Int)) = xs.take k := by
  unfold cutV
  rw [HT.sIx_none, HT.sIx_nat, Nat.min_eq_left h]
  simp
theorem cut_from {xs : List V} {k : Nat} (h : k ≤ xs.length) : cutV xs (some (k : Int)) none = xs.drop k := by
  unfold cutV
  rw [HT.sIx_none, HT.sIx_nat, Nat.min_eq_left h]
  exact List.take_of_length_le (by rw [List.length_drop]; exact Nat.le_refl _)
/-- t[:k], t[k:], whatever object comes -/
theorem slTo_ok {a : Addr} {xs : List V} {n : Nat} (ha : SqT K H a xs) (hn : n ≤ xs.length) (k : ∀ H' u, Same H H' → SqT K H' u (xs.take n) → Q (.ref u) H') : rSlA K (.ref a) none (some (n : Int)) H Q := by
  refine ⟨a, xs, rfl, ha, fun z => ?_, fun _ p np => ?_⟩
  · obtain ⟨_, z2⟩ := z
    rw [show HT.sIx xs.length xs.length (some (n : Int)) = min n xs.length from HT.sIx_nat _ _ n] at z2
    have e : n = xs.length := by omega
    refine k H a (Same.refl _) ?_
    rw [e, List.take_length]
    exact ha
  · refine k _ p (same_new np) (SqT.of ?_)
    rw [upd_same, cut_to hn]
theorem slFrom_ok {a : Addr} {xs : List V} {n : Nat} (ha : SqT K H a xs) (hn : n ≤ xs.length) (k : ∀ H' u, Same H H' → SqT K H' u (xs.drop n) → Q (.ref u) H') : rSlA K (.ref a) (some (n : Int)) none H Q := by
  refine ⟨a, xs, rfl, ha, fun z => ?_, fun _ p np => ?_⟩
  · obtain ⟨z1, _⟩ := z
    rw [show HT.sIx xs.length 0 (some (n : Int)) = min n xs.length from HT.sIx_nat _ _ n] at z1
    refine k H a (Same.refl _) ?_
    rcases Nat.eq_zero_or_pos n with e | e
    · subst e
      exact ha
    · have e2 : xs.length = 0 := by omega
      have e3 := List.eq_nil_of_length_eq_zero e2
      subst e3
      simpa using ha
  · refine k _ p (same_new np) (SqT.of ?_)
    rw [upd_same, cut_from hn]
theorem paired_take {α β : Type} {F : α → β → Prop} : ∀ {l₁ : List α} {l₂ : List β} (i : Nat), Paired F l₁ l₂ → Paired F (l₁.take i) (l₂.take i)
  | _, _, 0, _ => .nil
  | _, _, _ + 1, .nil => .nil
  | _, _, i + 1, .cons r t => .cons r (paired_take i t)
theorem paired_drop {α β : Type} {F : α → β → Prop} : ∀ {l₁ : List α} {l₂ : List β} (i : Nat), Paired F l₁ l₂ → Paired F (l₁.drop i) (l₂.drop i)
  | _, _, 0, h => h
  | _, _, _ + 1, .nil => .nil
  | _, _, i + 1, .cons _ t => paired_drop i t
theorem paired_rev {α β : Type} {F : α → β → Prop} : ∀ {l₁ : List α} {l₂ : List β}, Paired F l₁ l₂ → Paired F l₁.reverse l₂.reverse
  | _, _, .nil => .nil
  | _, _, .cons r t => by
    rw [List.reverse_cons, List.reverse_cons]
    exact paired_append (paired_rev t) (.cons r .nil)
end
end KS
namespace KS
open PySem PySem.Spec PyProof.Rows L2
theorem new_ok {H : Hp} {o : HO} {Q : VK} (k : ∀ H' t, Same H H' → H' t = some o → H t = none → Q (.ref t) H') : ∀ p, H p = none → Q (.ref p) (upd H p o) := fun p np => k _ p (same_new np) upd_same np
theorem pick_ok {items : List V} {r : Int} (h0 : 0 ≤ r) (h1 : r < (items.length : Int)) : ∃ x, x ∈ items ∧ atI items r = some x := by
  obtain ⟨n, rfl⟩ := Int.eq_ofNat_of_zero_le h0
  have hn : n < items.length := by omega
  exact ⟨items[n], List.getElem_mem hn, atI_nat (List.getElem?_eq_getElem hn)⟩
end KS
namespace KS
open PySem PySem.Spec PyProof.Rows L2 RZ
def spSpots (K : PySem.W.Frag) : Sp := fun xs H Q _ => ∃ r c : Nat, xs = [.int (r : Nat), .int (c : Nat)] ∧ Sides8 r c ∧ ∀ H' a, Same H H' → PlanAt K H' a (rectC r c) → Q (.ref a) H'
abbrev sSpots : Stmt := topS 39
abbrev nSpots : List Str := ["_law_high", "_law_wide", "_law_found", "_law_k", "_law_at"]
theorem scSpots : FnScope nSpots ["_law_high", "_law_wide"] (defScope sSpots) := ⟨rfl, rfl, rfl, by decide +kernel, rfl, by decide +kernel, by decide +kernel⟩
section
variable {P : Program} {w : World} {K : PySem.W.Frag} {mg : Str → Option Value} {base : Heap}
theorem ok_spots {f : Addr} {fd : FuncData} (F : Fun K "_law_spots" "_law_spots" sSpots f fd) (mr : mg "range" = none) (mt : mg "tuple" = none) : FnOk P w K mg base CX0 1 f fd ["_law_high", "_law_wide"] (spSpots K) := by
  refine F.ok scSpots (fun vs H Q E h => ?_) (fun cdv A outer s H vs Q E hr h => ?_)
  · obtain ⟨r, c, rfl, _⟩ := h
    rfl
  · obtain ⟨r, c, rfl, sd, q⟩ := h
    have nd := scSpots.nd
    refine ⟨_, pss_cons (ps_set (i := 2) nd rfl (.inl rfl) (pe_lst pa_nil))
      (pss_cons (ps_for PassesOwn.never rfl (pi_range1 (by rfl) mr (pa_cons (pv 0) pa_nil)) (pg_name (i := 3) nd rfl (.inr rfl))
        (pss_one (ps_expr (pe_bm PySem.F.plainAttrs_list PySem.F.slot_list_extend PySem.F.type_list_extend mt_extend (pv 2)
          (pa_cons (pe_lc (own := [("_law_at", 4)]) (g := gName 4) (tt := tYes) rfl nd (pi_range1 (by rfl) mr (pa_cons (pv 1) pa_nil)) (blkOk_by (N := nSpots) (sc := defScope sSpots) (by decide +kernel))
            (fun _ _ _ _ _ => pg_name (i := 4) nd rfl (Or.inl rfl)) (fun _ _ _ _ _ => pts_nil) (fun _ _ _ _ _ => pe_tup (pa_cons (pv 3) (pa_cons (pv 4) pa_nil)))) pa_nil)))))
      (pss_one (ps_ret (pe_callTy call_tuple_of (by rfl) mt (by decide +kernel) (pa_cons (pv 2) pa_nil))))), ?_⟩
    have r8 := sd.r8
    have c8 := sd.c8
    refine ⟨by show 0 ≤ sizeLine; decide, fun S nS => ?_⟩
    have hS0 : upd H S (.lst []) S = some (.lst []) := upd_same
    have kx1 : ∀ b o, b ≠ S → H b = some o → upd H S (.lst []) b = some o := fun b o n e => by rw [upd_ne n]; exact e
    generalize upd H S (.lst []) = H1 at hS0 kx1
    refine ⟨_, rfl, _, rfl, by omega, by omega, ?_⟩
    refine for_range (lo := 0) (n := (((r : Nat) : Int)).toNat) (fun i σ G => ∃ (y4 : Option V) (xs : List V), σ = [some (.int (r : Nat)), some (.int (c : Nat)), some (.ref S), y4, none] ∧ G S = some (.lst xs) ∧ CellsAt K G xs (rectC i c) ∧ (∀ b o, b ≠ S → H b = some o → G b = some o)) ?_ ?_ ?_
    · exact ⟨none, [], rfl, hS0, .nil, kx1⟩
    · rintro i σ G hi ⟨y4, xs, rfl, hSG, hc, kG⟩
      rw [Int.toNat_natCast] at hi
      have hlen := Paired.length hc
      rw [rectC_len] at hlen
      have il : i * c ≤ 64 := Nat.mul_le_mul (show i ≤ 8 by omega) (show c ≤ 8 by omega)
      refine ⟨_, rfl, .inl ⟨rfl, _, SqL.of hSG⟩, ?_⟩
      refine ⟨_, rfl, _, rfl, by omega, by omega, fun d nd2 => ?_⟩
      refine lc_range (lo := 0) (n := (((c : Nat) : Int)).toNat) (fun j H2 => ∃ acc : List V, H2 d = some (.lst acc) ∧ CellsAt K H2 acc (rowC i j) ∧ (∀ b o, b ≠ d → G b = some o → H2 b = some o)) ?_ ?_ ?_
      · exact ⟨[], upd_same, .nil, fun b o n z => by rw [upd_ne n]; exact z⟩
      · rintro j H2 hj ⟨acc, a1, a2, a3⟩
        rw [Int.toNat_natCast] at hj
        refine ⟨rfl, _, rfl, _, rfl, (by show 2 ≤ sizeLine; decide), fun z nz => ?_⟩
        have ndt : d ≠ z := ne_of_none a1 nz
        have st := same_new (o := .tup [.int (0 + (i : Int)), .int (0 + (j : Int))]) nz
        have hal : acc.length = j := by
          rw [Paired.length a2, rowC_len]
        refine ⟨acc, st _ _ a1, small64 (by omega), acc ++ [.ref z], upd_same, ?_, fun b o n e => ?_⟩
        · rw [rowC_succ]
          refine paired_append (cells_kt ((KT.of_same st).trans (KT.upd (st _ _ a1))) a2) (.cons ⟨z, rfl, SqT.of ?_⟩ .nil)
          rw [upd_ne (Ne.symm ndt), upd_same, Int.zero_add, Int.zero_add]
        · rw [upd_ne n]
          exact st _ _ (a3 b o n e)
      · rintro H2 ⟨acc, a1, a2, a3⟩
        rw [Int.toNat_natCast] at a2
        have hal : acc.length = c := by
          rw [Paired.length a2, rowC_len]
        have kt2 : KT K G H2 := KT.of_same fun b o z => a3 b o (ne_of_none z nd2) z
        have he2 := a3 _ _ (ne_of_none hSG nd2) hSG
        refine ⟨S, d, xs, acc, rfl, rfl, he2, a1, by rw [sizeLine_eq]; omega, ?_⟩
        refine ⟨_, xs ++ acc, rfl, upd_same, ?_, fun b o n z => ?_⟩
        · rw [rect_more]
          exact cells_kt (KT.upd he2) (paired_append (cells_kt kt2 hc) a2)
        · rw [upd_ne n]
          have z' := kG b o n z
          exact a3 b o (ne_of_none z' nd2) z'
    · rintro σ G ⟨y4, xs, rfl, hSG, hc, kG⟩
      rw [Int.toNat_natCast] at hc
      have sG : Same H G := fun b o e => kG b o (ne_of_none e nS) e
      refine ⟨_, rfl, S, xs, rfl, .inl ⟨SqL.of hSG, fun a na => ?_⟩⟩
      have sa := same_new (o := .tup xs) na
      exact q _ a (sG.trans sa) ⟨xs, SqT.of upd_same, cells_kt (.of_same sa) hc⟩
end
end KS
namespace KS
open PySem PySem.Spec PyProof.Rows L2
abbrev sIsKind : Stmt := topS 18
abbrev sKind : Stmt := topS 19
theorem scIsKind : FnScope ["value"] ["value"] (defScope sIsKind) := ⟨rfl, rfl, rfl, by decide +kernel, rfl, by decide +kernel, by decide +kernel⟩
theorem scKind : FnScope ["kind"] ["kind"] (defScope sKind) := ⟨rfl, rfl, rfl, by decide +kernel, rfl, by decide +kernel, by decide +kernel⟩
section
variable {P : Program} {w : World} {K : PySem.W.Frag} {mg : Str → Option Value} {base : Heap}
theorem ok_isKind {f : Addr} {fd : FuncData} (F : Fun K "is_kind" "is_kind" sIsKind f fd) (mi : mg "isinstance" = none) (mS : mg "str" = none) : FnOk P w K mg base CX0 1 f fd ["value"] spIsKind := by
  refine F.ok scIsKind (fun vs H Q E h => ?_) (fun cdv A outer s H vs Q E hr h => ?_)
  · obtain ⟨b, rfl, _⟩ := h
    rfl
  · obtain ⟨b, rfl, q⟩ := h
    refine ⟨_, pss_one (ps_ret (pe_and (pe_callB call_isi (by rfl) mi (by decide +kernel) (pa_cons (pv 0) (pa_cons (pe_bltn (v := .ty "str") (by rfl) mS (by decide +kernel) rfl) pa_nil)))
        (pe_one (pe_cmpR op_in_seq (pv 0) (pe_tup (pa_cons pe_str (pa_cons pe_str pa_nil))) (by rfl))))), ?_⟩
    refine ⟨_, rfl, _, _, _, _, true, rfl, .ty "str", .base (.str _), kit_ty (by decide +kernel), true, rfl, ?_⟩
    refine ⟨_, rfl, (by show 2 ≤ sizeLine; decide), fun t nt => ⟨t, _, rfl, .inr (SqT.of upd_same), rfl, rfl, ?_⟩⟩
    have e : inV (V.str (if b = true then "C" else "R")) [V.str "R", V.str "C"] = true := by cases b <;> decide +kernel
    show Q (V.bl (inV (V.str (if b = true then "C" else "R")) [V.str "R", V.str "C"])) _
    rw [e]
    exact q _ (same_new nt)
theorem ok_kind {f fI : Addr} {fd fdI : FuncData} (F : Fun K "check_kind" "check_kind" sKind f fd) (GI : FnOk P w K mg base CX0 1 fI fdI ["value"] spIsKind) (bI : Binds K fdI ["value"] []) (gI : mg "is_kind" = some (.ref fI)) (kI : PySem.W.keepIn K (.ref fI) = true) : FnOk P w K mg base CX0 2 f fd ["kind"] spKind := by
  refine F.ok scKind (fun vs H Q E h => ?_) (fun cdv A outer s H vs Q E hr h => ?_)
  · obtain ⟨b, rfl, _⟩ := h
    rfl
  · obtain ⟨b, rfl, q⟩ := h
    refine ⟨_, pss_one (ps_if (pt_not (pt_val (pe_call GI hr (by rfl) gI kI bI .nil pass0 (pa_cons (pv 0) pa_nil)))) (pss_one ps_never) pss_nil), ?_⟩
    exact ⟨_, rfl, b, rfl, fun H' sm => ⟨true, rfl, q H' sm⟩⟩
end
end KS
namespace KS
open PySem PySem.Spec PyProof.Rows L2
abbrev sLines : Stmt := topS 20
abbrev nLines : List Str := ["plan", "kind", "side", "found", "index", "cell", "place"]
theorem scLines : FnScope nLines ["plan", "kind"] (defScope sLines) := ⟨rfl, rfl, rfl, by decide +kernel, rfl, by decide +kernel, by decide +kernel⟩
section
variable {P : Program} {w : World} {K : PySem.W.Frag} {mg : Str → Option Value} {base : Heap}
theorem ok_lines {f fC fK : Addr} {fd fdC fdK : FuncData} (F : Fun K "lines" "lines" sLines f fd) (GC : FnOk P w K mg base CX0 5 fC fdC ["plan"] (spCheck K)) (bC : Binds K fdC ["plan"] []) (gC : mg "check_plan" = some (.ref fC)) (kC : PySem.W.keepIn K (.ref fC) = true)
    (GK : FnOk P w K mg base CX0 2 fK fdK ["kind"] spKind) (bK : Binds K fdK ["kind"] []) (gK : mg "check_kind" = some (.ref fK)) (kK : PySem.W.keepIn K (.ref fK) = true)
    (me : mg "enumerate" = none) (mT : mg "tuple" = none) (mS : mg "sorted" = none) : FnOk P w K mg base CX0 6 f fd ["plan", "kind"] (spLines K) := by
  refine F.ok scLines (fun vs H Q E h => ?_) (fun cdv A outer s H vs Q E hr h => ?_)
  · obtain ⟨a, b, cs, rfl, _⟩ := h
    rfl
  · obtain ⟨a, b, cs, rfl, ⟨xs, hx, hc⟩, gd, hl, q⟩ := h
    have nd := scLines.nd
    have hr1 : Room 2 _ := hr.mono (by decide)
    refine ⟨_, pss_cons (ps_expr (pe_call GC hr (by rfl) gC kC bC .nil pass0 (pa_cons (pv 0) pa_nil)))
      (pss_cons (ps_expr (pe_call GK hr1 (by rfl) gK kK bK .nil pass0 (pa_cons (pv 1) pa_nil)))
      (pss_cons (ps_set (i := 2) nd rfl (.inl rfl) (pe_ifExp (pt_cmpR op_eq (pv 1) pe_str (nomark _)) pe_int pe_int))
      (pss_cons (ps_set (i := 3) nd rfl (.inr rfl) pe_dnewK)
      (pss_cons (ps_for PassesOwn.never rfl (pi_enumT (by rfl) me (pa_cons (pv 0) pa_nil)) (pg_tup (by rfl) (pgs_cons (pg_name (i := 4) nd rfl (.inl rfl)) (pgs_cons (pg_name (i := 5) nd rfl (.inl rfl)) pgs_nil)))
        (pss_one (ps_expr (pe_bm PySem.F.plainAttrs_list PySem.F.slot_list_append PySem.F.type_list_append mt_append
          (pe_dsetd (pv 3) (pe_ix ix_tup (pv 5) (pv 2) (fun _ _ => rfl)) (pe_lst pa_nil) ⟨by rfl, by rfl, by rfl, by rfl⟩) (pa_cons (pv 4) pa_nil)))))
      (pss_one (ps_ret (pe_callTy call_tuple_of (by rfl) mT (by decide +kernel) (pa_cons
        (pe_lc (own := [("place", 6)]) (g := gName 6) (tt := tYes) rfl nd (pi_list (pe_callB (call_sortedDI rfl) (by rfl) mS (by decide +kernel) (pa_cons (pv 3) pa_nil))) (blkOk_by (N := nLines) (sc := defScope sLines) (by decide +kernel))
          (fun _ _ _ _ _ => pg_name (i := 6) nd rfl (Or.inl rfl)) (fun _ _ _ _ _ => pts_nil)
          (fun _ _ _ _ _ => pe_callTy (T := "tuple") (r := rTupOf K) cr_tupOf (by rfl) mT (by decide +kernel) (pa_cons (pe_dget (hu_of hr) (pv 3) (pv 6) (fun _ _ => rfl)) pa_nil))) pa_nil)))))))), ?_⟩
    refine ⟨_, rfl, a, cs, rfl, ⟨xs, hx, hc⟩, gd, hl, fun H1 s1 => ?_⟩
    refine ⟨_, rfl, b, rfl, fun H2 s2 => ?_⟩
    refine side_ok (b := b) rfl ?_
    intro d nd0
    have s3 := (s1.trans s2).trans (same_new (o := .dK []) nd0)
    refine ⟨_, rfl, a, xs, rfl, same_seqT s3 hx, for_enumT (K := K) (a := a) (xs := xs) (fun i σ H' => ∃ (kvs : List (Key × V)) (ad : Int → Addr) (y4 y5 : Option V),
      σ = [some (.ref a), some (.str (if b = true then "C" else "R")), some (.int (if b = true then 1 else 0)), some (.ref d), y4, y5, none] ∧ Same H H' ∧ H d = none ∧ Grp b cs i d kvs ad H' ∧ (∀ r, idxs b cs i r ≠ [] → H (ad r) = none)) ?_ ?_ ?_ ?_⟩
    · refine ⟨[], fun _ => d, none, none, rfl, s3, (s1.trans s2).free nd0, ⟨upd_same, ⟨[], rfl, by simp, Nat.zero_le _⟩, fun r => rfl, fun r h => absurd rfl h, fun r r' h => absurd rfl h⟩, fun r h => absurd rfl h⟩
    · rintro i σ H' _ ⟨kvs, ad, y4, y5, rfl, sm, _⟩
      exact same_seqT sm hx
    · rintro i x σ H' T hi ⟨kvs, ad, y4, y5, rfl, sm, hd0, g, hn⟩ nT
      obtain ⟨c, hci, tt, rfl, ht⟩ := paired_get hc hi
      have sT := same_new (o := .tup [.int (i : Nat), .ref tt]) nT
      have s4 := sm.trans sT
      have g1 := g.same sT
      refine ⟨T, _, rfl, SqT.of upd_same, rfl, _, _, rfl, _, _, rfl, rfl, ?_⟩
      refine ⟨_, rfl, d, rfl, .inl ⟨kvs, Rd.of g1.dict⟩, _, rfl, _, rfl, tt, _, _, _, rfl, rfl, same_seqT s4 ht, at_pick, Nat.zero_le _, fun z nz => ?_⟩
      have sz := same_new (o := .lst []) nz
      have g2 := g1.same sz
      obtain ⟨ks, k1, k2, k3⟩ := g2.keys
      have hlen : kvs.length ≤ 24 := by
        have := congrArg List.length k1
        rw [List.length_map, List.length_map] at this
        have := (List.getElem?_eq_some_iff.mp hci).1
        omega
      refine ⟨kvs, .inl (pick b c), g2.dict, rfl, small64 (by omega), fun v hv => ?_, fun hv => ?_⟩
      · have hne : idxs b cs i (pick b c) ≠ [] := fun e => by
          rw [g2.val, if_pos e] at hv
          cases hv
        rw [g2.val, if_neg hne] at hv
        cases hv
        have hL := g2.lst _ hne
        refine ⟨.inl ⟨rfl, _, SqL.of hL⟩, _, rfl, _, _, _, rfl, rfl, hL, ?_, ?_⟩
        · rw [List.length_map]
          have := idxs_len b cs i (pick b c)
          have := (List.getElem?_eq_some_iff.mp hci).1
          exact small64 (by omega)
        · refine ⟨kvs, ad, _, _, rfl, fun q o e => ?_, hd0, g2.more hci hne, fun r hr => ?_⟩
          · rw [upd_ne (ne_of_none e (hn _ hne))]
            exact sz _ _ (s4 _ _ e)
          · by_cases e : pick b c = r
            · subst e
              exact hn _ hne
            · rw [idxs_miss hci e] at hr
              exact hn r hr
      · have he : idxs b cs i (pick b c) = [] := by
          by_cases e : idxs b cs i (pick b c) = []
          · exact e
          · rw [g2.val, if_neg e] at hv
            cases hv
        have hdz : z ≠ d := Ne.symm (ne_of_none g1.dict nz)
        refine ⟨.inl ⟨rfl, [], SqL.of (by rw [upd_ne hdz, upd_same])⟩, _, rfl, z, [], _, rfl, rfl, by rw [upd_ne hdz, upd_same], by rw [sizeLine_eq]; decide, ?_⟩
        have zH : H z = none := by
          cases e : H z with
          | none => rfl
          | some o =>
            have := s4 _ _ e
            rw [nz] at this
            cases this
        refine ⟨_, _, _, _, rfl, fun q o e => ?_, hd0, g1.new hci he nz, fun r hr => ?_⟩
        · rw [upd_ne (ne_of_none e zH), upd_ne (ne_of_none e hd0)]
          exact sz _ _ (s4 _ _ e)
        · show H (if _ then z else _) = none
          by_cases e : r = pick b c
          · rw [if_pos e]
            exact zH
          · rw [if_neg e]
            rw [idxs_miss hci (Ne.symm e)] at hr
            exact hn r hr
    · rintro σ H' ⟨kvs, ad, y4, y5, rfl, sm, hd0, g, hn⟩
      have hlen := Paired.length hc
      rw [hlen] at g hn
      obtain ⟨ks, k1, k2, k3⟩ := g.keys
      refine ⟨_, rfl, d, kvs, ks, rfl, Rd.of g.dict, k1, by omega, fun ys p perm pw np => ?_⟩
      have ey := g.used gd.grid k1 k2 perm pw
      subst ey
      have sp := same_new (o := .lst ((usedOf b cs).map V.int)) np
      have hul : (usedOf b cs).length ≤ 8 := by
        unfold usedOf
        exact Nat.le_trans (List.length_filter_le _ _) (by simp)
      refine ⟨p, rfl, ⟨_, SqL.of upd_same⟩, fun D nD => ?_⟩
      refine lc_list (K := K) (a := p) (xs := (usedOf b cs).map V.int) (fun j H2 => ∃ acc : List V, H2 D = some (.lst acc) ∧ Paired (TupI K H2) acc (((usedOf b cs).take j).map fun r => idxs b cs cs.length r) ∧
        (∀ q o, q ≠ D → upd H' p (.lst ((usedOf b cs).map V.int)) q = some o → H2 q = some o)) ?_ ?_ ?_ ?_
      · exact ⟨[], upd_same, .nil, fun q o n e => by rw [upd_ne n]; exact e⟩
      · rintro j H2 _ ⟨acc, a1, a2, a3⟩
        exact SqL.of (a3 _ _ (ne_of_none (H := upd H' p (.lst ((usedOf b cs).map V.int))) upd_same nD) upd_same)
      · rintro j x H2 hj ⟨acc, a1, a2, a3⟩
        have sD : Same (upd H' p (.lst ((usedOf b cs).map V.int))) H2 := fun q o e => a3 q o (ne_of_none e nD) e
        rw [List.getElem?_map] at hj
        cases er : (usedOf b cs)[j]? with
        | none =>
          rw [er] at hj
          cases hj
        | some r =>
          rw [er] at hj
          cases hj
          have hr := (used_mem gd.grid r).mp (List.mem_of_getElem? er)
          have gg := g.same (sp.trans sD)
          have hL := gg.lst r hr
          have hal : acc.length ≤ 8 := by
            rw [Paired.length a2, List.length_map, List.length_take]
            omega
          refine ⟨rfl, _, rfl, _, rfl, d, .ref (ad r), rfl, .inl ⟨kvs, .inl r, Rd.of gg.dict, rfl, by rw [gg.val, if_neg hr]⟩, ad r, _, rfl, .inl ⟨SqL.of hL, fun t nt => ?_⟩⟩
          have st := same_new (o := .tup ((idxs b cs cs.length r).map V.int)) nt
          have nDt : D ≠ t := ne_of_none a1 nt
          refine ⟨acc, st _ _ a1, small64 (by omega), acc ++ [.ref t], upd_same, ?_, fun q o n e => ?_⟩
          · rw [List.take_add_one, er, List.map_append]
            refine paired_append (tupI_kt ((KT.of_same st).trans (KT.upd (st _ _ a1))) a2) (.cons ⟨t, rfl, SqT.of ?_⟩ .nil)
            rw [upd_ne (Ne.symm nDt), upd_same]
          · rw [upd_ne n]
            exact st _ _ (a3 q o n e)
      · rintro H2 ⟨acc, a1, a2, a3⟩
        rw [List.length_map, List.take_length, used_lines] at a2
        have sD : Same (upd H' p (.lst ((usedOf b cs).map V.int))) H2 := fun q o e => a3 q o (ne_of_none e nD) e
        refine ⟨D, acc, rfl, .inl ⟨SqL.of a1, fun l nl => ?_⟩⟩
        have sl := same_new (o := .tup acc) nl
        exact q _ l acc (((sm.trans sp).trans sD).trans sl) (SqT.of upd_same) (tupI_kt (.of_same sl) a2)
end
end KS
namespace KS
open PySem PySem.Spec PyProof.Rows L2 RZ
abbrev sFF : Stmt := topS 22
abbrev sCheckF : Stmt := topS 23
abbrev sAlong : Stmt := topS 31
theorem scFF : FnScope ["values", "most", "index", "value"] ["values", "most"] (defScope sFF) := ⟨rfl, rfl, rfl, by decide +kernel, rfl, by decide +kernel, by decide +kernel⟩
theorem scCheckF : FnScope ["size", "filling", "index"] ["size", "filling"] (defScope sCheckF) := ⟨rfl, rfl, rfl, by decide +kernel, rfl, by decide +kernel, by decide +kernel⟩
abbrev nAlong : List Str := ["groups", "filling", "result", "line", "index", "values", "value"]
theorem scAlong : FnScope nAlong ["groups", "filling"] (defScope sAlong) := ⟨rfl, rfl, rfl, by decide +kernel, rfl, by decide +kernel, by decide +kernel⟩
section
variable {P : Program} {w : World} {K : PySem.W.Frag} {mg : Str → Option Value} {base : Heap}
theorem ok_ff {f fI : Addr} {fd fdI : FuncData} (F : Fun K "first_fault" "first_fault" sFF f fd) (GI : FnOk P w K mg base CX0 2 fI fdI ["value", "least", "most"] spBetween) (bI : Binds K fdI ["value", "least", "most"] []) (gI : mg "is_between" = some (.ref fI)) (kI : PySem.W.keepIn K (.ref fI) = true)
    (me : mg "enumerate" = none) : FnOk P w K mg base CX0 3 f fd ["values", "most"] (spFF K) := by
  refine F.ok scFF (fun vs H Q E h => ?_) (fun cdv A outer s H vs Q E hr h => ?_)
  · obtain ⟨a, t, vs, rfl, _⟩ := h
    rfl
  · obtain ⟨a, m, vs, rfl, hx, vn, vb, q⟩ := h
    have nd := scFF.nd
    refine ⟨_, pss_cons (ps_for PassesOwn.never rfl (pi_enumT (by rfl) me (pa_cons (pv 0) pa_nil)) (pg_tup (by rfl) (pgs_cons (pg_name (i := 2) nd rfl (.inl rfl)) (pgs_cons (pg_name (i := 3) nd rfl (.inl rfl)) pgs_nil)))
        (pss_one (ps_if (PW.pt (pw_or (pt_not (pt_val (pe_call GI hr (by rfl) gI kI bI .nil pass0 (pa_cons (pv 3) (pa_cons pe_int (pa_cons (pv 1) pa_nil))))))
          (pw_or1 (pt_cmpR op_in_seq (pv 3) (pe_slice sl_tup (pv 0) po_none (po_some (pv 2))) (by rfl))))) (pss_one (ps_ret (pv 2))) pss_nil)))
      (pss_one (ps_ret pe_non)), ?_⟩
    refine ⟨_, rfl, a, _, rfl, hx, for_enumT (K := K) (a := a) (xs := vs.map V.int) (fun i σ H' => Same H H' ∧ ∃ y1 y2, σ = [some (.ref a), some (.int m), y1, y2]) ?_ ?_ ?_ ?_⟩
    · exact ⟨Same.refl _, none, none, rfl⟩
    · rintro i σ H' _ ⟨sm, _⟩
      exact same_seqT sm hx
    · rintro i x σ H' T hi ⟨sm, y1, y2, rfl⟩ nT
      have hil : i < (vs.map V.int).length := (List.getElem?_eq_some_iff.mp hi).1
      rw [List.getElem?_map] at hi
      cases ev : vs[i]? with
      | none =>
        rw [ev] at hi
        cases hi
      | some v =>
        rw [ev] at hi
        cases hi
        have sT := same_new (o := .tup [.int (i : Nat), .int v]) nT
        have s2 := sm.trans sT
        have bd := vb v (List.mem_of_getElem? ev)
        refine ⟨T, _, rfl, SqT.of upd_same, rfl, _, _, rfl, _, _, rfl, rfl, ?_⟩
        refine ⟨_, rfl, _, rfl, v, 1, m, rfl, bd.1, bd.2, true, rfl, ?_⟩
        refine ⟨_, rfl, _, rfl, _, rfl, _, rfl, a, _, rfl, same_seqT s2 hx, cut_not hil, fun S nS => ?_⟩
        have sS := same_new (o := .tup (cutV (vs.map V.int) none (some (i : Int)))) nS
        refine ⟨S, _, rfl, .inr (SqT.of upd_same), rfl, ?_, false, ?_, ?_⟩
        · rw [cut_take (by omega), ← List.map_take]
          exact flat_ints _
        · show V.bl (inV (.int v) (cutV (vs.map V.int) none (some (i : Int)))) = V.bl false
          rw [cut_take (by omega), ← List.map_take, inV_take vn ev]
        · exact ⟨s2.trans sS, _, _, rfl⟩
    · rintro σ H' ⟨sm, _⟩
      exact q H' sm
theorem ok_checkF {f fI : Addr} {fd fdI : FuncData} {tk : Tok} (F : Fun K "check_filling" "check_filling" sCheckF f fd) (GI : FnOk P w K mg base CX0 3 fI fdI ["values", "most"] (spFF K)) (bI : Binds K fdI ["values", "most"] []) (gI : mg "first_fault" = some (.ref fI)) (kI : PySem.W.keepIn K (.ref fI) = true)
    (mi : mg "isinstance" = none) (mT : mg "tuple" = none) (ml : mg "len" = none) (mM : mg "MOST_VALUE" = some (.int 9999 tk)) : FnOk P w K mg base CX0 4 f fd ["size", "filling"] (spCheckF K) := by
  refine F.ok scCheckF (fun vs H Q E h => ?_) (fun cdv A outer s H vs Q E hr h => ?_)
  · obtain ⟨a, t, vs, rfl, _⟩ := h
    rfl
  · obtain ⟨n, a, vs, rfl, hx, v9, hn, q⟩ := h
    have nd := scCheckF.nd
    refine ⟨_, pss_cons (ps_if (PW.pt (pw_or (pt_not (pt_val (pe_callB call_isi (by rfl) mi (by decide +kernel) (pa_cons (pv 1) (pa_cons (pe_bltn (v := .ty "tuple") (by rfl) mT (by decide +kernel) rfl) pa_nil)))))
          (pw_or1 (pt_cmpR op_ne (pe_callB call_len_seq (by rfl) ml PySem.boot_len (pa_cons (pv 1) pa_nil)) (pv 0) (nomark _)))))
        (pss_one ps_never) pss_nil)
      (pss_cons (ps_set (i := 2) nd rfl (.inl rfl) (pe_call GI hr (by rfl) gI kI bI .nil pass0 (pa_cons (pv 1) (pa_cons (pe_glob (v := .int 9999) (by rfl) mM ⟨_, rfl⟩) pa_nil))))
      (pss_one (ps_if (pt_cmpR op_notN (pv 2) pe_non (nomark _)) (pss_one ps_never) pss_nil))), ?_⟩
    have hlen : (vs.map V.int).length = n := by rw [List.length_map, v9.len]
    refine ⟨_, rfl, _, _, _, _, true, rfl, .ty "tuple", tyx_tup hx, kit_ty (by decide +kernel), true, rfl, ?_⟩
    refine ⟨_, rfl, a, _, rfl, .inr hx, _, rfl, rfl, false, ?_, ?_⟩
    · rw [hlen]
      simp
    refine ⟨_, rfl, a, 9999, vs, rfl, hx, v9.nd, v9.bd, fun H1 s1 => ?_⟩
    exact ⟨_, rfl, rfl, false, rfl, q H1 s1⟩
theorem ok_along {f : Addr} {fd : FuncData} (F : Fun K "sorted_along" "sorted_along" sAlong f fd) (mL : mg "list" = none) (mz : mg "zip" = none) (ms : mg "sorted" = none) (mt : mg "tuple" = none) :
    FnOk P w K mg base CX0 1 f fd ["groups", "filling"] (spAlong K) := by
  refine F.ok scAlong (fun vs H Q E h => ?_) (fun cdv A outer s H vs Q E hr h => ?_)
  · obtain ⟨g, t, gs, ls, vs, rfl, _⟩ := h
    rfl
  · obtain ⟨g, t, gs, ls, vs, rfl, hg, hx, hls, ht, q⟩ := h
    have nd := scAlong.nd
    refine ⟨_, pss_cons (ps_set (i := 2) nd rfl (.inl rfl) (pe_callTy call_list_of (by rfl) mL (by decide +kernel) (pa_cons (pv 1) pa_nil)))
      (pss_cons (ps_for PassesOwn.never rfl (pi_tup (pv 0)) (pg_name (i := 3) nd rfl (.inl rfl))
        (pss_cons (ps_set (i := 5) nd rfl (.inl rfl) (pe_callB cr_sortedI (by rfl) ms (by decide +kernel) (pa_cons
            (pe_lc (own := [("index", 4)]) (g := gName 4) (tt := tYes) rfl nd (pi_tup (pv 3)) (blkOk_by (N := nAlong) (sc := defScope sAlong) (by decide +kernel))
              (fun _ _ _ _ _ => pg_name (i := 4) nd rfl (Or.inl rfl)) (fun _ _ _ _ _ => pts_nil) (fun _ _ _ _ _ => pe_ix (r := rIxT K) ix_tup (pv 1) (pv 4) (fun _ _ => rfl))) pa_nil)))
        (pss_one (ps_for PassesOwn.never rfl (pi_zipTL (by rfl) mz (pa_cons (pv 3) (pa_cons (pv 5) pa_nil)))
          (pg_tup (by rfl) (pgs_cons (pg_name (i := 4) nd rfl (.inl rfl)) (pgs_cons (pg_name (i := 6) nd rfl (.inl rfl)) pgs_nil)))
          (pss_one (ps_asg (pv 6) (pg_sub (pv 2) (pv 4) set_list)))))))
      (pss_one (ps_ret (pe_callTy call_tuple_of (by rfl) mt (by decide +kernel) (pa_cons (pv 2) pa_nil))))), ?_⟩
    refine ⟨_, rfl, t, _, rfl, .inr ht, fun o no => ?_⟩
    have so := same_new (o := .lst (vs.map V.int)) no
    refine ⟨_, rfl, g, rfl, ⟨_, same_seqT so hg⟩, for_tup (K := K) (a := g) (xs := gs) (fun i σ H' => ∃ (y3 y4 y5 y6 : Option V), σ = [some (.ref g), some (.ref t), some (.ref o), y3, y4, y5, y6] ∧
      (∀ c u, c ≠ o → H c = some u → H' c = some u) ∧ H' o = some (.lst ((srtTo vs (ls.take i)).map V.int))) ?_ ?_ ?_ ?_⟩
    · exact ⟨none, none, none, none, rfl, fun c u n e => so c u e, upd_same⟩
    · rintro i σ H' _ ⟨y3, y4, y5, y6, rfl, k', ho⟩
      exact same_seqT (fun c u e => k' c u (ne_of_none e no) e) hg
    · rintro i x σ H' hi ⟨y3, y4, y5, y6, rfl, k', ho⟩
      obtain ⟨l, hli, t', rfl, hl'⟩ := paired_get hx hi
      have sm : Same H H' := fun c u e => k' c u (ne_of_none e no) e
      have hlt := same_seqT sm hl'
      have hm := hls l (List.mem_of_getElem? hli)
      refine ⟨_, rfl, t', rfl, ⟨_, hlt⟩, fun D nD => ?_⟩
      have noD : o ≠ D := ne_of_none ho nD
      refine lc_tup (K := K) (a := t') (xs := l.map V.int) (fun j G => G = upd H' D (.lst (((l.take j).map (getI vs)).map V.int))) ?_ ?_ ?_ ?_
      · rfl
      · rintro j G _ rfl
        exact same_seqT (same_new nD) hlt
      · rintro j x G hj rfl
        rw [List.getElem?_map] at hj
        cases ev : l[j]? with
        | none =>
          rw [ev] at hj
          cases hj
        | some k =>
          rw [ev] at hj
          cases hj
          obtain ⟨j', rfl, hj'⟩ := hm.1 k (List.mem_of_getElem? ev)
          refine ⟨rfl, _, rfl, _, rfl, t, _, _, .int (getI vs (j' : Int)), rfl, rfl, same_seqT (sm.trans (same_new nD)) ht, atI_nat (getI_at (by omega)), _, upd_same, ?_, ?_⟩
          · rw [List.length_map, List.length_map, List.length_take]
            exact small64 (by omega)
          · rw [upd_upd, List.take_add_one, ev, List.map_append, List.map_append]
            rfl
      · rintro G rfl
        rw [List.length_map, List.take_length]
        refine ⟨D, _, rfl, SqL.of upd_same, fun ys P' perm asc nP => ?_⟩
        have ey := sortI_eq perm asc
        have yl : ys.length = l.length := by
          rw [perm.length_eq, List.length_map]
        have noP : o ≠ P' := fun e => by
          rw [← e, upd_ne noD, ho] at nP
          cases nP
        have sP := (same_new (o := .lst ((l.map (getI vs)).map V.int)) nD).trans (same_new (o := .lst (ys.map V.int)) nP)
        generalize hG : upd (upd H' D (.lst ((l.map (getI vs)).map V.int))) P' (.lst (ys.map V.int)) = G0 at sP
        have hP0 : G0 P' = some (.lst (ys.map V.int)) := by rw [← hG, upd_same]
        have hz0 : KT K H' G0 := .of_same sP
        refine ⟨_, rfl, _, rfl, t', P', _, _, rfl, hz0 _ _ hlt, SqL.of hP0, for_zipTL (K := K) (a := t') (b := P') (xs := l.map V.int) (ys := ys.map V.int) (by rw [List.length_map, List.length_map, yl])
          (fun j σ G => ∃ (y4 y6 : Option V), σ = [some (.ref g), some (.ref t), some (.ref o), some (.ref t'), y4, some (.ref P'), y6] ∧
            (∀ c u, c ≠ o → G0 c = some u → G c = some u) ∧ G o = some (.lst ((putZ (srtTo vs (ls.take i)) ((l.zip ys).take j)).map V.int))) ?_ ?_ ?_ ?_⟩
        · exact ⟨y4, y6, rfl, fun c u _ e => e, sP _ _ ho⟩
        · rintro j σ G ⟨y4, y6, rfl, kG, hoG⟩
          refine ⟨?_, SqL.of (kG _ _ (Ne.symm noP) hP0)⟩
          have z := hz0 _ _ hlt
          rcases z with (z | ⟨ob, z⟩) | z
          · exact .inl (.inl (kG _ _ (fun e => by rw [e, sP _ _ ho] at z; cases z) z))
          · exact .inl (.inr ⟨ob, kG _ _ (fun e => by rw [e, sP _ _ ho] at z; cases z) z⟩)
          · exact .inr z
        · rintro j x y T σ G hx' hy' ⟨y4, y6, rfl, kG, hoG⟩ nT
          rw [List.getElem?_map] at hx' hy'
          cases ex : l[j]? with
          | none =>
            rw [ex] at hx'
            cases hx'
          | some k =>
            cases ey' : ys[j]? with
            | none =>
              rw [ey'] at hy'
              cases hy'
            | some v =>
              rw [ex] at hx'
              rw [ey'] at hy'
              cases hx'
              cases hy'
              obtain ⟨j', rfl, hj'⟩ := hm.1 k (List.mem_of_getElem? ex)
              have noT : o ≠ T := ne_of_none hoG nT
              refine ⟨T, _, rfl, SqT.of upd_same, rfl, _, _, rfl, _, _, rfl, rfl, ?_⟩
              refine ⟨_, rfl, _, rfl, _, rfl, o, _, (j' : Int), j', rfl, rfl, by rw [upd_ne noT]; exact hoG, ixN_at ?_, ?_⟩
              · rw [List.length_map, putZ_len, srtTo_len]
                omega
              · refine ⟨_, _, rfl, fun c u nc e => ?_, ?_⟩
                · rw [upd_ne nc, upd_ne (ne_of_none (kG c u nc e) nT)]
                  exact kG c u nc e
                · have ez : (l.zip ys)[j]? = some ((j' : Int), v) := by
                    rw [List.getElem?_zip_eq_some]
                    exact ⟨ex, ey'⟩
                  rw [upd_same, List.take_add_one, ez]
                  show _ = some (HO.lst ((putZ _ (List.take j (l.zip ys) ++ [((j' : Int), v)])).map V.int))
                  rw [putZ_more, List.map_set]
                  rfl
        · rintro σ G ⟨y4, y6, rfl, kG, hoG⟩
          refine ⟨_, _, _, _, rfl, fun c u nc e => kG c u nc (sP c u (k' c u nc e)), ?_⟩
          have et : List.take (List.map V.int l).length (l.zip ys) = l.zip ys := List.take_of_length_le (by rw [List.length_zip, List.length_map]; omega)
          rw [hoG, et, List.take_add_one, hli, ey]
          show _ = some (HO.lst ((srtTo vs (List.take i ls ++ [l])).map V.int))
          rw [srtTo_more]
          rfl
    · rintro σ H' ⟨y3, y4, y5, y6, rfl, k', ho⟩
      rw [Paired.length hx, List.take_length] at ho
      refine ⟨_, rfl, o, _, rfl, .inl ⟨SqL.of ho, fun u nu => ?_⟩⟩
      have sm : Same H H' := fun c u e => k' c u (ne_of_none e no) e
      exact q _ u (sm.trans (same_new nu)) (SqT.of upd_same) (sm.free nu)
end
end KS
namespace KS
open PySem PySem.Spec PyProof.Rows L2 RZ
abbrev sRcOk : Stmt := topS 25
abbrev sTabOk : Stmt := topS 26
abbrev sLast : Stmt := topS 27
theorem scRcOk : FnScope ["rows", "columns"] ["rows", "columns"] (defScope sRcOk) := ⟨rfl, rfl, rfl, by decide +kernel, rfl, by decide +kernel, by decide +kernel⟩
theorem scTabOk : FnScope ["size", "table", "index"] ["size", "table"] (defScope sTabOk) := ⟨rfl, rfl, rfl, by decide +kernel, rfl, by decide +kernel, by decide +kernel⟩
abbrev nLast : List Str := ["rows", "columns", "table", "limit", "count", "value"]
theorem scLast : FnScope nLast ["rows", "columns", "table", "limit", "count"] (defScope sLast) := ⟨rfl, rfl, rfl, by decide +kernel, rfl, by decide +kernel, by decide +kernel⟩
section
variable {P : Program} {w : World} {K : PySem.W.Frag} {mg : Str → Option Value} {base : Heap}
theorem ok_rcOk {f fB : Addr} {fd fdB : FuncData} {tk : Tok} (F : Fun K "check_rectangle" "check_rectangle" sRcOk f fd) (GB : FnOk P w K mg base CX0 2 fB fdB ["value", "least", "most"] spBetween) (bB : Binds K fdB ["value", "least", "most"] []) (gB : mg "is_between" = some (.ref fB)) (kB : PySem.W.keepIn K (.ref fB) = true)
    (mM : mg "MOST_CELLS" = some (.int 24 tk)) : FnOk P w K mg base CX0 3 f fd ["rows", "columns"] spRcOk := by
  refine F.ok scRcOk (fun vs H Q E h => ?_) (fun cdv A outer s H vs Q E hr h => ?_)
  · obtain ⟨r, c, rfl, _⟩ := h
    rfl
  · obtain ⟨r, c, rfl, sd, q⟩ := h
    refine ⟨_, pss_cons (ps_if (pt_not (pt_val (pe_call GB hr (by rfl) gB kB bB .nil pass0 (pa_cons (pv 0) (pa_cons pe_int (pa_cons (pe_glob (v := .int 24) (by rfl) mM ⟨_, rfl⟩) pa_nil)))))) (pss_one ps_never) pss_nil)
      (pss_one (ps_if (PW.pt (pw_or (pt_not (pt_val (pe_call GB hr (by rfl) gB kB bB .nil pass0 (pa_cons (pv 1) (pa_cons pe_int (pa_cons (pe_glob (v := .int 24) (by rfl) mM ⟨_, rfl⟩) pa_nil))))))
        (pw_or1 (pt_cmpR op_gt (pe_op op_mul (pv 0) (pv 1)) (pe_glob (v := .int 24) (by rfl) mM ⟨_, rfl⟩) (nomark _))))) (pss_one ps_never) pss_nil)), ?_⟩
    have l := sd.le
    have r1 := sd.r1
    have c1 := sd.c1
    refine ⟨_, rfl, (r : Int), 1, 24, rfl, by omega, by omega, true, rfl, ?_⟩
    refine ⟨_, rfl, (c : Int), 1, 24, rfl, by omega, by omega, true, rfl, ?_⟩
    refine ⟨_, rfl, _, rfl, _, _, rfl, rfl, .inl ⟨by omega, by omega⟩, _, _, rfl, rfl, false, bl_false (by
      have := sd.rc
      have e : ((r : Int) * (c : Int)) = ((r * c : Nat) : Int) := (Int.natCast_mul r c).symm
      rw [e]
      omega), ?_⟩
    exact q
theorem ok_tabOk {f fI : Addr} {fd fdI : FuncData} (F : Fun K "check_table" "check_table" sTabOk f fd) (GI : FnOk P w K mg base CX0 3 fI fdI ["values", "most"] (spFF K)) (bI : Binds K fdI ["values", "most"] []) (gI : mg "first_fault" = some (.ref fI)) (kI : PySem.W.keepIn K (.ref fI) = true)
    (mi : mg "isinstance" = none) (mT : mg "tuple" = none) (ml : mg "len" = none) : FnOk P w K mg base CX0 4 f fd ["size", "table"] (spTabOk K) := by
  refine F.ok scTabOk (fun vs H Q E h => ?_) (fun cdv A outer s H vs Q E hr h => ?_)
  · obtain ⟨a, t, vs, rfl, _⟩ := h
    rfl
  · obtain ⟨n, a, vs, rfl, hx, v9, q⟩ := h
    have nd := scTabOk.nd
    refine ⟨_, pss_cons (ps_if (PW.pt (pw_or (pt_not (pt_val (pe_callB call_isi (by rfl) mi (by decide +kernel) (pa_cons (pv 1) (pa_cons (pe_bltn (v := .ty "tuple") (by rfl) mT (by decide +kernel) rfl) pa_nil)))))
          (pw_or1 (pt_cmpR op_ne (pe_callB call_len_seq (by rfl) ml PySem.boot_len (pa_cons (pv 1) pa_nil)) (pv 0) (nomark _)))))
        (pss_one ps_never) pss_nil)
      (pss_cons (ps_set (i := 2) nd rfl (.inl rfl) (pe_call GI hr (by rfl) gI kI bI .nil pass0 (pa_cons (pv 1) (pa_cons (pv 0) pa_nil))))
      (pss_one (ps_if (pt_cmpR op_notN (pv 2) pe_non (nomark _)) (pss_one ps_never) pss_nil))), ?_⟩
    have hlen : (vs.map V.int).length = n := by rw [List.length_map, v9.len]
    refine ⟨_, rfl, _, _, _, _, true, rfl, .ty "tuple", tyx_tup hx, kit_ty (by decide +kernel), true, rfl, ?_⟩
    refine ⟨_, rfl, a, _, rfl, .inr hx, _, rfl, rfl, false, ?_, ?_⟩
    · rw [hlen]
      simp
    refine ⟨_, rfl, _, rfl, a, (n : Int), vs, rfl, hx, v9.nd, v9.bd, fun H1 s1 => ?_⟩
    exact ⟨_, rfl, rfl, false, rfl, q H1 s1⟩
theorem ok_last {f fR fT fW fB : Addr} {fd fdR fdT fdW fdB : FuncData} (F : Fun K "in_last_rows" "in_last_rows" sLast f fd)
    (GR : FnOk P w K mg base CX0 3 fR fdR ["rows", "columns"] spRcOk) (bR : Binds K fdR ["rows", "columns"] []) (gR : mg "check_rectangle" = some (.ref fR)) (kR : PySem.W.keepIn K (.ref fR) = true)
    (GT : FnOk P w K mg base CX0 4 fT fdT ["size", "table"] (spTabOk K)) (bT : Binds K fdT ["size", "table"] []) (gT : mg "check_table" = some (.ref fT)) (kT : PySem.W.keepIn K (.ref fT) = true)
    (GW : FnOk P w K mg base CX0 1 fW fdW ["value"] spWhole) (bW : Binds K fdW ["value"] []) (gW : mg "is_whole" = some (.ref fW)) (kW : PySem.W.keepIn K (.ref fW) = true)
    (GB : FnOk P w K mg base CX0 2 fB fdB ["value", "least", "most"] spBetween) (bB : Binds K fdB ["value", "least", "most"] []) (gB : mg "is_between" = some (.ref fB)) (kB : PySem.W.keepIn K (.ref fB) = true)
    (ml : mg "len" = none) : FnOk P w K mg base CX0 5 f fd ["rows", "columns", "table", "limit", "count"] (spLast K) := by
  refine F.ok scLast (fun vs H Q E h => ?_) (fun cdv A outer s H vs Q E hr h => ?_)
  · obtain ⟨r, c, k, t, vs, lim, rfl, _⟩ := h
    rfl
  · obtain ⟨r, c, k, t, vs, lim, rfl, sd, ht, tb, hk, q⟩ := h
    have nd := scLast.nd
    have hr1 : Room 1 _ := hr.mono (by decide)
    have hr2 : Room 2 _ := hr.mono (by decide)
    have hr3 : Room 3 _ := hr.mono (by decide)
    refine ⟨_, pss_cons (ps_expr (pe_call GR hr3 (by rfl) gR kR bR .nil pass0 (pa_cons (pv 0) (pa_cons (pv 1) pa_nil))))
      (pss_cons (ps_expr (pe_call GT hr (by rfl) gT kT bT .nil pass0 (pa_cons (pe_op op_mul (pv 0) (pv 1)) (pa_cons (pv 2) pa_nil))))
      (pss_cons (ps_if (pt_not (pt_val (pe_call GW hr1 (by rfl) gW kW bW .nil pass0 (pa_cons (pv 3) pa_nil)))) (pss_one ps_never) pss_nil)
      (pss_cons (ps_if (pt_not (pt_val (pe_call GB hr2 (by rfl) gB kB bB .nil pass0 (pa_cons (pv 4) (pa_cons pe_int (pa_cons (pv 0) pa_nil)))))) (pss_one ps_never) pss_nil)
      (pss_one (ps_ret (pe_callB call_len_seq (by rfl) ml PySem.boot_len (pa_cons
        (pe_lc (own := [("value", 5)]) (g := gName 5) rfl nd (pi_tup (pe_slice (r := rSlA K) sl_tupA (pv 2) (po_some (pe_op op_mul (pe_op op_sub (pv 0) (pv 4)) (pv 1))) po_none)) (blkOk_by (N := nLast) (sc := defScope sLast) (by decide +kernel))
          (fun _ _ _ _ _ => pg_name (i := 5) nd rfl (Or.inl rfl)) (fun _ _ _ _ _ => pts_one (pt_cmpR op_ge (pv 5) (pv 3) (nomark _))) (fun _ _ _ _ _ => pv 5)) pa_nil))))))), ?_⟩
    have l := sd.le
    refine ⟨_, rfl, _, rfl, r, c, rfl, sd, ?_⟩
    refine ⟨_, rfl, _, rfl, _, _, rfl, rfl, .inl ⟨by omega, by omega⟩, _, rfl, r * c, t, vs, congrArg (fun z => [V.int z, V.ref t]) (Int.natCast_mul r c).symm, ht, tb, fun H1 s1 => ?_⟩
    refine ⟨_, rfl, lim, rfl, true, rfl, ?_⟩
    refine ⟨_, rfl, _, rfl, (k : Int), 0, (r : Int), rfl, by omega, by omega, true, rfl, ?_⟩
    refine ⟨_, rfl, _, rfl, _, rfl, _, _, rfl, rfl, _, rfl, _, _, rfl, rfl, .inl ⟨by omega, by omega⟩, _, rfl, ?_⟩
    dsimp only [tNoPart]
    have e : ((r : Int) - (k : Int)) * (c : Int) = (((r - k) * c : Nat) : Int) := by
      rw [Int.natCast_mul, Int.natCast_sub hk]
    show rSlA K (.ref t) (some (((r : Int) - (k : Int)) * (c : Int))) none H1 _
    rw [e]
    have hn : (r - k) * c ≤ r * c := Nat.mul_le_mul_right c (Nat.sub_le r k)
    refine slFrom_ok2 (n := (r - k) * c) (same_seqT s1 ht) (by rw [List.length_map, tb.len]; exact hn) fun H2 u s2 hu => ?_
    rw [← List.map_drop] at hu
    have wl : (vs.drop ((r - k) * c)).length ≤ 24 := by
      have := sd.rc
      have := tb.len
      rw [List.length_drop]
      omega
    unfold lastN at q
    generalize vs.drop ((r - k) * c) = ws at hu wl q
    refine ⟨u, rfl, ⟨_, hu⟩, fun D nD => ?_⟩
    refine lc_tup (K := K) (a := u) (xs := ws.map V.int) (fun j G => G D = some (.lst (((ws.take j).filter fun v => decide (lim ≤ v)).map V.int)) ∧ (∀ b o, b ≠ D → H2 b = some o → G b = some o)) ?_ ?_ ?_ ?_
    · exact ⟨upd_same, fun b o n e => by rw [upd_ne n]; exact e⟩
    · rintro j G _ ⟨a1, a2⟩
      exact same_seqT (fun b o e => a2 b o (ne_of_none e nD) e) hu
    · rintro j x G hj ⟨a1, a2⟩
      rw [List.getElem?_map] at hj
      cases ev : ws[j]? with
      | none =>
        rw [ev] at hj
        cases hj
      | some v =>
        rw [ev] at hj
        cases hj
        have hal : (((ws.take j).filter fun v => decide (lim ≤ v)).map V.int).length < sizeLine := by
          rw [List.length_map]
          have := List.length_filter_le (fun v => decide (lim ≤ v)) (ws.take j)
          rw [List.length_take] at this
          exact small64 (by omega)
        refine ⟨rfl, _, rfl, _, rfl, _, _, rfl, rfl, _, rfl, ite2 (fun ee => ?_) (fun ee => ?_)⟩
        · refine ⟨_, rfl, _, a1, hal, ?_, fun b o n e => ?_⟩
          · have ee : decide (lim ≤ v) = true := ee
            rw [upd_same, List.take_add_one, ev, List.filter_append]
            show some (HO.lst _) = some (HO.lst (((List.take j ws).filter _ ++ List.filter _ [v]).map V.int))
            rw [List.filter_cons, if_pos ee, List.map_append]
            rfl
          · rw [upd_ne n]
            exact a2 b o n e
        · refine ⟨?_, a2⟩
          have ee : ¬ decide (lim ≤ v) = true := ee
          rw [List.take_add_one, ev, List.filter_append]
          show G D = some (HO.lst (((List.take j ws).filter _ ++ List.filter _ [v]).map V.int))
          rw [List.filter_cons, if_neg ee, List.filter_nil, List.append_nil]
          exact a1
    · rintro G ⟨a1, a2⟩
      have sG : Same H2 G := fun b o e => a2 b o (ne_of_none e nD) e
      rw [List.length_map, List.take_length] at a1
      refine ⟨D, _, rfl, .inl (SqL.of a1), ?_⟩
      rw [List.length_map]
      exact q G ((s1.trans s2).trans sG)
end
end KS
namespace KS
open PySem PySem.Spec PyProof.Rows L2
/-! ### a word, so many times -/
theorem rep_words (w : List Bool) : ∀ (n : Nat) (a : Array Nat), (List.replicate n (w.map ltr).toArray).foldl (· ++ ·) a = a ++ (((List.replicate n w).flatten).map ltr).toArray
  | 0, a => by simp
  | n + 1, a => by
    rw [List.replicate_succ, List.foldl_cons, rep_words w n, List.replicate_succ, List.flatten_cons, List.map_append]
    apply Array.ext'
    simp
def rRepW : R2 := fun x y H Q => ∃ (wd : List Bool) (n : Nat), x = .str (wS wd) ∧ y = .int n ∧ 2 ≤ n ∧ n ≤ 400 ∧ 1 ≤ wd.length ∧ wd.length ≤ 400 ∧ Q (.str (wS (List.replicate n wd).flatten)) H
theorem op_repW {X : Cx} : OpR X (binaryOp .Mult) rRepW := by
  intro pins s σ H x y v u Q I rx ry h
  obtain ⟨wd, n, rfl, rfl, n0, n1, w0, w1, q⟩ := h
  obtain ⟨t, rfl⟩ := rx
  obtain ⟨t', rfl⟩ := ry
  have e1 : ¬ ((n : Int) < 1) := by omega
  have hl := wS_len wd
  have hm : wd.length * n ≤ 160000 := Nat.mul_le_mul w1 n1
  refine P.mul_str ?_ ?_ ?_ ?_
  · have h1 : ¬ (n : Int) < -(2 ^ 63 : Int) := by omega
    have h2 : ¬ (n : Int) ≥ 2 ^ 63 := by omega
    rw [decide_eq_false h1, decide_eq_false h2]
    rfl
  · intro _ _
    rw [hl]
    have : (wd.length : Int) ≤ (2 ^ 63 - 1) / (n : Int) := (Int.le_ediv_iff_mul_le (by omega)).mpr (by
      have : ((wd.length * n : Nat) : Int) ≤ 160000 := by omega
      rw [Int.natCast_mul] at this
      omega)
    omega
  · intro _ _
    refine decide_eq_false ?_
    rw [hl, sizeLine_eq, Int.toNat_natCast]
    omega
  · rw [if_neg e1]
    have z : (((n : Int) == 1) || ((wS wd).length == 0)) = false := by
      have a : ((n : Int) == 1) = false := by
        rw [beq_eq_false_iff_ne]
        omega
      have b : ((wS wd).length == 0) = false := by
        rw [hl, beq_eq_false_iff_ne]
        omega
      rw [a, b]
      rfl
    rw [if_neg (by rw [z]; decide)]
    have ez : (⟨(List.replicate (n : Int).toNat (wS wd).cps).foldl (· ++ ·) #[]⟩ : Str) = wS (List.replicate n wd).flatten := by
      rw [Int.toNat_natCast]
      show (⟨(List.replicate n (wd.map ltr).toArray).foldl (· ++ ·) #[]⟩ : Str) = _
      rw [rep_words]
      unfold wS
      simp
    rw [ez]
    refine ⟨?_, .str (wS (List.replicate n wd).flatten), H, I.tok _, ⟨_, rfl⟩, q⟩
    rw [wS_len, List.length_flatten, List.map_replicate, List.sum_replicate_nat, sizeLine_eq, Nat.mul_comm]
    omega
/-! ### words one after the other -/
theorem aft_app (cs : List Cell) (w v : List Bool) (vs : List Int) : aft cs (w ++ v) vs = aft cs v (aft cs w vs) := by
  unfold aft
  rw [List.foldl_append]
theorem srt_twice {b : Bool} {cs : List Cell} {vs : List Int} (h : vs.length = cs.length) : srt b cs (srt b cs vs) = srt b cs vs :=
  rises_fix (by rw [srt_len]; exact h) (srt_rises h)
theorem settled_both {cs : List Cell} {vs : List Int} (h : settled cs vs = true) (b : Bool) : rises b cs vs = true := by
  unfold settled at h
  rw [Bool.and_eq_true] at h
  cases b
  · exact h.1
  · exact h.2
theorem aft_settled {cs : List Cell} {vs : List Int} (hl : vs.length = cs.length) (h : settled cs vs = true) : ∀ w : List Bool, aft cs w vs = vs
  | [] => rfl
  | b :: w => by
    show aft cs w (srt b cs vs) = vs
    rw [rises_fix hl (settled_both h b)]
    exact aft_settled hl h w
theorem turns_two (b : Bool) : ∀ m : Nat, (List.replicate m [b, !b]).flatten = turns b (2 * m)
  | 0 => rfl
  | m + 1 => by
    rw [List.replicate_succ, List.flatten_cons, turns_two b m]
    show b :: (!b) :: turns b (2 * m) = turns b (2 * m + 2)
    show _ = b :: (!b) :: turns (!(!b)) (2 * m)
    rw [Bool.not_not]
theorem turns_take : ∀ (n m : Nat) (b : Bool), n ≤ m → (turns b m).take n = turns b n
  | 0, _, _, _ => by simp [turns]
  | n + 1, 0, _, h => by omega
  | n + 1, m + 1, b, h => by
    show (b :: turns (!b) m).take (n + 1) = b :: turns (!b) n
    rw [List.take_succ_cons, turns_take n m (!b) (by omega)]
theorem ne_line {l m : List Int} : (!PyData.eqv (.tuple (l.map PyData.int)) (.tuple (m.map PyData.int))) = !decide (l = m) := by rw [ints_eqvT]
end KS
namespace KS
open PySem PySem.Spec PyProof.Rows L2
/-! ### sorted(t), t a tuple of whole numbers -/
def rSortedTI (K : PySem.W.Frag) : List V → Hp → VK → Prop := fun vs H Q => ∃ (a : Addr) (ns : List Int), vs = [V.ref a] ∧ SqT K H a (ns.map V.int) ∧
  ∀ (ns' : List Int) (p : Addr) (H' : Hp), ns'.Perm ns → ns'.Pairwise (· ≤ ·) → H p = none → H' = upd H p (.lst (ns'.map V.int)) → Q (.ref p) H'
theorem cr_sortedTI {X : Cx} : CallR X (.builtin "sorted") (rSortedTI X.K) := by
  intro pins s σ H vs us Q I r h
  obtain ⟨a, ns, rfl, ht, q⟩ := h
  obtain ⟨its, rv, ⟨o, ho, hc, n, hd⟩, hz⟩ := I.tuple ht
  rw [Vals.ref1 r]
  have hi := rv.ints
  have hl := rv.length
  have hzz : its.length ≤ sizeLine := by rw [← hl]; exact hz
  refine Calls.call_function_entry kind_sorted plain_sorted entry_sorted (args_sorted1 _) ?_
  unfold Builtin.«sorted»
  refine wpAny_bind (m := checkCount "sorted" 1 1 _) (wpAny_pure ?_)
  refine wpAny_bind (wpAny_collect_seq a (T := "tuple") (.inr rfl) ho hc hd (fun h1 hk => ?_) (by rw [List.size_toArray]; exact hzz))
  rw [List.toList_toArray]
  have I1 : Inv X pins σ H { s with heap := h1 } := I.kept (t' := s.toks) hk
  refine wpAny_bind (wpAny_newList ?_ hzz)
  have hoL : (h1.push (seqObj "list" its.toArray 0)).get? h1.objs.size = some (seqObj "list" its.toArray 0) := Heap.get?_push_size _ rfl
  show wpAny _ _ _ _ _ { s with heap := h1.push (seqObj "list" its.toArray 0) }
  refine wpAny_bind (wpAny_holding (wpAny_call_entry slot_list_sort ⟨_, hoL, rfl⟩ entry_list_sort (SrtO.list_sort_ord (s := { s with heap := h1.push (seqObj "list" its.toArray 0) }) SrtO.swo_int hoL hzz (fun h2 => SrtO.ints_sortable hi h2) fun out g1 g2 => ⟨_, rfl, ?_⟩) (args_list_sort _)))
  obtain ⟨k1, k2, k3⟩ := SrtO.ints_out hi g1 g2
  obtain ⟨ep, he⟩ := sortedHeap_at (vs := its) (out := out.toArray) hoL
  have hlen : ((out.map SrtO.iv).map V.int).length ≤ sizeLine := by
    rw [List.length_map, k2.length_eq]
    rw [List.length_map] at hz
    exact hz
  refine wpAny_pure ⟨_, rfl, .ref h1.objs.size, upd H h1.objs.size (.lst ((out.map SrtO.iv).map V.int)), I1.laid (t' := s.toks) (fun b u e => ?_) (Nat.le_refl _) ⟨hlen, out, ep, vals_of_ints k1, he⟩, rfl, q _ _ _ k2 k3 (I1.hok.fresh (Nat.le_refl _)) rfl⟩
  have hb : b < h1.objs.size := Heap.lt_size e
  rw [sortedHeap_old (Nat.ne_of_lt hb) (by rw [size_push']; exact Nat.lt_succ_of_lt hb)]
  exact Heap.get?_push_of_some _ e
/-! ### ranks -/
def rkI (vs : List Int) (v : Int) : Int := 1 + ((vs.filter fun u => decide (u < v)).length : Int)
def rks (vs : List Int) : List Int := vs.map (rkI vs)
theorem rkI_perm {vs us : List Int} (p : vs.Perm us) : rkI vs = rkI us := by
  funext v
  unfold rkI
  rw [(p.filter _).length_eq]
theorem rkI_mono {vs : List Int} {v w : Int} (h : v ≤ w) : rkI vs v ≤ rkI vs w := by
  unfold rkI
  have : (vs.filter fun u => decide (u < v)).length ≤ (vs.filter fun u => decide (u < w)).length := by
    rw [← List.countP_eq_length_filter, ← List.countP_eq_length_filter]
    exact List.countP_mono_left fun u _ hu => decide_eq_true (by have := of_decide_eq_true hu; omega)
  omega
theorem filter_lt_len : ∀ {vs : List Int} {v w : Int}, v < w → v ∈ vs → (vs.filter fun u => decide (u < v)).length < (vs.filter fun u => decide (u < w)).length
  | [], _, _, _, m => by cases m
  | u :: us, v, w, h, m => by
    have le : (us.filter fun u => decide (u < v)).length ≤ (us.filter fun u => decide (u < w)).length := by
      rw [← List.countP_eq_length_filter, ← List.countP_eq_length_filter]
      exact List.countP_mono_left fun u _ hu => decide_eq_true (by have := of_decide_eq_true hu; omega)
    by_cases e : u = v
    · subst e
      rw [List.filter_cons_of_neg (by simp), List.filter_cons_of_pos (by simpa using h), List.length_cons]
      omega
    · have m' : v ∈ us := by
        rcases List.mem_cons.mp m with z | z
        · exact absurd z.symm e
        · exact z
      have ih := filter_lt_len h m'
      by_cases c1 : u < v
      · rw [List.filter_cons_of_pos (by simpa using c1), List.filter_cons_of_pos (by simp; omega), List.length_cons, List.length_cons]
        omega
      · rw [List.filter_cons_of_neg (by simpa using c1)]
        by_cases c2 : u < w
        · rw [List.filter_cons_of_pos (by simpa using c2), List.length_cons]
          omega
        · rw [List.filter_cons_of_neg (by simpa using c2)]
          exact ih
theorem rkI_lt {vs : List Int} {v w : Int} (h : v < w) (m : v ∈ vs) : rkI vs v < rkI vs w := by
  have := filter_lt_len h m
  unfold rkI
  omega
theorem rkI_inj {vs : List Int} {v w : Int} (hv : v ∈ vs) (hw : w ∈ vs) (e : rkI vs v = rkI vs w) : v = w := by
  rcases Int.lt_trichotomy v w with c | c | c
  · have := rkI_lt c hv
    omega
  · exact c
  · have := rkI_lt c hw
    omega
theorem rkI_bd {vs : List Int} {v : Int} (hv : v ∈ vs) : 1 ≤ rkI vs v ∧ rkI vs v ≤ (vs.length : Int) := by
  have a : (vs.filter fun u => decide (u < v)).length < vs.length := by
    have le := List.length_filter_le (fun u => decide (u < v)) vs
    rcases Nat.lt_or_ge (vs.filter fun u => decide (u < v)).length vs.length with c | c
    · exact c
    · have e : (vs.filter fun u => decide (u < v)).length = vs.length := by omega
      have := List.length_filter_eq_length_iff.mp e v hv
      simp at this
  unfold rkI
  omega
theorem rks9 {n : Nat} {vs : List Int} (h : Vals9 n vs) (hn : n ≤ 24) : Vals9 n (rks vs) := by
  refine ⟨by unfold rks; rw [List.length_map, h.len], ?_, fun v hv => ?_⟩
  · unfold rks
    rw [List.nodup_iff_pairwise_ne, List.pairwise_map]
    have nd := List.nodup_iff_pairwise_ne.mp h.nd
    refine nd.imp_of_mem fun {a b} ha hb q e => q (rkI_inj ha hb e)
  · obtain ⟨u, hu, rfl⟩ := List.mem_map.mp hv
    have := rkI_bd hu
    have := h.len
    omega
/-! ### a rising map goes through a sort -/
theorem sortI_map {f : Int → Int} (hf : ∀ a b, a ≤ b → f a ≤ f b) (l : List Int) : sortI (l.map f) = (sortI l).map f := by
  refine (sortI_eq ((sortI_perm l).map f) ?_).symm
  rw [List.pairwise_map]
  exact (sortI_asc l).imp fun h => hf _ _ h
theorem putZ_map (f : Int → Int) : ∀ (zs : List (Int × Int)) (acc : List Int), (putZ acc zs).map f = putZ (acc.map f) (zs.map fun z => (z.1, f z.2))
  | [], _ => rfl
  | z :: zs, acc => by
    show (putZ (acc.set z.1.toNat z.2) zs).map f = putZ ((acc.map f).set z.1.toNat (f z.2)) (zs.map fun z => (z.1, f z.2))
    rw [putZ_map f zs, List.map_set]
theorem zip_map_r (f : Int → Int) : ∀ (l m : List Int), l.zip (m.map f) = (l.zip m).map fun z => (z.1, f z.2)
  | [], _ => by simp
  | _ :: _, [] => by simp
  | a :: l, b :: m => by
    simp only [List.map_cons, List.zip_cons_cons]
    rw [zip_map_r f l m]
theorem getI_map {f : Int → Int} {vs : List Int} {k : Int} (h : ∃ j : Nat, k = (j : Int) ∧ j < vs.length) : getI (vs.map f) k = f (getI vs k) := by
  obtain ⟨j, rfl, hj⟩ := h
  unfold getI
  rw [List.getD_eq_getElem?_getD, List.getD_eq_getElem?_getD, List.getElem?_map, Int.toNat_natCast, List.getElem?_eq_getElem hj]
  rfl
theorem srtL_map {f : Int → Int} (hf : ∀ a b, a ≤ b → f a ≤ f b) {vs acc l : List Int} (hl : ∀ k ∈ l, ∃ j : Nat, k = (j : Int) ∧ j < vs.length) : srtL (vs.map f) (acc.map f) l = (srtL vs acc l).map f := by
  unfold srtL
  have e : l.map (getI (vs.map f)) = (l.map (getI vs)).map f := by
    rw [List.map_map]
    exact List.map_congr_left fun k hk => getI_map (hl k hk)
  rw [e, sortI_map hf, zip_map_r, putZ_map]
theorem srtTo_map {f : Int → Int} (hf : ∀ a b, a ≤ b → f a ≤ f b) {vs : List Int} : ∀ {ls : List (List Int)} {acc : List Int}, (∀ l ∈ ls, ∀ k ∈ l, ∃ j : Nat, k = (j : Int) ∧ j < vs.length) →
    ls.foldl (srtL (vs.map f)) (acc.map f) = (ls.foldl (srtL vs) acc).map f
  | [], _, _ => rfl
  | l :: ls, acc, h => by
    show ls.foldl (srtL (vs.map f)) (srtL (vs.map f) (acc.map f) l) = _
    rw [srtL_map hf (h l List.mem_cons_self)]
    exact srtTo_map hf fun m hm => h m (List.mem_cons_of_mem _ hm)
theorem srt_map {f : Int → Int} (hf : ∀ a b, a ≤ b → f a ≤ f b) {b : Bool} {cs : List Cell} {vs : List Int} (hv : vs.length = cs.length) : srt b cs (vs.map f) = (srt b cs vs).map f := by
  unfold srt srtTo
  refine srtTo_map hf fun l hl k hk => ?_
  rw [hv]
  exact (lns_mem hl).1 k hk
theorem aft_map {f : Int → Int} (hf : ∀ a b, a ≤ b → f a ≤ f b) {cs : List Cell} : ∀ (w : List Bool) {vs : List Int}, vs.length = cs.length → aft cs w (vs.map f) = (aft cs w vs).map f
  | [], _, _ => rfl
  | b :: w, vs, hv => by
    show aft cs w (srt b cs (vs.map f)) = (aft cs w (srt b cs vs)).map f
    rw [srt_map hf hv]
    exact aft_map hf w (by rw [srt_len]; exact hv)
theorem rks_aft {cs : List Cell} (w : List Bool) {vs : List Int} (hv : vs.length = cs.length) : rks (aft cs w vs) = aft cs w (rks vs) := by
  unfold rks
  rw [aft_map (fun a b h => rkI_mono h) w hv, rkI_perm (aft_perm w hv)]
theorem rks_srt {b : Bool} {cs : List Cell} {vs : List Int} (hv : vs.length = cs.length) : rks (srt b cs vs) = srt b cs (rks vs) := rks_aft [b] hv
theorem map_inj_on {f : Int → Int} : ∀ {l m : List Int}, (∀ a ∈ l, ∀ b ∈ m, f a = f b → a = b) → l.map f = m.map f → l = m
  | [], [], _, _ => rfl
  | [], _ :: _, _, h => by simp at h
  | _ :: _, [], _, h => by simp at h
  | a :: l, b :: m, hi, h => by
    simp only [List.map_cons, List.cons.injEq] at h
    rw [hi a List.mem_cons_self b List.mem_cons_self h.1, map_inj_on (fun x hx y hy => hi x (List.mem_cons_of_mem _ hx) y (List.mem_cons_of_mem _ hy)) h.2]
theorem rises_rks {b : Bool} {cs : List Cell} {vs : List Int} (hv : vs.length = cs.length) : rises b cs (rks vs) = rises b cs vs := by
  have hr : (rks vs).length = cs.length := by
    unfold rks
    rw [List.length_map, hv]
  rw [← fix_rises hr, ← fix_rises hv, ← rks_srt hv]
  by_cases e : srt b cs vs = vs
  · rw [e, decide_eq_true rfl, decide_eq_true rfl]
  · rw [decide_eq_false e]
    refine decide_eq_false fun z => e ?_
    unfold rks at z
    rw [rkI_perm (srt_perm hv)] at z
    exact map_inj_on (fun a ha c hc => rkI_inj ((srt_perm hv).mem_iff.mp ha) hc) z
theorem settled_rks {cs : List Cell} {vs : List Int} (hv : vs.length = cs.length) : settled cs (rks vs) = settled cs vs := by
  unfold settled
  rw [rises_rks hv, rises_rks hv]
theorem rest_rks {cs : List Cell} {b : Bool} {vs : List Int} {n : Nat} (hv : vs.length = cs.length) (h : RestIs cs b vs n) : RestIs cs b (rks vs) n := by
  have e : ∀ m, settled cs (stat cs b (rks vs) m) = settled cs (stat cs b vs m) := fun m => by
    unfold stat
    rw [← rks_aft _ hv, settled_rks (by rw [aft_len, hv])]
  exact ⟨by rw [e]; exact h.end_, fun m hm => by rw [e]; exact h.least m hm⟩
/-- the place of a value in a rising list -/
theorem idx_asc : ∀ {l : List Int} {j : Nat} {v : Int}, l.Pairwise (· < ·) → l[j]? = some v → ((l.filter fun u => decide (u < v)).length) = j
  | [], j, v, _, h => by simp at h
  | a :: l, 0, v, p, h => by
    simp at h
    subst h
    rw [List.filter_cons_of_neg (by simp)]
    have : l.filter (fun u => decide (u < a)) = [] := List.filter_eq_nil_iff.mpr fun x hx => by
      have := (List.pairwise_cons.mp p).1 x hx
      simp
      omega
    rw [this]
    rfl
  | a :: l, j + 1, v, p, h => by
    have h' : l[j]? = some v := by simpa using h
    have ih := idx_asc (List.pairwise_cons.mp p).2 h'
    have := (List.pairwise_cons.mp p).1 v (List.mem_of_getElem? h')
    rw [List.filter_cons_of_pos (by simpa using this), List.length_cons, ih]
/-- a method's call inside a comprehension, where the written part is named by hand -/
theorem pe_bmK {X : Cx} {K : PySem.W.Frag} {o e : Expr} {es : List Expr} {to : TE} {t : TA} {name : Str} {apos cpos : Pos} {T id : String} {r : V → List V → Hp → VK → Prop} (hK : X.K = K) (pa : PlainAttrs T) (slot : Slot T name id)
    (hty : typeOf (.builtin id) = pure (.type "method_descriptor")) (hm : MtR X id r) (ho : PE X o to) (ha : PA X (e :: es) t)
    (hbase : attributeBase o name X.env (eval o X.env) = eval o X.env := by rfl)
    (hfew : ((backTo cpos (starEach (e :: es) X.env)).all (fun x => !x.1) && (backToKw cpos (keywordEach [] X.env)).all (fun x => x.1.isSome) && decide ((e :: es).length + ([] : List Keyword).length + (if ([] : List Keyword).isEmpty then 0 else 1) < 30)) = true := by rfl)
    (hline : (apos.endLine == cpos.line) = true := by rfl) (hs : starEach (e :: es) X.env = (false, eval e X.env) :: starEach es X.env := by rfl) (hplain : (backTo cpos (starEach es X.env)).any (·.1) = false := by rfl) :
    PE X (.Call (.Attribute o name apos) (e :: es) [] cpos) (tBM K T r to t) := by
  subst hK
  exact pe_bm pa slot hty hm ho ha hbase hfew hline hs hplain
theorem pg_tupK {X : Cx} {K : PySem.W.Frag} {es : List Expr} {k n : Nat} {pos : Pos} {t : TGs} (hK : X.K = K) (hc : X.calm = true) (h : PGs X es t) (hn : (assignEach es X.env).length = n := by rfl) (hst : (assignEach es X.env).findIdx? (·.1) = none := by rfl) : PG X (.Tuple es k pos) (gTup K n t) := by
  subst hK
  exact pg_tup hc h hn hst
end KS
namespace KS
open PySem PySem.Spec PyProof.Rows L2
/-- for comprehensions within comprehensions -/
def rLenSeq (K : PySem.W.Frag) : List V → Hp → VK → Prop := fun xs H Q => ∃ p ys, xs = [.ref p] ∧ (SqL K H p ys ∨ SqT K H p ys) ∧ Q (.int ys.length) H
theorem call_lenK {X : Cx} {K : PySem.W.Frag} (hK : X.K = K) : CallR X (.builtin "len") (rLenSeq K) := by
  subst hK
  exact call_len_seq
theorem pi_tupK {X : Cx} {K : PySem.W.Frag} {tg l : Expr} {tl : TE} (hK : X.K = K) (hl : PE X l tl) : PI X tg l (iTup K tl) := by
  subst hK
  exact pi_tup hl
theorem pi_listK {X : Cx} {K : PySem.W.Frag} {tg l : Expr} {tl : TE} (hK : X.K = K) (hl : PE X l tl) : PI X tg l (iList K tl) := by
  subst hK
  exact pi_list hl
end KS
namespace KS
open PySem PySem.Spec PyProof.Rows L2 RZ
theorem vAt {vs : List Int} {j : Nat} (h : j < vs.length) : atI (vs.map V.int) ((j : Nat) : Int) = some (.int (vs.getD j 0)) := by
  refine atI_nat ?_
  rw [List.getElem?_map, List.getElem?_eq_getElem h, List.getD_eq_getElem?_getD, List.getElem?_eq_getElem h]
  rfl
theorem row_fil {low : Int} {vs : List Int} {c i : Nat} : ((List.range c).filter fun k => decide (low ≤ vs.getD (i * c + k) 0)).length = rowK low vs c i := by
  unfold rowK cntG getN rowN
  rw [List.map_map, List.countP_map, ← List.countP_eq_length_filter]
  rfl
theorem col_fil {low : Int} {vs : List Int} {r c i : Nat} : ((List.range r).filter fun k => decide (low ≤ vs.getD (k * c + i) 0)).length = colK low vs r c i := by
  unfold colK cntG getN colN
  rw [List.map_map, List.countP_map, ← List.countP_eq_length_filter]
  rfl
theorem nI_sum : ∀ l : List Nat, (nI l).sum = ((l.sum : Nat) : Int)
  | [] => rfl
  | x :: l => by
    have ih := nI_sum l
    show ((x : Int) :: nI l).sum = _
    rw [List.sum_cons, List.sum_cons, ih]
    omega
theorem nI_drop (l : List Nat) (n : Nat) : (nI l).drop n = nI (l.drop n) := by
  unfold nI
  rw [List.map_drop]
theorem Tab.v9 {n : Nat} {vs : List Int} (h : Tab n vs) (hn : n ≤ 24) : Vals9 n vs := ⟨h.len, h.nd, fun v hv => by
  have := h.bd v hv
  omega⟩
def wds : List (List Bool) := [[false, true], [true, false], [false], [true]]
theorem wds_eq : (wds.map fun w => V.str (wS w)) = [.str "RC", .str "CR", .str "R", .str "C"] := by decide +kernel
def spLimR (K : PySem.W.Frag) : Sp := fun xs H Q _ => ∃ (r c : Nat) (t : Addr) (vs : List Int) (low : Int), xs = [.int (r : Nat), .int (c : Nat), .ref t, .int low] ∧ Sides8 r c ∧ SqT K H t (vs.map V.int) ∧ Tab (r * c) vs ∧ ∀ H', Same H H' → Q (.bl true) H'
abbrev sLimR : Stmt := topS 40
abbrev nLimR : List Str := ["_law_high", "_law_wide", "_law_some", "_law_low", "_law_spots_here", "_law_tables", "_law_in_rows", "_law_in_columns", "_law_many", "_law_fullest", "_law_spread", "_law_due", "_law_told", "_law_letters", "_law_k", "_law_at", "_law_one"]
theorem scLimR : FnScope nLimR ["_law_high", "_law_wide", "_law_some", "_law_low"] (defScope sLimR) := ⟨rfl, rfl, rfl, by decide +kernel, rfl, by decide +kernel, by decide +kernel⟩
section
variable {P : Program} {w : World} {K : PySem.W.Frag} {mg : Str → Option Value} {base : Heap}
theorem ok_limR {f fS fF fL : Addr} {fd fdS fdF fdL : FuncData} (F : Fun K "_law_limit_right" "_law_limit_right" sLimR f fd)
    (GS : FnOk P w K mg base CX0 1 fS fdS ["_law_high", "_law_wide"] (spSpots K)) (bS : Binds K fdS ["_law_high", "_law_wide"] []) (gS : mg "_law_spots" = some (.ref fS)) (kS : PySem.W.keepIn K (.ref fS) = true)
    (GF : FnOk P w K mg base CX0 7 fF fdF ["plan", "filling", "word"] (spAfterP K)) (bF : Binds K fdF ["plan", "filling", "word"] []) (gF : mg "after" = some (.ref fF)) (kF : PySem.W.keepIn K (.ref fF) = true)
    (GL : FnOk P w K mg base CX0 5 fL fdL ["rows", "columns", "table", "limit", "count"] (spLast K)) (bL : Binds K fdL ["rows", "columns", "table", "limit", "count"] []) (gL : mg "in_last_rows" = some (.ref fL)) (kL : PySem.W.keepIn K (.ref fL) = true)
    (mr : mg "range" = none) (mS : mg "sum" = none) (ms : mg "sorted" = none) (ml : mg "len" = none) (mn : mg "min" = none) : FnOk P w K mg base CX0 8 f fd ["_law_high", "_law_wide", "_law_some", "_law_low"] (spLimR K) := by
  refine F.ok scLimR (fun vs H Q E h => ?_) (fun cdv A outer s H vs Q E hr h => ?_)
  · obtain ⟨r, c, t, vs, low, rfl, _⟩ := h
    rfl
  · obtain ⟨r, c, t, vs, low, rfl, sd, ht, tb, q⟩ := h
    have nd := scLimR.nd
    have hr1 : Room 1 _ := hr.mono (by omega)
    have hr5 : Room 5 _ := hr.mono (by omega)
    refine ⟨_, pss_cons (ps_set (i := 4) nd rfl (.inr rfl) (pe_call GS hr1 (by rfl) gS kS bS .nil pass0 (pa_cons (pv 0) (pa_cons (pv 1) pa_nil))))
      (pss_cons (ps_setLc (i := 5) (own := [("_law_letters", 13)]) (g := gName 13) (tt := tYes) rfl nd rfl rfl (sw_true rfl rfl rfl (by decide +kernel)) (pi_list (pe_lst (pa_cons pe_str (pa_cons pe_str (pa_cons pe_str (pa_cons pe_str pa_nil)))))) (blkOk_by (N := nLimR) (sc := defScope sLimR) (by decide +kernel))
          (fun _ _ _ _ _ => pg_name (i := 13) nd rfl (Or.inl rfl)) (fun _ _ _ _ _ => pts_nil) (fun _ _ _ _ _ => pe_call GF hr (by rfl) gF kF bF .nil pass0 (pa_cons (pv 4) (pa_cons (pv 2) (pa_cons (pv 13) pa_nil)))))
      (pss_cons (ps_setLc (i := 6) (own := [("_law_at", 15)]) (g := gName 15) (tt := tYes) rfl nd rfl rfl (sw_true rfl rfl rfl (by decide +kernel)) (pi_range1 (by rfl) mr (pa_cons (pv 0) pa_nil)) (blkOk_by (N := nLimR) (sc := defScope sLimR) (by decide +kernel))
          (fun _ _ _ _ _ => pg_name (i := 15) nd rfl (Or.inr rfl)) (fun _ _ _ _ _ => pts_nil) (fun _ _ _ _ _ => pe_callB (id := "len") (r := rLenSeq K) (call_lenK rfl) (by rfl) ml PySem.boot_len (pa_cons
            (pe_lc (own := [("_law_k", 14)]) (g := gName 14) rfl nd (pi_range1 (by rfl) mr (pa_cons (pv 1) pa_nil)) (blkOk_by (N := nLimR) (sc := { kind := .function, names := [(".0", .local), ("_law_at", .cell), ("len", .globalImplicit), ("range", .globalImplicit), ("_law_low", .cell), ("_law_some", .cell), ("_law_wide", .cell)], isGenerator := false, isCoroutine := false }) (by decide +kernel))
              (fun _ _ _ _ _ => pg_name (i := 14) nd rfl (Or.inl rfl)) (fun _ _ _ _ _ => pts_one (pt_cmpR op_ge (pe_ix (r := rIxT K) ix_tup (pv 2) (pe_op op_add (pe_op op_mul (pv 15) (pv 1)) (pv 14)) (fun _ _ => rfl)) (pv 3) (nomark _))) (fun _ _ _ _ _ => pv 14)) pa_nil)))
      (pss_cons (ps_setLc (i := 7) (own := [("_law_at", 15)]) (g := gName 15) (tt := tYes) rfl nd rfl rfl (sw_true rfl rfl rfl (by decide +kernel)) (pi_range1 (by rfl) mr (pa_cons (pv 1) pa_nil)) (blkOk_by (N := nLimR) (sc := defScope sLimR) (by decide +kernel))
          (fun _ _ _ _ _ => pg_name (i := 15) nd rfl (Or.inr rfl)) (fun _ _ _ _ _ => pts_nil) (fun _ _ _ _ _ => pe_callB (id := "len") (r := rLenSeq K) (call_lenK rfl) (by rfl) ml PySem.boot_len (pa_cons
            (pe_lc (own := [("_law_k", 14)]) (g := gName 14) rfl nd (pi_range1 (by rfl) mr (pa_cons (pv 0) pa_nil)) (blkOk_by (N := nLimR) (sc := { kind := .function, names := [(".0", .local), ("_law_at", .cell), ("len", .globalImplicit), ("range", .globalImplicit), ("_law_high", .cell), ("_law_low", .cell), ("_law_some", .cell), ("_law_wide", .cell)], isGenerator := false, isCoroutine := false }) (by decide +kernel))
              (fun _ _ _ _ _ => pg_name (i := 14) nd rfl (Or.inl rfl)) (fun _ _ _ _ _ => pts_one (pt_cmpR op_ge (pe_ix (r := rIxT K) ix_tup (pv 2) (pe_op op_add (pe_op op_mul (pv 14) (pv 1)) (pv 15)) (fun _ _ => rfl)) (pv 3) (nomark _))) (fun _ _ _ _ _ => pv 14)) pa_nil)))
      (pss_cons (ps_for PassesOwn.never rfl (pi_range1 (by rfl) mr (pa_cons (pe_op op_add (pv 0) pe_int) pa_nil)) (pg_name (i := 8) nd rfl (.inr rfl))
        (pss_cons (ps_set (i := 9) nd rfl (.inl rfl) (pe_callB (cr_sum rfl) (by rfl) mS (by decide +kernel) (pa_cons (pe_slice sl_list (pe_callB cr_sortedI (by rfl) ms (by decide +kernel) (pa_cons (pv 6) pa_nil)) (po_some (pe_op op_sub (pv 0) (pv 8))) po_none) pa_nil)))
        (pss_cons (ps_set (i := 10) nd rfl (.inl rfl) (pe_callB (cr_sum rfl) (by rfl) mS (by decide +kernel) (pa_cons
            (pe_lc (own := [("_law_one", 16)]) (g := gName 16) (tt := tYes) rfl nd (pi_list (pv 7)) (blkOk_by (N := nLimR) (sc := defScope sLimR) (by decide +kernel))
              (fun _ _ _ _ _ => pg_name (i := 16) nd rfl (Or.inl rfl)) (fun _ _ _ _ _ => pts_nil) (fun _ _ _ _ _ => pe_callB (id := "min") (call_min2 rfl) (by rfl) mn (by decide +kernel) (pa_cons (pv 8) (pa_cons (pv 16) pa_nil)))) pa_nil)))
        (pss_cons (ps_set (i := 11) nd rfl (.inl rfl) (pe_lst (pa_cons (pv 9) (pa_cons (pv 10) (pa_cons (pe_callB (cr_sum rfl) (by rfl) mS (by decide +kernel) (pa_cons (pe_slice sl_list (pv 6) (po_some (pe_op op_sub (pv 0) (pv 8))) po_none) pa_nil)) (pa_cons (pv 10) pa_nil))))))
        (pss_cons (ps_setLc (i := 12) (own := [("_law_one", 16)]) (g := gName 16) (tt := tYes) rfl nd rfl rfl (sw_true rfl rfl rfl (by decide +kernel)) (pi_list (pv 5)) (blkOk_by (N := nLimR) (sc := defScope sLimR) (by decide +kernel))
            (fun _ _ _ _ _ => pg_name (i := 16) nd rfl (Or.inl rfl)) (fun _ _ _ _ _ => pts_nil) (fun _ _ _ _ _ => pe_call GL hr5 (by rfl) gL kL bL .nil pass0 (pa_cons (pv 0) (pa_cons (pv 1) (pa_cons (pv 16) (pa_cons (pv 3) (pa_cons (pv 8) pa_nil)))))))
        (pss_one (ps_if (PW.pt (pw_or (pt_cmpR (op_neD hr.units) (pv 12) (pv 11) (nomark _)) (pw_or1 (pt_cmpR op_lt (pv 10) (pv 9) (nomark _))))) (pss_one (ps_ret pe_bl)) pss_nil)))))))
      (pss_one (ps_ret pe_bl)))))), ?_⟩
    have r8 := sd.r8
    have c8 := sd.c8
    have rc := sd.s.rc
    have gd := rc_good sd
    have hv := tb.len
    have cl := rectC_len r c
    have v9 : Vals9 (rectC r c).length vs := by rw [cl]; exact tb.v9 rc
    -- the plan
    refine ⟨_, rfl, _, rfl, r, c, rfl, sd, fun H1 a s1 pl => ?_⟩
    have ht1 := same_seqT s1 ht
    -- the tables
    refine ⟨by show 4 ≤ sizeLine; decide, fun L nL => ?_⟩
    have sL := same_new (o := .lst [.str "RC", .str "CR", .str "R", .str "C"]) nL
    have hL : upd H1 L (.lst [.str "RC", .str "CR", .str "R", .str "C"]) L = some (.lst (wds.map fun w => V.str (wS w))) := by rw [wds_eq]; exact upd_same
    have pl2 := pl.kt (.of_same sL)
    have ht2 := same_seqT sL ht1
    have s02 := s1.trans sL
    generalize upd H1 L (.lst [.str "RC", .str "CR", .str "R", .str "C"]) = H2 at hL pl2 ht2 s02
    refine ⟨L, rfl, ⟨_, SqL.of hL⟩, fun T nT => ?_⟩
    refine lc_list (K := K) (a := L) (xs := wds.map fun w => V.str (wS w)) (fun j G => ∃ acc : List V, G T = some (.lst acc) ∧ Paired (fun x w => ∃ u, x = .ref u ∧ SqT K G u ((aft (rectC r c) w vs).map V.int)) acc (wds.take j) ∧ (∀ b o, b ≠ T → H2 b = some o → G b = some o)) ?_ ?_ ?_ ?_
    · exact ⟨[], upd_same, .nil, fun b o n e => by rw [upd_ne n]; exact e⟩
    · rintro j G _ ⟨acc, a1, a2, a3⟩
      exact SqL.of (a3 _ _ (ne_of_none hL nT) hL)
    · rintro j x G hj ⟨acc, a1, a2, a3⟩
      have sG : Same H2 G := fun b o e => a3 b o (ne_of_none e nT) e
      rw [List.getElem?_map] at hj
      cases ev : wds[j]? with
      | none =>
        rw [ev] at hj
        cases hj
      | some w =>
        rw [ev] at hj
        cases hj
        have jl := (List.getElem?_eq_some_iff.mp ev).1
        have j4 : wds.length = 4 := rfl
        have wl : w.length ≤ 400 := by
          have : ∀ w ∈ wds, w.length ≤ 400 := by decide
          exact this w (List.mem_of_getElem? ev)
        have al : acc.length ≤ 4 := by
          rw [Paired.length a2, List.length_take]
          omega
        refine ⟨rfl, _, rfl, _, rfl, _, rfl, a, t, w, rectC r c, vs, rfl, pl2.kt (.of_same sG), gd, by omega, same_seqT sG ht2, v9, wl, fun G1 u s1 hu => ?_⟩
        have a1' := s1 _ _ a1
        refine ⟨acc, a1', small64 (by omega), acc ++ [.ref u], upd_same, ?_, fun b o n e => ?_⟩
        · rw [List.take_add_one, ev]
          have kt : KT K G1 (upd G1 T (.lst (acc ++ [.ref u]))) := KT.upd a1'
          exact paired_append (Paired.mono (fun _ _ ⟨z, e, h⟩ => ⟨z, e, kt _ _ (same_seqT s1 h)⟩) a2) (.cons ⟨u, rfl, kt _ _ hu⟩ .nil)
        · rw [upd_ne n]
          exact s1 _ _ (a3 b o n e)
    rintro H3 ⟨acc, hT, tabs, k3⟩
    have s3 : Same H2 H3 := fun b o e => k3 b o (ne_of_none e nT) e
    have s13 := s02.trans s3
    have tw : (wds.map fun w => V.str (wS w)).length = wds.length := List.length_map ..
    rw [tw, List.take_length] at tabs
    -- rows
    refine ⟨_, rfl, _, rfl, by omega, by omega, fun D nD => ?_⟩
    refine lc_range (lo := 0) (n := (((r : Nat) : Int)).toNat) (fun i G => G D = some (.lst ((nI ((List.range i).map (rowK low vs c))).map V.int)) ∧ (∀ b o, b ≠ D → H3 b = some o → G b = some o)) ?_ ?_ ?_
    · exact ⟨upd_same, fun b o n e => by rw [upd_ne n]; exact e⟩
    · rintro i G hi ⟨a1, a2⟩
      rw [Int.toNat_natCast] at hi
      have sG : Same H3 G := fun b o e => a2 b o (ne_of_none e nD) e
      have htG := same_seqT (s13.trans sG) ht
      refine ⟨rfl, _, rfl, _, rfl, by omega, by omega, fun D2 nD2 => ?_⟩
      refine lc_range (lo := 0) (n := (((c : Nat) : Int)).toNat) (fun k G2 => G2 D2 = some (.lst (((List.range k).filter fun k => decide (low ≤ vs.getD (i * c + k) 0)).map fun (k : Nat) => V.int (k : Int))) ∧ (∀ b o, b ≠ D2 → G b = some o → G2 b = some o)) ?_ ?_ ?_
      · exact ⟨upd_same, fun b o n e => by rw [upd_ne n]; exact e⟩
      · rintro k G2 hk ⟨c1', c2⟩
        rw [Int.toNat_natCast] at hk
        have sG2 : Same G G2 := fun b o e => c2 b o (ne_of_none e nD2) e
        have el : (0 + (i : Int)) * (c : Int) + (0 + (k : Int)) = ((i * c + k : Nat) : Int) := by rw [Int.zero_add, Int.zero_add, Int.natCast_add, Int.natCast_mul]
        have hb : i * c + k < r * c := by
          have h1 := Nat.mul_le_mul_right c (show i + 1 ≤ r by omega)
          rw [Nat.succ_mul] at h1
          omega
        have fl : ((List.range k).filter fun k => decide (low ≤ vs.getD (i * c + k) 0)).length ≤ k := by
          have := List.length_filter_le (fun k => decide (low ≤ vs.getD (i * c + k) 0)) (List.range k)
          rw [List.length_range] at this
          exact this
        refine ⟨rfl, _, rfl, _, rfl, _, rfl, _, _, rfl, rfl, .inl ⟨by omega, by omega⟩, _, rfl, _, _, rfl, rfl, t, _, _, .int (vs.getD (i * c + k) 0), rfl, rfl, same_seqT sG2 htG, by rw [el]; exact vAt (by omega), _, rfl, _, _, rfl, rfl, ?_⟩
        by_cases d : low ≤ vs.getD (i * c + k) 0
        · refine ⟨true, bl_true (show vs.getD (i * c + k) 0 ≥ low by omega), ?_⟩
          refine ⟨_, rfl, _, c1', ?_, ?_, fun b o n e => ?_⟩
          · rw [List.length_map]
            exact small64 (by omega)
          · rw [upd_same, List.range_succ, List.filter_append, List.filter_cons, if_pos (decide_eq_true d), List.filter_nil, List.map_append, Int.zero_add]
            rfl
          · rw [upd_ne n]
            exact c2 b o n e
        · refine ⟨false, bl_false (show ¬ vs.getD (i * c + k) 0 ≥ low by omega), ?_⟩
          refine ⟨?_, c2⟩
          rw [List.range_succ, List.filter_append, List.filter_cons, if_neg (by simpa using d), List.filter_nil, List.append_nil]
          exact c1'
      · rintro G2 ⟨c1', c2⟩
        have sG2 : Same G G2 := fun b o e => c2 b o (ne_of_none e nD2) e
        refine ⟨D2, _, rfl, .inl (SqL.of c1'), _, sG2 _ _ a1, ?_, ?_, fun b o n e => ?_⟩
        · unfold nI
          rw [List.length_map, List.length_map, List.length_map, List.length_range]
          exact small64 (by omega)
        · rw [upd_same, List.range_succ, List.map_append, List.length_map, Int.toNat_natCast]
          unfold nI
          rw [List.map_append, List.map_append]
          show some (HO.lst (_ ++ [V.int _])) = some (HO.lst (_ ++ [V.int _]))
          rw [row_fil]
        · rw [upd_ne n]
          exact sG2 _ _ (a2 b o n e)
    rintro H4 ⟨hH4, kH4⟩
    have sH4 : Same H3 H4 := fun b o e => kH4 b o (ne_of_none e nD) e
    rw [Int.toNat_natCast] at hH4
    have s14 := s13.trans sH4
    -- columns
    refine ⟨_, rfl, _, rfl, by omega, by omega, fun D7 nD7 => ?_⟩
    refine lc_range (lo := 0) (n := (((c : Nat) : Int)).toNat) (fun i G => G D7 = some (.lst ((nI ((List.range i).map (colK low vs r c))).map V.int)) ∧ (∀ b o, b ≠ D7 → H4 b = some o → G b = some o)) ?_ ?_ ?_
    · exact ⟨upd_same, fun b o n e => by rw [upd_ne n]; exact e⟩
    · rintro i G hi ⟨a1, a2⟩
      rw [Int.toNat_natCast] at hi
      have sG : Same H4 G := fun b o e => a2 b o (ne_of_none e nD7) e
      have htG := same_seqT (s14.trans sG) ht
      refine ⟨rfl, _, rfl, _, rfl, by omega, by omega, fun D2 nD2 => ?_⟩
      refine lc_range (lo := 0) (n := (((r : Nat) : Int)).toNat) (fun k G2 => G2 D2 = some (.lst (((List.range k).filter fun k => decide (low ≤ vs.getD (k * c + i) 0)).map fun (k : Nat) => V.int (k : Int))) ∧ (∀ b o, b ≠ D2 → G b = some o → G2 b = some o)) ?_ ?_ ?_
      · exact ⟨upd_same, fun b o n e => by rw [upd_ne n]; exact e⟩
      · rintro k G2 hk ⟨c1', c2⟩
        rw [Int.toNat_natCast] at hk
        have sG2 : Same G G2 := fun b o e => c2 b o (ne_of_none e nD2) e
        have el : (0 + (k : Int)) * (c : Int) + (0 + (i : Int)) = ((k * c + i : Nat) : Int) := by rw [Int.zero_add, Int.zero_add, Int.natCast_add, Int.natCast_mul]
        have hb : k * c + i < r * c := by
          have h1 := Nat.mul_le_mul_right c (show k + 1 ≤ r by omega)
          rw [Nat.succ_mul] at h1
          omega
        have fl : ((List.range k).filter fun k => decide (low ≤ vs.getD (k * c + i) 0)).length ≤ k := by
          have := List.length_filter_le (fun k => decide (low ≤ vs.getD (k * c + i) 0)) (List.range k)
          rw [List.length_range] at this
          exact this
        refine ⟨rfl, _, rfl, _, rfl, _, rfl, _, _, rfl, rfl, .inl ⟨by omega, by omega⟩, _, rfl, _, _, rfl, rfl, t, _, _, .int (vs.getD (k * c + i) 0), rfl, rfl, same_seqT sG2 htG, by rw [el]; exact vAt (by omega), _, rfl, _, _, rfl, rfl, ?_⟩
        by_cases d : low ≤ vs.getD (k * c + i) 0
        · refine ⟨true, bl_true (show vs.getD (k * c + i) 0 ≥ low by omega), ?_⟩
          refine ⟨_, rfl, _, c1', ?_, ?_, fun b o n e => ?_⟩
          · rw [List.length_map]
            exact small64 (by omega)
          · rw [upd_same, List.range_succ, List.filter_append, List.filter_cons, if_pos (decide_eq_true d), List.filter_nil, List.map_append, Int.zero_add]
            rfl
          · rw [upd_ne n]
            exact c2 b o n e
        · refine ⟨false, bl_false (show ¬ vs.getD (k * c + i) 0 ≥ low by omega), ?_⟩
          refine ⟨?_, c2⟩
          rw [List.range_succ, List.filter_append, List.filter_cons, if_neg (by simpa using d), List.filter_nil, List.append_nil]
          exact c1'
      · rintro G2 ⟨c1', c2⟩
        have sG2 : Same G G2 := fun b o e => c2 b o (ne_of_none e nD2) e
        refine ⟨D2, _, rfl, .inl (SqL.of c1'), _, sG2 _ _ a1, ?_, ?_, fun b o n e => ?_⟩
        · unfold nI
          rw [List.length_map, List.length_map, List.length_map, List.length_range]
          exact small64 (by omega)
        · rw [upd_same, List.range_succ, List.map_append, List.length_map, Int.toNat_natCast]
          unfold nI
          rw [List.map_append, List.map_append]
          show some (HO.lst (_ ++ [V.int _])) = some (HO.lst (_ ++ [V.int _]))
          rw [col_fil]
        · rw [upd_ne n]
          exact sG2 _ _ (a2 b o n e)
    rintro H5 ⟨hH5, kH5⟩
    have sH5 : Same H4 H5 := fun b o e => kH5 b o (ne_of_none e nD7) e
    rw [Int.toNat_natCast] at hH5
    have s15 := s14.trans sH5
    have h6 : H5 D = some (.lst ((nI (inR low vs r c)).map V.int)) := sH5 _ _ hH4
    have hT5 := sH5 _ _ (sH4 _ _ hT)
    have tabs5 : Paired (fun x w => ∃ u, x = .ref u ∧ SqT K H5 u ((aft (rectC r c) w vs).map V.int)) acc wds := Paired.mono (fun _ _ ⟨z, e, h⟩ => ⟨z, e, same_seqT (sH4.trans sH5) h⟩) tabs
    have rl := inR_len low vs r c
    obtain ⟨l', lp, ls'⟩ := sort_nat (inR low vs r c)
    have ll : l'.length = r := by rw [lp.length_eq, rl]
    -- each number of rows
    refine ⟨_, rfl, _, _, rfl, rfl, _, rfl, by omega, by omega, for_range (lo := 0) (n := r + 1) (fun m σ G => ∃ y8 y9 y10 y11 y12 : Option V, σ = [some (.int (r : Nat)), some (.int (c : Nat)), some (.ref t), some (.int low), some (.ref a), some (.ref T), some (.ref D), some (.ref D7), y8, y9, y10, y11, y12, none, none, none, none] ∧ Same H5 G) ?_ ?_ ?_⟩
    · exact ⟨none, none, none, none, none, rfl, Same.refl _⟩
    · rintro m σ G hm ⟨y8, y9, y10, y11, y12, rfl, sG⟩
      have hm' : m ≤ r := by omega
      have es : (r : Int) - (0 + (m : Int)) = ((r - m : Nat) : Int) := by omega
      have em : (0 : Int) + (m : Int) = ((m : Nat) : Int) := by omega
      have h6G := sG _ _ h6
      have h7G := sG _ _ hH5
      have htG := same_seqT (s15.trans sG) ht
      -- the fullest rows
      refine ⟨_, rfl, D, _, rfl, SqL.of h6G, fun ys P' perm asc nP => ?_⟩
      have ey := sortI_eq perm asc
      rw [ls'] at ey
      subst ey
      have sP := same_new (o := .lst ((nI l').map V.int)) nP
      refine ⟨_, rfl, _, rfl, _, _, rfl, rfl, _, rfl, P', _, rfl, SqL.of upd_same, fun P2 nP2 => ?_⟩
      rw [es, cut_from2 (by rw [List.length_map]; unfold nI; rw [List.length_map]; omega), ← List.map_drop, nI_drop]
      have sP2 := same_new (o := .lst ((nI (l'.drop (r - m))).map V.int)) nP2
      refine ⟨P2, _, rfl, SqL.of upd_same, ?_⟩
      rw [nI_sum]
      have t1 := sP.trans sP2
      generalize upd (upd G P' (.lst ((nI l').map V.int))) P2 (.lst ((nI (l'.drop (r - m))).map V.int)) = G1 at t1
      -- the spread
      refine ⟨_, rfl, D7, rfl, ⟨_, SqL.of (t1 _ _ h7G)⟩, fun E1 nE1 => ?_⟩
      refine lc_list (K := K) (a := D7) (xs := (nI ((List.range c).map (colK low vs r c))).map V.int) (fun j G2 => G2 E1 = some (.lst ((nI ((List.range j).map fun j => min m (colK low vs r c j))).map V.int)) ∧ (∀ b o, b ≠ E1 → G1 b = some o → G2 b = some o)) ?_ ?_ ?_ ?_
      · exact ⟨upd_same, fun b o n e => by rw [upd_ne n]; exact e⟩
      · rintro j G2 _ ⟨a1, a2⟩
        exact SqL.of (a2 _ _ (ne_of_none (t1 _ _ h7G) nE1) (t1 _ _ h7G))
      · rintro j x G2 hj ⟨a1, a2⟩
        have jc : j < c := by
          have := (List.getElem?_eq_some_iff.mp hj).1
          unfold nI at this
          rw [List.length_map, List.length_map, List.length_map, List.length_range] at this
          exact this
        have hx : x = .int ((colK low vs r c j : Nat) : Int) := by
          unfold nI at hj
          rw [List.getElem?_map, List.getElem?_map, List.getElem?_map, List.getElem?_range jc] at hj
          exact (Option.some.inj hj).symm
        subst hx
        refine ⟨rfl, _, rfl, _, rfl, _, _, rfl, _, a1, ?_, ?_, fun b o n e => ?_⟩
        · unfold nI
          rw [List.length_map, List.length_map, List.length_map, List.length_range]
          exact small64 (by omega)
        · rw [upd_same, List.range_succ, List.map_append]
          unfold nI
          rw [List.map_append, List.map_append]
          show some (HO.lst (_ ++ [V.int _])) = some (HO.lst (_ ++ [V.int _]))
          have : (if ((colK low vs r c j : Nat) : Int) < 0 + (m : Int) then ((colK low vs r c j : Nat) : Int) else 0 + (m : Int)) = ((min m (colK low vs r c j) : Nat) : Int) := by
            split <;> omega
          rw [this]
        · rw [upd_ne n]
          exact a2 b o n e
      rintro G2 ⟨hE1, k2⟩
      have t2 : Same G1 G2 := fun b o e => k2 b o (ne_of_none e nE1) e
      have nl : ((nI ((List.range c).map (colK low vs r c))).map V.int).length = c := by
        unfold nI
        rw [List.length_map, List.length_map, List.length_map, List.length_range]
      rw [nl] at hE1
      refine ⟨E1, _, rfl, SqL.of hE1, ?_⟩
      rw [nI_sum]
      have t12 := t1.trans t2
      -- what is due
      refine ⟨_, rfl, _, rfl, _, rfl, _, rfl, _, rfl, _, _, rfl, rfl, _, rfl, D, _, rfl, SqL.of (t12 _ _ h6G), fun P3 nP3 => ?_⟩
      rw [es, cut_from2 (by rw [List.length_map]; unfold nI; rw [List.length_map]; omega), ← List.map_drop, nI_drop]
      have sP3 := same_new (o := .lst ((nI ((inR low vs r c).drop (r - m))).map V.int)) nP3
      refine ⟨P3, _, rfl, SqL.of upd_same, ?_⟩
      rw [nI_sum]
      refine ⟨_, rfl, by show 4 ≤ sizeLine; decide, fun U nU => ?_⟩
      generalize hdue : ([V.int (((l'.drop (r - m)).sum : Nat) : Int), V.int ((((List.range c).map fun j => min m (colK low vs r c j)).sum : Nat) : Int), V.int ((((inR low vs r c).drop (r - m)).sum : Nat) : Int), V.int ((((List.range c).map fun j => min m (colK low vs r c j)).sum : Nat) : Int)] : List V) = due
      have sU := same_new (o := .lst due) nU
      have hU : upd (upd G2 P3 (.lst ((nI ((inR low vs r c).drop (r - m))).map V.int))) U (.lst due) U = some (.lst due) := upd_same
      have t13 := (t12.trans sP3).trans sU
      generalize upd (upd G2 P3 (.lst ((nI ((inR low vs r c).drop (r - m))).map V.int))) U (.lst due) = G3 at hU t13
      -- what is told
      have hTG := t13 _ _ (sG _ _ hT5)
      refine ⟨_, rfl, T, rfl, ⟨_, SqL.of hTG⟩, fun E2 nE2 => ?_⟩
      have al := Paired.length tabs5
      refine lc_list (K := K) (a := T) (xs := acc) (fun j G4 => G4 E2 = some (.lst ((wds.take j).map fun w => V.int ((lastN r c (aft (rectC r c) w vs) low m : Nat) : Int))) ∧ (∀ b o, b ≠ E2 → G3 b = some o → G4 b = some o)) ?_ ?_ ?_ ?_
      · exact ⟨upd_same, fun b o n e => by rw [upd_ne n]; exact e⟩
      · rintro j G4 _ ⟨a1, a2⟩
        exact SqL.of (a2 _ _ (ne_of_none hTG nE2) hTG)
      · rintro j x G4 hj ⟨a1, a2⟩
        have sG4 : Same G3 G4 := fun b o e => a2 b o (ne_of_none e nE2) e
        obtain ⟨w, hw, u, rfl, hu⟩ := paired_get tabs5 hj
        have jl := (List.getElem?_eq_some_iff.mp hw).1
        have j4 : wds.length = 4 := rfl
        refine ⟨rfl, _, rfl, _, rfl, _, rfl, _, rfl, _, rfl, r, c, m, u, aft (rectC r c) w vs, low, ?_, sd.s, same_seqT ((sG.trans t13).trans sG4) hu, tb.perm (aft_perm w (by rw [cl]; exact hv)).symm, hm', fun G5 s5 => ?_⟩
        · rw [em]
          rfl
        refine ⟨_, s5 _ _ a1, ?_, ?_, fun b o n e => ?_⟩
        · rw [List.length_map, List.length_take]
          exact small64 (by omega)
        · rw [upd_same, List.take_add_one, hw, List.map_append]
          rfl
        · rw [upd_ne n]
          exact s5 _ _ (a2 b o n e)
      rintro G4 ⟨hE2, k4⟩
      have t4 : Same G3 G4 := fun b o e => k4 b o (ne_of_none e nE2) e
      rw [al, List.take_length] at hE2
      have tell : (wds.map fun w => V.int ((lastN r c (aft (rectC r c) w vs) low m : Nat) : Int)) = due := by
        rw [← hdue]
        have e1 : lastN r c (aft (rectC r c) [false, true] vs) low m = (l'.drop (r - m)).sum := last_RC sd hm' hv lp ls'
        have hv2 : (srt true (rectC r c) vs).length = r * c := by rw [srt_len]; exact hv
        have e2 : lastN r c (aft (rectC r c) [true, false] vs) low m = ((List.range c).map fun j => min m (colK low vs r c j)).sum := by
          show lastN r c (srt false (rectC r c) (srt true (rectC r c) vs)) low m = _
          rw [last_R sd hm' hv2, ← last_rows sd hm' hv2]
          exact last_C sd hm' hv
        have e3 : lastN r c (aft (rectC r c) [false] vs) low m = ((inR low vs r c).drop (r - m)).sum := last_R sd hm' hv
        have e4 : lastN r c (aft (rectC r c) [true] vs) low m = ((List.range c).map fun j => min m (colK low vs r c j)).sum := last_C sd hm' hv
        show [V.int ((lastN r c (aft (rectC r c) [false, true] vs) low m : Nat) : Int), V.int ((lastN r c (aft (rectC r c) [true, false] vs) low m : Nat) : Int), V.int ((lastN r c (aft (rectC r c) [false] vs) low m : Nat) : Int), V.int ((lastN r c (aft (rectC r c) [true] vs) low m : Nat) : Int)] = _
        rw [e1, e2, e3, e4]
      rw [tell] at hE2
      obtain ⟨dd, hdd⟩ : ∃ dd : List Int, due = dd.map V.int := ⟨[_, _, _, _], hdue.symm⟩
      rw [hdd] at hE2 hU
      refine ⟨_, rfl, _, rfl, _, _, .lst (SqL.of hE2) (dp_ints dd), .lst (SqL.of (t4 _ _ hU)) (dp_ints dd), ints_shaped _, ints_shaped _, false, ?_, ?_⟩
      · rw [ints_eqvL, decide_eq_true rfl]
        rfl
      have fle := full_le (m := m) (low := low) sd hv lp
      refine ⟨_, rfl, _, rfl, _, _, rfl, rfl, false, bl_false ?_, ?_⟩
      · omega
      exact ⟨_, _, _, _, _, rfl, sG.trans (t13.trans t4)⟩
    · rintro σ G ⟨y8, y9, y10, y11, y12, rfl, sG⟩
      exact q G (s15.trans sG)
end
end KS
namespace KS
open PySem PySem.Spec PyProof.Rows L2
abbrev sSides : Stmt := topS 37
abbrev nSides : List Str := ["_law_pool_here", "_law_most", "_law_short", "_law_long"]
theorem scSides : FnScope nSides ["_law_pool_here", "_law_most"] (defScope sSides) := ⟨rfl, rfl, rfl, by decide +kernel, rfl, by decide +kernel, by decide +kernel⟩
abbrev sMixed : Stmt := topS 38
abbrev nMixed : List Str := ["_law_pool_here", "_law_size", "_law_left", "_law_found", "_law_turn"]
theorem scMixed : FnScope nMixed ["_law_pool_here", "_law_size"] (defScope sMixed) := ⟨rfl, rfl, rfl, by decide +kernel, rfl, by decide +kernel, by decide +kernel⟩
section
variable {P : Program} {w : World} {K : PySem.W.Frag} {mg : Str → Option Value} {base : Heap}
theorem ok_sides {f fD : Addr} {fd fdD : FuncData} (F : Fun K "_law_sides" "_law_sides" sSides f fd)
    (GD : FnOk P w K mg base CX0 1 fD fdD ["_law_pool_here", "_law_most"] spDraw) (bD : Binds K fdD ["_law_pool_here", "_law_most"] []) (gD : mg "_law_draw" = some (.ref fD)) (kD : PySem.W.keepIn K (.ref fD) = true)
    (mn : mg "min" = none) : FnOk P w K mg base CX0 2 f fd ["_law_pool_here", "_law_most"] spSides := by
  refine F.ok scSides (fun vs H Q E h => ?_) (fun cdv A outer s H vs Q E hr h => ?_)
  · obtain ⟨p, m, rfl, _⟩ := h
    rfl
  · obtain ⟨p, m, rfl, po, m0, m1, q⟩ := h
    have nd := scSides.nd
    refine ⟨_, pss_cons (ps_set (i := 2) nd rfl (.inl rfl) (pe_op op_add pe_int (pe_call GD hr (by rfl) gD kD bD .nil pass0 (pa_cons (pv 0) (pa_cons (pe_callB (call_min2 rfl) (by rfl) mn (by decide +kernel) (pa_cons pe_int (pa_cons (pv 1) pa_nil))) pa_nil)))))
      (pss_cons (ps_set (i := 3) nd rfl (.inl rfl) (pe_op op_add pe_int (pe_call GD hr (by rfl) gD kD bD .nil pass0 (pa_cons (pv 0) (pa_cons (pe_op op_fdiv (pv 1) (pv 2)) pa_nil)))))
      (pss_one (ps_ret (pe_ifExp (pt_cmpR op_eq (pe_call GD hr (by rfl) gD kD bD .nil pass0 (pa_cons (pv 0) (pa_cons pe_int pa_nil))) pe_int (nomark _))
        (pe_tup (pa_cons (pv 2) (pa_cons (pv 3) pa_nil))) (pe_tup (pa_cons (pv 3) (pa_cons (pv 2) pa_nil))))))), ?_⟩
    refine ⟨_, rfl, _, rfl, _, _, rfl, p, _, rfl, po, ?_, ?_, fun H1 r k1 po1 r0 r1 => ?_⟩
    · split <;> omega
    · split <;> omega
    have r2 : r < 5 ∧ r < (m : Int) := by
      revert r1
      split <;> intro r1 <;> omega
    refine ⟨_, _, rfl, rfl, ?_⟩
    obtain ⟨sh, hsh⟩ : ∃ sh : Nat, 1 + r = (sh : Int) := ⟨(1 + r).toNat, by omega⟩
    have hs1 : 1 ≤ sh ∧ sh ≤ m := by omega
    have hs5 : sh ≤ 5 := by omega
    show (tSeq _ _) _ [some (.ref p), some (.int (m : Int)), some (.int (1 + r)), none] H1
    rw [hsh]
    have dq : 1 ≤ m / sh := by
      rw [Nat.le_div_iff_mul_le (by omega)]
      omega
    have dm : m / sh ≤ m := Nat.div_le_self m sh
    have ed : (m : Int) / (sh : Int) = ((m / sh : Nat) : Int) := by rw [Int.natCast_ediv]
    refine ⟨_, rfl, _, rfl, _, rfl, _, _, rfl, rfl, ⟨by omega, by omega⟩, p, (m : Int) / (sh : Int), rfl, po1, by rw [ed]; omega, by rw [ed]; omega, fun H2 r' k2 po2 r0' r1' => ?_⟩
    rw [ed] at r1'
    refine ⟨_, _, rfl, rfl, ?_⟩
    obtain ⟨lo, hlo⟩ : ∃ lo : Nat, 1 + r' = (lo : Int) := ⟨(1 + r').toNat, by omega⟩
    show gName 3 (V.int (1 + r')) _ _ _
    rw [hlo]
    have hl1 : 1 ≤ lo ∧ lo ≤ m / sh := by omega
    have pr : sh * lo ≤ m := by
      have h1 : sh * lo ≤ sh * (m / sh) := Nat.mul_le_mul_left sh hl1.2
      have h2 : sh * (m / sh) ≤ m := Nat.mul_div_le m sh
      omega
    refine ⟨_, rfl, p, 2, rfl, po2, by decide, by decide, fun H3 r3 k3 po3 _ _ => ⟨rfl, _, rfl, ite2 (fun e => ?_) (fun e => ?_)⟩⟩
    · refine ⟨_, rfl, _, rfl, (by show 2 ≤ sizeLine; decide), fun t nt => ?_⟩
      have s1 := same_new (o := .tup [.int ((sh : Nat) : Int), .int ((lo : Nat) : Int)]) nt
      exact q _ t sh lo (((k1.trans k2).trans k3).trans (.of_same s1)) (po3.same s1) upd_same ⟨hs1.1, hl1.1, by omega⟩ pr
    · refine ⟨_, rfl, _, rfl, (by show 2 ≤ sizeLine; decide), fun t nt => ?_⟩
      have s1 := same_new (o := .tup [.int ((lo : Nat) : Int), .int ((sh : Nat) : Int)]) nt
      have pr' : lo * sh ≤ m := by rw [Nat.mul_comm]; exact pr
      exact q _ t lo sh (((k1.trans k2).trans k3).trans (.of_same s1)) (po3.same s1) upd_same ⟨hl1.1, hs1.1, by omega⟩ pr'
theorem ok_mixed {f fD : Addr} {fd fdD : FuncData} (F : Fun K "_law_mixed" "_law_mixed" sMixed f fd)
    (GD : FnOk P w K mg base CX0 1 fD fdD ["_law_pool_here", "_law_most"] spDraw) (bD : Binds K fdD ["_law_pool_here", "_law_most"] []) (gD : mg "_law_draw" = some (.ref fD)) (kD : PySem.W.keepIn K (.ref fD) = true)
    (mL : mg "list" = none) (mr : mg "range" = none) (ml : mg "len" = none) (mt : mg "tuple" = none) : FnOk P w K mg base CX0 2 f fd ["_law_pool_here", "_law_size"] (spMixed K) := by
  refine F.ok scMixed (fun vs H Q E h => ?_) (fun cdv A outer s H vs Q E hr h => ?_)
  · obtain ⟨p, m, rfl, _⟩ := h
    rfl
  · obtain ⟨p, n, rfl, po, n0, n1, q⟩ := h
    have nd := scMixed.nd
    refine ⟨_, pss_cons (ps_par (i := 2) (j := 3) (by rfl) nd rfl rfl (by decide) rfl rfl
        (pa_cons (pe_listRg rfl (by rfl) mL (prg_2 (by rfl) mr pe_int (pe_op op_add (pv 1) pe_int))) (pa_cons (pe_lst pa_nil) pa_nil)) (by rfl))
      (pss_cons (ps_for PassesOwn.never rfl (pi_range1 (by rfl) mr (pa_cons (pv 1) pa_nil)) (pg_name (i := 4) nd rfl (.inl rfl))
        (pss_one (ps_expr (pe_bm PySem.F.plainAttrs_list PySem.F.slot_list_append PySem.F.type_list_append mt_append (pv 3)
          (pa_cons (pe_bm PySem.F.plainAttrs_list PySem.F.slot_list_pop PySem.F.type_list_pop mt_popAt (pv 2)
            (pa_cons (pe_call GD hr (by rfl) gD kD bD .nil pass0 (pa_cons (pv 0) (pa_cons (pe_callB call_len_seq (by rfl) ml PySem.boot_len (pa_cons (pv 2) pa_nil)) pa_nil))) pa_nil)) pa_nil)))))
      (pss_one (ps_ret (pe_callTy call_tuple_of (by rfl) mt (by decide +kernel) (pa_cons (pv 3) pa_nil))))), ?_⟩
    refine ⟨_, rfl, _, _, rfl, rfl, _, _, rfl, rfl, ⟨by omega, by omega, by omega, by omega, by omega⟩, fun e ne => ?_⟩
    have s2 := same_new (o := .lst (rgV 1 ((n : Int) + 1))) ne
    refine ⟨Nat.zero_le _, fun o no => ⟨_, _, rfl, ?_⟩⟩
    have so := same_new (o := .lst []) no
    have he : upd H e (.lst (rgV 1 ((n : Int) + 1))) e = some (.lst ((rgI 1 ((n : Int) + 1)).map V.int)) := by rw [upd_same, rgV_ints]
    have neo : e ≠ o := ne_of_none he no
    have hep : e ≠ p := Ne.symm (po.ne ne)
    have npo : p ≠ o := (po.same s2).ne no
    have ho0 : H o = none := s2.free no
    refine ⟨_, rfl, (n : Int), rfl, by omega, by omega, for_range (lo := 0) (n := n) (fun i σ G' => ∃ (y6 : Option V) (ls fs : List Int),
      σ = [some (.ref p), some (.int n), some (.ref e), some (.ref o), y6] ∧ KeepX p H G' ∧ PoolO (G' p) ∧ G' e = some (.lst (ls.map V.int)) ∧ G' o = some (.lst (fs.map V.int)) ∧
      fs.length = i ∧ Tab n (fs ++ ls)) ?_ ?_ ?_⟩
    · exact ⟨none, _, [], rfl, (KeepX.of_same s2).trans (.of_same so), (po.same s2).same so, so _ _ he, upd_same, rfl, tab_low n⟩
    · rintro i σ G' hi ⟨y6, ls, fs, rfl, kx', po2, he', ho', fl, v9'⟩
      have hlen := v9'.len
      rw [List.length_append] at hlen
      have hll : (ls.map V.int).length = ls.length := List.length_map ..
      refine ⟨_, rfl, .inl ⟨rfl, _, SqL.of ho'⟩, _, rfl, .inl ⟨rfl, _, SqL.of he'⟩, _, rfl, _, rfl, e, _, rfl, .inl (SqL.of he'), p, _, rfl, po2, by omega, by omega, fun G5 r k5 po5 r0 r1 => ?_⟩
      have hlt : r.toNat < ls.length := by omega
      have he5 := k5 _ _ hep he'
      have ho5 := k5 _ _ (Ne.symm npo) ho'
      refine ⟨e, ls.map V.int, r, r.toNat, .int ls[r.toNat], rfl, rfl, he5, by omega, by omega, ?_, ?_, ?_⟩
      · unfold seqIndex?
        have e1 : ¬ r < 0 := by omega
        simp only [if_neg e1]
        rw [if_pos]
        simp only [Bool.and_eq_true, decide_eq_true_eq]
        exact ⟨r0, r1⟩
      · rw [List.getElem?_map, List.getElem?_eq_getElem hlt]
        rfl
      · refine ⟨o, fs.map V.int, _, rfl, rfl, by rw [upd_ne (Ne.symm neo)]; exact ho5, ?_, ?_⟩
        · rw [List.length_map]
          exact small64 (by omega)
        · refine ⟨_, ls.eraseIdx r.toNat, fs ++ [ls[r.toNat]], rfl, ?_, ?_, ?_, ?_, ?_, ?_⟩
          · intro b u nb z
            rw [upd_ne (ne_of_none z ho0), upd_ne (ne_of_none z ne)]
            exact k5 _ _ nb (kx' _ _ nb z)
          · rw [upd_ne npo, upd_ne (Ne.symm hep)]
            exact po5
          · rw [upd_ne neo, upd_same, map_eraseIdx]
          · rw [upd_same, List.map_append]
            rfl
          · rw [List.length_append, fl]
            rfl
          · exact v9'.perm (pick_perm hlt)
    · rintro σ G' ⟨y6, ls, fs, rfl, kx', po2, he', ho', fl, v9'⟩
      have hlen := v9'.len
      rw [List.length_append] at hlen
      have e0 : ls = [] := List.eq_nil_of_length_eq_zero (by omega)
      subst e0
      rw [List.append_nil] at v9'
      refine ⟨_, rfl, o, _, rfl, .inl ⟨SqL.of ho', fun l nl => ?_⟩⟩
      have sl := same_new (o := .tup (fs.map V.int)) nl
      exact q _ l fs (kx'.trans (.of_same sl)) (po2.same sl) (SqT.of upd_same) v9'
end
end KS
namespace KS
open PySem PySem.Spec PyProof.Rows L2 RZ
theorem cut56 {R : L2.St → Hp → Prop} {Pm : L2.St → Hp → Prop} {goal : Prop} (main : (∀ σ' H', Pm σ' H' → R σ' H') → goal) (fin : ∀ σ' H', Pm σ' H' → R σ' H') : goal := main fin
abbrev sRight : Stmt := topS 41
abbrev nRight : List Str := ["_law_pool_here", "_law_high", "_law_wide", "_law_some", "_law_low"]
theorem scRight : FnScope nRight ["_law_pool_here"] (defScope sRight) := ⟨rfl, rfl, rfl, by decide +kernel, rfl, by decide +kernel, by decide +kernel⟩
section
variable {P : Program} {w : World} {K : PySem.W.Frag} {mg : Str → Option Value} {base : Heap}
theorem ok_right56 {f fS fM fL : Addr} {fd fdS fdM fdL : FuncData} (F : Fun K "_law_right" "_law_right" sRight f fd)
    (GS : FnOk P w K mg base CX0 2 fS fdS ["_law_pool_here", "_law_most"] spSides) (bS : Binds K fdS ["_law_pool_here", "_law_most"] []) (gS : mg "_law_sides" = some (.ref fS)) (kS : PySem.W.keepIn K (.ref fS) = true)
    (GM : FnOk P w K mg base CX0 2 fM fdM ["_law_pool_here", "_law_size"] (spMixed K)) (bM : Binds K fdM ["_law_pool_here", "_law_size"] []) (gM : mg "_law_mixed" = some (.ref fM)) (kM : PySem.W.keepIn K (.ref fM) = true)
    (GL : FnOk P w K mg base CX0 8 fL fdL ["_law_high", "_law_wide", "_law_some", "_law_low"] (spLimR K)) (bL : Binds K fdL ["_law_high", "_law_wide", "_law_some", "_law_low"] []) (gL : mg "_law_limit_right" = some (.ref fL)) (kL : PySem.W.keepIn K (.ref fL) = true)
    (mx : mg "max" = none) (mn : mg "min" = none) (ma : mg "all" = none) (mr : mg "range" = none) : FnG P w K mg base 9 f fd ["_law_pool_here"] spRight := by
  refine okG F scRight (fun vs H Q E h => ?_) (fun cdv A outer s H vs Q E hr hgd h => ?_)
  · obtain ⟨p, rfl, _⟩ := h
    rfl
  · obtain ⟨p, rfl, po, q⟩ := h
    have nd := scRight.nd
    have hr2 : Room 2 _ := hr.mono (by omega)
    refine ⟨_, pss_cons (ps_asg (pe_call GS hr2 (by rfl) gS kS bS .nil pass0 (pa_cons (pv 0) (pa_cons pe_int pa_nil))) (pg_tup (by rfl) (pgs_cons (pg_name (i := 1) nd rfl (.inr rfl)) (pgs_cons (pg_name (i := 2) nd rfl (.inr rfl)) pgs_nil))))
      (pss_cons (ps_if (pt_cmpR op_gt (pe_callB (call_max2 rfl) (by rfl) mx (by decide +kernel) (pa_cons (pv 1) (pa_cons (pv 2) pa_nil))) pe_int (nomark _))
        (pss_one (ps_asg (pe_tup (pa_cons (pe_callB (call_min2 rfl) (by rfl) mn (by decide +kernel) (pa_cons (pv 1) (pa_cons pe_int pa_nil))) (pa_cons (pe_callB (call_min2 rfl) (by rfl) mn (by decide +kernel) (pa_cons (pv 2) (pa_cons pe_int pa_nil))) pa_nil)))
          (pg_tup (by rfl) (pgs_cons (pg_name (i := 1) nd rfl (.inr rfl)) (pgs_cons (pg_name (i := 2) nd rfl (.inr rfl)) pgs_nil))))) pss_nil)
      (pss_cons (ps_set (i := 3) nd rfl (.inr rfl) (pe_call GM hr2 (by rfl) gM kM bM .nil pass0 (pa_cons (pv 0) (pa_cons (pe_op op_mul (pv 1) (pv 2)) pa_nil))))
      (pss_one (ps_ret (pe_callB (cr_all rfl) (by rfl) ma (by decide +kernel) (pa_cons
        (pe_lc (own := [("_law_low", 4)]) (g := gName 4) (tt := tYes) rfl nd (pi_range1 (by rfl) mr (pa_cons (pe_op op_add (pe_op op_mul (pv 1) (pv 2)) pe_int) pa_nil)) (blkOk_by (N := nRight) (sc := defScope sRight) (by decide +kernel))
          (fun _ _ _ _ _ => pg_name (i := 4) nd rfl (Or.inl rfl)) (fun _ _ _ _ _ => pts_nil) (fun _ _ _ _ _ => pe_call GL hr (by rfl) gL kL bL .nil pass0 (pa_cons (pv 1) (pa_cons (pv 2) (pa_cons (pv 3) (pa_cons (pv 4) pa_nil)))))) pa_nil)))))), ?_⟩
    refine ⟨_, rfl, p, 24, rfl, po, by decide, by decide, fun H1 t1 r c k1 po1 ht1 sd _ => ?_⟩
    refine ⟨t1, _, rfl, SqT.of ht1, rfl, _, _, rfl, _, _, rfl, rfl, ?_⟩
    have l := sd.le
    have r1 := sd.r1
    have c1 := sd.c1
    have rc := sd.rc
    refine' cut56 (Pm := fun σ' H' => ∃ r' c' : Nat, σ' = [some (.ref p), some (.int (r' : Nat)), some (.int (c' : Nat)), none, none] ∧ Same H1 H' ∧ Sides8 r' c') (fun fin => ?_) ?_
    rotate_left
    · refine ⟨_, rfl, _, rfl, _, _, rfl, _, _, rfl, rfl, ?_⟩
      by_cases d : 8 < r ∨ 8 < c
      · refine ⟨true, bl_true (show (if (c : Int) > (r : Int) then (c : Int) else (r : Int)) > 8 by split <;> omega), ?_⟩
        refine ⟨_, rfl, _, _, rfl, _, rfl, _, _, rfl, by show 2 ≤ sizeLine; decide, fun t2 n2 => ?_⟩
        have s2 := same_new (o := .tup [.int (if (8 : Int) < (r : Int) then 8 else (r : Int)), .int (if (8 : Int) < (c : Int) then 8 else (c : Int))]) n2
        refine ⟨t2, _, rfl, SqT.of upd_same, rfl, _, _, rfl, _, _, rfl, rfl, ?_⟩
        have er : (if (8 : Int) < (r : Int) then 8 else (r : Int)) = ((min r 8 : Nat) : Int) := by split <;> omega
        have ec : (if (8 : Int) < (c : Int) then 8 else (c : Int)) = ((min c 8 : Nat) : Int) := by split <;> omega
        refine fin _ _ ⟨min r 8, min c 8, ?_, s2, ⟨⟨by omega, by omega, ?_⟩, by omega, by omega⟩⟩
        · show [some (V.ref p), some (V.int _), some (V.int _), none, none] = _
          rw [er, ec]
        · exact Nat.le_trans (Nat.mul_le_mul (Nat.min_le_left r 8) (Nat.min_le_left c 8)) rc
      · refine ⟨false, bl_false (show ¬ (if (c : Int) > (r : Int) then (c : Int) else (r : Int)) > 8 by split <;> omega), ?_⟩
        exact fin _ _ ⟨r, c, rfl, Same.refl _, ⟨sd, by omega, by omega⟩⟩
    · rintro σ' H2 ⟨r', c', rfl, s2, sd8⟩
      have po2 := PoolO.same s2 po1
      have kx2 := k1.trans (KeepX.of_same (p := p) s2)
      have l' := sd8.s.le
      have rc' := sd8.s.rc
      have em : ((r' : Int) * (c' : Int)) = ((r' * c' : Nat) : Int) := (Int.natCast_mul r' c').symm
      have hp1 : 1 ≤ r' * c' := Nat.mul_pos sd8.s.r1 sd8.s.c1
      refine ⟨_, rfl, _, rfl, _, rfl, _, _, rfl, rfl, .inl ⟨by omega, by omega⟩, p, r' * c', congrArg (fun z => [V.ref p, V.int z]) em, po2, hp1, rc', fun H3 t vs k3 po3 ht tb => ?_⟩
      have kx3 := kx2.trans k3
      refine ⟨_, rfl, _, rfl, _, _, rfl, rfl, .inl ⟨by omega, by omega⟩, _, _, rfl, rfl, _, rfl, by rw [em]; omega, by rw [em]; omega, fun D nD => ?_⟩
      rw [em]
      refine lc_range (lo := 0) (n := (((r' * c' : Nat) : Int) + 2).toNat) (fun j G => G D = some (.lst ((List.replicate j true).map V.bl)) ∧ (∀ b o, b ≠ D → H3 b = some o → G b = some o)) ?_ ?_ ?_
      · exact ⟨upd_same, fun b o n e => by rw [upd_ne n]; exact e⟩
      · rintro j G hj ⟨a1, a2⟩
        have sG : Same H3 G := fun b o e => a2 b o (ne_of_none e nD) e
        refine ⟨rfl, _, rfl, _, rfl, _, rfl, _, rfl, r', c', t, vs, _, rfl, sd8, same_seqT sG ht, tb, fun G1 s1 => ?_⟩
        refine ⟨_, s1 _ _ a1, ?_, ?_, fun b o n e => ?_⟩
        · rw [List.length_map, List.length_replicate]
          exact small64 (by omega)
        · rw [upd_same, List.replicate_succ', List.map_append]
          rfl
        · rw [upd_ne n]
          exact s1 _ _ (a2 b o n e)
      rintro G ⟨a1, a2⟩
      have sG : Same H3 G := fun b o e => a2 b o (ne_of_none e nD) e
      refine ⟨D, _, rfl, SqL.of a1, ?_⟩
      rw [show (List.replicate (((r' * c' : Nat) : Int) + 2).toNat true).all id = true by simp]
      exact q G (kx3.trans (.of_same sG))
end
end KS
namespace KS
open PySem PySem.Spec PyProof.Rows L2
/-! ### enumerate(z), z a text -/
def IteS (z : Str) : It where
  go := fun i _ => i < z.cps.size
  yld := fun i H v H' => ∃ (T : Addr) (c : Nat), v = .ref T ∧ H T = none ∧ z.cps[i]? = some c ∧ H' = upd H T (.tup [.int (i : Nat), .str ⟨#[c]⟩])
  stop := fun i _ => i = z.cps.size
def EnS (z : Str) (t : Tok) (e it : Addr) (i : Nat) (h : Heap) : Prop := (∃ old, IsEnum h e it ((i : Nat) : Int) old) ∧ h.IsStrIter it (strIterType z) z t i ∧ e ≠ it
theorem mem2 {b e it : Addr} (h : b ∈ [e, it]) : b = e ∨ b = it := by simpa using h
theorem strIter_at {h h' : Heap} {a : Addr} {ty : String} {x : Str} {t : Tok} {i : Nat} (y : h.IsStrIter a ty x t i) (k : ∀ o, h.get? a = some o → h'.get? a = some o) : h'.IsStrIter a ty x t i := by
  obtain ⟨o, ho, r⟩ := y
  exact ⟨o, k o ho, r⟩
theorem ens_obj {z : Str} {t : Tok} {e it b : Addr} {i : Nat} {h : Heap} (st : EnS z t e it i h) (hb : b ∈ [e, it]) : ∃ o, h.get? b = some o ∧ ∀ v, o.data ≠ .cell v := by
  obtain ⟨⟨old, q1⟩, ⟨o, q2, _, d⟩, _⟩ := st
  rcases mem2 hb with r | r <;> subst r
  · exact ⟨_, q1, fun v w => nomatch w⟩
  · exact ⟨o, q2, fun v w => by rw [d] at w; cases w⟩
theorem turn_enumS {P : Program} {w : World} {K : PySem.W.Frag} {elts : List Expr} {kk : Nat} {tpos : Pos} (z : Str) (t : Tok) (e it : Addr) : Turn P w K (.Tuple elts kk tpos) (IteS z) [e, it] e (EnS z t e it) where
  mem := List.mem_cons_self
  obj := fun i h st b hb => ens_obj st hb
  keep := fun i h h' st k => ⟨st.1.elim fun old q => ⟨old, k e (by simp) _ q⟩, strIter_at st.2.1 fun o q => k it (by simp) o q, st.2.2⟩
  self := fun A i s Q E st h => st.1.elim fun old q => wpAny_pyIter_enum q h
  item := by
    intro X hP hw hK hc i pins s σ H E I hf st hg
    subst hP hw hK
    have st0 := st
    obtain ⟨⟨old, q1⟩, q2, ne⟩ := st
    have hh : X.A.in1.handled = none := I.ok.hd hc
    have el : e < s.heap.objs.size := Heap.lt_size q1
    refine wpAny_pyNext_enum_itemD (Draws.text hh it z t) q1 q2 hg ne (by simp [ne]) fun u h1 tk hu ho hst hT sz kp => ?_
    obtain ⟨c, tu, hcx, rfl⟩ := hu
    refine ⟨_, rfl, wpAny_letOwnedTupleGo_enum (s := { s with heap := h1, toks := tk + 1 }) ho fun h2 e2 sb => ?_⟩
    have hT2 : h2.get? s.heap.objs.size = some { cls := .type "tuple", data := .seq #[.int i tk, .str ⟨#[c]⟩ tu] } := (sb.2 _ (Nat.ne_of_gt el)).trans hT
    have nw : ObjOk X.prog X.w (upd H s.heap.objs.size (.tup [.int (i : Nat), .str ⟨#[c]⟩])) h2 s.heap.objs.size (.tup [.int (i : Nat), .str ⟨#[c]⟩]) :=
      ⟨by show 2 ≤ sizeLine; decide, [.int i tk, .str ⟨#[c]⟩ tu], .cons ⟨_, rfl⟩ (.cons ⟨_, rfl⟩ .nil), ⟨_, hT2, rfl, _, rfl⟩⟩
    have I1 : Inv X pins σ (upd H s.heap.objs.size (.tup [.int (i : Nat), .str ⟨#[c]⟩])) { s with heap := h2, toks := tk + 1 } := by
      refine I.turnedNew (ch := [e, it]) (fun b o n q => ?_) hf (Nat.le_refl _) nw
      have n1 : b ≠ e := fun r => n (by simp [r])
      have n2 : b ≠ it := fun r => n (by simp [r])
      exact (sb.2 b n1).trans (kp b o n1 n2 q)
    refine ⟨.ref s.heap.objs.size, _, I1, rfl, ⟨_, c, rfl, I.hok.fresh (Nat.le_refl _), hcx, rfl⟩, ⟨⟨.str ⟨#[c]⟩ tu, ?_⟩, strIter_at hst fun o q => (sb.2 it (Ne.symm ne)).trans q, ne⟩, fun b hb => ?_⟩
    · have r : ((i + 1 : Nat) : Int) = (i : Int) + 1 := by omega
      rw [r]
      exact e2
    · obtain ⟨o, ho, _⟩ := ens_obj st0 hb
      rw [upd_ne (Nat.ne_of_lt (Heap.lt_size ho))]
      exact (hf b hb).1
  done := by
    intro X hP hw hK hc i pins s σ H E I hf st hg
    subst hP hw hK
    obtain ⟨⟨old, q1⟩, q2, ne⟩ := st
    have hh : X.A.in1.handled = none := I.ok.hd hc
    have hg' : i = z.cps.size := hg
    subst hg'
    obtain ⟨f0, f1, f2, f3, f4, f5⟩ := hf it (by simp)
    exact wpAny_pyNext_enum_endD (Draws.text hh it z t) q1 q2 fun h1 eb => ⟨rfl, I.turned (t' := s.toks) (fun b o hb q => eb b o hb q) f0 f1 f3 f4 f5⟩
def iEnumS (ta : TA) : TI := fun σ H R => ta σ H fun vs H1 => ∃ z, vs = [.str z] ∧ R (IteS z) H1
theorem pi_enumS {X : Cx} {e : Expr} {ta : TA} {p pos tpos : Pos} {elts : List Expr} {kk : Nat} (hg : Gl X "enumerate") (hm : X.mg "enumerate" = none) (ha : PA X [e] ta)
    (hs : starEach [e] X.env = [(false, eval e X.env)] := by rfl) : PI X (.Tuple elts kk tpos) (.Call (.Name "enumerate" p) [e] [] pos) (iEnumS ta) := by
  refine ⟨fun pins s σ H R I h => Call_ (ld_blt I hg hm boot_enumerate (PyProof.Rows.callWith_type1 (thn (ha.run pos pins s σ H _ I h) fun us s1 hh => ?_) hs rfl))⟩
  obtain ⟨vs, H1, I1, r1, z, ex, q⟩ := hh
  subst ex
  cases r1 with
  | cons r rr =>
    cases rr
    obtain ⟨t, rfl⟩ := r
    refine call_enumerate_str fun h1 he hit sz kp => wpAny_pyIter_enum he ?_
    have I2 : Inv X pins σ H1 { s1 with heap := h1 } := I1.kept (t' := s1.toks) kp
    refine ⟨s1.heap.objs.size + 1, [s1.heap.objs.size + 1, s1.heap.objs.size], _, _, H1, rfl, I2, turn_enumS z t (s1.heap.objs.size + 1) s1.heap.objs.size, ⟨⟨.none, he⟩, hit, Nat.succ_ne_self _⟩, fun b hb => ?_, q⟩
    have le : s1.heap.objs.size ≤ b := by
      rcases mem2 hb with r | r <;> rw [r]
      · exact Nat.le_succ _
      · exact Nat.le_refl _
    exact I1.fpOk le (I1.hok.fresh le)
theorem for_enumS {z : Str} {g : TG} {tb : TS} {D : Ends} {σ : L2.St} {H : Hp} (Pv : Nat → L2.St → Hp → Prop) (h0 : Pv 0 σ H)
    (hs : ∀ i c σ G T, z.cps[i]? = some c → Pv i σ G → G T = none → g (.ref T) σ (upd G T (.tup [.int (i : Nat), .str ⟨#[c]⟩])) fun σ2 G2 => tb { D with nx := Pv (i + 1), ct := Pv (i + 1), bk := D.nx } σ2 G2)
    (hd : ∀ σ G, Pv z.cps.size σ G → D.nx σ G) :
    ∃ W : Nat → Nat → L2.St → Hp → Prop, (∃ m, W 0 m σ H) ∧ ∀ i m σ H, W i m σ H → ((IteS z).stop i H ∧ D.nx σ H) ∨ ((IteS z).go i H ∧ ∃ N : L2.St → Hp → Prop, (∀ σ' H', N σ' H' → ∃ m', m' < m ∧ W (i + 1) m' σ' H') ∧
      ∀ v H', (IteS z).yld i H v H' → g v σ H' fun σ2 H2 => tb { D with nx := N, ct := N, bk := D.nx } σ2 H2) := by
  refine ⟨fun i m σ G => m + i = z.cps.size ∧ Pv i σ G, ⟨_, rfl, h0⟩, fun i m σ G hw => ?_⟩
  obtain ⟨hm, p⟩ := hw
  cases m with
  | zero =>
    have e : i = z.cps.size := by omega
    subst e
    exact .inl ⟨rfl, hd σ G p⟩
  | succ m =>
    refine .inr ⟨by show i < z.cps.size; omega, Pv (i + 1), fun σ' G' p' => ⟨m, Nat.lt_succ_self _, by omega, p'⟩, fun v G' y => ?_⟩
    obtain ⟨T, c, rfl, nT, hc, rfl⟩ := y
    exact hs i c σ G T hc p nT
end KS
namespace KS
open PySem PySem.Spec PyProof.Rows L2 RZ
abbrev sCheckL : Stmt := topS 29
abbrev sCheckW : Stmt := topS 30
abbrev sAfterP : Stmt := topS 32
theorem scCheckL : FnScope ["word", "letters", "index", "letter"] ["word", "letters"] (defScope sCheckL) := ⟨rfl, rfl, rfl, by decide +kernel, rfl, by decide +kernel, by decide +kernel⟩
theorem scCheckW : FnScope ["word"] ["word"] (defScope sCheckW) := ⟨rfl, rfl, rfl, by decide +kernel, rfl, by decide +kernel, by decide +kernel⟩
theorem scAfterP : FnScope ["plan", "filling", "word", "groups", "result", "letter"] ["plan", "filling", "word"] (defScope sAfterP) := ⟨rfl, rfl, rfl, by decide +kernel, rfl, by decide +kernel, by decide +kernel⟩
def spCheckL : Sp := fun vs H Q _ => ∃ wd : List Bool, vs = [.str (wS wd), .str "RC"] ∧ wd.length ≤ 400 ∧ ∀ H', Same H H' → Q .non H'
def spCheckW : Sp := fun vs H Q _ => ∃ wd : List Bool, vs = [.str (wS wd)] ∧ wd.length ≤ 400 ∧ ∀ H', Same H H' → Q .non H'
section
variable {P : Program} {w : World} {K : PySem.W.Frag} {mg : Str → Option Value} {base : Heap}
theorem ok_checkL {f : Addr} {fd : FuncData} {tk : Tok} (F : Fun K "check_letters" "check_letters" sCheckL f fd) (mi : mg "isinstance" = none) (mS : mg "str" = none) (ml : mg "len" = none) (me : mg "enumerate" = none) (mM : mg "MOST_LETTERS" = some (.int 400 tk)) :
    FnOk P w K mg base CX0 1 f fd ["word", "letters"] spCheckL := by
  refine F.ok scCheckL (fun vs H Q E h => ?_) (fun cdv A outer s H vs Q E hr h => ?_)
  · obtain ⟨wd, rfl, _⟩ := h
    rfl
  · obtain ⟨wd, rfl, hl, q⟩ := h
    have nd := scCheckL.nd
    refine ⟨_, pss_cons (ps_if (PW.pt (pw_or (pt_not (pt_val (pe_callB call_isi (by rfl) mi (by decide +kernel) (pa_cons (pv 0) (pa_cons (pe_bltn (v := .ty "str") (by rfl) mS (by decide +kernel) rfl) pa_nil)))))
          (pw_or1 (pt_cmpR op_gt (pe_callB call_len_str (by rfl) ml PySem.boot_len (pa_cons (pv 0) pa_nil)) (pe_glob (v := .int 400) (by rfl) mM ⟨_, rfl⟩) (nomark _)))))
        (pss_one ps_never) pss_nil)
      (pss_one (ps_for PassesOwn.never rfl (pi_enumS (by rfl) me (pa_cons (pv 0) pa_nil)) (pg_tup (by rfl) (pgs_cons (pg_name (i := 2) nd rfl (.inl rfl)) (pgs_cons (pg_name (i := 3) nd rfl (.inl rfl)) pgs_nil)))
        (pss_one (ps_if (pt_cmpR op_notIn_sign (pv 3) (pv 1) (by rfl)) (pss_one ps_never) pss_nil)))), ?_⟩
    have hw := wS_len wd
    refine ⟨_, rfl, _, _, _, _, true, rfl, .ty "str", .base (.str _), kit_ty (by decide +kernel), true, rfl, ?_⟩
    refine ⟨_, rfl, _, rfl, by rw [hw, sizeLine_eq]; omega, _, _, rfl, rfl, false, bl_false (by rw [hw]; omega), ?_⟩
    refine ⟨_, rfl, _, rfl, for_enumS (fun i σ H' => Same H H' ∧ ∃ y1 y2, σ = [some (.str (wS wd)), some (.str "RC"), y1, y2]) ?_ ?_ ?_⟩
    · exact ⟨Same.refl _, none, none, rfl⟩
    · rintro i c σ H' T hi ⟨sm, y1, y2, rfl⟩ nT
      obtain ⟨b, hb, rfl⟩ := wS_at hi
      have sT := same_new (o := .tup [.int (i : Nat), .str ⟨#[ltr b]⟩]) nT
      refine ⟨T, _, rfl, SqT.of upd_same, rfl, _, _, rfl, _, _, rfl, rfl, ?_⟩
      refine ⟨_, rfl, _, rfl, _, _, rfl, rfl, false, ?_, ?_⟩
      · cases b <;> decide +kernel
      · exact ⟨sm.trans sT, _, _, rfl⟩
    · rintro σ H' ⟨sm, _⟩
      exact q H' sm
theorem ok_checkW {f fL : Addr} {fd fdL : FuncData} (F : Fun K "check_word" "check_word" sCheckW f fd) (GL : FnOk P w K mg base CX0 1 fL fdL ["word", "letters"] spCheckL) (bL : Binds K fdL ["word", "letters"] []) (gL : mg "check_letters" = some (.ref fL)) (kL : PySem.W.keepIn K (.ref fL) = true) :
    FnOk P w K mg base CX0 2 f fd ["word"] spCheckW := by
  refine F.ok scCheckW (fun vs H Q E h => ?_) (fun cdv A outer s H vs Q E hr h => ?_)
  · obtain ⟨wd, rfl, _⟩ := h
    rfl
  · obtain ⟨wd, rfl, hl, q⟩ := h
    refine ⟨_, pss_one (ps_expr (pe_call GL hr (by rfl) gL kL bL .nil pass0 (pa_cons (pv 0) (pa_cons pe_str pa_nil)))), ?_⟩
    exact ⟨_, rfl, wd, rfl, hl, q⟩
theorem ok_afterP {f fC fF fL fA fW : Addr} {fd fdC fdF fdL fdA fdW : FuncData} (F : Fun K "after" "after" sAfterP f fd)
    (GC : FnOk P w K mg base CX0 5 fC fdC ["plan"] (spCheck K)) (bC : Binds K fdC ["plan"] []) (gC : mg "check_plan" = some (.ref fC)) (kC : PySem.W.keepIn K (.ref fC) = true)
    (GF : FnOk P w K mg base CX0 4 fF fdF ["size", "filling"] (spCheckF K)) (bF : Binds K fdF ["size", "filling"] []) (gF : mg "check_filling" = some (.ref fF)) (kF : PySem.W.keepIn K (.ref fF) = true)
    (GW : FnOk P w K mg base CX0 2 fW fdW ["word"] spCheckW) (bW : Binds K fdW ["word"] []) (gW : mg "check_word" = some (.ref fW)) (kW : PySem.W.keepIn K (.ref fW) = true)
    (GL : FnOk P w K mg base CX0 6 fL fdL ["plan", "kind"] (spLines K)) (bL : Binds K fdL ["plan", "kind"] []) (gL : mg "lines" = some (.ref fL)) (kL : PySem.W.keepIn K (.ref fL) = true)
    (GA : FnOk P w K mg base CX0 1 fA fdA ["groups", "filling"] (spAlong K)) (bA : Binds K fdA ["groups", "filling"] []) (gA : mg "sorted_along" = some (.ref fA)) (kA : PySem.W.keepIn K (.ref fA) = true)
    (ml : mg "len" = none) : FnOk P w K mg base CX0 7 f fd ["plan", "filling", "word"] (spAfterP K) := by
  refine F.ok scAfterP (fun vs H Q E h => ?_) (fun cdv A outer s H vs Q E hr h => ?_)
  · obtain ⟨a, t, b, cs, vs, rfl, _⟩ := h
    rfl
  · obtain ⟨a, t, wd, cs, vs, rfl, hp, gd, hl, ht, v9, hw, q⟩ := h
    have nd := scAfterP.nd
    refine ⟨_, pss_cons (ps_expr (pe_call GC (hr.mono (by decide)) (by rfl) gC kC bC .nil pass0 (pa_cons (pv 0) pa_nil)))
      (pss_cons (ps_expr (pe_call GF (hr.mono (by decide)) (by rfl) gF kF bF .nil pass0 (pa_cons (pe_callB call_len_seq (by rfl) ml PySem.boot_len (pa_cons (pv 0) pa_nil)) (pa_cons (pv 1) pa_nil))))
      (pss_cons (ps_expr (pe_call GW (hr.mono (by decide)) (by rfl) gW kW bW .nil pass0 (pa_cons (pv 2) pa_nil)))
      (pss_cons (ps_set (i := 3) nd rfl (.inl rfl) (pe_disp (pps_cons pe_str (pe_call GL hr (by rfl) gL kL bL .nil pass0 (pa_cons (pv 0) (pa_cons pe_str pa_nil))) (pps_cons pe_str (pe_call GL hr (by rfl) gL kL bL .nil pass0 (pa_cons (pv 0) (pa_cons pe_str pa_nil))) pps_nil))
          (by rfl) (by rfl) (fun z => by cases z) (by decide)))
      (pss_cons (ps_set (i := 4) nd rfl (.inl rfl) (pv 1))
      (pss_cons (ps_for PassesOwn.never rfl (pi_str (pv 2)) (pg_name (i := 5) nd rfl (.inl rfl))
        (pss_one (ps_set (i := 4) nd rfl (.inl rfl) (pe_call GA (hr.mono (by decide)) (by rfl) gA kA bA .nil pass0 (pa_cons (pe_dget (hu_of hr) (pv 3) (pv 5) (fun _ _ => rfl)) (pa_cons (pv 4) pa_nil))))))
      (pss_one (ps_ret (pv 4)))))))), ?_⟩
    obtain ⟨xs, hx, hc⟩ := id hp
    have hlen := Paired.length hc
    refine ⟨_, rfl, a, cs, rfl, hp, gd, hl, fun H1 s1 => ?_⟩
    refine ⟨_, rfl, a, xs, rfl, .inr (same_seqT s1 hx), _, rfl, xs.length, t, vs, rfl, same_seqT s1 ht, by rw [hlen]; exact v9, by omega, fun H2 s2 => ?_⟩
    refine ⟨_, rfl, wd, rfl, hw, fun H3 s3 => ?_⟩
    have s13 := (s1.trans s2).trans s3
    intro d nd0
    have sd := s13.trans (same_new (o := .dK []) nd0)
    refine ⟨_, rfl, a, false, cs, rfl, hp.kt (.of_same sd), gd, hl, fun H4 pR yR s4 hR hyR => ?_⟩
    refine ⟨_, rfl, a, true, cs, rfl, hp.kt (.of_same (sd.trans s4)), gd, hl, fun H5 pC yC s5 hC hyC => ?_⟩
    have hd5 : H5 d = some (.dK []) := s5 _ _ (s4 _ _ upd_same)
    refine ⟨hd5, [(.inr "R", .ref pR), (.inr "C", .ref pC)], rfl, by show 2 ≤ 15; decide, ?_⟩
    have kd : KT K H5 (upd H5 d (.dK (mergeK [] [(.inr "R", .ref pR), (.inr "C", .ref pC)]))) := fun x ys z => by
      rcases z with (z | ⟨ob, z⟩) | z
      · exact .inl (.inl (by rw [upd_ne (ne_of z hd5 (by intro y; cases y))]; exact z))
      · exact .inl (.inr ⟨ob, by rw [upd_ne (ne_of z hd5 (by intro y; cases y))]; exact z⟩)
      · exact .inr z
    have hR6 : SqT K (upd H5 d (.dK (mergeK [] [(.inr "R", .ref pR), (.inr "C", .ref pC)]))) pR yR := kd _ _ (same_seqT s5 hR)
    have hyR6 := tupI_kt kd (tupI_kt (.of_same s5) hyR)
    have hC6 := kd _ _ hC
    have hyC6 := tupI_kt kd hyC
    have ht6 := kd _ _ (same_seqT ((sd.trans s4).trans s5) ht)
    have s6 : Same H (upd H5 d (.dK (mergeK [] [(.inr "R", .ref pR), (.inr "C", .ref pC)]))) := fun c u e => by
      have e3 := s13 c u e
      rw [upd_ne (ne_of_none e3 nd0)]
      exact s5 _ _ (s4 _ _ (same_new nd0 _ _ e3))
    have hd6 : upd H5 d (.dK (mergeK [] [(.inr "R", .ref pR), (.inr "C", .ref pC)])) d = some (.dK (mergeK [] [(.inr "R", .ref pR), (.inr "C", .ref pC)])) := upd_same
    generalize upd H5 d (.dK (mergeK [] [(.inr "R", .ref pR), (.inr "C", .ref pC)])) = H6 at hR6 hyR6 hC6 hyC6 ht6 s6 hd6
    refine ⟨_, rfl, ?_⟩
    refine ⟨_, rfl, _, rfl, for_it walk_str (fun i σ H' => ∃ (u : Addr) (y5 : Option V), σ = [some (.ref a), some (.ref t), some (.str (wS wd)), some (.ref d), some (.ref u), y5] ∧ Same H6 H' ∧ SqT K H' u ((aft cs (wd.take i) vs).map V.int)) ?_ ?_ ?_ ?_⟩
    · exact ⟨t, none, rfl, Same.refl _, ht6⟩
    · intros
      trivial
    · rintro i x σ H' H'' hi ⟨u, y5, rfl, sm, hu⟩ ⟨rfl, c, hcc, rfl⟩
      obtain ⟨b, hb, rfl⟩ := wS_at hcc
      rw [ltr_str]
      obtain ⟨pg, yg, hv, hg, hyg⟩ : ∃ pg yg, valV (mergeK [] [(.inr "R", .ref pR), (.inr "C", .ref pC)]) (.inr (if b = true then "C" else "R")) = some (.ref pg) ∧ SqT K H'' pg yg ∧ Paired (TupI K H'') yg (lnsOf b cs) := by
        cases b
        · exact ⟨pR, yR, by rfl, same_seqT sm hR6, tupI_kt (.of_same sm) hyR6⟩
        · exact ⟨pC, yC, by rfl, same_seqT sm hC6, tupI_kt (.of_same sm) hyC6⟩
      have al : (aft cs (wd.take i) vs).length = cs.length := by rw [aft_len, v9.len]
      refine ⟨_, rfl, _, rfl, d, .ref pg, rfl, .inl ⟨_, .inr (if b = true then "C" else "R"), Rd.of (sm _ _ hd6), rfl, hv.symm⟩, _, rfl, pg, u, yg, _, _, rfl, hg, hyg, lns_ok hl al, hu, fun G u' sG hu' _ => ?_⟩
      refine ⟨u', _, rfl, sm.trans sG, ?_⟩
      rw [List.take_add_one, hb]
      show SqT K G u' ((aft cs (wd.take i ++ [b]) vs).map V.int)
      rw [aft_more]
      exact hu'
    · rintro σ H' ⟨u, y5, rfl, sm, hu⟩
      have e : wd.take (wS wd).cps.size = wd := List.take_of_length_le (by
        have := wS_len wd
        show wd.length ≤ (wS wd).length
        omega)
      rw [e] at hu
      exact ⟨_, rfl, q H' u (s6.trans sm) hu⟩
end
end KS
namespace KS
open PySem PySem.Spec PyProof.Rows L2
abbrev sLaw : Stmt := topS 42
abbrev nLaw : List Str := ["_law_script", "_law_k"]
theorem scLaw : FnScope nLaw ["_law_script"] (defScope sLaw) := ⟨rfl, rfl, rfl, by decide +kernel, rfl, by decide +kernel, by decide +kernel⟩
section
variable {P : Program} {w : World} {K : PySem.W.Frag} {mg : Str → Option Value} {base : Heap}
theorem ok_law5 {f fC fP fR : Addr} {fd fdC fdP fdR : FuncData} (F : Fun K "law" "law" sLaw f fd)
    (GC : FnOk P w K mg base CX0 1 fC fdC ["_law_script", "_law_k"] (spCell K)) (bC : Binds K fdC ["_law_script", "_law_k"] []) (gC : mg "_law_cell" = some (.ref fC)) (kC : PySem.W.keepIn K (.ref fC) = true)
    (GP : FnOk P w K mg base CX0 1 fP fdP ["_law_item"] spPool) (bP : Binds K fdP ["_law_item"] []) (gP : mg "_law_pool" = some (.ref fP)) (kP : PySem.W.keepIn K (.ref fP) = true)
    {nR : Nat} (GR : FnG P w K mg base (nR + 1) fR fdR ["_law_pool_here"] spRight) (bR : Binds K fdR ["_law_pool_here"] []) (gR : mg "_law_right" = some (.ref fR)) (kR : PySem.W.keepIn K (.ref fR) = true)
    (ma : mg "all" = none) (mr : mg "range" = none) (mx : mg "max" = none) (mn : mg "min" = none) (ml : mg "len" = none) : FnG P w K mg base (nR + 2) f fd ["_law_script"] (spLaw K) := by
  refine okG F scLaw (fun vs H Q E h => ?_) (fun cdv A outer s H vs Q E hr hgd h => ?_)
  · obtain ⟨a, ns, rfl, _⟩ := h
    rfl
  · obtain ⟨a, ns, rfl, hS, hl, q⟩ := h
    have nd := scLaw.nd
    have hr1 : Room 1 _ := hr.mono (by omega)
    refine ⟨_, pss_one (ps_ret (pe_callB (cr_all rfl) (by rfl) ma (by decide +kernel) (pa_cons
      (pe_lc (own := [("_law_k", 1)]) (g := gName 1) (tt := tYes) rfl nd (pi_range1 (by rfl) mr (pa_cons (pe_callB (call_max2 rfl) (by rfl) mx (by decide +kernel) (pa_cons pe_int (pa_cons (pe_callB (call_min2 rfl) (by rfl) mn (by decide +kernel)
          (pa_cons (pe_callB call_len_seq (by rfl) ml PySem.boot_len (pa_cons (pv 0) pa_nil)) (pa_cons pe_int pa_nil))) pa_nil))) pa_nil)) (blkOk_by (N := nLaw) (sc := defScope sLaw) (by decide +kernel))
        (fun _ _ _ _ _ => pg_name (i := 1) nd rfl (Or.inl rfl)) (fun _ _ _ _ _ => pts_nil)
        (fun _ _ _ _ _ => pe_callG GR hr hgd (by rfl) gR kR bR (pa_cons (pe_call GP hr1 (by rfl) gP kP bP .nil pass0 (pa_cons (pe_call GC hr1 (by rfl) gC kC bC .nil pass0 (pa_cons (pv 0) (pa_cons (pv 1) pa_nil))) pa_nil)) pa_nil))) pa_nil))), ?_⟩
    refine ⟨_, rfl, a, _, rfl, .inl hS, _, _, rfl, _, _, rfl, _, rfl, ?_, ?_, fun D nD => ?_⟩
    · split <;> split <;> omega
    · split <;> split <;> omega
    generalize hN : (if (if (5 : Int) < ((ns.map V.int).length : Int) then (5 : Int) else ((ns.map V.int).length : Int)) > 2 then (if (5 : Int) < ((ns.map V.int).length : Int) then (5 : Int) else ((ns.map V.int).length : Int)) else 2) = N
    have hNb : 0 ≤ N ∧ N ≤ 5 := by
      rw [← hN]
      split <;> split <;> omega
    refine lc_range (lo := 0) (n := N.toNat) (fun i H' => H' D = some (.lst ((List.replicate i true).map V.bl)) ∧ (∀ b o, b ≠ D → H b = some o → H' b = some o)) ?_ ?_ ?_
    · exact ⟨upd_same, fun b o n e => by rw [upd_ne n]; exact e⟩
    · rintro i H' hi ⟨a1, a2⟩
      have sD : Same H H' := fun b o e => a2 b o (ne_of_none e nD) e
      refine ⟨rfl, _, rfl, _, rfl, a, ns, i, by
        show [V.ref a, V.int (0 + (i : Int))] = _
        rw [Int.zero_add], sD.seq hS, by omega, fun H1 n s1 => ⟨n, rfl, fun H2 p s2 np po => ⟨p, rfl, po, fun H3 kx => ?_⟩⟩⟩
      have nDp : D ≠ p := ne_of_none (s1 _ _ a1) np
      have s12 := s1.trans s2
      refine ⟨_, kx _ _ nDp (s12 _ _ a1), ?_, ?_, fun b o n e => ?_⟩
      · rw [List.length_map, List.length_replicate]
        exact small64 (by omega)
      · rw [upd_same, List.replicate_succ', List.map_append]
        rfl
      · rw [upd_ne n]
        have e1 := a2 b o n e
        exact kx _ _ (ne_of_none (s1 _ _ e1) np) (s12 _ _ e1)
    · rintro H' ⟨a1, a2⟩
      refine ⟨D, _, rfl, SqL.of a1, ?_⟩
      rw [show (List.replicate N.toNat true).all id = true by simp]
      exact q H'
end
end KS
namespace KS
open PySem PySem.Spec PyProof.Rows L2
-- topS
theorem all_mk {l : PySem.W.OpenLaw} {w : World} {K : PySem.W.Frag} {h : Heap} {mg : Str → Option Value} {fa f0 f1 f2 f3 f4 f5 f6 f7 f8 f9 f10 f11 f12 f13 f14 f15 f16 f17 f18 f19 f20 f21 f22 f23 f24 f25 : Addr} (X : K.In h) (G : h.Ns mainGlobals mg) (hfa : mg "law" = some (.ref fa))
    {od0 an0 od1 an1 od2 an2 od3 an3 od4 an4 od5 an5 od6 an6 od7 an7 od8 an8 od9 an9 od10 an10 od11 an11 od12 an12 od13 an13 od14 an14 od15 an15 od16 an16 od17 an17 od18 an18 od19 an19 od20 an20 od21 an21 od22 an22 od23 an23 od24 an24 od25 an25 : Option Addr} {sl0 sl1 sl2 sl3 sl4 sl5 sl6 sl7 sl8 sl9 sl10 sl11 sl12 sl13 sl14 sl15 sl16 sl17 sl18 sl19 sl20 sl21 sl22 sl23 sl24 sl25 : Array (Option Value)}
    {oc0 kV0 dc0 pm0 cd0 ct0 oc1 kV1 dc1 pm1 cd1 ct1 oc2 kV2 dc2 pm2 cd2 ct2 oc3 kV3 dc3 pm3 cd3 ct3 oc4 kV4 dc4 pm4 cd4 ct4 oc5 kV5 dc5 pm5 cd5 ct5 oc6 kV6 dc6 pm6 cd6 ct6 oc7 kV7 dc7 pm7 cd7 ct7 oc8 kV8 dc8 pm8 cd8 ct8 oc9 kV9 dc9 pm9 cd9 ct9 oc10 kV10 dc10 pm10 cd10 ct10 oc11 kV11 dc11 pm11 cd11 ct11 oc12 kV12 dc12 pm12 cd12 ct12 oc13 kV13 dc13 pm13 cd13 ct13 oc14 kV14 dc14 pm14 cd14 ct14 oc15 kV15 dc15 pm15 cd15 ct15 oc16 kV16 dc16 pm16 cd16 ct16 oc17 kV17 dc17 pm17 cd17 ct17 oc18 kV18 dc18 pm18 cd18 ct18 oc19 kV19 dc19 pm19 cd19 ct19 oc20 kV20 dc20 pm20 cd20 ct20 oc21 kV21 dc21 pm21 cd21 ct21 oc22 kV22 dc22 pm22 cd22 ct22 oc23 kV23 dc23 pm23 cd23 ct23 oc24 kV24 dc24 pm24 cd24 ct24 oc25 kV25 dc25 pm25 cd25 ct25 : Value} {tk0 tk1 tk2 tk3 : Tok}
    (a0 : PySem.W.nsIn K mainGlobals "is_whole" = some (some (.ref f0)))
    (l0 : K.lookup f0 = some ⟨oc0, od0, .func (PySem.W.fnOf "is_whole" "is_whole" (defArgs sWhole) (defBody sWhole) (defScope sWhole) .none kV0 dc0 pm0 an0 cd0 ct0), sl0⟩)
    (c0 : PySem.W.codeIn K cd0 "is_whole" = true) (k0 : PySem.W.keepIn K (.ref f0) = true)
    (a1 : PySem.W.nsIn K mainGlobals "is_between" = some (some (.ref f1)))
    (l1 : K.lookup f1 = some ⟨oc1, od1, .func (PySem.W.fnOf "is_between" "is_between" (defArgs sBetween) (defBody sBetween) (defScope sBetween) .none kV1 dc1 pm1 an1 cd1 ct1), sl1⟩)
    (c1 : PySem.W.codeIn K cd1 "is_between" = true) (k1 : PySem.W.keepIn K (.ref f1) = true)
    (a2 : PySem.W.nsIn K mainGlobals "is_place" = some (some (.ref f2)))
    (l2 : K.lookup f2 = some ⟨oc2, od2, .func (PySem.W.fnOf "is_place" "is_place" (defArgs sPlace) (defBody sPlace) (defScope sPlace) .none kV2 dc2 pm2 an2 cd2 ct2), sl2⟩)
    (c2 : PySem.W.codeIn K cd2 "is_place" = true) (k2 : PySem.W.keepIn K (.ref f2) = true)
    (a3 : PySem.W.nsIn K mainGlobals "is_cell" = some (some (.ref f3)))
    (l3 : K.lookup f3 = some ⟨oc3, od3, .func (PySem.W.fnOf "is_cell" "is_cell" (defArgs sIsCell) (defBody sIsCell) (defScope sIsCell) .none kV3 dc3 pm3 an3 cd3 ct3), sl3⟩)
    (c3 : PySem.W.codeIn K cd3 "is_cell" = true) (k3 : PySem.W.keepIn K (.ref f3) = true)
    (a4 : PySem.W.nsIn K mainGlobals "check_plan" = some (some (.ref f4)))
    (l4 : K.lookup f4 = some ⟨oc4, od4, .func (PySem.W.fnOf "check_plan" "check_plan" (defArgs sCheck) (defBody sCheck) (defScope sCheck) .none kV4 dc4 pm4 an4 cd4 ct4), sl4⟩)
    (c4 : PySem.W.codeIn K cd4 "check_plan" = true) (k4 : PySem.W.keepIn K (.ref f4) = true)
    (a5 : PySem.W.nsIn K mainGlobals "is_kind" = some (some (.ref f5)))
    (l5 : K.lookup f5 = some ⟨oc5, od5, .func (PySem.W.fnOf "is_kind" "is_kind" (defArgs sIsKind) (defBody sIsKind) (defScope sIsKind) .none kV5 dc5 pm5 an5 cd5 ct5), sl5⟩)
    (c5 : PySem.W.codeIn K cd5 "is_kind" = true) (k5 : PySem.W.keepIn K (.ref f5) = true)
    (a6 : PySem.W.nsIn K mainGlobals "check_kind" = some (some (.ref f6)))
    (l6 : K.lookup f6 = some ⟨oc6, od6, .func (PySem.W.fnOf "check_kind" "check_kind" (defArgs sKind) (defBody sKind) (defScope sKind) .none kV6 dc6 pm6 an6 cd6 ct6), sl6⟩)
    (c6 : PySem.W.codeIn K cd6 "check_kind" = true) (k6 : PySem.W.keepIn K (.ref f6) = true)
    (a7 : PySem.W.nsIn K mainGlobals "lines" = some (some (.ref f7)))
    (l7 : K.lookup f7 = some ⟨oc7, od7, .func (PySem.W.fnOf "lines" "lines" (defArgs sLines) (defBody sLines) (defScope sLines) .none kV7 dc7 pm7 an7 cd7 ct7), sl7⟩)
    (c7 : PySem.W.codeIn K cd7 "lines" = true) (k7 : PySem.W.keepIn K (.ref f7) = true)
    (a8 : PySem.W.nsIn K mainGlobals "first_fault" = some (some (.ref f8)))
    (l8 : K.lookup f8 = some ⟨oc8, od8, .func (PySem.W.fnOf "first_fault" "first_fault" (defArgs sFF) (defBody sFF) (defScope sFF) .none kV8 dc8 pm8 an8 cd8 ct8), sl8⟩)
    (c8 : PySem.W.codeIn K cd8 "first_fault" = true) (k8 : PySem.W.keepIn K (.ref f8) = true)
    (a9 : PySem.W.nsIn K mainGlobals "check_filling" = some (some (.ref f9)))
    (l9 : K.lookup f9 = some ⟨oc9, od9, .func (PySem.W.fnOf "check_filling" "check_filling" (defArgs sCheckF) (defBody sCheckF) (defScope sCheckF) .none kV9 dc9 pm9 an9 cd9 ct9), sl9⟩)
    (c9 : PySem.W.codeIn K cd9 "check_filling" = true) (k9 : PySem.W.keepIn K (.ref f9) = true)
    (a10 : PySem.W.nsIn K mainGlobals "check_rectangle" = some (some (.ref f10)))
    (l10 : K.lookup f10 = some ⟨oc10, od10, .func (PySem.W.fnOf "check_rectangle" "check_rectangle" (defArgs sRcOk) (defBody sRcOk) (defScope sRcOk) .none kV10 dc10 pm10 an10 cd10 ct10), sl10⟩)
    (c10 : PySem.W.codeIn K cd10 "check_rectangle" = true) (k10 : PySem.W.keepIn K (.ref f10) = true)
    (a11 : PySem.W.nsIn K mainGlobals "check_table" = some (some (.ref f11)))
    (l11 : K.lookup f11 = some ⟨oc11, od11, .func (PySem.W.fnOf "check_table" "check_table" (defArgs sTabOk) (defBody sTabOk) (defScope sTabOk) .none kV11 dc11 pm11 an11 cd11 ct11), sl11⟩)
    (c11 : PySem.W.codeIn K cd11 "check_table" = true) (k11 : PySem.W.keepIn K (.ref f11) = true)
    (a12 : PySem.W.nsIn K mainGlobals "in_last_rows" = some (some (.ref f12)))
    (l12 : K.lookup f12 = some ⟨oc12, od12, .func (PySem.W.fnOf "in_last_rows" "in_last_rows" (defArgs sLast) (defBody sLast) (defScope sLast) .none kV12 dc12 pm12 an12 cd12 ct12), sl12⟩)
    (c12 : PySem.W.codeIn K cd12 "in_last_rows" = true) (k12 : PySem.W.keepIn K (.ref f12) = true)
    (a13 : PySem.W.nsIn K mainGlobals "check_letters" = some (some (.ref f13)))
    (l13 : K.lookup f13 = some ⟨oc13, od13, .func (PySem.W.fnOf "check_letters" "check_letters" (defArgs sCheckL) (defBody sCheckL) (defScope sCheckL) .none kV13 dc13 pm13 an13 cd13 ct13), sl13⟩)
    (c13 : PySem.W.codeIn K cd13 "check_letters" = true) (k13 : PySem.W.keepIn K (.ref f13) = true)
    (a14 : PySem.W.nsIn K mainGlobals "check_word" = some (some (.ref f14)))
    (l14 : K.lookup f14 = some ⟨oc14, od14, .func (PySem.W.fnOf "check_word" "check_word" (defArgs sCheckW) (defBody sCheckW) (defScope sCheckW) .none kV14 dc14 pm14 an14 cd14 ct14), sl14⟩)
    (c14 : PySem.W.codeIn K cd14 "check_word" = true) (k14 : PySem.W.keepIn K (.ref f14) = true)
    (a15 : PySem.W.nsIn K mainGlobals "sorted_along" = some (some (.ref f15)))
    (l15 : K.lookup f15 = some ⟨oc15, od15, .func (PySem.W.fnOf "sorted_along" "sorted_along" (defArgs sAlong) (defBody sAlong) (defScope sAlong) .none kV15 dc15 pm15 an15 cd15 ct15), sl15⟩)
    (c15 : PySem.W.codeIn K cd15 "sorted_along" = true) (k15 : PySem.W.keepIn K (.ref f15) = true)
    (a16 : PySem.W.nsIn K mainGlobals "after" = some (some (.ref f16)))
    (l16 : K.lookup f16 = some ⟨oc16, od16, .func (PySem.W.fnOf "after" "after" (defArgs sAfterP) (defBody sAfterP) (defScope sAfterP) .none kV16 dc16 pm16 an16 cd16 ct16), sl16⟩)
    (c16 : PySem.W.codeIn K cd16 "after" = true) (k16 : PySem.W.keepIn K (.ref f16) = true)
    (a17 : PySem.W.nsIn K mainGlobals "_law_cell" = some (some (.ref f17)))
    (l17 : K.lookup f17 = some ⟨oc17, od17, .func (PySem.W.fnOf "_law_cell" "_law_cell" (defArgs sCell) (defBody sCell) (defScope sCell) .none kV17 dc17 pm17 an17 cd17 ct17), sl17⟩)
    (c17 : PySem.W.codeIn K cd17 "_law_cell" = true) (k17 : PySem.W.keepIn K (.ref f17) = true)
    (a18 : PySem.W.nsIn K mainGlobals "_law_pool" = some (some (.ref f18)))
    (l18 : K.lookup f18 = some ⟨oc18, od18, .func (PySem.W.fnOf "_law_pool" "_law_pool" (defArgs sPool) (defBody sPool) (defScope sPool) .none kV18 dc18 pm18 an18 cd18 ct18), sl18⟩)
    (c18 : PySem.W.codeIn K cd18 "_law_pool" = true) (k18 : PySem.W.keepIn K (.ref f18) = true)
    (a19 : PySem.W.nsIn K mainGlobals "_law_draw" = some (some (.ref f19)))
    (l19 : K.lookup f19 = some ⟨oc19, od19, .func (PySem.W.fnOf "_law_draw" "_law_draw" (defArgs sDraw) (defBody sDraw) (defScope sDraw) .none kV19 dc19 pm19 an19 cd19 ct19), sl19⟩)
    (c19 : PySem.W.codeIn K cd19 "_law_draw" = true) (k19 : PySem.W.keepIn K (.ref f19) = true)
    (a20 : PySem.W.nsIn K mainGlobals "_law_sides" = some (some (.ref f20)))
    (l20 : K.lookup f20 = some ⟨oc20, od20, .func (PySem.W.fnOf "_law_sides" "_law_sides" (defArgs sSides) (defBody sSides) (defScope sSides) .none kV20 dc20 pm20 an20 cd20 ct20), sl20⟩)
    (c20 : PySem.W.codeIn K cd20 "_law_sides" = true) (k20 : PySem.W.keepIn K (.ref f20) = true)
    (a21 : PySem.W.nsIn K mainGlobals "_law_mixed" = some (some (.ref f21)))
    (l21 : K.lookup f21 = some ⟨oc21, od21, .func (PySem.W.fnOf "_law_mixed" "_law_mixed" (defArgs sMixed) (defBody sMixed) (defScope sMixed) .none kV21 dc21 pm21 an21 cd21 ct21), sl21⟩)
    (c21 : PySem.W.codeIn K cd21 "_law_mixed" = true) (k21 : PySem.W.keepIn K (.ref f21) = true)
    (a22 : PySem.W.nsIn K mainGlobals "_law_spots" = some (some (.ref f22)))
    (l22 : K.lookup f22 = some ⟨oc22, od22, .func (PySem.W.fnOf "_law_spots" "_law_spots" (defArgs sSpots) (defBody sSpots) (defScope sSpots) .none kV22 dc22 pm22 an22 cd22 ct22), sl22⟩)
    (c22 : PySem.W.codeIn K cd22 "_law_spots" = true) (k22 : PySem.W.keepIn K (.ref f22) = true)
    (a23 : PySem.W.nsIn K mainGlobals "_law_limit_right" = some (some (.ref f23)))
    (l23 : K.lookup f23 = some ⟨oc23, od23, .func (PySem.W.fnOf "_law_limit_right" "_law_limit_right" (defArgs sLimR) (defBody sLimR) (defScope sLimR) .none kV23 dc23 pm23 an23 cd23 ct23), sl23⟩)
    (c23 : PySem.W.codeIn K cd23 "_law_limit_right" = true) (k23 : PySem.W.keepIn K (.ref f23) = true)
    (a24 : PySem.W.nsIn K mainGlobals "_law_right" = some (some (.ref f24)))
    (l24 : K.lookup f24 = some ⟨oc24, od24, .func (PySem.W.fnOf "_law_right" "_law_right" (defArgs sRight) (defBody sRight) (defScope sRight) .none kV24 dc24 pm24 an24 cd24 ct24), sl24⟩)
    (c24 : PySem.W.codeIn K cd24 "_law_right" = true) (k24 : PySem.W.keepIn K (.ref f24) = true)
    (a25 : PySem.W.nsIn K mainGlobals "law" = some (some (.ref f25)))
    (l25 : K.lookup f25 = some ⟨oc25, od25, .func (PySem.W.fnOf "law" "law" (defArgs sLaw) (defBody sLaw) (defScope sLaw) .none kV25 dc25 pm25 an25 cd25 ct25), sl25⟩)
    (c25 : PySem.W.codeIn K cd25 "law" = true) (k25 : PySem.W.keepIn K (.ref f25) = true)
    (z0 : PySem.W.nsIn K mainGlobals "isinstance" = some none)
    (z1 : PySem.W.nsIn K mainGlobals "int" = some none)
    (z2 : PySem.W.nsIn K mainGlobals "bool" = some none)
    (z3 : PySem.W.nsIn K mainGlobals "tuple" = some none)
    (z4 : PySem.W.nsIn K mainGlobals "len" = some none)
    (z5 : PySem.W.nsIn K mainGlobals "enumerate" = some none)
    (z6 : PySem.W.nsIn K mainGlobals "str" = some none)
    (z7 : PySem.W.nsIn K mainGlobals "sorted" = some none)
    (z8 : PySem.W.nsIn K mainGlobals "list" = some none)
    (z9 : PySem.W.nsIn K mainGlobals "zip" = some none)
    (z10 : PySem.W.nsIn K mainGlobals "abs" = some none)
    (z11 : PySem.W.nsIn K mainGlobals "divmod" = some none)
    (z12 : PySem.W.nsIn K mainGlobals "min" = some none)
    (z13 : PySem.W.nsIn K mainGlobals "range" = some none)
    (z14 : PySem.W.nsIn K mainGlobals "sum" = some none)
    (z15 : PySem.W.nsIn K mainGlobals "max" = some none)
    (z16 : PySem.W.nsIn K mainGlobals "all" = some none)
    (w0 : PySem.W.nsIn K mainGlobals "MOST_INDEX" = some (some (.int 7 tk0)))
    (w1 : PySem.W.nsIn K mainGlobals "MOST_CELLS" = some (some (.int 24 tk1)))
    (w2 : PySem.W.nsIn K mainGlobals "MOST_VALUE" = some (some (.int 9999 tk2)))
    (w3 : PySem.W.nsIn K mainGlobals "MOST_LETTERS" = some (some (.int 400 tk3)))
    : ∃ fd : FuncData, (∀ (s : Shared) (v : Value), BindsTo s fd ⟨[v], []⟩ [("_law_script", v)]) ∧ ∀ base : Heap, K.In base → base.Ns mainGlobals mg → FnG l.prog w K mg base 10 fa fd ["_law_script"] (spLaw K) := by
  have e := hfa.symm.trans (PySem.W.mg_of X G a25)
  cases e
  have F0 := fun_mk (st := sWhole) l0 c0 k0
  have m0 := PySem.W.mg_of X G a0
  have F1 := fun_mk (st := sBetween) l1 c1 k1
  have m1 := PySem.W.mg_of X G a1
  have F2 := fun_mk (st := sPlace) l2 c2 k2
  have m2 := PySem.W.mg_of X G a2
  have F3 := fun_mk (st := sIsCell) l3 c3 k3
  have m3 := PySem.W.mg_of X G a3
  have F4 := fun_mk (st := sCheck) l4 c4 k4
  have m4 := PySem.W.mg_of X G a4
  have F5 := fun_mk (st := sIsKind) l5 c5 k5
  have m5 := PySem.W.mg_of X G a5
  have F6 := fun_mk (st := sKind) l6 c6 k6
  have m6 := PySem.W.mg_of X G a6
  have F7 := fun_mk (st := sLines) l7 c7 k7
  have m7 := PySem.W.mg_of X G a7
  have F8 := fun_mk (st := sFF) l8 c8 k8
  have m8 := PySem.W.mg_of X G a8
  have F9 := fun_mk (st := sCheckF) l9 c9 k9
  have m9 := PySem.W.mg_of X G a9
  have F10 := fun_mk (st := sRcOk) l10 c10 k10
  have m10 := PySem.W.mg_of X G a10
  have F11 := fun_mk (st := sTabOk) l11 c11 k11
  have m11 := PySem.W.mg_of X G a11
  have F12 := fun_mk (st := sLast) l12 c12 k12
  have m12 := PySem.W.mg_of X G a12
  have F13 := fun_mk (st := sCheckL) l13 c13 k13
  have m13 := PySem.W.mg_of X G a13
  have F14 := fun_mk (st := sCheckW) l14 c14 k14
  have m14 := PySem.W.mg_of X G a14
  have F15 := fun_mk (st := sAlong) l15 c15 k15
  have m15 := PySem.W.mg_of X G a15
  have F16 := fun_mk (st := sAfterP) l16 c16 k16
  have m16 := PySem.W.mg_of X G a16
  have F17 := fun_mk (st := sCell) l17 c17 k17
  have m17 := PySem.W.mg_of X G a17
  have F18 := fun_mk (st := sPool) l18 c18 k18
  have m18 := PySem.W.mg_of X G a18
  have F19 := fun_mk (st := sDraw) l19 c19 k19
  have m19 := PySem.W.mg_of X G a19
  have F20 := fun_mk (st := sSides) l20 c20 k20
  have m20 := PySem.W.mg_of X G a20
  have F21 := fun_mk (st := sMixed) l21 c21 k21
  have m21 := PySem.W.mg_of X G a21
  have F22 := fun_mk (st := sSpots) l22 c22 k22
  have m22 := PySem.W.mg_of X G a22
  have F23 := fun_mk (st := sLimR) l23 c23 k23
  have m23 := PySem.W.mg_of X G a23
  have F24 := fun_mk (st := sRight) l24 c24 k24
  have m24 := PySem.W.mg_of X G a24
  have F25 := fun_mk (st := sLaw) l25 c25 k25
  have m25 := PySem.W.mg_of X G a25
  have n_isinstance := PySem.W.mg_none_of X G z0
  have n_int := PySem.W.mg_none_of X G z1
  have n_bool := PySem.W.mg_none_of X G z2
  have n_tuple := PySem.W.mg_none_of X G z3
  have n_len := PySem.W.mg_none_of X G z4
  have n_enumerate := PySem.W.mg_none_of X G z5
  have n_str := PySem.W.mg_none_of X G z6
  have n_sorted := PySem.W.mg_none_of X G z7
  have n_list := PySem.W.mg_none_of X G z8
  have n_zip := PySem.W.mg_none_of X G z9
  have n_abs := PySem.W.mg_none_of X G z10
  have n_divmod := PySem.W.mg_none_of X G z11
  have n_min := PySem.W.mg_none_of X G z12
  have n_range := PySem.W.mg_none_of X G z13
  have n_sum := PySem.W.mg_none_of X G z14
  have n_max := PySem.W.mg_none_of X G z15
  have n_all := PySem.W.mg_none_of X G z16
  have c_MOST_INDEX := PySem.W.mg_of X G w0
  have c_MOST_CELLS := PySem.W.mg_of X G w1
  have c_MOST_VALUE := PySem.W.mg_of X G w2
  have c_MOST_LETTERS := PySem.W.mg_of X G w3
  have b0 := F0.binds (ps := ["value"]) fun _ _ _ _ _ _ us hl => match us, hl with | [_], _ => rfl
  have b1 := F1.binds (ps := ["value", "least", "most"]) fun _ _ _ _ _ _ us hl => match us, hl with | [_, _, _], _ => rfl
  have b2 := F2.binds (ps := ["value"]) fun _ _ _ _ _ _ us hl => match us, hl with | [_], _ => rfl
  have b3 := F3.binds (ps := ["value"]) fun _ _ _ _ _ _ us hl => match us, hl with | [_], _ => rfl
  have b4 := F4.binds (ps := ["plan"]) fun _ _ _ _ _ _ us hl => match us, hl with | [_], _ => rfl
  have b5 := F5.binds (ps := ["value"]) fun _ _ _ _ _ _ us hl => match us, hl with | [_], _ => rfl
  have b6 := F6.binds (ps := ["kind"]) fun _ _ _ _ _ _ us hl => match us, hl with | [_], _ => rfl
  have b7 := F7.binds (ps := ["plan", "kind"]) fun _ _ _ _ _ _ us hl => match us, hl with | [_, _], _ => rfl
  have b8 := F8.binds (ps := ["values", "most"]) fun _ _ _ _ _ _ us hl => match us, hl with | [_, _], _ => rfl
  have b9 := F9.binds (ps := ["size", "filling"]) fun _ _ _ _ _ _ us hl => match us, hl with | [_, _], _ => rfl
  have b10 := F10.binds (ps := ["rows", "columns"]) fun _ _ _ _ _ _ us hl => match us, hl with | [_, _], _ => rfl
  have b11 := F11.binds (ps := ["size", "table"]) fun _ _ _ _ _ _ us hl => match us, hl with | [_, _], _ => rfl
  have b12 := F12.binds (ps := ["rows", "columns", "table", "limit", "count"]) fun _ _ _ _ _ _ us hl => match us, hl with | [_, _, _, _, _], _ => rfl
  have b13 := F13.binds (ps := ["word", "letters"]) fun _ _ _ _ _ _ us hl => match us, hl with | [_, _], _ => rfl
  have b14 := F14.binds (ps := ["word"]) fun _ _ _ _ _ _ us hl => match us, hl with | [_], _ => rfl
  have b15 := F15.binds (ps := ["groups", "filling"]) fun _ _ _ _ _ _ us hl => match us, hl with | [_, _], _ => rfl
  have b16 := F16.binds (ps := ["plan", "filling", "word"]) fun _ _ _ _ _ _ us hl => match us, hl with | [_, _, _], _ => rfl
  have b17 := F17.binds (ps := ["_law_script", "_law_k"]) fun _ _ _ _ _ _ us hl => match us, hl with | [_, _], _ => rfl
  have b18 := F18.binds (ps := ["_law_item"]) fun _ _ _ _ _ _ us hl => match us, hl with | [_], _ => rfl
  have b19 := F19.binds (ps := ["_law_pool_here", "_law_most"]) fun _ _ _ _ _ _ us hl => match us, hl with | [_, _], _ => rfl
  have b20 := F20.binds (ps := ["_law_pool_here", "_law_most"]) fun _ _ _ _ _ _ us hl => match us, hl with | [_, _], _ => rfl
  have b21 := F21.binds (ps := ["_law_pool_here", "_law_size"]) fun _ _ _ _ _ _ us hl => match us, hl with | [_, _], _ => rfl
  have b22 := F22.binds (ps := ["_law_high", "_law_wide"]) fun _ _ _ _ _ _ us hl => match us, hl with | [_, _], _ => rfl
  have b23 := F23.binds (ps := ["_law_high", "_law_wide", "_law_some", "_law_low"]) fun _ _ _ _ _ _ us hl => match us, hl with | [_, _, _, _], _ => rfl
  have b24 := F24.binds (ps := ["_law_pool_here"]) fun _ _ _ _ _ _ us hl => match us, hl with | [_], _ => rfl
  refine ⟨PySem.W.fnOf "law" "law" (defArgs sLaw) (defBody sLaw) (defScope sLaw) .none kV25 dc25 pm25 an25 cd25 ct25, fun s v => .of_eq rfl, fun base _ _ => ?_⟩
  have G0 := ok_whole (P := l.prog) (w := w) (mg := mg) (base := base) F0 n_isinstance n_int n_bool
  have G1 := ok_between (P := l.prog) (w := w) (mg := mg) (base := base) F1 G0 b0 m0 k0
  have G2 := ok_place (P := l.prog) (w := w) (mg := mg) (base := base) F2 G1 b1 m1 k1 c_MOST_INDEX
  have G3 := ok_isCell (P := l.prog) (w := w) (mg := mg) (base := base) F3 G2 b2 m2 k2 n_isinstance n_tuple n_len
  have G4 := ok_check (P := l.prog) (w := w) (mg := mg) (base := base) F4 G3 b3 m3 k3 n_isinstance n_tuple n_len n_enumerate c_MOST_CELLS
  have G5 := ok_isKind (P := l.prog) (w := w) (mg := mg) (base := base) F5 n_isinstance n_str
  have G6 := ok_kind (P := l.prog) (w := w) (mg := mg) (base := base) F6 G5 b5 m5 k5
  have G7 := ok_lines (P := l.prog) (w := w) (mg := mg) (base := base) F7 G4 b4 m4 k4 G6 b6 m6 k6 n_enumerate n_tuple n_sorted
  have G8 := ok_ff (P := l.prog) (w := w) (mg := mg) (base := base) F8 G1 b1 m1 k1 n_enumerate
  have G9 := ok_checkF (P := l.prog) (w := w) (mg := mg) (base := base) F9 G8 b8 m8 k8 n_isinstance n_tuple n_len c_MOST_VALUE
  have G10 := ok_rcOk (P := l.prog) (w := w) (mg := mg) (base := base) F10 G1 b1 m1 k1 c_MOST_CELLS
  have G11 := ok_tabOk (P := l.prog) (w := w) (mg := mg) (base := base) F11 G8 b8 m8 k8 n_isinstance n_tuple n_len
  have G12 := ok_last (P := l.prog) (w := w) (mg := mg) (base := base) F12 G10 b10 m10 k10 G11 b11 m11 k11 G0 b0 m0 k0 G1 b1 m1 k1 n_len
  have G13 := ok_checkL (P := l.prog) (w := w) (mg := mg) (base := base) F13 n_isinstance n_str n_len n_enumerate c_MOST_LETTERS
  have G14 := ok_checkW (P := l.prog) (w := w) (mg := mg) (base := base) F14 G13 b13 m13 k13
  have G15 := ok_along (P := l.prog) (w := w) (mg := mg) (base := base) F15 n_list n_zip n_sorted n_tuple
  have G16 := ok_afterP (P := l.prog) (w := w) (mg := mg) (base := base) F16 G4 b4 m4 k4 G9 b9 m9 k9 G14 b14 m14 k14 G7 b7 m7 k7 G15 b15 m15 k15 n_len
  have G17 := ok_cell (P := l.prog) (w := w) (mg := mg) (base := base) F17 n_len
  have G18 := ok_pool (P := l.prog) (w := w) (mg := mg) (base := base) F18 n_abs
  have G19 := ok_draw (P := l.prog) (w := w) (mg := mg) (base := base) F19 n_divmod
  have G20 := ok_sides (P := l.prog) (w := w) (mg := mg) (base := base) F20 G19 b19 m19 k19 n_min
  have G21 := ok_mixed (P := l.prog) (w := w) (mg := mg) (base := base) F21 G19 b19 m19 k19 n_list n_range n_len n_tuple
  have G22 := ok_spots (P := l.prog) (w := w) (mg := mg) (base := base) F22 n_range n_tuple
  have G23 := ok_limR (P := l.prog) (w := w) (mg := mg) (base := base) F23 G22 b22 m22 k22 G16 b16 m16 k16 G12 b12 m12 k12 n_range n_sum n_sorted n_len n_min
  have G24 := ok_right56 (P := l.prog) (w := w) (mg := mg) (base := base) F24 G20 b20 m20 k20 G21 b21 m21 k21 G23 b23 m23 k23 n_max n_min n_all n_range
  exact ok_law5 F25 G17 b17 m17 k17 G18 b18 m18 k18 G24 b24 m24 k24 n_all n_range n_max n_min n_len
end KS
open PySem PySem.W PyProof.Rows
set_option maxHeartbeats 0 in
theorem PySem.Challenge.cw_keepsort_k56_whole_the_last_rows_holds : PySem.Challenge.rw_keepsort_k56_whole_the_last_rows.Holds := by
  w_on; o_law; k_head; (case hw => w_witness2)
  k_fill
  refine KS.walk_ofG (l := PySem.Challenge.rw_keepsort_k56_whole_the_last_rows) (n := 63) (k := 10) (x := "_law_script") (sp := fun w => KS.spLaw _) rfl (by decide) rfl ⟨rfl, by decide, by decide⟩ (fun w h Y => PySem.W.kIn_of Y) ?F (fun _ _ a ns hl _ hS => ⟨a, ns, rfl, hS, hl, fun _ => rfl⟩)
  case F =>
    intro w mg fa h KX G hmg
    refine' KS.all_mk KX G hmg ?a0 ?l0 ?c0 ?k0 ?a1 ?l1 ?c1 ?k1 ?a2 ?l2 ?c2 ?k2 ?a3 ?l3 ?c3 ?k3 ?a4 ?l4 ?c4 ?k4 ?a5 ?l5 ?c5 ?k5 ?a6 ?l6 ?c6 ?k6 ?a7 ?l7 ?c7 ?k7 ?a8 ?l8 ?c8 ?k8 ?a9 ?l9 ?c9 ?k9 ?a10 ?l10 ?c10 ?k10 ?a11 ?l11 ?c11 ?k11 ?a12 ?l12 ?c12 ?k12 ?a13 ?l13 ?c13 ?k13 ?a14 ?l14 ?c14 ?k14 ?a15 ?l15 ?c15 ?k15 ?a16 ?l16 ?c16 ?k16 ?a17 ?l17 ?c17 ?k17 ?a18 ?l18 ?c18 ?k18 ?a19 ?l19 ?c19 ?k19 ?a20 ?l20 ?c20 ?k20 ?a21 ?l21 ?c21 ?k21 ?a22 ?l22 ?c22 ?k22 ?a23 ?l23 ?c23 ?k23 ?a24 ?l24 ?c24 ?k24 ?a25 ?l25 ?c25 ?k25 ?z0 ?z1 ?z2 ?z3 ?z4 ?z5 ?z6 ?z7 ?z8 ?z9 ?z10 ?z11 ?z12 ?z13 ?z14 ?z15 ?z16 ?w0 ?w1 ?w2 ?w3
    (case a0 => k_is)
    (case l0 => k_is)
    (case c0 => k_is)
    (case k0 => k_is)
    (case a1 => k_is)
    (case l1 => k_is)
    (case c1 => k_is)
    (case k1 => k_is)
    (case a2 => k_is)
    (case l2 => k_is)
    (case c2 => k_is)
    (case k2 => k_is)
    (case a3 => k_is)
    (case l3 => k_is)
    (case c3 => k_is)
    (case k3 => k_is)
    (case a4 => k_is)
    (case l4 => k_is)
    (case c4 => k_is)
    (case k4 => k_is)
    (case a5 => k_is)
    (case l5 => k_is)
    (case c5 => k_is)
    (case k5 => k_is)
    (case a6 => k_is)
    (case l6 => k_is)
    (case c6 => k_is)
    (case k6 => k_is)
    (case a7 => k_is)
    (case l7 => k_is)
    (case c7 => k_is)
    (case k7 => k_is)
    (case a8 => k_is)
    (case l8 => k_is)
    (case c8 => k_is)
    (case k8 => k_is)
    (case a9 => k_is)
    (case l9 => k_is)
    (case c9 => k_is)
    (case k9 => k_is)
    (case a10 => k_is)
    (case l10 => k_is)
    (case c10 => k_is)
    (case k10 => k_is)
    (case a11 => k_is)
    (case l11 => k_is)
    (case c11 => k_is)
    (case k11 => k_is)
    (case a12 => k_is)
    (case l12 => k_is)
    (case c12 => k_is)
    (case k12 => k_is)
    (case a13 => k_is)
    (case l13 => k_is)
    (case c13 => k_is)
    (case k13 => k_is)
    (case a14 => k_is)
    (case l14 => k_is)
    (case c14 => k_is)
    (case k14 => k_is)
    (case a15 => k_is)
    (case l15 => k_is)
    (case c15 => k_is)
    (case k15 => k_is)
    (case a16 => k_is)
    (case l16 => k_is)
    (case c16 => k_is)
    (case k16 => k_is)
    (case a17 => k_is)
    (case l17 => k_is)
    (case c17 => k_is)
    (case k17 => k_is)
    (case a18 => k_is)
    (case l18 => k_is)
    (case c18 => k_is)
    (case k18 => k_is)
    (case a19 => k_is)
    (case l19 => k_is)
    (case c19 => k_is)
    (case k19 => k_is)
    (case a20 => k_is)
    (case l20 => k_is)
    (case c20 => k_is)
    (case k20 => k_is)
    (case a21 => k_is)
    (case l21 => k_is)
    (case c21 => k_is)
    (case k21 => k_is)
    (case a22 => k_is)
    (case l22 => k_is)
    (case c22 => k_is)
    (case k22 => k_is)
    (case a23 => k_is)
    (case l23 => k_is)
    (case c23 => k_is)
    (case k23 => k_is)
    (case a24 => k_is)
    (case l24 => k_is)
    (case c24 => k_is)
    (case k24 => k_is)
    (case a25 => k_is)
    (case l25 => k_is)
    (case c25 => k_is)
    (case k25 => k_is)
    (case z0 => k_is)
    (case z1 => k_is)
    (case z2 => k_is)
    (case z3 => k_is)
    (case z4 => k_is)
    (case z5 => k_is)
    (case z6 => k_is)
    (case z7 => k_is)
    (case z8 => k_is)
    (case z9 => k_is)
    (case z10 => k_is)
    (case z11 => k_is)
    (case z12 => k_is)
    (case z13 => k_is)
    (case z14 => k_is)
    (case z15 => k_is)
    (case z16 => k_is)
    (case w0 => k_is)
    (case w1 => k_is)
    (case w2 => k_is)
    (case w3 => k_is)
