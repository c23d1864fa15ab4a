import PyProof.Rows.All
import Wide.All
import OpenK.AllK
import Wide.FinOn
import HandS.ForMost
import HandS.Style
import HandS.Flow
import KE.GoesMore
import KE.GoesEnum
import KE.KTupSum
import PyProof.ReprRoads
import PyProof.ReprLen
import HandS.IsInst
import HandS.TupLe
import HandS.SetKeys
import HandS.SortRule
import HandS.More
import HandS.TupAny
import PyProof.P3In
import HandS.Deep
import KE.KRevSl
import HandS.TupMul
import HandS.ForExc
import PySem.Challenge.RW_keepsort_k01_plans_told
set_option Elab.async false
set_option linter.all false
set_option maxRecDepth 100000
set_option maxHeartbeats 4000000
namespace KS
open PySem PySem.Spec PyProof.Rows L2
/-- three whole numbers: the state, the digits left, how many draws -/
def PoolO (o : Option HO) : Prop := ∃ a b c : Int, o = some (.lst [.int a, .int b, .int c]) ∧ 0 ≤ a ∧ a < 2147483249 ∧ 0 ≤ b
/-- what stood, but at p, stands -/
def KeepX (p : Addr) (H H' : Hp) : Prop := ∀ b o, b ≠ p → H b = some o → H' b = some o
theorem KeepX.refl (p : Addr) (H : Hp) : KeepX p H H := fun _ _ _ e => e
theorem KeepX.trans {p : Addr} {H H1 H2 : Hp} (a : KeepX p H H1) (b : KeepX p H1 H2) : KeepX p H H2 := fun c o n e => b c o n (a c o n e)
theorem KeepX.of_same {p : Addr} {H H1 : Hp} (a : Same H H1) : KeepX p H H1 := fun c o _ e => a c o e
theorem same_new {H : Hp} {p : Addr} {o : HO} (h : H p = none) : Same H (upd H p o) := fun b x e => by
  rw [upd_ne (ne_of_none e h)]
  exact e
theorem keepX_upd {H : Hp} {p : Addr} {o : HO} : KeepX p H (upd H p o) := fun b x n e => by
  rw [upd_ne n]
  exact e
theorem PoolO.same {H H' : Hp} {p : Addr} (s : Same H H') (h : PoolO (H p)) : PoolO (H' p) := by
  obtain ⟨a, b, c, e, r⟩ := h
  exact ⟨a, b, c, s _ _ e, r⟩
theorem PoolO.ne {H : Hp} {p q : Addr} (h : PoolO (H p)) (n : H q = none) : p ≠ q := by
  obtain ⟨a, b, c, e, r⟩ := h
  exact ne_of_none e n
theorem same_seqT {K : PySem.W.Frag} {H H' : Hp} {a : Addr} {xs : List V} (e : Same H H') (h : SqT K H a xs) : SqT K H' a xs := by
  rcases h with (h | ⟨o, h⟩) | h
  · exact .inl (.inl (e _ _ h))
  · exact .inl (.inr ⟨o, e _ _ h⟩)
  · exact .inr h
theorem keepX_seqT {K : PySem.W.Frag} {H H' : Hp} {a p : Addr} {xs : List V} (hp : PoolO (H p)) (e : KeepX p H H') (h : SqT K H a xs) : SqT K H' a xs := by
  obtain ⟨x, y, z, ep, _⟩ := hp
  rcases h with (h | ⟨o, h⟩) | h
  · exact .inl (.inl (e _ _ (fun q => by rw [q, ep] at h; cases h) h))
  · exact .inl (.inr ⟨o, e _ _ (fun q => by rw [q, ep] at h; cases h) h⟩)
  · exact .inr h
theorem int_mod_bd (x : Int) {m : Int} (h : 0 < m) : 0 ≤ x % m ∧ x % m < m := ⟨Int.emod_nonneg x (by omega), Int.emod_lt_of_pos x h⟩
def spCell (K : PySem.W.Frag) : Sp := fun vs H Q _ => ∃ (a : Addr) (ns : List Int) (k : Nat), vs = [.ref a, .int k] ∧ SqL K H a (ns.map V.int) ∧ k ≤ 63 ∧ ∀ H' n, Same H H' → Q (.int n) H'
def spPool : Sp := fun vs H Q _ => ∃ (n : Int), vs = [.int n] ∧ ∀ H' p, Same H H' → H p = none → PoolO (H' p) → Q (.ref p) H'
def spDraw : Sp := fun vs H Q _ => ∃ (p : Addr) (m : Int), vs = [.ref p, .int m] ∧ PoolO (H p) ∧ 0 < m ∧ m < 1073741824 ∧ ∀ H' r, KeepX p H H' → PoolO (H' p) → 0 ≤ r → r < m → Q (.int r) H'
end KS
namespace KS
open PySem PySem.Spec PyProof.Rows L2
open Sem (wp)
open AutoSeq1 (wpAny_loadPart')
/-! ### sum(t), t a tuple of whole numbers -/
def rSumT (K : PySem.W.Frag) : List V → Hp → VK → Prop := fun vs H Q => ∃ (a : Addr) (ns : List Int), vs = [V.ref a] ∧ SqT K H a (ns.map V.int) ∧ Q (.int ns.sum) H
theorem cr_sumT {X : Cx} (hc : X.calm = true) : CallR X (.builtin "sum") (rSumT X.K) := by
  intro pins s σ H vs us Q I r h
  obtain ⟨a, ns, rfl, hs, q⟩ := h
  obtain ⟨its, rv, hl, _⟩ := I.tuple hs
  rw [Vals.ref1 r]
  have hi := rv.ints
  obtain ⟨xs, e⟩ := hi.allInts.items
  have hn : numsOf (intItems xs).toList = ns := by
    rw [← e]
    exact hi.numsOf
  rw [nums_intItems] at hn
  have hl2 : s.heap.IsTuple a (intItems xs) := by
    rw [← e]
    exact hl
  refine PySem.W.ktm_sumG (I.ok.hd hc) hl2 fun h' tk t' hk => ⟨.int ns.sum, H, I.kept hk, ⟨t', ?_⟩, q⟩
  rw [preSum_eq, List.take_of_length_le (by simp), hn]
/-- tuple(x), x a list or a tuple -/
def rTupOf (K : PySem.W.Frag) : List V → Hp → VK → Prop := fun xs H Q => ∃ p ys, xs = [.ref p] ∧ ((SqL K H p ys ∧ ∀ l, H l = none → Q (.ref l) (upd H l (.tup ys))) ∨ (SqT K H p ys ∧ Q (.ref p) H))
theorem cr_tupOf {X : Cx} : CallR X (.type "tuple") (rTupOf X.K) := call_tuple_of
/-! ### enumerate(t), t a tuple -/
abbrev tupItO (l : Addr) : Obj := { cls := .type "tuple_iterator", data := .fields #[.ref l, .int 0 0] }
abbrev enumO (it : Addr) : Obj := { cls := .type "enumerate", data := .fields #[.none, .bool false, .ref it, rawInt 0, .none, .none] }
theorem meets_enumT (l : Addr) (items : Array Value) (n : Nat) (dct : Option Addr) (sl : Array (Option Value)) :
    Meets (Builtin.«enumerate.__new__» ⟨[.type "enumerate", .ref l], []⟩) (fun _ R s =>
      s.heap.get? l = some { cls := .type "tuple", dict := dct, data := .seq items n, slots := sl } ∧
      R (.ok (.ret (.ref (s.heap.push (tupItO l)).objs.size))) { s with heap := (s.heap.push (tupItO l)).push (enumO s.heap.objs.size) }) :=
  .of_wp fun prog w A R s h => by
    obtain ⟨hp, g, d, tk, os⟩ := s
    obtain ⟨hl, h⟩ := h
    have hsub := sub_enumerate
    have hT : Heap.IsTuple (Shared.heap ⟨hp, g, d, tk, os⟩) l items := ⟨_, hl, rfl, n, rfl⟩
    wp_walk using wpAny_loadPart' hl
    refine wpAny_stack_any fun st => wpAny_pure ?_
    split
    · rename_i c _ _ _ _ _
      cases (c == Value.type "enumerate")
      · wp_walk using wpAny_loadPart' hl, wpAny_pyIter_tuple hT
        exact ⟨_, rfl, h⟩
      · wp_walk using wpAny_loadPart' hl, wpAny_pyIter_tuple hT
        exact ⟨_, rfl, h⟩
    · wp_walk using wpAny_loadPart' hl, wpAny_pyIter_tuple hT
      exact ⟨_, rfl, h⟩
theorem call_enumT {prog : Program} {w : World} {A : Around} {E : Value → Shared → Prop} {s : Shared} {l : Addr} {items : Array Value} {Q : Value → Shared → Prop} (hL : s.heap.IsTuple l items)
    (h : ∀ h', IsEnum h' (s.heap.objs.size + 1) s.heap.objs.size 0 .none → h'.IsTupleIter s.heap.objs.size l 0 →
      (∀ b o, s.heap.get? b = some o → h'.get? b = some o) → Q (.ref (s.heap.objs.size + 1)) { s with heap := h' }) :
    wpAny (model prog w) A (call (.type "enumerate") [.ref l]) Q E s := by
  obtain ⟨⟨c, dct, dt, sl⟩, hl, hc, n, hd⟩ := hL
  replace hc : c = .type "tuple" := hc
  replace hd : dt = .seq items n := hd
  subst hc
  subst hd
  refine callType_new F.called_enumerate (by decide) (F.typeCall_enumerate_1 _) (F.newCall_enumerate_1 _)
    (fun obj => F.args_object_init_2 obj _) F.entry_enumerate_new (meets_enumT l items n dct sl) ⟨hl, ?_⟩
  generalize hg1 : s.heap.push (tupItO l) = g1
  have hz : g1.objs.size = s.heap.objs.size + 1 := by
    rw [← hg1]
    exact Heap.size_push ..
  have hit : g1.get? s.heap.objs.size = some (tupItO l) := by
    rw [← hg1]
    exact Heap.get?_push_size _ rfl
  have hold : ∀ b o, s.heap.get? b = some o → g1.get? b = some o := fun b o e => by
    rw [← hg1]
    exact Heap.get?_push_of_some _ e
  show _ ∧ _
  rw [hz]
  have he : IsEnum (g1.push (enumO s.heap.objs.size))
      (s.heap.objs.size + 1) s.heap.objs.size 0 .none := by
    have z := Heap.get?_push_size g1 (o := enumO s.heap.objs.size) rfl
    rw [hz] at z
    exact z
  exact ⟨⟨_, he, rfl⟩, h _ he ⟨tupItO l, Heap.get?_push_of_some _ hit, rfl, rfl⟩ fun b o x => Heap.get?_push_of_some _ (hold b o x)⟩
/-- the pairs (i, item i) of the tuple at a, each a new tuple -/
def IteT (K : PySem.W.Frag) (a : Addr) : It :=
  ⟨fun i H => ∃ (xs : List V) (x : V), SqT K H a xs ∧ xs[i]? = some x,
   fun i H v H' => ∃ T x, v = .ref T ∧ H T = none ∧ H' = upd H T (.tup [.int (i : Nat), x]) ∧ ∀ xs, SqT K H a xs → xs[i]? = some x,
   fun i H => ∃ xs : List V, SqT K H a xs ∧ xs.length ≤ i⟩
theorem turn_enumT {P : Program} {w : World} {K : PySem.W.Frag} {elts : List Expr} {kk : Nat} {tpos : Pos} (a e it : Addr) :
    Turn P w K (.Tuple elts kk tpos) (IteT K a) [e, it] e
      (fun i h => (∃ old, IsEnum h e it ((i : Nat) : Int) old) ∧ h.IsTupleIter it a i ∧ e ≠ it) where
  mem := by simp
  obj := fun i h st b hb => by
    obtain ⟨⟨old, he⟩, ⟨o, ho, hc, hd⟩, _⟩ := st
    rcases (by simpa using hb : b = e ∨ b = it) with z | z
    · subst z
      exact ⟨_, he, fun v q => nomatch q⟩
    · subst z
      exact ⟨o, ho, fun v q => by rw [hd] at q; cases q⟩
  keep := fun i h h' st k => by
    obtain ⟨⟨old, he⟩, hi, hne⟩ := st
    exact ⟨⟨old, k e (by simp) _ he⟩, hi.at fun o q => k it (by simp) o q, hne⟩
  item := by
    intro X hP hw hK hc i pins s σ H E I hf st hg
    subst hP hw hK
    obtain ⟨⟨old, he⟩, hit, hne⟩ := st
    obtain ⟨xs, x, hq, hx⟩ := hg
    obtain ⟨its, rv, p, hz⟩ := I.tuple hq
    have p1 : s.heap.IsTuple a its.toArray := p
    obtain ⟨u0, hu0, ru0⟩ := rv.get hx
    have hel : e < s.heap.objs.size := Heap.lt_size he
    have hil : it < s.heap.objs.size := by
      obtain ⟨_, q, _⟩ := hit
      exact Heap.lt_size q
    have hai : a ≠ it := fun z => by
      obtain ⟨o1, g1, c1, _⟩ := p1
      obtain ⟨o2, g2, c2, _⟩ := hit
      rw [z, g2] at g1
      cases g1
      rw [c1] at c2
      injection c2 with c3
      exact absurd c3 (by decide)
    have hea : e ≠ a := fun z => by
      obtain ⟨o1, g1, c1, _⟩ := p1
      have g2 : s.heap.get? e = some _ := he
      rw [z, g1] at g2
      cases g2
      have c2 : Value.type "enumerate" = Value.type "tuple" := c1
      injection c2 with c3
      exact absurd c3 (by decide)
    have hlt : i < its.toArray.size := by
      have z : i < its.length := (List.getElem?_eq_some_iff.mp hu0).1
      simpa using z
    have DD : Draws X.prog X.w X.A.in1 it [it, a] its.toArray.size (fun i v => its.toArray[i]? = some v) (fun i h => h.IsTupleIter it a i ∧ h.IsTuple a its.toArray) :=
      Draws.tuple (show X.A.in1.handled = none from I.ok.hd hc) it a hai its.toArray
    refine wpAny_pyNext_enum_itemD DD he ⟨hit, p1⟩ hlt hne (by simp [hne, hea]) fun u h' tk hu ho hst hT hsz hk => ?_
    have eu : u = u0 := by
      have z : its[i]? = some u := by simpa using hu
      rw [hu0] at z
      exact (Option.some.inj z).symm
    subst eu
    refine ⟨_, rfl, wpAny_letOwnedTupleGo_enum (s := { s with heap := h', toks := tk + 1 }) ho fun h'' he' sb => ?_⟩
    have hT2 : h''.get? s.heap.objs.size = some { cls := .type "tuple", data := .seq #[.int i tk, u] } := (sb.2 _ (Nat.ne_of_gt hel)).trans hT
    have new : ObjOk X.prog X.w (upd H s.heap.objs.size (.tup [.int (i : Nat), x])) h'' s.heap.objs.size (.tup [.int (i : Nat), x]) :=
      ⟨by show 2 ≤ sizeLine; decide, [.int i tk, u], .cons ⟨_, rfl⟩ (.cons ru0 .nil), ⟨_, hT2, rfl, _, rfl⟩⟩
    have I1 : Inv X pins σ (upd H s.heap.objs.size (.tup [.int (i : Nat), x])) { s with heap := h'', toks := tk + 1 } :=
      I.turnedNew (ch := [e, it]) (fun b ob hb q => (sb.2 b (fun z => hb (by simp [z]))).trans
        (hk b ob (fun z => hb (by simp [z])) (fun z => hb (by simp [z])) q)) hf (Nat.le_refl _) new
    refine ⟨.ref s.heap.objs.size, _, I1, rfl, ⟨_, x, rfl, I.hok.fresh (Nat.le_refl _), rfl, fun ys hy => ?_⟩,
      ⟨⟨u, ?_⟩, hst.1.at fun o q => (sb.2 it (Ne.symm hne)).trans q, hne⟩, fun b hb => ?_⟩
    · rw [I.tuple_inj hy hq]
      exact hx
    · have e1 : ((i + 1 : Nat) : Int) = (i : Int) + 1 := by omega
      rw [e1]
      exact he'
    · have hb' : b < s.heap.objs.size := by
        rcases (by simpa using hb : b = e ∨ b = it) with z | z
        · rw [z]
          exact hel
        · rw [z]
          exact hil
      rw [upd_ne (Nat.ne_of_lt hb')]
      exact (hf b hb).1
  done := by
    intro X hP hw hK hc i pins s σ H E I hf st hg
    subst hP hw hK
    obtain ⟨⟨old, he⟩, hit, hne⟩ := st
    obtain ⟨xs, hq, hx⟩ := hg
    obtain ⟨its, rv, p, hz⟩ := I.tuple hq
    have p1 : s.heap.IsTuple a its.toArray := p
    obtain ⟨f0, f1, f2, f3, f4, f5⟩ := hf it (by simp)
    have hl := rv.length
    have DD : Draws X.prog X.w X.A.in1 it [it, a] i (fun _ _ => True) (fun j h => j = i ∧ h.IsTupleIter it a i ∧ h.IsTuple a its.toArray) :=
      { live := fun _ _ st => let ⟨o, ho, _⟩ := st.2.1; ⟨o, ho⟩
        frame := fun _ _ _ st hk => ⟨st.1, st.2.1.at fun o e => hk it (by simp) o e, st.2.2.at fun o e => hk a (by simp) o e⟩
        item := fun j s Q E hj st hQ => absurd st.1 (by omega)
        done := fun s Q E st hE => wpAny_nextOf_tuple_end (show X.A.in1.handled = none from I.ok.hd hc) st.2.1 st.2.2 (by simp; omega) hE }
    exact wpAny_pyNext_enum_endD DD he ⟨rfl, hit, p1⟩ fun h' eb => ⟨rfl, I.turned (t' := s.toks) (fun b o hb q => eb b o hb q) f0 f1 f3 f4 f5⟩
  self := fun A i s Q E st h => by
    obtain ⟨⟨_, he⟩, _⟩ := st
    exact wpAny_pyIter_enum he h
def iEnumT (K : PySem.W.Frag) (ta : TA) : TI := fun σ H R => ta σ H fun vs H1 => ∃ a xs, vs = [.ref a] ∧ SqT K H1 a xs ∧ R (IteT K a) H1
theorem pi_enumT {X : Cx} {e : Expr} {ta : TA} {p pos tpos : Pos} {elts : List Expr} {kk : Nat} (hg : Gl X "enumerate") (hm : X.mg "enumerate" = none) (ha : PA X [e] ta)
    (hs : starEach [e] X.env = [(false, eval e X.env)] := by rfl) : PI X (.Tuple elts kk tpos) (.Call (.Name "enumerate" p) [e] [] pos) (iEnumT X.K ta) := by
  refine ⟨fun pins s σ H R I h => ?_⟩
  refine Call_ (ld_blt I hg hm boot_enumerate (PyProof.Rows.callWith_type1 (thn (ha.run pos pins s σ H _ I h) fun us s1 hh => ?_) hs rfl))
  obtain ⟨vs, H1, I1, r1, a, xs, ex, hq, q⟩ := hh
  subst ex
  cases r1 with
  | cons r rr =>
    cases rr
    cases r
    obtain ⟨its, rv, p1, hz⟩ := I1.tuple hq
    refine call_enumT (items := its.toArray) p1 fun h' he hit hk => wpAny_pyIter_enum he ?_
    have I2 : Inv X pins σ H1 { s1 with heap := h' } := I1.kept (t' := s1.toks) hk
    refine ⟨s1.heap.objs.size + 1, [s1.heap.objs.size + 1, s1.heap.objs.size], _, _, H1, rfl, I2, turn_enumT a (s1.heap.objs.size + 1) s1.heap.objs.size,
      ⟨⟨.none, he⟩, hit, Nat.succ_ne_self _⟩, fun b hb => ?_, q⟩
    have hle : s1.heap.objs.size ≤ b := by
      rcases (by simpa using hb : b = s1.heap.objs.size + 1 ∨ b = s1.heap.objs.size) with z | z
      · rw [z]
        exact Nat.le_succ _
      · rw [z]
        exact Nat.le_refl _
    exact I1.fpOk hle (I1.hok.fresh hle)
/-- a for over enumerate(t): Pv at each turn; the pair stands in a new tuple at T -/
theorem for_enumT {K : PySem.W.Frag} {a : Addr} {xs : List V} {g : TG} {tb : TS} {D : Ends} {σ : L2.St} {H : Hp} (Pv : Nat → L2.St → Hp → Prop) (h0 : Pv 0 σ H)
    (hl : ∀ i σ H, i ≤ xs.length → Pv i σ H → SqT K H a xs)
    (hs : ∀ i x σ H T, xs[i]? = some x → Pv i σ H → H T = none → g (.ref T) σ (upd H T (.tup [.int (i : Nat), x])) fun σ2 H2 => tb { D with nx := Pv (i + 1), ct := Pv (i + 1), bk := D.nx } σ2 H2)
    (hd : ∀ σ H, Pv xs.length σ H → D.nx σ H) :
    ∃ W : Nat → Nat → L2.St → Hp → Prop, (∃ m, W 0 m σ H) ∧ ∀ i m σ H, W i m σ H →
      ((IteT K a).stop i H ∧ D.nx σ H) ∨ ((IteT K a).go i H ∧ ∃ N : L2.St → Hp → Prop, (∀ σ' H', N σ' H' → ∃ m', m' < m ∧ W (i + 1) m' σ' H') ∧
        ∀ x H', (IteT K a).yld i H x H' → g x σ H' fun σ2 H2 => tb { D with nx := N, ct := N, bk := D.nx } σ2 H2) := by
  refine ⟨fun i m σ H => m = xs.length - i ∧ i ≤ xs.length ∧ Pv i σ H, ⟨xs.length, by simp, Nat.zero_le _, h0⟩, ?_⟩
  rintro i m σ H ⟨rfl, hi, p⟩
  have q := hl i σ H hi p
  by_cases hlt : i < xs.length
  · refine .inr ⟨⟨xs, xs[i], q, by simp [hlt]⟩, Pv (i + 1), fun σ' H' p' => ⟨xs.length - (i + 1), by omega, rfl, hlt, p'⟩, fun x H' y => ?_⟩
    obtain ⟨T, x1, rfl, nT, rfl, hx⟩ := y
    exact hs i x1 σ H T (hx _ q) p nT
  · have e : i = xs.length := by omega
    subst e
    exact .inl ⟨⟨xs, q, Nat.le_refl _⟩, hd σ H p⟩
end KS
namespace KS
open PySem PySem.Spec PyProof.Rows L2
/-! ### promises of defs that are only called where no repr is under way -/
structure FnG (P : Program) (w : World) (K : PySem.W.Frag) (mg : Str → Option Value) (base : Heap) (k : Nat) (f : Addr) (fd : FuncData) (ps : List Str) (sp : Sp) : Prop where
  len : ∀ vs H Q E, sp vs H Q E → vs.length = ps.length
  run : ∀ (A : Around) (outer : List Env) (s : Shared) (H : Hp) (args : Args) (us : List Value) (vs : List V) (Q : VK) (E : XK),
    Room k A → A.guards = some [] → Env0 P w K mg base A outer s H → BindsTo s fd args (ps.zip us) → Vals vs us → sp vs H Q E →
    codeAny (model P w) A (.call (.ref f) args) (CR CX0 outer P w H s Q E) s
section
variable {P : Program} {w : World} {K : PySem.W.Frag} {mg : Str → Option Value} {base : Heap}
theorem okG {x qual : Str} {st : Stmt} {f : Addr} {fd : FuncData} {N ps : List Str} {k : Nat} {sp : Sp} (F : Fun K x qual st f fd) (S : FnScope N ps (defScope st))
    (len : ∀ vs H Q E, sp vs H Q E → vs.length = ps.length)
    (hbody : ∀ (cdv : Value) (A : Around) (outer : List Env) (s : Shared) (H : Hp) (vs : List V) (Q : VK) (E : XK),
      Room k (A.deeper (envOfC qual (defScope st) s.heap.objs.size f cdv)) → A.guards = some [] → sp vs H Q E →
      ∃ t, PSs (cxOf CX0 P w K mg base N qual (defScope st) f cdv A outer s H E).nox (defBody st) t ∧ t { nx := fun _ H' => Q .non H', rt := Q } (start N vs) H) :
    FnG P w K mg base (k + 1) f fd ps sp := by
  obtain ⟨oc, od, kV, doc, pm, an, cdv, ct, osl, rfl, lk, hcd⟩ := F.ex
  refine ⟨len, fun A outer s H args us vs Q E hr hgd e0 hb r hsp => ?_⟩
  have hl := len _ _ _ _ hsp
  have kept : ∀ b o, base.get? b = some o → s.heap.get? b = some o := fun b o e => (e0.bs b o e).1
  have KX : K.In s.heap := e0.mod.kin.keeps kept
  have lim : s.heap.NoLimit := e0.mod.nolimit.keeps kept
  have hkind : ∀ y ∈ ps.zip us, (defScope st).names.lookup y.1 = some .local ∨
      ((defScope st).names.lookup y.1 = some .cell ∧ ((cellsFrom (s.heap.objs.size + 1) (defScope st).names []).lookup y.1).isSome = true) := by
    rintro ⟨n, v⟩ hy
    rcases S.par n (List.of_mem_zip hy).1 with q | q
    · left
      exact q
    · right
      exact ⟨q, PySem.W.cellsFrom_some _ _ _ (.inl q)⟩
  refine codeAny_call_function hr.depth (KX _ _ lk) rfl S.co S.gen rfl
    (PySem.W.codeRec_of KX hcd) (hb _ _ _ _ ?_)
  refine wpAny_newFunctionEnv_cells S.kind hkind fun env he s1 x => ?_
  subst he
  refine ⟨lim.keeps x.toInCall.keep, codeAny_func ?_⟩
  obtain ⟨t, ht0, hq⟩ := hbody cdv A outer s H vs Q E (hr.deeper _) hgd hsp
  have ht := ht0.nox
  have I := inv_start (CX := CX0) (E := E) (cd := cdv) (qual := qual) (f := f) S hr.hd e0 hl r x
  refine wpAny_mono (ht.run [] s1 (start N vs) H _ I hq) (fun fl s' hs => ?_)
    fun e s' hs => hs
  cases fl with
  | ret u =>
    obtain ⟨v, σ', H', J, rv, q⟩ := hs
    exact ⟨v, H', J.os, J.bare, J.base, J.hok, rv, q⟩
  | next =>
    obtain ⟨σ', H', J, q⟩ := hs
    exact ⟨V.non, H', J.os, J.bare, J.base, J.hok, rfl, q⟩
  | brk =>
    obtain ⟨_, _, _, q⟩ := hs
    cases q
  | cont =>
    obtain ⟨_, _, _, q⟩ := hs
    cases q
end
section
variable {X : Cx} {k : Nat} {f : Addr} {fd : FuncData} {ps : List Str} {sp : Sp} {x : Str} {p pos : Pos} {e : Expr} {es : List Expr} {t : TA}
theorem pe_callG (F : FnG X.prog X.w X.K X.mg X.base k f fd ps sp) (hr : Room k X.A) (hgd : X.A.guards = some []) (hg : Gl X x) (hm : X.mg x = some (.ref f))
    (hk : PySem.W.keepIn X.K (.ref f) = true) (hb : Binds X.K fd ps []) (ha : PA X (e :: es) t) (hdb : (x == ("__debug__" : Str)) = false := by decide)
    (he : starEach (e :: es) X.env = (false, eval e X.env) :: starEach es X.env := by rfl)
    (hpl : (backTo pos (starEach es X.env)).any (·.1) = false := by rfl) :
    PE X (.Call (.Name x p) (e :: es) [] pos) (tCall sp [] E0 t) := by
  refine ⟨fun pins s σ H Q I h => wpAny_Call_Name_kw (ld_glob I hg hm ?_ hdb)⟩
  refine PySem.W.callWith_K (h₀ := X.base) I.ok.mod.kin hk (thn (ha.run pos pins s σ H _ I h) fun us s1 hh => ?_) he hpl
  obtain ⟨vs, H1, I1, r, q⟩ := hh
  refine ⟨I1.kIn, ?_⟩
  have q1 : sp (vs ++ []) H1 Q E0 := q
  rw [List.append_nil] at q1
  have hl : (us ++ []).length = ps.length := by
    rw [List.append_nil, ← r.length]
    exact F.len _ _ _ _ q1
  have bb := hb s1 us I1.kIn hl
  rw [List.append_nil] at bb
  refine wpAny_call (codeAny_mono (F.run X.A X.stack s1 H1 ⟨us, []⟩ us vs Q E0 hr hgd I1.env0 bb r q1) fun z s' hq => ?_)
  cases z with
  | error e => cases hq
  | ok fl =>
    cases fl with
    | ret u => exact I1.after hq
    | next => cases hq
    | brk => cases hq
    | cont => cases hq
/-- repr(x), x a list or tuple of plain data, where no repr is under way -/
theorem call_reprD (hgd : X.A.guards = some []) (hu : X.A.units + 100 < cLine) : CallR X (.builtin "repr") (fun xs H Q => ∃ (a : Addr) (d : PyData), xs = [.ref a] ∧ Dp X.K H (.ref a) d ∧
    d.showable = true ∧ d.hasDict = false ∧ d.shown.length ≤ sizeLine ∧ d.depth ≤ 64 ∧ Q (.str d.shown) H) := by
  intro pins s σ H xs us Q I r h
  obtain ⟨a, d, rfl, hd, h1, h2, h3, h4, q⟩ := h
  rw [Vals.ref1 r]
  obtain ⟨as, R⟩ := Dp.reads I d (.ref a) (.ref a) hd rfl
  exact repr_of_reads' R h1 (PyData.noDict_hsm h2) hgd (by omega) (fun _ _ e => e) (fun h' u tk hk => ⟨.str d.shown, H, I.kept hk, ⟨u, rfl⟩, q⟩) h3
end
/-! ### the end of a row whose law has such a promise -/
theorem law_callG {P : Program} {w : World} {K : PySem.W.Frag} {mg mb : Str → Option Value} {k : Nat} {fa a : Addr} {fd : FuncData} {x : Str} {sp : Sp} {s₁ : Shared} {vs : List Value} {ns : List Int}
    (KX : K.In s₁.heap) (hns : s₁.heap.Ns mainGlobals mg) (hb : s₁.heap.Ns builtinsNs mb) (hbb : ∀ x : Str, x ≠ "__name__" → mb x = bootBuiltins x) (hlim : s₁.heap.NoLimit) (hg : s₁.gens = #[])
    (ha : s₁.heap.get? a = some { cls := .type "list", data := .seq vs.toArray }) (hi : IntsAre vs ns) (hl : ns.length ≤ sizeLine) (hr : Room k callerA)
    (F : ∀ base : Heap, K.In base → base.Ns mainGlobals mg → FnG P w K mg base k fa fd [x] sp)
    (hbind : ∀ (s : Shared) (u : Value), BindsTo s fd ⟨[u], []⟩ [(x, u)])
    (hsp : ∀ H : Hp, Only H → SqL K H a (ns.map V.int) → sp [.ref a] H (fun v _ => v = .bl true) fun _ _ _ => False) :
    codeAny (model P w) callerA (.call (.ref fa) ⟨[.ref a], []⟩)
      (fun r s' => r = .ok (.ret (.bool true)) ∧ OldK s₁.heap s'.heap ∧ s'.os = s₁.os ∧ AllBare s'.gens) s₁ := by
  have rv := vals_ints hi
  have lenV := hi.length
  have core : ∀ H : Hp, Only H → SqL K H a (ns.map V.int) → HOk P w H s₁.heap → (∀ b, H b ≠ none → b = a) → (H a ≠ none → K.lookup a = none) →
      codeAny (model P w) callerA (.call (.ref fa) ⟨[.ref a], []⟩)
        (fun r s' => r = .ok (.ret (.bool true)) ∧ OldK s₁.heap s'.heap ∧ s'.os = s₁.os ∧ AllBare s'.gens) s₁ := by
    intro H hO hS hok hA hK
    have only_a : ∀ {b : Addr} {u : HO}, H b = some u → b = a := fun {b u} q => hA b (by
      rw [q]
      simp)
    have noA : ∀ {b : Addr} {o : Obj} {es : Array DictEntry} {ep : Nat}, s₁.heap.get? b = some o → o.data = .dict es ep → H b = none := by
      intro b o es ep e d
      cases q : H b with
      | none => rfl
      | some u =>
        have e' := only_a q
        subst e'
        rw [ha] at e
        cases e
        have d' : Data.seq vs.toArray _ = Data.dict es ep := d
        cases d'
    have nsK : ∀ {b : Addr} {m : Str → Option Value}, s₁.heap.Ns b m → (hidT s₁.heap H).Ns b m := by
      rintro b m ⟨o, es, ep, e, d, r⟩
      exact ⟨o, es, ep, hidT_get e (noA e d), d, r⟩
    have hKb : K.In (hidT s₁.heap H) := by
      intro b o e
      refine hidT_get (KX b o e) ?_
      cases q : H b with
      | none => rfl
      | some u =>
        have e' := only_a q
        subst e'
        rw [hK (by rw [q]; simp)] at e
        cases e
    have hM : Mod K mg (hidT s₁.heap H) := by
      obtain ⟨mc, h1, h2⟩ := hlim
      exact ⟨hKb, nsK hns, ⟨mb, nsK hb, hbb⟩, ⟨mc, nsK h1, h2⟩⟩
    have e0 : Env0 P w K mg (hidT s₁.heap H) callerA [] s₁ H :=
      ⟨rfl, hM, fun b o e => of_hidT e, Nat.le_of_eq (hidT_size _ _), trivial,
        fun b hb => absurd (show b ∈ ([] : List Addr) from hb) (by simp), hok, .of_eq hg⟩
    have go := (F _ hKb (nsK hns)).run callerA [] s₁ H ⟨[.ref a], []⟩ [.ref a] [.ref a] _ _ hr rfl e0 (hbind s₁ (.ref a)) (.cons rfl .nil) (hsp H hO hS)
    refine codeAny_mono go fun r s' h => ?_
    cases r with
    | error e => cases h
    | ok fl =>
      cases fl with
      | next => cases h
      | brk => cases h
      | cont => cases h
      | ret u =>
        obtain ⟨v, H', os, bare, un, hok', r', q⟩ := h
        have q' : v = .bl true := q
        subst q'
        obtain rfl : u = Value.bool true := r'
        refine ⟨rfl, OldK.of_keep fun b o e => ?_, os, bare⟩
        cases q : H b with
        | none =>
          exact un.keep b o e q (fun z => absurd (show b ∈ ([] : List Addr) from z) (by simp)) (by simp)
        | some u =>
          rcases hO b with z | ⟨ob, xs, z⟩
          · rw [q] at z
            cases z
          · obtain ⟨e1, _⟩ := hok b _ z
            obtain ⟨e2, _⟩ := hok' b _ (un.frzs b ob _ z)
            rw [e] at e1
            cases e1
            exact e2
  cases hk : K.lookup a with
  | some o =>
    have e := KX a o hk
    rw [ha] at e
    cases e
    have sq : SqL K (fun _ => none) a (ns.map V.int) :=
      .inr ⟨_, vs.toArray, _, hk, rfl, rfl, rfl, by rw [List.size_toArray, lenV]; exact hl, by simpa using rv⟩
    exact core (fun _ => none) (fun _ => .inl rfl) sq (fun b u z => by cases z) (fun b z => absurd rfl z) fun z => absurd rfl z
  | none =>
    refine core (fun b => if b = a then some (.frz { cls := .type "list", data := .seq vs.toArray } (.lst (ns.map V.int))) else none)
      (fun b => ?_) (.inl (.inr ⟨{ cls := .type "list", data := .seq vs.toArray }, if_pos rfl⟩)) (fun b u z => ?_) (fun b z => ?_) fun _ => hk
    · by_cases hb : b = a
      · exact .inr ⟨_, _, if_pos hb⟩
      · exact .inl (if_neg hb)
    · by_cases hb : b = a
      · have z' := (if_pos hb).symm.trans z
        cases z'
        subst hb
        exact ⟨ha, by rw [List.length_map]; exact hl, vs, _, rv, ha⟩
      · have z' := (if_neg hb).symm.trans z
        cases z'
    · by_cases hb : b = a
      · exact hb
      · exact absurd (if_neg hb) z
theorem walk_ofG {l : PySem.W.OpenLaw} {n k : Nat} {q : Program} {loose : List Str} {XP : (Str → Option Value) → Heap → Prop} {YP : World → Heap → Prop} {d : DefRec} {K : Params → PySem.W.Frag} {sp : World → Sp} {x : Str}
    (hn : l.most = some n) (hn2 : n ≤ sizeLine) (hdf : d.params.defaults = []) (hr : Room k callerA) (hY : ∀ (w : World) (h : Heap), YP w h → (K w.params).In h)
    (F : ∀ (w : World) (mg : Str → Option Value) (fa : Addr) (h : Heap), (K w.params).In h → h.Ns mainGlobals mg → mg d.name = some (.ref fa) →
      ∃ fd : FuncData, (∀ (s : Shared) (u : Value), BindsTo s fd ⟨[u], []⟩ [(x, u)]) ∧
        ∀ base : Heap, (K w.params).In base → base.Ns mainGlobals mg → FnG l.prog w (K w.params) mg base k fa fd [x] (sp w))
    (hsp : ∀ (w : World) (H : Hp) (a : Addr) (ns : List Int), ns.length ≤ n → Only H → SqL (K w.params) H a (ns.map V.int) →
      sp w [.ref a] H (fun v _ => v = .bl true) fun _ _ _ => False) :
    PySem.W.WalkO q loose XP YP l.row.toRowW d [] (fun f vs => PySem.call f vs) := by
  refine Att.attach_call hn hdf fun w s₀ s₁ mg mb fa o pm cd doc a vs ns G Y ho hd hcd hmg hobj hints hlen hg => ?_
  obtain ⟨fd, hb, hF⟩ := F w mg fa _ (hY w _ Y) G.T.g hmg
  exact law_callG (hY w _ Y) G.T.g G.T.b G.T.builtins G.T.nolimit hg hobj hints (Nat.le_trans hlen hn2) hr hF hb
    (fun H hO hS => hsp w H a ns hlen hO hS)
end KS
namespace KS
open PySem PySem.Spec PyProof.Rows L2
/-! ### cells and plans -/
abbrev Cell := Int × Int
def CellAt (K : PySem.W.Frag) (H : Hp) (x : V) (c : Cell) : Prop := ∃ t, x = .ref t ∧ SqT K H t [.int c.1, .int c.2]
abbrev CellsAt (K : PySem.W.Frag) (H : Hp) : List V → List Cell → Prop := Paired (CellAt K H)
def lt2 (a b : Cell) : Prop := a.1 < b.1 ∨ (a.1 = b.1 ∧ a.2 < b.2)
def InGrid (c : Cell) : Prop := 0 ≤ c.1 ∧ c.1 ≤ 7 ∧ 0 ≤ c.2 ∧ c.2 ≤ 7
structure Good (cs : List Cell) : Prop where
  asc : cs.Pairwise lt2
  grid : ∀ c ∈ cs, InGrid c
  ne : cs ≠ []
/-- tuples are kept -/
def KT (K : PySem.W.Frag) (H H' : Hp) : Prop := ∀ a xs, SqT K H a xs → SqT K H' a xs
section
variable {K : PySem.W.Frag} {H H1 H2 H' : Hp}
theorem KT.trans (a : KT K H H1) (b : KT K H1 H2) : KT K H H2 := fun x xs h => b x xs (a x xs h)
theorem KT.of_same (a : Same H H1) : KT K H H1 := fun _ _ h => same_seqT a h
theorem KT.of_keepX {p : Addr} (hp : PoolO (H p)) (a : KeepX p H H1) : KT K H H1 := fun _ _ h => keepX_seqT hp a h
theorem KT.upd {e : Addr} {ys : List V} {o : HO} (h : H e = some (.lst ys)) : KT K H (upd H e o) := fun a xs q => by
  rcases q with (q | ⟨ob, q⟩) | q
  · exact .inl (.inl (by rw [upd_ne (ne_of q h (by intro z; cases z))]; exact q))
  · exact .inl (.inr ⟨ob, by rw [upd_ne (ne_of q h (by intro z; cases z))]; exact q⟩)
  · exact .inr q
theorem CellAt.kt {x : V} {c : Cell} (k : KT K H H') (h : CellAt K H x c) : CellAt K H' x c := by
  obtain ⟨t, e, q⟩ := h
  exact ⟨t, e, k _ _ q⟩
theorem cells_kt {xs : List V} {cs : List Cell} (k : KT K H H') (h : CellsAt K H xs cs) : CellsAt K H' xs cs := Paired.mono (fun _ _ q => q.kt k) h
end
theorem paired_append {α β : Type} {F : α → β → Prop} : ∀ {l₁ l₁' : List α} {l₂ l₂' : List β}, Paired F l₁ l₂ → Paired F l₁' l₂' → Paired F (l₁ ++ l₁') (l₂ ++ l₂')
  | _, _, _, _, .nil, h => h
  | _, _, _, _, .cons r t, h => .cons r (paired_append t h)
theorem paired_get {α β : Type} {F : α → β → Prop} : ∀ {l₁ : List α} {l₂ : List β} {i : Nat} {x : α}, Paired F l₁ l₂ → l₁[i]? = some x → ∃ y, l₂[i]? = some y ∧ F x y
  | _, _, _, _, .nil, h => by simp at h
  | _, _, 0, _, .cons r t, h => by
    simp at h
    subst h
    exact ⟨_, rfl, r⟩
  | _, _, i + 1, _, .cons r t, h => by
    simp at h
    obtain ⟨y, e, f⟩ := paired_get t h
    exact ⟨y, by simpa using e, f⟩
theorem paired_erase {α β : Type} {F : α → β → Prop} : ∀ {l₁ : List α} {l₂ : List β} (i : Nat), Paired F l₁ l₂ → Paired F (l₁.eraseIdx i) (l₂.eraseIdx i)
  | _, _, _, .nil => .nil
  | _, _, 0, .cons r t => t
  | _, _, i + 1, .cons r t => .cons r (paired_erase i t)
/-- the cells of one row -/
def rowCells (r c : Int) (n : Nat) : List Cell := (List.range n).map fun (s : Nat) => (r, c + (s : Int))
theorem rowCells_succ (r c : Int) (n : Nat) : rowCells r c (n + 1) = rowCells r c n ++ [(r, c + (n : Int))] := by
  unfold rowCells
  rw [List.range_succ, List.map_append]
  rfl
theorem rowCells_mem {r c : Int} {n : Nat} {x : Cell} (h : x ∈ rowCells r c n) : x.1 = r ∧ c ≤ x.2 ∧ x.2 < c + n := by
  unfold rowCells at h
  obtain ⟨s, hs, rfl⟩ := List.mem_map.mp h
  have := List.mem_range.mp hs
  refine ⟨rfl, ?_, ?_⟩ <;> show _ <;> simp <;> omega
theorem rowCells_asc (r c : Int) : ∀ n : Nat, (rowCells r c n).Pairwise lt2
  | 0 => List.Pairwise.nil
  | n + 1 => by
    rw [rowCells_succ, List.pairwise_append]
    refine ⟨rowCells_asc r c n, List.pairwise_singleton _ _, fun a ha b hb => ?_⟩
    obtain ⟨e1, e2, e3⟩ := rowCells_mem ha
    rw [List.mem_singleton] at hb
    subst hb
    exact .inr ⟨e1, e3⟩
theorem rowCells_len (r c : Int) (n : Nat) : (rowCells r c n).length = n := by
  unfold rowCells
  rw [List.length_map, List.length_range]
def PlanAt (K : PySem.W.Frag) (H : Hp) (a : Addr) (cs : List Cell) : Prop := ∃ xs, SqT K H a xs ∧ CellsAt K H xs cs
theorem PlanAt.kt {K : PySem.W.Frag} {H H' : Hp} {a : Addr} {cs : List Cell} (k : KT K H H') (h : PlanAt K H a cs) : PlanAt K H' a cs := by
  obtain ⟨xs, h1, h2⟩ := h
  exact ⟨xs, k _ _ h1, cells_kt k h2⟩
def spPlan (K : PySem.W.Frag) : Sp := fun vs H Q _ => ∃ (p : Addr) (m : Int), vs = [.ref p, .int m] ∧ PoolO (H p) ∧ 1 ≤ m ∧ m ≤ 24 ∧
  ∀ H' a cs, KeepX p H H' → PoolO (H' p) → PlanAt K H' a cs → Good cs → (cs.length : Int) ≤ m → H a = none → Q (.ref a) H'
/-- where _law_plan stands behind its first loop -/
structure PlSt (K : PySem.W.Frag) (p : Addr) (H : Hp) (m mode wide high top left : Int) (σ : L2.St) (H' : Hp) : Prop where
  ex : ∃ (e : Addr) (xs : List V) (cs : List Cell) (y8 y9 y10 : Option V),
    σ = [some (.ref p), some (.int m), some (.int mode), some (.int wide), some (.int high), some (.int top), some (.int left), some (.ref e), y8, y9, y10, none, none] ∧
    H e = none ∧ e ≠ p ∧ H' e = some (.lst xs) ∧ CellsAt K H' xs cs ∧ Good cs ∧ cs.length ≤ 64
  kx : KeepX p H H'
  po : PoolO (H' p)
/-- every = [spot for spot in every if ..] or every -/
def tFil (K : PySem.W.Frag) (tc : TT) : TS := tAsg (tOrT K (tLc (iList K (tVar 7)) (gName 12) tc (tVar 12) [12]) (tVar 7)) (gName 7)
theorem small64 {n : Nat} (h : n ≤ 64) : n < sizeLine := by
  rw [sizeLine_eq]
  omega
theorem fil_ok {K : PySem.W.Frag} {p : Addr} {H : Hp} {m mode wide high top left : Int} {tc : TT} {D : Ends} {σ : L2.St} {H' : Hp} (h : PlSt K p H m mode wide high top left σ H')
    (htc : ∀ (t : Addr) (c : Cell) (H2 : Hp) (R : Bool → Hp → Prop), SqT K H2 t [.int c.1, .int c.2] → PoolO (H2 p) → (∀ b H3, KeepX p H2 H3 → PoolO (H3 p) → R b H3) → tc (σ.set 12 (some (.ref t))) H2 R)
    (k : ∀ σ' H'', PlSt K p H m mode wide high top left σ' H'' → D.nx σ' H'') : tFil K tc D σ H' := by
  obtain ⟨⟨e, xs, cs, y8, y9, y10, rfl, he0, hep, he, hc, gd, hl⟩, kx, po⟩ := h
  have hlen := Paired.length hc
  refine ⟨_, rfl, e, rfl, ⟨_, SqL.of he⟩, fun d nd => ?_⟩
  have ned : e ≠ d := ne_of_none he nd
  have npd : p ≠ d := po.ne nd
  refine lc_list (K := K) (a := e) (xs := xs) (fun i H2 => ∃ (acc : List V) (cs' : List Cell), H2 d = some (.lst acc) ∧ CellsAt K H2 acc cs' ∧ cs'.Sublist (cs.take i) ∧
    KeepX p H H2 ∧ PoolO (H2 p) ∧ H2 e = some (.lst xs) ∧ CellsAt K H2 xs cs) ?_ ?_ ?_ ?_
  · have s1 := same_new (o := .lst []) nd
    refine ⟨[], [], upd_same, .nil, List.nil_sublist _, kx.trans (.of_same s1), po.same s1, s1 _ _ he, cells_kt (.of_same s1) hc⟩
  · rintro i H2 _ ⟨acc, cs', _, _, _, _, _, h6, _⟩
    exact SqL.of h6
  · rintro i x H2 hi ⟨acc, cs', h1, h2, h3, h4, h5, h6, h7⟩
    obtain ⟨c, hci, t, rfl, ht⟩ := paired_get h7 hi
    have hlt : i < cs.length := (List.getElem?_eq_some_iff.mp hci).1
    have tk : cs.take (i + 1) = cs.take i ++ [c] := by
      rw [List.take_add_one, hci]
      rfl
    refine ⟨rfl, htc t c H2 _ ht h5 (fun b H3 k3 p3 => ?_)⟩
    have q3 : KT K H2 H3 := KT.of_keepX h5 k3
    have hd3 : H3 d = some (.lst acc) := k3 _ _ (Ne.symm npd) h1
    have he3 : H3 e = some (.lst xs) := k3 _ _ hep h6
    have hal : acc.length ≤ 64 := by
      rw [Paired.length h2]
      exact Nat.le_trans h3.length_le (by rw [List.length_take]; omega)
    refine ite2 (fun _ => ?_) (fun _ => ?_)
    · refine ⟨_, rfl, acc, hd3, small64 hal, acc ++ [.ref t], cs' ++ [c], upd_same, ?_, ?_, ?_, ?_, ?_, ?_⟩
      · exact cells_kt (q3.trans (KT.upd hd3)) (paired_append h2 (.cons ⟨t, rfl, ht⟩ .nil))
      · rw [tk]
        exact List.Sublist.append h3 (List.Sublist.refl _)
      · intro b o n e2
        rw [upd_ne (fun z => by
          subst z
          have q := kx b o n e2
          rw [nd] at q
          cases q)]
        exact k3 _ _ n (h4 _ _ n e2)
      · rw [upd_ne npd]
        exact p3
      · rw [upd_ne ned]
        exact he3
      · exact cells_kt (q3.trans (KT.upd hd3)) h7
    · refine ⟨acc, cs', hd3, cells_kt q3 h2, ?_, h4.trans k3, p3, he3, cells_kt q3 h7⟩
      rw [tk]
      exact List.Sublist.trans h3 (List.sublist_append_left _ _)
  · rintro H2 ⟨acc, cs', h1, h2, h3, h4, h5, h6, h7⟩
    have h3' : cs'.Sublist cs := List.Sublist.trans h3 (List.take_sublist _ _)
    refine ⟨!acc.isEmpty, .inl ⟨acc, SqL.of h1, rfl⟩, ite2 (fun e1 => ?_) (fun e1 => ?_)⟩
    · refine k _ _ ⟨⟨d, acc, cs', y8, y9, y10, rfl, ?_, Ne.symm npd, h1, h2, ⟨gd.asc.sublist h3', fun c hc => gd.grid c (h3'.subset hc), ?_⟩, Nat.le_trans h3'.length_le hl⟩, h4, h5⟩
      · cases q : H d with
        | none => rfl
        | some o =>
          have z := kx d o (Ne.symm npd) q
          rw [nd] at z
          cases z
      · intro z
        subst z
        cases h2
        cases e1
    · exact ⟨_, rfl, k _ _ ⟨⟨e, xs, cs, y8, y9, y10, rfl, he0, hep, h6, h7, gd, hl⟩, h4, h5⟩⟩
end KS
namespace KS
open PySem PySem.Spec PyProof.Rows L2
abbrev tDr (tm : TE) : TE := tCall spDraw [] E0 (tCons (tVar 0) (tCons tm tNil))
abbrev rAdd : V → V → Hp → VK → Prop := rI0 fun i j => .int (i + j)
/-- if mode == 2: high, wide = 1 + draw(pool, 8), 1 + draw(pool, 8) -/
theorem par_if {p : Addr} {m mode wide high : Int} {σr : L2.St} {H2 : Hp} {D : Ends} (po : PoolO (H2 p)) (hw : 1 ≤ wide ∧ wide ≤ 8) (hh : 1 ≤ high ∧ high ≤ 8)
    (k : ∀ (wide' high' : Int) (H3 : Hp), KeepX p H2 H3 → PoolO (H3 p) → 1 ≤ wide' ∧ wide' ≤ 8 → 1 ≤ high' ∧ high' ≤ 8 → D.nx (some (.ref p) :: some (.int m) :: some (.int mode) :: some (.int wide') :: some (.int high') :: σr) H3) :
    tIfS (tTest (tOp rEq (tVar 2) (tC (.int 2)))) (tPar 4 3 (tCons (tOp rAdd (tC (.int 1)) (tDr (tC (.int 8)))) (tCons (tOp rAdd (tC (.int 1)) (tDr (tC (.int 8)))) tNil))) tNext D
      (some (.ref p) :: some (.int m) :: some (.int mode) :: some (.int wide) :: some (.int high) :: σr) H2 := by
  refine ⟨_, rfl, rfl, _, rfl, ite2 (fun e => ?_) (fun e => ?_)⟩
  · refine ⟨_, rfl, p, 8, rfl, po, by decide, by decide, fun H3 a k3 po3 a0 a1 => ?_⟩
    refine ⟨_, _, rfl, rfl, _, rfl, p, 8, rfl, po3, by decide, by decide, fun H4 b k4 po4 b0 b1 => ?_⟩
    exact ⟨_, _, rfl, rfl, _, _, rfl, k (1 + b) (1 + a) H4 (k3.trans k4) po4 ⟨by omega, by omega⟩ ⟨by omega, by omega⟩⟩
  · exact k wide high H2 (KeepX.refl _ _) po hw hh
/-- if mode == n: every = [spot for spot in every if ..] or every -/
theorem fil_if {K : PySem.W.Frag} {p : Addr} {H : Hp} {m mode wide high top left n : Int} {tc : TT} {D : Ends} {σ : L2.St} {H' : Hp} (h : PlSt K p H m mode wide high top left σ H')
    (htc : ∀ (t : Addr) (c : Cell) (H2 : Hp) (R : Bool → Hp → Prop), SqT K H2 t [.int c.1, .int c.2] → PoolO (H2 p) → (∀ b H3, KeepX p H2 H3 → PoolO (H3 p) → R b H3) → tc (σ.set 12 (some (.ref t))) H2 R)
    (k : ∀ σ' H'', PlSt K p H m mode wide high top left σ' H'' → D.nx σ' H'') : tIfS (tTest (tOp rEq (tVar 2) (tC (.int n)))) (tFil K tc) tNext D σ H' := by
  obtain ⟨e, xs, cs, y8, y9, y10, es, rest⟩ := h.ex
  refine ⟨.int mode, by rw [es]; rfl, rfl, _, rfl, ite2 (fun e => ?_) (fun e => ?_)⟩
  · exact fil_ok h htc k
  · exact k _ _ h
theorem draw_test {K : PySem.W.Frag} {p : Addr} {H : Hp} {m mode wide high top left n : Int} {σ : L2.St} {H' : Hp} (h : PlSt K p H m mode wide high top left σ H') (n0 : 0 < n) (n1 : n < 1073741824)
    (t : Addr) (c : Cell) (H2 : Hp) (R : Bool → Hp → Prop) (ht : SqT K H2 t [.int c.1, .int c.2]) (po : PoolO (H2 p)) (k : ∀ b H3, KeepX p H2 H3 → PoolO (H3 p) → R b H3) :
    tTest (tOp (rI0 fun i j => .bl (decide (i > j))) (tDr (tC (.int n))) (tC (.int 0))) (σ.set 12 (some (.ref t))) H2 R := by
  obtain ⟨e, xs, cs, y8, y9, y10, es, rest⟩ := h.ex
  subst es
  exact ⟨_, rfl, p, n, rfl, po, n0, n1, fun H3 r k3 po3 r0 r1 => ⟨_, _, rfl, rfl, _, rfl, k _ _ k3 po3⟩⟩
end KS
namespace KS
open PySem PySem.Spec PyProof.Rows L2
abbrev rSub : V → V → Hp → VK → Prop := rI0 fun i j => .int (i - j)
abbrev rLe : V → V → Hp → VK → Prop := rI0 fun i j => .bl (decide (i ≤ j))
theorem fil3_if {K : PySem.W.Frag} {p : Addr} {H : Hp} {m mode wide high top left : Int} {D : Ends} {σ : L2.St} {H' : Hp} (h : PlSt K p H m mode wide high top left σ H')
    (k : ∀ σ' H'', PlSt K p H m mode wide high top left σ' H'' → D.nx σ' H'') :
    tIfS (tTest (tOp rEq (tVar 2) (tC (.int 3)))) (tSeq (tAsg (tOp rAdd (tOp rAdd (tVar 5) (tVar 6)) (tDr (tC (.int 4)))) (gName 9))
      (tSeq (tAsg (tOp rSub (tOp rSub (tOp rAdd (tOp rAdd (tOp rAdd (tVar 5) (tVar 6)) (tVar 4)) (tVar 3)) (tC (.int 2))) (tDr (tC (.int 4)))) (gName 10))
      (tFil K (tTest (tChain rLe rLe (tVar 9) (tCB (rSumT K) (tCons (tVar 12) tNil)) (tVar 10)))))) tNext D σ H' := by
  obtain ⟨⟨e, xs, cs, y8, y9, y10, rfl, he0, hep, he, hc, gd, hl⟩, kx, po⟩ := id h
  refine ⟨_, rfl, rfl, _, rfl, ite2 (fun e => ?_) (fun e => ?_)⟩
  · refine ⟨_, rfl, _, rfl, _, _, rfl, rfl, _, rfl, p, 4, rfl, po, by decide, by decide, fun H1 a k1 po1 _ _ => ⟨_, _, rfl, rfl, ?_⟩⟩
    refine ⟨_, rfl, _, rfl, _, _, rfl, rfl, _, rfl, _, _, rfl, rfl, _, rfl, _, _, rfl, rfl, _, _, rfl, rfl, _, rfl, p, 4, rfl, po1, by decide, by decide, fun H2 b k2 po2 _ _ => ⟨_, _, rfl, rfl, ?_⟩⟩
    have k12 := k1.trans k2
    refine fil_ok (p := p) (H := H) (m := m) (mode := mode) (wide := wide) (high := high) (top := top) (left := left)
      ⟨⟨_, xs, cs, y8, _, _, rfl, he0, hep, k12 _ _ hep he, cells_kt (KT.of_keepX po k12) hc, gd, hl⟩, kx.trans k12, po2⟩ (fun t c H3 R ht p3 kk => ?_) k
    refine ⟨_, rfl, _, rfl, t, [c.1, c.2], rfl, ht, _, _, rfl, rfl, _, rfl, ite2 (fun e1 => ?_) (fun e1 => ?_)⟩
    · exact ⟨_, rfl, _, _, rfl, rfl, _, rfl, kk _ _ (KeepX.refl _ _) p3⟩
    · exact ⟨_, rfl, kk _ _ (KeepX.refl _ _) p3⟩
  · exact k _ _ h
end KS
namespace KS
open PySem PySem.Spec PyProof.Rows L2
theorem tyx_tup {K : PySem.W.Frag} {H : Hp} {a : Addr} {xs : List V} (h : SqT K H a xs) : TyX K H (.ref a) (.type "tuple") := by
  rcases h with (h | ⟨o, h⟩) | h
  · exact .base (.tup h)
  · exact .fTuple h
  · obtain ⟨o, its, n, e, c, r⟩ := h
    exact .kTuple e c
theorem bl_true {p : Prop} [Decidable p] (h : p) : V.bl (decide p) = V.bl true := by rw [decide_eq_true h]
theorem bl_false {p : Prop} [Decidable p] (h : ¬ p) : V.bl (decide p) = V.bl false := by rw [decide_eq_false h]
/-- a number of a row or column -/
def Place (v : Int) : Prop := 0 ≤ v ∧ v ≤ 7
def spWhole : Sp := fun vs H Q _ => ∃ i : Int, vs = [.int i] ∧ Q (.bl true) H
def spBetween : Sp := fun vs H Q _ => ∃ i lo hi : Int, vs = [.int i, .int lo, .int hi] ∧ lo ≤ i ∧ i ≤ hi ∧ Q (.bl true) H
def spPlace : Sp := fun vs H Q _ => ∃ i : Int, vs = [.int i] ∧ Place i ∧ Q (.bl true) H
def spIsCell (K : PySem.W.Frag) : Sp := fun vs H Q _ => ∃ (a : Addr) (c : Cell), vs = [.ref a] ∧ SqT K H a [.int c.1, .int c.2] ∧ InGrid c ∧ Q (.bl true) H
def spCheck (K : PySem.W.Frag) : Sp := fun vs H Q _ => ∃ (a : Addr) (cs : List Cell), vs = [.ref a] ∧ PlanAt K H a cs ∧ Good cs ∧ cs.length ≤ 24 ∧ ∀ H', Same H H' → Q .non H'
theorem good_step {cs : List Cell} (g : cs.Pairwise lt2) {i : Nat} {a b : Cell} (h1 : cs[i]? = some a) (h2 : cs[i + 1]? = some b) : lt2 a b := by
  obtain ⟨l1, e1⟩ := List.getElem?_eq_some_iff.mp h1
  obtain ⟨l2, e2⟩ := List.getElem?_eq_some_iff.mp h2
  have := (List.pairwise_iff_getElem.mp g) i (i + 1) l1 l2 (by omega)
  rw [e1, e2] at this
  exact this
theorem not_le2 {a b : Cell} (h : lt2 a b) : Ob.lexAt (fun j => decide (([b.1, b.2] : List Int).getD j 0 = ([a.1, a.2] : List Int).getD j 0)) (fun j => decide (([b.1, b.2] : List Int).getD j 0 ≤ ([a.1, a.2] : List Int).getD j 0)) (decide (([b.1, b.2] : List Int).length ≤ ([a.1, a.2] : List Int).length)) 0 (min ([b.1, b.2] : List Int).length ([a.1, a.2] : List Int).length) = false := by
  show Ob.lexAt _ _ _ 0 2 = false
  rw [Ob.lexAt_succ, Ob.lexAt_succ]
  show (if decide (b.1 = a.1) = true then (if decide (b.2 = a.2) = true then _ else decide (b.2 ≤ a.2)) else decide (b.1 ≤ a.1)) = false
  rcases h with h | ⟨h1, h2⟩
  · rw [if_neg (by simp; omega)]
    simp
    omega
  · rw [if_pos (by simp; omega), if_neg (by simp; omega)]
    simp
    omega
end KS
namespace KS
open PySem PySem.Spec PyProof.Rows L2
/-! ### f(k = v, ..), keywords alone -/
structure KwBinds (fd : FuncData) (ps ks : List Str) (g : List Value → List Value) (gV : List V → List V) : Prop where
  to : ∀ (s : Shared) (ws : List Value), (g ws).length = ps.length → BindsTo s fd ⟨[], ks.zip ws⟩ (ps.zip (g ws))
  rel : ∀ {zs : List V} {ws : List Value}, Vals zs ws → Vals (gV zs) (g ws)
def tCallKw (sp : Sp) (gV : List V → List V) (E : XK) (tk : TA) : TE := fun σ H Q => tk σ H fun zs H2 => sp (gV zs) H2 Q E
section
variable {X : Cx} {CX : CXT} {k : Nat} {f : Addr} {fd : FuncData} {ps ks : List Str} {sp : Sp} {E : XK} {x : Str} {p pos : Pos} {kws : List Keyword} {tk : TA} {g : List Value → List Value} {gV : List V → List V}
theorem pe_callKw (F : FnOk X.prog X.w X.K X.mg X.base CX k f fd ps sp) (hr : Room k X.A) (hg : Gl X x) (hm : X.mg x = some (.ref f)) (hk : PySem.W.keepIn X.K (.ref f) = true) (hb : KwBinds fd ps ks g gV)
    (hx : Passes CX X E) (hkw : PK X kws tk) (hall : (backToKw pos (keywordEach kws X.env)).all (·.1.isSome) = true := by rfl)
    (hks : (backToKw pos (keywordEach kws X.env)).filterMap (·.1) = ks := by rfl) (hdb : (x == ("__debug__" : Str)) = false := by decide)
    (hpl : ((backTo pos (starEach [] X.env)).any (·.1) || (backToKw pos (keywordEach kws X.env)).any (·.1.isNone)) = false := by rfl) :
    PE X (.Call (.Name x p) [] kws pos) (tCallKw sp gV E tk) := by
  refine ⟨fun pins s σ H Q I h => wpAny_Call_Name_kw (ld_glob I hg hm ?_ hdb)⟩
  refine PySem.W.callWith_KW0 (h₀ := X.base) I.ok.mod.kin hk hall ?_ hpl
  refine thn (hkw.run pos pins s σ H _ I h) fun ws s2 hh => ?_
  obtain ⟨zs, H2, I2, rz, q2⟩ := hh
  refine ⟨I2.kIn, ?_⟩
  rw [hks]
  have r2 := hb.rel rz
  have hl : (g ws).length = ps.length := by
    rw [← r2.length]
    exact F.len _ _ _ _ q2
  show wpAny _ _ (call (.ref f) [] (ks.zip ws)) _ _ _
  refine wpAny_call (codeAny_mono (F.run X.A X.stack s2 H2 ⟨[], ks.zip ws⟩ (g ws) (gV zs) Q E hr I2.env0 (hb.to s2 ws hl) r2 q2) fun z s' hq => ?_)
  cases z with
  | error e => exact hx pins σ H2 s2 e s' I2 hq
  | ok fl =>
    cases fl with
    | ret u => exact I2.after hq
    | next => cases hq
    | brk => cases hq
    | cont => cases hq
end
theorem kw_binds {K : PySem.W.Frag} {x qual : Str} {st : Stmt} {f : Addr} {fd : FuncData} {ps ks : List Str} {g : List Value → List Value} {gV : List V → List V} (F : Fun K x qual st f fd)
    (h : ∀ (kV doc pm : Value) (an : Option Addr) (cdv ct : Value) (ws : List Value), (g ws).length = ps.length →
      bindArgs (PySem.W.fnOf x qual (defArgs st) (defBody st) (defScope st) .none kV doc pm an cdv ct) ⟨[], ks.zip ws⟩ = pure (ps.zip (g ws)))
    (rel : ∀ {zs : List V} {ws : List Value}, Vals zs ws → Vals (gV zs) (g ws)) : KwBinds fd ps ks g gV := by
  obtain ⟨oc, od, kV, doc, pm, an, cdv, ct, osl, rfl, lk, hcd⟩ := F.ex
  exact ⟨fun s ws hl => .of_eq (h kV doc pm an cdv ct ws hl), rel⟩
/-- two keywords, in the other order -/
def swap2 {α : Type} : List α → List α
  | [a, b] => [b, a]
  | _ => []
theorem swap2_rel {zs : List V} {ws : List Value} (r : Vals zs ws) : Vals (swap2 zs) (swap2 ws) := by
  cases r with
  | nil => exact .nil
  | cons r1 r2 =>
    cases r2 with
    | nil => exact .nil
    | cons r3 r4 =>
      cases r4 with
      | nil => exact .cons r3 (.cons r1 .nil)
      | cons _ _ => exact .nil
/-! ### lines, as numbers -/
/-- row (false) or column (true) of a cell -/
def pick (b : Bool) (c : Cell) : Int := if b = true then c.2 else c.1
/-- the indexes below i of cells in line r -/
def idxs (b : Bool) (cs : List Cell) (i : Nat) (r : Int) : List Int := ((List.range i).filter fun j => decide ((cs[j]?).map (pick b) = some r)).map fun (j : Nat) => (j : Int)
theorem idxs_zero (b : Bool) (cs : List Cell) (r : Int) : idxs b cs 0 r = [] := rfl
theorem idxs_hit {b : Bool} {cs : List Cell} {i : Nat} {c : Cell} (h : cs[i]? = some c) : idxs b cs (i + 1) (pick b c) = idxs b cs i (pick b c) ++ [(i : Int)] := by
  unfold idxs
  rw [List.range_succ, List.filter_append, List.map_append]
  congr 1
  rw [List.filter_cons_of_pos (by simp [h])]
  rfl
theorem idxs_miss {b : Bool} {cs : List Cell} {i : Nat} {c : Cell} {r : Int} (h : cs[i]? = some c) (n : pick b c ≠ r) : idxs b cs (i + 1) r = idxs b cs i r := by
  unfold idxs
  rw [List.range_succ, List.filter_append, List.map_append]
  rw [List.filter_cons_of_neg (by simp [h, n])]
  simp
def lnsOf (b : Bool) (cs : List Cell) : List (List Int) := ((List.range 8).map fun (r : Nat) => idxs b cs cs.length (r : Int)).filter fun l => decide (l ≠ [])
theorem idxs_mem {b : Bool} {cs : List Cell} {i : Nat} {r x : Int} (h : x ∈ idxs b cs i r) : 0 ≤ x ∧ x < (i : Int) := by
  unfold idxs at h
  obtain ⟨j, hj, rfl⟩ := List.mem_map.mp h
  have := List.mem_range.mp (List.mem_filter.mp hj).1
  omega
theorem idxs_len (b : Bool) (cs : List Cell) (i : Nat) (r : Int) : (idxs b cs i r).length ≤ i := by
  unfold idxs
  rw [List.length_map]
  exact Nat.le_trans (List.length_filter_le _ _) (by simp)
theorem idxs_grid {b : Bool} {cs : List Cell} {i : Nat} {r : Int} (g : ∀ c ∈ cs, InGrid c) (h : idxs b cs i r ≠ []) : 0 ≤ r ∧ r < 8 := by
  cases e : idxs b cs i r with
  | nil => exact absurd e h
  | cons x l =>
    have hx : x ∈ idxs b cs i r := by
      rw [e]
      exact List.mem_cons_self
    unfold idxs at hx
    obtain ⟨j, hj, rfl⟩ := List.mem_map.mp hx
    have q := of_decide_eq_true (List.mem_filter.mp hj).2
    cases z : cs[j]? with
    | none =>
      rw [z] at q
      cases q
    | some c =>
      rw [z] at q
      have q' : pick b c = r := Option.some.inj q
      have gc := g c (List.mem_of_getElem? z)
      unfold pick at q'
      unfold InGrid at gc
      split at q' <;> omega
/-- two strictly ascending lists with the same members are one -/
theorem asc_ext : ∀ {l m : List Int}, l.Pairwise (· < ·) → m.Pairwise (· < ·) → (∀ x, x ∈ l ↔ x ∈ m) → l = m
  | [], [], _, _, _ => rfl
  | [], y :: m, _, _, h => absurd ((h y).mpr List.mem_cons_self) (by simp)
  | x :: l, [], _, _, h => absurd ((h x).mp List.mem_cons_self) (by simp)
  | x :: l, y :: m, h1, h2, h => by
    rw [List.pairwise_cons] at h1 h2
    have e : x = y := by
      rcases List.mem_cons.mp ((h x).mp List.mem_cons_self) with z | z
      · exact z
      · rcases List.mem_cons.mp ((h y).mpr List.mem_cons_self) with z2 | z2
        · exact z2.symm
        · have a := h2.1 x z
          have b := h1.1 y z2
          omega
    subst e
    congr 1
    refine asc_ext h1.2 h2.2 fun z => ⟨fun hz => ?_, fun hz => ?_⟩
    · rcases List.mem_cons.mp ((h z).mp (List.mem_cons_of_mem _ hz)) with e | e
      · have := h1.1 z hz
        omega
      · exact e
    · rcases List.mem_cons.mp ((h z).mpr (List.mem_cons_of_mem _ hz)) with e | e
      · have := h2.1 z hz
        omega
      · exact e
theorem strict_of {l : List Int} (h : l.Pairwise (· ≤ ·)) (n : l.Nodup) : l.Pairwise (· < ·) := by
  rw [List.nodup_iff_pairwise_ne] at n
  exact (h.and n).imp fun {a b} q => by omega
/-- the lines in use, by number -/
def usedOf (b : Bool) (cs : List Cell) : List Int := ((List.range 8).map fun (r : Nat) => (r : Int)).filter fun r => decide (idxs b cs cs.length r ≠ [])
theorem used_asc (b : Bool) (cs : List Cell) : (usedOf b cs).Pairwise (· < ·) := by
  unfold usedOf
  exact List.Pairwise.sublist List.filter_sublist (by decide)
theorem used_lines (b : Bool) (cs : List Cell) : (usedOf b cs).map (fun r => idxs b cs cs.length r) = lnsOf b cs := by
  unfold usedOf lnsOf
  rw [List.filter_map, List.filter_map, List.map_map]
  rfl
theorem used_mem {b : Bool} {cs : List Cell} (g : ∀ c ∈ cs, InGrid c) (r : Int) : r ∈ usedOf b cs ↔ idxs b cs cs.length r ≠ [] := by
  unfold usedOf
  rw [List.mem_filter]
  refine ⟨fun h => of_decide_eq_true h.2, fun h => ⟨?_, decide_eq_true h⟩⟩
  have := idxs_grid g h
  rw [List.mem_map]
  exact ⟨r.toNat, List.mem_range.mpr (by omega), by omega⟩
/-! ### lines, in the heap -/
def TupI (K : PySem.W.Frag) (H : Hp) (x : V) (l : List Int) : Prop := ∃ t, x = .ref t ∧ SqT K H t (l.map V.int)
def LstI (H : Hp) (x : V) (l : List Int) : Prop := ∃ t, x = .ref t ∧ H t = some (.lst (l.map V.int))
abbrev lineD (l : List Int) : PyData := .tuple (l.map PyData.int)
abbrev linesD (ls : List (List Int)) : PyData := .tuple (ls.map lineD)
theorem dp_ints {K : PySem.W.Frag} {H : Hp} : ∀ l : List Int, DpAll K H (l.map V.int) (l.map PyData.int)
  | [] => .nil
  | x :: l => .cons (.int x) (dp_ints l)
theorem dp_lines {K : PySem.W.Frag} {H : Hp} : ∀ {xs : List V} {ls : List (List Int)}, Paired (TupI K H) xs ls → DpAll K H xs (ls.map lineD)
  | _, _, .nil => .nil
  | _, _, .cons ⟨t, e, h⟩ r => by
    subst e
    exact .cons (.tup h (dp_ints _)) (dp_lines r)
theorem tupI_kt {K : PySem.W.Frag} {H H' : Hp} (k : KT K H H') {xs : List V} {ls : List (List Int)} (h : Paired (TupI K H) xs ls) : Paired (TupI K H') xs ls :=
  Paired.mono (fun _ _ ⟨t, e, q⟩ => ⟨t, e, k _ _ q⟩) h
def spIsKind : Sp := fun vs H Q _ => ∃ b : Bool, vs = [.str (if b = true then "C" else "R")] ∧ ∀ H', Same H H' → Q (.bl true) H'
def spKind : Sp := fun vs H Q _ => ∃ b : Bool, vs = [.str (if b = true then "C" else "R")] ∧ ∀ H', Same H H' → Q .non H'
def spLines (K : PySem.W.Frag) : Sp := fun vs H Q _ => ∃ (a : Addr) (b : Bool) (cs : List Cell), vs = [.ref a, .str (if b = true then "C" else "R")] ∧ PlanAt K H a cs ∧ Good cs ∧ cs.length ≤ 24 ∧
  ∀ H' p xs, Same H H' → SqT K H' p xs → Paired (TupI K H') xs (lnsOf b cs) → Q (.ref p) H'
def spLawLines (K : PySem.W.Frag) : Sp := fun vs H Q _ => ∃ (a : Addr) (b : Bool) (cs : List Cell), vs = [.ref a, .str (if b = true then "C" else "R")] ∧ PlanAt K H a cs ∧ cs.length ≤ 24 ∧
  ∀ H' p xs, Same H H' → H' p = some (.lst xs) → Paired (LstI H') xs (lnsOf b cs) → Q (.ref p) H'
end KS
namespace KS
open PySem PySem.Spec PyProof.Rows L2
/-- 0 if kind == "R" else 1 -/
theorem side_ok {b : Bool} {σ : L2.St} {H : Hp} {Q : VK} (hσ : σ[1]? = some (some (.str (if b = true then "C" else "R")))) (k : Q (.int (if b = true then 1 else 0)) H) :
    tIf (tTest (tOp rEq (tVar 1) (tC (.str "R")))) (tC (.int 0)) (tC (.int 1)) σ H Q := by
  refine ⟨_, hσ, by cases b <;> rfl, _, rfl, ?_⟩
  cases b
  · rw [if_pos (by decide +kernel)]
    exact k
  · rw [if_neg (by decide +kernel)]
    exact k
theorem at_pick {b : Bool} {c : Cell} : atI [V.int c.1, V.int c.2] (if b = true then 1 else 0) = some (V.int (pick b c)) := by
  cases b <;> rfl
/-- the dict of lines behind i cells -/
structure Grp (b : Bool) (cs : List Cell) (i : Nat) (d : Addr) (kvs : List (Key × V)) (ad : Int → Addr) (H : Hp) : Prop where
  dict : H d = some (.dK kvs)
  keys : ∃ ks : List Int, kvs.map (·.1) = ks.map Sum.inl ∧ ks.Nodup ∧ ks.length ≤ i
  val : ∀ r : Int, valV kvs (.inl r) = if idxs b cs i r = [] then none else some (.ref (ad r))
  lst : ∀ r : Int, idxs b cs i r ≠ [] → H (ad r) = some (.lst ((idxs b cs i r).map V.int))
  inj : ∀ r r' : Int, idxs b cs i r ≠ [] → idxs b cs i r' ≠ [] → ad r = ad r' → r = r'
theorem Grp.same {b : Bool} {cs : List Cell} {i : Nat} {d : Addr} {kvs : List (Key × V)} {ad : Int → Addr} {H H' : Hp} (g : Grp b cs i d kvs ad H) (s : Same H H') : Grp b cs i d kvs ad H' :=
  ⟨s _ _ g.dict, g.keys, g.val, fun r h => s _ _ (g.lst r h), g.inj⟩
theorem Grp.more {b : Bool} {cs : List Cell} {i : Nat} {d : Addr} {kvs : List (Key × V)} {ad : Int → Addr} {H : Hp} {c : Cell} (g : Grp b cs i d kvs ad H) (hc : cs[i]? = some c) (h : idxs b cs i (pick b c) ≠ []) :
    Grp b cs (i + 1) d kvs ad (upd H (ad (pick b c)) (.lst ((idxs b cs i (pick b c)).map V.int ++ [.int (i : Nat)]))) := by
  have same : ∀ r, (idxs b cs (i + 1) r = []) ↔ (idxs b cs i r = []) := fun r => by
    by_cases e : pick b c = r
    · subst e
      rw [idxs_hit hc]
      simp [h]
    · rw [idxs_miss hc e]
  have hd : d ≠ ad (pick b c) := ne_of g.dict (g.lst _ h) (by intro z; cases z)
  obtain ⟨ks, k1, k2, k3⟩ := g.keys
  refine ⟨by rw [upd_ne hd]; exact g.dict, ⟨ks, k1, k2, by omega⟩, fun r => ?_, fun r hr => ?_, fun r r' h1 h2 => g.inj r r' (fun z => h1 ((same r).mpr z)) (fun z => h2 ((same r').mpr z))⟩
  · rw [g.val r]
    by_cases e : idxs b cs i r = []
    · rw [if_pos e, if_pos ((same r).mpr e)]
    · rw [if_neg e, if_neg (fun z => e ((same r).mp z))]
  · have hr' : idxs b cs i r ≠ [] := fun z => hr ((same r).mpr z)
    by_cases e : pick b c = r
    · subst e
      rw [upd_same, idxs_hit hc, List.map_append]
      rfl
    · rw [upd_ne (fun z => e (g.inj _ _ h hr' z.symm)), idxs_miss hc e]
      exact g.lst r hr'
theorem Grp.new {b : Bool} {cs : List Cell} {i : Nat} {d z : Addr} {kvs : List (Key × V)} {ad : Int → Addr} {H : Hp} {c : Cell} (g : Grp b cs i d kvs ad H) (hc : cs[i]? = some c) (h : idxs b cs i (pick b c) = []) (nz : H z = none) :
    Grp b cs (i + 1) d (putK kvs (.inl (pick b c)) (.ref z)) (fun r => if r = pick b c then z else ad r) (upd (upd (upd H z (.lst [])) d (.dK (putK kvs (.inl (pick b c)) (.ref z)))) z (.lst ([] ++ [.int (i : Nat)]))) := by
  have hv : valV kvs (.inl (pick b c)) = none := by
    rw [g.val, if_pos h]
  have hdz : d ≠ z := ne_of_none g.dict nz
  have hput : putK kvs (Sum.inl (pick b c)) (V.ref z) = kvs ++ [(Sum.inl (pick b c), V.ref z)] := by
    unfold putK
    rw [if_neg]
    rw [valV_any, hv]
    simp
  have hit : idxs b cs (i + 1) (pick b c) = [(i : Int)] := by
    rw [idxs_hit hc, h]
    rfl
  obtain ⟨ks, k1, k2, k3⟩ := g.keys
  refine ⟨?_, ⟨ks ++ [pick b c], ?_, ?_, ?_⟩, fun r => ?_, fun r hr => ?_, fun r r' h1 h2 => ?_⟩
  · rw [upd_ne hdz, upd_same]
  · rw [hput, List.map_append, List.map_append, k1]
    rfl
  · rw [List.nodup_append]
    refine ⟨k2, by simp, fun x hx y hy e => ?_⟩
    rw [List.mem_singleton] at hy
    subst hy
    subst e
    apply valV_not hv
    rw [k1]
    exact List.mem_map.mpr ⟨_, hx, rfl⟩
  · rw [List.length_append]
    simp
    omega
  · rw [valV_put]
    by_cases e : r = pick b c
    · subst e
      rw [if_pos rfl, hit, if_neg (by simp), if_pos rfl]
    · rw [if_neg (fun q => e (Sum.inl.inj q)), g.val, idxs_miss hc (Ne.symm e), if_neg e]
  · by_cases e : r = pick b c
    · subst e
      show upd _ _ _ (if _ then z else _) = _
      rw [if_pos rfl, upd_same, hit]
      rfl
    · show upd _ _ _ (if _ then z else _) = _
      rw [if_neg e]
      rw [idxs_miss hc (Ne.symm e)] at hr ⊢
      have hl := g.lst r hr
      rw [upd_ne (ne_of_none hl nz), upd_ne (ne_of hl g.dict (by intro q; cases q)), upd_ne (ne_of_none hl nz)]
      exact hl
  · intro e
    by_cases e1 : r = pick b c
    · by_cases e2 : r' = pick b c
      · rw [e1, e2]
      · have e' : (if r = pick b c then z else ad r) = (if r' = pick b c then z else ad r') := e
        rw [if_pos e1, if_neg e2] at e'
        rw [idxs_miss hc (Ne.symm e2)] at h2
        have := g.lst r' h2
        rw [← e', nz] at this
        cases this
    · have e' : (if r = pick b c then z else ad r) = (if r' = pick b c then z else ad r') := e
      rw [idxs_miss hc (Ne.symm e1)] at h1
      by_cases e2 : r' = pick b c
      · rw [if_neg e1, if_pos e2] at e'
        have := g.lst r h1
        rw [e', nz] at this
        cases this
      · rw [if_neg e1, if_neg e2] at e'
        rw [idxs_miss hc (Ne.symm e2)] at h2
        exact g.inj r r' h1 h2 e'
/-- the sorted keys are the lines in use -/
theorem Grp.used {b : Bool} {cs : List Cell} {d : Addr} {kvs : List (Key × V)} {ad : Int → Addr} {H : Hp} {ks ys : List Int} (g : Grp b cs cs.length d kvs ad H) (gr : ∀ c ∈ cs, InGrid c) (e : kvs.map (·.1) = ks.map Sum.inl) (n : ks.Nodup) (p : ys.Perm ks) (s : ys.Pairwise (· ≤ ·)) : ys = usedOf b cs := by
  refine asc_ext (strict_of s (p.nodup_iff.mpr n)) (used_asc b cs) fun r => ?_
  rw [p.mem_iff, used_mem gr]
  have key : r ∈ ks ↔ (Sum.inl r : Key) ∈ kvs.map (·.1) := by
    rw [e, List.mem_map]
    exact ⟨fun h => ⟨r, h, rfl⟩, fun ⟨x, hx, q⟩ => by cases q; exact hx⟩
  rw [key]
  constructor
  · intro h z
    have hv : valV kvs (.inl r) = none := by rw [g.val, if_pos z]
    exact valV_not hv h
  · intro h
    exact valV_in (v := .ref (ad r)) (by rw [g.val, if_neg h])
end KS
namespace KS
open PySem PySem.Spec PyProof.Rows L2
theorem ints_lay : ∀ l : List Int, PyData.canLayAll0 (l.map PyData.int) = true ∧ PyData.depthAll (l.map PyData.int) = 0
  | [] => ⟨by simp only [List.map_nil, PyData.canLayAll0], by simp only [List.map_nil, PyData.depthAll]⟩
  | x :: l => by
    obtain ⟨h1, h2⟩ := ints_lay l
    simp only [List.map_cons, PyData.canLayAll0, PyData.depthAll, PyData.canLay0, PyData.depth, h1, h2, Bool.and_self, Nat.max_self, and_self]
theorem ints_shaped (l : List Int) : SeqAt.shaped (.list (l.map PyData.int)) = true := by
  obtain ⟨h1, h2⟩ := ints_lay l
  unfold SeqAt.shaped
  simp only [PyData.canLay0, PyData.depth, h1, h2]
  decide
theorem ints_eqv_nil (l : List Int) : PyData.eqv (.list (l.map PyData.int)) (.list []) = l.isEmpty := by
  cases l with
  | nil => decide
  | cons x l => rfl
theorem kind_test (b : Bool) : decide (V.str (if b = true then "C" else "R") = V.str "C") = b := by
  cases b <;> decide +kernel
/-- the lines below r that are in use -/
def lnsTo (b : Bool) (cs : List Cell) (r : Nat) : List (List Int) := ((List.range r).map fun (r : Nat) => idxs b cs cs.length (r : Int)).filter fun l => decide (l ≠ [])
theorem lnsTo_hit {b : Bool} {cs : List Cell} {r : Nat} (h : idxs b cs cs.length (r : Int) ≠ []) : lnsTo b cs (r + 1) = lnsTo b cs r ++ [idxs b cs cs.length (r : Int)] := by
  unfold lnsTo
  rw [List.range_succ, List.map_append, List.filter_append]
  congr 1
  rw [List.map_cons, List.filter_cons_of_pos (by simpa using h)]
  rfl
theorem lnsTo_miss {b : Bool} {cs : List Cell} {r : Nat} (h : idxs b cs cs.length (r : Int) = []) : lnsTo b cs (r + 1) = lnsTo b cs r := by
  unfold lnsTo
  rw [List.range_succ, List.map_append, List.filter_append, List.map_cons, List.filter_cons_of_neg (by simp [h])]
  simp
theorem lnsTo_len (b : Bool) (cs : List Cell) (r : Nat) : (lnsTo b cs r).length ≤ r := by
  unfold lnsTo
  exact Nat.le_trans (List.length_filter_le _ _) (by simp)
end KS
namespace KS
open PySem PySem.Spec PyProof.Rows L2
/-! ### small data can be shown -/
theorem small_int {x : Int} (h0 : 0 ≤ x) (h1 : x < 10000) : PyData.leavesShort 8 (.int x) = true ∧ PyData.showable (.int x) = true ∧ PyData.weight (.int x) ≤ 14 := by
  obtain ⟨n, rfl⟩ := Int.eq_ofNat_of_zero_le h0
  have hn : n < 10000 := by omega
  have hlog : n.log2 < 14 := by
    rcases Nat.eq_zero_or_pos n with z | z
    · subst z
      decide
    · exact (Nat.log2_lt (by omega)).mpr (by omega)
  refine ⟨?_, ?_, ?_⟩
  · simp only [PyData.leavesShort]
    exact decide_eq_true (by
      simp only [PyData.shown]
      exact toString_length_le (k := 8) (by omega) (by decide) (by show (n : Int) < 10 ^ 8; omega))
  · simp only [PyData.showable]
    exact decide_eq_true (by show n.log2 < 1920; omega)
  · simp only [PyData.weight]
    split
    · omega
    · show n.log2 + 1 ≤ 14
      omega
/-- what repr asks of its data -/
structure Shows (d : PyData) (n : Nat) : Prop where
  short : d.leavesShort 8 = true
  show_ : d.showable = true
  nod : d.hasDict = false
  wt : d.weight ≤ n
structure ShowsAll (ds : List PyData) (n : Nat) : Prop where
  short : PyData.leavesShortAll 8 ds = true
  show_ : PyData.showableAll ds = true
  nod : PyData.hasDictAll ds = false
  wt : PyData.weightAll ds ≤ (n + 1) * ds.length
theorem showsAll_of {n : Nat} : ∀ {ds : List PyData}, (∀ d ∈ ds, Shows d n) → ShowsAll ds n
  | [], _ => ⟨by simp only [PyData.leavesShortAll], by simp only [PyData.showableAll], by simp only [PyData.hasDictAll], by simp [PyData.weightAll]⟩
  | d :: ds, h => by
    have h1 := h d List.mem_cons_self
    have h2 := showsAll_of fun x hx => h x (List.mem_cons_of_mem _ hx)
    refine ⟨?_, ?_, ?_, ?_⟩
    · simp only [PyData.leavesShortAll, h1.short, h2.short, Bool.and_self]
    · simp only [PyData.showableAll, h1.show_, h2.show_, Bool.and_self]
    · simp only [PyData.hasDictAll, h1.nod, h2.nod, Bool.or_self]
    · simp only [PyData.weightAll, List.length_cons]
      have a := h1.wt
      have b := h2.wt
      rw [Nat.mul_add, Nat.mul_one]
      omega
theorem shows_tuple {n m : Nat} {ds : List PyData} (h : ShowsAll ds n) (hm : (n + 1) * ds.length ≤ m) : Shows (.tuple ds) m := by
  refine ⟨?_, ?_, ?_, ?_⟩
  · simp only [PyData.leavesShort, h.short]
  · simp only [PyData.showable, h.show_]
  · simp only [PyData.hasDict, h.nod]
  · simp only [PyData.weight]
    exact Nat.le_trans h.wt hm
theorem shows_int {x : Int} (h0 : 0 ≤ x) (h1 : x < 10000) : Shows (.int x) 14 := by
  obtain ⟨a, b, c⟩ := small_int h0 h1
  exact ⟨a, b, by simp only [PyData.hasDict], c⟩
theorem Shows.len {d : PyData} {n : Nat} (h : Shows d n) (hn : n ≤ 1048576) : d.shown.length ≤ sizeLine :=
  PyData.shown_fits (B := 8) (by decide) (by decide) h.short (Nat.le_trans h.wt (by
    show n ≤ 2 ^ 20
    have : (2 : Nat) ^ 20 = 1048576 := by decide
    omega))
theorem shows_line {l : List Int} (h : ∀ x ∈ l, 0 ≤ x ∧ x < 10000) (hl : l.length ≤ 64) : Shows (lineD l) 960 := by
  refine shows_tuple (n := 14) (showsAll_of fun d hd => ?_) ?_
  · obtain ⟨x, hx, rfl⟩ := List.mem_map.mp hd
    exact shows_int (h x hx).1 (h x hx).2
  · rw [List.length_map]
    omega
theorem shows_lines {ls : List (List Int)} (h : ∀ l ∈ ls, (∀ x ∈ l, 0 ≤ x ∧ x < 10000) ∧ l.length ≤ 64) (hl : ls.length ≤ 64) : Shows (linesD ls) 61504 := by
  refine shows_tuple (n := 960) (showsAll_of fun d hd => ?_) ?_
  · obtain ⟨l, hx, rfl⟩ := List.mem_map.mp hd
    exact shows_line (h l hx).1 (h l hx).2
  · rw [List.length_map]
    omega
theorem depth_line (l : List Int) : (lineD l).depth = 1 := by
  simp only [PyData.depth, (ints_lay l).2]
theorem depth_lines : ∀ ls : List (List Int), PyData.depthAll (ls.map lineD) ≤ 1
  | [] => by simp [PyData.depthAll]
  | l :: ls => by
    have a := depth_lines ls
    have b := depth_line l
    simp only [List.map_cons, PyData.depthAll]
    omega
theorem lns_small {b : Bool} {cs : List Cell} (hl : cs.length ≤ 24) : Shows (linesD (lnsOf b cs)) 61504 ∧ (linesD (lnsOf b cs)).depth ≤ 64 := by
  refine ⟨shows_lines (fun l h => ?_) ?_, ?_⟩
  · unfold lnsOf at h
    obtain ⟨r, _, rfl⟩ := List.mem_map.mp (List.mem_filter.mp h).1
    refine ⟨fun x hx => ?_, ?_⟩
    · have := idxs_mem hx
      omega
    · have := idxs_len b cs cs.length (r : Int)
      omega
  · have : (lnsOf b cs).length ≤ 8 := lnsTo_len b cs 8
    omega
  · have := depth_lines (lnsOf b cs)
    simp only [PyData.depth]
    omega
/-! ### sorted cells -/
def keyOf (H : Hp) : V → Int × Int
  | .ref t => match H t with
    | some (.tup [.int i, .int j]) => (i, j)
    | _ => (0, 0)
  | _ => (0, 0)
theorem keyOf_at {H : Hp} {t : Addr} {i j : Int} (h : H t = some (.tup [.int i, .int j])) : keyOf H (.ref t) = (i, j) := by
  show (match H t with
    | some (.tup [.int i, .int j]) => ((i, j) : Int × Int)
    | _ => (0, 0)) = (i, j)
  rw [h]
theorem nodup_of_asc {cs : List Cell} (h : cs.Pairwise lt2) : cs.Nodup := by
  rw [List.nodup_iff_pairwise_ne]
  refine h.imp fun {a b} q e => ?_
  subst e
  rcases q with q | q <;> omega
/-- new cells, in a list -/
def NewCells (H : Hp) : List V → List Cell → Prop := Paired fun x c => ∃ t, x = .ref t ∧ H t = some (.tup [.int c.1, .int c.2])
theorem newCells_mono {H H' : Hp} (k : ∀ t ys, H t = some (.tup ys) → H' t = some (.tup ys)) {xs : List V} {cs : List Cell} (h : NewCells H xs cs) : NewCells H' xs cs :=
  Paired.mono (fun _ _ ⟨t, e, q⟩ => ⟨t, e, k _ _ q⟩) h
theorem newCells_key {H : Hp} : ∀ {xs : List V} {cs : List Cell}, NewCells H xs cs → xs.map (keyOf H) = cs
  | _, _, .nil => rfl
  | _, _, .cons ⟨t, e, h⟩ r => by
    subst e
    rw [List.map_cons, keyOf_at h, newCells_key r]
theorem newCells_mem {H : Hp} : ∀ {xs : List V} {cs : List Cell}, NewCells H xs cs → ∀ x ∈ xs, ∃ t, x = .ref t ∧ H t = some (.tup [.int (keyOf H x).1, .int (keyOf H x).2])
  | _, _, .nil, _, h => nomatch h
  | _, _, .cons ⟨t, e, h⟩ r, x, hx => by
    rcases List.mem_cons.mp hx with z | z
    · subst z
      subst e
      exact ⟨t, rfl, by rw [keyOf_at h]; exact h⟩
    · exact newCells_mem r x z
theorem cells_of_mem {K : PySem.W.Frag} {H : Hp} : ∀ {ys : List V}, (∀ x ∈ ys, ∃ t, x = .ref t ∧ H t = some (.tup [.int (keyOf H x).1, .int (keyOf H x).2])) → CellsAt K H ys (ys.map (keyOf H))
  | [], _ => .nil
  | y :: ys, h => by
    obtain ⟨t, e, q⟩ := h y List.mem_cons_self
    exact .cons ⟨t, e, SqT.of q⟩ (cells_of_mem fun x hx => h x (List.mem_cons_of_mem _ hx))
/-- sorted of new cells, all different: they ascend -/
theorem sorted_cells {K : PySem.W.Frag} {H : Hp} {xs ys : List V} {cs : List Cell} (h : NewCells H xs cs) (nd : cs.Nodup) (hs : SrtO.Srtd (ltP (keyOf H)) ys) (hp : ys.Perm xs) :
    CellsAt K H ys (ys.map (keyOf H)) ∧ (ys.map (keyOf H)).Perm cs ∧ (ys.map (keyOf H)).Pairwise lt2 := by
  have p1 : (ys.map (keyOf H)).Perm cs := by
    rw [← newCells_key h]
    exact hp.map _
  refine ⟨cells_of_mem fun x hx => newCells_mem h x (hp.mem_iff.mp hx), p1, ?_⟩
  have n1 : (ys.map (keyOf H)).Nodup := p1.nodup_iff.mpr nd
  have s1 : (ys.map (keyOf H)).Pairwise fun a b => SrtO.lexB b a = false := by
    rw [List.pairwise_map]
    exact hs
  rw [List.nodup_iff_pairwise_ne] at n1
  refine (s1.and n1).imp fun {a b} q => ?_
  obtain ⟨q1, q2⟩ := q
  have q3 : ¬ (b.1 < a.1 ∨ (b.1 = a.1 ∧ b.2 < a.2)) := fun z => by
    rw [SrtO.lexB_iff.mpr z] at q1
    cases q1
  by_cases e1 : a.1 < b.1
  · exact .inl e1
  · by_cases e2 : a.1 = b.1
    · refine .inr ⟨e2, ?_⟩
      by_cases e3 : a.2 = b.2
      · exact absurd (Prod.ext e2 e3) q2
      · have : ¬ b.2 < a.2 := fun z => q3 (.inr ⟨e2.symm, z⟩)
        omega
    · exact absurd (.inl (by omega)) q3
def mir (c : Cell) : Cell := (c.1, 7 - c.2)
theorem nodup_mir {cs : List Cell} (h : cs.Nodup) : (cs.map mir).Nodup := by
  rw [List.nodup_iff_pairwise_ne] at h ⊢
  rw [List.pairwise_map]
  refine h.imp fun {a b} q e => q ?_
  have e0 : ((a.1, 7 - a.2) : Int × Int) = (b.1, 7 - b.2) := e
  injection e0 with e1 e2
  exact Prod.ext e1 (by omega)
theorem good_mir {cs ds : List Cell} (g : Good cs) (p : ds.Perm (cs.map mir)) (a : ds.Pairwise lt2) : Good ds ∧ ds.length = cs.length := by
  have hl : ds.length = cs.length := by rw [p.length_eq, List.length_map]
  refine ⟨⟨a, fun d hd => ?_, fun z => ?_⟩, hl⟩
  · obtain ⟨c, hc, rfl⟩ := List.mem_map.mp (p.mem_iff.mp hd)
    have := g.grid c hc
    unfold InGrid at this ⊢
    show 0 ≤ c.1 ∧ c.1 ≤ 7 ∧ 0 ≤ 7 - c.2 ∧ 7 - c.2 ≤ 7
    omega
  · rw [z] at hl
    exact g.ne (List.eq_nil_of_length_eq_zero hl.symm)
def spRight : Sp := fun vs H Q _ => ∃ p : Addr, vs = [.ref p] ∧ PoolO (H p) ∧ ∀ H', KeepX p H H' → Q (.bl true) H'
def spLaw (K : PySem.W.Frag) : Sp := fun vs H Q _ => ∃ (a : Addr) (ns : List Int), vs = [.ref a] ∧ SqL K H a (ns.map V.int) ∧ ns.length ≤ 63 ∧ ∀ H', Q (.bl true) H'
end KS
namespace KS
open PySem PySem.Spec PyProof.Rows L2
/-! ### x in t, t a tuple of plain data -/
def rInT (K : PySem.W.Frag) : V → V → Hp → VK → Prop := fun x y H Q => ∃ d ds, Dp K H x d ∧ Dp K H y (.tuple ds) ∧ SeqAt.shaped d = true ∧ SeqAt.shaped (.tuple ds) = true ∧ Q (.bl (ds.any fun z => PyData.eqv z d)) H
theorem op_inT {X : Cx} (hu : X.A.units + 65 < cLine) : OpR X (compareOp .In) (rInT X.K) := by
  intro pins s σ H x y v u Q I rx ry h
  obtain ⟨d, ds, hd, he, sd, se, q⟩ := h
  obtain ⟨as, r1⟩ := Dp.reads I d x v hd rx
  obtain ⟨bs, r2⟩ := Dp.reads I (.tuple ds) y u he ry
  refine SeqAt.in_tuple_reads r2 r1 (SeqAt.canLay_of_shaped se) (SeqAt.canLay_of_shaped sd) ?_ ⟨.bl _, H, I, rfl, q⟩
  have := SeqAt.depth_of_shaped sd
  have h2 : min (PyData.depthAll ds) d.depth ≤ d.depth := Nat.min_le_right _ _
  omega
/-! ### plans as data -/
abbrev cellD (c : Cell) : PyData := .tuple [.int c.1, .int c.2]
abbrev planD (cs : List Cell) : PyData := .tuple (cs.map cellD)
theorem dp_cell {K : PySem.W.Frag} {H : Hp} {t : Addr} {c : Cell} (h : SqT K H t [.int c.1, .int c.2]) : Dp K H (.ref t) (cellD c) := .tup h (.cons (.int _) (.cons (.int _) .nil))
theorem dp_cells {K : PySem.W.Frag} {H : Hp} : ∀ {xs : List V} {cs : List Cell}, CellsAt K H xs cs → DpAll K H xs (cs.map cellD)
  | _, _, .nil => .nil
  | _, _, .cons ⟨t, e, h⟩ r => by
    subst e
    exact .cons (dp_cell h) (dp_cells r)
theorem PlanAt.dp {K : PySem.W.Frag} {H : Hp} {a : Addr} {cs : List Cell} (h : PlanAt K H a cs) : Dp K H (.ref a) (planD cs) := by
  obtain ⟨xs, h1, h2⟩ := h
  exact .tup h1 (dp_cells h2)
theorem cell_lay (c : Cell) : (cellD c).canLay0 = true ∧ (cellD c).depth = 1 := by
  simp [PyData.canLay0, PyData.canLayAll0, PyData.depth, PyData.depthAll]
theorem cells_lay : ∀ cs : List Cell, PyData.canLayAll0 (cs.map cellD) = true ∧ PyData.depthAll (cs.map cellD) ≤ 1
  | [] => ⟨by simp only [List.map_nil, PyData.canLayAll0], by simp [PyData.depthAll]⟩
  | c :: cs => by
    obtain ⟨a, b⟩ := cells_lay cs
    obtain ⟨x, y⟩ := cell_lay c
    refine ⟨?_, ?_⟩
    · rw [List.map_cons, PyData.canLayAll0, x, a]
      rfl
    · rw [List.map_cons, PyData.depthAll, y]
      omega
theorem cell_shaped (c : Cell) : SeqAt.shaped (cellD c) = true := by
  obtain ⟨x, y⟩ := cell_lay c
  unfold SeqAt.shaped
  rw [x, y]
  rfl
theorem plan_shaped (cs : List Cell) : SeqAt.shaped (planD cs) = true := by
  obtain ⟨a, b⟩ := cells_lay cs
  unfold SeqAt.shaped
  rw [Bool.and_eq_true]
  refine ⟨?_, decide_eq_true ?_⟩
  · simp only [PyData.canLay0, a]
  · simp only [PyData.depth]
    omega
theorem cell_eqv (a b : Cell) : PyData.eqv (cellD a) (cellD b) = decide (a = b) := by
  have h : PyData.eqv (cellD a) (cellD b) = (a.1 == b.1 && (a.2 == b.2 && true)) := by
    simp only [PyData.eqv, PyData.eqvAll]
  rw [h, Bool.and_true]
  by_cases e : a = b
  · subst e
    simp
  · rw [decide_eq_false e]
    by_cases e1 : a.1 = b.1
    · have e2 : a.2 ≠ b.2 := fun z => e (Prod.ext e1 z)
      simp [e1, e2]
    · simp [e1]
theorem in_plan (cs : List Cell) (c : Cell) : ((cs.map cellD).any fun z => PyData.eqv z (cellD c)) = decide (c ∈ cs) := by
  rw [List.any_map]
  by_cases h : c ∈ cs
  · rw [decide_eq_true h, List.any_eq_true]
    exact ⟨c, h, by show PyData.eqv (cellD c) (cellD c) = true; rw [cell_eqv]; simp⟩
  · rw [decide_eq_false h, List.any_eq_false]
    intro x hx z
    have z' : PyData.eqv (cellD x) (cellD c) = true := z
    rw [cell_eqv] at z'
    have := of_decide_eq_true z'
    subst this
    exact h hx
theorem shows_plan {cs : List Cell} (g : ∀ c ∈ cs, InGrid c) (hl : cs.length ≤ 64) : Shows (planD cs) 1984 ∧ (planD cs).depth ≤ 64 := by
  refine ⟨shows_tuple (n := 30) (showsAll_of fun d hd => ?_) ?_, ?_⟩
  · obtain ⟨c, hc, rfl⟩ := List.mem_map.mp hd
    have := g c hc
    unfold InGrid at this
    refine shows_tuple (n := 14) (showsAll_of fun d hd => ?_) (by show (14 + 1) * 2 ≤ 30; decide)
    rcases List.mem_cons.mp hd with z | z
    · subst z
      exact shows_int (by omega) (by omega)
    · rcases List.mem_cons.mp z with z | z
      · subst z
        exact shows_int (by omega) (by omega)
      · cases z
  · rw [List.length_map]
    omega
  · have := (cells_lay cs).2
    simp only [PyData.depth]
    omega
/-! ### ascending lists of cells -/
theorem asc_ext2 : ∀ {l m : List Cell}, l.Pairwise lt2 → m.Pairwise lt2 → (∀ x, x ∈ l ↔ x ∈ m) → l = m
  | [], [], _, _, _ => rfl
  | [], y :: m, _, _, h => absurd ((h y).mpr List.mem_cons_self) (by simp)
  | x :: l, [], _, _, h => absurd ((h x).mp List.mem_cons_self) (by simp)
  | x :: l, y :: m, h1, h2, h => by
    rw [List.pairwise_cons] at h1 h2
    have no : ∀ a b : Cell, lt2 a b → lt2 b a → False := fun a b p q => by
      unfold lt2 at p q
      omega
    have e : x = y := by
      rcases List.mem_cons.mp ((h x).mp List.mem_cons_self) with z | z
      · exact z
      · rcases List.mem_cons.mp ((h y).mpr List.mem_cons_self) with z2 | z2
        · exact z2.symm
        · exact (no _ _ (h2.1 x z) (h1.1 y z2)).elim
    subst e
    congr 1
    refine asc_ext2 h1.2 h2.2 fun z => ⟨fun hz => ?_, fun hz => ?_⟩
    · rcases List.mem_cons.mp ((h z).mp (List.mem_cons_of_mem _ hz)) with e | e
      · exact (no _ _ (h1.1 z hz) (e ▸ h1.1 z hz)).elim
      · exact e
    · rcases List.mem_cons.mp ((h z).mpr (List.mem_cons_of_mem _ hz)) with e | e
      · exact (no _ _ (h2.1 z hz) (e ▸ h2.1 z hz)).elim
      · exact e
theorem asc_perm {l m : List Cell} (h1 : l.Pairwise lt2) (h2 : m.Pairwise lt2) (p : l.Perm m) : l = m := asc_ext2 h1 h2 fun x => p.mem_iff
def swp (c : Cell) : Cell := (c.2, c.1)
theorem nodup_swp {cs : List Cell} (h : cs.Nodup) : (cs.map swp).Nodup := by
  rw [List.nodup_iff_pairwise_ne] at h ⊢
  rw [List.pairwise_map]
  refine h.imp fun {a b} q e => q ?_
  have e0 : ((a.2, a.1) : Int × Int) = (b.2, b.1) := e
  injection e0 with e1 e2
  exact Prod.ext e2 e1
theorem good_swp {cs ds : List Cell} (g : Good cs) (p : ds.Perm (cs.map swp)) (a : ds.Pairwise lt2) : Good ds ∧ ds.length = cs.length := by
  have hl : ds.length = cs.length := by rw [p.length_eq, List.length_map]
  refine ⟨⟨a, fun d hd => ?_, fun z => ?_⟩, hl⟩
  · obtain ⟨c, hc, rfl⟩ := List.mem_map.mp (p.mem_iff.mp hd)
    have := g.grid c hc
    unfold InGrid at this ⊢
    show 0 ≤ c.2 ∧ c.2 ≤ 7 ∧ 0 ≤ c.1 ∧ c.1 ≤ 7
    omega
  · rw [z] at hl
    exact g.ne (List.eq_nil_of_length_eq_zero hl.symm)
theorem swp_back {cs ds es : List Cell} (g : cs.Pairwise lt2) (p : ds.Perm (cs.map swp)) (p2 : es.Perm (ds.map swp)) (a : es.Pairwise lt2) : es = cs := by
  refine asc_perm a g (p2.trans ?_)
  have := p.map swp
  refine this.trans ?_
  rw [List.map_map]
  have e : (swp ∘ swp) = id := by
    funext c
    rfl
  rw [e, List.map_id]
/-! ### rectangles -/
def Full (cs : List Cell) : Prop := ∀ r k : Int, (∃ c ∈ cs, c.1 ≤ r) → (∃ c ∈ cs, r ≤ c.1) → (∃ c ∈ cs, c.2 ≤ k) → (∃ c ∈ cs, k ≤ c.2) → (r, k) ∈ cs
noncomputable def rectB (cs : List Cell) : Bool := @decide (Full cs) (Classical.propDecidable _)
theorem rectB_true {cs : List Cell} (h : Full cs) : rectB cs = true := by
  unfold rectB
  exact @decide_eq_true _ (Classical.propDecidable _) h
theorem rectB_false {cs : List Cell} (h : ¬ Full cs) : rectB cs = false := by
  unfold rectB
  exact @decide_eq_false _ (Classical.propDecidable _) h
theorem full_swp {cs ds : List Cell} (p : ds.Perm (cs.map swp)) (h : Full cs) : Full ds := by
  have to : ∀ c : Cell, c ∈ ds → swp c ∈ cs := fun c hc => by
    obtain ⟨x, hx, rfl⟩ := List.mem_map.mp (p.mem_iff.mp hc)
    exact hx
  intro r k ⟨a, ha, a1⟩ ⟨b, hb, b1⟩ ⟨c, hc, c1⟩ ⟨d, hd, d1⟩
  have := h k r ⟨swp c, to c hc, c1⟩ ⟨swp d, to d hd, d1⟩ ⟨swp a, to a ha, a1⟩ ⟨swp b, to b hb, b1⟩
  exact p.mem_iff.mpr (List.mem_map.mpr ⟨(k, r), this, rfl⟩)
theorem rectB_swp {cs ds : List Cell} (p : ds.Perm (cs.map swp)) : rectB ds = rectB cs := by
  have q : cs.Perm (ds.map swp) := by
    have := (p.map swp).symm
    rw [List.map_map] at this
    have e : (swp ∘ swp) = id := by
      funext c
      rfl
    rw [e, List.map_id] at this
    exact this
  by_cases h : Full cs
  · rw [rectB_true h, rectB_true (full_swp p h)]
  · rw [rectB_false h, rectB_false fun z => h (full_swp q z)]
theorem len_of_subset : ∀ {l m : List Cell}, l.Nodup → (∀ x ∈ l, x ∈ m) → l.length ≤ m.length
  | [], _, _, _ => Nat.zero_le _
  | x :: l, m, n, h => by
    rw [List.nodup_cons] at n
    have hx := h x List.mem_cons_self
    have ih := len_of_subset (m := m.erase x) n.2 fun y hy => by
      have hne : y ≠ x := fun e => n.1 (e ▸ hy)
      exact (List.mem_erase_of_ne hne).mpr (h y (List.mem_cons_of_mem _ hy))
    rw [List.length_erase_of_mem hx] at ih
    have : 0 < m.length := List.length_pos_of_mem hx
    rw [List.length_cons]
    omega
/-- the cells of a box: n rows from r, k columns from c -/
def boxOf (r c : Int) (n k : Nat) : List Cell := (List.range n).flatMap fun (i : Nat) => rowCells (r + (i : Int)) c k
theorem box_len (r c : Int) (n k : Nat) : (boxOf r c n k).length = n * k := by
  unfold boxOf
  rw [List.length_flatMap]
  induction n with
  | zero => simp
  | succ n ih =>
    rw [List.range_succ, List.map_append, List.sum_append, ih, List.map_cons, rowCells_len, Nat.succ_mul]
    simp
theorem box_mem {r c : Int} {n k : Nat} {x : Cell} : x ∈ boxOf r c n k ↔ r ≤ x.1 ∧ x.1 < r + n ∧ c ≤ x.2 ∧ x.2 < c + k := by
  unfold boxOf
  rw [List.mem_flatMap]
  constructor
  · rintro ⟨i, hi, hx⟩
    have := List.mem_range.mp hi
    have := rowCells_mem hx
    omega
  · rintro ⟨h1, h2, h3, h4⟩
    refine ⟨(x.1 - r).toNat, List.mem_range.mpr (by omega), ?_⟩
    unfold rowCells
    refine List.mem_map.mpr ⟨(x.2 - c).toNat, List.mem_range.mpr (by omega), ?_⟩
    refine Prod.ext ?_ ?_
    · show r + ((x.1 - r).toNat : Int) = x.1
      omega
    · show c + ((x.2 - c).toNat : Int) = x.2
      omega
theorem box_asc (r c : Int) (k : Nat) : ∀ n : Nat, (boxOf r c n k).Pairwise lt2
  | 0 => List.Pairwise.nil
  | n + 1 => by
    have e : boxOf r c (n + 1) k = boxOf r c n k ++ rowCells (r + (n : Int)) c k := by
      unfold boxOf
      rw [List.range_succ, List.flatMap_append]
      simp
    rw [e, List.pairwise_append]
    refine ⟨box_asc r c k n, rowCells_asc _ _ _, fun a ha b hb => .inl ?_⟩
    have := box_mem.mp ha
    have := rowCells_mem hb
    omega
/-- the count of cells tells the rectangle -/
theorem rect_count {cs : List Cell} {a b c d : Int} (nd : cs.Nodup) (ha : a ∈ cs.map (·.1)) (ha' : ∀ x ∈ cs.map (·.1), a ≤ x) (hb : b ∈ cs.map (·.1)) (hb' : ∀ x ∈ cs.map (·.1), x ≤ b)
    (hc : c ∈ cs.map (·.2)) (hc' : ∀ x ∈ cs.map (·.2), c ≤ x) (hd : d ∈ cs.map (·.2)) (hd' : ∀ x ∈ cs.map (·.2), x ≤ d) : decide ((cs.length : Int) = (b - a + 1) * (d - c + 1)) = rectB cs := by
  have hab : a ≤ b := ha' b hb
  have hcd : c ≤ d := hc' d hd
  have inb : ∀ x ∈ cs, x ∈ boxOf a c (b - a + 1).toNat (d - c + 1).toNat := fun x hx => by
    have h1 := ha' x.1 (List.mem_map.mpr ⟨x, hx, rfl⟩)
    have h2 := hb' x.1 (List.mem_map.mpr ⟨x, hx, rfl⟩)
    have h3 := hc' x.2 (List.mem_map.mpr ⟨x, hx, rfl⟩)
    have h4 := hd' x.2 (List.mem_map.mpr ⟨x, hx, rfl⟩)
    exact box_mem.mpr ⟨h1, by omega, h3, by omega⟩
  have area : (((b - a + 1).toNat * (d - c + 1).toNat : Nat) : Int) = (b - a + 1) * (d - c + 1) := by
    rw [Int.natCast_mul, Int.toNat_of_nonneg (by omega), Int.toNat_of_nonneg (by omega)]
  have le1 := len_of_subset nd inb
  rw [box_len] at le1
  by_cases h : Full cs
  · rw [rectB_true h]
    have le2 : (boxOf a c (b - a + 1).toNat (d - c + 1).toNat).length ≤ cs.length := len_of_subset (nodup_of_asc (box_asc _ _ _ _)) fun x hx => by
      have := box_mem.mp hx
      obtain ⟨xa, ma, ea⟩ := List.mem_map.mp ha
      obtain ⟨xb, mb, eb⟩ := List.mem_map.mp hb
      obtain ⟨xc, mc, ec⟩ := List.mem_map.mp hc
      obtain ⟨xd, md, ed⟩ := List.mem_map.mp hd
      have := h x.1 x.2 ⟨xa, ma, by omega⟩ ⟨xb, mb, by omega⟩ ⟨xc, mc, by omega⟩ ⟨xd, md, by omega⟩
      exact this
    rw [box_len] at le2
    exact decide_eq_true (by rw [← area]; omega)
  · rw [rectB_false h]
    refine decide_eq_false fun e => h ?_
    rw [← area] at e
    have e' : cs.length = (b - a + 1).toNat * (d - c + 1).toNat := by omega
    intro r k ⟨x1, m1, q1⟩ ⟨x2, m2, q2⟩ ⟨x3, m3, q3⟩ ⟨x4, m4, q4⟩
    have h1 := ha' x1.1 (List.mem_map.mpr ⟨x1, m1, rfl⟩)
    have h2 := hb' x2.1 (List.mem_map.mpr ⟨x2, m2, rfl⟩)
    have h3 := hc' x3.2 (List.mem_map.mpr ⟨x3, m3, rfl⟩)
    have h4 := hd' x4.2 (List.mem_map.mpr ⟨x4, m4, rfl⟩)
    have hin : ((r, k) : Cell) ∈ boxOf a c (b - a + 1).toNat (d - c + 1).toNat := box_mem.mpr ⟨by show a ≤ r; omega, by show r < _; omega, by show c ≤ k; omega, by show k < _; omega⟩
    by_cases hm : ((r, k) : Cell) ∈ cs
    · exact hm
    · have le3 := len_of_subset (l := (r, k) :: cs) (List.nodup_cons.mpr ⟨hm, nd⟩) fun x hx => by
        rcases List.mem_cons.mp hx with z | z
        · subst z
          exact hin
        · exact inb x z
      rw [box_len, List.length_cons] at le3
      omega
end KS
namespace KS
open PySem PySem.Spec PyProof.Rows L2
/-! ### t[::-1], t a tuple -/
section
variable {prog : Program} {w : World} {A : Around} {E : Value → Shared → Prop} {s : Shared}
theorem adjust_rev (n : Nat) : Builtin.Slice.sliceAdjust none none (-1) (n : Int) = ((n : Int) - 1, -1) := by
  first
  | rfl
  | simp [Builtin.Slice.sliceAdjust]
theorem places_rev (n : Nat) : Builtin.Slice.slicePlaces ((n : Int) - 1) (-1) (-1) = n := by
  unfold Builtin.Slice.slicePlaces
  by_cases h : n = 0
  · subst h
    decide
  · simp
    omega
theorem applied_rev {sl : Addr} {vl vu vs : Value} {n : Nat} {Q : Int × Int × Nat → Shared → Prop} (hs : s.heap.IsSliceOf sl vl vu vs) (pl : IsPart vl none) (pu : IsPart vu none) (ps : IsPart vs (some (-1)))
    (h : Q ((n : Int) - 1, -1, n) s) : wpAny (model prog w) A (Builtin.Slice.sliceApplied (.ref sl) (pure (n : Int))) Q E s := by
  obtain ⟨os, hos, hcs, hds⟩ := id hs
  unfold Builtin.Slice.sliceApplied Builtin.Slice.sliceFields
  refine wpAny_bind (wpAny_bind (wpAny_field hos hds (x := vl) rfl
    (wpAny_bind (wpAny_field hos hds (x := vu) rfl (wpAny_bind (wpAny_field hos hds (x := vs) rfl (wpAny_pure ?_)))))))
  refine wpAny_bind (HT.slicePart_ ps ?_)
  show wpAny _ _ (if ((-1 : Int) == 0) = true then _ else _) _ _ s
  rw [if_neg (by decide)]
  refine wpAny_bind (HT.slicePart_ pl (wpAny_bind (HT.slicePart_ pu (wpAny_bind (wpAny_pure ?_)))))
  show wpAny _ _ (match Builtin.Slice.sliceAdjust none none (-1) (n : Int) with | (lo, hi) => pure (lo, (-1 : Int), Builtin.Slice.slicePlaces lo hi (-1))) _ _ s
  rw [adjust_rev n]
  show wpAny _ _ (pure ((n : Int) - 1, (-1 : Int), Builtin.Slice.slicePlaces ((n : Int) - 1) (-1) (-1))) _ _ s
  rw [places_rev]
  exact wpAny_pure h
theorem pick_rev (xs : Array Value) : ((List.range xs.size).filterMap fun (k : Nat) => xs[(((xs.size : Int) - 1) + (k : Int) * (-1)).toNat]?).toArray = xs.toList.reverse.toArray := by
  have e : (fun (k : Nat) => xs[(((xs.size : Int) - 1) + (k : Int) * (-1)).toNat]?) = (xs[·]?) ∘ fun k => xs.size - 1 - k := by
    funext k
    show xs[(((xs.size : Int) - 1) + (k : Int) * (-1)).toNat]? = xs[xs.size - 1 - k]?
    have z : (((xs.size : Int) - 1) + (k : Int) * (-1)).toNat = xs.size - 1 - k := by omega
    rw [z]
  rw [e, ← List.filterMap_map, PySem.W.krv_range, List.filterMap_reverse, PySem.W.krv_all]
theorem getItem_tuple_rev {t sl : Addr} {items : Array Value} {vl vu vs : Value} {Q : Value → Shared → Prop} (ht : IsTup s.heap t items) (hs : s.heap.IsSliceOf sl vl vu vs) (pl : IsPart vl none) (pu : IsPart vu none)
    (ps : IsPart vs (some (-1))) (h : Q (.ref s.heap.objs.size) { s with heap := s.heap.push { cls := .type "tuple", data := .seq items.toList.reverse.toArray } }) (hsz : items.size ≤ sizeLine) :
    wpAny (model prog w) A (getItem (.ref t) (.ref sl)) Q E s := by
  have htake : sizeOk (.seq items.toList.reverse.toArray) := by
    show items.toList.reverse.toArray.size ≤ sizeLine
    rw [List.size_toArray, List.length_reverse, Array.length_toList]
    exact hsz
  obtain ⟨os, hos, hcs, hds⟩ := id hs
  have hTs : s.TypeIs (.ref sl) "slice" := ⟨os, hos, hcs⟩
  unfold getItem
  try with_reducible refine wpAny_holding ?_
  first | refine wpAny_bind (wpAny_pure ?_) | skip
  refine wpAny_bind (wpAny_sequenceKey ht.typeIs (by decide) ?_)
  refine wpAny_bind (wpAny_callSpecial?_slot (name := Str.ofString "__getitem__") ht.typeIs PyProof.Rows.slot_tuple_getitem (wpAny_call_entry PyProof.Rows.slot_tuple_getitem ht.typeIs entry_tuple_getitem ?_ (args_tuple_getitem _ _)))
  show wpAny _ _ (Builtin.Tuple.tupleItemsOf (.ref t) >>= _) _ _ s
  refine wpAny_bind (tupleItemsOf_ ht (wpAny_bind (wpAny_typeOf hTs ?_)))
  rw [if_pos (by decide)]
  refine wpAny_bind (applied_rev hs pl pu ps ?_)
  have hno : ¬ ((((items.size : Int) - 1) == 0 && (-1 : Int) == 1 && items.size == items.size) = true) := by
    simp
  show wpAny _ _ (if (((items.size : Int) - 1) == 0 && (-1 : Int) == 1 && items.size == items.size) = true then _ else _) _ _ s
  rw [if_neg hno, pick_rev]
  first
    | exact wpAny_bind (m := Builtin.Tuple.tupleExact _) (wpAny_newObj_type (wpAny_pure ⟨_, rfl, wpAny_pure h⟩) htake)
    | exact wpAny_bind (m := Builtin.Tuple.tupleExact _) (wpAny_newObj_type (wpAny_bind (wpAny_pure (wpAny_pure ⟨_, rfl, wpAny_pure h⟩))) htake)
    | exact wpAny_bind (wpAny_bind (m := Builtin.Tuple.tupleExact _) (wpAny_newObj_type (wpAny_pure (wpAny_pure ⟨_, rfl, wpAny_pure h⟩)) htake))
    | exact wpAny_bind (wpAny_bind (m := Builtin.Tuple.tupleExact _) (wpAny_newObj_type (wpAny_pure ⟨_, rfl, wpAny_pure h⟩) htake))
end
def tRevT (K : PySem.W.Frag) (te : TE) : TE := fun σ H Q => te σ H fun x H1 => ∃ a xs, x = .ref a ∧ SqT K H1 a xs ∧ ∀ p, H1 p = none → Q (.ref p) (upd H1 p (.tup xs.reverse))
theorem pe_revT {X : Cx} {e : Expr} {te : TE} {k : Nat} {p1 p2 p3 pos : Pos} (he : PE X e te) :
    PE X (.Subscript e (.Slice none none (some (.UnaryOp .USub (.Constant (.int 1) k p1) p2)) p3) pos) (tRevT X.K te) := by
  refine ⟨fun pins s σ H Q I h => Subscript_ (thn (he.run pins s σ H _ I h) fun v s1 hh => ?_)⟩
  obtain ⟨x, H1, I1, r1, a, xs, ex, hx, q⟩ := hh
  subst ex
  cases r1
  have hst : PO X (some (.UnaryOp .USub (.Constant (.int 1) k p1) p2)) (tPart (tUn (rU fun i => .int (-i)) (tC (.int 1)))) := po_some (pe_un un_neg pe_int)
  refine wpAny_Slice (thn (po_none.run pins s1 σ H1 (fun o H2 => o = none ∧ H2 = H1) I1 ⟨rfl, rfl⟩) fun vl s2 h2 => ?_)
  obtain ⟨l, H2, I2, pl, el, e2⟩ := h2
  subst el e2
  refine thn (po_none.run pins s2 σ H2 (fun o H3 => o = none ∧ H3 = H2) I2 ⟨rfl, rfl⟩) fun vu s3 h3 => ?_
  obtain ⟨u, H3, I3, pu, eu, e3⟩ := h3
  subst eu e3
  refine thn (hst.run pins s3 σ H3 (fun o H4 => o = some (-1) ∧ H4 = H3) I3 ⟨1, rfl, -1, rfl, rfl, rfl⟩) fun vs s4 h4 => ?_
  obtain ⟨o, H4, I4, ps, eo, e4⟩ := h4
  subst eo e4
  have I5 : Inv X pins σ H4 { s4 with heap := s4.heap.push { cls := .type "slice", data := .fields #[vl, vu, vs] } } :=
    I4.kept (t' := s4.toks) fun b ob q => Heap.get?_push_of_some _ q
  obtain ⟨its, r, ht, hz⟩ := I5.tuple hx
  have hlen := r.length
  show wpAny (model X.prog X.w) X.A (subscriptTail e (.Slice none none (some (.UnaryOp .USub (.Constant (.int 1) k p1) p2)) p3) (.ref a) (.ref s4.heap.objs.size)) (EP X pins σ Q) X.xe
    { s4 with heap := s4.heap.push { cls := .type "slice", data := .fields #[vl, vu, vs] } }
  refine tail_any (ops := [.ref a, .ref s4.heap.objs.size]) ht.typeIs PyProof.Rows.slot_tuple_getitem.lookup ?_ (by with_unfolding_all rfl)
  refine getItem_tuple_rev ht (Heap.IsSliceOf.new _ vl vu vs) pl pu ps ?_ (by rw [List.size_toArray]; omega)
  refine ⟨.ref _, _, I5.laid (t' := s4.toks) (o := .tup xs.reverse) (fun b ob q => Heap.get?_push_of_some _ q) (Nat.le_refl _) ?_, rfl, q _ (I5.hok.fresh (Nat.le_refl _))⟩
  exact ⟨by rw [List.length_reverse]; exact hz, _, r.reverse, IsTup.new _ _⟩
end KS
namespace PySem
namespace XInvalidPlan
open PySem.W PySem.Calls PyProof.Rows PySem.HandSPX
/-! ### the text of __init__ -/
def iA (p1 p2 : Pos) : Arguments := { posonlyargs := [], args := [{ arg := "self", annotation := none, pos := p1 }, { arg := "index", annotation := none, pos := p2 }], vararg := none, kwonlyargs := [], kw_defaults := [], kwarg := none, defaults := [] }
def iB (q1 q2 q3 q4 : Pos) : List Stmt := [.Assign [.Attribute (.Name "self" q1) "index" q2] (.Name "index" q3) q4]
def iS : Scope := { kind := .function, names := [(PySem.Str.ofString "self", .local), (PySem.Str.ofString "index", .local)], isGenerator := false, isCoroutine := false, more := [] }
/-- what the written part says of Low, at C, and of its __init__, at fI -/
structure InvalidPlanTxt (K : Frag) (mg : Str → Option Value) (C fI : Addr) : Prop where
  gC : mg "InvalidPlan" = some (.ref C)
  cls : ∃ nm q N bs bm sn sub ab col dd k0 k1 k2 k3 k5, K.lookup C = some (excClassObj nm q C N bs bm true sn sub ab col dd k0 k1 k2 k3 k5 "ValueError.__new__") ∧ refsVE bm = true
  sa : findIn K (.ref C) "__setattr__" = some (some (.builtin "object.__setattr__"))
  ga : findIn K (.ref C) "__getattribute__" = some (some (.builtin "BaseException.__getattribute__"))
  gg : findIn K (.ref C) "__getattr__" = some none
  noN : findIn K (.ref C) "index" = some none
  iC : findIn K (.ref C) "__init__" = some (some (.ref fI))
  tC : typeIn K (.ref fI) = some (.type "function")
  kC : keepIn K (.ref C) = true
  exC : subIn K (.ref C) (.type "BaseException") = some true
  tyC : typeIn K (.ref C) = some (.type "type")
  hdC : hasDictIn K C = true
  te : exmOne K (.ref C) (.ref C) = some true
  fn : ∃ (oc : Value) (od : Option Addr) (doc pm : Value) (an : Option Addr) (cdv ct : Value) (osl : Array (Option Value)) (p1 p2 q1 q2 q3 q4 : Pos),
    K.lookup fI = some ⟨oc, od, .func (fnOf "__init__" "InvalidPlan.__init__" (iA p1 p2) (iB q1 q2 q3 q4) iS .none .none doc pm an cdv ct), osl⟩ ∧ codeIn K cdv "InvalidPlan.__init__" = true
theorem one_size (v : Value) : [v].length ≤ sizeLine := by
  rw [sizeLine_eq]
  exact (by decide : 1 ≤ 16777216)
theorem kept_but {K : Frag} {h h' : Heap} {x : Addr} (X : K.In h) (hx : K.lookup x = none) (k : ∀ b o, b ≠ x → h.get? b = some o → h'.get? b = some o) : K.In h' := fun a o e =>
  k a o (fun z => by rw [z, hx] at e; cases e) (X a o e)
theorem ldC {M : Model} {s : Shared} {name : Str} {scope : Scope} {L a : Addr} {cd : Value} {m : Str → Option Value} {x : Str} {pos : Pos} {v : Value} {Q : Value → Shared → Prop} {A : Around} {E : Value → Shared → Prop} (hn : s.heap.Ns L m) (hv : m x = some v) (h : Q v s)
    (hk : scope.kind = .function := by rfl) (hl : (envOfC name scope L a cd).kindOf x = some .local := by rfl) (hd : (x == ("__debug__" : Str)) = false := by decide) :
    wpAny M A (eval (.Name x pos) (envOfC name scope L a cd)) Q E s := wpAny_Name (wpAny_loadName_local hk hl hn hv h) hd
/-- what __init__ leaves of a fresh exception at x -/
structure InitEnd (h h' : Heap) (x C dx t1 : Addr) (v : Value) : Prop where
  keep : ∀ b o, b ≠ x → h.get? b = some o → h'.get? b = some o
  obj : h'.get? x = some { cls := .ref C, dict := some dx, data := .fields #[.ref t1, .none, .none, .none, .bool false, .none] }
  dbig : h.objs.size ≤ dx
  dne : dx ≠ x
  ns : h'.Ns1 dx (fun y => if y = "index" then some v else none)
/-- made -/
structure OwnMade (h h' : Heap) (e C d : Addr) (v : Value) : Prop where
  keep : ∀ b o, h.get? b = some o → h'.get? b = some o
  new : h.objs.size ≤ e
  obj : ∃ oe vs, h'.get? e = some oe ∧ oe.cls = .ref C ∧ oe.dict = some d ∧ oe.data = .fields vs ∧ vs[1]? = some .none
  dbig : h.objs.size ≤ d
  dne : d ≠ e
  ns : h'.Ns1 d (fun y => if y = "index" then some v else none)
section
variable {prog : Program} {w : World} {A : Around} {E : Value → Shared → Prop} {R : Result → Shared → Prop} {s : Shared} {K : Frag} {mg : Str → Option Value} {C fI : Addr}
theorem _initInvalidPlan (T : InvalidPlanTxt K mg C fI) {x t0 : Addr} {v : Value} (X : K.In s.heap) (hlim : s.heap.NoLimit) (hx : s.heap.get? x = some (excO C t0)) (hnx : K.lookup x = none) (hroom : A.depth < recursionLimit)
    (hq : ∀ h' tk dx, InitEnd s.heap h' x C dx t0 v → R (.ok (.ret .none)) { s with heap := h', toks := tk }) :
    codeAny (model prog w) A (.call (.ref fI) ⟨[.ref x, v], []⟩) R s := by
  obtain ⟨oc, od, doc, pm, an, cdv, ct, osl, p1, p2, q1, q2, q3, q4, ho, hcd⟩ := T.fn
  obtain ⟨nm, q, N, bs, bm, sn, sub, ab, col, dd, k0, k1, k2, k3, k5, hC, hbm⟩ := T.cls
  have hcl : clsIn K C = some { name := nm, bases := bs, mro := .ref C :: bm, ns := N, qualname := q, hasDict := true, slotNames := sn, subclasses := sub, abstract := ab, collection := col, hasDel := false } := by unfold clsIn; rw [hC] <;> rfl
  refine Att.call_fn (binds := [("self", .ref x), ("index", v)]) X hlim ho hcd hroom (BindsTo.of_eq (by first | rfl | with_unfolding_all rfl)) (by first | rfl | decide | with_unfolding_all rfl) (fun s₁ IC => ?_) rfl rfl rfl
  obtain ⟨h₁, tk₁, rfl⟩ := IC.toInCall.same
  have k : ∀ b o, s.heap.get? b = some o → h₁.get? b = some o := IC.toInCall.keep
  have hn := IC.toInCall.ns
  have hxL : s.heap.objs.size ≠ x := Nat.ne_of_gt (Heap.lt_size hx)
  have X₁ : K.In h₁ := X.keeps k
  have hx₁ := k _ _ hx
  -- self.f = f
  show wpAny _ _ (execs _ _) _ _ _
  refine wpAny_execs_cons (plainObj_wpAny_Assign_Attribute ?_)
  refine ldC (v := v) hn (by first | rfl | with_unfolding_all rfl | kernel_rfl) (ldC (v := .ref x) hn (by first | rfl | with_unfolding_all rfl | kernel_rfl) ?_)
  refine set_plain X₁ (ox := excO C t0) (od := none) ⟨hx₁, rfl, rfl, trivial⟩ T.sa ?_
  refine exc_osa X₁ hx₁ hcl (show refsVE (.ref C :: bm) = true from hbm) rfl T.noN (fun h₃ tk₃ dx k₃ dn dne hx₃ hn₃ => ?_)
  show wpAny _ _ (execs _ _) _ _ _
  have z : s.heap.objs.size < h₁.objs.size := hn.lt
  exact wpAny_execs_nil (hq h₃ tk₃ dx ⟨fun b o hb e => k₃ b o hb (k b o e), hx₃, Nat.le_of_lt (Nat.lt_of_lt_of_le z dn), dne, hn₃⟩)
theorem _madeInvalidPlan (T : InvalidPlanTxt K mg C fI) {v : Value} (X : K.In s.heap) (hlim : s.heap.NoLimit) (hroom : A.depth + 1 < recursionLimit)
    (hq : ∀ h' tk e d, OwnMade s.heap h' e C d v → R (.ok (.ret (.ref e))) { s with heap := h', toks := tk }) :
    codeAny (model prog w) A (.call (.ref C) ⟨[v], []⟩) R s := by
  obtain ⟨nm, q, N, bs, bm, sn, sub, ab, col, dd, k0, k1, k2, k3, k5, hC, hbm⟩ := T.cls
  obtain ⟨hp, g, dr, tk, os⟩ := s
  have k : ∀ b o, hp.get? b = some o → ((hp.push (kdv_tup [v])).push (excO C hp.objs.size)).get? b = some o := fun b o e => Heap.get?_push_of_some _ (Heap.get?_push_of_some _ e)
  have hget : ((hp.push (kdv_tup [v])).push (excO C hp.objs.size)).get? (hp.objs.size + 1) = some (excO C hp.objs.size) := by heap_get
  have hnx : K.lookup (hp.objs.size + 1) = none := by
    cases e : K.lookup (hp.objs.size + 1) with
    | none => rfl
    | some o =>
      have z : hp.get? (hp.objs.size + 1) = some o := X _ _ e
      exact absurd (Nat.lt_of_succ_lt (Heap.lt_size z)) (Nat.lt_irrefl _)
  refine call_own F.excBase_ValueError (fun X => refsVE_contains X bm hbm) (X _ _ hC) (looks_findIn X T.iC) (fun self => bind_fn X self T.tC) (one_size v) ?_
  refine _initInvalidPlan (s := ⟨(hp.push (kdv_tup [v])).push (excO C hp.objs.size), g, dr, tk, os⟩) T (X.keeps k) (hlim.keeps k) hget hnx ?_ fun h' tk' dx ⟨k', hx, dn, dne, hns⟩ => ?_
  · show A.depth + 1 < recursionLimit
    exact hroom
  · have old : ∀ b o, hp.get? b = some o → h'.get? b = some o := fun b o e => k' b o (Nat.ne_of_lt (Nat.lt_succ_of_lt (Heap.lt_size e))) (k b o e)
    have z : hp.objs.size + 1 + 1 ≤ dx := by
      first
        | (simpa only [Heap.size_push] using dn)
        | exact dn
        | (have q := dn; rw [Heap.size_push, Heap.size_push] at q; exact q)
    exact ⟨rfl, hq h' tk' (hp.objs.size + 1) dx ⟨old, Nat.le_succ _, ⟨_, _, hx, rfl, rfl, rfl, rfl⟩, Nat.le_trans (Nat.le_trans (Nat.le_succ _) (Nat.le_succ _)) z, dne, hns⟩⟩
end
end XInvalidPlan
end PySem
namespace L2
open PySem PySem.Spec PyProof.Rows
theorem relO_InvalidPlan {v : V} {v' : Value} (r : RelV v v') (f : Str) : RelO (List.lookup f [(("index" : Str), v)]) (if f = "index" then some v' else none) := by
  by_cases hw : f = "index"
  · subst hw
    rw [if_pos rfl]
    have q : List.lookup ("index" : Str) [(("index" : Str), v)] = some v := by simp [List.lookup]
    rw [q]
    exact r
  · rw [if_neg hw]
    have qw : (f == ("index" : Str)) = false := by simpa using hw
    have q2 : List.lookup f [(("index" : Str), v)] = none := by simp [List.lookup, qw]
    rw [q2]
    trivial
section
variable {X : Cx} {C fI : Addr}
/-- Low(e) -/
def tMkInvalidPlan (C : Addr) (ta : TA) : St → Hp → XK → Prop := fun σ H Q => ta σ H fun vs H1 => ∃ v, vs = [v] ∧ ∀ d, H1 d = none → Q (.ref C) (some d) (upd H1 d (.xd [(("index" : Str), v)]))
theorem pmk_InvalidPlan {a : Expr} {ta : TA} {p pos : Pos} {k : Nat} (T : PySem.XInvalidPlan.InvalidPlanTxt X.K X.mg C fI) (hr : Room k X.A) (ha : PA X [a] ta) (hg : Gl X "InvalidPlan" := by rfl)
    (he : starEach (a :: []) X.env = (false, eval a X.env) :: starEach [] X.env := by rfl) (hpl : (backTo pos (starEach [] X.env)).any (·.1) = false := by rfl) :
    PMk X (.Call (.Name "InvalidPlan" p) [a] [] pos) (tMkInvalidPlan C ta) := by
  intro pins s σ H Q I h
  refine wpAny_Call_Name_kw (ld_glob I hg T.gC ?_)
  refine PySem.W.callWith_K (h₀ := X.base) I.ok.mod.kin T.kC (thn (ha.run pos pins s σ H _ I h) fun us s1 hh => ?_) he hpl
  obtain ⟨vs, H1, I1, r1, v, ev, q1⟩ := hh
  subst ev
  refine ⟨I1.kIn, ?_⟩
  cases r1 with
  | cons rv rn =>
    rename_i v' us'
    cases rn
    show wpAny _ _ (call (.ref C) [v']) _ _ _
    have hlim := I1.nolimit
    obtain ⟨hp, g, dr, tk, os⟩ := s1
    refine wpAny_call (PySem.XInvalidPlan._madeInvalidPlan T I1.kIn hlim (by have := hr.dp; omega) fun h' tk' e d M => ?_)
    show MkP X pins σ Q (.ref e) ⟨h', g, dr, tk', os⟩
    obtain ⟨oe, fv, hoe, hc, hd, hdat, h1⟩ := M.obj
    have hns := M.ns
    obtain ⟨G', g1, g2⟩ := restrict h' fun b => decide (b ≠ e)
    have gk : ∀ b, b ≠ e → G'.get? b = h'.get? b := fun b hb => g1 b (decide_eq_true hb)
    have ge : G'.get? e = none := g2 e (by simp)
    have old : ∀ b o, hp.get? b = some o → G'.get? b = some o := fun b o q => (gk b (Nat.ne_of_lt (Nat.lt_of_lt_of_le (Heap.lt_size q) M.new))).trans (M.keep b o q)
    have ob : ObjOk X.prog X.w (upd H1 d (.xd [(("index" : Str), v)])) G' d (.xd [(("index" : Str), v)]) :=
      ⟨_, hns.at (fun o q => (gk d M.dne).trans q), fun f => relO_InvalidPlan rv f⟩
    have J : Inv X pins σ (upd H1 d (.xd [(("index" : Str), v)])) ⟨G', g, dr, tk', os⟩ := I1.laid (t' := tk') old M.dbig ob
    refine ⟨e, oe, fv, ⟨G', g, dr, tk', os⟩, _, .ref C, some d, rfl, J, fun b o q => ?_, ge, hoe, ⟨hc, hd⟩, hdat, h1, ?_, rfl, I1.bare, raises_own T.exC T.tyC, q1 d (I1.hok.fresh M.dbig)⟩
    · by_cases hb : b = e
      · have q' : G'.get? b = some o := q
        rw [hb, ge] at q'; cases q'
      · exact (gk b hb).symm.trans q
    · rw [upd_ne (Ne.symm M.dne)]
      exact I1.hok.fresh M.new
/-- raise C(e) -/
def tRaiseInvalidPlan (C : Addr) (W : WX) (ta : TA) : TS := fun _ σ H => tMkInvalidPlan C ta σ H fun cls d H' => W cls d σ H'
theorem ps_raiseInvalidPlan {a : Expr} {ta : TA} {W : WX} {p pos pos2 : Pos} {k : Nat} (hc : X.calm = true) (T : PySem.XInvalidPlan.InvalidPlanTxt X.K X.mg C fI) (hr : Room k X.A) (tk : Takes X W) (ha : PA X [a] ta) (hg : Gl X "InvalidPlan" := by rfl)
    (he : starEach (a :: []) X.env = (false, eval a X.env) :: starEach [] X.env := by rfl) (hpl : (backTo pos (starEach [] X.env)).any (·.1) = false := by rfl) :
    PS X (.Raise (some (.Call (.Name "InvalidPlan" p) [a] [] pos)) none pos2) (tRaiseInvalidPlan C W ta) := ps_raise hc tk (pmk_InvalidPlan T hr ha hg he hpl)
/-- x.f, low the exception that the suite holds (at a; its class cls, its dict d) -/
def tByInvalidPlan (C : Addr) (a : Addr) (cls : Value) (d : Option Addr) (te : TE) : TE := fun σ H Q => te σ H fun x H1 => x = .ref a ∧ cls = .ref C ∧ ∃ (dd : Addr) (v : V), d = some dd ∧ H1 dd = some (.xd [(("index" : Str), v)]) ∧ Q v H1
theorem pe_byInvalidPlan {a : Addr} {oe : Obj} {cls : Value} {d : Option Addr} {pn : List (Addr × Obj)} {e : Expr} {te : TE} {pos : Pos} (T : PySem.XInvalidPlan.InvalidPlanTxt X.K X.mg C fI) (hz : Zc cls d oe) (hf : ∃ vs, oe.data = .fields vs) (he : PE (X.suite a ((a, oe) :: pn)) e te)
    (hb : attributeBase e "index" X.env (eval e X.env) = eval e X.env := by rfl) :
    PE (X.suite a ((a, oe) :: pn)) (.Attribute e "index" pos) (tByInvalidPlan C a cls d te) := by
  refine ⟨fun pins s σ H Q I h => ?_⟩
  refine attr_of hb (thn (he.run pins s σ H _ I h) fun u s1 hh => ?_)
  obtain ⟨x, H1, I1, rx, ex, ec, dd, v, ed, ea, q⟩ := hh
  subst ex
  obtain rfl : u = Value.ref a := rx
  subst ec
  subst ed
  obtain ⟨ha, _⟩ := I1.pin (a, oe) (List.mem_append_left _ List.mem_cons_self)
  obtain ⟨vs, hd⟩ := hf
  have hx : ObjOk X.prog X.w H1 s1.heap dd (.xd [(("index" : Str), v)]) := I1.hok dd _ ea
  obtain ⟨mA, hns, hr⟩ := hx
  obtain ⟨od, ho, hl⟩ := lookIn_ns hns
  have l : List.lookup ("index" : Str) [(("index" : Str), v)] = some v := by simp [List.lookup]
  obtain ⟨u, hu, ru⟩ := RelO.some_of (v := v) (o := mA "index") (by rw [← l]; exact hr "index")
  have J : PySem.W.InstAt s1.heap a oe C (some od) := ⟨ha, hz.1, by unfold PySem.W.notCls; rw [hd] <;> rfl, by rw [hz.2]; exact ho⟩
  exact HandSPX.exc_get I1.kIn J T.ga T.gg T.exC (PySem.W.findObj_own T.hdC T.noN rfl (by rw [hl, hu])) (handed_of ru) ⟨v, H1, I1.tok _, ru, q⟩
end
end L2

namespace KS
open PySem PySem.Spec PyProof.Rows L2
theorem exm_self {K : PySem.W.Frag} {S : Addr} (h1 : PySem.W.subIn K (.ref S) (.type "BaseException") = some true) (h2 : PySem.W.isClsIn K S = true) (h3 : PySem.W.typeIn K (.ref S) = some (.type "type")) (h4 : PySem.W.subIn K (.ref S) (.ref S) = some true) :
    PySem.W.exmOne K (.ref S) (.ref S) = some true := by
  have e1 : (PySem.W.subIn K (.ref S) (.type "BaseException") == some true) = true := by rw [h1] <;> rfl
  have e2 : ((PySem.W.clsIn K S).isSome && PySem.W.typeIn K (.ref S) == some (.type "type")) = true := by
    have h2' : (PySem.W.clsIn K S).isSome = true := h2
    rw [h2', h3] <;> rfl
  show (if (PySem.W.subIn K (.ref S) (.type "BaseException") == some true) = true then (if ((PySem.W.clsIn K S).isSome && PySem.W.typeIn K (.ref S) == some (.type "type")) = true then PySem.W.subIn K (.ref S) (.ref S) else none) else none) = some true
  rw [if_pos e1, if_pos e2]
  exact h4
end KS
namespace KS
open PySem PySem.Spec PyProof.Rows L2
/-! ### things of any kind, as is_plan and its law look at them -/
inductive Oth (K : PySem.W.Frag) (H : Hp) : V → String → Prop
  | non : Oth K H .non "NoneType"
  | bl (b : Bool) : Oth K H (.bl b) "bool"
  | int (i : Int) : Oth K H (.int i) "int"
  | str (x : Str) : Oth K H (.str x) "str"
  | lst {a : Addr} {xs : List V} : H a = some (.lst xs) → Oth K H (.ref a) "list"
  | dct {a : Addr} {kvs : List (Key × V)} : H a = some (.dK kvs) → Oth K H (.ref a) "dict"
  | tup {a : Addr} {xs : List V} : SqT K H a xs → Oth K H (.ref a) "tuple"
theorem Oth.ty {K : PySem.W.Frag} {H : Hp} {v : V} {t : String} (h : Oth K H v t) : TyX K H v (.type t) := by
  cases h with
  | non => exact .base .non
  | bl b => exact .base (.bl b)
  | int i => exact .base (.int i)
  | str x => exact .base (.str x)
  | lst e => exact .base (.lst e)
  | dct e => exact .base (.dK e)
  | tup e => exact tyx_tup e
/-- a number of a row or column (true), or a known other thing -/
def PlR (K : PySem.W.Frag) (H : Hp) (v : V) : Bool → Prop
  | true => ∃ i, v = .int i ∧ 0 ≤ i ∧ i ≤ 7
  | false => (∃ i, v = .int i ∧ ¬ (0 ≤ i ∧ i ≤ 7)) ∨ ∃ t, Oth K H v t ∧ t ≠ "int"
/-- an int between bounds (true), or a known other thing -/
def BwR (K : PySem.W.Frag) (H : Hp) (v : V) (lo hi : Int) : Bool → Prop
  | true => ∃ i, v = .int i ∧ lo ≤ i ∧ i ≤ hi
  | false => (∃ i, v = .int i ∧ ¬ (lo ≤ i ∧ i ≤ hi)) ∨ ∃ t, Oth K H v t ∧ t ≠ "int"
def spBetweenG (K : PySem.W.Frag) : Sp := fun vs H Q _ => ∃ (v : V) (lo hi : Int) (b : Bool), vs = [v, .int lo, .int hi] ∧ BwR K H v lo hi b ∧ Q (.bl b) H
theorem bw_of_pl {K : PySem.W.Frag} {H : Hp} {v : V} {b : Bool} (h : PlR K H v b) : BwR K H v 0 7 b := by
  cases b <;> exact h
/-- a cell, or a known other thing -/
def ElR (K : PySem.W.Frag) (H : Hp) (x : V) : Option Cell → Prop
  | some c => CellAt K H x c ∧ InGrid c
  | none => (∃ t, Oth K H x t ∧ t ≠ "tuple") ∨ (∃ t ys, x = .ref t ∧ SqT K H t ys ∧ ys.length ≠ 2) ∨
      ∃ t y0 y1 b0 b1, x = .ref t ∧ SqT K H t [y0, y1] ∧ PlR K H y0 b0 ∧ PlR K H y1 b1 ∧ (b0 && b1) = false
abbrev Els (K : PySem.W.Frag) (H : Hp) : List V → List (Option Cell) → Prop := Paired (ElR K H)
/-- the first i elements are cells that ascend -/
def OkTo (rs : List (Option Cell)) (i : Nat) : Prop := ∀ j, j < i → ∃ c, rs[j]? = some (some c) ∧ ∀ k, j = k + 1 → ∃ c', rs[k]? = some (some c') ∧ lt2 c' c
def BadAt (rs : List (Option Cell)) (i : Nat) : Prop := rs[i]? = some none ∨ ∃ c c' k, rs[i]? = some (some c) ∧ i = k + 1 ∧ rs[k]? = some (some c') ∧ ¬ lt2 c' c
inductive Verd | ok | non | at (i : Nat)
/-- what a thing is worth as a plan -/
def PlanV (K : PySem.W.Frag) (H : Hp) (v : V) : Verd → Prop
  | .ok => ∃ a xs rs, v = .ref a ∧ SqT K H a xs ∧ 1 ≤ xs.length ∧ xs.length ≤ 24 ∧ Els K H xs rs ∧ OkTo rs rs.length
  | .non => (∃ t, Oth K H v t ∧ t ≠ "tuple") ∨ ∃ a xs, v = .ref a ∧ SqT K H a xs ∧ (xs.length = 0 ∨ 24 < xs.length)
  | .at i => ∃ a xs rs, v = .ref a ∧ SqT K H a xs ∧ 1 ≤ xs.length ∧ xs.length ≤ 24 ∧ Els K H xs rs ∧ OkTo rs i ∧ BadAt rs i
def Verd.good : Verd → Bool
  | .ok => true
  | _ => false
theorem lt2_dec (a b : Cell) : lt2 a b ∨ ¬ lt2 a b := Classical.em _
/-- each list of verdicts has a first fault, or none -/
theorem first_bad (rs : List (Option Cell)) : ∀ n, n ≤ rs.length → OkTo rs n ∨ ∃ i, i < n ∧ OkTo rs i ∧ BadAt rs i
  | 0, _ => .inl fun j hj => absurd hj (Nat.not_lt_zero _)
  | n + 1, h => by
    rcases first_bad rs n (by omega) with ok | ⟨i, h1, h2, h3⟩
    · have hn : n < rs.length := by omega
      cases e : rs[n]? with
      | none =>
        have := List.getElem?_eq_none_iff.mp e
        omega
      | some o =>
        cases o with
        | none => exact .inr ⟨n, by omega, ok, .inl e⟩
        | some c =>
          have fin : (∀ k, n = k + 1 → ∃ c', rs[k]? = some (some c') ∧ lt2 c' c) → OkTo rs (n + 1) := fun q j hj => by
            by_cases z : j < n
            · exact ok j z
            · have : j = n := by omega
              subst this
              exact ⟨c, e, q⟩
          cases n with
          | zero => exact .inl (fin fun k z => by omega)
          | succ m =>
            obtain ⟨c', e', _⟩ := ok m (by omega)
            rcases lt2_dec c' c with z | z
            · exact .inl (fin fun k hk => by
                have : k = m := by omega
                subst this
                exact ⟨c', e', z⟩)
            · exact .inr ⟨m + 1, by omega, ok, .inr ⟨c, c', m, e, rfl, e', z⟩⟩
    · exact .inr ⟨i, by omega, h2, h3⟩
/-- a tuple whose elements are known has a worth -/
theorem planV_of {K : PySem.W.Frag} {H : Hp} {a : Addr} {xs : List V} {rs : List (Option Cell)} (h : SqT K H a xs) (e : Els K H xs rs) : ∃ v, PlanV K H (.ref a) v := by
  by_cases c : xs.length = 0 ∨ 24 < xs.length
  · exact ⟨.non, .inr ⟨a, xs, rfl, h, c⟩⟩
  · have hl := Paired.length e
    rcases first_bad rs rs.length (Nat.le_refl _) with ok | ⟨i, _, h2, h3⟩
    · exact ⟨.ok, a, xs, rs, rfl, h, by omega, by omega, e, ok⟩
    · exact ⟨.at i, a, xs, rs, rfl, h, by omega, by omega, e, h2, h3⟩
theorem els_cells {K : PySem.W.Frag} {H : Hp} : ∀ {xs : List V} {cs : List Cell}, CellsAt K H xs cs → (∀ c ∈ cs, InGrid c) → Els K H xs (cs.map some)
  | _, _, .nil, _ => .nil
  | _, _, .cons r t, g => .cons ⟨r, g _ List.mem_cons_self⟩ (els_cells t fun c hc => g c (List.mem_cons_of_mem _ hc))
theorem okTo_good {cs : List Cell} (h : cs.Pairwise lt2) : OkTo (cs.map some) (cs.map some).length := by
  intro j hj
  rw [List.length_map] at hj
  refine ⟨cs[j], by rw [List.getElem?_map, List.getElem?_eq_getElem hj]; rfl, fun k hk => ?_⟩
  subst hk
  have hk : k < cs.length := by omega
  exact ⟨cs[k], by rw [List.getElem?_map, List.getElem?_eq_getElem hk]; rfl, (List.pairwise_iff_getElem.mp h) k (k + 1) hk hj (by omega)⟩
theorem planV_good {K : PySem.W.Frag} {H : Hp} {a : Addr} {cs : List Cell} (h : PlanAt K H a cs) (g : Good cs) (hl : cs.length ≤ 24) : PlanV K H (.ref a) .ok := by
  obtain ⟨xs, h1, h2⟩ := h
  have hlen := Paired.length h2
  have hpos : 0 < cs.length := by
    rcases Nat.eq_zero_or_pos cs.length with z | z
    · exact absurd (List.eq_nil_of_length_eq_zero z) g.ne
    · exact z
  exact ⟨a, xs, cs.map some, rfl, h1, by omega, by omega, els_cells h2 g.grid, okTo_good g.asc⟩
/-! ### what stays -/
theorem Oth.same {K : PySem.W.Frag} {H H' : Hp} {v : V} {t : String} (s : Same H H') (h : Oth K H v t) : Oth K H' v t := by
  cases h with
  | non => exact .non
  | bl b => exact .bl b
  | int i => exact .int i
  | str x => exact .str x
  | lst e => exact .lst (s _ _ e)
  | dct e => exact .dct (s _ _ e)
  | tup e => exact .tup (same_seqT s e)
theorem PlR.same {K : PySem.W.Frag} {H H' : Hp} {v : V} {b : Bool} (s : Same H H') (h : PlR K H v b) : PlR K H' v b := by
  cases b with
  | true => exact h
  | false =>
    rcases h with h | ⟨t, h, n⟩
    · exact .inl h
    · exact .inr ⟨t, h.same s, n⟩
theorem ElR.same {K : PySem.W.Frag} {H H' : Hp} {x : V} {o : Option Cell} (s : Same H H') (h : ElR K H x o) : ElR K H' x o := by
  cases o with
  | some c => exact ⟨h.1.kt (.of_same s), h.2⟩
  | none =>
    rcases h with ⟨t, h, n⟩ | ⟨t, ys, e, h, n⟩ | ⟨t, y0, y1, b0, b1, e, h, p0, p1, n⟩
    · exact .inl ⟨t, h.same s, n⟩
    · exact .inr (.inl ⟨t, ys, e, same_seqT s h, n⟩)
    · exact .inr (.inr ⟨t, y0, y1, b0, b1, e, same_seqT s h, p0.same s, p1.same s, n⟩)
theorem els_same {K : PySem.W.Frag} {H H' : Hp} (s : Same H H') {xs : List V} {rs : List (Option Cell)} (h : Els K H xs rs) : Els K H' xs rs := Paired.mono (fun _ _ q => q.same s) h
theorem PlanV.same {K : PySem.W.Frag} {H H' : Hp} {v : V} {b : Verd} (s : Same H H') (h : PlanV K H v b) : PlanV K H' v b := by
  cases b with
  | ok =>
    obtain ⟨a, xs, rs, e, h1, h2, h3, h4, h5⟩ := h
    exact ⟨a, xs, rs, e, same_seqT s h1, h2, h3, els_same s h4, h5⟩
  | non =>
    rcases h with ⟨t, h, n⟩ | ⟨a, xs, e, h, n⟩
    · exact .inl ⟨t, h.same s, n⟩
    · exact .inr ⟨a, xs, e, same_seqT s h, n⟩
  | «at» i =>
    obtain ⟨a, xs, rs, e, h1, h2, h3, h4, h5⟩ := h
    exact ⟨a, xs, rs, e, same_seqT s h1, h2, h3, els_same s h4, h5⟩
/-! ### the promises -/
def spWholeG (K : PySem.W.Frag) : Sp := fun vs H Q _ => ∃ (v : V) (t : String), vs = [v] ∧ Oth K H v t ∧ Q (.bl (decide (t = "int"))) H
def spPlaceG (K : PySem.W.Frag) : Sp := fun vs H Q _ => ∃ (v : V) (b : Bool), vs = [v] ∧ PlR K H v b ∧ Q (.bl b) H
def spIsCellG (K : PySem.W.Frag) : Sp := fun vs H Q _ => ∃ (v : V) (o : Option Cell), vs = [v] ∧ ElR K H v o ∧ ∀ H', Same H H' → Q (.bl o.isSome) H'
def vIdx : Verd → V
  | .at i => .int (i : Nat)
  | _ => .non
def spCheckG (K : PySem.W.Frag) (C : Addr) : Sp := fun vs H Q E => ∃ (v : V) (b : Verd), vs = [v] ∧ PlanV K H v b ∧ (b.good = true → ∀ H', Same H H' → Q .non H') ∧
  (b.good = false → ∀ H' d, Same H H' → H d = none → H' d = some (.xd [(("index" : Str), vIdx b)]) → E (.ref C) (some d) H')
def spIsPlan (K : PySem.W.Frag) : Sp := fun vs H Q _ => ∃ (v : V) (b : Verd), vs = [v] ∧ PlanV K H v b ∧ ∀ H', Same H H' → Q (.bl b.good) H'
theorem le2_iff {a b : Cell} : Ob.lexAt (fun j => decide (([b.1, b.2] : List Int).getD j 0 = ([a.1, a.2] : List Int).getD j 0)) (fun j => decide (([b.1, b.2] : List Int).getD j 0 ≤ ([a.1, a.2] : List Int).getD j 0)) (decide (([b.1, b.2] : List Int).length ≤ ([a.1, a.2] : List Int).length)) 0 (min ([b.1, b.2] : List Int).length ([a.1, a.2] : List Int).length) = true ↔ ¬ lt2 a b := by
  constructor
  · intro h z
    rw [not_le2 z] at h
    cases h
  · intro h
    show Ob.lexAt _ _ _ 0 2 = true
    rw [Ob.lexAt_succ, Ob.lexAt_succ]
    show (if decide (b.1 = a.1) = true then (if decide (b.2 = a.2) = true then _ else decide (b.2 ≤ a.2)) else decide (b.1 ≤ a.1)) = true
    unfold lt2 at h
    by_cases e1 : b.1 = a.1
    · rw [if_pos (by simpa using e1)]
      by_cases e2 : b.2 = a.2
      · rw [if_pos (by simpa using e2)]
        rfl
      · rw [if_neg (by simpa using e2)]
        simp
        omega
    · rw [if_neg (by simpa using e1)]
      simp
      omega
/-- isinstance's answers -/
theorem kit_int {K : PySem.W.Frag} {H : Hp} {v : V} {t : String} (h : Oth K H v t) : PySem.W.kitOne K (.type t) (.type "int") = some (decide (t = "int" ∨ t = "bool")) := by
  cases h <;> exact kit_ty (by decide +kernel)
theorem kit_bool {K : PySem.W.Frag} {H : Hp} {v : V} {t : String} (h : Oth K H v t) : PySem.W.kitOne K (.type t) (.type "bool") = some (decide (t = "bool")) := by
  cases h <;> exact kit_ty (by decide +kernel)
theorem kit_tuple {K : PySem.W.Frag} {H : Hp} {v : V} {t : String} (h : Oth K H v t) : PySem.W.kitOne K (.type t) (.type "tuple") = some (decide (t = "tuple")) := by
  cases h <;> exact kit_ty (by decide +kernel)
end KS
namespace KS
open PySem PySem.Spec PyProof.Rows L2
theorem ok_notBad {rs : List (Option Cell)} {n i : Nat} (h : OkTo rs n) (hi : i < n) : ¬ BadAt rs i := by
  obtain ⟨c, e, k⟩ := h i hi
  rintro (z | ⟨c1, c2, j, e1, e2, e3, e4⟩)
  · rw [e] at z
    cases z
  · rw [e] at e1
    cases e1
    obtain ⟨c3, e5, e6⟩ := k j e2
    rw [e3] at e5
    cases e5
    exact e4 e6
theorem bad_lt {rs : List (Option Cell)} {i : Nat} (h : BadAt rs i) : i < rs.length := by
  rcases h with z | ⟨c1, c2, j, e1, _⟩
  · exact (List.getElem?_eq_some_iff.mp z).1
  · exact (List.getElem?_eq_some_iff.mp e1).1
/-- the two ways of a tuple of a right length -/
def TwoWays (rs : List (Option Cell)) (b : Verd) : Prop := (b.good = true ∧ OkTo rs rs.length) ∨ ∃ i, b = .at i ∧ OkTo rs i ∧ BadAt rs i
theorem TwoWays.bad {rs : List (Option Cell)} {b : Verd} {i : Nat} (h : TwoWays rs b) (ok : OkTo rs i) (bad : BadAt rs i) : b = .at i := by
  rcases h with ⟨_, h⟩ | ⟨j, e, h1, h2⟩
  · exact absurd bad (ok_notBad h (bad_lt bad))
  · have : i = j := by
      rcases Nat.lt_trichotomy i j with z | z | z
      · exact absurd bad (ok_notBad h1 z)
      · exact z
      · exact absurd h2 (ok_notBad ok z)
    rw [this]
    exact e
theorem TwoWays.ok {rs : List (Option Cell)} {b : Verd} (h : TwoWays rs b) (ok : OkTo rs rs.length) : b.good = true := by
  rcases h with ⟨h, _⟩ | ⟨j, e, h1, h2⟩
  · exact h
  · exact absurd h2 (ok_notBad ok (bad_lt h2))
theorem PlanV.split {K : PySem.W.Frag} {H : Hp} {v : V} {b : Verd} (h : PlanV K H v b) : (b = .non ∧ ((∃ t, Oth K H v t ∧ t ≠ "tuple") ∨ ∃ a xs, v = .ref a ∧ SqT K H a xs ∧ (xs.length = 0 ∨ 24 < xs.length))) ∨
    ∃ a xs rs, v = .ref a ∧ SqT K H a xs ∧ 1 ≤ xs.length ∧ xs.length ≤ 24 ∧ Els K H xs rs ∧ TwoWays rs b := by
  cases b with
  | ok =>
    obtain ⟨a, xs, rs, e, h1, h2, h3, h4, h5⟩ := h
    exact .inr ⟨a, xs, rs, e, h1, h2, h3, h4, .inl ⟨rfl, h5⟩⟩
  | non => exact .inl ⟨rfl, h⟩
  | «at» i =>
    obtain ⟨a, xs, rs, e, h1, h2, h3, h4, h5, h6⟩ := h
    exact .inr ⟨a, xs, rs, e, h1, h2, h3, h4, .inr ⟨i, rfl, h5, h6⟩⟩
theorem okTo_succ {rs : List (Option Cell)} {i : Nat} {c : Cell} (h : OkTo rs i) (e : rs[i]? = some (some c)) (k : ∀ j, i = j + 1 → ∃ c', rs[j]? = some (some c') ∧ lt2 c' c) : OkTo rs (i + 1) := fun j hj => by
  by_cases z : j < i
  · exact h j z
  · have : j = i := by omega
    subst this
    exact ⟨c, e, k⟩
end KS
namespace KS
open PySem PySem.Spec PyProof.Rows L2
section
variable {K : PySem.W.Frag} {H H' : Hp} {p : Addr}
theorem Oth.keepX {v : V} {t : String} (hp : PoolO (H p)) (hp' : PoolO (H' p)) (k : KeepX p H H') (h : Oth K H v t) : Oth K H' v t := by
  obtain ⟨x1, x2, x3, e1, _⟩ := hp
  cases h with
  | non => exact .non
  | bl b => exact .bl b
  | int i => exact .int i
  | str x => exact .str x
  | @lst a xs e =>
    by_cases z : a = p
    · subst z
      obtain ⟨y1, y2, y3, e2, _⟩ := hp'
      exact .lst e2
    · exact .lst (k _ _ z e)
  | @dct a kvs e => exact .dct (k _ _ (ne_of e e1 (by intro q; cases q)) e)
  | tup e => exact .tup (keepX_seqT ⟨x1, x2, x3, e1, by assumption⟩ k e)
theorem PlR.keepX {v : V} {b : Bool} (hp : PoolO (H p)) (hp' : PoolO (H' p)) (k : KeepX p H H') (h : PlR K H v b) : PlR K H' v b := by
  cases b with
  | true => exact h
  | false =>
    rcases h with h | ⟨t, h, n⟩
    · exact .inl h
    · exact .inr ⟨t, h.keepX hp hp' k, n⟩
theorem ElR.keepX {x : V} {o : Option Cell} (hp : PoolO (H p)) (hp' : PoolO (H' p)) (k : KeepX p H H') (h : ElR K H x o) : ElR K H' x o := by
  cases o with
  | some c => exact ⟨h.1.kt (.of_keepX hp k), h.2⟩
  | none =>
    rcases h with ⟨t, h, n⟩ | ⟨t, ys, e, h, n⟩ | ⟨t, y0, y1, b0, b1, e, h, p0, p1, n⟩
    · exact .inl ⟨t, h.keepX hp hp' k, n⟩
    · exact .inr (.inl ⟨t, ys, e, keepX_seqT hp k h, n⟩)
    · exact .inr (.inr ⟨t, y0, y1, b0, b1, e, keepX_seqT hp k h, p0.keepX hp hp' k, p1.keepX hp hp' k, n⟩)
theorem PlanV.keepX {v : V} {b : Verd} (hp : PoolO (H p)) (hp' : PoolO (H' p)) (k : KeepX p H H') (h : PlanV K H v b) : PlanV K H' v b := by
  have lift : ∀ {xs : List V} {rs : List (Option Cell)}, Els K H xs rs → Els K H' xs rs := fun h => Paired.mono (fun _ _ q => q.keepX hp hp' k) h
  cases b with
  | ok =>
    obtain ⟨a, xs, rs, e, h1, h2, h3, h4, h5⟩ := h
    exact ⟨a, xs, rs, e, keepX_seqT hp k h1, h2, h3, lift h4, h5⟩
  | non =>
    rcases h with ⟨t, h, n⟩ | ⟨a, xs, e, h, n⟩
    · exact .inl ⟨t, h.keepX hp hp' k, n⟩
    · exact .inr ⟨a, xs, e, keepX_seqT hp k h, n⟩
  | «at» i =>
    obtain ⟨a, xs, rs, e, h1, h2, h3, h4, h5⟩ := h
    exact ⟨a, xs, rs, e, keepX_seqT hp k h1, h2, h3, lift h4, h5⟩
/-- odd things -/
theorem odd2 {t : Addr} {y0 y1 : V} {b0 b1 : Bool} (h : H t = some (.tup [y0, y1])) (p0 : PlR K H y0 b0) (p1 : PlR K H y1 b1) (n : (b0 && b1) = false) : ElR K H (.ref t) none :=
  .inr (.inr ⟨t, y0, y1, b0, b1, rfl, SqT.of h, p0, p1, n⟩)
theorem oddN {t : Addr} {ys : List V} (h : SqT K H t ys) (n : ys.length ≠ 2) : ElR K H (.ref t) none := .inr (.inl ⟨t, ys, rfl, h, n⟩)
theorem oddO {x : V} {t : String} (h : Oth K H x t) (n : t ≠ "tuple") : ElR K H x none := .inl ⟨t, h, n⟩
theorem pl_yes {i : Int} (h : 0 ≤ i ∧ i ≤ 7) : PlR K H (.int i) true := ⟨i, rfl, h.1, h.2⟩
theorem pl_no {i : Int} (h : ¬ (0 ≤ i ∧ i ≤ 7)) : PlR K H (.int i) false := .inl ⟨i, rfl, h⟩
theorem pl_oth {x : V} {t : String} (h : Oth K H x t) (n : t ≠ "int") : PlR K H x false := .inr ⟨t, h, n⟩
theorem odd_plan {a : Addr} {cs : List Cell} (h : PlanAt K H a cs) : ElR K H (.ref a) none := by
  obtain ⟨xs, h1, h2⟩ := h
  by_cases c : xs.length = 2
  · cases h2 with
    | nil => cases c
    | @cons x c0 xs1 cs1 r0 h3 =>
      cases h3 with
      | nil => cases c
      | @cons y c1 xs2 cs2 r1 h4 =>
        cases h4 with
        | cons _ _ =>
          simp at c
        | nil =>
          obtain ⟨t0, e0, q0⟩ := r0
          obtain ⟨t1, e1, q1⟩ := r1
          subst e0
          subst e1
          exact .inr (.inr ⟨a, _, _, false, false, rfl, h1, pl_oth (.tup q0) (by decide), pl_oth (.tup q1) (by decide), rfl⟩)
  · exact oddN h1 c
end
def spBent (K : PySem.W.Frag) : Sp := fun vs H Q _ => ∃ (p a : Addr) (cs : List Cell), vs = [.ref p, .ref a] ∧ PoolO (H p) ∧ PlanAt K H a cs ∧ Good cs ∧ cs.length ≤ 24 ∧
  ∀ H' v b, KeepX p H H' → PoolO (H' p) → PlanV K H' v b → Q v H'
end KS
namespace KS
open PySem PySem.Spec PyProof.Rows L2
section
variable {K : PySem.W.Frag} {σ : L2.St} {H : Hp} {Q : VK} {ta : TA}
/-- a display of values that are at hand: a new object -/
theorem tup_ok (vs : List V) (h : ∀ R : List V → Hp → Prop, R vs H → ta σ H R) (hl : vs.length ≤ 64) (k : ∀ H' t, Same H H' → H' t = some (.tup vs) → H t = none → Q (.ref t) H') : tTup ta σ H Q :=
  h _ ⟨Nat.le_of_lt (small64 hl), fun p np => k _ p (same_new np) upd_same np⟩
theorem lst_ok (vs : List V) (h : ∀ R : List V → Hp → Prop, R vs H → ta σ H R) (hl : vs.length ≤ 64) (k : ∀ H' t, Same H H' → H' t = some (.lst vs) → H t = none → Q (.ref t) H') : tLst ta σ H Q :=
  h _ ⟨Nat.le_of_lt (small64 hl), fun p np => k _ p (same_new np) upd_same np⟩
theorem dnew_ok (k : ∀ H' t, Same H H' → H' t = some (.dK []) → H t = none → Q (.ref t) H') : tDNewK σ H Q :=
  fun p np => k _ p (same_new np) upd_same np
theorem catA_ok {a b : Addr} {xs ys : List V} (ha : SqT K H a xs) (hb : SqT K H b ys) (hl : xs.length + ys.length ≤ 64)
    (k : ∀ H' u, Same H H' → SqT K H' u (xs ++ ys) → Q (.ref u) H') : rCatA K (.ref a) (.ref b) H Q := by
  refine ⟨a, b, xs, ys, rfl, rfl, ha, hb, Nat.le_of_lt (small64 hl), fun e => ?_, fun _ e => ?_, fun _ _ p np => ?_⟩
  · subst e
    exact k H b (Same.refl _) hb
  · subst e
    exact k H a (Same.refl _) (by rw [List.append_nil]; exact ha)
  · exact k _ p (same_new np) (SqT.of upd_same)
theorem cut_to {xs : List V} {k : Nat} (h : k ≤ xs.length) : cutV xs none (some (k : Int)) = xs.take k := by
  unfold cutV
  rw [HT.sIx_none, HT.sIx_nat, Nat.min_eq_left h]
  simp
theorem cut_from {xs : List V} {k : Nat} (h : k ≤ xs.length) : cutV xs (some (k : Int)) none = xs.drop k := by
  unfold cutV
  rw [HT.sIx_none, HT.sIx_nat, Nat.min_eq_left h]
  exact List.take_of_length_le (by rw [List.length_drop]; exact Nat.le_refl _)
/-- t[:k], t[k:], whatever object comes -/
theorem slTo_ok {a : Addr} {xs : List V} {n : Nat} (ha : SqT K H a xs) (hn : n ≤ xs.length) (k : ∀ H' u, Same H H' → SqT K H' u (xs.take n) → Q (.ref u) H') : rSlA K (.ref a) none (some (n : Int)) H Q := by
  refine ⟨a, xs, rfl, ha, fun z => ?_, fun _ p np => ?_⟩
  · obtain ⟨_, z2⟩ := z
    rw [show HT.sIx xs.length xs.length (some (n : Int)) = min n xs.length from HT.sIx_nat _ _ n] at z2
    have e : n = xs.length := by omega
    refine k H a (Same.refl _) ?_
    rw [e, List.take_length]
    exact ha
  · refine k _ p (same_new np) (SqT.of ?_)
    rw [upd_same, cut_to hn]
theorem slFrom_ok {a : Addr} {xs : List V} {n : Nat} (ha : SqT K H a xs) (hn : n ≤ xs.length) (k : ∀ H' u, Same H H' → SqT K H' u (xs.drop n) → Q (.ref u) H') : rSlA K (.ref a) (some (n : Int)) none H Q := by
  refine ⟨a, xs, rfl, ha, fun z => ?_, fun _ p np => ?_⟩
  · obtain ⟨z1, _⟩ := z
    rw [show HT.sIx xs.length 0 (some (n : Int)) = min n xs.length from HT.sIx_nat _ _ n] at z1
    refine k H a (Same.refl _) ?_
    rcases Nat.eq_zero_or_pos n with e | e
    · subst e
      exact ha
    · have e2 : xs.length = 0 := by omega
      have e3 := List.eq_nil_of_length_eq_zero e2
      subst e3
      simpa using ha
  · refine k _ p (same_new np) (SqT.of ?_)
    rw [upd_same, cut_from hn]
theorem paired_take {α β : Type} {F : α → β → Prop} : ∀ {l₁ : List α} {l₂ : List β} (i : Nat), Paired F l₁ l₂ → Paired F (l₁.take i) (l₂.take i)
  | _, _, 0, _ => .nil
  | _, _, _ + 1, .nil => .nil
  | _, _, i + 1, .cons r t => .cons r (paired_take i t)
theorem paired_drop {α β : Type} {F : α → β → Prop} : ∀ {l₁ : List α} {l₂ : List β} (i : Nat), Paired F l₁ l₂ → Paired F (l₁.drop i) (l₂.drop i)
  | _, _, 0, h => h
  | _, _, _ + 1, .nil => .nil
  | _, _, i + 1, .cons _ t => paired_drop i t
theorem paired_rev {α β : Type} {F : α → β → Prop} : ∀ {l₁ : List α} {l₂ : List β}, Paired F l₁ l₂ → Paired F l₁.reverse l₂.reverse
  | _, _, .nil => .nil
  | _, _, .cons r t => by
    rw [List.reverse_cons, List.reverse_cons]
    exact paired_append (paired_rev t) (.cons r .nil)
end
end KS
namespace KS
open PySem PySem.Spec PyProof.Rows L2
theorem new_ok {H : Hp} {o : HO} {Q : VK} (k : ∀ H' t, Same H H' → H' t = some o → H t = none → Q (.ref t) H') : ∀ p, H p = none → Q (.ref p) (upd H p o) := fun p np => k _ p (same_new np) upd_same np
theorem pick_ok {items : List V} {r : Int} (h0 : 0 ≤ r) (h1 : r < (items.length : Int)) : ∃ x, x ∈ items ∧ atI items r = some x := by
  obtain ⟨n, rfl⟩ := Int.eq_ofNat_of_zero_le h0
  have hn : n < items.length := by omega
  exact ⟨items[n], List.getElem_mem hn, atI_nat (List.getElem?_eq_getElem hn)⟩
end KS
namespace KS
open PySem PySem.Spec PyProof.Rows L2
def topS (i : Nat) : Stmt := PySem.Challenge.pw_keepsort_k01_plans_told.main.body.getD i (.Pass ⟨0, 0, 0, 0⟩)
abbrev sCell : Stmt := topS 13
abbrev sPool : Stmt := topS 14
abbrev sDraw : Stmt := topS 15
theorem scCell : FnScope ["_law_script", "_law_k", "_law_state", "_law_number"] ["_law_script", "_law_k"] (defScope sCell) := ⟨rfl, rfl, rfl, by decide +kernel, rfl, by decide +kernel, by decide +kernel⟩
theorem scPool : FnScope ["_law_number", "_law_digits"] ["_law_number"] (defScope sPool) := ⟨rfl, rfl, rfl, by decide +kernel, rfl, by decide +kernel, by decide +kernel⟩
theorem scDraw : FnScope ["_law_pool_here", "_law_most", "_law_state", "_law_digit"] ["_law_pool_here", "_law_most"] (defScope sDraw) := ⟨rfl, rfl, rfl, by decide +kernel, rfl, by decide +kernel, by decide +kernel⟩
section
variable {P : Program} {w : World} {K : PySem.W.Frag} {mg : Str → Option Value} {base : Heap}
theorem ok_cell {f : Addr} {fd : FuncData} (F : Fun K "_law_cell" "_law_cell" sCell f fd) (ml : mg "len" = none) : FnOk P w K mg base CX0 1 f fd ["_law_script", "_law_k"] (spCell K) := by
  refine F.ok scCell (fun vs H Q E h => ?_) (fun cdv A outer s H vs Q E hr h => ?_)
  · obtain ⟨a, ns, k, rfl, _⟩ := h
    rfl
  · obtain ⟨a, ns, k, rfl, hS, hk, q⟩ := h
    refine ⟨_, pss_cons (ps_if (pt_cmpR op_lt (pv 1) (pe_callB call_len_seq (by rfl) ml PySem.boot_len (pa_cons (pv 0) pa_nil)) (nomark _))
        (pss_one (ps_ret (pe_ix ix_list (pv 0) (pv 1) (fun _ _ => rfl)))) pss_nil)
      (pss_cons (ps_set (i := 2) scCell.nd rfl (.inl rfl) (pe_op op_mod (pe_op op_mul pe_int (pe_op op_add (pe_op op_add (pe_op op_mul (pv 1) (pv 1)) (pe_op op_mul pe_int (pv 1))) pe_int)) pe_int))
      (pss_cons (ps_for PassesOwn.never rfl (pi_list (pe_slice sl_list (pv 0) po_none (po_some pe_int))) (pg_name (i := 3) scCell.nd rfl (.inl rfl))
        (pss_one (ps_set (i := 2) scCell.nd rfl (.inl rfl) (pe_op op_mod (pe_op op_add (pe_op op_mul (pv 2) pe_int) (pv 3)) pe_int))))
      (pss_one (ps_ret (pv 2))))), ?_⟩
    refine ⟨_, rfl, _, rfl, a, ns.map V.int, rfl, .inl hS, _, _, rfl, rfl, _, rfl, ite2 (fun e => ?_) (fun e => ?_)⟩
    · have e0 : (k : Int) < ((ns.map V.int).length : Int) := of_decide_eq_true e
      rw [List.length_map] at e0
      have hj : k < ns.length := by omega
      refine ⟨_, rfl, _, rfl, a, _, _, .int ns[k], rfl, rfl, hS, atI_nat (j := k) ?_, q H _ (Same.refl H)⟩
      rw [List.getElem?_map, List.getElem?_eq_getElem hj]
      rfl
    · refine ⟨_, rfl, _, rfl, _, _, rfl, rfl, .inl ⟨by omega, by omega⟩, _, rfl, _, _, rfl, rfl, .inl ⟨by omega, by omega⟩, _, _, rfl, rfl, _, _, rfl, rfl, _, _, rfl, rfl, .inl ⟨by omega, by omega⟩, _, _, rfl, rfl, by show (0 : Int) < 2147483249; decide, ?_⟩
      refine ⟨_, rfl, 3, rfl, a, _, rfl, hS, fun c nc => ?_⟩
      have s1 := same_new (o := .lst (cutV (ns.map V.int) none (some 3))) nc
      have hc : SqL K (upd H c (.lst (cutV (ns.map V.int) none (some 3)))) c (cutV (ns.map V.int) none (some 3)) := SqL.of upd_same
      refine ⟨c, rfl, ⟨_, hc⟩, for_list (K := K) (a := c) (xs := cutV (ns.map V.int) none (some 3)) (fun i σ H' => ∃ (st : Int) (y : Option V), σ = [some (.ref a), some (.int k), some (.int st), y] ∧ 0 ≤ st ∧ st < 2147483249 ∧ H' = upd H c (.lst (cutV (ns.map V.int) none (some 3)))) ?_ ?_ ?_ ?_⟩
      · have b := int_mod_bd (60013 * ((k : Int) * k + 5 * k + 3)) (m := 2147483249) (by decide)
        exact ⟨_, none, rfl, b.1, b.2, rfl⟩
      · rintro i σ H' _ ⟨st, y, rfl, _, _, rfl⟩
        exact hc
      · rintro i x σ H' hi ⟨st, y, rfl, h0, h1, rfl⟩
        have hm : x ∈ ns.map V.int := by
          have := List.mem_of_getElem? hi
          unfold cutV at this
          exact List.mem_of_mem_drop (List.mem_of_mem_take this)
        obtain ⟨n, _, rfl⟩ := List.mem_map.mp hm
        have b := int_mod_bd (st * 41221 + n) (m := 2147483249) (by decide)
        refine ⟨_, rfl, _, _, rfl, rfl, .inl ⟨by omega, by omega⟩, _, rfl, _, _, rfl, rfl, _, _, rfl, rfl, by show (0 : Int) < 2147483249; decide, ?_⟩
        exact ⟨_, some (.int n), rfl, b.1, b.2, rfl⟩
      · rintro σ H' ⟨st, y, rfl, h0, h1, rfl⟩
        exact ⟨_, rfl, q _ _ s1⟩
theorem ok_pool {f : Addr} {fd : FuncData} (F : Fun K "_law_pool" "_law_pool" sPool f fd) (ma : mg "abs" = none) : FnOk P w K mg base CX0 1 f fd ["_law_number"] spPool := by
  refine F.ok scPool (fun vs H Q E h => ?_) (fun cdv A outer s H vs Q E hr h => ?_)
  · obtain ⟨n, rfl, _⟩ := h
    rfl
  · obtain ⟨n, rfl, q⟩ := h
    refine ⟨_, pss_cons (ps_set (i := 1) scPool.nd rfl (.inl rfl) (pe_ifExp (PW.pt (pw_or (pt_cmpR op_lt (pv 0) pe_int (nomark _)) (pw_or1 (pt_cmpR op_ge (pv 0) (pe_op op_pow pe_int pe_int) (nomark _)))))
        (pe_callB call_abs (by rfl) ma (by decide +kernel) (pa_cons (pv 0) pa_nil)) pe_int))
      (pss_one (ps_ret (pe_lst (pa_cons (pe_op op_mod (pv 0) pe_int) (pa_cons (pv 1) (pa_cons pe_int pa_nil)))))), ?_⟩
    have b := int_mod_bd n (m := 2147483249) (by decide)
    have fin : ∀ d : Int, 0 ≤ d → tRet (tLst (tCons (tOp (rI (fun _ j => 0 < j) fun i j => .int (i % j)) (tVar 0) (tC (.int 2147483249))) (tCons (tVar 1) (tCons (tC (.int 0)) tNil)))) { nx := fun _ H' => Q .non H', rt := Q } [some (.int n), some (.int d)] H := fun d hd => by
      refine ⟨_, rfl, _, _, rfl, rfl, by show (0 : Int) < 2147483249; decide, _, rfl, (by show 3 ≤ sizeLine; decide), fun p np => ?_⟩
      exact q _ _ (same_new np) np ⟨_, _, _, upd_same, b.1, b.2, hd⟩
    refine ⟨_, rfl, _, _, rfl, rfl, _, rfl, ite2 (fun e => ?_) (fun e => ?_)⟩
    · have e0 : n < 0 := of_decide_eq_true e
      refine iteT ⟨_, rfl, n, rfl, ?_⟩
      rw [if_pos e0]
      exact fin _ (by omega)
    · refine ⟨_, rfl, _, _, rfl, rfl, ⟨by decide, by decide, by decide⟩, _, _, rfl, rfl, _, rfl, ite2 (fun e1 => ?_) (fun e1 => ?_)⟩
      · have e0 : ¬ n < 0 := fun z => e (decide_eq_true z)
        refine ⟨_, rfl, n, rfl, ?_⟩
        rw [if_neg e0]
        exact fin _ (by omega)
      · exact fin _ (by omega)
theorem ok_draw {f : Addr} {fd : FuncData} (F : Fun K "_law_draw" "_law_draw" sDraw f fd) (md : mg "divmod" = none) : FnOk P w K mg base CX0 1 f fd ["_law_pool_here", "_law_most"] spDraw := by
  refine F.ok scDraw (fun vs H Q E h => ?_) (fun cdv A outer s H vs Q E hr h => ?_)
  · obtain ⟨p, m, rfl, _⟩ := h
    rfl
  · obtain ⟨p, m, rfl, ⟨a, b, c, hp, a0, a1, b0⟩, m0, m1, q⟩ := h
    refine ⟨_, pss_cons (ps_asg (pe_op op_add (pe_ix ix_list (pv 0) pe_int (fun _ _ => rfl)) pe_int) (pg_sub (pv 0) pe_int set_list))
      (pss_cons (ps_set (i := 2) scDraw.nd rfl (.inl rfl) (pe_ix ix_list (pv 0) pe_int (fun _ _ => rfl)))
      (pss_cons (ps_asg (pe_op op_mod (pe_op op_add (pe_op op_mul (pv 2) (pe_op op_add (pe_op op_mod (pv 2) pe_int) pe_int)) (pe_op op_mul pe_int (pe_ix ix_list (pv 0) pe_int (fun _ _ => rfl)))) pe_int) (pg_sub (pv 0) pe_int set_list))
      (pss_cons (ps_if (pt_cmpR op_gt (pe_ix ix_list (pv 0) pe_int (fun _ _ => rfl)) pe_int (nomark _))
        (pss_cons (ps_asg (pe_callB call_divmod (by rfl) md (by decide +kernel) (pa_cons (pe_ix ix_list (pv 0) pe_int (fun _ _ => rfl)) (pa_cons (pv 1) pa_nil)))
            (pg_tup (by rfl) (pgs_cons (pg_sub (pv 0) pe_int set_list) (pgs_cons (pg_name (i := 3) scDraw.nd rfl (.inl rfl)) pgs_nil))))
          (pss_one (ps_ret (pv 3)))) pss_nil)
      (pss_one (ps_ret (pe_op op_mod (pe_op op_fdiv (pe_ix ix_list (pv 0) pe_int (fun _ _ => rfl)) pe_int) (pv 1))))))), ?_⟩
    -- pool[2] = pool[2] + 1
    refine ⟨_, rfl, p, _, 2, .int c, rfl, rfl, SqL.of hp, rfl, _, _, rfl, rfl, _, rfl, p, _, 2, 2, rfl, rfl, hp, rfl, ?_⟩
    refine ⟨_, rfl, p, _, 0, .int a, rfl, rfl, SqL.of upd_same, rfl, ?_⟩
    have bm := int_mod_bd a (m := 50021) (by decide)
    refine ⟨_, rfl, _, rfl, _, _, rfl, rfl, by show (0 : Int) < 50021; decide, _, _, rfl, rfl, _, _, rfl, rfl, .inl ⟨by omega, by omega⟩, _, rfl, p, _, 2, .int (c + 1), rfl, rfl, SqL.of upd_same, rfl, _, _, rfl, rfl, .inl ⟨by decide, by decide⟩, _, _, rfl, rfl, _, _, rfl, rfl, by show (0 : Int) < 2147483249; decide, ?_⟩
    refine ⟨_, rfl, p, _, 0, 0, rfl, rfl, upd_same, rfl, ?_⟩
    have bz := int_mod_bd (a * (a % 50021 + 30011) + 80021 * (c + 1)) (m := 2147483249) (by decide)
    rw [upd_upd]
    show _
    refine ⟨_, rfl, p, _, 1, .int b, rfl, rfl, SqL.of upd_same, rfl, _, _, rfl, rfl, _, rfl, ite2 (fun e => ?_) (fun e => ?_)⟩
    · refine ⟨_, rfl, p, _, 1, .int b, rfl, rfl, SqL.of upd_same, rfl, _, rfl, b, m, rfl, ⟨m0, m1⟩, fun t nt => ?_⟩
      have npt : p ≠ t := ne_of_none upd_same nt
      refine ⟨t, _, rfl, SqT.of upd_same, rfl, _, _, rfl, ?_⟩
      refine ⟨_, rfl, p, _, 1, 1, rfl, rfl, by rw [upd_ne npt]; exact upd_same, rfl, _, [], rfl, rfl, ?_⟩
      have br := int_mod_bd b m0
      refine ⟨_, rfl, q _ _ (fun x o n e => ?_) ⟨_, _, _, upd_same, bz.1, bz.2, Int.ediv_nonneg b0 (by omega)⟩ br.1 br.2⟩
      rw [upd_ne n, upd_ne, upd_ne n]
      · exact e
      · intro z
        rw [z] at e
        rw [upd_ne (Ne.symm npt)] at nt
        rw [nt] at e
        cases e
    · refine ⟨_, rfl, p, _, 0, .int ((a * (a % 50021 + 30011) + 80021 * (c + 1)) % 2147483249), rfl, rfl, SqL.of upd_same, rfl, _, _, rfl, rfl, ⟨by decide, by decide⟩, _, rfl, _, _, rfl, rfl, m0, ?_⟩
      have br := int_mod_bd ((a * (a % 50021 + 30011) + 80021 * (c + 1)) % 2147483249 / 64) m0
      exact q _ _ keepX_upd ⟨_, _, _, upd_same, bz.1, bz.2, b0⟩ br.1 br.2
end
end KS
namespace KS
open PySem PySem.Spec PyProof.Rows L2
abbrev sWhole : Stmt := topS 6
abbrev sBetween : Stmt := topS 7
abbrev sPlace : Stmt := topS 8
abbrev sIsCell : Stmt := topS 9
abbrev sCheck : Stmt := topS 10
abbrev sIsPlan : Stmt := topS 11
theorem scWhole : FnScope ["value"] ["value"] (defScope sWhole) := ⟨rfl, rfl, rfl, by decide +kernel, rfl, by decide +kernel, by decide +kernel⟩
theorem scBetween : FnScope ["value", "least", "most"] ["value", "least", "most"] (defScope sBetween) := ⟨rfl, rfl, rfl, by decide +kernel, rfl, by decide +kernel, by decide +kernel⟩
theorem scPlace : FnScope ["value"] ["value"] (defScope sPlace) := ⟨rfl, rfl, rfl, by decide +kernel, rfl, by decide +kernel, by decide +kernel⟩
theorem scIsCell : FnScope ["value"] ["value"] (defScope sIsCell) := ⟨rfl, rfl, rfl, by decide +kernel, rfl, by decide +kernel, by decide +kernel⟩
theorem scCheck : FnScope ["plan", "index", "cell"] ["plan"] (defScope sCheck) := ⟨rfl, rfl, rfl, by decide +kernel, rfl, by decide +kernel, by decide +kernel⟩
theorem scIsPlan : FnScope ["value"] ["value"] (defScope sIsPlan) := ⟨rfl, rfl, rfl, by decide +kernel, rfl, by decide +kernel, by decide +kernel⟩
section
variable {P : Program} {w : World} {K : PySem.W.Frag} {mg : Str → Option Value} {base : Heap}
theorem ok_whole {f : Addr} {fd : FuncData} (F : Fun K "is_whole" "is_whole" sWhole f fd) (mi : mg "isinstance" = none) (mI : mg "int" = none) (mB : mg "bool" = none) : FnOk P w K mg base CX0 1 f fd ["value"] (spWholeG K) := by
  refine F.ok scWhole (fun vs H Q E h => ?_) (fun cdv A outer s H vs Q E hr h => ?_)
  · obtain ⟨v, t, rfl, _⟩ := h
    rfl
  · obtain ⟨v, t, rfl, ho, q⟩ := h
    refine ⟨_, pss_one (ps_ret (pe_and (pe_callB call_isi (by rfl) mi (by decide +kernel) (pa_cons (pv 0) (pa_cons (pe_bltn (v := .ty "int") (by rfl) mI (by decide +kernel) rfl) pa_nil)))
      (pe_one (pe_not (pe_callB call_isi (by rfl) mi (by decide +kernel) (pa_cons (pv 0) (pa_cons (pe_bltn (v := .ty "bool") (by rfl) mB (by decide +kernel) rfl) pa_nil))))))), ?_⟩
    refine ⟨_, rfl, v, _, _, _, _, rfl, .ty "int", ho.ty, kit_int ho, _, rfl, ite2 (fun e => ?_) (fun e => ?_)⟩
    · refine ⟨_, rfl, v, _, _, _, _, rfl, .ty "bool", ho.ty, kit_bool ho, _, rfl, ?_⟩
      have e' := of_decide_eq_true e
      have z : (!decide (t = "bool")) = decide (t = "int") := by
        rcases e' with e' | e' <;> subst e' <;> decide
      rw [z]
      exact q
    · have z : decide (t = "int") = false := decide_eq_false fun y => e (decide_eq_true (.inl y))
      rw [z] at q
      exact q
theorem ok_betweenG {f fW : Addr} {fd fdW : FuncData} (F : Fun K "is_between" "is_between" sBetween f fd) (GW : FnOk P w K mg base CX0 1 fW fdW ["value"] (spWholeG K)) (bW : Binds K fdW ["value"] []) (gW : mg "is_whole" = some (.ref fW)) (kW : PySem.W.keepIn K (.ref fW) = true) :
    FnOk P w K mg base CX0 2 f fd ["value", "least", "most"] (spBetweenG K) := by
  refine F.ok scBetween (fun vs H Q E h => ?_) (fun cdv A outer s H vs Q E hr h => ?_)
  · obtain ⟨v, lo, hi, b, rfl, _⟩ := h
    rfl
  · obtain ⟨v, lo, hi, b, rfl, hp, q⟩ := h
    refine ⟨_, pss_one (ps_ret (pe_and (pe_call GW hr (by rfl) gW kW bW .nil pass0 (pa_cons (pv 0) pa_nil)) (pe_one (pe_chain op_le op_le (pv 1) (pv 0) (pv 2))))), ?_⟩
    have go : ∀ i : Int, v = .int i → b = decide (lo ≤ i ∧ i ≤ hi) → tAndV (tCall (spWholeG K) [] E0 (tCons (tVar 0) tNil)) (tChain rLe rLe (tVar 1) (tVar 0) (tVar 2)) [some v, some (.int lo), some (.int hi)] H Q := fun i ei eb => by
      subst ei
      refine ⟨_, rfl, .int i, "int", rfl, .int i, true, rfl, ?_⟩
      refine ⟨_, rfl, _, rfl, _, _, rfl, rfl, _, rfl, ite2 (fun e => ?_) (fun e => ?_)⟩
      · have e' := of_decide_eq_true e
        refine ⟨_, rfl, _, _, rfl, rfl, ?_⟩
        have z : decide (i ≤ hi) = b := by
          rw [eb]
          by_cases y : i ≤ hi
          · rw [decide_eq_true y, decide_eq_true ⟨e', y⟩]
          · rw [decide_eq_false y, decide_eq_false fun x => y x.2]
        show Q (V.bl (decide (i ≤ hi))) H
        rw [z]
        exact q
      · have z : b = false := by
          rw [eb]
          exact decide_eq_false fun x => e (decide_eq_true x.1)
        rw [z] at q
        exact q
    cases b with
    | true =>
      obtain ⟨i, rfl, h0, h1⟩ := hp
      exact go i rfl (decide_eq_true ⟨h0, h1⟩).symm
    | false =>
      rcases hp with ⟨i, rfl, hn⟩ | ⟨ty, ho, hn⟩
      · exact go i rfl (decide_eq_false hn).symm
      · refine ⟨_, rfl, v, ty, rfl, ho, _, rfl, ?_⟩
        rw [decide_eq_false hn]
        exact q
theorem ok_place {f fB : Addr} {fd fdB : FuncData} {t : Tok} (F : Fun K "is_place" "is_place" sPlace f fd) (GB : FnOk P w K mg base CX0 2 fB fdB ["value", "least", "most"] (spBetweenG K)) (bB : Binds K fdB ["value", "least", "most"] []) (gB : mg "is_between" = some (.ref fB)) (kB : PySem.W.keepIn K (.ref fB) = true)
    (mM : mg "MOST_INDEX" = some (.int 7 t)) : FnOk P w K mg base CX0 3 f fd ["value"] (spPlaceG K) := by
  refine F.ok scPlace (fun vs H Q E h => ?_) (fun cdv A outer s H vs Q E hr h => ?_)
  · obtain ⟨v, b, rfl, _⟩ := h
    rfl
  · obtain ⟨v, b, rfl, hp, q⟩ := h
    refine ⟨_, pss_one (ps_ret (pe_call GB hr (by rfl) gB kB bB .nil pass0 (pa_cons (pv 0) (pa_cons pe_int (pa_cons (pe_glob (v := .int 7) (by rfl) mM ⟨_, rfl⟩) pa_nil))))), ?_⟩
    exact ⟨_, rfl, v, 0, 7, b, rfl, bw_of_pl hp, q⟩
theorem ok_isCell {f fP : Addr} {fd fdP : FuncData} (F : Fun K "is_cell" "is_cell" sIsCell f fd) (GP : FnOk P w K mg base CX0 3 fP fdP ["value"] (spPlaceG K)) (bP : Binds K fdP ["value"] []) (gP : mg "is_place" = some (.ref fP)) (kP : PySem.W.keepIn K (.ref fP) = true)
    (mi : mg "isinstance" = none) (mT : mg "tuple" = none) (ml : mg "len" = none) : FnOk P w K mg base CX0 4 f fd ["value"] (spIsCellG K) := by
  refine F.ok scIsCell (fun vs H Q E h => ?_) (fun cdv A outer s H vs Q E hr h => ?_)
  · obtain ⟨a, c, rfl, _⟩ := h
    rfl
  · obtain ⟨v, o, rfl, he, q⟩ := h
    refine ⟨_, pss_one (ps_ret (pe_and (pe_callB call_isi (by rfl) mi (by decide +kernel) (pa_cons (pv 0) (pa_cons (pe_bltn (v := .ty "tuple") (by rfl) mT (by decide +kernel) rfl) pa_nil)))
      (pe_and (pe_cmpR op_eq (pe_callB call_len_seq (by rfl) ml PySem.boot_len (pa_cons (pv 0) pa_nil)) pe_int (nomark _))
      (pe_and (pe_call GP hr (by rfl) gP kP bP .nil pass0 (pa_cons (pe_ix ix_tup (pv 0) pe_int (fun _ _ => rfl)) pa_nil))
      (pe_one (pe_call GP hr (by rfl) gP kP bP .nil pass0 (pa_cons (pe_ix ix_tup (pv 0) pe_int (fun _ _ => rfl)) pa_nil))))))), ?_⟩
    have q0 := q H (Same.refl _)
    cases o with
    | some c =>
      obtain ⟨⟨a, rfl, ht⟩, hg⟩ := he
      refine ⟨_, rfl, _, _, _, _, true, rfl, .ty "tuple", tyx_tup ht, kit_ty (by decide +kernel), true, rfl, ?_⟩
      refine ⟨_, rfl, a, _, rfl, .inr ht, rfl, true, rfl, ?_⟩
      refine ⟨_, rfl, a, _, 0, .int c.1, rfl, rfl, ht, rfl, .int c.1, true, rfl, ⟨c.1, rfl, hg.1, hg.2.1⟩, true, rfl, ?_⟩
      exact ⟨_, rfl, a, _, 1, .int c.2, rfl, rfl, ht, rfl, .int c.2, true, rfl, ⟨c.2, rfl, hg.2.2.1, hg.2.2.2⟩, q0⟩
    | none =>
      rcases he with ⟨t, ho, n⟩ | ⟨t, ys, rfl, ht, n⟩ | ⟨t, y0, y1, b0, b1, rfl, ht, p0, p1, n⟩
      · refine ⟨_, rfl, v, _, _, _, _, rfl, .ty "tuple", ho.ty, kit_tuple ho, _, rfl, ?_⟩
        rw [decide_eq_false n]
        exact q0
      · refine ⟨_, rfl, _, _, _, _, true, rfl, .ty "tuple", tyx_tup ht, kit_ty (by decide +kernel), true, rfl, ?_⟩
        refine ⟨_, rfl, t, _, rfl, .inr ht, rfl, false, ?_, q0⟩
        have z : ¬ V.int (ys.length : Int) = V.int 2 := fun y => n (by
          have := V.int.inj y
          omega)
        exact bl_false z
      · refine ⟨_, rfl, _, _, _, _, true, rfl, .ty "tuple", tyx_tup ht, kit_ty (by decide +kernel), true, rfl, ?_⟩
        refine ⟨_, rfl, t, _, rfl, .inr ht, rfl, true, rfl, ?_⟩
        refine ⟨_, rfl, t, _, 0, y0, rfl, rfl, ht, rfl, y0, b0, rfl, p0, b0, rfl, ?_⟩
        cases b0 with
        | false => exact q0
        | true =>
          have n' : b1 = false := by simpa using n
          subst n'
          exact ⟨_, rfl, t, _, 1, y1, rfl, rfl, ht, rfl, y1, false, rfl, p1, q0⟩
end
end KS
namespace KS
open PySem PySem.Spec PyProof.Rows L2
section
variable {P : Program} {w : World} {K : PySem.W.Frag} {mg : Str → Option Value} {base : Heap}
theorem ok_checkG {f fI C fN : Addr} {fd fdI : FuncData} {t : Tok} (F : Fun K "check_plan" "check_plan" sCheck f fd) (GI : FnOk P w K mg base CX0 4 fI fdI ["value"] (spIsCellG K)) (bI : Binds K fdI ["value"] []) (gI : mg "is_cell" = some (.ref fI)) (kI : PySem.W.keepIn K (.ref fI) = true)
    (T : PySem.XInvalidPlan.InvalidPlanTxt K mg C fN)
    (mi : mg "isinstance" = none) (mT : mg "tuple" = none) (ml : mg "len" = none) (me : mg "enumerate" = none) (mM : mg "MOST_CELLS" = some (.int 24 t)) : FnOk P w K mg base (L2.CX P w) 5 f fd ["plan"] (spCheckG K C) := by
  refine F.okX scCheck (fun vs H Q E h => ?_) (fun cdv A outer s H vs Q E hr h => ?_)
  · obtain ⟨v, b, rfl, _⟩ := h
    rfl
  · obtain ⟨v, b, rfl, hv, kQ, kE⟩ := h
    have nd := scCheck.nd
    refine ⟨_, pss_cons (ps_if (PW.pt (pw_or (pt_not (pt_val (pe_callB call_isi (by rfl) mi (by decide +kernel) (pa_cons (pv 0) (pa_cons (pe_bltn (v := .ty "tuple") (by rfl) mT (by decide +kernel) rfl) pa_nil)))))
          (pw_or1 (pt_not (pt_chain op_le op_le pe_int (pe_callB call_len_seq (by rfl) ml PySem.boot_len (pa_cons (pv 0) pa_nil)) (pe_glob (v := .int 24) (by rfl) mM ⟨_, rfl⟩))))))
        (pss_one (ps_raiseInvalidPlan rfl T hr (takes_of rfl rfl rfl rfl) (pa_cons pe_non pa_nil))) pss_nil)
      (pss_one (ps_for (passes_of rfl) rfl (pi_enumT (by rfl) me (pa_cons (pv 0) pa_nil)) (pg_tup (by rfl) (pgs_cons (pg_name (i := 1) nd rfl (.inl rfl)) (pgs_cons (pg_name (i := 2) nd rfl (.inl rfl)) pgs_nil)))
        (pss_cons (ps_if (pt_not (pt_val (pe_call GI hr (by rfl) gI kI bI .nil pass0 (pa_cons (pv 2) pa_nil)))) (pss_one (ps_raiseInvalidPlan rfl T hr (takes_of rfl rfl rfl rfl) (pa_cons (pv 1) pa_nil))) pss_nil)
        (pss_one (ps_if (PW.pt (pw_and (pt_cmpR op_gt (pv 1) pe_int (nomark _)) (pw_and1 (pt_cmpR (op_leT hr.units0) (pv 2) (pe_ix ix_tup (pv 0) (pe_op op_sub (pv 1) pe_int) (fun _ _ => rfl)) (nomark _)))))
          (pss_one (ps_raiseInvalidPlan rfl T hr (takes_of rfl rfl rfl rfl) (pa_cons (pv 1) pa_nil))) pss_nil))))), ?_⟩
    rcases hv.split with ⟨rfl, hn⟩ | ⟨a, xs, rs, rfl, hx, l1, l2, he, tw⟩
    · have go : ∀ d : Addr, H d = none → E (.ref C) (some d) (upd H d (.xd [(("index" : Str), V.non)])) := fun d hd => kE rfl _ d (same_new hd) hd upd_same
      rcases hn with ⟨t, ho, n⟩ | ⟨a, xs, rfl, hx, n⟩
      · refine ⟨_, rfl, v, _, _, _, _, rfl, .ty "tuple", ho.ty, kit_tuple ho, _, rfl, ?_⟩
        rw [decide_eq_false n]
        exact ⟨_, rfl, go⟩
      · refine ⟨_, rfl, _, _, _, _, true, rfl, .ty "tuple", tyx_tup hx, kit_ty (by decide +kernel), true, rfl, ?_⟩
        refine ⟨_, rfl, a, _, rfl, .inr hx, _, _, rfl, rfl, _, rfl, ?_⟩
        by_cases c1 : (1 : Int) ≤ (xs.length : Int)
        · rw [if_pos (decide_eq_true c1)]
          refine ⟨_, _, rfl, rfl, false, bl_false (show ¬ (xs.length : Int) ≤ 24 by omega), ?_⟩
          exact ⟨_, rfl, go⟩
        · rw [if_neg (fun z => c1 (of_decide_eq_true z))]
          refine ⟨false, rfl, ?_⟩
          exact ⟨_, rfl, go⟩
    · have hlen := Paired.length he
      refine ⟨_, rfl, _, _, _, _, true, rfl, .ty "tuple", tyx_tup hx, kit_ty (by decide +kernel), true, rfl, ?_⟩
      refine ⟨_, rfl, a, _, rfl, .inr hx, _, _, rfl, rfl, true, bl_true (show (1 : Int) ≤ (xs.length : Int) by omega), ?_⟩
      refine ⟨_, _, rfl, rfl, true, bl_true (show (xs.length : Int) ≤ 24 by omega), ?_⟩
      refine ⟨_, rfl, a, xs, rfl, hx, for_enumT (K := K) (a := a) (xs := xs) (fun i σ H' => Same H H' ∧ OkTo rs i ∧ ∃ y1 y2, σ = [some (.ref a), y1, y2]) ?_ ?_ ?_ ?_⟩
      · exact ⟨Same.refl _, fun j hj => absurd hj (Nat.not_lt_zero _), none, none, rfl⟩
      · rintro i σ H' _ ⟨sm, _⟩
        exact same_seqT sm hx
      · rintro i x σ H' Tp hi ⟨sm, ok, y1, y2, rfl⟩ nT
        obtain ⟨o, hoi, hox⟩ := paired_get he hi
        have sT := same_new (o := .tup [.int (i : Nat), x]) nT
        have s2 := sm.trans sT
        have fail : BadAt rs i → ∀ H2 : Hp, Same H H2 → ∀ d : Addr, H2 d = none → E (.ref C) (some d) (upd H2 d (.xd [(("index" : Str), V.int ((i : Nat) : Int))])) := fun bad H2 s3 d hd => by
          have eb := tw.bad ok bad
          subst eb
          exact kE rfl _ d (s3.trans (same_new hd)) (s3.free hd) upd_same
        refine ⟨Tp, _, rfl, SqT.of upd_same, rfl, _, _, rfl, _, _, rfl, rfl, ?_⟩
        cases o with
        | none =>
          refine ⟨_, rfl, x, none, rfl, hox.same s2, fun H3 s3 => ⟨false, rfl, ?_⟩⟩
          exact ⟨_, rfl, _, rfl, fun d hd => fail (.inl hoi) _ (s2.trans s3) d hd⟩
        | some c =>
          refine ⟨_, rfl, x, some c, rfl, hox.same s2, fun H3 s3 => ⟨true, rfl, ?_⟩⟩
          have s4 := s2.trans s3
          refine ⟨_, rfl, _, _, rfl, rfl, _, rfl, ite2 (fun e => ?_) (fun e => ?_)⟩
          · have e' : (0 : Int) < (i : Int) := of_decide_eq_true e
            obtain ⟨j, rfl⟩ : ∃ j, i = j + 1 := ⟨i - 1, by omega⟩
            have hj : j < xs.length := by
              have := (List.getElem?_eq_some_iff.mp hi).1
              omega
            obtain ⟨o0, ho0, hx0⟩ := paired_get he (List.getElem?_eq_getElem hj)
            obtain ⟨c0, ec0, _⟩ := ok j (by omega)
            rw [ec0] at ho0
            cases ho0
            obtain ⟨⟨t0, e0, ht0⟩, _⟩ := hx0
            obtain ⟨⟨tt, e1, ht⟩, _⟩ := id hox
            subst e1
            have gx : xs[j]? = some (.ref t0) := by rw [List.getElem?_eq_getElem hj, e0]
            have ej : ((j + 1 : Nat) : Int) - 1 = ((j : Nat) : Int) := by omega
            refine ⟨_, rfl, _, rfl, _, rfl, _, _, rfl, rfl, a, xs, _, .ref t0, rfl, rfl, same_seqT s4 hx, ?_, tt, t0, [c.1, c.2], [c0.1, c0.2], rfl, rfl, same_seqT s4 ht, same_seqT s4 ht0, _, rfl, ite2 (fun e2 => ?_) (fun e2 => ?_)⟩
            · show atI xs (((j + 1 : Nat) : Int) - 1) = _
              rw [ej]
              exact atI_nat gx
            · exact ⟨_, rfl, _, rfl, fun d hd => fail (.inr ⟨c, c0, j, hoi, rfl, ec0, le2_iff.mp e2⟩) _ s4 d hd⟩
            · refine ⟨s4, okTo_succ ok hoi (fun k hk => ?_), _, _, rfl⟩
              have : k = j := by omega
              subst this
              refine ⟨c0, ec0, ?_⟩
              rcases lt2_dec c0 c with z | z
              · exact z
              · exact absurd (le2_iff.mpr z) e2
          · have e' : ¬ (0 : Int) < (i : Int) := fun z => e (decide_eq_true z)
            exact ⟨s4, okTo_succ ok hoi (fun k hk => by omega), _, _, rfl⟩
      · rintro σ H' ⟨sm, ok, _⟩
        rw [hlen] at ok
        exact kQ (tw.ok ok) H' sm
theorem ok_isPlan {f fC C fN : Addr} {fd fdC : FuncData} (F : Fun K "is_plan" "is_plan" sIsPlan f fd) (GC : FnOk P w K mg base (L2.CX P w) 5 fC fdC ["plan"] (spCheckG K C)) (bC : Binds K fdC ["plan"] []) (gC : mg "check_plan" = some (.ref fC)) (kC : PySem.W.keepIn K (.ref fC) = true)
    (T : PySem.XInvalidPlan.InvalidPlanTxt K mg C fN) : FnOk P w K mg base CX0 6 f fd ["value"] (spIsPlan K) := by
  refine F.ok scIsPlan (fun vs H Q E h => ?_) (fun cdv A outer s H vs Q E hr h => ?_)
  · obtain ⟨v, b, rfl, _⟩ := h
    rfl
  · obtain ⟨v, b, rfl, hv, q⟩ := h
    refine ⟨_, pss_cons (ps_try_only (tb := fun W => tDrop (tCallS (spCheckG K C) (WE W) (tCons (tVar 0) tNil))) (ts := fun _ _ _ => tRet (tC (.bl false))) (Wout := fun _ _ _ _ => False) rfl rfl ⟨rfl, by decide, Or.inl T.gC⟩ takes0
        (fun W pn xe tk _ => pss_one (ps_expr (by exact (pe_callS GC hr rfl gC kC bC (fun σ => passAt tk σ) (by exact (pa_cons (pv 0) pa_nil))))))
        (fun a oe cls d pn _ _ => pss_one (ps_ret pe_bl)))
      (pss_one (ps_ret pe_bl)), ?_⟩
    refine ⟨_, rfl, v, b, rfl, hv, fun g H' s1 => ?_, fun g H' d s1 nd hd => ?_⟩
    · have := q H' s1
      rw [g] at this
      exact this
    · refine ⟨true, T.te, fun _ a ha => ?_, fun z => Bool.noConfusion z⟩
      have := q H' s1
      rw [g] at this
      exact this
end
end KS
namespace KS
open PySem PySem.Spec PyProof.Rows L2
abbrev sLisCell : Stmt := topS 17
abbrev sPFault : Stmt := topS 18
theorem scLisCell : FnScope ["_law_thing", "_law_one"] ["_law_thing"] (defScope sLisCell) := ⟨rfl, rfl, rfl, by decide +kernel, rfl, by decide +kernel, by decide +kernel⟩
theorem scFault : FnScope ["_law_thing", "_law_at", "_law_spot"] ["_law_thing"] (defScope sPFault) := ⟨rfl, rfl, rfl, by decide +kernel, rfl, by decide +kernel, by decide +kernel⟩
theorem pl_read {K : PySem.W.Frag} {σ : L2.St} {H : Hp} {Q : VK} {y : V} {b : Bool} (hσ : σ[1]? = some (some y)) (hp : PlR K H y b) (q : Q (.bl b) H) :
    tAndV (tCB (rIsi K) (tCons (tVar 1) (tCons (tC (.ty "int")) tNil))) (tAndV (tNotV (tCB (rIsi K) (tCons (tVar 1) (tCons (tC (.ty "bool")) tNil)))) (tChain rLe rLe (tC (.int 0)) (tVar 1) (tC (.int 7)))) σ H Q := by
  have go : ∀ i : Int, y = .int i → b = decide (0 ≤ i ∧ i ≤ 7) → tAndV (tCB (rIsi K) (tCons (tVar 1) (tCons (tC (.ty "int")) tNil))) (tAndV (tNotV (tCB (rIsi K) (tCons (tVar 1) (tCons (tC (.ty "bool")) tNil)))) (tChain rLe rLe (tC (.int 0)) (tVar 1) (tC (.int 7)))) σ H Q := fun i ei eb => by
    subst ei
    refine ⟨_, hσ, _, _, _, _, true, rfl, .ty "int", .base (.int i), kit_ty (by decide +kernel), true, rfl, ?_⟩
    refine ⟨_, hσ, _, _, _, _, false, rfl, .ty "bool", .base (.int i), kit_ty (by decide +kernel), false, rfl, true, rfl, ?_⟩
    refine ⟨_, hσ, _, _, rfl, rfl, _, rfl, ite2 (fun e => ?_) (fun e => ?_)⟩
    · have e' := of_decide_eq_true e
      refine ⟨_, _, rfl, rfl, ?_⟩
      have z : decide (i ≤ 7) = b := by
        rw [eb]
        by_cases y : i ≤ 7
        · rw [decide_eq_true y, decide_eq_true ⟨e', y⟩]
        · rw [decide_eq_false y, decide_eq_false fun x => y x.2]
      show Q (V.bl (decide (i ≤ 7))) H
      rw [z]
      exact q
    · have z : b = false := by
        rw [eb]
        exact decide_eq_false fun x => e (decide_eq_true x.1)
      rw [z] at q
      exact q
  cases b with
  | true =>
    obtain ⟨i, rfl, h0, h1⟩ := hp
    exact go i rfl (decide_eq_true ⟨h0, h1⟩).symm
  | false =>
    rcases hp with ⟨i, rfl, hn⟩ | ⟨ty, ho, hn⟩
    · exact go i rfl (decide_eq_false hn).symm
    · refine ⟨_, hσ, y, _, _, _, _, rfl, .ty "int", ho.ty, kit_int ho, _, rfl, ite2 (fun e => ?_) (fun e => ?_)⟩
      · have e' : ty = "bool" := (of_decide_eq_true e).resolve_left hn
        refine ⟨_, hσ, y, _, _, _, _, rfl, .ty "bool", ho.ty, kit_bool ho, _, rfl, false, ?_, q⟩
        rw [decide_eq_true e']
        rfl
      · exact q
def spFault (K : PySem.W.Frag) : Sp := fun vs H Q _ => ∃ (v : V) (b : Verd), vs = [v] ∧ PlanV K H v b ∧ ∀ H' p, Same H H' → H' p = some (.lst (if b.good = true then [] else [vIdx b])) → Q (.ref p) H'
section
variable {P : Program} {w : World} {K : PySem.W.Frag} {mg : Str → Option Value} {base : Heap}
theorem ok_lisCell {f : Addr} {fd : FuncData} (F : Fun K "_law_is_cell" "_law_is_cell" sLisCell f fd) (mi : mg "isinstance" = none) (mT : mg "tuple" = none) (ml : mg "len" = none) (ma : mg "all" = none) (mI : mg "int" = none) (mB : mg "bool" = none) :
    FnOk P w K mg base CX0 1 f fd ["_law_thing"] (spIsCellG K) := by
  refine F.ok scLisCell (fun vs H Q E h => ?_) (fun cdv A outer s H vs Q E hr h => ?_)
  · obtain ⟨a, c, rfl, _⟩ := h
    rfl
  · obtain ⟨v, o, rfl, he, q⟩ := h
    have nd := scLisCell.nd
    refine ⟨_, pss_cons (ps_if (PW.pt (pw_or (pt_not (pt_val (pe_callB call_isi (by rfl) mi (by decide +kernel) (pa_cons (pv 0) (pa_cons (pe_bltn (v := .ty "tuple") (by rfl) mT (by decide +kernel) rfl) pa_nil)))))
          (pw_or1 (pt_cmpR op_ne (pe_callB call_len_seq (by rfl) ml PySem.boot_len (pa_cons (pv 0) pa_nil)) pe_int (nomark _)))))
        (pss_one (ps_ret pe_bl)) pss_nil)
      (pss_one (ps_ret (pe_callB (cr_all rfl) (by rfl) ma (by decide +kernel) (pa_cons
        (pe_lc (own := [("_law_one", 1)]) (g := gName 1) (tt := tYes) rfl nd (pi_tup (pv 0)) (blkOk_by (N := ["_law_thing", "_law_one"]) (sc := defScope sLisCell) (by decide +kernel))
          (fun _ _ _ _ _ => pg_name (i := 1) nd rfl (Or.inl rfl)) (fun _ _ _ _ _ => pts_nil)
          (fun _ _ _ _ _ => pe_and (pe_callB (id := "isinstance") (r := rIsi K) call_isi (by rfl) mi (by decide +kernel) (pa_cons (pv 1) (pa_cons (pe_bltn (v := .ty "int") (by rfl) mI (by decide +kernel) rfl) pa_nil)))
            (pe_and (pe_not (pe_callB (id := "isinstance") (r := rIsi K) call_isi (by rfl) mi (by decide +kernel) (pa_cons (pv 1) (pa_cons (pe_bltn (v := .ty "bool") (by rfl) mB (by decide +kernel) rfl) pa_nil))))
            (pe_one (pe_chain op_le op_le pe_int (pv 1) pe_int))))) pa_nil)))), ?_⟩
    have two : ∀ (t : Addr) (y0 y1 : V) (b0 b1 : Bool), v = .ref t → SqT K H t [y0, y1] → PlR K H y0 b0 → PlR K H y1 b1 → o.isSome = (b0 && b1) →
        tCB (rAll K) (tCons (tLc (iTup K (tVar 0)) (gName 1) tYes (tAndV (tCB (rIsi K) (tCons (tVar 1) (tCons (tC (.ty "int")) tNil))) (tAndV (tNotV (tCB (rIsi K) (tCons (tVar 1) (tCons (tC (.ty "bool")) tNil)))) (tChain rLe rLe (tC (.int 0)) (tVar 1) (tC (.int 7))))) [1]) tNil) [some v, none] H Q := by
      intro t y0 y1 b0 b1 ev ht p0 p1 eo
      subst ev
      refine ⟨_, rfl, t, rfl, ⟨_, ht⟩, fun D nD => ?_⟩
      refine lc_tup (K := K) (a := t) (xs := [y0, y1]) (fun j G => G D = some (.lst ((([b0, b1] : List Bool).take j).map V.bl)) ∧ (∀ b o, b ≠ D → H b = some o → G b = some o)) ?_ ?_ ?_ ?_
      · exact ⟨upd_same, fun b o n e => by rw [upd_ne n]; exact e⟩
      · rintro j G _ ⟨a1, a3⟩
        exact same_seqT (fun b o e => a3 b o (ne_of_none e nD) e) ht
      · rintro j x G hj ⟨a1, a3⟩
        have sD : Same H G := fun b o e => a3 b o (ne_of_none e nD) e
        have step : ∀ b : Bool, PlR K H x b → ([b0, b1] : List Bool)[j]? = some b → tAndV (tCB (rIsi K) (tCons (tVar 1) (tCons (tC (.ty "int")) tNil))) (tAndV (tNotV (tCB (rIsi K) (tCons (tVar 1) (tCons (tC (.ty "bool")) tNil)))) (tChain rLe rLe (tC (.int 0)) (tVar 1) (tC (.int 7)))) [some (.ref t), some x] G
            (fun y H4 => ∃ acc, H4 D = some (.lst acc) ∧ acc.length < sizeLine ∧ (upd H4 D (.lst (acc ++ [y])) D = some (.lst ((([b0, b1] : List Bool).take (j + 1)).map V.bl)) ∧ ∀ b o, b ≠ D → H b = some o → upd H4 D (.lst (acc ++ [y])) b = some o)) := fun b hb hbj => by
          refine pl_read rfl (hb.same sD) ⟨_, a1, ?_, ?_, fun q o n e => ?_⟩
          · rw [List.length_map, List.length_take]
            exact small64 (by simp; omega)
          · rw [upd_same, List.take_add_one, hbj, List.map_append]
            rfl
          · rw [upd_ne n]
            exact a3 q o n e
        refine ⟨rfl, ?_⟩
        match j, hj with
        | 0, hj =>
          cases hj
          exact step b0 p0 rfl
        | 1, hj =>
          cases hj
          exact step b1 p1 rfl
      · rintro G ⟨a1, a3⟩
        refine ⟨D, [b0, b1], rfl, SqL.of a1, ?_⟩
        have := q G (fun b o e => a3 b o (ne_of_none e nD) e)
        rw [eo] at this
        have z : ([b0, b1] : List Bool).all id = (b0 && b1) := by simp
        rw [z]
        exact this
    have q0 := q H (Same.refl _)
    cases o with
    | some c =>
      obtain ⟨⟨a, rfl, ht⟩, hg⟩ := he
      refine ⟨_, rfl, _, _, _, _, true, rfl, .ty "tuple", tyx_tup ht, kit_ty (by decide +kernel), true, rfl, ?_⟩
      refine ⟨_, rfl, a, _, rfl, .inr ht, rfl, false, rfl, ?_⟩
      exact two a _ _ true true rfl ht ⟨c.1, rfl, hg.1, hg.2.1⟩ ⟨c.2, rfl, hg.2.2.1, hg.2.2.2⟩ rfl
    | none =>
      rcases he with ⟨t, ho, n⟩ | ⟨t, ys, rfl, ht, n⟩ | ⟨t, y0, y1, b0, b1, rfl, ht, p0, p1, n⟩
      · refine ⟨_, rfl, v, _, _, _, _, rfl, .ty "tuple", ho.ty, kit_tuple ho, _, rfl, ?_⟩
        rw [decide_eq_false n]
        exact q0
      · refine ⟨_, rfl, _, _, _, _, true, rfl, .ty "tuple", tyx_tup ht, kit_ty (by decide +kernel), true, rfl, ?_⟩
        refine ⟨_, rfl, t, _, rfl, .inr ht, rfl, true, ?_, q0⟩
        have z : ¬ V.int (ys.length : Int) = V.int 2 := fun y => n (by
          have := V.int.inj y
          omega)
        show V.bl (!decide (V.int (ys.length : Int) = V.int 2)) = V.bl true
        rw [decide_eq_false z]
        rfl
      · refine ⟨_, rfl, _, _, _, _, true, rfl, .ty "tuple", tyx_tup ht, kit_ty (by decide +kernel), true, rfl, ?_⟩
        refine ⟨_, rfl, t, _, rfl, .inr ht, rfl, false, rfl, ?_⟩
        exact two t y0 y1 b0 b1 rfl ht p0 p1 n.symm
theorem ok_fault {f fL : Addr} {fd fdL : FuncData} (F : Fun K "_law_plan_fault" "_law_plan_fault" sPFault f fd) (GL : FnOk P w K mg base CX0 1 fL fdL ["_law_thing"] (spIsCellG K)) (bL : Binds K fdL ["_law_thing"] []) (gL : mg "_law_is_cell" = some (.ref fL)) (kL : PySem.W.keepIn K (.ref fL) = true)
    (mi : mg "isinstance" = none) (mT : mg "tuple" = none) (ml : mg "len" = none) (me : mg "enumerate" = none) : FnOk P w K mg base CX0 2 f fd ["_law_thing"] (spFault K) := by
  refine F.ok scFault (fun vs H Q E h => ?_) (fun cdv A outer s H vs Q E hr h => ?_)
  · obtain ⟨v, b, rfl, _⟩ := h
    rfl
  · obtain ⟨v, b, rfl, hv, q⟩ := h
    have nd := scFault.nd
    refine ⟨_, pss_cons (ps_if (PW.pt (pw_or (pt_not (pt_val (pe_callB call_isi (by rfl) mi (by decide +kernel) (pa_cons (pv 0) (pa_cons (pe_bltn (v := .ty "tuple") (by rfl) mT (by decide +kernel) rfl) pa_nil)))))
          (pw_or1 (pt_not (pt_chain op_lt op_lt pe_int (pe_callB call_len_seq (by rfl) ml PySem.boot_len (pa_cons (pv 0) pa_nil)) pe_int)))))
        (pss_one (ps_ret (pe_lst (pa_cons pe_non pa_nil)))) pss_nil)
      (pss_cons (ps_for PassesOwn.never rfl (pi_enumT (by rfl) me (pa_cons (pv 0) pa_nil)) (pg_tup (by rfl) (pgs_cons (pg_name (i := 1) nd rfl (.inl rfl)) (pgs_cons (pg_name (i := 2) nd rfl (.inl rfl)) pgs_nil)))
        (pss_one (ps_if (PW.pt (pw_or (pt_not (pt_val (pe_call GL hr (by rfl) gL kL bL .nil pass0 (pa_cons (pv 2) pa_nil))))
            (pw_or1 (PW.pt (pw_and (pt_cmpR op_gt (pv 1) pe_int (nomark _)) (pw_and1 (pt_cmpR (op_leT hr.units0) (pv 2) (pe_ix ix_tup (pv 0) (pe_op op_sub (pv 1) pe_int) (fun _ _ => rfl)) (nomark _))))))))
          (pss_one (ps_ret (pe_lst (pa_cons (pv 1) pa_nil)))) pss_nil)))
      (pss_one (ps_ret (pe_lst pa_nil)))), ?_⟩
    rcases hv.split with ⟨rfl, hn⟩ | ⟨a, xs, rs, rfl, hx, l1, l2, he, tw⟩
    · have go : tRet (tLst (tCons (tC .non) tNil)) { nx := fun _ H' => Q .non H', rt := Q } [some v, none, none] H := ⟨(by show 1 ≤ sizeLine; decide), fun p np => q _ p (same_new np) upd_same⟩
      rcases hn with ⟨t, ho, n⟩ | ⟨a, xs, rfl, hx, n⟩
      · refine ⟨_, rfl, v, _, _, _, _, rfl, .ty "tuple", ho.ty, kit_tuple ho, _, rfl, ?_⟩
        rw [decide_eq_false n]
        exact go
      · refine ⟨_, rfl, _, _, _, _, true, rfl, .ty "tuple", tyx_tup hx, kit_ty (by decide +kernel), true, rfl, ?_⟩
        refine ⟨_, rfl, a, _, rfl, .inr hx, _, _, rfl, rfl, _, rfl, ?_⟩
        by_cases c1 : (0 : Int) < (xs.length : Int)
        · rw [if_pos (decide_eq_true c1)]
          refine ⟨_, _, rfl, rfl, false, bl_false (show ¬ (xs.length : Int) < 25 by omega), ?_⟩
          exact go
        · rw [if_neg (fun z => c1 (of_decide_eq_true z))]
          exact ⟨false, rfl, go⟩
    · have hlen := Paired.length he
      refine ⟨_, rfl, _, _, _, _, true, rfl, .ty "tuple", tyx_tup hx, kit_ty (by decide +kernel), true, rfl, ?_⟩
      refine ⟨_, rfl, a, _, rfl, .inr hx, _, _, rfl, rfl, true, bl_true (show (0 : Int) < (xs.length : Int) by omega), ?_⟩
      refine ⟨_, _, rfl, rfl, true, bl_true (show (xs.length : Int) < 25 by omega), ?_⟩
      refine ⟨_, rfl, a, xs, rfl, hx, for_enumT (K := K) (a := a) (xs := xs) (fun i σ H' => Same H H' ∧ OkTo rs i ∧ ∃ y1 y2, σ = [some (.ref a), y1, y2]) ?_ ?_ ?_ ?_⟩
      · exact ⟨Same.refl _, fun j hj => absurd hj (Nat.not_lt_zero _), none, none, rfl⟩
      · rintro i σ H' _ ⟨sm, _⟩
        exact same_seqT sm hx
      · rintro i x σ H' Tp hi ⟨sm, ok, y1, y2, rfl⟩ nT
        obtain ⟨o, hoi, hox⟩ := paired_get he hi
        have sT := same_new (o := .tup [.int (i : Nat), x]) nT
        have s2 := sm.trans sT
        have fail : BadAt rs i → ∀ H2 : Hp, Same H H2 → tRet (tLst (tCons (tVar 1) tNil)) { nx := fun _ H' => Q .non H', rt := Q } [some (.ref a), some (.int ((i : Nat) : Int)), some x] H2 := fun bad H2 s3 => by
          have eb := tw.bad ok bad
          subst eb
          exact ⟨_, rfl, (by show 1 ≤ sizeLine; decide), fun p np => q _ p (s3.trans (same_new np)) upd_same⟩
        refine ⟨Tp, _, rfl, SqT.of upd_same, rfl, _, _, rfl, _, _, rfl, rfl, ?_⟩
        cases o with
        | none =>
          refine ⟨_, rfl, x, none, rfl, hox.same s2, fun H3 s3 => ⟨false, rfl, ?_⟩⟩
          exact fail (.inl hoi) _ (s2.trans s3)
        | some c =>
          refine ⟨_, rfl, x, some c, rfl, hox.same s2, fun H3 s3 => ⟨true, rfl, ?_⟩⟩
          have s4 := s2.trans s3
          refine ⟨_, rfl, _, _, rfl, rfl, _, rfl, ite2 (fun e => ?_) (fun e => ?_)⟩
          · have e' : (0 : Int) < (i : Int) := of_decide_eq_true e
            obtain ⟨j, rfl⟩ : ∃ j, i = j + 1 := ⟨i - 1, by omega⟩
            have hj : j < xs.length := by
              have := (List.getElem?_eq_some_iff.mp hi).1
              omega
            obtain ⟨o0, ho0, hx0⟩ := paired_get he (List.getElem?_eq_getElem hj)
            obtain ⟨c0, ec0, _⟩ := ok j (by omega)
            rw [ec0] at ho0
            cases ho0
            obtain ⟨⟨t0, e0, ht0⟩, _⟩ := hx0
            obtain ⟨⟨tt, e1, ht⟩, _⟩ := id hox
            subst e1
            have gx : xs[j]? = some (.ref t0) := by rw [List.getElem?_eq_getElem hj, e0]
            have ej : ((j + 1 : Nat) : Int) - 1 = ((j : Nat) : Int) := by omega
            refine ⟨_, rfl, _, rfl, _, rfl, _, _, rfl, rfl, a, xs, _, .ref t0, rfl, rfl, same_seqT s4 hx, ?_, tt, t0, [c.1, c.2], [c0.1, c0.2], rfl, rfl, same_seqT s4 ht, same_seqT s4 ht0, _, rfl, ite2 (fun e2 => ?_) (fun e2 => ?_)⟩
            · show atI xs (((j + 1 : Nat) : Int) - 1) = _
              rw [ej]
              exact atI_nat gx
            · exact fail (.inr ⟨c, c0, j, hoi, rfl, ec0, le2_iff.mp e2⟩) _ s4
            · refine ⟨s4, okTo_succ ok hoi (fun k hk => ?_), _, _, rfl⟩
              have : k = j := by omega
              subst this
              refine ⟨c0, ec0, ?_⟩
              rcases lt2_dec c0 c with z | z
              · exact z
              · exact absurd (le2_iff.mpr z) e2
          · have e' : ¬ (0 : Int) < (i : Int) := fun z => e (decide_eq_true z)
            exact ⟨s4, okTo_succ ok hoi (fun k hk => by omega), _, _, rfl⟩
      · rintro σ H' ⟨sm, ok, _⟩
        rw [hlen] at ok
        have g := tw.ok ok
        refine ⟨Nat.zero_le _, fun p np => q _ p (sm.trans (same_new np)) ?_⟩
        rw [g]
        exact upd_same
end
end KS
namespace KS
open PySem PySem.Spec PyProof.Rows L2
abbrev sBent : Stmt := topS 19
abbrev nBent : List Str := ["_law_pool_here", "_law_spots", "_law_at", "_law_mode", "_law_odd", "_law_some", "_law_bent", "_law_k"]
theorem scBent : FnScope nBent ["_law_pool_here", "_law_spots"] (defScope sBent) := ⟨rfl, rfl, rfl, by decide +kernel, rfl, by decide +kernel, by decide +kernel⟩
/-- t[:at] + (odd[draw(pool, 16)],) + t[at + 1:] -/
abbrev tBend (K : PySem.W.Frag) (i : Nat) : TE := tOp (rCatA K) (tOp (rCatA K) (tSl (rSlA K) (tVar i) tNoPart (tPart (tVar 2))) (tTup (tCons (tOp (rIxL K) (tVar 4) (tDr (tC (.int 16)))) tNil))) (tSl (rSlA K) (tVar i) (tPart (tOp rAdd (tVar 2) (tC (.int 1)))) tNoPart)
theorem bend_ok {K : PySem.W.Frag} {i n : Nat} {σ : L2.St} {H : Hp} {Q : VK} {p u L : Addr} {ys odds : List V} {rs : List (Option Cell)} (h0 : σ[0]? = some (some (.ref p))) (hi : σ[i]? = some (some (.ref u))) (h2 : σ[2]? = some (some (.int (n : Nat)))) (h4 : σ[4]? = some (some (.ref L)))
    (po : PoolO (H p)) (nLp : L ≠ p) (hu : SqT K H u ys) (he : Els K H ys rs) (hn : n < ys.length) (hl : ys.length ≤ 24) (hL : H L = some (.lst odds)) (ho : odds.length = 16) (hodd : ∀ x ∈ odds, ElR K H x none)
    (k : ∀ H' u' ys' rs', KeepX p H H' → PoolO (H' p) → SqT K H' u' ys' → Els K H' ys' rs' → ys'.length = ys.length → Q (.ref u') H') : tBend K i σ H Q := by
  refine ⟨_, hi, _, h2, (n : Int), rfl, slTo_ok hu (Nat.le_of_lt hn) (fun A1 u1 sa hu1 => ?_)⟩
  refine ⟨_, h4, _, h0, p, 16, rfl, po.same sa, by decide, by decide, fun A2 r kb po2 r0 r1 => ?_⟩
  obtain ⟨x, hx, hat⟩ := pick_ok (items := odds) r0 (by omega)
  have hx1 : ElR K A2 x none := ((hodd x hx).same sa).keepX (po.same sa) po2 kb
  refine ⟨L, odds, r, x, rfl, rfl, SqL.of (kb _ _ nLp (sa _ _ hL)), hat, (by show 1 ≤ sizeLine; decide), fun t1 nt1 => ?_⟩
  have sc := same_new (o := .tup [x]) nt1
  have ht1 : upd A2 t1 (.tup [x]) t1 = some (.tup [x]) := upd_same
  generalize upd A2 t1 (.tup [x]) = A3 at sc ht1 ⊢
  have hu1' : SqT K A3 u1 (ys.take n) := same_seqT sc (keepX_seqT (po.same sa) kb hu1)
  refine catA_ok hu1' (SqT.of ht1) (by
    rw [List.length_take]
    show min n ys.length + 1 ≤ 64
    omega) (fun A4 u2 sd hu2 => ?_)
  have kx4 : KeepX p H A4 := ((KeepX.of_same sa).trans kb).trans (.of_same (sc.trans sd))
  have po4 := po2.same (sc.trans sd)
  refine ⟨_, hi, _, h2, _, _, rfl, rfl, ((n : Int) + 1), rfl, ?_⟩
  have e1 : ((n : Int) + 1) = ((n + 1 : Nat) : Int) := by omega
  rw [e1]
  show rSlA K (V.ref u) (some ((n + 1 : Nat) : Int)) none A4 (fun y H2 => rCatA K (V.ref u2) y H2 Q)
  refine slFrom_ok (n := n + 1) (keepX_seqT po kx4 hu) hn (fun A5 u3 se hu3 => ?_)
  have hlen : (ys.take n ++ [x]).length + (ys.drop (n + 1)).length = ys.length := by
    rw [List.length_append, List.length_take, List.length_drop]
    show min n ys.length + 1 + (ys.length - (n + 1)) = ys.length
    omega
  refine catA_ok (same_seqT se hu2) hu3 (by omega) (fun A6 u4 sf hu4 => ?_)
  have kx6 : KeepX p H A6 := kx4.trans (.of_same (se.trans sf))
  have po6 := po4.same (se.trans sf)
  have he6 : Els K A6 ys rs := Paired.mono (fun _ _ q => q.keepX po po6 kx6) he
  have hx6 : ElR K A6 x none := hx1.same (((sc.trans sd).trans se).trans sf)
  refine k A6 u4 _ ((rs.take n ++ [none]) ++ rs.drop (n + 1)) kx6 po6 hu4 ?_ ?_
  · exact paired_append (paired_append (paired_take n he6) (.cons hx6 .nil)) (paired_drop (n + 1) he6)
  · rw [List.length_append]
    exact hlen
section
variable {P : Program} {w : World} {K : PySem.W.Frag} {mg : Str → Option Value} {base : Heap}
theorem ok_bent {f fD : Addr} {fd fdD : FuncData} (F : Fun K "_law_bent_plan" "_law_bent_plan" sBent f fd) (GD : FnOk P w K mg base CX0 1 fD fdD ["_law_pool_here", "_law_most"] spDraw)
    (bD : Binds K fdD ["_law_pool_here", "_law_most"] []) (gD : mg "_law_draw" = some (.ref fD)) (kD : PySem.W.keepIn K (.ref fD) = true)
    (ml : mg "len" = none) (mL : mg "list" = none) (mT : mg "tuple" = none) (mr : mg "range" = none) : FnOk P w K mg base CX0 2 f fd ["_law_pool_here", "_law_spots"] (spBent K) := by
  refine F.ok scBent (fun vs H Q E h => ?_) (fun cdv A outer s H vs Q E hr h => ?_)
  · obtain ⟨p, a, cs, rfl, _⟩ := h
    rfl
  · obtain ⟨p, a, cs, rfl, po, hpl, gd, hl, q⟩ := h
    have nd := scBent.nd
    refine ⟨_, pss_cons (ps_par (i := 2) (j := 3) (by rfl) nd rfl rfl (by decide) rfl rfl
        (pa_cons (pe_call GD hr (by rfl) gD kD bD .nil pass0 (pa_cons (pv 0) (pa_cons (pe_callB call_len_seq (by rfl) ml PySem.boot_len (pa_cons (pv 1) pa_nil)) pa_nil)))
          (pa_cons (pe_call GD hr (by rfl) gD kD bD .nil pass0 (pa_cons (pv 0) (pa_cons pe_int pa_nil))) pa_nil)) (by rfl))
      (pss_cons (ps_set (i := 4) nd rfl (.inl rfl) (pe_lst (pa_cons (pe_tup (pa_cons pe_int (pa_cons pe_int pa_nil))) (pa_cons (pe_tup (pa_cons pe_int (pa_cons pe_int pa_nil))) (pa_cons (pe_tup (pa_cons (pe_op op_sub pe_int pe_int) (pa_cons pe_int pa_nil)))
          (pa_cons (pe_tup (pa_cons pe_bl (pa_cons pe_int pa_nil))) (pa_cons (pe_tup (pa_cons pe_int (pa_cons pe_bl pa_nil))) (pa_cons (pe_tup (pa_cons pe_int pa_nil)) (pa_cons (pe_tup (pa_cons pe_int (pa_cons pe_int (pa_cons pe_int pa_nil))))
          (pa_cons (pe_lst (pa_cons pe_int (pa_cons pe_int pa_nil))) (pa_cons pe_non (pa_cons pe_str (pa_cons pe_int (pa_cons (pe_tup pa_nil) pa_nil))))))))))))))
      (pss_cons (ps_set (i := 4) nd rfl (.inl rfl) (pe_op op_cat (pv 4) (pe_lst (pa_cons (pe_tup (pa_cons pe_int (pa_cons pe_str pa_nil))) (pa_cons pe_dnewK (pa_cons (pe_tup (pa_cons (pe_lst pa_nil) (pa_cons pe_int pa_nil)))
          (pa_cons (pe_tup (pa_cons pe_int (pa_cons pe_dnewK pa_nil))) pa_nil)))))))
      (pss_cons (ps_if (pt_cmpR op_eq (pv 3) pe_int (nomark _)) (pss_cons (ps_set (i := 5) nd rfl (.inl rfl) (pe_lst (pa_cons pe_non (pa_cons pe_int (pa_cons pe_bl (pa_cons pe_str (pa_cons (pe_tup pa_nil) (pa_cons (pe_lst pa_nil) (pa_cons pe_dnewK
            (pa_cons (pe_callTy call_list_of (by rfl) mL (by decide +kernel) (pa_cons (pv 1) pa_nil)) (pa_cons (pe_tup (pa_cons (pv 1) pa_nil)) (pa_cons (pe_tup (pa_cons (pe_tup pa_nil) pa_nil)) (pa_cons pe_int (pa_cons (pe_tup (pa_cons pe_non pa_nil)) pa_nil))))))))))))))
          (pss_one (ps_ret (pe_ix ix_list (pv 5) (pe_call GD hr (by rfl) gD kD bD .nil pass0 (pa_cons (pv 0) (pa_cons pe_int pa_nil))) (fun _ _ => rfl))))) pss_nil)
      (pss_cons (ps_if (pt_cmpR op_eq (pv 3) pe_int (nomark _)) (pss_one (ps_ret (pe_ix ix_list (pe_lst (pa_cons (pe_callTy cr_tupOf (by rfl) mT (by decide +kernel) (pa_cons
            (pe_lc (own := [("_law_k", 7)]) (g := gName 7) (tt := tYes) rfl nd (pi_range1 (by rfl) mr (pa_cons pe_int pa_nil)) (blkOk_by (N := nBent) (sc := defScope sBent) (by decide +kernel))
              (fun _ _ _ _ _ => pg_name (i := 7) nd rfl (Or.inl rfl)) (fun _ _ _ _ _ => pts_nil) (fun _ _ _ _ _ => pe_tup (pa_cons (pe_op op_fdiv (pv 7) pe_int) (pa_cons (pe_op op_mod (pv 7) pe_int) pa_nil)))) pa_nil))
            (pa_cons (pe_op op_repT (pe_tup (pa_cons pe_non pa_nil)) pe_int) (pa_cons (pe_op op_repT (pv 1) pe_int) pa_nil))))
          (pe_call GD hr (by rfl) gD kD bD .nil pass0 (pa_cons (pv 0) (pa_cons pe_int pa_nil))) (fun _ _ => rfl)))) pss_nil)
      (pss_cons (ps_if (pt_cmpR op_eq (pv 3) pe_int (nomark _)) (pss_one (ps_ret (pe_op op_catA (pv 1) (pe_tup (pa_cons (pe_ix ix_tup (pv 1) (pv 2) (fun _ _ => rfl)) pa_nil))))) pss_nil)
      (pss_cons (ps_if (pt_cmpR op_eq (pv 3) pe_int (nomark _)) (pss_one (ps_ret (pe_revT (pv 1)))) pss_nil)
      (pss_cons (ps_if (pt_cmpR op_eq (pv 3) pe_int (nomark _)) (pss_one (ps_ret (pv 1))) pss_nil)
      (pss_cons (ps_set (i := 6) nd rfl (.inl rfl) (pe_op op_catA (pe_op op_catA (pe_slice sl_tupA (pv 1) po_none (po_some (pv 2)))
          (pe_tup (pa_cons (pe_ix ix_list (pv 4) (pe_call GD hr (by rfl) gD kD bD .nil pass0 (pa_cons (pv 0) (pa_cons pe_int pa_nil))) (fun _ _ => rfl)) pa_nil))) (pe_slice sl_tupA (pv 1) (po_some (pe_op op_add (pv 2) pe_int)) po_none)))
      (pss_cons (ps_if (pt_cmpR op_eq (pv 3) pe_int (nomark _)) (pss_cons (ps_set (i := 2) nd rfl (.inl rfl) (pe_call GD hr (by rfl) gD kD bD .nil pass0 (pa_cons (pv 0) (pa_cons (pe_callB call_len_seq (by rfl) ml PySem.boot_len (pa_cons (pv 1) pa_nil)) pa_nil))))
          (pss_one (ps_ret (pe_op op_catA (pe_op op_catA (pe_slice sl_tupA (pv 6) po_none (po_some (pv 2)))
          (pe_tup (pa_cons (pe_ix ix_list (pv 4) (pe_call GD hr (by rfl) gD kD bD .nil pass0 (pa_cons (pv 0) (pa_cons pe_int pa_nil))) (fun _ _ => rfl)) pa_nil))) (pe_slice sl_tupA (pv 6) (po_some (pe_op op_add (pv 2) pe_int)) po_none))))) pss_nil)
      (pss_one (ps_ret (pv 6)))))))))))), ?_⟩
    obtain ⟨xs, hx0, hc0⟩ := id hpl
    have hlen := Paired.length hc0
    have hpos : 0 < cs.length := by
      rcases Nat.eq_zero_or_pos cs.length with z | z
      · exact absurd (List.eq_nil_of_length_eq_zero z) gd.ne
      · exact z
    -- at, mode
    refine ⟨_, rfl, _, rfl, a, xs, rfl, .inr hx0, p, _, rfl, po, by omega, by omega, fun H1 at_ k1 po1 a0 a1 => ?_⟩
    obtain ⟨n, rfl⟩ := Int.eq_ofNat_of_zero_le a0
    have hn : n < xs.length := by omega
    refine ⟨_, rfl, p, 8, rfl, po1, by decide, by decide, fun G0 mode k2 po2 m0 m1 => ⟨_, _, rfl, ?_⟩⟩
    have kx0 : KeepX p H G0 := k1.trans k2
    have hx1 := keepX_seqT po kx0 hx0
    have hc1 := cells_kt (.of_keepX po kx0) hc0
    -- odd
    refine ⟨(by show 2 ≤ sizeLine; decide), fun t1 nn_t1 => ?_⟩
    have s1 := same_new (o := .tup [.int 0, .int 8]) nn_t1
    have h1 : upd G0 t1 (.tup [.int 0, .int 8]) t1 = some (.tup [.int 0, .int 8]) := upd_same
    generalize upd G0 t1 (.tup [.int 0, .int 8]) = G1 at s1 h1 ⊢
    refine ⟨(by show 2 ≤ sizeLine; decide), fun t2 nn_t2 => ?_⟩
    have s2 := same_new (o := .tup [.int 8, .int 0]) nn_t2
    have h2 : upd G1 t2 (.tup [.int 8, .int 0]) t2 = some (.tup [.int 8, .int 0]) := upd_same
    generalize upd G1 t2 (.tup [.int 8, .int 0]) = G2 at s2 h2 ⊢
    refine ⟨_, _, rfl, rfl, (by show 2 ≤ sizeLine; decide), fun t3 nn_t3 => ?_⟩
    have s3 := same_new (o := .tup [.int (0 - 1), .int 0]) nn_t3
    have h3 : upd G2 t3 (.tup [.int (0 - 1), .int 0]) t3 = some (.tup [.int (0 - 1), .int 0]) := upd_same
    generalize upd G2 t3 (.tup [.int (0 - 1), .int 0]) = G3 at s3 h3 ⊢
    refine ⟨(by show 2 ≤ sizeLine; decide), fun t4 nn_t4 => ?_⟩
    have s4 := same_new (o := .tup [.bl true, .int 0]) nn_t4
    have h4 : upd G3 t4 (.tup [.bl true, .int 0]) t4 = some (.tup [.bl true, .int 0]) := upd_same
    generalize upd G3 t4 (.tup [.bl true, .int 0]) = G4 at s4 h4 ⊢
    refine ⟨(by show 2 ≤ sizeLine; decide), fun t5 nn_t5 => ?_⟩
    have s5 := same_new (o := .tup [.int 0, .bl false]) nn_t5
    have h5 : upd G4 t5 (.tup [.int 0, .bl false]) t5 = some (.tup [.int 0, .bl false]) := upd_same
    generalize upd G4 t5 (.tup [.int 0, .bl false]) = G5 at s5 h5 ⊢
    refine ⟨(by show 1 ≤ sizeLine; decide), fun t6 nn_t6 => ?_⟩
    have s6 := same_new (o := .tup [.int 0]) nn_t6
    have h6 : upd G5 t6 (.tup [.int 0]) t6 = some (.tup [.int 0]) := upd_same
    generalize upd G5 t6 (.tup [.int 0]) = G6 at s6 h6 ⊢
    refine ⟨(by show 3 ≤ sizeLine; decide), fun t7 nn_t7 => ?_⟩
    have s7 := same_new (o := .tup [.int 0, .int 0, .int 0]) nn_t7
    have h7 : upd G6 t7 (.tup [.int 0, .int 0, .int 0]) t7 = some (.tup [.int 0, .int 0, .int 0]) := upd_same
    generalize upd G6 t7 (.tup [.int 0, .int 0, .int 0]) = G7 at s7 h7 ⊢
    refine ⟨(by show 2 ≤ sizeLine; decide), fun t8 nn_t8 => ?_⟩
    have s8 := same_new (o := .lst [.int 0, .int 0]) nn_t8
    have h8 : upd G7 t8 (.lst [.int 0, .int 0]) t8 = some (.lst [.int 0, .int 0]) := upd_same
    generalize upd G7 t8 (.lst [.int 0, .int 0]) = G8 at s8 h8 ⊢
    refine ⟨(by show 0 ≤ sizeLine; decide), fun t9 nn_t9 => ?_⟩
    have s9 := same_new (o := .tup []) nn_t9
    have h9 : upd G8 t9 (.tup []) t9 = some (.tup []) := upd_same
    generalize upd G8 t9 (.tup []) = G9 at s9 h9 ⊢
    refine ⟨(by show 12 ≤ sizeLine; decide), fun L1 nn_L1 => ?_⟩
    have s10 := same_new (o := .lst [.ref t1, .ref t2, .ref t3, .ref t4, .ref t5, .ref t6, .ref t7, .ref t8, .non, .str "00", .int 7, .ref t9]) nn_L1
    have hL1 : upd G9 L1 (.lst [.ref t1, .ref t2, .ref t3, .ref t4, .ref t5, .ref t6, .ref t7, .ref t8, .non, .str "00", .int 7, .ref t9]) L1 = some (.lst [.ref t1, .ref t2, .ref t3, .ref t4, .ref t5, .ref t6, .ref t7, .ref t8, .non, .str "00", .int 7, .ref t9]) := upd_same
    generalize upd G9 L1 (.lst [.ref t1, .ref t2, .ref t3, .ref t4, .ref t5, .ref t6, .ref t7, .ref t8, .non, .str "00", .int 7, .ref t9]) = G10 at s10 hL1 ⊢
    -- odd, longer
    refine ⟨_, rfl, ?_⟩
    refine ⟨(by show 2 ≤ sizeLine; decide), fun u1 nn_u1 => ?_⟩
    have s11 := same_new (o := .tup [.int 0, .str "1"]) nn_u1
    have g1 : upd G10 u1 (.tup [.int 0, .str "1"]) u1 = some (.tup [.int 0, .str "1"]) := upd_same
    generalize upd G10 u1 (.tup [.int 0, .str "1"]) = G11 at s11 g1 ⊢
    refine fun u2 nn_u2 => ?_
    have s12 := same_new (o := .dK []) nn_u2
    have g2 : upd G11 u2 (.dK []) u2 = some (.dK []) := upd_same
    generalize upd G11 u2 (.dK []) = G12 at s12 g2 ⊢
    refine ⟨(by show 0 ≤ sizeLine; decide), fun u3 nn_u3 => ?_⟩
    have s13 := same_new (o := .lst []) nn_u3
    have g3 : upd G12 u3 (.lst []) u3 = some (.lst []) := upd_same
    generalize upd G12 u3 (.lst []) = G13 at s13 g3 ⊢
    refine ⟨(by show 2 ≤ sizeLine; decide), fun u4 nn_u4 => ?_⟩
    have s14 := same_new (o := .tup [.ref u3, .int 0]) nn_u4
    have g4 : upd G13 u4 (.tup [.ref u3, .int 0]) u4 = some (.tup [.ref u3, .int 0]) := upd_same
    generalize upd G13 u4 (.tup [.ref u3, .int 0]) = G14 at s14 g4 ⊢
    refine fun u5 nn_u5 => ?_
    have s15 := same_new (o := .dK []) nn_u5
    have g5 : upd G14 u5 (.dK []) u5 = some (.dK []) := upd_same
    generalize upd G14 u5 (.dK []) = G15 at s15 g5 ⊢
    refine ⟨(by show 2 ≤ sizeLine; decide), fun u6 nn_u6 => ?_⟩
    have s16 := same_new (o := .tup [.int 0, .ref u5]) nn_u6
    have g6 : upd G15 u6 (.tup [.int 0, .ref u5]) u6 = some (.tup [.int 0, .ref u5]) := upd_same
    generalize upd G15 u6 (.tup [.int 0, .ref u5]) = G16 at s16 g6 ⊢
    refine ⟨(by show 4 ≤ sizeLine; decide), fun L2 nn_L2 => ?_⟩
    have s17 := same_new (o := .lst [.ref u1, .ref u2, .ref u4, .ref u6]) nn_L2
    have hL2 : upd G16 L2 (.lst [.ref u1, .ref u2, .ref u4, .ref u6]) L2 = some (.lst [.ref u1, .ref u2, .ref u4, .ref u6]) := upd_same
    generalize upd G16 L2 (.lst [.ref u1, .ref u2, .ref u4, .ref u6]) = G17 at s17 hL2 ⊢
    have z10 : Same G10 G17 := ((((((s11.trans s12).trans s13).trans s14).trans s15).trans s16).trans s17)
    refine ⟨L1, L2, _, _, rfl, rfl, z10 _ _ hL1, hL2, (by show 12 + 4 ≤ sizeLine; decide), fun L nL => ?_⟩
    have s18 := same_new (o := .lst ([.ref t1, .ref t2, .ref t3, .ref t4, .ref t5, .ref t6, .ref t7, .ref t8, .non, .str "00", .int 7, .ref t9] ++ [.ref u1, .ref u2, .ref u4, .ref u6])) nL
    have hL : upd G17 L (.lst ([.ref t1, .ref t2, .ref t3, .ref t4, .ref t5, .ref t6, .ref t7, .ref t8, .non, .str "00", .int 7, .ref t9] ++ [.ref u1, .ref u2, .ref u4, .ref u6])) L = some (.lst ([.ref t1, .ref t2, .ref t3, .ref t4, .ref t5, .ref t6, .ref t7, .ref t8, .non, .str "00", .int 7, .ref t9] ++ [.ref u1, .ref u2, .ref u4, .ref u6])) := upd_same
    generalize upd G17 L (.lst ([.ref t1, .ref t2, .ref t3, .ref t4, .ref t5, .ref t6, .ref t7, .ref t8, .non, .str "00", .int 7, .ref t9] ++ [.ref u1, .ref u2, .ref u4, .ref u6])) = GO at s18 hL ⊢
    have y17 : Same G17 GO := s18
    have y16 := s17.trans y17
    have y15 := s16.trans y16
    have y14 := s15.trans y15
    have y13 := s14.trans y14
    have y12 := s13.trans y13
    have y11 := s12.trans y12
    have y10 := s11.trans y11
    have y9 := s10.trans y10
    have y8 := s9.trans y9
    have y7 := s8.trans y8
    have y6 := s7.trans y7
    have y5 := s6.trans y6
    have y4 := s5.trans y5
    have y3 := s4.trans y4
    have y2 := s3.trans y3
    have y1 := s2.trans y2
    have sO : Same G0 GO := s1.trans y1
    have hodd : ∀ x ∈ ([.ref t1, .ref t2, .ref t3, .ref t4, .ref t5, .ref t6, .ref t7, .ref t8, .non, .str "00", .int 7, .ref t9] ++ [.ref u1, .ref u2, .ref u4, .ref u6] : List V), ElR K GO x none := by
      intro x hx
      simp only [List.cons_append, List.nil_append, List.mem_cons, List.not_mem_nil, or_false] at hx
      rcases hx with z | z | z | z | z | z | z | z | z | z | z | z | z | z | z | z <;> subst z
      · exact odd2 (y1 _ _ h1) (pl_yes ⟨by decide, by decide⟩) (pl_no (by decide)) rfl
      · exact odd2 (y2 _ _ h2) (pl_no (by decide)) (pl_yes ⟨by decide, by decide⟩) rfl
      · exact odd2 (y3 _ _ h3) (pl_no (by decide)) (pl_yes ⟨by decide, by decide⟩) rfl
      · exact odd2 (y4 _ _ h4) (pl_oth (.bl _) (by decide)) (pl_yes ⟨by decide, by decide⟩) rfl
      · exact odd2 (y5 _ _ h5) (pl_yes ⟨by decide, by decide⟩) (pl_oth (.bl _) (by decide)) rfl
      · exact oddN (SqT.of (y6 _ _ h6)) (by decide)
      · exact oddN (SqT.of (y7 _ _ h7)) (by decide)
      · exact oddO (.lst (y8 _ _ h8)) (by decide)
      · exact oddO .non (by decide)
      · exact oddO (.str _) (by decide)
      · exact oddO (.int _) (by decide)
      · exact oddN (SqT.of (y9 _ _ h9)) (by decide)
      · exact odd2 (y11 _ _ g1) (pl_yes ⟨by decide, by decide⟩) (pl_oth (.str _) (by decide)) rfl
      · exact oddO (.dct (y12 _ _ g2)) (by decide)
      · exact odd2 (y14 _ _ g4) (pl_oth (.lst (y13 _ _ g3)) (by decide)) (pl_yes ⟨by decide, by decide⟩) rfl
      · exact odd2 (y16 _ _ g6) (pl_yes ⟨by decide, by decide⟩) (pl_oth (.dct (y15 _ _ g5)) (by decide)) rfl
    have poO := po2.same sO
    have nLp : L ≠ p := Ne.symm ((po2.same (s1.trans (s2.trans (s3.trans (s4.trans (s5.trans (s6.trans (s7.trans (s8.trans (s9.trans (s10.trans z10))))))))))).ne nL)
    have kxO : KeepX p H GO := kx0.trans (.of_same sO)
    have hx := same_seqT sO hx1
    have hc := cells_kt (.of_same sO) hc1
    have hplO : PlanAt K GO a cs := ⟨xs, hx, hc⟩
    have hels : Els K GO xs (cs.map some) := els_cells hc gd.grid
    have fin : ∀ (H' : Hp) (v : V) (b : Verd), Same GO H' → PlanV K H' v b → Q v H' := fun H' v b s hv => q H' v b (kxO.trans (.of_same s)) (poO.same s) hv
    clear y17 y16 y15 y14 y13 y12 y11 y10 y9 y8 y7 y6 y5 y4 y3 y2 y1 z10
    -- mode 0
    refine ⟨_, rfl, rfl, _, rfl, ite2 (fun _ => ?_) (fun _ => ?_)⟩
    · refine ⟨(by show 0 ≤ sizeLine; decide), fun v1 nn_v1 => ?_⟩
      have r1 := same_new (o := .tup []) nn_v1
      have e1 : upd GO v1 (.tup []) v1 = some (.tup []) := upd_same
      generalize upd GO v1 (.tup []) = A1 at r1 e1 ⊢
      refine ⟨(by show 0 ≤ sizeLine; decide), fun v2 nn_v2 => ?_⟩
      have r2 := same_new (o := .lst []) nn_v2
      have e2 : upd A1 v2 (.lst []) v2 = some (.lst []) := upd_same
      generalize upd A1 v2 (.lst []) = A2 at r2 e2 ⊢
      refine fun v3 nn_v3 => ?_
      have r3 := same_new (o := .dK []) nn_v3
      have e3 : upd A2 v3 (.dK []) v3 = some (.dK []) := upd_same
      generalize upd A2 v3 (.dK []) = A3 at r3 e3 ⊢
      refine ⟨_, rfl, a, xs, rfl, .inr (same_seqT ((r1.trans r2).trans r3) hx), fun v4 nn_v4 => ?_⟩
      have r4 := same_new (o := .lst xs) nn_v4
      have e4 : upd A3 v4 (.lst xs) v4 = some (.lst xs) := upd_same
      generalize upd A3 v4 (.lst xs) = A4 at r4 e4 ⊢
      refine ⟨_, rfl, (by show 1 ≤ sizeLine; decide), fun v5 nn_v5 => ?_⟩
      have r5 := same_new (o := .tup [.ref a]) nn_v5
      have e5 : upd A4 v5 (.tup [.ref a]) v5 = some (.tup [.ref a]) := upd_same
      generalize upd A4 v5 (.tup [.ref a]) = A5 at r5 e5 ⊢
      refine ⟨(by show 0 ≤ sizeLine; decide), fun v6 nn_v6 => ?_⟩
      have r6 := same_new (o := .tup []) nn_v6
      have e6 : upd A5 v6 (.tup []) v6 = some (.tup []) := upd_same
      generalize upd A5 v6 (.tup []) = A6 at r6 e6 ⊢
      refine ⟨(by show 1 ≤ sizeLine; decide), fun v7 nn_v7 => ?_⟩
      have r7 := same_new (o := .tup [.ref v6]) nn_v7
      have e7 : upd A6 v7 (.tup [.ref v6]) v7 = some (.tup [.ref v6]) := upd_same
      generalize upd A6 v7 (.tup [.ref v6]) = A7 at r7 e7 ⊢
      refine ⟨(by show 1 ≤ sizeLine; decide), fun v8 nn_v8 => ?_⟩
      have r8 := same_new (o := .tup [.non]) nn_v8
      have e8 : upd A7 v8 (.tup [.non]) v8 = some (.tup [.non]) := upd_same
      generalize upd A7 v8 (.tup [.non]) = A8 at r8 e8 ⊢
      refine ⟨(by show 12 ≤ sizeLine; decide), fun S nS => ?_⟩
      have r9 := same_new (o := .lst [.non, .int 0, .bl true, .str "plan", .ref v1, .ref v2, .ref v3, .ref v4, .ref v5, .ref v7, .int 7, .ref v8]) nS
      have hS : upd A8 S (.lst [.non, .int 0, .bl true, .str "plan", .ref v1, .ref v2, .ref v3, .ref v4, .ref v5, .ref v7, .int 7, .ref v8]) S = some (.lst [.non, .int 0, .bl true, .str "plan", .ref v1, .ref v2, .ref v3, .ref v4, .ref v5, .ref v7, .int 7, .ref v8]) := upd_same
      generalize upd A8 S (.lst [.non, .int 0, .bl true, .str "plan", .ref v1, .ref v2, .ref v3, .ref v4, .ref v5, .ref v7, .int 7, .ref v8]) = A9 at r9 hS ⊢
      have x8 := r8.trans r9
      have x7 := r7.trans x8
      have x6 := r6.trans x7
      have x5 := r5.trans x6
      have x4 := r4.trans x5
      have x3 := r3.trans x4
      have x2 := r2.trans x3
      have xO : Same GO A9 := r1.trans x2
      have hv : ∀ x ∈ ([.non, .int 0, .bl true, .str "plan", .ref v1, .ref v2, .ref v3, .ref v4, .ref v5, .ref v7, .int 7, .ref v8] : List V), ∃ b, PlanV K A9 x b := by
        intro x hx'
        simp only [List.mem_cons, List.not_mem_nil, or_false] at hx'
        rcases hx' with z | z | z | z | z | z | z | z | z | z | z | z <;> subst z
        · exact ⟨.non, .inl ⟨_, .non, by decide⟩⟩
        · exact ⟨.non, .inl ⟨_, .int _, by decide⟩⟩
        · exact ⟨.non, .inl ⟨_, .bl _, by decide⟩⟩
        · exact ⟨.non, .inl ⟨_, .str _, by decide⟩⟩
        · exact planV_of (SqT.of (x2 _ _ e1)) .nil
        · exact ⟨.non, .inl ⟨_, .lst (x3 _ _ e2), by decide⟩⟩
        · exact ⟨.non, .inl ⟨_, .dct (x4 _ _ e3), by decide⟩⟩
        · exact ⟨.non, .inl ⟨_, .lst (x5 _ _ e4), by decide⟩⟩
        · exact planV_of (SqT.of (x6 _ _ e5)) (.cons (odd_plan (hplO.kt (.of_same xO))) .nil)
        · exact planV_of (SqT.of (x8 _ _ e7)) (.cons (oddN (SqT.of (x7 _ _ e6)) (by decide)) .nil)
        · exact ⟨.non, .inl ⟨_, .int _, by decide⟩⟩
        · exact planV_of (SqT.of (r9 _ _ e8)) (.cons (oddO .non (by decide)) .nil)
      have poS := poO.same xO
      refine ⟨_, rfl, _, rfl, p, 12, rfl, poS, by decide, by decide, fun B r kb pob i0 i1 => ?_⟩
      obtain ⟨x, hxm, hat⟩ := pick_ok (items := [.non, .int 0, .bl true, .str "plan", .ref v1, .ref v2, .ref v3, .ref v4, .ref v5, .ref v7, .int 7, .ref v8]) i0 i1
      obtain ⟨b, hb⟩ := hv x hxm
      have nSp : S ≠ p := Ne.symm ((poO.same (((((((r1.trans r2).trans r3).trans r4).trans r5).trans r6).trans r7).trans r8)).ne nS)
      exact ⟨S, _, r, x, rfl, rfl, SqL.of (kb _ _ nSp hS), hat, q B x b ((kxO.trans (.of_same xO)).trans kb) pob (hb.keepX poS pob kb)⟩
    -- mode 1
    refine ⟨_, rfl, rfl, _, rfl, ite2 (fun _ => ?_) (fun _ => ?_)⟩
    · refine ⟨25, rfl, by decide, by decide, fun D nD => ?_⟩
      refine lc_range (lo := 0) (n := 25) (fun j G => ∃ acc : List V, G D = some (.lst acc) ∧ acc.length = j ∧ (∀ b o, b ≠ D → GO b = some o → G b = some o)) ?_ ?_ ?_
      · exact ⟨[], upd_same, rfl, fun b o n e => by rw [upd_ne n]; exact e⟩
      · rintro j G hj ⟨acc, a1, a2, a3⟩
        refine ⟨rfl, _, rfl, _, _, rfl, rfl, ⟨by decide, by decide⟩, _, rfl, _, _, rfl, rfl, by show (0 : Int) < 8; decide, (by show 2 ≤ sizeLine; decide), fun t nt => ?_⟩
        refine ⟨acc, same_new nt _ _ a1, small64 (by omega), _, upd_same, by rw [List.length_append, a2]; rfl, fun b o n e => ?_⟩
        rw [upd_ne n]
        exact same_new nt _ _ (a3 b o n e)
      · rintro G ⟨acc, a1, a2, a3⟩
        have sD : Same GO G := fun b o e => a3 b o (ne_of_none e nD) e
        refine ⟨D, acc, rfl, .inl ⟨SqL.of a1, fun v1 n1 => ?_⟩⟩
        have r1 := same_new (o := .tup acc) n1
        have e1 : upd G v1 (.tup acc) v1 = some (.tup acc) := upd_same
        generalize upd G v1 (.tup acc) = A1 at r1 e1 ⊢
        refine ⟨(by show 1 ≤ sizeLine; decide), fun v2 n2 => ?_⟩
        have r2 := same_new (o := .tup [.non]) n2
        have e2 : upd A1 v2 (.tup [.non]) v2 = some (.tup [.non]) := upd_same
        generalize upd A1 v2 (.tup [.non]) = A2 at r2 e2 ⊢
        refine ⟨v2, 25, [.non], rfl, rfl, SqT.of e2, by simp, by decide, by decide, by decide, fun v3 n3 => ?_⟩
        have r3 := same_new (o := .tup (List.replicate (25 : Int).toNat [V.non]).flatten) n3
        have e3 : upd A2 v3 (.tup (List.replicate (25 : Int).toNat [V.non]).flatten) v3 = some (.tup (List.replicate (25 : Int).toNat [V.non]).flatten) := upd_same
        generalize upd A2 v3 (.tup (List.replicate (25 : Int).toNat [V.non]).flatten) = A3 at r3 e3 ⊢
        have sA3 : Same GO A3 := ((sD.trans r1).trans r2).trans r3
        have hne : xs ≠ [] := fun z => by
          rw [z] at hlen
          have : 0 = cs.length := hlen
          omega
        refine ⟨_, rfl, a, 25, xs, rfl, rfl, same_seqT sA3 hx, hne, by decide, by decide, by omega, fun v4 n4 => ?_⟩
        have r4 := same_new (o := .tup (List.replicate (25 : Int).toNat xs).flatten) n4
        have e4 : upd A3 v4 (.tup (List.replicate (25 : Int).toNat xs).flatten) v4 = some (.tup (List.replicate (25 : Int).toNat xs).flatten) := upd_same
        generalize upd A3 v4 (.tup (List.replicate (25 : Int).toNat xs).flatten) = A4 at r4 e4 ⊢
        refine ⟨(by show 3 ≤ sizeLine; decide), fun S nS => ?_⟩
        have r5 := same_new (o := .lst [.ref v1, .ref v3, .ref v4]) nS
        have hS : upd A4 S (.lst [.ref v1, .ref v3, .ref v4]) S = some (.lst [.ref v1, .ref v3, .ref v4]) := upd_same
        have poS4 := poO.same (sA3.trans r4)
        generalize upd A4 S (.lst [.ref v1, .ref v3, .ref v4]) = A5 at r5 hS ⊢
        have sA5 : Same GO A5 := (sA3.trans r4).trans r5
        have poS := poO.same sA5
        have hv : ∀ x ∈ ([.ref v1, .ref v3, .ref v4] : List V), ∃ b, PlanV K A5 x b := by
          intro x hx'
          simp only [List.mem_cons, List.not_mem_nil, or_false] at hx'
          rcases hx' with z | z | z <;> subst z
          · exact ⟨.non, .inr ⟨v1, acc, rfl, SqT.of ((((r2.trans r3).trans r4).trans r5) _ _ e1), .inr (by omega)⟩⟩
          · exact ⟨.non, .inr ⟨v3, _, rfl, SqT.of ((r4.trans r5) _ _ e3), .inr (by decide)⟩⟩
          · refine ⟨.non, .inr ⟨v4, _, rfl, SqT.of (r5 _ _ e4), .inr ?_⟩⟩
            have e25 : (25 : Int).toNat = 25 := rfl
            rw [e25, List.length_flatten, List.map_replicate, List.sum_replicate_nat]
            omega
        refine ⟨_, rfl, p, 3, rfl, poS, by decide, by decide, fun B r kb pob i0 i1 => ?_⟩
        obtain ⟨x, hxm, hat⟩ := pick_ok (items := [.ref v1, .ref v3, .ref v4]) i0 i1
        obtain ⟨b, hb⟩ := hv x hxm
        have nSp : S ≠ p := Ne.symm (poS4.ne nS)
        exact ⟨S, _, r, x, rfl, rfl, SqL.of (kb _ _ nSp hS), hat, q B x b ((kxO.trans (.of_same sA5)).trans kb) pob (hb.keepX poS pob kb)⟩
    -- mode 2
    refine ⟨_, rfl, rfl, _, rfl, ite2 (fun _ => ?_) (fun _ => ?_)⟩
    · obtain ⟨c, hcn, t, ht, hct⟩ := paired_get hc (List.getElem?_eq_getElem hn)
      refine ⟨_, rfl, _, rfl, _, rfl, a, xs, _, xs[n], rfl, rfl, hx, atI_nat (List.getElem?_eq_getElem hn), (by show 1 ≤ sizeLine; decide), fun v1 n1 => ?_⟩
      have r1 := same_new (o := .tup [xs[n]]) n1
      have e1 : upd GO v1 (.tup [xs[n]]) v1 = some (.tup [xs[n]]) := upd_same
      generalize upd GO v1 (.tup [xs[n]]) = A1 at r1 e1 ⊢
      refine catA_ok (same_seqT r1 hx) (SqT.of e1) (by show xs.length + 1 ≤ 64; omega) (fun A2 u r2 hu => ?_)
      have sA := r1.trans r2
      obtain ⟨b, hb⟩ := planV_of hu (paired_append (els_same sA hels) (.cons (show ElR K A2 xs[n] (some c) from ⟨(show CellAt K GO xs[n] c from ⟨t, ht, hct⟩).kt (.of_same sA), gd.grid c (List.mem_of_getElem? hcn)⟩) .nil))
      exact fin A2 _ b sA hb
    -- mode 3
    refine ⟨_, rfl, rfl, _, rfl, ite2 (fun _ => ?_) (fun _ => ?_)⟩
    · refine ⟨_, rfl, a, xs, rfl, hx, fun v1 n1 => ?_⟩
      have r1 := same_new (o := .tup xs.reverse) n1
      obtain ⟨b, hb⟩ := planV_of (K := K) (H := upd GO v1 (.tup xs.reverse)) (SqT.of upd_same) (paired_rev (els_same r1 hels))
      exact fin _ _ b r1 hb
    -- mode 4
    refine ⟨_, rfl, rfl, _, rfl, ite2 (fun _ => ?_) (fun _ => ?_)⟩
    · exact ⟨_, rfl, fin GO _ .ok (Same.refl _) (planV_good hplO gd hl)⟩
    -- bent
    refine bend_ok (p := p) (u := a) (L := L) (n := n) rfl rfl rfl rfl poO nLp hx hels hn (by omega) hL rfl hodd (fun B u ys rs kb pob hu he hyl => ?_)
    have hLB := kb _ _ nLp hL
    have hoddB : ∀ x ∈ ([.ref t1, .ref t2, .ref t3, .ref t4, .ref t5, .ref t6, .ref t7, .ref t8, .non, .str "00", .int 7, .ref t9] ++ [.ref u1, .ref u2, .ref u4, .ref u6] : List V), ElR K B x none := fun x hx => (hodd x hx).keepX poO pob kb
    have kxB := kxO.trans kb
    refine ⟨_, rfl, rfl, _, rfl, ite2 (fun _ => ?_) (fun _ => ?_)⟩
    · refine ⟨_, rfl, _, rfl, a, xs, rfl, .inr (keepX_seqT poO kb hx), p, _, rfl, pob, by omega, by omega, fun B2 at2 kb2 pob2 b0 b1 => ?_⟩
      obtain ⟨n2, rfl⟩ := Int.eq_ofNat_of_zero_le b0
      refine bend_ok (p := p) (u := u) (L := L) (n := n2) rfl rfl rfl rfl pob2 nLp (keepX_seqT pob kb2 hu) (Paired.mono (fun _ _ q => q.keepX pob pob2 kb2) he) (by omega) (by omega) (kb2 _ _ nLp hLB) rfl
        (fun x hx => (hoddB x hx).keepX pob pob2 kb2) (fun B3 u' ys' rs' kb3 pob3 hu' he' _ => ?_)
      obtain ⟨b, hb⟩ := planV_of hu' he'
      exact q B3 _ b ((kxB.trans kb2).trans kb3) pob3 hb
    · obtain ⟨b, hb⟩ := planV_of hu he
      exact ⟨_, rfl, q B _ b kxB pob hb⟩
end
end KS
namespace KS
open PySem PySem.Spec PyProof.Rows L2
abbrev sPlan : Stmt := topS 16
abbrev nPlan : List Str := ["_law_pool_here", "_law_most", "_law_mode", "_law_wide", "_law_high", "_law_top", "_law_left", "_law_every", "_law_step", "_law_low", "_law_far", "_law_side", "_law_spot"]
theorem scPlan : FnScope nPlan ["_law_pool_here", "_law_most"] (defScope sPlan) := ⟨rfl, rfl, rfl, by decide +kernel, rfl, by decide +kernel, by decide +kernel⟩
section
variable {P : Program} {w : World} {K : PySem.W.Frag} {mg : Str → Option Value} {base : Heap}
theorem ok_plan {f fD : Addr} {fd fdD : FuncData} (F : Fun K "_law_plan" "_law_plan" sPlan f fd) (GD : FnOk P w K mg base CX0 1 fD fdD ["_law_pool_here", "_law_most"] spDraw)
    (bD : Binds K fdD ["_law_pool_here", "_law_most"] []) (gD : mg "_law_draw" = some (.ref fD)) (kD : PySem.W.keepIn K (.ref fD) = true)
    (mn : mg "min" = none) (mr : mg "range" = none) (ml : mg "len" = none) (mt : mg "tuple" = none) (ms : mg "sum" = none) :
    FnOk P w K mg base CX0 2 f fd ["_law_pool_here", "_law_most"] (spPlan K) := by
  refine F.ok scPlan (fun vs H Q E h => ?_) (fun cdv A outer s H vs Q E hr h => ?_)
  · obtain ⟨p, m, rfl, _⟩ := h
    rfl
  · obtain ⟨p, m, rfl, po, m0, m1, q⟩ := h
    have nd := scPlan.nd
    refine ⟨_, pss_cons (ps_par (i := 2) (j := 3) (by rfl) nd rfl rfl (by decide) rfl rfl
        (pa_cons (pe_call GD hr (by rfl) gD kD bD .nil pass0 (pa_cons (pv 0) (pa_cons pe_int pa_nil)))
          (pa_cons (pe_op op_add pe_int (pe_call GD hr (by rfl) gD kD bD .nil pass0 (pa_cons (pv 0) (pa_cons (pe_callB (call_min2 rfl) (by rfl) mn (by decide +kernel) (pa_cons pe_int (pa_cons (pv 1) pa_nil))) pa_nil)))) pa_nil)) (by rfl))
      (pss_cons (ps_set (i := 4) nd rfl (.inl rfl) (pe_op op_add pe_int (pe_call GD hr (by rfl) gD kD bD .nil pass0 (pa_cons (pv 0)
          (pa_cons (pe_callB (call_min2 rfl) (by rfl) mn (by decide +kernel) (pa_cons pe_int (pa_cons (pe_op op_fdiv (pv 1) (pv 3)) pa_nil))) pa_nil)))))
      (pss_cons (ps_if (pt_cmpR op_eq (pv 2) pe_int (nomark _)) (pss_one (ps_par (i := 4) (j := 3) (by rfl) nd rfl rfl (by decide) rfl rfl
          (pa_cons (pe_op op_add pe_int (pe_call GD hr (by rfl) gD kD bD .nil pass0 (pa_cons (pv 0) (pa_cons pe_int pa_nil))))
            (pa_cons (pe_op op_add pe_int (pe_call GD hr (by rfl) gD kD bD .nil pass0 (pa_cons (pv 0) (pa_cons pe_int pa_nil)))) pa_nil)) (by rfl))) pss_nil)
      (pss_cons (ps_asg (pe_tup (pa_cons (pe_call GD hr (by rfl) gD kD bD .nil pass0 (pa_cons (pv 0) (pa_cons (pe_op op_sub pe_int (pv 4)) pa_nil)))
            (pa_cons (pe_call GD hr (by rfl) gD kD bD .nil pass0 (pa_cons (pv 0) (pa_cons (pe_op op_sub pe_int (pv 3)) pa_nil))) (pa_cons (pe_lst pa_nil) pa_nil))))
          (pg_tup (by rfl) (pgs_cons (pg_name (i := 5) nd rfl (.inr rfl)) (pgs_cons (pg_name (i := 6) nd rfl (.inr rfl)) (pgs_cons (pg_name (i := 7) nd rfl (.inl rfl)) pgs_nil)))))
      (pss_cons (ps_for PassesOwn.never rfl (pi_range1 (by rfl) mr (pa_cons (pv 4) pa_nil)) (pg_name (i := 8) nd rfl (.inr rfl))
          (pss_one (ps_expr (pe_bm PySem.F.plainAttrs_list PySem.F.slot_list_extend PySem.F.type_list_extend mt_extend (pv 7)
            (pa_cons (pe_lc (own := [("_law_side", 11)]) (g := gName 11) (tt := tYes) rfl nd (pi_range1 (by rfl) mr (pa_cons (pv 3) pa_nil)) (blkOk_by (N := nPlan) (sc := defScope sPlan) (by decide +kernel))
              (fun _ _ _ _ _ => pg_name (i := 11) nd rfl (Or.inl rfl)) (fun _ _ _ _ _ => pts_nil) (fun _ _ _ _ _ => pe_tup (pa_cons (pe_op op_add (pv 5) (pv 8)) (pa_cons (pe_op op_add (pv 6) (pv 11)) pa_nil)))) pa_nil)))))
      (pss_cons (ps_if (pt_cmpR op_eq (pv 2) pe_int (nomark _)) (pss_one (ps_set (i := 7) nd rfl (.inl rfl) (pe_orT
          (pe_lc (own := [("_law_spot", 12)]) (g := gName 12) rfl nd (pi_list (pv 7)) (blkOk_by (N := nPlan) (sc := defScope sPlan) (by decide +kernel))
            (fun _ _ _ _ _ => pg_name (i := 12) nd rfl (Or.inl rfl)) (fun _ _ _ _ _ => pts_one (pt_cmpR op_gt (pe_call GD hr (by rfl) gD kD bD .nil pass0 (pa_cons (pv 0) (pa_cons pe_int pa_nil))) pe_int (nomark _))) (fun _ _ _ _ _ => pv 12)) (pe_one (pv 7))))) pss_nil)
      (pss_cons (ps_if (pt_cmpR op_eq (pv 2) pe_int (nomark _)) (pss_one (ps_set (i := 7) nd rfl (.inl rfl) (pe_orT
          (pe_lc (own := [("_law_spot", 12)]) (g := gName 12) rfl nd (pi_list (pv 7)) (blkOk_by (N := nPlan) (sc := defScope sPlan) (by decide +kernel))
            (fun _ _ _ _ _ => pg_name (i := 12) nd rfl (Or.inl rfl)) (fun _ _ _ _ _ => pts_one (pt_cmpR op_gt (pe_call GD hr (by rfl) gD kD bD .nil pass0 (pa_cons (pv 0) (pa_cons pe_int pa_nil))) pe_int (nomark _))) (fun _ _ _ _ _ => pv 12)) (pe_one (pv 7))))) pss_nil)
      (pss_cons (ps_if (pt_cmpR op_eq (pv 2) pe_int (nomark _)) (pss_cons (ps_set (i := 9) nd rfl (.inr rfl) (pe_op op_add (pe_op op_add (pv 5) (pv 6)) (pe_call GD hr (by rfl) gD kD bD .nil pass0 (pa_cons (pv 0) (pa_cons pe_int pa_nil)))))
          (pss_cons (ps_set (i := 10) nd rfl (.inr rfl) (pe_op op_sub (pe_op op_sub (pe_op op_add (pe_op op_add (pe_op op_add (pv 5) (pv 6)) (pv 4)) (pv 3)) pe_int) (pe_call GD hr (by rfl) gD kD bD .nil pass0 (pa_cons (pv 0) (pa_cons pe_int pa_nil)))))
          (pss_one (ps_set (i := 7) nd rfl (.inl rfl) (pe_orT
          (pe_lc (own := [("_law_spot", 12)]) (g := gName 12) rfl nd (pi_list (pv 7)) (blkOk_by (N := nPlan) (sc := defScope sPlan) (by decide +kernel))
            (fun _ _ _ _ _ => pg_name (i := 12) nd rfl (Or.inl rfl)) (fun _ _ _ _ _ => pts_one (pt_chain op_le op_le (pv 9) (pe_callB (id := "sum") (r := rSumT K) (cr_sumT rfl) (by rfl) ms (by decide +kernel) (pa_cons (pv 12) pa_nil)) (pv 10))) (fun _ _ _ _ _ => pv 12)) (pe_one (pv 7))))))) pss_nil)
      (pss_cons (ps_while PassesOwn.never (pt_cmpR op_gt (pe_callB call_len_seq (by rfl) ml PySem.boot_len (pa_cons (pv 7) pa_nil)) (pv 1) (nomark _))
          (pss_one (ps_expr (pe_bm PySem.F.plainAttrs_list PySem.F.slot_list_pop PySem.F.type_list_pop mt_popAt (pv 7)
            (pa_cons (pe_call GD hr (by rfl) gD kD bD .nil pass0 (pa_cons (pv 0) (pa_cons (pe_callB call_len_seq (by rfl) ml PySem.boot_len (pa_cons (pv 7) pa_nil)) pa_nil))) pa_nil)))))
      (pss_one (ps_ret (pe_callTy call_tuple_of (by rfl) mt (by decide +kernel) (pa_cons (pv 7) pa_nil)))))))))))), ?_⟩
    -- mode, wide
    refine ⟨_, rfl, p, 4, rfl, po, by decide, by decide, fun H1 mode k1 po1 _ _ => ?_⟩
    have mb : 0 < (if m < 8 then m else 8 : Int) ∧ (if m < 8 then m else 8 : Int) ≤ 8 ∧ (if m < 8 then m else 8 : Int) ≤ m := by
      by_cases c : m < 8
      · rw [if_pos c]
        omega
      · rw [if_neg c]
        omega
    refine ⟨_, rfl, _, rfl, 8, m, rfl, p, _, rfl, po1, mb.1, by omega, fun H2 w k2 po2 w0 w1 => ?_⟩
    refine ⟨_, _, rfl, rfl, _, _, rfl, ?_⟩
    -- high
    have qd : 1 ≤ m / (1 + w) := by
      have : (1 : Int) * (1 + w) ≤ m := by omega
      exact (Int.le_ediv_iff_mul_le (by omega)).mpr this
    have hb : 0 < (if m / (1 + w) < 8 then m / (1 + w) else 8 : Int) ∧ (if m / (1 + w) < 8 then m / (1 + w) else 8 : Int) ≤ 8 := by
      by_cases c : m / (1 + w) < 8
      · rw [if_pos c]
        omega
      · rw [if_neg c]
        omega
    refine ⟨_, rfl, _, rfl, _, rfl, _, _, rfl, rfl, ⟨by omega, by omega⟩, 8, _, rfl, p, _, rfl, po2, hb.1, by omega, fun H3 h k3 po3 h0 h1 => ?_⟩
    refine ⟨_, _, rfl, rfl, ?_⟩
    refine par_if (p := p) (m := m) (mode := mode) (wide := 1 + w) (high := 1 + h) po3 ⟨by omega, by omega⟩ ⟨by omega, by omega⟩ (fun wide high H4 k4 po4 hw hh => ?_)
    have kx4 : KeepX p H H4 := ((k1.trans k2).trans k3).trans k4
    -- top, left, every
    refine ⟨_, rfl, _, rfl, _, _, rfl, rfl, p, _, rfl, po4, by omega, by omega, fun H5 top k5 po5 t0 t1 => ?_⟩
    refine ⟨_, rfl, _, rfl, _, _, rfl, rfl, p, _, rfl, po5, by omega, by omega, fun H6 left k6 po6 l0 l1 => ?_⟩
    refine ⟨Nat.zero_le _, fun e ne => ⟨(by show 3 ≤ sizeLine; decide), fun T nT => ?_⟩⟩
    have kx6 : KeepX p H H6 := (kx4.trans k5).trans k6
    have s7 := same_new (o := .lst []) ne
    have s8 := same_new (o := .tup [.int top, .int left, .ref e]) nT
    have po8 := (po6.same s7).same s8
    have he8 := s8 _ _ (show upd H6 e (.lst []) e = _ from upd_same)
    refine ⟨T, _, rfl, SqT.of upd_same, rfl, _, _, rfl, _, _, rfl, _, _, rfl, rfl, ?_⟩
    have nep : e ≠ p := Ne.symm (po6.ne ne)
    have heH : H e = none := by
      cases z : H e with
      | none => rfl
      | some o =>
        have := kx6 e o nep z
        rw [ne] at this
        cases this
    -- the rows
    refine ⟨_, rfl, high, rfl, by omega, by omega, for_range (lo := 0) (n := high.toNat) (fun i σ H' => ∃ (y8 : Option V) (xs : List V) (cs : List Cell),
      σ = [some (.ref p), some (.int m), some (.int mode), some (.int wide), some (.int high), some (.int top), some (.int left), some (.ref e), y8, none, none, none, none] ∧
      KeepX p H H' ∧ PoolO (H' p) ∧ H' e = some (.lst xs) ∧ CellsAt K H' xs cs ∧ cs.Pairwise lt2 ∧ (∀ c ∈ cs, top ≤ c.1 ∧ c.1 < top + i ∧ left ≤ c.2 ∧ c.2 < left + wide) ∧ i ≤ cs.length ∧ cs.length ≤ 8 * i) ?_ ?_ ?_⟩
    · refine ⟨none, [], [], rfl, (kx6.trans (.of_same s7)).trans (.of_same s8), po8, he8, .nil, .nil, (fun c hc => nomatch hc), Nat.le_refl _, Nat.le_refl _⟩
    · rintro i σ H' hi ⟨y8, xs, cs, rfl, kx, po', he, hc, pw, bd, c0, c1⟩
      have hi' : (i : Int) < high := by omega
      have hlen := Paired.length hc
      refine ⟨_, rfl, .inl ⟨rfl, _, SqL.of he⟩, _, rfl, wide, rfl, by omega, by omega, fun d nd2 => ?_⟩
      have ned : e ≠ d := ne_of_none he nd2
      have npd : p ≠ d := po'.ne nd2
      refine lc_range (lo := 0) (n := wide.toNat) (fun j H2 => ∃ acc : List V, H2 d = some (.lst acc) ∧ CellsAt K H2 acc (rowCells (top + i) left j) ∧ (∀ b o, b ≠ d → H' b = some o → H2 b = some o)) ?_ ?_ ?_
      · exact ⟨[], upd_same, .nil, fun b o n z => by rw [upd_ne n]; exact z⟩
      · rintro j H2 hj ⟨acc, a1, a2, a3⟩
        refine ⟨rfl, _, rfl, _, rfl, _, _, rfl, rfl, _, rfl, _, rfl, _, _, rfl, rfl, (by show 2 ≤ sizeLine; decide), fun t nt => ?_⟩
        have ndt : d ≠ t := ne_of_none a1 nt
        have st := same_new (o := .tup [.int (top + (0 + (i : Int))), .int (left + (0 + (j : Int)))]) nt
        have hal : acc.length = j := by
          rw [Paired.length a2, rowCells_len]
        refine ⟨acc, st _ _ a1, small64 (by omega), acc ++ [.ref t], upd_same, ?_, fun b o n z => ?_⟩
        · rw [rowCells_succ]
          refine paired_append (cells_kt ((KT.of_same st).trans (KT.upd (st _ _ a1))) a2) (.cons ⟨t, rfl, SqT.of ?_⟩ .nil)
          rw [upd_ne (Ne.symm ndt), upd_same, Int.zero_add, Int.zero_add]
        · rw [upd_ne n]
          exact st _ _ (a3 b o n z)
      · rintro H2 ⟨acc, a1, a2, a3⟩
        have hw' : (wide.toNat : Int) = wide := Int.toNat_of_nonneg (by omega)
        have hal : acc.length = wide.toNat := by
          rw [Paired.length a2, rowCells_len]
        have kt2 : KT K H' H2 := KT.of_same fun b o z => a3 b o (ne_of_none z nd2) z
        have he2 := a3 _ _ ned he
        refine ⟨e, d, xs, acc, rfl, rfl, he2, a1, by
          rw [sizeLine_eq]
          omega, ?_⟩
        refine ⟨_, xs ++ acc, cs ++ rowCells (top + i) left wide.toNat, rfl, ?_, ?_, upd_same, ?_, ?_, ?_, ?_, ?_⟩
        · intro b o n z
          have nbe : b ≠ e := ne_of_none z heH
          rw [upd_ne nbe]
          have z' := kx b o n z
          exact a3 b o (ne_of_none z' nd2) z'
        · rw [upd_ne (Ne.symm nep)]
          obtain ⟨x1, x2, x3, x4, x5⟩ := po'
          exact ⟨x1, x2, x3, a3 _ _ npd x4, x5⟩
        · exact cells_kt (KT.upd he2) (paired_append (cells_kt kt2 hc) a2)
        · rw [List.pairwise_append]
          refine ⟨pw, rowCells_asc _ _ _, fun x hx y hy => ?_⟩
          have b1 := bd x hx
          have b2 := rowCells_mem hy
          exact .inl (by omega)
        · intro c hc'
          rcases List.mem_append.mp hc' with z | z
          · have := bd c z
            omega
          · have := rowCells_mem z
            omega
        · rw [List.length_append, rowCells_len]
          omega
        · rw [List.length_append, rowCells_len]
          omega
    · rintro σ H' ⟨y8, xs, cs, rfl, kx, po', he, hc, pw, bd, c0, c1⟩
      have hh' : (high.toNat : Int) = high := Int.toNat_of_nonneg (by omega)
      have hst : PlSt K p H m mode wide high top left [some (.ref p), some (.int m), some (.int mode), some (.int wide), some (.int high), some (.int top), some (.int left), some (.ref e), y8, none, none, none, none] H' :=
        ⟨⟨e, xs, cs, y8, none, none, rfl, heH, nep, he, hc, ⟨pw, fun c z => by
          have := bd c z
          exact ⟨by omega, by omega, by omega, by omega⟩, fun z => by
          subst z
          have : high.toNat ≤ 0 := c0
          omega⟩, by omega⟩, kx, po'⟩
      refine fil_if hst (fun t c => draw_test hst (by decide) (by decide) t c) (fun σ1 G1 h1' => ?_)
      refine fil_if h1' (fun t c => draw_test h1' (by decide) (by decide) t c) (fun σ2 G2 h2' => ?_)
      refine fil3_if h2' (fun σ3 G3 h3' => ?_)
      -- while len(every) > most
      refine ⟨fun n σ G => ∃ (e : Addr) (xs : List V) (cs : List Cell) (y8 y9 y10 : Option V),
        σ = [some (.ref p), some (.int m), some (.int mode), some (.int wide), some (.int high), some (.int top), some (.int left), some (.ref e), y8, y9, y10, none, none] ∧
        H e = none ∧ e ≠ p ∧ G e = some (.lst xs) ∧ CellsAt K G xs cs ∧ Good cs ∧ cs.length ≤ 64 ∧ KeepX p H G ∧ PoolO (G p) ∧ n = xs.length, ?_, ?_⟩
      · obtain ⟨⟨e, xs, cs, y8, y9, y10, es, he0, hep, he, hc, gd, hl⟩, kx, po⟩ := h3'
        exact ⟨xs.length, e, xs, cs, y8, y9, y10, es, he0, hep, he, hc, gd, hl, kx, po, rfl⟩
      · rintro n σ4 G4 ⟨e4, xs4, cs4, y8, y9, y10, rfl, he0, hep, he4, hc4, gd4, hl4, kx4, po4', rfl⟩
        have hlen := Paired.length hc4
        refine ⟨_, rfl, e4, xs4, rfl, .inl (SqL.of he4), _, rfl, _, _, rfl, rfl, _, rfl, ite2 (fun c => ?_) (fun c => ?_)⟩
        · have c' : m < (xs4.length : Int) := of_decide_eq_true c
          refine ⟨fun σ' G' => ∃ n', n' < xs4.length ∧ ∃ (e : Addr) (xs : List V) (cs : List Cell) (y8 y9 y10 : Option V),
            σ' = [some (.ref p), some (.int m), some (.int mode), some (.int wide), some (.int high), some (.int top), some (.int left), some (.ref e), y8, y9, y10, none, none] ∧
            H e = none ∧ e ≠ p ∧ G' e = some (.lst xs) ∧ CellsAt K G' xs cs ∧ Good cs ∧ cs.length ≤ 64 ∧ KeepX p H G' ∧ PoolO (G' p) ∧ n' = xs.length, fun σ' G' z => z, ?_⟩
          refine ⟨_, rfl, .inl ⟨rfl, _, SqL.of he4⟩, _, rfl, _, rfl, e4, xs4, rfl, .inl (SqL.of he4), p, _, rfl, po4', by omega, by omega, fun G5 r k5 po5 r0 r1 => ?_⟩
          have hr' : ((r.toNat : Nat) : Int) = r := Int.toNat_of_nonneg r0
          have hlt : r.toNat < xs4.length := by omega
          have he5 := k5 _ _ hep he4
          refine ⟨e4, xs4, r, r.toNat, xs4[r.toNat], rfl, rfl, he5, by omega, by omega, ?_, List.getElem?_eq_getElem hlt, ?_⟩
          · unfold seqIndex?
            have e1 : ¬ r < 0 := by omega
            simp only [if_neg e1]
            rw [if_pos]
            simp only [Bool.and_eq_true, decide_eq_true_eq]
            exact ⟨r0, r1⟩
          · have hel : (xs4.eraseIdx r.toNat).length = xs4.length - 1 := List.length_eraseIdx_of_lt hlt
            have hpe := paired_erase r.toNat hc4
            have hsub := List.eraseIdx_sublist cs4 r.toNat
            refine ⟨(xs4.eraseIdx r.toNat).length, by omega, e4, _, cs4.eraseIdx r.toNat, y8, y9, y10, rfl, he0, hep, upd_same, cells_kt ((KT.of_keepX po4' k5).trans (KT.upd he5)) hpe,
              ⟨gd4.asc.sublist hsub, fun c hc => gd4.grid c (hsub.subset hc), fun z => ?_⟩, Nat.le_trans hsub.length_le hl4, ?_, ?_, rfl⟩
            · have q1 := Paired.length hpe
              rw [z, hel] at q1
              have : xs4.length - 1 = 0 := q1
              omega
            · intro b o n z
              rw [upd_ne (ne_of_none z he0)]
              exact k5 _ _ n (kx4 _ _ n z)
            · rw [upd_ne (Ne.symm hep)]
              exact po5
        · have c' : ¬ m < (xs4.length : Int) := fun z => c (decide_eq_true z)
          refine ⟨_, rfl, e4, xs4, rfl, .inl ⟨SqL.of he4, fun l nl => ?_⟩⟩
          have sl := same_new (o := .tup xs4) nl
          refine q _ l cs4 (kx4.trans (.of_same sl)) (po4'.same sl) ⟨xs4, SqT.of upd_same, cells_kt (.of_same sl) hc4⟩ gd4 (by omega) ?_
          cases z : H l with
          | none => rfl
          | some o =>
            have := kx4 l o (Ne.symm (po4'.ne nl)) z
            rw [nl] at this
            cases this
end
end KS
namespace KS
open PySem PySem.Spec PyProof.Rows L2
abbrev sRight : Stmt := topS 20
abbrev sLaw : Stmt := topS 21
abbrev nRight : List Str := ["_law_pool_here", "_law_spots", "_law_turn", "_law_thing", "_law_due", "_law_told"]
theorem scRight : FnScope nRight ["_law_pool_here"] (defScope sRight) := ⟨rfl, rfl, rfl, by decide +kernel, rfl, by decide +kernel, by decide +kernel⟩
abbrev nLaw : List Str := ["_law_script", "_law_k"]
theorem scLaw : FnScope nLaw ["_law_script"] (defScope sLaw) := ⟨rfl, rfl, rfl, by decide +kernel, rfl, by decide +kernel, by decide +kernel⟩
theorem notB (a b : Bool) : (!decide (a = b)) = (a != b) := by cases a <;> cases b <;> rfl
/-- the fault's list as data -/
theorem fault_data {K : PySem.W.Frag} {H : Hp} {p : Addr} {b : Verd} (h : H p = some (.lst (if b.good = true then [] else [vIdx b]))) : ∃ d, Dp K H (.ref p) d ∧ SeqAt.shaped d = true ∧ PyData.eqv d (.list []) = b.good := by
  cases b with
  | ok => exact ⟨.list [], .lst (SqL.of h) .nil, by decide, by decide⟩
  | non => exact ⟨.list [.none], .lst (SqL.of h) (.cons .non .nil), by decide, by decide⟩
  | «at» i => exact ⟨.list [.int (i : Nat)], .lst (SqL.of h) (.cons (.int _) .nil), ints_shaped [((i : Nat) : Int)], rfl⟩
section
variable {P : Program} {w : World} {K : PySem.W.Frag} {mg : Str → Option Value} {base : Heap}
theorem ok_right {f fD fP fB fF fI : Addr} {fd fdD fdP fdB fdF fdI : FuncData} (F : Fun K "_law_right" "_law_right" sRight f fd)
    (GD : FnOk P w K mg base CX0 1 fD fdD ["_law_pool_here", "_law_most"] spDraw) (bD : Binds K fdD ["_law_pool_here", "_law_most"] []) (gD : mg "_law_draw" = some (.ref fD)) (kD : PySem.W.keepIn K (.ref fD) = true)
    (GP : FnOk P w K mg base CX0 2 fP fdP ["_law_pool_here", "_law_most"] (spPlan K)) (bP : Binds K fdP ["_law_pool_here", "_law_most"] []) (gP : mg "_law_plan" = some (.ref fP)) (kP : PySem.W.keepIn K (.ref fP) = true)
    (GB : FnOk P w K mg base CX0 2 fB fdB ["_law_pool_here", "_law_spots"] (spBent K)) (bB : Binds K fdB ["_law_pool_here", "_law_spots"] []) (gB : mg "_law_bent_plan" = some (.ref fB)) (kB : PySem.W.keepIn K (.ref fB) = true)
    (GF : FnOk P w K mg base CX0 2 fF fdF ["_law_thing"] (spFault K)) (bF : Binds K fdF ["_law_thing"] []) (gF : mg "_law_plan_fault" = some (.ref fF)) (kF : PySem.W.keepIn K (.ref fF) = true)
    (GI : FnOk P w K mg base CX0 6 fI fdI ["value"] (spIsPlan K)) (bI : Binds K fdI ["value"] []) (wI : KwBinds fdI ["value"] ["value"] id id) (gI : mg "is_plan" = some (.ref fI)) (kI : PySem.W.keepIn K (.ref fI) = true)
    (mI : mg "int" = none) (mL : mg "list" = none) (mr : mg "range" = none) (mi : mg "isinstance" = none) (mB : mg "bool" = none) : FnG P w K mg base 7 f fd ["_law_pool_here"] spRight := by
  refine okG F scRight (fun vs H Q E h => ?_) (fun cdv A outer s H vs Q E hr hgd h => ?_)
  · obtain ⟨p, rfl, _⟩ := h
    rfl
  · obtain ⟨p, rfl, po, q⟩ := h
    have nd := scRight.nd
    have hr1 : Room 1 _ := hr.mono (by decide)
    have hr2 : Room 2 _ := hr.mono (by decide)
    refine ⟨_, pss_cons (ps_set (i := 1) nd rfl (.inl rfl) (pe_call GP hr2 (by rfl) gP kP bP .nil pass0 (pa_cons (pv 0) (pa_cons (pe_ix ix_list (pe_lst (pa_cons pe_int (pa_cons pe_int pa_nil)))
          (pe_callTy call_int1 (by rfl) mI (by decide +kernel) (pa_cons (pe_cmpR op_gt (pe_call GD hr1 (by rfl) gD kD bD .nil pass0 (pa_cons (pv 0) (pa_cons pe_int pa_nil))) pe_int (nomark _)) pa_nil)) (fun _ _ => rfl)) pa_nil))))
      (pss_cons (ps_if (PW.pt (pw_or (pt_cmpR op_notBl (pe_call GI hr (by rfl) gI kI bI .nil pass0 (pa_cons (pv 1) pa_nil)) pe_bl (nomark _))
          (pw_or1 (pt_cmpR op_notBl (pe_call GI hr (by rfl) gI kI bI .nil pass0 (pa_cons (pe_callTy call_list_of (by rfl) mL (by decide +kernel) (pa_cons (pv 1) pa_nil)) pa_nil)) pe_bl (nomark _)))))
        (pss_one (ps_ret pe_bl)) pss_nil)
      (pss_cons (ps_for PassesOwn.never rfl (pi_range1 (by rfl) mr (pa_cons pe_int pa_nil)) (pg_name (i := 2) nd rfl (.inl rfl))
        (pss_cons (ps_set (i := 3) nd rfl (.inl rfl) (pe_call GB hr2 (by rfl) gB kB bB .nil pass0 (pa_cons (pv 0) (pa_cons (pv 1) pa_nil))))
        (pss_cons (ps_set (i := 4) nd rfl (.inl rfl) (pe_cmpR (op_eqD hr.units) (pe_call GF hr2 (by rfl) gF kF bF .nil pass0 (pa_cons (pv 3) pa_nil)) (pe_lst pa_nil) (nomark _)))
        (pss_one (ps_for PassesOwn.never rfl (pi_list (pe_lst (pa_cons (pe_call GI hr (by rfl) gI kI bI .nil pass0 (pa_cons (pv 3) pa_nil)) (pa_cons (pe_callKw GI hr (by rfl) gI kI wI pass0 (pk_cons (pv 3) pk_nil)) pa_nil)))) (pg_name (i := 5) nd rfl (.inl rfl))
          (pss_one (ps_if (PW.pt (pw_or (pt_not (pt_val (pe_callB call_isi (by rfl) mi (by decide +kernel) (pa_cons (pv 5) (pa_cons (pe_bltn (v := .ty "bool") (by rfl) mB (by decide +kernel) rfl) pa_nil)))))
              (pw_or1 (pt_cmpR op_ne (pv 5) (pv 4) (nomark _)))))
            (pss_one (ps_ret pe_bl)) pss_nil)))))))
      (pss_one (ps_ret (pe_cmpR op_isBl (pe_call GI hr (by rfl) gI kI bI .nil pass0 (pa_cons (pv 1) pa_nil)) pe_bl (nomark _)))))), ?_⟩
    -- spots
    refine ⟨_, rfl, (by show 2 ≤ sizeLine; decide), fun L nL => ?_⟩
    have sL := same_new (o := .lst [.int 24, .int 10]) nL
    refine ⟨_, rfl, p, 8, rfl, po.same sL, by decide, by decide, fun H1 r k1 po1 r0 r1 => ⟨_, _, rfl, rfl, .inr ⟨_, rfl, ?_⟩⟩⟩
    obtain ⟨m, hm0, hm1, hat⟩ : ∃ m : Int, 1 ≤ m ∧ m ≤ 24 ∧ atI [V.int 24, V.int 10] (if decide (0 < r) = true then 1 else 0) = some (.int m) := by
      by_cases c : 0 < r
      · rw [if_pos (decide_eq_true c)]
        exact ⟨10, by decide, by decide, rfl⟩
      · rw [if_neg (fun z => c (of_decide_eq_true z))]
        exact ⟨24, by decide, by decide, rfl⟩
    have nLp : L ≠ p := Ne.symm (po.ne nL)
    refine ⟨L, _, _, .int m, rfl, rfl, SqL.of (k1 _ _ nLp upd_same), hat, p, m, rfl, po1, hm0, hm1, fun H2 a cs k2 po2 hpl gd hcl _ => ?_⟩
    have kx2 : KeepX p H H2 := (KeepX.trans (.of_same sL) k1).trans k2
    have hl24 : cs.length ≤ 24 := by omega
    -- is_plan(spots), is_plan(list(spots))
    refine ⟨_, rfl, _, .ok, rfl, planV_good hpl gd hl24, fun H3 s3 => ⟨true, true, rfl, rfl, false, rfl, ?_⟩⟩
    obtain ⟨xs, hx, hc⟩ := hpl.kt (.of_same s3)
    refine ⟨_, rfl, a, xs, rfl, .inr hx, fun l nl => ?_⟩
    have sl := same_new (o := .lst xs) nl
    have el : upd H3 l (.lst xs) l = some (.lst xs) := upd_same
    generalize upd H3 l (.lst xs) = H4 at sl el ⊢
    refine ⟨_, .non, rfl, .inl ⟨_, .lst el, by decide⟩, fun H5 s5 => ⟨false, false, rfl, rfl, false, rfl, ?_⟩⟩
    have s25 : Same H2 H5 := (s3.trans sl).trans s5
    have kx5 := kx2.trans (.of_same s25)
    have po5 := po2.same s25
    have hpl5 := hpl.kt (.of_same s25)
    -- eight bent ones
    refine ⟨8, rfl, by decide, by decide, for_range (lo := 0) (n := 8) (fun i σ H' => ∃ y2 y3 y4 y5 : Option V, σ = [some (.ref p), some (.ref a), y2, y3, y4, y5] ∧ KeepX p H H' ∧ PoolO (H' p) ∧ PlanAt K H' a cs) ?_ ?_ ?_⟩
    · exact ⟨none, none, none, none, rfl, kx5, po5, hpl5⟩
    · rintro i σ G hi ⟨y2, y3, y4, y5, rfl, kx, pog, hplg⟩
      refine ⟨_, rfl, _, rfl, p, a, cs, rfl, pog, hplg, gd, hl24, fun G1 v b k6 po6 hv => ?_⟩
      have kx6 := kx.trans k6
      have hpl6 := hplg.kt (.of_keepX pog k6)
      refine ⟨_, rfl, v, b, rfl, hv, fun G2 z s7 hz => ?_⟩
      refine ⟨Nat.zero_le _, fun e ne => ?_⟩
      have se := same_new (o := .lst []) ne
      have ee : upd G2 e (.lst []) e = some (.lst []) := upd_same
      generalize upd G2 e (.lst []) = G3 at se ee ⊢
      obtain ⟨d, hd, hsd, heq⟩ := fault_data (K := K) (se _ _ hz)
      refine ⟨d, .list [], hd, .lst (SqL.of ee) .nil, hsd, by decide, ?_⟩
      rw [heq]
      have s13 := s7.trans se
      -- told
      refine ⟨_, rfl, v, b, rfl, hv.same s13, fun G4 s8 => ?_⟩
      refine ⟨_, rfl, v, b, rfl, hv.same (s13.trans s8), fun G5 s9 => ?_⟩
      refine ⟨(by show 2 ≤ sizeLine; decide), fun l5 n5 => ?_⟩
      have s10 := same_new (o := .lst [.bl b.good, .bl b.good]) n5
      have e5 : upd G5 l5 (.lst [.bl b.good, .bl b.good]) l5 = some (.lst [.bl b.good, .bl b.good]) := upd_same
      generalize upd G5 l5 (.lst [.bl b.good, .bl b.good]) = G6 at s10 e5 ⊢
      have s16 : Same G1 G6 := ((s13.trans s8).trans s9).trans s10
      refine ⟨l5, rfl, ⟨_, SqL.of e5⟩, ?_⟩
      refine for_list (K := K) (a := l5) (xs := [.bl b.good, .bl b.good]) (fun _ σ H' => ∃ y2 y5 : Option V, σ = [some (.ref p), some (.ref a), y2, some v, some (.bl b.good), y5] ∧ Same G6 H') ?_ ?_ ?_ ?_
      · exact ⟨_, _, rfl, Same.refl _⟩
      · rintro i σ H' _ ⟨_, _, _, sm⟩
        exact SqL.of (sm _ _ e5)
      · rintro i x σ H' hi ⟨z2, z5, rfl, sm⟩
        obtain rfl : x = .bl b.good := by
          have hm := List.mem_of_getElem? hi
          simpa using hm
        refine ⟨_, rfl, _, _, _, _, true, rfl, .ty "bool", .base (.bl _), kit_ty (by decide +kernel), true, rfl, ?_⟩
        exact ⟨_, rfl, _, rfl, rfl, _, rfl, iteNS rfl ⟨_, _, rfl, sm⟩⟩
      · rintro σ H' ⟨z2, z5, rfl, sm⟩
        have sA := s16.trans sm
        exact ⟨_, _, _, _, rfl, kx6.trans (.of_same sA), po6.same sA, hpl6.kt (.of_same sA)⟩
    · rintro σ G ⟨y2, y3, y4, y5, rfl, kx, pog, hplg⟩
      refine ⟨_, rfl, _, .ok, rfl, planV_good hplg gd hl24, fun H7 s7 => ⟨true, true, rfl, rfl, ?_⟩⟩
      exact q _ (kx.trans (.of_same s7))
theorem ok_law {f fC fP fR fI : Addr} {fd fdC fdP fdR fdI : FuncData} (F : Fun K "law" "law" sLaw f fd)
    (GC : FnOk P w K mg base CX0 1 fC fdC ["_law_script", "_law_k"] (spCell K)) (bC : Binds K fdC ["_law_script", "_law_k"] []) (gC : mg "_law_cell" = some (.ref fC)) (kC : PySem.W.keepIn K (.ref fC) = true)
    (GP : FnOk P w K mg base CX0 1 fP fdP ["_law_number"] spPool) (bP : Binds K fdP ["_law_number"] []) (gP : mg "_law_pool" = some (.ref fP)) (kP : PySem.W.keepIn K (.ref fP) = true)
    (GR : FnG P w K mg base 7 fR fdR ["_law_pool_here"] spRight) (bR : Binds K fdR ["_law_pool_here"] []) (gR : mg "_law_right" = some (.ref fR)) (kR : PySem.W.keepIn K (.ref fR) = true)
    (GI : FnOk P w K mg base CX0 6 fI fdI ["value"] (spIsPlan K)) (bI : Binds K fdI ["value"] []) (gI : mg "is_plan" = some (.ref fI)) (kI : PySem.W.keepIn K (.ref fI) = true)
    (ma : mg "all" = none) (mr : mg "range" = none) (mx : mg "max" = none) (mn : mg "min" = none) (ml : mg "len" = none) (mT : mg "tuple" = none) : FnG P w K mg base 8 f fd ["_law_script"] (spLaw K) := by
  refine okG F scLaw (fun vs H Q E h => ?_) (fun cdv A outer s H vs Q E hr hgd h => ?_)
  · obtain ⟨a, ns, rfl, _⟩ := h
    rfl
  · obtain ⟨a, ns, rfl, hS, hl, q⟩ := h
    have nd := scLaw.nd
    have hr1 : Room 1 _ := hr.mono (by decide)
    have hr5 : Room 6 _ := hr.mono (by decide)
    refine ⟨_, pss_cons (ps_if (PW.pt (pw_or (pt_cmpR op_notBl (pe_call GI hr5 (by rfl) gI kI bI .nil pass0 (pa_cons (pe_tup (pa_cons (pe_tup (pa_cons pe_int (pa_cons pe_int pa_nil))) (pa_cons (pe_tup (pa_cons pe_int (pa_cons pe_int pa_nil))) pa_nil))) pa_nil)) pe_bl (nomark _))
          (pw_or1 (pt_cmpR op_notBl (pe_call GI hr5 (by rfl) gI kI bI .nil pass0 (pa_cons (pe_tup (pa_cons (pe_tup (pa_cons pe_int (pa_cons pe_bl pa_nil))) (pa_cons (pe_tup (pa_cons pe_int (pa_cons pe_int pa_nil))) pa_nil))) pa_nil)) pe_bl (nomark _)))))
        (pss_one (ps_ret pe_bl)) pss_nil)
      (pss_cons (ps_if (PW.pt (pw_or (pt_cmpR op_notBl (pe_call GI hr5 (by rfl) gI kI bI .nil pass0 (pa_cons (pe_callTy cr_tupOf (by rfl) mT (by decide +kernel) (pa_cons
            (pe_lc (own := [("_law_k", 1)]) (g := gName 1) (tt := tYes) rfl nd (pi_range1 (by rfl) mr (pa_cons pe_int pa_nil)) (blkOk_by (N := nLaw) (sc := defScope sLaw) (by decide +kernel))
              (fun _ _ _ _ _ => pg_name (i := 1) nd rfl (Or.inl rfl)) (fun _ _ _ _ _ => pts_nil) (fun _ _ _ _ _ => pe_tup (pa_cons (pe_op op_fdiv (pv 1) pe_int) (pa_cons (pe_op op_mod (pv 1) pe_int) pa_nil)))) pa_nil)) pa_nil)) pe_bl (nomark _))
          (pw_or1 (pt_cmpR op_notBl (pe_call GI hr5 (by rfl) gI kI bI .nil pass0 (pa_cons (pe_tup (pa_cons (pe_tup (pa_cons pe_int (pa_cons pe_int pa_nil))) pa_nil)) pa_nil)) pe_bl (nomark _)))))
        (pss_one (ps_ret pe_bl)) pss_nil)
      (pss_one (ps_ret (pe_callB (cr_all rfl) (by rfl) ma (by decide +kernel) (pa_cons
      (pe_lc (own := [("_law_k", 1)]) (g := gName 1) (tt := tYes) rfl nd (pi_range1 (by rfl) mr (pa_cons (pe_callB (call_max2 rfl) (by rfl) mx (by decide +kernel) (pa_cons pe_int (pa_cons (pe_callB (call_min2 rfl) (by rfl) mn (by decide +kernel)
          (pa_cons (pe_callB call_len_seq (by rfl) ml PySem.boot_len (pa_cons (pv 0) pa_nil)) (pa_cons pe_int pa_nil))) pa_nil))) pa_nil)) (blkOk_by (N := nLaw) (sc := defScope sLaw) (by decide +kernel))
        (fun _ _ _ _ _ => pg_name (i := 1) nd rfl (Or.inl rfl)) (fun _ _ _ _ _ => pts_nil)
        (fun _ _ _ _ _ => pe_callG GR hr hgd (by rfl) gR kR bR (pa_cons (pe_call GP hr1 (by rfl) gP kP bP .nil pass0 (pa_cons (pe_call GC hr1 (by rfl) gC kC bC .nil pass0 (pa_cons (pv 0) (pa_cons (pv 1) pa_nil))) pa_nil)) pa_nil))) pa_nil))))), ?_⟩
    -- ((0, 1), (1, 0))
    refine ⟨(by show 2 ≤ sizeLine; decide), fun t1 n1 => ?_⟩
    have s1 := same_new (o := .tup [.int 0, .int 1]) n1
    have e1 : upd H t1 (.tup [.int 0, .int 1]) t1 = some (.tup [.int 0, .int 1]) := upd_same
    generalize upd H t1 (.tup [.int 0, .int 1]) = G1 at s1 e1 ⊢
    refine ⟨(by show 2 ≤ sizeLine; decide), fun t2 n2 => ?_⟩
    have s2 := same_new (o := .tup [.int 1, .int 0]) n2
    have e2 : upd G1 t2 (.tup [.int 1, .int 0]) t2 = some (.tup [.int 1, .int 0]) := upd_same
    generalize upd G1 t2 (.tup [.int 1, .int 0]) = G2 at s2 e2 ⊢
    refine ⟨(by show 2 ≤ sizeLine; decide), fun t3 n3 => ?_⟩
    have s3 := same_new (o := .tup [.ref t1, .ref t2]) n3
    have e3 : upd G2 t3 (.tup [.ref t1, .ref t2]) t3 = some (.tup [.ref t1, .ref t2]) := upd_same
    generalize upd G2 t3 (.tup [.ref t1, .ref t2]) = G3 at s3 e3 ⊢
    have pl1 : PlanAt K G3 t3 [(0, 1), (1, 0)] := ⟨_, SqT.of e3, .cons ⟨t1, rfl, SqT.of ((s2.trans s3) _ _ e1)⟩ (.cons ⟨t2, rfl, SqT.of (s3 _ _ e2)⟩ .nil)⟩
    have gd1 : Good [((0 : Int), (1 : Int)), (1, 0)] := ⟨by
      rw [List.pairwise_cons]
      refine ⟨fun x hx => ?_, List.pairwise_singleton _ _⟩
      rw [List.mem_singleton] at hx
      subst hx
      exact .inl (by decide), fun c hc => by
      rcases List.mem_cons.mp hc with z | z
      · subst z
        exact ⟨by decide, by decide, by decide, by decide⟩
      · rw [List.mem_singleton] at z
        subst z
        exact ⟨by decide, by decide, by decide, by decide⟩, by simp⟩
    refine ⟨_, .ok, rfl, planV_good pl1 gd1 (by decide), fun G4 s4 => ⟨true, true, rfl, rfl, false, rfl, ?_⟩⟩
    have sA : Same H G4 := ((s1.trans s2).trans s3).trans s4
    -- ((0, True), (1, 0))
    refine ⟨(by show 2 ≤ sizeLine; decide), fun t5 n5 => ?_⟩
    have s5 := same_new (o := .tup [.int 0, .bl true]) n5
    have e5 : upd G4 t5 (.tup [.int 0, .bl true]) t5 = some (.tup [.int 0, .bl true]) := upd_same
    generalize upd G4 t5 (.tup [.int 0, .bl true]) = G5 at s5 e5 ⊢
    refine ⟨(by show 2 ≤ sizeLine; decide), fun t6 n6 => ?_⟩
    have s6 := same_new (o := .tup [.int 1, .int 0]) n6
    have e6 : upd G5 t6 (.tup [.int 1, .int 0]) t6 = some (.tup [.int 1, .int 0]) := upd_same
    generalize upd G5 t6 (.tup [.int 1, .int 0]) = G6 at s6 e6 ⊢
    refine ⟨(by show 2 ≤ sizeLine; decide), fun t7 n7 => ?_⟩
    have s7 := same_new (o := .tup [.ref t5, .ref t6]) n7
    have e7 : upd G6 t7 (.tup [.ref t5, .ref t6]) t7 = some (.tup [.ref t5, .ref t6]) := upd_same
    generalize upd G6 t7 (.tup [.ref t5, .ref t6]) = G7 at s7 e7 ⊢
    refine ⟨_, .at 0, rfl, ⟨t7, _, [none, some (1, 0)], rfl, SqT.of e7, by simp, by simp, .cons (odd2 ((s6.trans s7) _ _ e5) (pl_yes ⟨by decide, by decide⟩) (pl_oth (.bl _) (by decide)) rfl)
      (.cons ⟨⟨t6, rfl, SqT.of (s7 _ _ e6)⟩, by decide, by decide, by decide, by decide⟩ .nil), fun j hj => absurd hj (Nat.not_lt_zero _), .inl rfl⟩, fun G8 s8 => ⟨false, false, rfl, rfl, false, rfl, ?_⟩⟩
    have sB : Same H G8 := sA.trans (((s5.trans s6).trans s7).trans s8)
    -- 24 cells
    refine ⟨24, rfl, by decide, by decide, fun D nD => ?_⟩
    refine lc_range (lo := 0) (n := 24) (fun j G => ∃ acc : List V, G D = some (.lst acc) ∧ CellsAt K G acc ((List.range j).map fun (k : Nat) => (((k : Int) / 8), ((k : Int) % 8))) ∧ (∀ b o, b ≠ D → G8 b = some o → G b = some o)) ?_ ?_ ?_
    · exact ⟨[], upd_same, .nil, fun b o n e => by rw [upd_ne n]; exact e⟩
    · rintro j G hj ⟨acc, a1, a2, a3⟩
      refine ⟨rfl, _, rfl, _, _, rfl, rfl, ⟨by decide, by decide⟩, _, rfl, _, _, rfl, rfl, by show (0 : Int) < 8; decide, (by show 2 ≤ sizeLine; decide), fun t nt => ?_⟩
      have st := same_new (o := .tup [.int ((0 + (j : Int)) / 8), .int ((0 + (j : Int)) % 8)]) nt
      have hal : acc.length = j := by
        rw [Paired.length a2, List.length_map, List.length_range]
      have nDt : D ≠ t := ne_of_none a1 nt
      refine ⟨acc, st _ _ a1, small64 (by omega), acc ++ [.ref t], upd_same, ?_, fun b o n e => ?_⟩
      · rw [List.range_succ, List.map_append]
        refine paired_append (cells_kt ((KT.of_same st).trans (KT.upd (st _ _ a1))) a2) (.cons ⟨t, rfl, SqT.of ?_⟩ .nil)
        rw [upd_ne (Ne.symm nDt), upd_same, Int.zero_add]
      · rw [upd_ne n]
        exact st _ _ (a3 b o n e)
    rintro G ⟨acc, a1, a2, a3⟩
    have sD : Same G8 G := fun b o e => a3 b o (ne_of_none e nD) e
    refine ⟨D, acc, rfl, .inl ⟨SqL.of a1, fun t8 n8 => ?_⟩⟩
    have s9 := same_new (o := .tup acc) n8
    have e9 : upd G t8 (.tup acc) t8 = some (.tup acc) := upd_same
    generalize upd G t8 (.tup acc) = G9 at s9 e9 ⊢
    have gd2 : Good ((List.range 24).map fun (k : Nat) => (((k : Int) / 8), ((k : Int) % 8))) := by
      refine ⟨?_, ?_, by decide⟩
      · rw [List.pairwise_map]
        refine List.Pairwise.imp ?_ (List.pairwise_lt_range (n := 24))
        intro a b hab
        unfold lt2
        show (a : Int) / 8 < (b : Int) / 8 ∨ ((a : Int) / 8 = (b : Int) / 8 ∧ (a : Int) % 8 < (b : Int) % 8)
        omega
      · intro c hc
        obtain ⟨k, hk, rfl⟩ := List.mem_map.mp hc
        have := List.mem_range.mp hk
        unfold InGrid
        show 0 ≤ (k : Int) / 8 ∧ (k : Int) / 8 ≤ 7 ∧ 0 ≤ (k : Int) % 8 ∧ (k : Int) % 8 ≤ 7
        omega
    refine ⟨_, .ok, rfl, planV_good ⟨acc, SqT.of e9, cells_kt (.of_same s9) a2⟩ gd2 (by decide), fun G10 s10 => ⟨true, true, rfl, rfl, false, rfl, ?_⟩⟩
    have sC : Same H G10 := sB.trans ((sD.trans s9).trans s10)
    -- ((7, 7),)
    refine ⟨(by show 2 ≤ sizeLine; decide), fun t9 n9 => ?_⟩
    have s11 := same_new (o := .tup [.int 7, .int 7]) n9
    have e11 : upd G10 t9 (.tup [.int 7, .int 7]) t9 = some (.tup [.int 7, .int 7]) := upd_same
    generalize upd G10 t9 (.tup [.int 7, .int 7]) = G11 at s11 e11 ⊢
    refine ⟨(by show 1 ≤ sizeLine; decide), fun t10 n10 => ?_⟩
    have s12 := same_new (o := .tup [.ref t9]) n10
    have e12 : upd G11 t10 (.tup [.ref t9]) t10 = some (.tup [.ref t9]) := upd_same
    generalize upd G11 t10 (.tup [.ref t9]) = G12 at s12 e12 ⊢
    have gd3 : Good [((7 : Int), (7 : Int))] := ⟨List.pairwise_singleton _ _, fun c hc => by
      rw [List.mem_singleton] at hc
      subst hc
      exact ⟨by decide, by decide, by decide, by decide⟩, by simp⟩
    refine ⟨_, .ok, rfl, planV_good ⟨_, SqT.of e12, .cons ⟨t9, rfl, SqT.of (s12 _ _ e11)⟩ .nil⟩ gd3 (by decide), fun G13 s13 => ⟨true, true, rfl, rfl, false, rfl, ?_⟩⟩
    have sE : Same H G13 := sC.trans ((s11.trans s12).trans s13)
    have hSE : SqL K G13 a (ns.map V.int) := sE.seq hS
    clear sA sB sC
    refine ⟨_, rfl, a, _, rfl, .inl hSE, _, _, rfl, _, _, rfl, _, rfl, ?_, ?_, fun D nD => ?_⟩
    · split <;> split <;> omega
    · split <;> split <;> omega
    generalize hN : (if (if (8 : Int) < ((ns.map V.int).length : Int) then (8 : Int) else ((ns.map V.int).length : Int)) > 2 then (if (8 : Int) < ((ns.map V.int).length : Int) then (8 : Int) else ((ns.map V.int).length : Int)) else 2) = N
    have hNb : 0 ≤ N ∧ N ≤ 8 := by
      rw [← hN]
      split <;> split <;> omega
    refine lc_range (lo := 0) (n := N.toNat) (fun i H' => H' D = some (.lst ((List.replicate i true).map V.bl)) ∧ (∀ b o, b ≠ D → G13 b = some o → H' b = some o)) ?_ ?_ ?_
    · exact ⟨upd_same, fun b o n e => by rw [upd_ne n]; exact e⟩
    · rintro i H' hi ⟨a1, a2⟩
      have sD : Same G13 H' := fun b o e => a2 b o (ne_of_none e nD) e
      refine ⟨rfl, _, rfl, _, rfl, a, ns, i, by
        show [V.ref a, V.int (0 + (i : Int))] = _
        rw [Int.zero_add], sD.seq hSE, by omega, fun H1 n s1 => ⟨n, rfl, fun H2 p s2 np po => ⟨p, rfl, po, fun H3 kx => ?_⟩⟩⟩
      have nDp : D ≠ p := ne_of_none (s1 _ _ a1) np
      have s12 := s1.trans s2
      refine ⟨_, kx _ _ nDp (s12 _ _ a1), ?_, ?_, fun b o n e => ?_⟩
      · rw [List.length_map, List.length_replicate]
        exact small64 (by omega)
      · rw [upd_same, List.replicate_succ', List.map_append]
        rfl
      · rw [upd_ne n]
        have e1 := a2 b o n e
        exact kx _ _ (ne_of_none (s1 _ _ e1) np) (s12 _ _ e1)
    · rintro H' ⟨a1, a2⟩
      refine ⟨D, _, rfl, SqL.of a1, ?_⟩
      rw [show (List.replicate N.toNat true).all id = true by simp]
      exact q H'
end
end KS
namespace KS
open PySem PySem.Spec PyProof.Rows L2
-- topS
theorem all_mk {l : PySem.W.OpenLaw} {w : World} {K : PySem.W.Frag} {h : Heap} {mg : Str → Option Value} {fa f0 f1 f2 f3 f4 f5 f6 f7 f8 f9 f10 f11 f12 f13 f14 : Addr} (X : K.In h) (G : h.Ns mainGlobals mg) (hfa : mg "law" = some (.ref fa))
    {od0 an0 od1 an1 od2 an2 od3 an3 od4 an4 od5 an5 od6 an6 od7 an7 od8 an8 od9 an9 od10 an10 od11 an11 od12 an12 od13 an13 od14 an14 : Option Addr} {sl0 sl1 sl2 sl3 sl4 sl5 sl6 sl7 sl8 sl9 sl10 sl11 sl12 sl13 sl14 : Array (Option Value)}
    {oc0 kV0 dc0 pm0 cd0 ct0 oc1 kV1 dc1 pm1 cd1 ct1 oc2 kV2 dc2 pm2 cd2 ct2 oc3 kV3 dc3 pm3 cd3 ct3 oc4 kV4 dc4 pm4 cd4 ct4 oc5 kV5 dc5 pm5 cd5 ct5 oc6 kV6 dc6 pm6 cd6 ct6 oc7 kV7 dc7 pm7 cd7 ct7 oc8 kV8 dc8 pm8 cd8 ct8 oc9 kV9 dc9 pm9 cd9 ct9 oc10 kV10 dc10 pm10 cd10 ct10 oc11 kV11 dc11 pm11 cd11 ct11 oc12 kV12 dc12 pm12 cd12 ct12 oc13 kV13 dc13 pm13 cd13 ct13 oc14 kV14 dc14 pm14 cd14 ct14 : Value} {tk0 tk1 : Tok}
    (a0 : PySem.W.nsIn K mainGlobals "is_whole" = some (some (.ref f0)))
    (l0 : K.lookup f0 = some ⟨oc0, od0, .func (PySem.W.fnOf "is_whole" "is_whole" (defArgs sWhole) (defBody sWhole) (defScope sWhole) .none kV0 dc0 pm0 an0 cd0 ct0), sl0⟩)
    (c0 : PySem.W.codeIn K cd0 "is_whole" = true) (k0 : PySem.W.keepIn K (.ref f0) = true)
    (a1 : PySem.W.nsIn K mainGlobals "is_between" = some (some (.ref f1)))
    (l1 : K.lookup f1 = some ⟨oc1, od1, .func (PySem.W.fnOf "is_between" "is_between" (defArgs sBetween) (defBody sBetween) (defScope sBetween) .none kV1 dc1 pm1 an1 cd1 ct1), sl1⟩)
    (c1 : PySem.W.codeIn K cd1 "is_between" = true) (k1 : PySem.W.keepIn K (.ref f1) = true)
    (a2 : PySem.W.nsIn K mainGlobals "is_place" = some (some (.ref f2)))
    (l2 : K.lookup f2 = some ⟨oc2, od2, .func (PySem.W.fnOf "is_place" "is_place" (defArgs sPlace) (defBody sPlace) (defScope sPlace) .none kV2 dc2 pm2 an2 cd2 ct2), sl2⟩)
    (c2 : PySem.W.codeIn K cd2 "is_place" = true) (k2 : PySem.W.keepIn K (.ref f2) = true)
    (a3 : PySem.W.nsIn K mainGlobals "is_cell" = some (some (.ref f3)))
    (l3 : K.lookup f3 = some ⟨oc3, od3, .func (PySem.W.fnOf "is_cell" "is_cell" (defArgs sIsCell) (defBody sIsCell) (defScope sIsCell) .none kV3 dc3 pm3 an3 cd3 ct3), sl3⟩)
    (c3 : PySem.W.codeIn K cd3 "is_cell" = true) (k3 : PySem.W.keepIn K (.ref f3) = true)
    (a4 : PySem.W.nsIn K mainGlobals "check_plan" = some (some (.ref f4)))
    (l4 : K.lookup f4 = some ⟨oc4, od4, .func (PySem.W.fnOf "check_plan" "check_plan" (defArgs sCheck) (defBody sCheck) (defScope sCheck) .none kV4 dc4 pm4 an4 cd4 ct4), sl4⟩)
    (c4 : PySem.W.codeIn K cd4 "check_plan" = true) (k4 : PySem.W.keepIn K (.ref f4) = true)
    (a5 : PySem.W.nsIn K mainGlobals "is_plan" = some (some (.ref f5)))
    (l5 : K.lookup f5 = some ⟨oc5, od5, .func (PySem.W.fnOf "is_plan" "is_plan" (defArgs sIsPlan) (defBody sIsPlan) (defScope sIsPlan) .none kV5 dc5 pm5 an5 cd5 ct5), sl5⟩)
    (c5 : PySem.W.codeIn K cd5 "is_plan" = true) (k5 : PySem.W.keepIn K (.ref f5) = true)
    (a6 : PySem.W.nsIn K mainGlobals "_law_cell" = some (some (.ref f6)))
    (l6 : K.lookup f6 = some ⟨oc6, od6, .func (PySem.W.fnOf "_law_cell" "_law_cell" (defArgs sCell) (defBody sCell) (defScope sCell) .none kV6 dc6 pm6 an6 cd6 ct6), sl6⟩)
    (c6 : PySem.W.codeIn K cd6 "_law_cell" = true) (k6 : PySem.W.keepIn K (.ref f6) = true)
    (a7 : PySem.W.nsIn K mainGlobals "_law_pool" = some (some (.ref f7)))
    (l7 : K.lookup f7 = some ⟨oc7, od7, .func (PySem.W.fnOf "_law_pool" "_law_pool" (defArgs sPool) (defBody sPool) (defScope sPool) .none kV7 dc7 pm7 an7 cd7 ct7), sl7⟩)
    (c7 : PySem.W.codeIn K cd7 "_law_pool" = true) (k7 : PySem.W.keepIn K (.ref f7) = true)
    (a8 : PySem.W.nsIn K mainGlobals "_law_draw" = some (some (.ref f8)))
    (l8 : K.lookup f8 = some ⟨oc8, od8, .func (PySem.W.fnOf "_law_draw" "_law_draw" (defArgs sDraw) (defBody sDraw) (defScope sDraw) .none kV8 dc8 pm8 an8 cd8 ct8), sl8⟩)
    (c8 : PySem.W.codeIn K cd8 "_law_draw" = true) (k8 : PySem.W.keepIn K (.ref f8) = true)
    (a9 : PySem.W.nsIn K mainGlobals "_law_plan" = some (some (.ref f9)))
    (l9 : K.lookup f9 = some ⟨oc9, od9, .func (PySem.W.fnOf "_law_plan" "_law_plan" (defArgs sPlan) (defBody sPlan) (defScope sPlan) .none kV9 dc9 pm9 an9 cd9 ct9), sl9⟩)
    (c9 : PySem.W.codeIn K cd9 "_law_plan" = true) (k9 : PySem.W.keepIn K (.ref f9) = true)
    (a10 : PySem.W.nsIn K mainGlobals "_law_is_cell" = some (some (.ref f10)))
    (l10 : K.lookup f10 = some ⟨oc10, od10, .func (PySem.W.fnOf "_law_is_cell" "_law_is_cell" (defArgs sLisCell) (defBody sLisCell) (defScope sLisCell) .none kV10 dc10 pm10 an10 cd10 ct10), sl10⟩)
    (c10 : PySem.W.codeIn K cd10 "_law_is_cell" = true) (k10 : PySem.W.keepIn K (.ref f10) = true)
    (a11 : PySem.W.nsIn K mainGlobals "_law_plan_fault" = some (some (.ref f11)))
    (l11 : K.lookup f11 = some ⟨oc11, od11, .func (PySem.W.fnOf "_law_plan_fault" "_law_plan_fault" (defArgs sPFault) (defBody sPFault) (defScope sPFault) .none kV11 dc11 pm11 an11 cd11 ct11), sl11⟩)
    (c11 : PySem.W.codeIn K cd11 "_law_plan_fault" = true) (k11 : PySem.W.keepIn K (.ref f11) = true)
    (a12 : PySem.W.nsIn K mainGlobals "_law_bent_plan" = some (some (.ref f12)))
    (l12 : K.lookup f12 = some ⟨oc12, od12, .func (PySem.W.fnOf "_law_bent_plan" "_law_bent_plan" (defArgs sBent) (defBody sBent) (defScope sBent) .none kV12 dc12 pm12 an12 cd12 ct12), sl12⟩)
    (c12 : PySem.W.codeIn K cd12 "_law_bent_plan" = true) (k12 : PySem.W.keepIn K (.ref f12) = true)
    (a13 : PySem.W.nsIn K mainGlobals "_law_right" = some (some (.ref f13)))
    (l13 : K.lookup f13 = some ⟨oc13, od13, .func (PySem.W.fnOf "_law_right" "_law_right" (defArgs sRight) (defBody sRight) (defScope sRight) .none kV13 dc13 pm13 an13 cd13 ct13), sl13⟩)
    (c13 : PySem.W.codeIn K cd13 "_law_right" = true) (k13 : PySem.W.keepIn K (.ref f13) = true)
    (a14 : PySem.W.nsIn K mainGlobals "law" = some (some (.ref f14)))
    (l14 : K.lookup f14 = some ⟨oc14, od14, .func (PySem.W.fnOf "law" "law" (defArgs sLaw) (defBody sLaw) (defScope sLaw) .none kV14 dc14 pm14 an14 cd14 ct14), sl14⟩)
    (c14 : PySem.W.codeIn K cd14 "law" = true) (k14 : PySem.W.keepIn K (.ref f14) = true)
    (z0 : PySem.W.nsIn K mainGlobals "isinstance" = some none)
    (z1 : PySem.W.nsIn K mainGlobals "int" = some none)
    (z2 : PySem.W.nsIn K mainGlobals "bool" = some none)
    (z3 : PySem.W.nsIn K mainGlobals "tuple" = some none)
    (z4 : PySem.W.nsIn K mainGlobals "len" = some none)
    (z5 : PySem.W.nsIn K mainGlobals "enumerate" = some none)
    (z6 : PySem.W.nsIn K mainGlobals "abs" = some none)
    (z7 : PySem.W.nsIn K mainGlobals "divmod" = some none)
    (z8 : PySem.W.nsIn K mainGlobals "min" = some none)
    (z9 : PySem.W.nsIn K mainGlobals "range" = some none)
    (z10 : PySem.W.nsIn K mainGlobals "sum" = some none)
    (z11 : PySem.W.nsIn K mainGlobals "all" = some none)
    (z12 : PySem.W.nsIn K mainGlobals "list" = some none)
    (z13 : PySem.W.nsIn K mainGlobals "max" = some none)
    (w0 : PySem.W.nsIn K mainGlobals "MOST_INDEX" = some (some (.int 7 tk0)))
    (w1 : PySem.W.nsIn K mainGlobals "MOST_CELLS" = some (some (.int 24 tk1)))
    {C fN Sx N : Addr} {nm q : Str} {bs : List Value} {sn : List Str} {sub : List Value} {ab : Bool} {col : Option Bool} {dd : Option Addr} {e0 e1 e2 e3 e5 : Option Value}
    {odN anN : Option Addr} {slN : Array (Option Value)} {ocN dcN pmN cdN ctN : Value} {p1 p2 q1 q2 q3 q4 : Pos}
    (aC : PySem.W.nsIn K mainGlobals "InvalidPlan" = some (some (.ref C)))
    (xL : K.lookup C = some (excClassObj nm q C N bs [.ref Sx, .type "ValueError", .type "Exception", .type "BaseException", .type "object"] true sn sub ab col dd e0 e1 e2 e3 e5 "ValueError.__new__"))
    (sa : PySem.W.findIn K (.ref C) "__setattr__" = some (some (.builtin "object.__setattr__"))) (ga : PySem.W.findIn K (.ref C) "__getattribute__" = some (some (.builtin "BaseException.__getattribute__")))
    (gg : PySem.W.findIn K (.ref C) "__getattr__" = some none) (nb : PySem.W.findIn K (.ref C) "index" = some none)
    (aN : PySem.W.findIn K (.ref C) "__init__" = some (some (.ref fN))) (tN : PySem.W.typeIn K (.ref fN) = some (.type "function"))
    (lN : K.lookup fN = some ⟨ocN, odN, .func (PySem.W.fnOf "__init__" "InvalidPlan.__init__" (PySem.XInvalidPlan.iA p1 p2) (PySem.XInvalidPlan.iB q1 q2 q3 q4) PySem.XInvalidPlan.iS .none .none dcN pmN anN cdN ctN), slN⟩) (cN : PySem.W.codeIn K cdN "InvalidPlan.__init__" = true)
    (kC : PySem.W.keepIn K (.ref C) = true) (eC : PySem.W.subIn K (.ref C) (.type "BaseException") = some true) (tC : PySem.W.typeIn K (.ref C) = some (.type "type")) (hC : PySem.W.hasDictIn K C = true) (iC : PySem.W.isClsIn K C = true) (sC : PySem.W.subIn K (.ref C) (.ref C) = some true)
    : ∃ fd : FuncData, (∀ (s : Shared) (v : Value), BindsTo s fd ⟨[v], []⟩ [("_law_script", v)]) ∧ ∀ base : Heap, K.In base → base.Ns mainGlobals mg → FnG l.prog w K mg base 8 fa fd ["_law_script"] (spLaw K) := by
  have e := hfa.symm.trans (PySem.W.mg_of X G a14)
  cases e
  have F0 := fun_mk (st := sWhole) l0 c0 k0
  have m0 := PySem.W.mg_of X G a0
  have F1 := fun_mk (st := sBetween) l1 c1 k1
  have m1 := PySem.W.mg_of X G a1
  have F2 := fun_mk (st := sPlace) l2 c2 k2
  have m2 := PySem.W.mg_of X G a2
  have F3 := fun_mk (st := sIsCell) l3 c3 k3
  have m3 := PySem.W.mg_of X G a3
  have F4 := fun_mk (st := sCheck) l4 c4 k4
  have m4 := PySem.W.mg_of X G a4
  have F5 := fun_mk (st := sIsPlan) l5 c5 k5
  have m5 := PySem.W.mg_of X G a5
  have F6 := fun_mk (st := sCell) l6 c6 k6
  have m6 := PySem.W.mg_of X G a6
  have F7 := fun_mk (st := sPool) l7 c7 k7
  have m7 := PySem.W.mg_of X G a7
  have F8 := fun_mk (st := sDraw) l8 c8 k8
  have m8 := PySem.W.mg_of X G a8
  have F9 := fun_mk (st := sPlan) l9 c9 k9
  have m9 := PySem.W.mg_of X G a9
  have F10 := fun_mk (st := sLisCell) l10 c10 k10
  have m10 := PySem.W.mg_of X G a10
  have F11 := fun_mk (st := sPFault) l11 c11 k11
  have m11 := PySem.W.mg_of X G a11
  have F12 := fun_mk (st := sBent) l12 c12 k12
  have m12 := PySem.W.mg_of X G a12
  have F13 := fun_mk (st := sRight) l13 c13 k13
  have m13 := PySem.W.mg_of X G a13
  have F14 := fun_mk (st := sLaw) l14 c14 k14
  have m14 := PySem.W.mg_of X G a14
  have n_isinstance := PySem.W.mg_none_of X G z0
  have n_int := PySem.W.mg_none_of X G z1
  have n_bool := PySem.W.mg_none_of X G z2
  have n_tuple := PySem.W.mg_none_of X G z3
  have n_len := PySem.W.mg_none_of X G z4
  have n_enumerate := PySem.W.mg_none_of X G z5
  have n_abs := PySem.W.mg_none_of X G z6
  have n_divmod := PySem.W.mg_none_of X G z7
  have n_min := PySem.W.mg_none_of X G z8
  have n_range := PySem.W.mg_none_of X G z9
  have n_sum := PySem.W.mg_none_of X G z10
  have n_all := PySem.W.mg_none_of X G z11
  have n_list := PySem.W.mg_none_of X G z12
  have n_max := PySem.W.mg_none_of X G z13
  have c_MOST_INDEX := PySem.W.mg_of X G w0
  have c_MOST_CELLS := PySem.W.mg_of X G w1
  have b0 := F0.binds (ps := ["value"]) fun _ _ _ _ _ _ us hl => match us, hl with | [_], _ => rfl
  have b1 := F1.binds (ps := ["value", "least", "most"]) fun _ _ _ _ _ _ us hl => match us, hl with | [_, _, _], _ => rfl
  have b2 := F2.binds (ps := ["value"]) fun _ _ _ _ _ _ us hl => match us, hl with | [_], _ => rfl
  have b3 := F3.binds (ps := ["value"]) fun _ _ _ _ _ _ us hl => match us, hl with | [_], _ => rfl
  have b4 := F4.binds (ps := ["plan"]) fun _ _ _ _ _ _ us hl => match us, hl with | [_], _ => rfl
  have b5 := F5.binds (ps := ["value"]) fun _ _ _ _ _ _ us hl => match us, hl with | [_], _ => rfl
  have w5 : KwBinds _ ["value"] ["value"] id id := kw_binds F5 (fun _ _ _ _ _ _ ws hl => match ws, hl with | [_], _ => rfl) (fun r => r)
  have b6 := F6.binds (ps := ["_law_script", "_law_k"]) fun _ _ _ _ _ _ us hl => match us, hl with | [_, _], _ => rfl
  have b7 := F7.binds (ps := ["_law_number"]) fun _ _ _ _ _ _ us hl => match us, hl with | [_], _ => rfl
  have b8 := F8.binds (ps := ["_law_pool_here", "_law_most"]) fun _ _ _ _ _ _ us hl => match us, hl with | [_, _], _ => rfl
  have b9 := F9.binds (ps := ["_law_pool_here", "_law_most"]) fun _ _ _ _ _ _ us hl => match us, hl with | [_, _], _ => rfl
  have b10 := F10.binds (ps := ["_law_thing"]) fun _ _ _ _ _ _ us hl => match us, hl with | [_], _ => rfl
  have b11 := F11.binds (ps := ["_law_thing"]) fun _ _ _ _ _ _ us hl => match us, hl with | [_], _ => rfl
  have b12 := F12.binds (ps := ["_law_pool_here", "_law_spots"]) fun _ _ _ _ _ _ us hl => match us, hl with | [_, _], _ => rfl
  have b13 := F13.binds (ps := ["_law_pool_here"]) fun _ _ _ _ _ _ us hl => match us, hl with | [_], _ => rfl
  have low : PySem.XInvalidPlan.InvalidPlanTxt K mg C fN :=
    { gC := PySem.W.mg_of X G aC, cls := ⟨nm, q, N, bs, _, sn, sub, ab, col, dd, e0, e1, e2, e3, e5, xL, rfl⟩, sa := sa, ga := ga, gg := gg, noN := nb, iC := aN, tC := tN, kC := kC, exC := eC, tyC := tC, hdC := hC, te := exm_self eC iC tC sC, fn := ⟨_, _, _, _, _, _, _, _, _, _, _, _, _, _, lN, cN⟩ }
  refine ⟨PySem.W.fnOf "law" "law" (defArgs sLaw) (defBody sLaw) (defScope sLaw) .none kV14 dc14 pm14 an14 cd14 ct14, fun s v => .of_eq rfl, fun base _ _ => ?_⟩
  have G0 := ok_whole (P := l.prog) (w := w) (mg := mg) (base := base) F0 n_isinstance n_int n_bool
  have G1 := ok_betweenG (P := l.prog) (w := w) (mg := mg) (base := base) F1 G0 b0 m0 k0
  have G2 := ok_place (P := l.prog) (w := w) (mg := mg) (base := base) F2 G1 b1 m1 k1 c_MOST_INDEX
  have G3 := ok_isCell (P := l.prog) (w := w) (mg := mg) (base := base) F3 G2 b2 m2 k2 n_isinstance n_tuple n_len
  have G4 := ok_checkG (P := l.prog) (w := w) (mg := mg) (base := base) F4 G3 b3 m3 k3 low n_isinstance n_tuple n_len n_enumerate c_MOST_CELLS
  have G5 := ok_isPlan (P := l.prog) (w := w) (mg := mg) (base := base) F5 G4 b4 m4 k4 low
  have G6 := ok_cell (P := l.prog) (w := w) (mg := mg) (base := base) F6 n_len
  have G7 := ok_pool (P := l.prog) (w := w) (mg := mg) (base := base) F7 n_abs
  have G8 := ok_draw (P := l.prog) (w := w) (mg := mg) (base := base) F8 n_divmod
  have G9 := ok_plan (P := l.prog) (w := w) (mg := mg) (base := base) F9 G8 b8 m8 k8 n_min n_range n_len n_tuple n_sum
  have G10 := ok_lisCell (P := l.prog) (w := w) (mg := mg) (base := base) F10 n_isinstance n_tuple n_len n_all n_int n_bool
  have G11 := ok_fault (P := l.prog) (w := w) (mg := mg) (base := base) F11 G10 b10 m10 k10 n_isinstance n_tuple n_len n_enumerate
  have G12 := ok_bent (P := l.prog) (w := w) (mg := mg) (base := base) F12 G8 b8 m8 k8 n_len n_list n_tuple n_range
  have G13 := ok_right (P := l.prog) (w := w) (mg := mg) (base := base) F13 G8 b8 m8 k8 G9 b9 m9 k9 G12 b12 m12 k12 G11 b11 m11 k11 G5 b5 w5 m5 k5 n_int n_list n_range n_isinstance n_bool
  exact ok_law F14 G6 b6 m6 k6 G7 b7 m7 k7 G13 b13 m13 k13 G5 b5 m5 k5 n_all n_range n_max n_min n_len n_tuple
end KS
open PySem PySem.W PyProof.Rows
set_option maxHeartbeats 0 in
theorem PySem.Challenge.cw_keepsort_k01_plans_told_holds : PySem.Challenge.rw_keepsort_k01_plans_told.Holds := by
  w_on; o_law; k_head; (case hw => w_witness2)
  k_fill
  refine KS.walk_ofG (l := PySem.Challenge.rw_keepsort_k01_plans_told) (n := 63) (k := 8) (x := "_law_script") (sp := fun w => KS.spLaw _) rfl (by decide) rfl ⟨rfl, by decide, by decide⟩ (fun w h Y => PySem.W.kIn_of Y) ?F (fun _ _ a ns hl _ hS => ⟨a, ns, rfl, hS, hl, fun _ => rfl⟩)
  case F =>
    intro w mg fa h KX G hmg
    refine' KS.all_mk KX G hmg ?a0 ?l0 ?c0 ?k0 ?a1 ?l1 ?c1 ?k1 ?a2 ?l2 ?c2 ?k2 ?a3 ?l3 ?c3 ?k3 ?a4 ?l4 ?c4 ?k4 ?a5 ?l5 ?c5 ?k5 ?a6 ?l6 ?c6 ?k6 ?a7 ?l7 ?c7 ?k7 ?a8 ?l8 ?c8 ?k8 ?a9 ?l9 ?c9 ?k9 ?a10 ?l10 ?c10 ?k10 ?a11 ?l11 ?c11 ?k11 ?a12 ?l12 ?c12 ?k12 ?a13 ?l13 ?c13 ?k13 ?a14 ?l14 ?c14 ?k14 ?z0 ?z1 ?z2 ?z3 ?z4 ?z5 ?z6 ?z7 ?z8 ?z9 ?z10 ?z11 ?z12 ?z13 ?w0 ?w1 ?xaC ?xxL ?xsa ?xga ?xgg ?xnb ?xaN ?xtN ?xlN ?xcN ?xkC ?xeC ?xtC ?xhC ?xiC ?xsC
    (case a0 => k_is)
    (case l0 => k_is)
    (case c0 => k_is)
    (case k0 => k_is)
    (case a1 => k_is)
    (case l1 => k_is)
    (case c1 => k_is)
    (case k1 => k_is)
    (case a2 => k_is)
    (case l2 => k_is)
    (case c2 => k_is)
    (case k2 => k_is)
    (case a3 => k_is)
    (case l3 => k_is)
    (case c3 => k_is)
    (case k3 => k_is)
    (case a4 => k_is)
    (case l4 => k_is)
    (case c4 => k_is)
    (case k4 => k_is)
    (case a5 => k_is)
    (case l5 => k_is)
    (case c5 => k_is)
    (case k5 => k_is)
    (case a6 => k_is)
    (case l6 => k_is)
    (case c6 => k_is)
    (case k6 => k_is)
    (case a7 => k_is)
    (case l7 => k_is)
    (case c7 => k_is)
    (case k7 => k_is)
    (case a8 => k_is)
    (case l8 => k_is)
    (case c8 => k_is)
    (case k8 => k_is)
    (case a9 => k_is)
    (case l9 => k_is)
    (case c9 => k_is)
    (case k9 => k_is)
    (case a10 => k_is)
    (case l10 => k_is)
    (case c10 => k_is)
    (case k10 => k_is)
    (case a11 => k_is)
    (case l11 => k_is)
    (case c11 => k_is)
    (case k11 => k_is)
    (case a12 => k_is)
    (case l12 => k_is)
    (case c12 => k_is)
    (case k12 => k_is)
    (case a13 => k_is)
    (case l13 => k_is)
    (case c13 => k_is)
    (case k13 => k_is)
    (case a14 => k_is)
    (case l14 => k_is)
    (case c14 => k_is)
    (case k14 => k_is)
    (case z0 => k_is)
    (case z1 => k_is)
    (case z2 => k_is)
    (case z3 => k_is)
    (case z4 => k_is)
    (case z5 => k_is)
    (case z6 => k_is)
    (case z7 => k_is)
    (case z8 => k_is)
    (case z9 => k_is)
    (case z10 => k_is)
    (case z11 => k_is)
    (case z12 => k_is)
    (case z13 => k_is)
    (case w0 => k_is)
    (case w1 => k_is)
    (case xaC => k_is)
    (case xxL => k_is)
    (case xsa => k_is)
    (case xga => k_is)
    (case xgg => k_is)
    (case xnb => k_is)
    (case xaN => k_is)
    (case xtN => k_is)
    (case xlN => k_is)
    (case xcN => k_is)
    (case xkC => k_is)
    (case xeC => k_is)
    (case xtC => k_is)
    (case xhC => k_is)
    (case xiC => k_is)
    (case xsC => first | rfl | k_is)
