import PyProof.Rows.All
import Wide.All
import OpenK.AllK
import Wide.FinOn
import HandS.ForMost
import HandS.Style
import HandS.Flow
import KE.GoesMore
import KE.GoesEnum
import KE.KTupSum
import PyProof.ReprRoads
import PyProof.ReprLen
import HandS.IsInst
import HandS.TupLe
import HandS.SetKeys
import HandS.SortRule
import HandS.More
import HandS.TupAny
import PyProof.P3In
import HandS.Deep
import PySem.Challenge.RW_keepsort_k03_transposed_and_rectangles
set_option Elab.async false
set_option linter.all false
set_option maxRecDepth 100000
set_option maxHeartbeats 4000000
namespace KS
open PySem PySem.Spec PyProof.Rows L2
/-- three whole numbers: the state, the digits left, how many draws -/
def PoolO (o : Option HO) : Prop := ∃ a b c : Int, o = some (.lst [.int a, .int b, .int c]) ∧ 0 ≤ a ∧ a < 2147483249 ∧ 0 ≤ b
/-- what stood, but at p, stands -/
def KeepX (p : Addr) (H H' : Hp) : Prop := ∀ b o, b ≠ p → H b = some o → H' b = some o
theorem KeepX.refl (p : Addr) (H : Hp) : KeepX p H H := fun _ _ _ e => e
theorem KeepX.trans {p : Addr} {H H1 H2 : Hp} (a : KeepX p H H1) (b : KeepX p H1 H2) : KeepX p H H2 := fun c o n e => b c o n (a c o n e)
theorem KeepX.of_same {p : Addr} {H H1 : Hp} (a : Same H H1) : KeepX p H H1 := fun c o _ e => a c o e
theorem same_new {H : Hp} {p : Addr} {o : HO} (h : H p = none) : Same H (upd H p o) := fun b x e => by
  rw [upd_ne (ne_of_none e h)]
  exact e
theorem keepX_upd {H : Hp} {p : Addr} {o : HO} : KeepX p H (upd H p o) := fun b x n e => by
  rw [upd_ne n]
  exact e
theorem PoolO.same {H H' : Hp} {p : Addr} (s : Same H H') (h : PoolO (H p)) : PoolO (H' p) := by
  obtain ⟨a, b, c, e, r⟩ := h
  exact ⟨a, b, c, s _ _ e, r⟩
theorem PoolO.ne {H : Hp} {p q : Addr} (h : PoolO (H p)) (n : H q = none) : p ≠ q := by
  obtain ⟨a, b, c, e, r⟩ := h
  exact ne_of_none e n
theorem same_seqT {K : PySem.W.Frag} {H H' : Hp} {a : Addr} {xs : List V} (e : Same H H') (h : SqT K H a xs) : SqT K H' a xs := by
  rcases h with (h | ⟨o, h⟩) | h
  · exact .inl (.inl (e _ _ h))
  · exact .inl (.inr ⟨o, e _ _ h⟩)
  · exact .inr h
theorem keepX_seqT {K : PySem.W.Frag} {H H' : Hp} {a p : Addr} {xs : List V} (hp : PoolO (H p)) (e : KeepX p H H') (h : SqT K H a xs) : SqT K H' a xs := by
  obtain ⟨x, y, z, ep, _⟩ := hp
  rcases h with (h | ⟨o, h⟩) | h
  · exact .inl (.inl (e _ _ (fun q => by rw [q, ep] at h; cases h) h))
  · exact .inl (.inr ⟨o, e _ _ (fun q => by rw [q, ep] at h; cases h) h⟩)
  · exact .inr h
theorem int_mod_bd (x : Int) {m : Int} (h : 0 < m) : 0 ≤ x % m ∧ x % m < m := ⟨Int.emod_nonneg x (by omega), Int.emod_lt_of_pos x h⟩
def spCell (K : PySem.W.Frag) : Sp := fun vs H Q _ => ∃ (a : Addr) (ns : List Int) (k : Nat), vs = [.ref a, .int k] ∧ SqL K H a (ns.map V.int) ∧ k ≤ 63 ∧ ∀ H' n, Same H H' → Q (.int n) H'
def spPool : Sp := fun vs H Q _ => ∃ (n : Int), vs = [.int n] ∧ ∀ H' p, Same H H' → H p = none → PoolO (H' p) → Q (.ref p) H'
def spDraw : Sp := fun vs H Q _ => ∃ (p : Addr) (m : Int), vs = [.ref p, .int m] ∧ PoolO (H p) ∧ 0 < m ∧ m < 1073741824 ∧ ∀ H' r, KeepX p H H' → PoolO (H' p) → 0 ≤ r → r < m → Q (.int r) H'
end KS
namespace KS
open PySem PySem.Spec PyProof.Rows L2
open Sem (wp)
open AutoSeq1 (wpAny_loadPart')
/-! ### sum(t), t a tuple of whole numbers -/
def rSumT (K : PySem.W.Frag) : List V → Hp → VK → Prop := fun vs H Q => ∃ (a : Addr) (ns : List Int), vs = [V.ref a] ∧ SqT K H a (ns.map V.int) ∧ Q (.int ns.sum) H
theorem cr_sumT {X : Cx} (hc : X.calm = true) : CallR X (.builtin "sum") (rSumT X.K) := by
  intro pins s σ H vs us Q I r h
  obtain ⟨a, ns, rfl, hs, q⟩ := h
  obtain ⟨its, rv, hl, _⟩ := I.tuple hs
  rw [Vals.ref1 r]
  have hi := rv.ints
  obtain ⟨xs, e⟩ := hi.allInts.items
  have hn : numsOf (intItems xs).toList = ns := by
    rw [← e]
    exact hi.numsOf
  rw [nums_intItems] at hn
  have hl2 : s.heap.IsTuple a (intItems xs) := by
    rw [← e]
    exact hl
  refine PySem.W.ktm_sumG (I.ok.hd hc) hl2 fun h' tk t' hk => ⟨.int ns.sum, H, I.kept hk, ⟨t', ?_⟩, q⟩
  rw [preSum_eq, List.take_of_length_le (by simp), hn]
/-- tuple(x), x a list or a tuple -/
def rTupOf (K : PySem.W.Frag) : List V → Hp → VK → Prop := fun xs H Q => ∃ p ys, xs = [.ref p] ∧ ((SqL K H p ys ∧ ∀ l, H l = none → Q (.ref l) (upd H l (.tup ys))) ∨ (SqT K H p ys ∧ Q (.ref p) H))
theorem cr_tupOf {X : Cx} : CallR X (.type "tuple") (rTupOf X.K) := call_tuple_of
/-! ### enumerate(t), t a tuple -/
abbrev tupItO (l : Addr) : Obj := { cls := .type "tuple_iterator", data := .fields #[.ref l, .int 0 0] }
abbrev enumO (it : Addr) : Obj := { cls := .type "enumerate", data := .fields #[.none, .bool false, .ref it, rawInt 0, .none, .none] }
theorem meets_enumT (l : Addr) (items : Array Value) (n : Nat) (dct : Option Addr) (sl : Array (Option Value)) :
    Meets (Builtin.«enumerate.__new__» ⟨[.type "enumerate", .ref l], []⟩) (fun _ R s =>
      s.heap.get? l = some { cls := .type "tuple", dict := dct, data := .seq items n, slots := sl } ∧
      R (.ok (.ret (.ref (s.heap.push (tupItO l)).objs.size))) { s with heap := (s.heap.push (tupItO l)).push (enumO s.heap.objs.size) }) :=
  .of_wp fun prog w A R s h => by
    obtain ⟨hp, g, d, tk, os⟩ := s
    obtain ⟨hl, h⟩ := h
    have hsub := sub_enumerate
    have hT : Heap.IsTuple (Shared.heap ⟨hp, g, d, tk, os⟩) l items := ⟨_, hl, rfl, n, rfl⟩
    wp_walk using wpAny_loadPart' hl
    refine wpAny_stack_any fun st => wpAny_pure ?_
    split
    · rename_i c _ _ _ _ _
      cases (c == Value.type "enumerate")
      · wp_walk using wpAny_loadPart' hl, wpAny_pyIter_tuple hT
        exact ⟨_, rfl, h⟩
      · wp_walk using wpAny_loadPart' hl, wpAny_pyIter_tuple hT
        exact ⟨_, rfl, h⟩
    · wp_walk using wpAny_loadPart' hl, wpAny_pyIter_tuple hT
      exact ⟨_, rfl, h⟩
theorem call_enumT {prog : Program} {w : World} {A : Around} {E : Value → Shared → Prop} {s : Shared} {l : Addr} {items : Array Value} {Q : Value → Shared → Prop} (hL : s.heap.IsTuple l items)
    (h : ∀ h', IsEnum h' (s.heap.objs.size + 1) s.heap.objs.size 0 .none → h'.IsTupleIter s.heap.objs.size l 0 →
      (∀ b o, s.heap.get? b = some o → h'.get? b = some o) → Q (.ref (s.heap.objs.size + 1)) { s with heap := h' }) :
    wpAny (model prog w) A (call (.type "enumerate") [.ref l]) Q E s := by
  obtain ⟨⟨c, dct, dt, sl⟩, hl, hc, n, hd⟩ := hL
  replace hc : c = .type "tuple" := hc
  replace hd : dt = .seq items n := hd
  subst hc
  subst hd
  refine callType_new F.called_enumerate (by decide) (F.typeCall_enumerate_1 _) (F.newCall_enumerate_1 _)
    (fun obj => F.args_object_init_2 obj _) F.entry_enumerate_new (meets_enumT l items n dct sl) ⟨hl, ?_⟩
  generalize hg1 : s.heap.push (tupItO l) = g1
  have hz : g1.objs.size = s.heap.objs.size + 1 := by
    rw [← hg1]
    exact Heap.size_push ..
  have hit : g1.get? s.heap.objs.size = some (tupItO l) := by
    rw [← hg1]
    exact Heap.get?_push_size _ rfl
  have hold : ∀ b o, s.heap.get? b = some o → g1.get? b = some o := fun b o e => by
    rw [← hg1]
    exact Heap.get?_push_of_some _ e
  show _ ∧ _
  rw [hz]
  have he : IsEnum (g1.push (enumO s.heap.objs.size))
      (s.heap.objs.size + 1) s.heap.objs.size 0 .none := by
    have z := Heap.get?_push_size g1 (o := enumO s.heap.objs.size) rfl
    rw [hz] at z
    exact z
  exact ⟨⟨_, he, rfl⟩, h _ he ⟨tupItO l, Heap.get?_push_of_some _ hit, rfl, rfl⟩ fun b o x => Heap.get?_push_of_some _ (hold b o x)⟩
/-- the pairs (i, item i) of the tuple at a, each a new tuple -/
def IteT (K : PySem.W.Frag) (a : Addr) : It :=
  ⟨fun i H => ∃ (xs : List V) (x : V), SqT K H a xs ∧ xs[i]? = some x,
   fun i H v H' => ∃ T x, v = .ref T ∧ H T = none ∧ H' = upd H T (.tup [.int (i : Nat), x]) ∧ ∀ xs, SqT K H a xs → xs[i]? = some x,
   fun i H => ∃ xs : List V, SqT K H a xs ∧ xs.length ≤ i⟩
theorem turn_enumT {P : Program} {w : World} {K : PySem.W.Frag} {elts : List Expr} {kk : Nat} {tpos : Pos} (a e it : Addr) :
    Turn P w K (.Tuple elts kk tpos) (IteT K a) [e, it] e
      (fun i h => (∃ old, IsEnum h e it ((i : Nat) : Int) old) ∧ h.IsTupleIter it a i ∧ e ≠ it) where
  mem := by simp
  obj := fun i h st b hb => by
    obtain ⟨⟨old, he⟩, ⟨o, ho, hc, hd⟩, _⟩ := st
    rcases (by simpa using hb : b = e ∨ b = it) with z | z
    · subst z
      exact ⟨_, he, fun v q => nomatch q⟩
    · subst z
      exact ⟨o, ho, fun v q => by rw [hd] at q; cases q⟩
  keep := fun i h h' st k => by
    obtain ⟨⟨old, he⟩, hi, hne⟩ := st
    exact ⟨⟨old, k e (by simp) _ he⟩, hi.at fun o q => k it (by simp) o q, hne⟩
  item := by
    intro X hP hw hK hc i pins s σ H E I hf st hg
    subst hP hw hK
    obtain ⟨⟨old, he⟩, hit, hne⟩ := st
    obtain ⟨xs, x, hq, hx⟩ := hg
    obtain ⟨its, rv, p, hz⟩ := I.tuple hq
    have p1 : s.heap.IsTuple a its.toArray := p
    obtain ⟨u0, hu0, ru0⟩ := rv.get hx
    have hel : e < s.heap.objs.size := Heap.lt_size he
    have hil : it < s.heap.objs.size := by
      obtain ⟨_, q, _⟩ := hit
      exact Heap.lt_size q
    have hai : a ≠ it := fun z => by
      obtain ⟨o1, g1, c1, _⟩ := p1
      obtain ⟨o2, g2, c2, _⟩ := hit
      rw [z, g2] at g1
      cases g1
      rw [c1] at c2
      injection c2 with c3
      exact absurd c3 (by decide)
    have hea : e ≠ a := fun z => by
      obtain ⟨o1, g1, c1, _⟩ := p1
      have g2 : s.heap.get? e = some _ := he
      rw [z, g1] at g2
      cases g2
      have c2 : Value.type "enumerate" = Value.type "tuple" := c1
      injection c2 with c3
      exact absurd c3 (by decide)
    have hlt : i < its.toArray.size := by
      have z : i < its.length := (List.getElem?_eq_some_iff.mp hu0).1
      simpa using z
    have DD : Draws X.prog X.w X.A.in1 it [it, a] its.toArray.size (fun i v => its.toArray[i]? = some v) (fun i h => h.IsTupleIter it a i ∧ h.IsTuple a its.toArray) :=
      Draws.tuple (show X.A.in1.handled = none from I.ok.hd hc) it a hai its.toArray
    refine wpAny_pyNext_enum_itemD DD he ⟨hit, p1⟩ hlt hne (by simp [hne, hea]) fun u h' tk hu ho hst hT hsz hk => ?_
    have eu : u = u0 := by
      have z : its[i]? = some u := by simpa using hu
      rw [hu0] at z
      exact (Option.some.inj z).symm
    subst eu
    refine ⟨_, rfl, wpAny_letOwnedTupleGo_enum (s := { s with heap := h', toks := tk + 1 }) ho fun h'' he' sb => ?_⟩
    have hT2 : h''.get? s.heap.objs.size = some { cls := .type "tuple", data := .seq #[.int i tk, u] } := (sb.2 _ (Nat.ne_of_gt hel)).trans hT
    have new : ObjOk X.prog X.w (upd H s.heap.objs.size (.tup [.int (i : Nat), x])) h'' s.heap.objs.size (.tup [.int (i : Nat), x]) :=
      ⟨by show 2 ≤ sizeLine; decide, [.int i tk, u], .cons ⟨_, rfl⟩ (.cons ru0 .nil), ⟨_, hT2, rfl, _, rfl⟩⟩
    have I1 : Inv X pins σ (upd H s.heap.objs.size (.tup [.int (i : Nat), x])) { s with heap := h'', toks := tk + 1 } :=
      I.turnedNew (ch := [e, it]) (fun b ob hb q => (sb.2 b (fun z => hb (by simp [z]))).trans
        (hk b ob (fun z => hb (by simp [z])) (fun z => hb (by simp [z])) q)) hf (Nat.le_refl _) new
    refine ⟨.ref s.heap.objs.size, _, I1, rfl, ⟨_, x, rfl, I.hok.fresh (Nat.le_refl _), rfl, fun ys hy => ?_⟩,
      ⟨⟨u, ?_⟩, hst.1.at fun o q => (sb.2 it (Ne.symm hne)).trans q, hne⟩, fun b hb => ?_⟩
    · rw [I.tuple_inj hy hq]
      exact hx
    · have e1 : ((i + 1 : Nat) : Int) = (i : Int) + 1 := by omega
      rw [e1]
      exact he'
    · have hb' : b < s.heap.objs.size := by
        rcases (by simpa using hb : b = e ∨ b = it) with z | z
        · rw [z]
          exact hel
        · rw [z]
          exact hil
      rw [upd_ne (Nat.ne_of_lt hb')]
      exact (hf b hb).1
  done := by
    intro X hP hw hK hc i pins s σ H E I hf st hg
    subst hP hw hK
    obtain ⟨⟨old, he⟩, hit, hne⟩ := st
    obtain ⟨xs, hq, hx⟩ := hg
    obtain ⟨its, rv, p, hz⟩ := I.tuple hq
    have p1 : s.heap.IsTuple a its.toArray := p
    obtain ⟨f0, f1, f2, f3, f4, f5⟩ := hf it (by simp)
    have hl := rv.length
    have DD : Draws X.prog X.w X.A.in1 it [it, a] i (fun _ _ => True) (fun j h => j = i ∧ h.IsTupleIter it a i ∧ h.IsTuple a its.toArray) :=
      { live := fun _ _ st => let ⟨o, ho, _⟩ := st.2.1; ⟨o, ho⟩
        frame := fun _ _ _ st hk => ⟨st.1, st.2.1.at fun o e => hk it (by simp) o e, st.2.2.at fun o e => hk a (by simp) o e⟩
        item := fun j s Q E hj st hQ => absurd st.1 (by omega)
        done := fun s Q E st hE => wpAny_nextOf_tuple_end (show X.A.in1.handled = none from I.ok.hd hc) st.2.1 st.2.2 (by simp; omega) hE }
    exact wpAny_pyNext_enum_endD DD he ⟨rfl, hit, p1⟩ fun h' eb => ⟨rfl, I.turned (t' := s.toks) (fun b o hb q => eb b o hb q) f0 f1 f3 f4 f5⟩
  self := fun A i s Q E st h => by
    obtain ⟨⟨_, he⟩, _⟩ := st
    exact wpAny_pyIter_enum he h
def iEnumT (K : PySem.W.Frag) (ta : TA) : TI := fun σ H R => ta σ H fun vs H1 => ∃ a xs, vs = [.ref a] ∧ SqT K H1 a xs ∧ R (IteT K a) H1
theorem pi_enumT {X : Cx} {e : Expr} {ta : TA} {p pos tpos : Pos} {elts : List Expr} {kk : Nat} (hg : Gl X "enumerate") (hm : X.mg "enumerate" = none) (ha : PA X [e] ta)
    (hs : starEach [e] X.env = [(false, eval e X.env)] := by rfl) : PI X (.Tuple elts kk tpos) (.Call (.Name "enumerate" p) [e] [] pos) (iEnumT X.K ta) := by
  refine ⟨fun pins s σ H R I h => ?_⟩
  refine Call_ (ld_blt I hg hm boot_enumerate (PyProof.Rows.callWith_type1 (thn (ha.run pos pins s σ H _ I h) fun us s1 hh => ?_) hs rfl))
  obtain ⟨vs, H1, I1, r1, a, xs, ex, hq, q⟩ := hh
  subst ex
  cases r1 with
  | cons r rr =>
    cases rr
    cases r
    obtain ⟨its, rv, p1, hz⟩ := I1.tuple hq
    refine call_enumT (items := its.toArray) p1 fun h' he hit hk => wpAny_pyIter_enum he ?_
    have I2 : Inv X pins σ H1 { s1 with heap := h' } := I1.kept (t' := s1.toks) hk
    refine ⟨s1.heap.objs.size + 1, [s1.heap.objs.size + 1, s1.heap.objs.size], _, _, H1, rfl, I2, turn_enumT a (s1.heap.objs.size + 1) s1.heap.objs.size,
      ⟨⟨.none, he⟩, hit, Nat.succ_ne_self _⟩, fun b hb => ?_, q⟩
    have hle : s1.heap.objs.size ≤ b := by
      rcases (by simpa using hb : b = s1.heap.objs.size + 1 ∨ b = s1.heap.objs.size) with z | z
      · rw [z]
        exact Nat.le_succ _
      · rw [z]
        exact Nat.le_refl _
    exact I1.fpOk hle (I1.hok.fresh hle)
/-- a for over enumerate(t): Pv at each turn; the pair stands in a new tuple at T -/
theorem for_enumT {K : PySem.W.Frag} {a : Addr} {xs : List V} {g : TG} {tb : TS} {D : Ends} {σ : L2.St} {H : Hp} (Pv : Nat → L2.St → Hp → Prop) (h0 : Pv 0 σ H)
    (hl : ∀ i σ H, i ≤ xs.length → Pv i σ H → SqT K H a xs)
    (hs : ∀ i x σ H T, xs[i]? = some x → Pv i σ H → H T = none → g (.ref T) σ (upd H T (.tup [.int (i : Nat), x])) fun σ2 H2 => tb { D with nx := Pv (i + 1), ct := Pv (i + 1), bk := D.nx } σ2 H2)
    (hd : ∀ σ H, Pv xs.length σ H → D.nx σ H) :
    ∃ W : Nat → Nat → L2.St → Hp → Prop, (∃ m, W 0 m σ H) ∧ ∀ i m σ H, W i m σ H →
      ((IteT K a).stop i H ∧ D.nx σ H) ∨ ((IteT K a).go i H ∧ ∃ N : L2.St → Hp → Prop, (∀ σ' H', N σ' H' → ∃ m', m' < m ∧ W (i + 1) m' σ' H') ∧
        ∀ x H', (IteT K a).yld i H x H' → g x σ H' fun σ2 H2 => tb { D with nx := N, ct := N, bk := D.nx } σ2 H2) := by
  refine ⟨fun i m σ H => m = xs.length - i ∧ i ≤ xs.length ∧ Pv i σ H, ⟨xs.length, by simp, Nat.zero_le _, h0⟩, ?_⟩
  rintro i m σ H ⟨rfl, hi, p⟩
  have q := hl i σ H hi p
  by_cases hlt : i < xs.length
  · refine .inr ⟨⟨xs, xs[i], q, by simp [hlt]⟩, Pv (i + 1), fun σ' H' p' => ⟨xs.length - (i + 1), by omega, rfl, hlt, p'⟩, fun x H' y => ?_⟩
    obtain ⟨T, x1, rfl, nT, rfl, hx⟩ := y
    exact hs i x1 σ H T (hx _ q) p nT
  · have e : i = xs.length := by omega
    subst e
    exact .inl ⟨⟨xs, q, Nat.le_refl _⟩, hd σ H p⟩
end KS
namespace KS
open PySem PySem.Spec PyProof.Rows L2
/-! ### promises of defs that are only called where no repr is under way -/
structure FnG (P : Program) (w : World) (K : PySem.W.Frag) (mg : Str → Option Value) (base : Heap) (k : Nat) (f : Addr) (fd : FuncData) (ps : List Str) (sp : Sp) : Prop where
  len : ∀ vs H Q E, sp vs H Q E → vs.length = ps.length
  run : ∀ (A : Around) (outer : List Env) (s : Shared) (H : Hp) (args : Args) (us : List Value) (vs : List V) (Q : VK) (E : XK),
    Room k A → A.guards = some [] → Env0 P w K mg base A outer s H → BindsTo s fd args (ps.zip us) → Vals vs us → sp vs H Q E →
    codeAny (model P w) A (.call (.ref f) args) (CR CX0 outer P w H s Q E) s
section
variable {P : Program} {w : World} {K : PySem.W.Frag} {mg : Str → Option Value} {base : Heap}
theorem okG {x qual : Str} {st : Stmt} {f : Addr} {fd : FuncData} {N ps : List Str} {k : Nat} {sp : Sp} (F : Fun K x qual st f fd) (S : FnScope N ps (defScope st))
    (len : ∀ vs H Q E, sp vs H Q E → vs.length = ps.length)
    (hbody : ∀ (cdv : Value) (A : Around) (outer : List Env) (s : Shared) (H : Hp) (vs : List V) (Q : VK) (E : XK),
      Room k (A.deeper (envOfC qual (defScope st) s.heap.objs.size f cdv)) → A.guards = some [] → sp vs H Q E →
      ∃ t, PSs (cxOf CX0 P w K mg base N qual (defScope st) f cdv A outer s H E).nox (defBody st) t ∧ t { nx := fun _ H' => Q .non H', rt := Q } (start N vs) H) :
    FnG P w K mg base (k + 1) f fd ps sp := by
  obtain ⟨oc, od, kV, doc, pm, an, cdv, ct, osl, rfl, lk, hcd⟩ := F.ex
  refine ⟨len, fun A outer s H args us vs Q E hr hgd e0 hb r hsp => ?_⟩
  have hl := len _ _ _ _ hsp
  have kept : ∀ b o, base.get? b = some o → s.heap.get? b = some o := fun b o e => (e0.bs b o e).1
  have KX : K.In s.heap := e0.mod.kin.keeps kept
  have lim : s.heap.NoLimit := e0.mod.nolimit.keeps kept
  have hkind : ∀ y ∈ ps.zip us, (defScope st).names.lookup y.1 = some .local ∨
      ((defScope st).names.lookup y.1 = some .cell ∧ ((cellsFrom (s.heap.objs.size + 1) (defScope st).names []).lookup y.1).isSome = true) := by
    rintro ⟨n, v⟩ hy
    rcases S.par n (List.of_mem_zip hy).1 with q | q
    · left
      exact q
    · right
      exact ⟨q, PySem.W.cellsFrom_some _ _ _ (.inl q)⟩
  refine codeAny_call_function hr.depth (KX _ _ lk) rfl S.co S.gen rfl
    (PySem.W.codeRec_of KX hcd) (hb _ _ _ _ ?_)
  refine wpAny_newFunctionEnv_cells S.kind hkind fun env he s1 x => ?_
  subst he
  refine ⟨lim.keeps x.toInCall.keep, codeAny_func ?_⟩
  obtain ⟨t, ht0, hq⟩ := hbody cdv A outer s H vs Q E (hr.deeper _) hgd hsp
  have ht := ht0.nox
  have I := inv_start (CX := CX0) (E := E) (cd := cdv) (qual := qual) (f := f) S hr.hd e0 hl r x
  refine wpAny_mono (ht.run [] s1 (start N vs) H _ I hq) (fun fl s' hs => ?_)
    fun e s' hs => hs
  cases fl with
  | ret u =>
    obtain ⟨v, σ', H', J, rv, q⟩ := hs
    exact ⟨v, H', J.os, J.bare, J.base, J.hok, rv, q⟩
  | next =>
    obtain ⟨σ', H', J, q⟩ := hs
    exact ⟨V.non, H', J.os, J.bare, J.base, J.hok, rfl, q⟩
  | brk =>
    obtain ⟨_, _, _, q⟩ := hs
    cases q
  | cont =>
    obtain ⟨_, _, _, q⟩ := hs
    cases q
end
section
variable {X : Cx} {k : Nat} {f : Addr} {fd : FuncData} {ps : List Str} {sp : Sp} {x : Str} {p pos : Pos} {e : Expr} {es : List Expr} {t : TA}
theorem pe_callG (F : FnG X.prog X.w X.K X.mg X.base k f fd ps sp) (hr : Room k X.A) (hgd : X.A.guards = some []) (hg : Gl X x) (hm : X.mg x = some (.ref f))
    (hk : PySem.W.keepIn X.K (.ref f) = true) (hb : Binds X.K fd ps []) (ha : PA X (e :: es) t) (hdb : (x == ("__debug__" : Str)) = false := by decide)
    (he : starEach (e :: es) X.env = (false, eval e X.env) :: starEach es X.env := by rfl)
    (hpl : (backTo pos (starEach es X.env)).any (·.1) = false := by rfl) :
    PE X (.Call (.Name x p) (e :: es) [] pos) (tCall sp [] E0 t) := by
  refine ⟨fun pins s σ H Q I h => wpAny_Call_Name_kw (ld_glob I hg hm ?_ hdb)⟩
  refine PySem.W.callWith_K (h₀ := X.base) I.ok.mod.kin hk (thn (ha.run pos pins s σ H _ I h) fun us s1 hh => ?_) he hpl
  obtain ⟨vs, H1, I1, r, q⟩ := hh
  refine ⟨I1.kIn, ?_⟩
  have q1 : sp (vs ++ []) H1 Q E0 := q
  rw [List.append_nil] at q1
  have hl : (us ++ []).length = ps.length := by
    rw [List.append_nil, ← r.length]
    exact F.len _ _ _ _ q1
  have bb := hb s1 us I1.kIn hl
  rw [List.append_nil] at bb
  refine wpAny_call (codeAny_mono (F.run X.A X.stack s1 H1 ⟨us, []⟩ us vs Q E0 hr hgd I1.env0 bb r q1) fun z s' hq => ?_)
  cases z with
  | error e => cases hq
  | ok fl =>
    cases fl with
    | ret u => exact I1.after hq
    | next => cases hq
    | brk => cases hq
    | cont => cases hq
/-- repr(x), x a list or tuple of plain data, where no repr is under way -/
theorem call_reprD (hgd : X.A.guards = some []) (hu : X.A.units + 100 < cLine) : CallR X (.builtin "repr") (fun xs H Q => ∃ (a : Addr) (d : PyData), xs = [.ref a] ∧ Dp X.K H (.ref a) d ∧
    d.showable = true ∧ d.hasDict = false ∧ d.shown.length ≤ sizeLine ∧ d.depth ≤ 64 ∧ Q (.str d.shown) H) := by
  intro pins s σ H xs us Q I r h
  obtain ⟨a, d, rfl, hd, h1, h2, h3, h4, q⟩ := h
  rw [Vals.ref1 r]
  obtain ⟨as, R⟩ := Dp.reads I d (.ref a) (.ref a) hd rfl
  exact repr_of_reads' R h1 (PyData.noDict_hsm h2) hgd (by omega) (fun _ _ e => e) (fun h' u tk hk => ⟨.str d.shown, H, I.kept hk, ⟨u, rfl⟩, q⟩) h3
end
/-! ### the end of a row whose law has such a promise -/
theorem law_callG {P : Program} {w : World} {K : PySem.W.Frag} {mg mb : Str → Option Value} {k : Nat} {fa a : Addr} {fd : FuncData} {x : Str} {sp : Sp} {s₁ : Shared} {vs : List Value} {ns : List Int}
    (KX : K.In s₁.heap) (hns : s₁.heap.Ns mainGlobals mg) (hb : s₁.heap.Ns builtinsNs mb) (hbb : ∀ x : Str, x ≠ "__name__" → mb x = bootBuiltins x) (hlim : s₁.heap.NoLimit) (hg : s₁.gens = #[])
    (ha : s₁.heap.get? a = some { cls := .type "list", data := .seq vs.toArray }) (hi : IntsAre vs ns) (hl : ns.length ≤ sizeLine) (hr : Room k callerA)
    (F : ∀ base : Heap, K.In base → base.Ns mainGlobals mg → FnG P w K mg base k fa fd [x] sp)
    (hbind : ∀ (s : Shared) (u : Value), BindsTo s fd ⟨[u], []⟩ [(x, u)])
    (hsp : ∀ H : Hp, Only H → SqL K H a (ns.map V.int) → sp [.ref a] H (fun v _ => v = .bl true) fun _ _ _ => False) :
    codeAny (model P w) callerA (.call (.ref fa) ⟨[.ref a], []⟩)
      (fun r s' => r = .ok (.ret (.bool true)) ∧ OldK s₁.heap s'.heap ∧ s'.os = s₁.os ∧ AllBare s'.gens) s₁ := by
  have rv := vals_ints hi
  have lenV := hi.length
  have core : ∀ H : Hp, Only H → SqL K H a (ns.map V.int) → HOk P w H s₁.heap → (∀ b, H b ≠ none → b = a) → (H a ≠ none → K.lookup a = none) →
      codeAny (model P w) callerA (.call (.ref fa) ⟨[.ref a], []⟩)
        (fun r s' => r = .ok (.ret (.bool true)) ∧ OldK s₁.heap s'.heap ∧ s'.os = s₁.os ∧ AllBare s'.gens) s₁ := by
    intro H hO hS hok hA hK
    have only_a : ∀ {b : Addr} {u : HO}, H b = some u → b = a := fun {b u} q => hA b (by
      rw [q]
      simp)
    have noA : ∀ {b : Addr} {o : Obj} {es : Array DictEntry} {ep : Nat}, s₁.heap.get? b = some o → o.data = .dict es ep → H b = none := by
      intro b o es ep e d
      cases q : H b with
      | none => rfl
      | some u =>
        have e' := only_a q
        subst e'
        rw [ha] at e
        cases e
        have d' : Data.seq vs.toArray _ = Data.dict es ep := d
        cases d'
    have nsK : ∀ {b : Addr} {m : Str → Option Value}, s₁.heap.Ns b m → (hidT s₁.heap H).Ns b m := by
      rintro b m ⟨o, es, ep, e, d, r⟩
      exact ⟨o, es, ep, hidT_get e (noA e d), d, r⟩
    have hKb : K.In (hidT s₁.heap H) := by
      intro b o e
      refine hidT_get (KX b o e) ?_
      cases q : H b with
      | none => rfl
      | some u =>
        have e' := only_a q
        subst e'
        rw [hK (by rw [q]; simp)] at e
        cases e
    have hM : Mod K mg (hidT s₁.heap H) := by
      obtain ⟨mc, h1, h2⟩ := hlim
      exact ⟨hKb, nsK hns, ⟨mb, nsK hb, hbb⟩, ⟨mc, nsK h1, h2⟩⟩
    have e0 : Env0 P w K mg (hidT s₁.heap H) callerA [] s₁ H :=
      ⟨rfl, hM, fun b o e => of_hidT e, Nat.le_of_eq (hidT_size _ _), trivial,
        fun b hb => absurd (show b ∈ ([] : List Addr) from hb) (by simp), hok, .of_eq hg⟩
    have go := (F _ hKb (nsK hns)).run callerA [] s₁ H ⟨[.ref a], []⟩ [.ref a] [.ref a] _ _ hr rfl e0 (hbind s₁ (.ref a)) (.cons rfl .nil) (hsp H hO hS)
    refine codeAny_mono go fun r s' h => ?_
    cases r with
    | error e => cases h
    | ok fl =>
      cases fl with
      | next => cases h
      | brk => cases h
      | cont => cases h
      | ret u =>
        obtain ⟨v, H', os, bare, un, hok', r', q⟩ := h
        have q' : v = .bl true := q
        subst q'
        obtain rfl : u = Value.bool true := r'
        refine ⟨rfl, OldK.of_keep fun b o e => ?_, os, bare⟩
        cases q : H b with
        | none =>
          exact un.keep b o e q (fun z => absurd (show b ∈ ([] : List Addr) from z) (by simp)) (by simp)
        | some u =>
          rcases hO b with z | ⟨ob, xs, z⟩
          · rw [q] at z
            cases z
          · obtain ⟨e1, _⟩ := hok b _ z
            obtain ⟨e2, _⟩ := hok' b _ (un.frzs b ob _ z)
            rw [e] at e1
            cases e1
            exact e2
  cases hk : K.lookup a with
  | some o =>
    have e := KX a o hk
    rw [ha] at e
    cases e
    have sq : SqL K (fun _ => none) a (ns.map V.int) :=
      .inr ⟨_, vs.toArray, _, hk, rfl, rfl, rfl, by rw [List.size_toArray, lenV]; exact hl, by simpa using rv⟩
    exact core (fun _ => none) (fun _ => .inl rfl) sq (fun b u z => by cases z) (fun b z => absurd rfl z) fun z => absurd rfl z
  | none =>
    refine core (fun b => if b = a then some (.frz { cls := .type "list", data := .seq vs.toArray } (.lst (ns.map V.int))) else none)
      (fun b => ?_) (.inl (.inr ⟨{ cls := .type "list", data := .seq vs.toArray }, if_pos rfl⟩)) (fun b u z => ?_) (fun b z => ?_) fun _ => hk
    · by_cases hb : b = a
      · exact .inr ⟨_, _, if_pos hb⟩
      · exact .inl (if_neg hb)
    · by_cases hb : b = a
      · have z' := (if_pos hb).symm.trans z
        cases z'
        subst hb
        exact ⟨ha, by rw [List.length_map]; exact hl, vs, _, rv, ha⟩
      · have z' := (if_neg hb).symm.trans z
        cases z'
    · by_cases hb : b = a
      · exact hb
      · exact absurd (if_neg hb) z
theorem walk_ofG {l : PySem.W.OpenLaw} {n k : Nat} {q : Program} {loose : List Str} {XP : (Str → Option Value) → Heap → Prop} {YP : World → Heap → Prop} {d : DefRec} {K : Params → PySem.W.Frag} {sp : World → Sp} {x : Str}
    (hn : l.most = some n) (hn2 : n ≤ sizeLine) (hdf : d.params.defaults = []) (hr : Room k callerA) (hY : ∀ (w : World) (h : Heap), YP w h → (K w.params).In h)
    (F : ∀ (w : World) (mg : Str → Option Value) (fa : Addr) (h : Heap), (K w.params).In h → h.Ns mainGlobals mg → mg d.name = some (.ref fa) →
      ∃ fd : FuncData, (∀ (s : Shared) (u : Value), BindsTo s fd ⟨[u], []⟩ [(x, u)]) ∧
        ∀ base : Heap, (K w.params).In base → base.Ns mainGlobals mg → FnG l.prog w (K w.params) mg base k fa fd [x] (sp w))
    (hsp : ∀ (w : World) (H : Hp) (a : Addr) (ns : List Int), ns.length ≤ n → Only H → SqL (K w.params) H a (ns.map V.int) →
      sp w [.ref a] H (fun v _ => v = .bl true) fun _ _ _ => False) :
    PySem.W.WalkO q loose XP YP l.row.toRowW d [] (fun f vs => PySem.call f vs) := by
  refine Att.attach_call hn hdf fun w s₀ s₁ mg mb fa o pm cd doc a vs ns G Y ho hd hcd hmg hobj hints hlen hg => ?_
  obtain ⟨fd, hb, hF⟩ := F w mg fa _ (hY w _ Y) G.T.g hmg
  exact law_callG (hY w _ Y) G.T.g G.T.b G.T.builtins G.T.nolimit hg hobj hints (Nat.le_trans hlen hn2) hr hF hb
    (fun H hO hS => hsp w H a ns hlen hO hS)
end KS
namespace KS
open PySem PySem.Spec PyProof.Rows L2
/-! ### cells and plans -/
abbrev Cell := Int × Int
def CellAt (K : PySem.W.Frag) (H : Hp) (x : V) (c : Cell) : Prop := ∃ t, x = .ref t ∧ SqT K H t [.int c.1, .int c.2]
abbrev CellsAt (K : PySem.W.Frag) (H : Hp) : List V → List Cell → Prop := Paired (CellAt K H)
def lt2 (a b : Cell) : Prop := a.1 < b.1 ∨ (a.1 = b.1 ∧ a.2 < b.2)
def InGrid (c : Cell) : Prop := 0 ≤ c.1 ∧ c.1 ≤ 7 ∧ 0 ≤ c.2 ∧ c.2 ≤ 7
structure Good (cs : List Cell) : Prop where
  asc : cs.Pairwise lt2
  grid : ∀ c ∈ cs, InGrid c
  ne : cs ≠ []
/-- tuples are kept -/
def KT (K : PySem.W.Frag) (H H' : Hp) : Prop := ∀ a xs, SqT K H a xs → SqT K H' a xs
section
variable {K : PySem.W.Frag} {H H1 H2 H' : Hp}
theorem KT.trans (a : KT K H H1) (b : KT K H1 H2) : KT K H H2 := fun x xs h => b x xs (a x xs h)
theorem KT.of_same (a : Same H H1) : KT K H H1 := fun _ _ h => same_seqT a h
theorem KT.of_keepX {p : Addr} (hp : PoolO (H p)) (a : KeepX p H H1) : KT K H H1 := fun _ _ h => keepX_seqT hp a h
theorem KT.upd {e : Addr} {ys : List V} {o : HO} (h : H e = some (.lst ys)) : KT K H (upd H e o) := fun a xs q => by
  rcases q with (q | ⟨ob, q⟩) | q
  · exact .inl (.inl (by rw [upd_ne (ne_of q h (by intro z; cases z))]; exact q))
  · exact .inl (.inr ⟨ob, by rw [upd_ne (ne_of q h (by intro z; cases z))]; exact q⟩)
  · exact .inr q
theorem CellAt.kt {x : V} {c : Cell} (k : KT K H H') (h : CellAt K H x c) : CellAt K H' x c := by
  obtain ⟨t, e, q⟩ := h
  exact ⟨t, e, k _ _ q⟩
theorem cells_kt {xs : List V} {cs : List Cell} (k : KT K H H') (h : CellsAt K H xs cs) : CellsAt K H' xs cs := Paired.mono (fun _ _ q => q.kt k) h
end
theorem paired_append {α β : Type} {F : α → β → Prop} : ∀ {l₁ l₁' : List α} {l₂ l₂' : List β}, Paired F l₁ l₂ → Paired F l₁' l₂' → Paired F (l₁ ++ l₁') (l₂ ++ l₂')
  | _, _, _, _, .nil, h => h
  | _, _, _, _, .cons r t, h => .cons r (paired_append t h)
theorem paired_get {α β : Type} {F : α → β → Prop} : ∀ {l₁ : List α} {l₂ : List β} {i : Nat} {x : α}, Paired F l₁ l₂ → l₁[i]? = some x → ∃ y, l₂[i]? = some y ∧ F x y
  | _, _, _, _, .nil, h => by simp at h
  | _, _, 0, _, .cons r t, h => by
    simp at h
    subst h
    exact ⟨_, rfl, r⟩
  | _, _, i + 1, _, .cons r t, h => by
    simp at h
    obtain ⟨y, e, f⟩ := paired_get t h
    exact ⟨y, by simpa using e, f⟩
theorem paired_erase {α β : Type} {F : α → β → Prop} : ∀ {l₁ : List α} {l₂ : List β} (i : Nat), Paired F l₁ l₂ → Paired F (l₁.eraseIdx i) (l₂.eraseIdx i)
  | _, _, _, .nil => .nil
  | _, _, 0, .cons r t => t
  | _, _, i + 1, .cons r t => .cons r (paired_erase i t)
/-- the cells of one row -/
def rowCells (r c : Int) (n : Nat) : List Cell := (List.range n).map fun (s : Nat) => (r, c + (s : Int))
theorem rowCells_succ (r c : Int) (n : Nat) : rowCells r c (n + 1) = rowCells r c n ++ [(r, c + (n : Int))] := by
  unfold rowCells
  rw [List.range_succ, List.map_append]
  rfl
theorem rowCells_mem {r c : Int} {n : Nat} {x : Cell} (h : x ∈ rowCells r c n) : x.1 = r ∧ c ≤ x.2 ∧ x.2 < c + n := by
  unfold rowCells at h
  obtain ⟨s, hs, rfl⟩ := List.mem_map.mp h
  have := List.mem_range.mp hs
  refine ⟨rfl, ?_, ?_⟩ <;> show _ <;> simp <;> omega
theorem rowCells_asc (r c : Int) : ∀ n : Nat, (rowCells r c n).Pairwise lt2
  | 0 => List.Pairwise.nil
  | n + 1 => by
    rw [rowCells_succ, List.pairwise_append]
    refine ⟨rowCells_asc r c n, List.pairwise_singleton _ _, fun a ha b hb => ?_⟩
    obtain ⟨e1, e2, e3⟩ := rowCells_mem ha
    rw [List.mem_singleton] at hb
    subst hb
    exact .inr ⟨e1, e3⟩
theorem rowCells_len (r c : Int) (n : Nat) : (rowCells r c n).length = n := by
  unfold rowCells
  rw [List.length_map, List.length_range]
def PlanAt (K : PySem.W.Frag) (H : Hp) (a : Addr) (cs : List Cell) : Prop := ∃ xs, SqT K H a xs ∧ CellsAt K H xs cs
theorem PlanAt.kt {K : PySem.W.Frag} {H H' : Hp} {a : Addr} {cs : List Cell} (k : KT K H H') (h : PlanAt K H a cs) : PlanAt K H' a cs := by
  obtain ⟨xs, h1, h2⟩ := h
  exact ⟨xs, k _ _ h1, cells_kt k h2⟩
def spPlan (K : PySem.W.Frag) : Sp := fun vs H Q _ => ∃ (p : Addr) (m : Int), vs = [.ref p, .int m] ∧ PoolO (H p) ∧ 1 ≤ m ∧ m ≤ 24 ∧
  ∀ H' a cs, KeepX p H H' → PoolO (H' p) → PlanAt K H' a cs → Good cs → (cs.length : Int) ≤ m → H a = none → Q (.ref a) H'
/-- where _law_plan stands behind its first loop -/
structure PlSt (K : PySem.W.Frag) (p : Addr) (H : Hp) (m mode wide high top left : Int) (σ : L2.St) (H' : Hp) : Prop where
  ex : ∃ (e : Addr) (xs : List V) (cs : List Cell) (y8 y9 y10 : Option V),
    σ = [some (.ref p), some (.int m), some (.int mode), some (.int wide), some (.int high), some (.int top), some (.int left), some (.ref e), y8, y9, y10, none, none] ∧
    H e = none ∧ e ≠ p ∧ H' e = some (.lst xs) ∧ CellsAt K H' xs cs ∧ Good cs ∧ cs.length ≤ 64
  kx : KeepX p H H'
  po : PoolO (H' p)
/-- every = [spot for spot in every if ..] or every -/
def tFil (K : PySem.W.Frag) (tc : TT) : TS := tAsg (tOrT K (tLc (iList K (tVar 7)) (gName 12) tc (tVar 12) [12]) (tVar 7)) (gName 7)
theorem small64 {n : Nat} (h : n ≤ 64) : n < sizeLine := by
  rw [sizeLine_eq]
  omega
theorem fil_ok {K : PySem.W.Frag} {p : Addr} {H : Hp} {m mode wide high top left : Int} {tc : TT} {D : Ends} {σ : L2.St} {H' : Hp} (h : PlSt K p H m mode wide high top left σ H')
    (htc : ∀ (t : Addr) (c : Cell) (H2 : Hp) (R : Bool → Hp → Prop), SqT K H2 t [.int c.1, .int c.2] → PoolO (H2 p) → (∀ b H3, KeepX p H2 H3 → PoolO (H3 p) → R b H3) → tc (σ.set 12 (some (.ref t))) H2 R)
    (k : ∀ σ' H'', PlSt K p H m mode wide high top left σ' H'' → D.nx σ' H'') : tFil K tc D σ H' := by
  obtain ⟨⟨e, xs, cs, y8, y9, y10, rfl, he0, hep, he, hc, gd, hl⟩, kx, po⟩ := h
  have hlen := Paired.length hc
  refine ⟨_, rfl, e, rfl, ⟨_, SqL.of he⟩, fun d nd => ?_⟩
  have ned : e ≠ d := ne_of_none he nd
  have npd : p ≠ d := po.ne nd
  refine lc_list (K := K) (a := e) (xs := xs) (fun i H2 => ∃ (acc : List V) (cs' : List Cell), H2 d = some (.lst acc) ∧ CellsAt K H2 acc cs' ∧ cs'.Sublist (cs.take i) ∧
    KeepX p H H2 ∧ PoolO (H2 p) ∧ H2 e = some (.lst xs) ∧ CellsAt K H2 xs cs) ?_ ?_ ?_ ?_
  · have s1 := same_new (o := .lst []) nd
    refine ⟨[], [], upd_same, .nil, List.nil_sublist _, kx.trans (.of_same s1), po.same s1, s1 _ _ he, cells_kt (.of_same s1) hc⟩
  · rintro i H2 _ ⟨acc, cs', _, _, _, _, _, h6, _⟩
    exact SqL.of h6
  · rintro i x H2 hi ⟨acc, cs', h1, h2, h3, h4, h5, h6, h7⟩
    obtain ⟨c, hci, t, rfl, ht⟩ := paired_get h7 hi
    have hlt : i < cs.length := (List.getElem?_eq_some_iff.mp hci).1
    have tk : cs.take (i + 1) = cs.take i ++ [c] := by
      rw [List.take_add_one, hci]
      rfl
    refine ⟨rfl, htc t c H2 _ ht h5 (fun b H3 k3 p3 => ?_)⟩
    have q3 : KT K H2 H3 := KT.of_keepX h5 k3
    have hd3 : H3 d = some (.lst acc) := k3 _ _ (Ne.symm npd) h1
    have he3 : H3 e = some (.lst xs) := k3 _ _ hep h6
    have hal : acc.length ≤ 64 := by
      rw [Paired.length h2]
      exact Nat.le_trans h3.length_le (by rw [List.length_take]; omega)
    refine ite2 (fun _ => ?_) (fun _ => ?_)
    · refine ⟨_, rfl, acc, hd3, small64 hal, acc ++ [.ref t], cs' ++ [c], upd_same, ?_, ?_, ?_, ?_, ?_, ?_⟩
      · exact cells_kt (q3.trans (KT.upd hd3)) (paired_append h2 (.cons ⟨t, rfl, ht⟩ .nil))
      · rw [tk]
        exact List.Sublist.append h3 (List.Sublist.refl _)
      · intro b o n e2
        rw [upd_ne (fun z => by
          subst z
          have q := kx b o n e2
          rw [nd] at q
          cases q)]
        exact k3 _ _ n (h4 _ _ n e2)
      · rw [upd_ne npd]
        exact p3
      · rw [upd_ne ned]
        exact he3
      · exact cells_kt (q3.trans (KT.upd hd3)) h7
    · refine ⟨acc, cs', hd3, cells_kt q3 h2, ?_, h4.trans k3, p3, he3, cells_kt q3 h7⟩
      rw [tk]
      exact List.Sublist.trans h3 (List.sublist_append_left _ _)
  · rintro H2 ⟨acc, cs', h1, h2, h3, h4, h5, h6, h7⟩
    have h3' : cs'.Sublist cs := List.Sublist.trans h3 (List.take_sublist _ _)
    refine ⟨!acc.isEmpty, .inl ⟨acc, SqL.of h1, rfl⟩, ite2 (fun e1 => ?_) (fun e1 => ?_)⟩
    · refine k _ _ ⟨⟨d, acc, cs', y8, y9, y10, rfl, ?_, Ne.symm npd, h1, h2, ⟨gd.asc.sublist h3', fun c hc => gd.grid c (h3'.subset hc), ?_⟩, Nat.le_trans h3'.length_le hl⟩, h4, h5⟩
      · cases q : H d with
        | none => rfl
        | some o =>
          have z := kx d o (Ne.symm npd) q
          rw [nd] at z
          cases z
      · intro z
        subst z
        cases h2
        cases e1
    · exact ⟨_, rfl, k _ _ ⟨⟨e, xs, cs, y8, y9, y10, rfl, he0, hep, h6, h7, gd, hl⟩, h4, h5⟩⟩
end KS
namespace KS
open PySem PySem.Spec PyProof.Rows L2
abbrev tDr (tm : TE) : TE := tCall spDraw [] E0 (tCons (tVar 0) (tCons tm tNil))
abbrev rAdd : V → V → Hp → VK → Prop := rI0 fun i j => .int (i + j)
/-- if mode == 2: high, wide = 1 + draw(pool, 8), 1 + draw(pool, 8) -/
theorem par_if {p : Addr} {m mode wide high : Int} {σr : L2.St} {H2 : Hp} {D : Ends} (po : PoolO (H2 p)) (hw : 1 ≤ wide ∧ wide ≤ 8) (hh : 1 ≤ high ∧ high ≤ 8)
    (k : ∀ (wide' high' : Int) (H3 : Hp), KeepX p H2 H3 → PoolO (H3 p) → 1 ≤ wide' ∧ wide' ≤ 8 → 1 ≤ high' ∧ high' ≤ 8 → D.nx (some (.ref p) :: some (.int m) :: some (.int mode) :: some (.int wide') :: some (.int high') :: σr) H3) :
    tIfS (tTest (tOp rEq (tVar 2) (tC (.int 2)))) (tPar 4 3 (tCons (tOp rAdd (tC (.int 1)) (tDr (tC (.int 8)))) (tCons (tOp rAdd (tC (.int 1)) (tDr (tC (.int 8)))) tNil))) tNext D
      (some (.ref p) :: some (.int m) :: some (.int mode) :: some (.int wide) :: some (.int high) :: σr) H2 := by
  refine ⟨_, rfl, rfl, _, rfl, ite2 (fun e => ?_) (fun e => ?_)⟩
  · refine ⟨_, rfl, p, 8, rfl, po, by decide, by decide, fun H3 a k3 po3 a0 a1 => ?_⟩
    refine ⟨_, _, rfl, rfl, _, rfl, p, 8, rfl, po3, by decide, by decide, fun H4 b k4 po4 b0 b1 => ?_⟩
    exact ⟨_, _, rfl, rfl, _, _, rfl, k (1 + b) (1 + a) H4 (k3.trans k4) po4 ⟨by omega, by omega⟩ ⟨by omega, by omega⟩⟩
  · exact k wide high H2 (KeepX.refl _ _) po hw hh
/-- if mode == n: every = [spot for spot in every if ..] or every -/
theorem fil_if {K : PySem.W.Frag} {p : Addr} {H : Hp} {m mode wide high top left n : Int} {tc : TT} {D : Ends} {σ : L2.St} {H' : Hp} (h : PlSt K p H m mode wide high top left σ H')
    (htc : ∀ (t : Addr) (c : Cell) (H2 : Hp) (R : Bool → Hp → Prop), SqT K H2 t [.int c.1, .int c.2] → PoolO (H2 p) → (∀ b H3, KeepX p H2 H3 → PoolO (H3 p) → R b H3) → tc (σ.set 12 (some (.ref t))) H2 R)
    (k : ∀ σ' H'', PlSt K p H m mode wide high top left σ' H'' → D.nx σ' H'') : tIfS (tTest (tOp rEq (tVar 2) (tC (.int n)))) (tFil K tc) tNext D σ H' := by
  obtain ⟨e, xs, cs, y8, y9, y10, es, rest⟩ := h.ex
  refine ⟨.int mode, by rw [es]; rfl, rfl, _, rfl, ite2 (fun e => ?_) (fun e => ?_)⟩
  · exact fil_ok h htc k
  · exact k _ _ h
theorem draw_test {K : PySem.W.Frag} {p : Addr} {H : Hp} {m mode wide high top left n : Int} {σ : L2.St} {H' : Hp} (h : PlSt K p H m mode wide high top left σ H') (n0 : 0 < n) (n1 : n < 1073741824)
    (t : Addr) (c : Cell) (H2 : Hp) (R : Bool → Hp → Prop) (ht : SqT K H2 t [.int c.1, .int c.2]) (po : PoolO (H2 p)) (k : ∀ b H3, KeepX p H2 H3 → PoolO (H3 p) → R b H3) :
    tTest (tOp (rI0 fun i j => .bl (decide (i > j))) (tDr (tC (.int n))) (tC (.int 0))) (σ.set 12 (some (.ref t))) H2 R := by
  obtain ⟨e, xs, cs, y8, y9, y10, es, rest⟩ := h.ex
  subst es
  exact ⟨_, rfl, p, n, rfl, po, n0, n1, fun H3 r k3 po3 r0 r1 => ⟨_, _, rfl, rfl, _, rfl, k _ _ k3 po3⟩⟩
end KS
namespace KS
open PySem PySem.Spec PyProof.Rows L2
abbrev rSub : V → V → Hp → VK → Prop := rI0 fun i j => .int (i - j)
abbrev rLe : V → V → Hp → VK → Prop := rI0 fun i j => .bl (decide (i ≤ j))
theorem fil3_if {K : PySem.W.Frag} {p : Addr} {H : Hp} {m mode wide high top left : Int} {D : Ends} {σ : L2.St} {H' : Hp} (h : PlSt K p H m mode wide high top left σ H')
    (k : ∀ σ' H'', PlSt K p H m mode wide high top left σ' H'' → D.nx σ' H'') :
    tIfS (tTest (tOp rEq (tVar 2) (tC (.int 3)))) (tSeq (tAsg (tOp rAdd (tOp rAdd (tVar 5) (tVar 6)) (tDr (tC (.int 4)))) (gName 9))
      (tSeq (tAsg (tOp rSub (tOp rSub (tOp rAdd (tOp rAdd (tOp rAdd (tVar 5) (tVar 6)) (tVar 4)) (tVar 3)) (tC (.int 2))) (tDr (tC (.int 4)))) (gName 10))
      (tFil K (tTest (tChain rLe rLe (tVar 9) (tCB (rSumT K) (tCons (tVar 12) tNil)) (tVar 10)))))) tNext D σ H' := by
  obtain ⟨⟨e, xs, cs, y8, y9, y10, rfl, he0, hep, he, hc, gd, hl⟩, kx, po⟩ := id h
  refine ⟨_, rfl, rfl, _, rfl, ite2 (fun e => ?_) (fun e => ?_)⟩
  · refine ⟨_, rfl, _, rfl, _, _, rfl, rfl, _, rfl, p, 4, rfl, po, by decide, by decide, fun H1 a k1 po1 _ _ => ⟨_, _, rfl, rfl, ?_⟩⟩
    refine ⟨_, rfl, _, rfl, _, _, rfl, rfl, _, rfl, _, _, rfl, rfl, _, rfl, _, _, rfl, rfl, _, _, rfl, rfl, _, rfl, p, 4, rfl, po1, by decide, by decide, fun H2 b k2 po2 _ _ => ⟨_, _, rfl, rfl, ?_⟩⟩
    have k12 := k1.trans k2
    refine fil_ok (p := p) (H := H) (m := m) (mode := mode) (wide := wide) (high := high) (top := top) (left := left)
      ⟨⟨_, xs, cs, y8, _, _, rfl, he0, hep, k12 _ _ hep he, cells_kt (KT.of_keepX po k12) hc, gd, hl⟩, kx.trans k12, po2⟩ (fun t c H3 R ht p3 kk => ?_) k
    refine ⟨_, rfl, _, rfl, t, [c.1, c.2], rfl, ht, _, _, rfl, rfl, _, rfl, ite2 (fun e1 => ?_) (fun e1 => ?_)⟩
    · exact ⟨_, rfl, _, _, rfl, rfl, _, rfl, kk _ _ (KeepX.refl _ _) p3⟩
    · exact ⟨_, rfl, kk _ _ (KeepX.refl _ _) p3⟩
  · exact k _ _ h
end KS
namespace KS
open PySem PySem.Spec PyProof.Rows L2
def topS (i : Nat) : Stmt := PySem.Challenge.pw_keepsort_k03_transposed_and_rectangles.main.body.getD i (.Pass ⟨0, 0, 0, 0⟩)
abbrev sCell : Stmt := topS 14
abbrev sPool : Stmt := topS 15
abbrev sDraw : Stmt := topS 16
theorem scCell : FnScope ["_law_script", "_law_k", "_law_state", "_law_number"] ["_law_script", "_law_k"] (defScope sCell) := ⟨rfl, rfl, rfl, by decide +kernel, rfl, by decide +kernel, by decide +kernel⟩
theorem scPool : FnScope ["_law_number", "_law_digits"] ["_law_number"] (defScope sPool) := ⟨rfl, rfl, rfl, by decide +kernel, rfl, by decide +kernel, by decide +kernel⟩
theorem scDraw : FnScope ["_law_pool_here", "_law_most", "_law_state", "_law_digit"] ["_law_pool_here", "_law_most"] (defScope sDraw) := ⟨rfl, rfl, rfl, by decide +kernel, rfl, by decide +kernel, by decide +kernel⟩
section
variable {P : Program} {w : World} {K : PySem.W.Frag} {mg : Str → Option Value} {base : Heap}
theorem ok_cell {f : Addr} {fd : FuncData} (F : Fun K "_law_cell" "_law_cell" sCell f fd) (ml : mg "len" = none) : FnOk P w K mg base CX0 1 f fd ["_law_script", "_law_k"] (spCell K) := by
  refine F.ok scCell (fun vs H Q E h => ?_) (fun cdv A outer s H vs Q E hr h => ?_)
  · obtain ⟨a, ns, k, rfl, _⟩ := h
    rfl
  · obtain ⟨a, ns, k, rfl, hS, hk, q⟩ := h
    refine ⟨_, pss_cons (ps_if (pt_cmpR op_lt (pv 1) (pe_callB call_len_seq (by rfl) ml PySem.boot_len (pa_cons (pv 0) pa_nil)) (nomark _))
        (pss_one (ps_ret (pe_ix ix_list (pv 0) (pv 1) (fun _ _ => rfl)))) pss_nil)
      (pss_cons (ps_set (i := 2) scCell.nd rfl (.inl rfl) (pe_op op_mod (pe_op op_mul pe_int (pe_op op_add (pe_op op_add (pe_op op_mul (pv 1) (pv 1)) (pe_op op_mul pe_int (pv 1))) pe_int)) pe_int))
      (pss_cons (ps_for PassesOwn.never rfl (pi_list (pe_slice sl_list (pv 0) po_none (po_some pe_int))) (pg_name (i := 3) scCell.nd rfl (.inl rfl))
        (pss_one (ps_set (i := 2) scCell.nd rfl (.inl rfl) (pe_op op_mod (pe_op op_add (pe_op op_mul (pv 2) pe_int) (pv 3)) pe_int))))
      (pss_one (ps_ret (pv 2))))), ?_⟩
    refine ⟨_, rfl, _, rfl, a, ns.map V.int, rfl, .inl hS, _, _, rfl, rfl, _, rfl, ite2 (fun e => ?_) (fun e => ?_)⟩
    · have e0 : (k : Int) < ((ns.map V.int).length : Int) := of_decide_eq_true e
      rw [List.length_map] at e0
      have hj : k < ns.length := by omega
      refine ⟨_, rfl, _, rfl, a, _, _, .int ns[k], rfl, rfl, hS, atI_nat (j := k) ?_, q H _ (Same.refl H)⟩
      rw [List.getElem?_map, List.getElem?_eq_getElem hj]
      rfl
    · refine ⟨_, rfl, _, rfl, _, _, rfl, rfl, .inl ⟨by omega, by omega⟩, _, rfl, _, _, rfl, rfl, .inl ⟨by omega, by omega⟩, _, _, rfl, rfl, _, _, rfl, rfl, _, _, rfl, rfl, .inl ⟨by omega, by omega⟩, _, _, rfl, rfl, by show (0 : Int) < 2147483249; decide, ?_⟩
      refine ⟨_, rfl, 3, rfl, a, _, rfl, hS, fun c nc => ?_⟩
      have s1 := same_new (o := .lst (cutV (ns.map V.int) none (some 3))) nc
      have hc : SqL K (upd H c (.lst (cutV (ns.map V.int) none (some 3)))) c (cutV (ns.map V.int) none (some 3)) := SqL.of upd_same
      refine ⟨c, rfl, ⟨_, hc⟩, for_list (K := K) (a := c) (xs := cutV (ns.map V.int) none (some 3)) (fun i σ H' => ∃ (st : Int) (y : Option V), σ = [some (.ref a), some (.int k), some (.int st), y] ∧ 0 ≤ st ∧ st < 2147483249 ∧ H' = upd H c (.lst (cutV (ns.map V.int) none (some 3)))) ?_ ?_ ?_ ?_⟩
      · have b := int_mod_bd (60013 * ((k : Int) * k + 5 * k + 3)) (m := 2147483249) (by decide)
        exact ⟨_, none, rfl, b.1, b.2, rfl⟩
      · rintro i σ H' _ ⟨st, y, rfl, _, _, rfl⟩
        exact hc
      · rintro i x σ H' hi ⟨st, y, rfl, h0, h1, rfl⟩
        have hm : x ∈ ns.map V.int := by
          have := List.mem_of_getElem? hi
          unfold cutV at this
          exact List.mem_of_mem_drop (List.mem_of_mem_take this)
        obtain ⟨n, _, rfl⟩ := List.mem_map.mp hm
        have b := int_mod_bd (st * 41221 + n) (m := 2147483249) (by decide)
        refine ⟨_, rfl, _, _, rfl, rfl, .inl ⟨by omega, by omega⟩, _, rfl, _, _, rfl, rfl, _, _, rfl, rfl, by show (0 : Int) < 2147483249; decide, ?_⟩
        exact ⟨_, some (.int n), rfl, b.1, b.2, rfl⟩
      · rintro σ H' ⟨st, y, rfl, h0, h1, rfl⟩
        exact ⟨_, rfl, q _ _ s1⟩
theorem ok_pool {f : Addr} {fd : FuncData} (F : Fun K "_law_pool" "_law_pool" sPool f fd) (ma : mg "abs" = none) : FnOk P w K mg base CX0 1 f fd ["_law_number"] spPool := by
  refine F.ok scPool (fun vs H Q E h => ?_) (fun cdv A outer s H vs Q E hr h => ?_)
  · obtain ⟨n, rfl, _⟩ := h
    rfl
  · obtain ⟨n, rfl, q⟩ := h
    refine ⟨_, pss_cons (ps_set (i := 1) scPool.nd rfl (.inl rfl) (pe_ifExp (PW.pt (pw_or (pt_cmpR op_lt (pv 0) pe_int (nomark _)) (pw_or1 (pt_cmpR op_ge (pv 0) (pe_op op_pow pe_int pe_int) (nomark _)))))
        (pe_callB call_abs (by rfl) ma (by decide +kernel) (pa_cons (pv 0) pa_nil)) pe_int))
      (pss_one (ps_ret (pe_lst (pa_cons (pe_op op_mod (pv 0) pe_int) (pa_cons (pv 1) (pa_cons pe_int pa_nil)))))), ?_⟩
    have b := int_mod_bd n (m := 2147483249) (by decide)
    have fin : ∀ d : Int, 0 ≤ d → tRet (tLst (tCons (tOp (rI (fun _ j => 0 < j) fun i j => .int (i % j)) (tVar 0) (tC (.int 2147483249))) (tCons (tVar 1) (tCons (tC (.int 0)) tNil)))) { nx := fun _ H' => Q .non H', rt := Q } [some (.int n), some (.int d)] H := fun d hd => by
      refine ⟨_, rfl, _, _, rfl, rfl, by show (0 : Int) < 2147483249; decide, _, rfl, (by show 3 ≤ sizeLine; decide), fun p np => ?_⟩
      exact q _ _ (same_new np) np ⟨_, _, _, upd_same, b.1, b.2, hd⟩
    refine ⟨_, rfl, _, _, rfl, rfl, _, rfl, ite2 (fun e => ?_) (fun e => ?_)⟩
    · have e0 : n < 0 := of_decide_eq_true e
      refine iteT ⟨_, rfl, n, rfl, ?_⟩
      rw [if_pos e0]
      exact fin _ (by omega)
    · refine ⟨_, rfl, _, _, rfl, rfl, ⟨by decide, by decide, by decide⟩, _, _, rfl, rfl, _, rfl, ite2 (fun e1 => ?_) (fun e1 => ?_)⟩
      · have e0 : ¬ n < 0 := fun z => e (decide_eq_true z)
        refine ⟨_, rfl, n, rfl, ?_⟩
        rw [if_neg e0]
        exact fin _ (by omega)
      · exact fin _ (by omega)
theorem ok_draw {f : Addr} {fd : FuncData} (F : Fun K "_law_draw" "_law_draw" sDraw f fd) (md : mg "divmod" = none) : FnOk P w K mg base CX0 1 f fd ["_law_pool_here", "_law_most"] spDraw := by
  refine F.ok scDraw (fun vs H Q E h => ?_) (fun cdv A outer s H vs Q E hr h => ?_)
  · obtain ⟨p, m, rfl, _⟩ := h
    rfl
  · obtain ⟨p, m, rfl, ⟨a, b, c, hp, a0, a1, b0⟩, m0, m1, q⟩ := h
    refine ⟨_, pss_cons (ps_asg (pe_op op_add (pe_ix ix_list (pv 0) pe_int (fun _ _ => rfl)) pe_int) (pg_sub (pv 0) pe_int set_list))
      (pss_cons (ps_set (i := 2) scDraw.nd rfl (.inl rfl) (pe_ix ix_list (pv 0) pe_int (fun _ _ => rfl)))
      (pss_cons (ps_asg (pe_op op_mod (pe_op op_add (pe_op op_mul (pv 2) (pe_op op_add (pe_op op_mod (pv 2) pe_int) pe_int)) (pe_op op_mul pe_int (pe_ix ix_list (pv 0) pe_int (fun _ _ => rfl)))) pe_int) (pg_sub (pv 0) pe_int set_list))
      (pss_cons (ps_if (pt_cmpR op_gt (pe_ix ix_list (pv 0) pe_int (fun _ _ => rfl)) pe_int (nomark _))
        (pss_cons (ps_asg (pe_callB call_divmod (by rfl) md (by decide +kernel) (pa_cons (pe_ix ix_list (pv 0) pe_int (fun _ _ => rfl)) (pa_cons (pv 1) pa_nil)))
            (pg_tup (by rfl) (pgs_cons (pg_sub (pv 0) pe_int set_list) (pgs_cons (pg_name (i := 3) scDraw.nd rfl (.inl rfl)) pgs_nil))))
          (pss_one (ps_ret (pv 3)))) pss_nil)
      (pss_one (ps_ret (pe_op op_mod (pe_op op_fdiv (pe_ix ix_list (pv 0) pe_int (fun _ _ => rfl)) pe_int) (pv 1))))))), ?_⟩
    -- pool[2] = pool[2] + 1
    refine ⟨_, rfl, p, _, 2, .int c, rfl, rfl, SqL.of hp, rfl, _, _, rfl, rfl, _, rfl, p, _, 2, 2, rfl, rfl, hp, rfl, ?_⟩
    refine ⟨_, rfl, p, _, 0, .int a, rfl, rfl, SqL.of upd_same, rfl, ?_⟩
    have bm := int_mod_bd a (m := 50021) (by decide)
    refine ⟨_, rfl, _, rfl, _, _, rfl, rfl, by show (0 : Int) < 50021; decide, _, _, rfl, rfl, _, _, rfl, rfl, .inl ⟨by omega, by omega⟩, _, rfl, p, _, 2, .int (c + 1), rfl, rfl, SqL.of upd_same, rfl, _, _, rfl, rfl, .inl ⟨by decide, by decide⟩, _, _, rfl, rfl, _, _, rfl, rfl, by show (0 : Int) < 2147483249; decide, ?_⟩
    refine ⟨_, rfl, p, _, 0, 0, rfl, rfl, upd_same, rfl, ?_⟩
    have bz := int_mod_bd (a * (a % 50021 + 30011) + 80021 * (c + 1)) (m := 2147483249) (by decide)
    rw [upd_upd]
    show _
    refine ⟨_, rfl, p, _, 1, .int b, rfl, rfl, SqL.of upd_same, rfl, _, _, rfl, rfl, _, rfl, ite2 (fun e => ?_) (fun e => ?_)⟩
    · refine ⟨_, rfl, p, _, 1, .int b, rfl, rfl, SqL.of upd_same, rfl, _, rfl, b, m, rfl, ⟨m0, m1⟩, fun t nt => ?_⟩
      have npt : p ≠ t := ne_of_none upd_same nt
      refine ⟨t, _, rfl, SqT.of upd_same, rfl, _, _, rfl, ?_⟩
      refine ⟨_, rfl, p, _, 1, 1, rfl, rfl, by rw [upd_ne npt]; exact upd_same, rfl, _, [], rfl, rfl, ?_⟩
      have br := int_mod_bd b m0
      refine ⟨_, rfl, q _ _ (fun x o n e => ?_) ⟨_, _, _, upd_same, bz.1, bz.2, Int.ediv_nonneg b0 (by omega)⟩ br.1 br.2⟩
      rw [upd_ne n, upd_ne, upd_ne n]
      · exact e
      · intro z
        rw [z] at e
        rw [upd_ne (Ne.symm npt)] at nt
        rw [nt] at e
        cases e
    · refine ⟨_, rfl, p, _, 0, .int ((a * (a % 50021 + 30011) + 80021 * (c + 1)) % 2147483249), rfl, rfl, SqL.of upd_same, rfl, _, _, rfl, rfl, ⟨by decide, by decide⟩, _, rfl, _, _, rfl, rfl, m0, ?_⟩
      have br := int_mod_bd ((a * (a % 50021 + 30011) + 80021 * (c + 1)) % 2147483249 / 64) m0
      exact q _ _ keepX_upd ⟨_, _, _, upd_same, bz.1, bz.2, b0⟩ br.1 br.2
end
end KS
namespace KS
open PySem PySem.Spec PyProof.Rows L2
abbrev sPlan : Stmt := topS 17
abbrev nPlan : List Str := ["_law_pool_here", "_law_most", "_law_mode", "_law_wide", "_law_high", "_law_top", "_law_left", "_law_every", "_law_step", "_law_low", "_law_far", "_law_side", "_law_spot"]
theorem scPlan : FnScope nPlan ["_law_pool_here", "_law_most"] (defScope sPlan) := ⟨rfl, rfl, rfl, by decide +kernel, rfl, by decide +kernel, by decide +kernel⟩
section
variable {P : Program} {w : World} {K : PySem.W.Frag} {mg : Str → Option Value} {base : Heap}
theorem ok_plan {f fD : Addr} {fd fdD : FuncData} (F : Fun K "_law_plan" "_law_plan" sPlan f fd) (GD : FnOk P w K mg base CX0 1 fD fdD ["_law_pool_here", "_law_most"] spDraw)
    (bD : Binds K fdD ["_law_pool_here", "_law_most"] []) (gD : mg "_law_draw" = some (.ref fD)) (kD : PySem.W.keepIn K (.ref fD) = true)
    (mn : mg "min" = none) (mr : mg "range" = none) (ml : mg "len" = none) (mt : mg "tuple" = none) (ms : mg "sum" = none) :
    FnOk P w K mg base CX0 2 f fd ["_law_pool_here", "_law_most"] (spPlan K) := by
  refine F.ok scPlan (fun vs H Q E h => ?_) (fun cdv A outer s H vs Q E hr h => ?_)
  · obtain ⟨p, m, rfl, _⟩ := h
    rfl
  · obtain ⟨p, m, rfl, po, m0, m1, q⟩ := h
    have nd := scPlan.nd
    refine ⟨_, pss_cons (ps_par (i := 2) (j := 3) (by rfl) nd rfl rfl (by decide) rfl rfl
        (pa_cons (pe_call GD hr (by rfl) gD kD bD .nil pass0 (pa_cons (pv 0) (pa_cons pe_int pa_nil)))
          (pa_cons (pe_op op_add pe_int (pe_call GD hr (by rfl) gD kD bD .nil pass0 (pa_cons (pv 0) (pa_cons (pe_callB (call_min2 rfl) (by rfl) mn (by decide +kernel) (pa_cons pe_int (pa_cons (pv 1) pa_nil))) pa_nil)))) pa_nil)) (by rfl))
      (pss_cons (ps_set (i := 4) nd rfl (.inl rfl) (pe_op op_add pe_int (pe_call GD hr (by rfl) gD kD bD .nil pass0 (pa_cons (pv 0)
          (pa_cons (pe_callB (call_min2 rfl) (by rfl) mn (by decide +kernel) (pa_cons pe_int (pa_cons (pe_op op_fdiv (pv 1) (pv 3)) pa_nil))) pa_nil)))))
      (pss_cons (ps_if (pt_cmpR op_eq (pv 2) pe_int (nomark _)) (pss_one (ps_par (i := 4) (j := 3) (by rfl) nd rfl rfl (by decide) rfl rfl
          (pa_cons (pe_op op_add pe_int (pe_call GD hr (by rfl) gD kD bD .nil pass0 (pa_cons (pv 0) (pa_cons pe_int pa_nil))))
            (pa_cons (pe_op op_add pe_int (pe_call GD hr (by rfl) gD kD bD .nil pass0 (pa_cons (pv 0) (pa_cons pe_int pa_nil)))) pa_nil)) (by rfl))) pss_nil)
      (pss_cons (ps_asg (pe_tup (pa_cons (pe_call GD hr (by rfl) gD kD bD .nil pass0 (pa_cons (pv 0) (pa_cons (pe_op op_sub pe_int (pv 4)) pa_nil)))
            (pa_cons (pe_call GD hr (by rfl) gD kD bD .nil pass0 (pa_cons (pv 0) (pa_cons (pe_op op_sub pe_int (pv 3)) pa_nil))) (pa_cons (pe_lst pa_nil) pa_nil))))
          (pg_tup (by rfl) (pgs_cons (pg_name (i := 5) nd rfl (.inr rfl)) (pgs_cons (pg_name (i := 6) nd rfl (.inr rfl)) (pgs_cons (pg_name (i := 7) nd rfl (.inl rfl)) pgs_nil)))))
      (pss_cons (ps_for PassesOwn.never rfl (pi_range1 (by rfl) mr (pa_cons (pv 4) pa_nil)) (pg_name (i := 8) nd rfl (.inr rfl))
          (pss_one (ps_expr (pe_bm PySem.F.plainAttrs_list PySem.F.slot_list_extend PySem.F.type_list_extend mt_extend (pv 7)
            (pa_cons (pe_lc (own := [("_law_side", 11)]) (g := gName 11) (tt := tYes) rfl nd (pi_range1 (by rfl) mr (pa_cons (pv 3) pa_nil)) (blkOk_by (N := nPlan) (sc := defScope sPlan) (by decide +kernel))
              (fun _ _ _ _ _ => pg_name (i := 11) nd rfl (Or.inl rfl)) (fun _ _ _ _ _ => pts_nil) (fun _ _ _ _ _ => pe_tup (pa_cons (pe_op op_add (pv 5) (pv 8)) (pa_cons (pe_op op_add (pv 6) (pv 11)) pa_nil)))) pa_nil)))))
      (pss_cons (ps_if (pt_cmpR op_eq (pv 2) pe_int (nomark _)) (pss_one (ps_set (i := 7) nd rfl (.inl rfl) (pe_orT
          (pe_lc (own := [("_law_spot", 12)]) (g := gName 12) rfl nd (pi_list (pv 7)) (blkOk_by (N := nPlan) (sc := defScope sPlan) (by decide +kernel))
            (fun _ _ _ _ _ => pg_name (i := 12) nd rfl (Or.inl rfl)) (fun _ _ _ _ _ => pts_one (pt_cmpR op_gt (pe_call GD hr (by rfl) gD kD bD .nil pass0 (pa_cons (pv 0) (pa_cons pe_int pa_nil))) pe_int (nomark _))) (fun _ _ _ _ _ => pv 12)) (pe_one (pv 7))))) pss_nil)
      (pss_cons (ps_if (pt_cmpR op_eq (pv 2) pe_int (nomark _)) (pss_one (ps_set (i := 7) nd rfl (.inl rfl) (pe_orT
          (pe_lc (own := [("_law_spot", 12)]) (g := gName 12) rfl nd (pi_list (pv 7)) (blkOk_by (N := nPlan) (sc := defScope sPlan) (by decide +kernel))
            (fun _ _ _ _ _ => pg_name (i := 12) nd rfl (Or.inl rfl)) (fun _ _ _ _ _ => pts_one (pt_cmpR op_gt (pe_call GD hr (by rfl) gD kD bD .nil pass0 (pa_cons (pv 0) (pa_cons pe_int pa_nil))) pe_int (nomark _))) (fun _ _ _ _ _ => pv 12)) (pe_one (pv 7))))) pss_nil)
      (pss_cons (ps_if (pt_cmpR op_eq (pv 2) pe_int (nomark _)) (pss_cons (ps_set (i := 9) nd rfl (.inr rfl) (pe_op op_add (pe_op op_add (pv 5) (pv 6)) (pe_call GD hr (by rfl) gD kD bD .nil pass0 (pa_cons (pv 0) (pa_cons pe_int pa_nil)))))
          (pss_cons (ps_set (i := 10) nd rfl (.inr rfl) (pe_op op_sub (pe_op op_sub (pe_op op_add (pe_op op_add (pe_op op_add (pv 5) (pv 6)) (pv 4)) (pv 3)) pe_int) (pe_call GD hr (by rfl) gD kD bD .nil pass0 (pa_cons (pv 0) (pa_cons pe_int pa_nil)))))
          (pss_one (ps_set (i := 7) nd rfl (.inl rfl) (pe_orT
          (pe_lc (own := [("_law_spot", 12)]) (g := gName 12) rfl nd (pi_list (pv 7)) (blkOk_by (N := nPlan) (sc := defScope sPlan) (by decide +kernel))
            (fun _ _ _ _ _ => pg_name (i := 12) nd rfl (Or.inl rfl)) (fun _ _ _ _ _ => pts_one (pt_chain op_le op_le (pv 9) (pe_callB (id := "sum") (r := rSumT K) (cr_sumT rfl) (by rfl) ms (by decide +kernel) (pa_cons (pv 12) pa_nil)) (pv 10))) (fun _ _ _ _ _ => pv 12)) (pe_one (pv 7))))))) pss_nil)
      (pss_cons (ps_while PassesOwn.never (pt_cmpR op_gt (pe_callB call_len_seq (by rfl) ml PySem.boot_len (pa_cons (pv 7) pa_nil)) (pv 1) (nomark _))
          (pss_one (ps_expr (pe_bm PySem.F.plainAttrs_list PySem.F.slot_list_pop PySem.F.type_list_pop mt_popAt (pv 7)
            (pa_cons (pe_call GD hr (by rfl) gD kD bD .nil pass0 (pa_cons (pv 0) (pa_cons (pe_callB call_len_seq (by rfl) ml PySem.boot_len (pa_cons (pv 7) pa_nil)) pa_nil))) pa_nil)))))
      (pss_one (ps_ret (pe_callTy call_tuple_of (by rfl) mt (by decide +kernel) (pa_cons (pv 7) pa_nil)))))))))))), ?_⟩
    -- mode, wide
    refine ⟨_, rfl, p, 4, rfl, po, by decide, by decide, fun H1 mode k1 po1 _ _ => ?_⟩
    have mb : 0 < (if m < 8 then m else 8 : Int) ∧ (if m < 8 then m else 8 : Int) ≤ 8 ∧ (if m < 8 then m else 8 : Int) ≤ m := by
      by_cases c : m < 8
      · rw [if_pos c]
        omega
      · rw [if_neg c]
        omega
    refine ⟨_, rfl, _, rfl, 8, m, rfl, p, _, rfl, po1, mb.1, by omega, fun H2 w k2 po2 w0 w1 => ?_⟩
    refine ⟨_, _, rfl, rfl, _, _, rfl, ?_⟩
    -- high
    have qd : 1 ≤ m / (1 + w) := by
      have : (1 : Int) * (1 + w) ≤ m := by omega
      exact (Int.le_ediv_iff_mul_le (by omega)).mpr this
    have hb : 0 < (if m / (1 + w) < 8 then m / (1 + w) else 8 : Int) ∧ (if m / (1 + w) < 8 then m / (1 + w) else 8 : Int) ≤ 8 := by
      by_cases c : m / (1 + w) < 8
      · rw [if_pos c]
        omega
      · rw [if_neg c]
        omega
    refine ⟨_, rfl, _, rfl, _, rfl, _, _, rfl, rfl, ⟨by omega, by omega⟩, 8, _, rfl, p, _, rfl, po2, hb.1, by omega, fun H3 h k3 po3 h0 h1 => ?_⟩
    refine ⟨_, _, rfl, rfl, ?_⟩
    refine par_if (p := p) (m := m) (mode := mode) (wide := 1 + w) (high := 1 + h) po3 ⟨by omega, by omega⟩ ⟨by omega, by omega⟩ (fun wide high H4 k4 po4 hw hh => ?_)
    have kx4 : KeepX p H H4 := ((k1.trans k2).trans k3).trans k4
    -- top, left, every
    refine ⟨_, rfl, _, rfl, _, _, rfl, rfl, p, _, rfl, po4, by omega, by omega, fun H5 top k5 po5 t0 t1 => ?_⟩
    refine ⟨_, rfl, _, rfl, _, _, rfl, rfl, p, _, rfl, po5, by omega, by omega, fun H6 left k6 po6 l0 l1 => ?_⟩
    refine ⟨Nat.zero_le _, fun e ne => ⟨(by show 3 ≤ sizeLine; decide), fun T nT => ?_⟩⟩
    have kx6 : KeepX p H H6 := (kx4.trans k5).trans k6
    have s7 := same_new (o := .lst []) ne
    have s8 := same_new (o := .tup [.int top, .int left, .ref e]) nT
    have po8 := (po6.same s7).same s8
    have he8 := s8 _ _ (show upd H6 e (.lst []) e = _ from upd_same)
    refine ⟨T, _, rfl, SqT.of upd_same, rfl, _, _, rfl, _, _, rfl, _, _, rfl, rfl, ?_⟩
    have nep : e ≠ p := Ne.symm (po6.ne ne)
    have heH : H e = none := by
      cases z : H e with
      | none => rfl
      | some o =>
        have := kx6 e o nep z
        rw [ne] at this
        cases this
    -- the rows
    refine ⟨_, rfl, high, rfl, by omega, by omega, for_range (lo := 0) (n := high.toNat) (fun i σ H' => ∃ (y8 : Option V) (xs : List V) (cs : List Cell),
      σ = [some (.ref p), some (.int m), some (.int mode), some (.int wide), some (.int high), some (.int top), some (.int left), some (.ref e), y8, none, none, none, none] ∧
      KeepX p H H' ∧ PoolO (H' p) ∧ H' e = some (.lst xs) ∧ CellsAt K H' xs cs ∧ cs.Pairwise lt2 ∧ (∀ c ∈ cs, top ≤ c.1 ∧ c.1 < top + i ∧ left ≤ c.2 ∧ c.2 < left + wide) ∧ i ≤ cs.length ∧ cs.length ≤ 8 * i) ?_ ?_ ?_⟩
    · refine ⟨none, [], [], rfl, (kx6.trans (.of_same s7)).trans (.of_same s8), po8, he8, .nil, .nil, (fun c hc => nomatch hc), Nat.le_refl _, Nat.le_refl _⟩
    · rintro i σ H' hi ⟨y8, xs, cs, rfl, kx, po', he, hc, pw, bd, c0, c1⟩
      have hi' : (i : Int) < high := by omega
      have hlen := Paired.length hc
      refine ⟨_, rfl, .inl ⟨rfl, _, SqL.of he⟩, _, rfl, wide, rfl, by omega, by omega, fun d nd2 => ?_⟩
      have ned : e ≠ d := ne_of_none he nd2
      have npd : p ≠ d := po'.ne nd2
      refine lc_range (lo := 0) (n := wide.toNat) (fun j H2 => ∃ acc : List V, H2 d = some (.lst acc) ∧ CellsAt K H2 acc (rowCells (top + i) left j) ∧ (∀ b o, b ≠ d → H' b = some o → H2 b = some o)) ?_ ?_ ?_
      · exact ⟨[], upd_same, .nil, fun b o n z => by rw [upd_ne n]; exact z⟩
      · rintro j H2 hj ⟨acc, a1, a2, a3⟩
        refine ⟨rfl, _, rfl, _, rfl, _, _, rfl, rfl, _, rfl, _, rfl, _, _, rfl, rfl, (by show 2 ≤ sizeLine; decide), fun t nt => ?_⟩
        have ndt : d ≠ t := ne_of_none a1 nt
        have st := same_new (o := .tup [.int (top + (0 + (i : Int))), .int (left + (0 + (j : Int)))]) nt
        have hal : acc.length = j := by
          rw [Paired.length a2, rowCells_len]
        refine ⟨acc, st _ _ a1, small64 (by omega), acc ++ [.ref t], upd_same, ?_, fun b o n z => ?_⟩
        · rw [rowCells_succ]
          refine paired_append (cells_kt ((KT.of_same st).trans (KT.upd (st _ _ a1))) a2) (.cons ⟨t, rfl, SqT.of ?_⟩ .nil)
          rw [upd_ne (Ne.symm ndt), upd_same, Int.zero_add, Int.zero_add]
        · rw [upd_ne n]
          exact st _ _ (a3 b o n z)
      · rintro H2 ⟨acc, a1, a2, a3⟩
        have hw' : (wide.toNat : Int) = wide := Int.toNat_of_nonneg (by omega)
        have hal : acc.length = wide.toNat := by
          rw [Paired.length a2, rowCells_len]
        have kt2 : KT K H' H2 := KT.of_same fun b o z => a3 b o (ne_of_none z nd2) z
        have he2 := a3 _ _ ned he
        refine ⟨e, d, xs, acc, rfl, rfl, he2, a1, by
          rw [sizeLine_eq]
          omega, ?_⟩
        refine ⟨_, xs ++ acc, cs ++ rowCells (top + i) left wide.toNat, rfl, ?_, ?_, upd_same, ?_, ?_, ?_, ?_, ?_⟩
        · intro b o n z
          have nbe : b ≠ e := ne_of_none z heH
          rw [upd_ne nbe]
          have z' := kx b o n z
          exact a3 b o (ne_of_none z' nd2) z'
        · rw [upd_ne (Ne.symm nep)]
          obtain ⟨x1, x2, x3, x4, x5⟩ := po'
          exact ⟨x1, x2, x3, a3 _ _ npd x4, x5⟩
        · exact cells_kt (KT.upd he2) (paired_append (cells_kt kt2 hc) a2)
        · rw [List.pairwise_append]
          refine ⟨pw, rowCells_asc _ _ _, fun x hx y hy => ?_⟩
          have b1 := bd x hx
          have b2 := rowCells_mem hy
          exact .inl (by omega)
        · intro c hc'
          rcases List.mem_append.mp hc' with z | z
          · have := bd c z
            omega
          · have := rowCells_mem z
            omega
        · rw [List.length_append, rowCells_len]
          omega
        · rw [List.length_append, rowCells_len]
          omega
    · rintro σ H' ⟨y8, xs, cs, rfl, kx, po', he, hc, pw, bd, c0, c1⟩
      have hh' : (high.toNat : Int) = high := Int.toNat_of_nonneg (by omega)
      have hst : PlSt K p H m mode wide high top left [some (.ref p), some (.int m), some (.int mode), some (.int wide), some (.int high), some (.int top), some (.int left), some (.ref e), y8, none, none, none, none] H' :=
        ⟨⟨e, xs, cs, y8, none, none, rfl, heH, nep, he, hc, ⟨pw, fun c z => by
          have := bd c z
          exact ⟨by omega, by omega, by omega, by omega⟩, fun z => by
          subst z
          have : high.toNat ≤ 0 := c0
          omega⟩, by omega⟩, kx, po'⟩
      refine fil_if hst (fun t c => draw_test hst (by decide) (by decide) t c) (fun σ1 G1 h1' => ?_)
      refine fil_if h1' (fun t c => draw_test h1' (by decide) (by decide) t c) (fun σ2 G2 h2' => ?_)
      refine fil3_if h2' (fun σ3 G3 h3' => ?_)
      -- while len(every) > most
      refine ⟨fun n σ G => ∃ (e : Addr) (xs : List V) (cs : List Cell) (y8 y9 y10 : Option V),
        σ = [some (.ref p), some (.int m), some (.int mode), some (.int wide), some (.int high), some (.int top), some (.int left), some (.ref e), y8, y9, y10, none, none] ∧
        H e = none ∧ e ≠ p ∧ G e = some (.lst xs) ∧ CellsAt K G xs cs ∧ Good cs ∧ cs.length ≤ 64 ∧ KeepX p H G ∧ PoolO (G p) ∧ n = xs.length, ?_, ?_⟩
      · obtain ⟨⟨e, xs, cs, y8, y9, y10, es, he0, hep, he, hc, gd, hl⟩, kx, po⟩ := h3'
        exact ⟨xs.length, e, xs, cs, y8, y9, y10, es, he0, hep, he, hc, gd, hl, kx, po, rfl⟩
      · rintro n σ4 G4 ⟨e4, xs4, cs4, y8, y9, y10, rfl, he0, hep, he4, hc4, gd4, hl4, kx4, po4', rfl⟩
        have hlen := Paired.length hc4
        refine ⟨_, rfl, e4, xs4, rfl, .inl (SqL.of he4), _, rfl, _, _, rfl, rfl, _, rfl, ite2 (fun c => ?_) (fun c => ?_)⟩
        · have c' : m < (xs4.length : Int) := of_decide_eq_true c
          refine ⟨fun σ' G' => ∃ n', n' < xs4.length ∧ ∃ (e : Addr) (xs : List V) (cs : List Cell) (y8 y9 y10 : Option V),
            σ' = [some (.ref p), some (.int m), some (.int mode), some (.int wide), some (.int high), some (.int top), some (.int left), some (.ref e), y8, y9, y10, none, none] ∧
            H e = none ∧ e ≠ p ∧ G' e = some (.lst xs) ∧ CellsAt K G' xs cs ∧ Good cs ∧ cs.length ≤ 64 ∧ KeepX p H G' ∧ PoolO (G' p) ∧ n' = xs.length, fun σ' G' z => z, ?_⟩
          refine ⟨_, rfl, .inl ⟨rfl, _, SqL.of he4⟩, _, rfl, _, rfl, e4, xs4, rfl, .inl (SqL.of he4), p, _, rfl, po4', by omega, by omega, fun G5 r k5 po5 r0 r1 => ?_⟩
          have hr' : ((r.toNat : Nat) : Int) = r := Int.toNat_of_nonneg r0
          have hlt : r.toNat < xs4.length := by omega
          have he5 := k5 _ _ hep he4
          refine ⟨e4, xs4, r, r.toNat, xs4[r.toNat], rfl, rfl, he5, by omega, by omega, ?_, List.getElem?_eq_getElem hlt, ?_⟩
          · unfold seqIndex?
            have e1 : ¬ r < 0 := by omega
            simp only [if_neg e1]
            rw [if_pos]
            simp only [Bool.and_eq_true, decide_eq_true_eq]
            exact ⟨r0, r1⟩
          · have hel : (xs4.eraseIdx r.toNat).length = xs4.length - 1 := List.length_eraseIdx_of_lt hlt
            have hpe := paired_erase r.toNat hc4
            have hsub := List.eraseIdx_sublist cs4 r.toNat
            refine ⟨(xs4.eraseIdx r.toNat).length, by omega, e4, _, cs4.eraseIdx r.toNat, y8, y9, y10, rfl, he0, hep, upd_same, cells_kt ((KT.of_keepX po4' k5).trans (KT.upd he5)) hpe,
              ⟨gd4.asc.sublist hsub, fun c hc => gd4.grid c (hsub.subset hc), fun z => ?_⟩, Nat.le_trans hsub.length_le hl4, ?_, ?_, rfl⟩
            · have q1 := Paired.length hpe
              rw [z, hel] at q1
              have : xs4.length - 1 = 0 := q1
              omega
            · intro b o n z
              rw [upd_ne (ne_of_none z he0)]
              exact k5 _ _ n (kx4 _ _ n z)
            · rw [upd_ne (Ne.symm hep)]
              exact po5
        · have c' : ¬ m < (xs4.length : Int) := fun z => c (decide_eq_true z)
          refine ⟨_, rfl, e4, xs4, rfl, .inl ⟨SqL.of he4, fun l nl => ?_⟩⟩
          have sl := same_new (o := .tup xs4) nl
          refine q _ l cs4 (kx4.trans (.of_same sl)) (po4'.same sl) ⟨xs4, SqT.of upd_same, cells_kt (.of_same sl) hc4⟩ gd4 (by omega) ?_
          cases z : H l with
          | none => rfl
          | some o =>
            have := kx4 l o (Ne.symm (po4'.ne nl)) z
            rw [nl] at this
            cases this
end
end KS
namespace KS
open PySem PySem.Spec PyProof.Rows L2
theorem tyx_tup {K : PySem.W.Frag} {H : Hp} {a : Addr} {xs : List V} (h : SqT K H a xs) : TyX K H (.ref a) (.type "tuple") := by
  rcases h with (h | ⟨o, h⟩) | h
  · exact .base (.tup h)
  · exact .fTuple h
  · obtain ⟨o, its, n, e, c, r⟩ := h
    exact .kTuple e c
theorem bl_true {p : Prop} [Decidable p] (h : p) : V.bl (decide p) = V.bl true := by rw [decide_eq_true h]
theorem bl_false {p : Prop} [Decidable p] (h : ¬ p) : V.bl (decide p) = V.bl false := by rw [decide_eq_false h]
/-- a number of a row or column -/
def Place (v : Int) : Prop := 0 ≤ v ∧ v ≤ 7
def spWhole : Sp := fun vs H Q _ => ∃ i : Int, vs = [.int i] ∧ Q (.bl true) H
def spBetween : Sp := fun vs H Q _ => ∃ i lo hi : Int, vs = [.int i, .int lo, .int hi] ∧ lo ≤ i ∧ i ≤ hi ∧ Q (.bl true) H
def spPlace : Sp := fun vs H Q _ => ∃ i : Int, vs = [.int i] ∧ Place i ∧ Q (.bl true) H
def spIsCell (K : PySem.W.Frag) : Sp := fun vs H Q _ => ∃ (a : Addr) (c : Cell), vs = [.ref a] ∧ SqT K H a [.int c.1, .int c.2] ∧ InGrid c ∧ Q (.bl true) H
def spCheck (K : PySem.W.Frag) : Sp := fun vs H Q _ => ∃ (a : Addr) (cs : List Cell), vs = [.ref a] ∧ PlanAt K H a cs ∧ Good cs ∧ cs.length ≤ 24 ∧ ∀ H', Same H H' → Q .non H'
theorem good_step {cs : List Cell} (g : cs.Pairwise lt2) {i : Nat} {a b : Cell} (h1 : cs[i]? = some a) (h2 : cs[i + 1]? = some b) : lt2 a b := by
  obtain ⟨l1, e1⟩ := List.getElem?_eq_some_iff.mp h1
  obtain ⟨l2, e2⟩ := List.getElem?_eq_some_iff.mp h2
  have := (List.pairwise_iff_getElem.mp g) i (i + 1) l1 l2 (by omega)
  rw [e1, e2] at this
  exact this
theorem not_le2 {a b : Cell} (h : lt2 a b) : Ob.lexAt (fun j => decide (([b.1, b.2] : List Int).getD j 0 = ([a.1, a.2] : List Int).getD j 0)) (fun j => decide (([b.1, b.2] : List Int).getD j 0 ≤ ([a.1, a.2] : List Int).getD j 0)) (decide (([b.1, b.2] : List Int).length ≤ ([a.1, a.2] : List Int).length)) 0 (min ([b.1, b.2] : List Int).length ([a.1, a.2] : List Int).length) = false := by
  show Ob.lexAt _ _ _ 0 2 = false
  rw [Ob.lexAt_succ, Ob.lexAt_succ]
  show (if decide (b.1 = a.1) = true then (if decide (b.2 = a.2) = true then _ else decide (b.2 ≤ a.2)) else decide (b.1 ≤ a.1)) = false
  rcases h with h | ⟨h1, h2⟩
  · rw [if_neg (by simp; omega)]
    simp
    omega
  · rw [if_pos (by simp; omega), if_neg (by simp; omega)]
    simp
    omega
end KS
namespace KS
open PySem PySem.Spec PyProof.Rows L2
abbrev sWhole : Stmt := topS 6
abbrev sBetween : Stmt := topS 7
abbrev sPlace : Stmt := topS 8
abbrev sIsCell : Stmt := topS 9
abbrev sCheck : Stmt := topS 10
theorem scWhole : FnScope ["value"] ["value"] (defScope sWhole) := ⟨rfl, rfl, rfl, by decide +kernel, rfl, by decide +kernel, by decide +kernel⟩
theorem scBetween : FnScope ["value", "least", "most"] ["value", "least", "most"] (defScope sBetween) := ⟨rfl, rfl, rfl, by decide +kernel, rfl, by decide +kernel, by decide +kernel⟩
theorem scPlace : FnScope ["value"] ["value"] (defScope sPlace) := ⟨rfl, rfl, rfl, by decide +kernel, rfl, by decide +kernel, by decide +kernel⟩
theorem scIsCell : FnScope ["value"] ["value"] (defScope sIsCell) := ⟨rfl, rfl, rfl, by decide +kernel, rfl, by decide +kernel, by decide +kernel⟩
theorem scCheck : FnScope ["plan", "index", "cell"] ["plan"] (defScope sCheck) := ⟨rfl, rfl, rfl, by decide +kernel, rfl, by decide +kernel, by decide +kernel⟩
section
variable {P : Program} {w : World} {K : PySem.W.Frag} {mg : Str → Option Value} {base : Heap}
theorem ok_whole {f : Addr} {fd : FuncData} (F : Fun K "is_whole" "is_whole" sWhole f fd) (mi : mg "isinstance" = none) (mI : mg "int" = none) (mB : mg "bool" = none) : FnOk P w K mg base CX0 1 f fd ["value"] spWhole := by
  refine F.ok scWhole (fun vs H Q E h => ?_) (fun cdv A outer s H vs Q E hr h => ?_)
  · obtain ⟨i, rfl, _⟩ := h
    rfl
  · obtain ⟨i, rfl, q⟩ := h
    refine ⟨_, pss_one (ps_ret (pe_and (pe_callB call_isi (by rfl) mi (by decide +kernel) (pa_cons (pv 0) (pa_cons (pe_bltn (v := .ty "int") (by rfl) mI (by decide +kernel) rfl) pa_nil)))
      (pe_one (pe_not (pe_callB call_isi (by rfl) mi (by decide +kernel) (pa_cons (pv 0) (pa_cons (pe_bltn (v := .ty "bool") (by rfl) mB (by decide +kernel) rfl) pa_nil))))))), ?_⟩
    refine ⟨_, rfl, _, _, _, _, true, rfl, .ty "int", .base (.int i), kit_ty (by decide +kernel), true, rfl, ?_⟩
    refine ⟨_, rfl, _, _, _, _, false, rfl, .ty "bool", .base (.int i), kit_ty (by decide +kernel), false, rfl, ?_⟩
    exact q
theorem ok_between {f fW : Addr} {fd fdW : FuncData} (F : Fun K "is_between" "is_between" sBetween f fd) (GW : FnOk P w K mg base CX0 1 fW fdW ["value"] spWhole) (bW : Binds K fdW ["value"] []) (gW : mg "is_whole" = some (.ref fW)) (kW : PySem.W.keepIn K (.ref fW) = true) :
    FnOk P w K mg base CX0 2 f fd ["value", "least", "most"] spBetween := by
  refine F.ok scBetween (fun vs H Q E h => ?_) (fun cdv A outer s H vs Q E hr h => ?_)
  · obtain ⟨i, lo, hi, rfl, _⟩ := h
    rfl
  · obtain ⟨i, lo, hi, rfl, h1, h2, q⟩ := h
    refine ⟨_, pss_one (ps_ret (pe_and (pe_call GW hr (by rfl) gW kW bW .nil pass0 (pa_cons (pv 0) pa_nil)) (pe_one (pe_chain op_le op_le (pv 1) (pv 0) (pv 2))))), ?_⟩
    refine ⟨_, rfl, i, rfl, true, rfl, ?_⟩
    refine ⟨_, rfl, _, rfl, _, _, rfl, rfl, true, bl_true h1, ?_⟩
    refine ⟨_, rfl, _, _, rfl, rfl, ?_⟩
    show Q (V.bl (decide (i ≤ hi))) H
    rw [bl_true h2]
    exact q
theorem ok_place {f fB : Addr} {fd fdB : FuncData} {t : Tok} (F : Fun K "is_place" "is_place" sPlace f fd) (GB : FnOk P w K mg base CX0 2 fB fdB ["value", "least", "most"] spBetween) (bB : Binds K fdB ["value", "least", "most"] []) (gB : mg "is_between" = some (.ref fB)) (kB : PySem.W.keepIn K (.ref fB) = true)
    (mM : mg "MOST_INDEX" = some (.int 7 t)) : FnOk P w K mg base CX0 3 f fd ["value"] spPlace := by
  refine F.ok scPlace (fun vs H Q E h => ?_) (fun cdv A outer s H vs Q E hr h => ?_)
  · obtain ⟨i, rfl, _⟩ := h
    rfl
  · obtain ⟨i, rfl, hp, q⟩ := h
    refine ⟨_, pss_one (ps_ret (pe_call GB hr (by rfl) gB kB bB .nil pass0 (pa_cons (pv 0) (pa_cons pe_int (pa_cons (pe_glob (v := .int 7) (by rfl) mM ⟨_, rfl⟩) pa_nil))))), ?_⟩
    exact ⟨_, rfl, i, 0, 7, rfl, hp.1, hp.2, q⟩
theorem ok_isCell {f fP : Addr} {fd fdP : FuncData} (F : Fun K "is_cell" "is_cell" sIsCell f fd) (GP : FnOk P w K mg base CX0 3 fP fdP ["value"] spPlace) (bP : Binds K fdP ["value"] []) (gP : mg "is_place" = some (.ref fP)) (kP : PySem.W.keepIn K (.ref fP) = true)
    (mi : mg "isinstance" = none) (mT : mg "tuple" = none) (ml : mg "len" = none) : FnOk P w K mg base CX0 4 f fd ["value"] (spIsCell K) := by
  refine F.ok scIsCell (fun vs H Q E h => ?_) (fun cdv A outer s H vs Q E hr h => ?_)
  · obtain ⟨a, c, rfl, _⟩ := h
    rfl
  · obtain ⟨a, c, rfl, ht, hg, q⟩ := h
    refine ⟨_, pss_one (ps_ret (pe_and (pe_callB call_isi (by rfl) mi (by decide +kernel) (pa_cons (pv 0) (pa_cons (pe_bltn (v := .ty "tuple") (by rfl) mT (by decide +kernel) rfl) pa_nil)))
      (pe_and (pe_cmpR op_eq (pe_callB call_len_seq (by rfl) ml PySem.boot_len (pa_cons (pv 0) pa_nil)) pe_int (nomark _))
      (pe_and (pe_call GP hr (by rfl) gP kP bP .nil pass0 (pa_cons (pe_ix ix_tup (pv 0) pe_int (fun _ _ => rfl)) pa_nil))
      (pe_one (pe_call GP hr (by rfl) gP kP bP .nil pass0 (pa_cons (pe_ix ix_tup (pv 0) pe_int (fun _ _ => rfl)) pa_nil))))))), ?_⟩
    refine ⟨_, rfl, _, _, _, _, true, rfl, .ty "tuple", tyx_tup ht, kit_ty (by decide +kernel), true, rfl, ?_⟩
    refine ⟨_, rfl, a, _, rfl, .inr ht, rfl, true, rfl, ?_⟩
    refine ⟨_, rfl, a, _, 0, .int c.1, rfl, rfl, ht, rfl, c.1, rfl, ⟨hg.1, hg.2.1⟩, true, rfl, ?_⟩
    exact ⟨_, rfl, a, _, 1, .int c.2, rfl, rfl, ht, rfl, c.2, rfl, ⟨hg.2.2.1, hg.2.2.2⟩, q⟩
theorem ok_check {f fI : Addr} {fd fdI : FuncData} {t : Tok} (F : Fun K "check_plan" "check_plan" sCheck f fd) (GI : FnOk P w K mg base CX0 4 fI fdI ["value"] (spIsCell K)) (bI : Binds K fdI ["value"] []) (gI : mg "is_cell" = some (.ref fI)) (kI : PySem.W.keepIn K (.ref fI) = true)
    (mi : mg "isinstance" = none) (mT : mg "tuple" = none) (ml : mg "len" = none) (me : mg "enumerate" = none) (mM : mg "MOST_CELLS" = some (.int 24 t)) : FnOk P w K mg base CX0 5 f fd ["plan"] (spCheck K) := by
  refine F.ok scCheck (fun vs H Q E h => ?_) (fun cdv A outer s H vs Q E hr h => ?_)
  · obtain ⟨a, c, rfl, _⟩ := h
    rfl
  · obtain ⟨a, cs, rfl, ⟨xs, hx, hc⟩, gd, hl, q⟩ := h
    have nd := scCheck.nd
    refine ⟨_, pss_cons (ps_if (PW.pt (pw_or (pt_not (pt_val (pe_callB call_isi (by rfl) mi (by decide +kernel) (pa_cons (pv 0) (pa_cons (pe_bltn (v := .ty "tuple") (by rfl) mT (by decide +kernel) rfl) pa_nil)))))
          (pw_or1 (pt_not (pt_chain op_le op_le pe_int (pe_callB call_len_seq (by rfl) ml PySem.boot_len (pa_cons (pv 0) pa_nil)) (pe_glob (v := .int 24) (by rfl) mM ⟨_, rfl⟩))))))
        (pss_one ps_never) pss_nil)
      (pss_one (ps_for PassesOwn.never rfl (pi_enumT (by rfl) me (pa_cons (pv 0) pa_nil)) (pg_tup (by rfl) (pgs_cons (pg_name (i := 1) nd rfl (.inl rfl)) (pgs_cons (pg_name (i := 2) nd rfl (.inl rfl)) pgs_nil)))
        (pss_cons (ps_if (pt_not (pt_val (pe_call GI hr (by rfl) gI kI bI .nil pass0 (pa_cons (pv 2) pa_nil)))) (pss_one ps_never) pss_nil)
        (pss_one (ps_if (PW.pt (pw_and (pt_cmpR op_gt (pv 1) pe_int (nomark _)) (pw_and1 (pt_cmpR (op_leT hr.units0) (pv 2) (pe_ix ix_tup (pv 0) (pe_op op_sub (pv 1) pe_int) (fun _ _ => rfl)) (nomark _))))) (pss_one ps_never) pss_nil))))), ?_⟩
    have hlen := Paired.length hc
    have h1 : 1 ≤ xs.length := by
      rcases Nat.eq_zero_or_pos cs.length with z | z
      · exact absurd (List.eq_nil_of_length_eq_zero z) gd.ne
      · omega
    refine ⟨_, rfl, _, _, _, _, true, rfl, .ty "tuple", tyx_tup hx, kit_ty (by decide +kernel), true, rfl, ?_⟩
    refine ⟨_, rfl, a, _, rfl, .inr hx, _, _, rfl, rfl, true, bl_true (show (1 : Int) ≤ (xs.length : Int) by omega), ?_⟩
    refine ⟨_, _, rfl, rfl, true, bl_true (show (xs.length : Int) ≤ 24 by omega), ?_⟩
    refine ⟨_, rfl, a, xs, rfl, hx, for_enumT (K := K) (a := a) (xs := xs) (fun i σ H' => Same H H' ∧ ∃ y1 y2, σ = [some (.ref a), y1, y2]) ?_ ?_ ?_ ?_⟩
    · exact ⟨Same.refl _, none, none, rfl⟩
    · rintro i σ H' _ ⟨sm, _⟩
      exact same_seqT sm hx
    · rintro i x σ H' T hi ⟨sm, y1, y2, rfl⟩ nT
      obtain ⟨c, hci, tt, rfl, ht⟩ := paired_get hc hi
      have sT := same_new (o := .tup [.int (i : Nat), .ref tt]) nT
      have s2 := sm.trans sT
      refine ⟨T, _, rfl, SqT.of upd_same, rfl, _, _, rfl, _, _, rfl, rfl, ?_⟩
      refine ⟨_, rfl, tt, c, rfl, same_seqT s2 ht, gd.grid c (List.mem_of_getElem? hci), true, rfl, ?_⟩
      refine ⟨_, rfl, _, _, rfl, rfl, _, rfl, ite2 (fun e => ?_) (fun e => ?_)⟩
      · have e' : (0 : Int) < (i : Int) := of_decide_eq_true e
        obtain ⟨j, rfl⟩ : ∃ j, i = j + 1 := ⟨i - 1, by omega⟩
        have hj : j < xs.length := by
          have := (List.getElem?_eq_some_iff.mp hi).1
          omega
        obtain ⟨c0, hc0, t0, e0, ht0⟩ := paired_get hc (List.getElem?_eq_getElem hj)
        have gx : xs[j]? = some (.ref t0) := by rw [List.getElem?_eq_getElem hj, e0]
        have ej : ((j + 1 : Nat) : Int) - 1 = ((j : Nat) : Int) := by omega
        refine ⟨_, rfl, _, rfl, _, rfl, _, _, rfl, rfl, a, xs, _, .ref t0, rfl, rfl, same_seqT s2 hx, ?_, tt, t0, [c.1, c.2], [c0.1, c0.2], rfl, rfl, same_seqT s2 ht, same_seqT s2 ht0, false, ?_, ?_⟩
        · show atI xs (((j + 1 : Nat) : Int) - 1) = _
          rw [ej]
          exact atI_nat gx
        · rw [not_le2 (good_step gd.asc hc0 hci)]
        · exact ⟨s2, _, _, rfl⟩
      · exact ⟨s2, _, _, rfl⟩
    · rintro σ H' ⟨sm, _⟩
      exact q H' sm
end
end KS
namespace KS
open PySem PySem.Spec PyProof.Rows L2
/-! ### f(k = v, ..), keywords alone -/
structure KwBinds (fd : FuncData) (ps ks : List Str) (g : List Value → List Value) (gV : List V → List V) : Prop where
  to : ∀ (s : Shared) (ws : List Value), (g ws).length = ps.length → BindsTo s fd ⟨[], ks.zip ws⟩ (ps.zip (g ws))
  rel : ∀ {zs : List V} {ws : List Value}, Vals zs ws → Vals (gV zs) (g ws)
def tCallKw (sp : Sp) (gV : List V → List V) (E : XK) (tk : TA) : TE := fun σ H Q => tk σ H fun zs H2 => sp (gV zs) H2 Q E
section
variable {X : Cx} {CX : CXT} {k : Nat} {f : Addr} {fd : FuncData} {ps ks : List Str} {sp : Sp} {E : XK} {x : Str} {p pos : Pos} {kws : List Keyword} {tk : TA} {g : List Value → List Value} {gV : List V → List V}
theorem pe_callKw (F : FnOk X.prog X.w X.K X.mg X.base CX k f fd ps sp) (hr : Room k X.A) (hg : Gl X x) (hm : X.mg x = some (.ref f)) (hk : PySem.W.keepIn X.K (.ref f) = true) (hb : KwBinds fd ps ks g gV)
    (hx : Passes CX X E) (hkw : PK X kws tk) (hall : (backToKw pos (keywordEach kws X.env)).all (·.1.isSome) = true := by rfl)
    (hks : (backToKw pos (keywordEach kws X.env)).filterMap (·.1) = ks := by rfl) (hdb : (x == ("__debug__" : Str)) = false := by decide)
    (hpl : ((backTo pos (starEach [] X.env)).any (·.1) || (backToKw pos (keywordEach kws X.env)).any (·.1.isNone)) = false := by rfl) :
    PE X (.Call (.Name x p) [] kws pos) (tCallKw sp gV E tk) := by
  refine ⟨fun pins s σ H Q I h => wpAny_Call_Name_kw (ld_glob I hg hm ?_ hdb)⟩
  refine PySem.W.callWith_KW0 (h₀ := X.base) I.ok.mod.kin hk hall ?_ hpl
  refine thn (hkw.run pos pins s σ H _ I h) fun ws s2 hh => ?_
  obtain ⟨zs, H2, I2, rz, q2⟩ := hh
  refine ⟨I2.kIn, ?_⟩
  rw [hks]
  have r2 := hb.rel rz
  have hl : (g ws).length = ps.length := by
    rw [← r2.length]
    exact F.len _ _ _ _ q2
  show wpAny _ _ (call (.ref f) [] (ks.zip ws)) _ _ _
  refine wpAny_call (codeAny_mono (F.run X.A X.stack s2 H2 ⟨[], ks.zip ws⟩ (g ws) (gV zs) Q E hr I2.env0 (hb.to s2 ws hl) r2 q2) fun z s' hq => ?_)
  cases z with
  | error e => exact hx pins σ H2 s2 e s' I2 hq
  | ok fl =>
    cases fl with
    | ret u => exact I2.after hq
    | next => cases hq
    | brk => cases hq
    | cont => cases hq
end
theorem kw_binds {K : PySem.W.Frag} {x qual : Str} {st : Stmt} {f : Addr} {fd : FuncData} {ps ks : List Str} {g : List Value → List Value} {gV : List V → List V} (F : Fun K x qual st f fd)
    (h : ∀ (kV doc pm : Value) (an : Option Addr) (cdv ct : Value) (ws : List Value), (g ws).length = ps.length →
      bindArgs (PySem.W.fnOf x qual (defArgs st) (defBody st) (defScope st) .none kV doc pm an cdv ct) ⟨[], ks.zip ws⟩ = pure (ps.zip (g ws)))
    (rel : ∀ {zs : List V} {ws : List Value}, Vals zs ws → Vals (gV zs) (g ws)) : KwBinds fd ps ks g gV := by
  obtain ⟨oc, od, kV, doc, pm, an, cdv, ct, osl, rfl, lk, hcd⟩ := F.ex
  exact ⟨fun s ws hl => .of_eq (h kV doc pm an cdv ct ws hl), rel⟩
/-- two keywords, in the other order -/
def swap2 {α : Type} : List α → List α
  | [a, b] => [b, a]
  | _ => []
theorem swap2_rel {zs : List V} {ws : List Value} (r : Vals zs ws) : Vals (swap2 zs) (swap2 ws) := by
  cases r with
  | nil => exact .nil
  | cons r1 r2 =>
    cases r2 with
    | nil => exact .nil
    | cons r3 r4 =>
      cases r4 with
      | nil => exact .cons r3 (.cons r1 .nil)
      | cons _ _ => exact .nil
/-! ### lines, as numbers -/
/-- row (false) or column (true) of a cell -/
def pick (b : Bool) (c : Cell) : Int := if b = true then c.2 else c.1
/-- the indexes below i of cells in line r -/
def idxs (b : Bool) (cs : List Cell) (i : Nat) (r : Int) : List Int := ((List.range i).filter fun j => decide ((cs[j]?).map (pick b) = some r)).map fun (j : Nat) => (j : Int)
theorem idxs_zero (b : Bool) (cs : List Cell) (r : Int) : idxs b cs 0 r = [] := rfl
theorem idxs_hit {b : Bool} {cs : List Cell} {i : Nat} {c : Cell} (h : cs[i]? = some c) : idxs b cs (i + 1) (pick b c) = idxs b cs i (pick b c) ++ [(i : Int)] := by
  unfold idxs
  rw [List.range_succ, List.filter_append, List.map_append]
  congr 1
  rw [List.filter_cons_of_pos (by simp [h])]
  rfl
theorem idxs_miss {b : Bool} {cs : List Cell} {i : Nat} {c : Cell} {r : Int} (h : cs[i]? = some c) (n : pick b c ≠ r) : idxs b cs (i + 1) r = idxs b cs i r := by
  unfold idxs
  rw [List.range_succ, List.filter_append, List.map_append]
  rw [List.filter_cons_of_neg (by simp [h, n])]
  simp
def lnsOf (b : Bool) (cs : List Cell) : List (List Int) := ((List.range 8).map fun (r : Nat) => idxs b cs cs.length (r : Int)).filter fun l => decide (l ≠ [])
theorem idxs_mem {b : Bool} {cs : List Cell} {i : Nat} {r x : Int} (h : x ∈ idxs b cs i r) : 0 ≤ x ∧ x < (i : Int) := by
  unfold idxs at h
  obtain ⟨j, hj, rfl⟩ := List.mem_map.mp h
  have := List.mem_range.mp (List.mem_filter.mp hj).1
  omega
theorem idxs_len (b : Bool) (cs : List Cell) (i : Nat) (r : Int) : (idxs b cs i r).length ≤ i := by
  unfold idxs
  rw [List.length_map]
  exact Nat.le_trans (List.length_filter_le _ _) (by simp)
theorem idxs_grid {b : Bool} {cs : List Cell} {i : Nat} {r : Int} (g : ∀ c ∈ cs, InGrid c) (h : idxs b cs i r ≠ []) : 0 ≤ r ∧ r < 8 := by
  cases e : idxs b cs i r with
  | nil => exact absurd e h
  | cons x l =>
    have hx : x ∈ idxs b cs i r := by
      rw [e]
      exact List.mem_cons_self
    unfold idxs at hx
    obtain ⟨j, hj, rfl⟩ := List.mem_map.mp hx
    have q := of_decide_eq_true (List.mem_filter.mp hj).2
    cases z : cs[j]? with
    | none =>
      rw [z] at q
      cases q
    | some c =>
      rw [z] at q
      have q' : pick b c = r := Option.some.inj q
      have gc := g c (List.mem_of_getElem? z)
      unfold pick at q'
      unfold InGrid at gc
      split at q' <;> omega
/-- two strictly ascending lists with the same members are one -/
theorem asc_ext : ∀ {l m : List Int}, l.Pairwise (· < ·) → m.Pairwise (· < ·) → (∀ x, x ∈ l ↔ x ∈ m) → l = m
  | [], [], _, _, _ => rfl
  | [], y :: m, _, _, h => absurd ((h y).mpr List.mem_cons_self) (by simp)
  | x :: l, [], _, _, h => absurd ((h x).mp List.mem_cons_self) (by simp)
  | x :: l, y :: m, h1, h2, h => by
    rw [List.pairwise_cons] at h1 h2
    have e : x = y := by
      rcases List.mem_cons.mp ((h x).mp List.mem_cons_self) with z | z
      · exact z
      · rcases List.mem_cons.mp ((h y).mpr List.mem_cons_self) with z2 | z2
        · exact z2.symm
        · have a := h2.1 x z
          have b := h1.1 y z2
          omega
    subst e
    congr 1
    refine asc_ext h1.2 h2.2 fun z => ⟨fun hz => ?_, fun hz => ?_⟩
    · rcases List.mem_cons.mp ((h z).mp (List.mem_cons_of_mem _ hz)) with e | e
      · have := h1.1 z hz
        omega
      · exact e
    · rcases List.mem_cons.mp ((h z).mpr (List.mem_cons_of_mem _ hz)) with e | e
      · have := h2.1 z hz
        omega
      · exact e
theorem strict_of {l : List Int} (h : l.Pairwise (· ≤ ·)) (n : l.Nodup) : l.Pairwise (· < ·) := by
  rw [List.nodup_iff_pairwise_ne] at n
  exact (h.and n).imp fun {a b} q => by omega
/-- the lines in use, by number -/
def usedOf (b : Bool) (cs : List Cell) : List Int := ((List.range 8).map fun (r : Nat) => (r : Int)).filter fun r => decide (idxs b cs cs.length r ≠ [])
theorem used_asc (b : Bool) (cs : List Cell) : (usedOf b cs).Pairwise (· < ·) := by
  unfold usedOf
  exact List.Pairwise.sublist List.filter_sublist (by decide)
theorem used_lines (b : Bool) (cs : List Cell) : (usedOf b cs).map (fun r => idxs b cs cs.length r) = lnsOf b cs := by
  unfold usedOf lnsOf
  rw [List.filter_map, List.filter_map, List.map_map]
  rfl
theorem used_mem {b : Bool} {cs : List Cell} (g : ∀ c ∈ cs, InGrid c) (r : Int) : r ∈ usedOf b cs ↔ idxs b cs cs.length r ≠ [] := by
  unfold usedOf
  rw [List.mem_filter]
  refine ⟨fun h => of_decide_eq_true h.2, fun h => ⟨?_, decide_eq_true h⟩⟩
  have := idxs_grid g h
  rw [List.mem_map]
  exact ⟨r.toNat, List.mem_range.mpr (by omega), by omega⟩
/-! ### lines, in the heap -/
def TupI (K : PySem.W.Frag) (H : Hp) (x : V) (l : List Int) : Prop := ∃ t, x = .ref t ∧ SqT K H t (l.map V.int)
def LstI (H : Hp) (x : V) (l : List Int) : Prop := ∃ t, x = .ref t ∧ H t = some (.lst (l.map V.int))
abbrev lineD (l : List Int) : PyData := .tuple (l.map PyData.int)
abbrev linesD (ls : List (List Int)) : PyData := .tuple (ls.map lineD)
theorem dp_ints {K : PySem.W.Frag} {H : Hp} : ∀ l : List Int, DpAll K H (l.map V.int) (l.map PyData.int)
  | [] => .nil
  | x :: l => .cons (.int x) (dp_ints l)
theorem dp_lines {K : PySem.W.Frag} {H : Hp} : ∀ {xs : List V} {ls : List (List Int)}, Paired (TupI K H) xs ls → DpAll K H xs (ls.map lineD)
  | _, _, .nil => .nil
  | _, _, .cons ⟨t, e, h⟩ r => by
    subst e
    exact .cons (.tup h (dp_ints _)) (dp_lines r)
theorem tupI_kt {K : PySem.W.Frag} {H H' : Hp} (k : KT K H H') {xs : List V} {ls : List (List Int)} (h : Paired (TupI K H) xs ls) : Paired (TupI K H') xs ls :=
  Paired.mono (fun _ _ ⟨t, e, q⟩ => ⟨t, e, k _ _ q⟩) h
def spIsKind : Sp := fun vs H Q _ => ∃ b : Bool, vs = [.str (if b = true then "C" else "R")] ∧ ∀ H', Same H H' → Q (.bl true) H'
def spKind : Sp := fun vs H Q _ => ∃ b : Bool, vs = [.str (if b = true then "C" else "R")] ∧ ∀ H', Same H H' → Q .non H'
def spLines (K : PySem.W.Frag) : Sp := fun vs H Q _ => ∃ (a : Addr) (b : Bool) (cs : List Cell), vs = [.ref a, .str (if b = true then "C" else "R")] ∧ PlanAt K H a cs ∧ Good cs ∧ cs.length ≤ 24 ∧
  ∀ H' p xs, Same H H' → SqT K H' p xs → Paired (TupI K H') xs (lnsOf b cs) → Q (.ref p) H'
def spLawLines (K : PySem.W.Frag) : Sp := fun vs H Q _ => ∃ (a : Addr) (b : Bool) (cs : List Cell), vs = [.ref a, .str (if b = true then "C" else "R")] ∧ PlanAt K H a cs ∧ cs.length ≤ 24 ∧
  ∀ H' p xs, Same H H' → H' p = some (.lst xs) → Paired (LstI H') xs (lnsOf b cs) → Q (.ref p) H'
end KS
namespace KS
open PySem PySem.Spec PyProof.Rows L2
/-- 0 if kind == "R" else 1 -/
theorem side_ok {b : Bool} {σ : L2.St} {H : Hp} {Q : VK} (hσ : σ[1]? = some (some (.str (if b = true then "C" else "R")))) (k : Q (.int (if b = true then 1 else 0)) H) :
    tIf (tTest (tOp rEq (tVar 1) (tC (.str "R")))) (tC (.int 0)) (tC (.int 1)) σ H Q := by
  refine ⟨_, hσ, by cases b <;> rfl, _, rfl, ?_⟩
  cases b
  · rw [if_pos (by decide +kernel)]
    exact k
  · rw [if_neg (by decide +kernel)]
    exact k
theorem at_pick {b : Bool} {c : Cell} : atI [V.int c.1, V.int c.2] (if b = true then 1 else 0) = some (V.int (pick b c)) := by
  cases b <;> rfl
/-- the dict of lines behind i cells -/
structure Grp (b : Bool) (cs : List Cell) (i : Nat) (d : Addr) (kvs : List (Key × V)) (ad : Int → Addr) (H : Hp) : Prop where
  dict : H d = some (.dK kvs)
  keys : ∃ ks : List Int, kvs.map (·.1) = ks.map Sum.inl ∧ ks.Nodup ∧ ks.length ≤ i
  val : ∀ r : Int, valV kvs (.inl r) = if idxs b cs i r = [] then none else some (.ref (ad r))
  lst : ∀ r : Int, idxs b cs i r ≠ [] → H (ad r) = some (.lst ((idxs b cs i r).map V.int))
  inj : ∀ r r' : Int, idxs b cs i r ≠ [] → idxs b cs i r' ≠ [] → ad r = ad r' → r = r'
theorem Grp.same {b : Bool} {cs : List Cell} {i : Nat} {d : Addr} {kvs : List (Key × V)} {ad : Int → Addr} {H H' : Hp} (g : Grp b cs i d kvs ad H) (s : Same H H') : Grp b cs i d kvs ad H' :=
  ⟨s _ _ g.dict, g.keys, g.val, fun r h => s _ _ (g.lst r h), g.inj⟩
theorem Grp.more {b : Bool} {cs : List Cell} {i : Nat} {d : Addr} {kvs : List (Key × V)} {ad : Int → Addr} {H : Hp} {c : Cell} (g : Grp b cs i d kvs ad H) (hc : cs[i]? = some c) (h : idxs b cs i (pick b c) ≠ []) :
    Grp b cs (i + 1) d kvs ad (upd H (ad (pick b c)) (.lst ((idxs b cs i (pick b c)).map V.int ++ [.int (i : Nat)]))) := by
  have same : ∀ r, (idxs b cs (i + 1) r = []) ↔ (idxs b cs i r = []) := fun r => by
    by_cases e : pick b c = r
    · subst e
      rw [idxs_hit hc]
      simp [h]
    · rw [idxs_miss hc e]
  have hd : d ≠ ad (pick b c) := ne_of g.dict (g.lst _ h) (by intro z; cases z)
  obtain ⟨ks, k1, k2, k3⟩ := g.keys
  refine ⟨by rw [upd_ne hd]; exact g.dict, ⟨ks, k1, k2, by omega⟩, fun r => ?_, fun r hr => ?_, fun r r' h1 h2 => g.inj r r' (fun z => h1 ((same r).mpr z)) (fun z => h2 ((same r').mpr z))⟩
  · rw [g.val r]
    by_cases e : idxs b cs i r = []
    · rw [if_pos e, if_pos ((same r).mpr e)]
    · rw [if_neg e, if_neg (fun z => e ((same r).mp z))]
  · have hr' : idxs b cs i r ≠ [] := fun z => hr ((same r).mpr z)
    by_cases e : pick b c = r
    · subst e
      rw [upd_same, idxs_hit hc, List.map_append]
      rfl
    · rw [upd_ne (fun z => e (g.inj _ _ h hr' z.symm)), idxs_miss hc e]
      exact g.lst r hr'
theorem Grp.new {b : Bool} {cs : List Cell} {i : Nat} {d z : Addr} {kvs : List (Key × V)} {ad : Int → Addr} {H : Hp} {c : Cell} (g : Grp b cs i d kvs ad H) (hc : cs[i]? = some c) (h : idxs b cs i (pick b c) = []) (nz : H z = none) :
    Grp b cs (i + 1) d (putK kvs (.inl (pick b c)) (.ref z)) (fun r => if r = pick b c then z else ad r) (upd (upd (upd H z (.lst [])) d (.dK (putK kvs (.inl (pick b c)) (.ref z)))) z (.lst ([] ++ [.int (i : Nat)]))) := by
  have hv : valV kvs (.inl (pick b c)) = none := by
    rw [g.val, if_pos h]
  have hdz : d ≠ z := ne_of_none g.dict nz
  have hput : putK kvs (Sum.inl (pick b c)) (V.ref z) = kvs ++ [(Sum.inl (pick b c), V.ref z)] := by
    unfold putK
    rw [if_neg]
    rw [valV_any, hv]
    simp
  have hit : idxs b cs (i + 1) (pick b c) = [(i : Int)] := by
    rw [idxs_hit hc, h]
    rfl
  obtain ⟨ks, k1, k2, k3⟩ := g.keys
  refine ⟨?_, ⟨ks ++ [pick b c], ?_, ?_, ?_⟩, fun r => ?_, fun r hr => ?_, fun r r' h1 h2 => ?_⟩
  · rw [upd_ne hdz, upd_same]
  · rw [hput, List.map_append, List.map_append, k1]
    rfl
  · rw [List.nodup_append]
    refine ⟨k2, by simp, fun x hx y hy e => ?_⟩
    rw [List.mem_singleton] at hy
    subst hy
    subst e
    apply valV_not hv
    rw [k1]
    exact List.mem_map.mpr ⟨_, hx, rfl⟩
  · rw [List.length_append]
    simp
    omega
  · rw [valV_put]
    by_cases e : r = pick b c
    · subst e
      rw [if_pos rfl, hit, if_neg (by simp), if_pos rfl]
    · rw [if_neg (fun q => e (Sum.inl.inj q)), g.val, idxs_miss hc (Ne.symm e), if_neg e]
  · by_cases e : r = pick b c
    · subst e
      show upd _ _ _ (if _ then z else _) = _
      rw [if_pos rfl, upd_same, hit]
      rfl
    · show upd _ _ _ (if _ then z else _) = _
      rw [if_neg e]
      rw [idxs_miss hc (Ne.symm e)] at hr ⊢
      have hl := g.lst r hr
      rw [upd_ne (ne_of_none hl nz), upd_ne (ne_of hl g.dict (by intro q; cases q)), upd_ne (ne_of_none hl nz)]
      exact hl
  · intro e
    by_cases e1 : r = pick b c
    · by_cases e2 : r' = pick b c
      · rw [e1, e2]
      · have e' : (if r = pick b c then z else ad r) = (if r' = pick b c then z else ad r') := e
        rw [if_pos e1, if_neg e2] at e'
        rw [idxs_miss hc (Ne.symm e2)] at h2
        have := g.lst r' h2
        rw [← e', nz] at this
        cases this
    · have e' : (if r = pick b c then z else ad r) = (if r' = pick b c then z else ad r') := e
      rw [idxs_miss hc (Ne.symm e1)] at h1
      by_cases e2 : r' = pick b c
      · rw [if_neg e1, if_pos e2] at e'
        have := g.lst r h1
        rw [e', nz] at this
        cases this
      · rw [if_neg e1, if_neg e2] at e'
        rw [idxs_miss hc (Ne.symm e2)] at h2
        exact g.inj r r' h1 h2 e'
/-- the sorted keys are the lines in use -/
theorem Grp.used {b : Bool} {cs : List Cell} {d : Addr} {kvs : List (Key × V)} {ad : Int → Addr} {H : Hp} {ks ys : List Int} (g : Grp b cs cs.length d kvs ad H) (gr : ∀ c ∈ cs, InGrid c) (e : kvs.map (·.1) = ks.map Sum.inl) (n : ks.Nodup) (p : ys.Perm ks) (s : ys.Pairwise (· ≤ ·)) : ys = usedOf b cs := by
  refine asc_ext (strict_of s (p.nodup_iff.mpr n)) (used_asc b cs) fun r => ?_
  rw [p.mem_iff, used_mem gr]
  have key : r ∈ ks ↔ (Sum.inl r : Key) ∈ kvs.map (·.1) := by
    rw [e, List.mem_map]
    exact ⟨fun h => ⟨r, h, rfl⟩, fun ⟨x, hx, q⟩ => by cases q; exact hx⟩
  rw [key]
  constructor
  · intro h z
    have hv : valV kvs (.inl r) = none := by rw [g.val, if_pos z]
    exact valV_not hv h
  · intro h
    exact valV_in (v := .ref (ad r)) (by rw [g.val, if_neg h])
end KS
namespace KS
open PySem PySem.Spec PyProof.Rows L2
theorem ints_lay : ∀ l : List Int, PyData.canLayAll0 (l.map PyData.int) = true ∧ PyData.depthAll (l.map PyData.int) = 0
  | [] => ⟨by simp only [List.map_nil, PyData.canLayAll0], by simp only [List.map_nil, PyData.depthAll]⟩
  | x :: l => by
    obtain ⟨h1, h2⟩ := ints_lay l
    simp only [List.map_cons, PyData.canLayAll0, PyData.depthAll, PyData.canLay0, PyData.depth, h1, h2, Bool.and_self, Nat.max_self, and_self]
theorem ints_shaped (l : List Int) : SeqAt.shaped (.list (l.map PyData.int)) = true := by
  obtain ⟨h1, h2⟩ := ints_lay l
  unfold SeqAt.shaped
  simp only [PyData.canLay0, PyData.depth, h1, h2]
  decide
theorem ints_eqv_nil (l : List Int) : PyData.eqv (.list (l.map PyData.int)) (.list []) = l.isEmpty := by
  cases l with
  | nil => decide
  | cons x l => rfl
theorem kind_test (b : Bool) : decide (V.str (if b = true then "C" else "R") = V.str "C") = b := by
  cases b <;> decide +kernel
/-- the lines below r that are in use -/
def lnsTo (b : Bool) (cs : List Cell) (r : Nat) : List (List Int) := ((List.range r).map fun (r : Nat) => idxs b cs cs.length (r : Int)).filter fun l => decide (l ≠ [])
theorem lnsTo_hit {b : Bool} {cs : List Cell} {r : Nat} (h : idxs b cs cs.length (r : Int) ≠ []) : lnsTo b cs (r + 1) = lnsTo b cs r ++ [idxs b cs cs.length (r : Int)] := by
  unfold lnsTo
  rw [List.range_succ, List.map_append, List.filter_append]
  congr 1
  rw [List.map_cons, List.filter_cons_of_pos (by simpa using h)]
  rfl
theorem lnsTo_miss {b : Bool} {cs : List Cell} {r : Nat} (h : idxs b cs cs.length (r : Int) = []) : lnsTo b cs (r + 1) = lnsTo b cs r := by
  unfold lnsTo
  rw [List.range_succ, List.map_append, List.filter_append, List.map_cons, List.filter_cons_of_neg (by simp [h])]
  simp
theorem lnsTo_len (b : Bool) (cs : List Cell) (r : Nat) : (lnsTo b cs r).length ≤ r := by
  unfold lnsTo
  exact Nat.le_trans (List.length_filter_le _ _) (by simp)
end KS
namespace KS
open PySem PySem.Spec PyProof.Rows L2
/-! ### small data can be shown -/
theorem small_int {x : Int} (h0 : 0 ≤ x) (h1 : x < 10000) : PyData.leavesShort 8 (.int x) = true ∧ PyData.showable (.int x) = true ∧ PyData.weight (.int x) ≤ 14 := by
  obtain ⟨n, rfl⟩ := Int.eq_ofNat_of_zero_le h0
  have hn : n < 10000 := by omega
  have hlog : n.log2 < 14 := by
    rcases Nat.eq_zero_or_pos n with z | z
    · subst z
      decide
    · exact (Nat.log2_lt (by omega)).mpr (by omega)
  refine ⟨?_, ?_, ?_⟩
  · simp only [PyData.leavesShort]
    exact decide_eq_true (by
      simp only [PyData.shown]
      exact toString_length_le (k := 8) (by omega) (by decide) (by show (n : Int) < 10 ^ 8; omega))
  · simp only [PyData.showable]
    exact decide_eq_true (by show n.log2 < 1920; omega)
  · simp only [PyData.weight]
    split
    · omega
    · show n.log2 + 1 ≤ 14
      omega
/-- what repr asks of its data -/
structure Shows (d : PyData) (n : Nat) : Prop where
  short : d.leavesShort 8 = true
  show_ : d.showable = true
  nod : d.hasDict = false
  wt : d.weight ≤ n
structure ShowsAll (ds : List PyData) (n : Nat) : Prop where
  short : PyData.leavesShortAll 8 ds = true
  show_ : PyData.showableAll ds = true
  nod : PyData.hasDictAll ds = false
  wt : PyData.weightAll ds ≤ (n + 1) * ds.length
theorem showsAll_of {n : Nat} : ∀ {ds : List PyData}, (∀ d ∈ ds, Shows d n) → ShowsAll ds n
  | [], _ => ⟨by simp only [PyData.leavesShortAll], by simp only [PyData.showableAll], by simp only [PyData.hasDictAll], by simp [PyData.weightAll]⟩
  | d :: ds, h => by
    have h1 := h d List.mem_cons_self
    have h2 := showsAll_of fun x hx => h x (List.mem_cons_of_mem _ hx)
    refine ⟨?_, ?_, ?_, ?_⟩
    · simp only [PyData.leavesShortAll, h1.short, h2.short, Bool.and_self]
    · simp only [PyData.showableAll, h1.show_, h2.show_, Bool.and_self]
    · simp only [PyData.hasDictAll, h1.nod, h2.nod, Bool.or_self]
    · simp only [PyData.weightAll, List.length_cons]
      have a := h1.wt
      have b := h2.wt
      rw [Nat.mul_add, Nat.mul_one]
      omega
theorem shows_tuple {n m : Nat} {ds : List PyData} (h : ShowsAll ds n) (hm : (n + 1) * ds.length ≤ m) : Shows (.tuple ds) m := by
  refine ⟨?_, ?_, ?_, ?_⟩
  · simp only [PyData.leavesShort, h.short]
  · simp only [PyData.showable, h.show_]
  · simp only [PyData.hasDict, h.nod]
  · simp only [PyData.weight]
    exact Nat.le_trans h.wt hm
theorem shows_int {x : Int} (h0 : 0 ≤ x) (h1 : x < 10000) : Shows (.int x) 14 := by
  obtain ⟨a, b, c⟩ := small_int h0 h1
  exact ⟨a, b, by simp only [PyData.hasDict], c⟩
theorem Shows.len {d : PyData} {n : Nat} (h : Shows d n) (hn : n ≤ 1048576) : d.shown.length ≤ sizeLine :=
  PyData.shown_fits (B := 8) (by decide) (by decide) h.short (Nat.le_trans h.wt (by
    show n ≤ 2 ^ 20
    have : (2 : Nat) ^ 20 = 1048576 := by decide
    omega))
theorem shows_line {l : List Int} (h : ∀ x ∈ l, 0 ≤ x ∧ x < 10000) (hl : l.length ≤ 64) : Shows (lineD l) 960 := by
  refine shows_tuple (n := 14) (showsAll_of fun d hd => ?_) ?_
  · obtain ⟨x, hx, rfl⟩ := List.mem_map.mp hd
    exact shows_int (h x hx).1 (h x hx).2
  · rw [List.length_map]
    omega
theorem shows_lines {ls : List (List Int)} (h : ∀ l ∈ ls, (∀ x ∈ l, 0 ≤ x ∧ x < 10000) ∧ l.length ≤ 64) (hl : ls.length ≤ 64) : Shows (linesD ls) 61504 := by
  refine shows_tuple (n := 960) (showsAll_of fun d hd => ?_) ?_
  · obtain ⟨l, hx, rfl⟩ := List.mem_map.mp hd
    exact shows_line (h l hx).1 (h l hx).2
  · rw [List.length_map]
    omega
theorem depth_line (l : List Int) : (lineD l).depth = 1 := by
  simp only [PyData.depth, (ints_lay l).2]
theorem depth_lines : ∀ ls : List (List Int), PyData.depthAll (ls.map lineD) ≤ 1
  | [] => by simp [PyData.depthAll]
  | l :: ls => by
    have a := depth_lines ls
    have b := depth_line l
    simp only [List.map_cons, PyData.depthAll]
    omega
theorem lns_small {b : Bool} {cs : List Cell} (hl : cs.length ≤ 24) : Shows (linesD (lnsOf b cs)) 61504 ∧ (linesD (lnsOf b cs)).depth ≤ 64 := by
  refine ⟨shows_lines (fun l h => ?_) ?_, ?_⟩
  · unfold lnsOf at h
    obtain ⟨r, _, rfl⟩ := List.mem_map.mp (List.mem_filter.mp h).1
    refine ⟨fun x hx => ?_, ?_⟩
    · have := idxs_mem hx
      omega
    · have := idxs_len b cs cs.length (r : Int)
      omega
  · have : (lnsOf b cs).length ≤ 8 := lnsTo_len b cs 8
    omega
  · have := depth_lines (lnsOf b cs)
    simp only [PyData.depth]
    omega
/-! ### sorted cells -/
def keyOf (H : Hp) : V → Int × Int
  | .ref t => match H t with
    | some (.tup [.int i, .int j]) => (i, j)
    | _ => (0, 0)
  | _ => (0, 0)
theorem keyOf_at {H : Hp} {t : Addr} {i j : Int} (h : H t = some (.tup [.int i, .int j])) : keyOf H (.ref t) = (i, j) := by
  show (match H t with
    | some (.tup [.int i, .int j]) => ((i, j) : Int × Int)
    | _ => (0, 0)) = (i, j)
  rw [h]
theorem nodup_of_asc {cs : List Cell} (h : cs.Pairwise lt2) : cs.Nodup := by
  rw [List.nodup_iff_pairwise_ne]
  refine h.imp fun {a b} q e => ?_
  subst e
  rcases q with q | q <;> omega
/-- new cells, in a list -/
def NewCells (H : Hp) : List V → List Cell → Prop := Paired fun x c => ∃ t, x = .ref t ∧ H t = some (.tup [.int c.1, .int c.2])
theorem newCells_mono {H H' : Hp} (k : ∀ t ys, H t = some (.tup ys) → H' t = some (.tup ys)) {xs : List V} {cs : List Cell} (h : NewCells H xs cs) : NewCells H' xs cs :=
  Paired.mono (fun _ _ ⟨t, e, q⟩ => ⟨t, e, k _ _ q⟩) h
theorem newCells_key {H : Hp} : ∀ {xs : List V} {cs : List Cell}, NewCells H xs cs → xs.map (keyOf H) = cs
  | _, _, .nil => rfl
  | _, _, .cons ⟨t, e, h⟩ r => by
    subst e
    rw [List.map_cons, keyOf_at h, newCells_key r]
theorem newCells_mem {H : Hp} : ∀ {xs : List V} {cs : List Cell}, NewCells H xs cs → ∀ x ∈ xs, ∃ t, x = .ref t ∧ H t = some (.tup [.int (keyOf H x).1, .int (keyOf H x).2])
  | _, _, .nil, _, h => nomatch h
  | _, _, .cons ⟨t, e, h⟩ r, x, hx => by
    rcases List.mem_cons.mp hx with z | z
    · subst z
      subst e
      exact ⟨t, rfl, by rw [keyOf_at h]; exact h⟩
    · exact newCells_mem r x z
theorem cells_of_mem {K : PySem.W.Frag} {H : Hp} : ∀ {ys : List V}, (∀ x ∈ ys, ∃ t, x = .ref t ∧ H t = some (.tup [.int (keyOf H x).1, .int (keyOf H x).2])) → CellsAt K H ys (ys.map (keyOf H))
  | [], _ => .nil
  | y :: ys, h => by
    obtain ⟨t, e, q⟩ := h y List.mem_cons_self
    exact .cons ⟨t, e, SqT.of q⟩ (cells_of_mem fun x hx => h x (List.mem_cons_of_mem _ hx))
/-- sorted of new cells, all different: they ascend -/
theorem sorted_cells {K : PySem.W.Frag} {H : Hp} {xs ys : List V} {cs : List Cell} (h : NewCells H xs cs) (nd : cs.Nodup) (hs : SrtO.Srtd (ltP (keyOf H)) ys) (hp : ys.Perm xs) :
    CellsAt K H ys (ys.map (keyOf H)) ∧ (ys.map (keyOf H)).Perm cs ∧ (ys.map (keyOf H)).Pairwise lt2 := by
  have p1 : (ys.map (keyOf H)).Perm cs := by
    rw [← newCells_key h]
    exact hp.map _
  refine ⟨cells_of_mem fun x hx => newCells_mem h x (hp.mem_iff.mp hx), p1, ?_⟩
  have n1 : (ys.map (keyOf H)).Nodup := p1.nodup_iff.mpr nd
  have s1 : (ys.map (keyOf H)).Pairwise fun a b => SrtO.lexB b a = false := by
    rw [List.pairwise_map]
    exact hs
  rw [List.nodup_iff_pairwise_ne] at n1
  refine (s1.and n1).imp fun {a b} q => ?_
  obtain ⟨q1, q2⟩ := q
  have q3 : ¬ (b.1 < a.1 ∨ (b.1 = a.1 ∧ b.2 < a.2)) := fun z => by
    rw [SrtO.lexB_iff.mpr z] at q1
    cases q1
  by_cases e1 : a.1 < b.1
  · exact .inl e1
  · by_cases e2 : a.1 = b.1
    · refine .inr ⟨e2, ?_⟩
      by_cases e3 : a.2 = b.2
      · exact absurd (Prod.ext e2 e3) q2
      · have : ¬ b.2 < a.2 := fun z => q3 (.inr ⟨e2.symm, z⟩)
        omega
    · exact absurd (.inl (by omega)) q3
def mir (c : Cell) : Cell := (c.1, 7 - c.2)
theorem nodup_mir {cs : List Cell} (h : cs.Nodup) : (cs.map mir).Nodup := by
  rw [List.nodup_iff_pairwise_ne] at h ⊢
  rw [List.pairwise_map]
  refine h.imp fun {a b} q e => q ?_
  have e0 : ((a.1, 7 - a.2) : Int × Int) = (b.1, 7 - b.2) := e
  injection e0 with e1 e2
  exact Prod.ext e1 (by omega)
theorem good_mir {cs ds : List Cell} (g : Good cs) (p : ds.Perm (cs.map mir)) (a : ds.Pairwise lt2) : Good ds ∧ ds.length = cs.length := by
  have hl : ds.length = cs.length := by rw [p.length_eq, List.length_map]
  refine ⟨⟨a, fun d hd => ?_, fun z => ?_⟩, hl⟩
  · obtain ⟨c, hc, rfl⟩ := List.mem_map.mp (p.mem_iff.mp hd)
    have := g.grid c hc
    unfold InGrid at this ⊢
    show 0 ≤ c.1 ∧ c.1 ≤ 7 ∧ 0 ≤ 7 - c.2 ∧ 7 - c.2 ≤ 7
    omega
  · rw [z] at hl
    exact g.ne (List.eq_nil_of_length_eq_zero hl.symm)
def spRight : Sp := fun vs H Q _ => ∃ p : Addr, vs = [.ref p] ∧ PoolO (H p) ∧ ∀ H', KeepX p H H' → Q (.bl true) H'
def spLaw (K : PySem.W.Frag) : Sp := fun vs H Q _ => ∃ (a : Addr) (ns : List Int), vs = [.ref a] ∧ SqL K H a (ns.map V.int) ∧ ns.length ≤ 63 ∧ ∀ H', Q (.bl true) H'
end KS
namespace KS
open PySem PySem.Spec PyProof.Rows L2
/-! ### x in t, t a tuple of plain data -/
def rInT (K : PySem.W.Frag) : V → V → Hp → VK → Prop := fun x y H Q => ∃ d ds, Dp K H x d ∧ Dp K H y (.tuple ds) ∧ SeqAt.shaped d = true ∧ SeqAt.shaped (.tuple ds) = true ∧ Q (.bl (ds.any fun z => PyData.eqv z d)) H
theorem op_inT {X : Cx} (hu : X.A.units + 65 < cLine) : OpR X (compareOp .In) (rInT X.K) := by
  intro pins s σ H x y v u Q I rx ry h
  obtain ⟨d, ds, hd, he, sd, se, q⟩ := h
  obtain ⟨as, r1⟩ := Dp.reads I d x v hd rx
  obtain ⟨bs, r2⟩ := Dp.reads I (.tuple ds) y u he ry
  refine SeqAt.in_tuple_reads r2 r1 (SeqAt.canLay_of_shaped se) (SeqAt.canLay_of_shaped sd) ?_ ⟨.bl _, H, I, rfl, q⟩
  have := SeqAt.depth_of_shaped sd
  have h2 : min (PyData.depthAll ds) d.depth ≤ d.depth := Nat.min_le_right _ _
  omega
/-! ### plans as data -/
abbrev cellD (c : Cell) : PyData := .tuple [.int c.1, .int c.2]
abbrev planD (cs : List Cell) : PyData := .tuple (cs.map cellD)
theorem dp_cell {K : PySem.W.Frag} {H : Hp} {t : Addr} {c : Cell} (h : SqT K H t [.int c.1, .int c.2]) : Dp K H (.ref t) (cellD c) := .tup h (.cons (.int _) (.cons (.int _) .nil))
theorem dp_cells {K : PySem.W.Frag} {H : Hp} : ∀ {xs : List V} {cs : List Cell}, CellsAt K H xs cs → DpAll K H xs (cs.map cellD)
  | _, _, .nil => .nil
  | _, _, .cons ⟨t, e, h⟩ r => by
    subst e
    exact .cons (dp_cell h) (dp_cells r)
theorem PlanAt.dp {K : PySem.W.Frag} {H : Hp} {a : Addr} {cs : List Cell} (h : PlanAt K H a cs) : Dp K H (.ref a) (planD cs) := by
  obtain ⟨xs, h1, h2⟩ := h
  exact .tup h1 (dp_cells h2)
theorem cell_lay (c : Cell) : (cellD c).canLay0 = true ∧ (cellD c).depth = 1 := by
  simp [PyData.canLay0, PyData.canLayAll0, PyData.depth, PyData.depthAll]
theorem cells_lay : ∀ cs : List Cell, PyData.canLayAll0 (cs.map cellD) = true ∧ PyData.depthAll (cs.map cellD) ≤ 1
  | [] => ⟨by simp only [List.map_nil, PyData.canLayAll0], by simp [PyData.depthAll]⟩
  | c :: cs => by
    obtain ⟨a, b⟩ := cells_lay cs
    obtain ⟨x, y⟩ := cell_lay c
    refine ⟨?_, ?_⟩
    · rw [List.map_cons, PyData.canLayAll0, x, a]
      rfl
    · rw [List.map_cons, PyData.depthAll, y]
      omega
theorem cell_shaped (c : Cell) : SeqAt.shaped (cellD c) = true := by
  obtain ⟨x, y⟩ := cell_lay c
  unfold SeqAt.shaped
  rw [x, y]
  rfl
theorem plan_shaped (cs : List Cell) : SeqAt.shaped (planD cs) = true := by
  obtain ⟨a, b⟩ := cells_lay cs
  unfold SeqAt.shaped
  rw [Bool.and_eq_true]
  refine ⟨?_, decide_eq_true ?_⟩
  · simp only [PyData.canLay0, a]
  · simp only [PyData.depth]
    omega
theorem cell_eqv (a b : Cell) : PyData.eqv (cellD a) (cellD b) = decide (a = b) := by
  have h : PyData.eqv (cellD a) (cellD b) = (a.1 == b.1 && (a.2 == b.2 && true)) := by
    simp only [PyData.eqv, PyData.eqvAll]
  rw [h, Bool.and_true]
  by_cases e : a = b
  · subst e
    simp
  · rw [decide_eq_false e]
    by_cases e1 : a.1 = b.1
    · have e2 : a.2 ≠ b.2 := fun z => e (Prod.ext e1 z)
      simp [e1, e2]
    · simp [e1]
theorem in_plan (cs : List Cell) (c : Cell) : ((cs.map cellD).any fun z => PyData.eqv z (cellD c)) = decide (c ∈ cs) := by
  rw [List.any_map]
  by_cases h : c ∈ cs
  · rw [decide_eq_true h, List.any_eq_true]
    exact ⟨c, h, by show PyData.eqv (cellD c) (cellD c) = true; rw [cell_eqv]; simp⟩
  · rw [decide_eq_false h, List.any_eq_false]
    intro x hx z
    have z' : PyData.eqv (cellD x) (cellD c) = true := z
    rw [cell_eqv] at z'
    have := of_decide_eq_true z'
    subst this
    exact h hx
theorem shows_plan {cs : List Cell} (g : ∀ c ∈ cs, InGrid c) (hl : cs.length ≤ 64) : Shows (planD cs) 1984 ∧ (planD cs).depth ≤ 64 := by
  refine ⟨shows_tuple (n := 30) (showsAll_of fun d hd => ?_) ?_, ?_⟩
  · obtain ⟨c, hc, rfl⟩ := List.mem_map.mp hd
    have := g c hc
    unfold InGrid at this
    refine shows_tuple (n := 14) (showsAll_of fun d hd => ?_) (by show (14 + 1) * 2 ≤ 30; decide)
    rcases List.mem_cons.mp hd with z | z
    · subst z
      exact shows_int (by omega) (by omega)
    · rcases List.mem_cons.mp z with z | z
      · subst z
        exact shows_int (by omega) (by omega)
      · cases z
  · rw [List.length_map]
    omega
  · have := (cells_lay cs).2
    simp only [PyData.depth]
    omega
/-! ### ascending lists of cells -/
theorem asc_ext2 : ∀ {l m : List Cell}, l.Pairwise lt2 → m.Pairwise lt2 → (∀ x, x ∈ l ↔ x ∈ m) → l = m
  | [], [], _, _, _ => rfl
  | [], y :: m, _, _, h => absurd ((h y).mpr List.mem_cons_self) (by simp)
  | x :: l, [], _, _, h => absurd ((h x).mp List.mem_cons_self) (by simp)
  | x :: l, y :: m, h1, h2, h => by
    rw [List.pairwise_cons] at h1 h2
    have no : ∀ a b : Cell, lt2 a b → lt2 b a → False := fun a b p q => by
      unfold lt2 at p q
      omega
    have e : x = y := by
      rcases List.mem_cons.mp ((h x).mp List.mem_cons_self) with z | z
      · exact z
      · rcases List.mem_cons.mp ((h y).mpr List.mem_cons_self) with z2 | z2
        · exact z2.symm
        · exact (no _ _ (h2.1 x z) (h1.1 y z2)).elim
    subst e
    congr 1
    refine asc_ext2 h1.2 h2.2 fun z => ⟨fun hz => ?_, fun hz => ?_⟩
    · rcases List.mem_cons.mp ((h z).mp (List.mem_cons_of_mem _ hz)) with e | e
      · exact (no _ _ (h1.1 z hz) (e ▸ h1.1 z hz)).elim
      · exact e
    · rcases List.mem_cons.mp ((h z).mpr (List.mem_cons_of_mem _ hz)) with e | e
      · exact (no _ _ (h2.1 z hz) (e ▸ h2.1 z hz)).elim
      · exact e
theorem asc_perm {l m : List Cell} (h1 : l.Pairwise lt2) (h2 : m.Pairwise lt2) (p : l.Perm m) : l = m := asc_ext2 h1 h2 fun x => p.mem_iff
def swp (c : Cell) : Cell := (c.2, c.1)
theorem nodup_swp {cs : List Cell} (h : cs.Nodup) : (cs.map swp).Nodup := by
  rw [List.nodup_iff_pairwise_ne] at h ⊢
  rw [List.pairwise_map]
  refine h.imp fun {a b} q e => q ?_
  have e0 : ((a.2, a.1) : Int × Int) = (b.2, b.1) := e
  injection e0 with e1 e2
  exact Prod.ext e2 e1
theorem good_swp {cs ds : List Cell} (g : Good cs) (p : ds.Perm (cs.map swp)) (a : ds.Pairwise lt2) : Good ds ∧ ds.length = cs.length := by
  have hl : ds.length = cs.length := by rw [p.length_eq, List.length_map]
  refine ⟨⟨a, fun d hd => ?_, fun z => ?_⟩, hl⟩
  · obtain ⟨c, hc, rfl⟩ := List.mem_map.mp (p.mem_iff.mp hd)
    have := g.grid c hc
    unfold InGrid at this ⊢
    show 0 ≤ c.2 ∧ c.2 ≤ 7 ∧ 0 ≤ c.1 ∧ c.1 ≤ 7
    omega
  · rw [z] at hl
    exact g.ne (List.eq_nil_of_length_eq_zero hl.symm)
theorem swp_back {cs ds es : List Cell} (g : cs.Pairwise lt2) (p : ds.Perm (cs.map swp)) (p2 : es.Perm (ds.map swp)) (a : es.Pairwise lt2) : es = cs := by
  refine asc_perm a g (p2.trans ?_)
  have := p.map swp
  refine this.trans ?_
  rw [List.map_map]
  have e : (swp ∘ swp) = id := by
    funext c
    rfl
  rw [e, List.map_id]
/-! ### rectangles -/
def Full (cs : List Cell) : Prop := ∀ r k : Int, (∃ c ∈ cs, c.1 ≤ r) → (∃ c ∈ cs, r ≤ c.1) → (∃ c ∈ cs, c.2 ≤ k) → (∃ c ∈ cs, k ≤ c.2) → (r, k) ∈ cs
noncomputable def rectB (cs : List Cell) : Bool := @decide (Full cs) (Classical.propDecidable _)
theorem rectB_true {cs : List Cell} (h : Full cs) : rectB cs = true := by
  unfold rectB
  exact @decide_eq_true _ (Classical.propDecidable _) h
theorem rectB_false {cs : List Cell} (h : ¬ Full cs) : rectB cs = false := by
  unfold rectB
  exact @decide_eq_false _ (Classical.propDecidable _) h
theorem full_swp {cs ds : List Cell} (p : ds.Perm (cs.map swp)) (h : Full cs) : Full ds := by
  have to : ∀ c : Cell, c ∈ ds → swp c ∈ cs := fun c hc => by
    obtain ⟨x, hx, rfl⟩ := List.mem_map.mp (p.mem_iff.mp hc)
    exact hx
  intro r k ⟨a, ha, a1⟩ ⟨b, hb, b1⟩ ⟨c, hc, c1⟩ ⟨d, hd, d1⟩
  have := h k r ⟨swp c, to c hc, c1⟩ ⟨swp d, to d hd, d1⟩ ⟨swp a, to a ha, a1⟩ ⟨swp b, to b hb, b1⟩
  exact p.mem_iff.mpr (List.mem_map.mpr ⟨(k, r), this, rfl⟩)
theorem rectB_swp {cs ds : List Cell} (p : ds.Perm (cs.map swp)) : rectB ds = rectB cs := by
  have q : cs.Perm (ds.map swp) := by
    have := (p.map swp).symm
    rw [List.map_map] at this
    have e : (swp ∘ swp) = id := by
      funext c
      rfl
    rw [e, List.map_id] at this
    exact this
  by_cases h : Full cs
  · rw [rectB_true h, rectB_true (full_swp p h)]
  · rw [rectB_false h, rectB_false fun z => h (full_swp q z)]
theorem len_of_subset : ∀ {l m : List Cell}, l.Nodup → (∀ x ∈ l, x ∈ m) → l.length ≤ m.length
  | [], _, _, _ => Nat.zero_le _
  | x :: l, m, n, h => by
    rw [List.nodup_cons] at n
    have hx := h x List.mem_cons_self
    have ih := len_of_subset (m := m.erase x) n.2 fun y hy => by
      have hne : y ≠ x := fun e => n.1 (e ▸ hy)
      exact (List.mem_erase_of_ne hne).mpr (h y (List.mem_cons_of_mem _ hy))
    rw [List.length_erase_of_mem hx] at ih
    have : 0 < m.length := List.length_pos_of_mem hx
    rw [List.length_cons]
    omega
/-- the cells of a box: n rows from r, k columns from c -/
def boxOf (r c : Int) (n k : Nat) : List Cell := (List.range n).flatMap fun (i : Nat) => rowCells (r + (i : Int)) c k
theorem box_len (r c : Int) (n k : Nat) : (boxOf r c n k).length = n * k := by
  unfold boxOf
  rw [List.length_flatMap]
  induction n with
  | zero => simp
  | succ n ih =>
    rw [List.range_succ, List.map_append, List.sum_append, ih, List.map_cons, rowCells_len, Nat.succ_mul]
    simp
theorem box_mem {r c : Int} {n k : Nat} {x : Cell} : x ∈ boxOf r c n k ↔ r ≤ x.1 ∧ x.1 < r + n ∧ c ≤ x.2 ∧ x.2 < c + k := by
  unfold boxOf
  rw [List.mem_flatMap]
  constructor
  · rintro ⟨i, hi, hx⟩
    have := List.mem_range.mp hi
    have := rowCells_mem hx
    omega
  · rintro ⟨h1, h2, h3, h4⟩
    refine ⟨(x.1 - r).toNat, List.mem_range.mpr (by omega), ?_⟩
    unfold rowCells
    refine List.mem_map.mpr ⟨(x.2 - c).toNat, List.mem_range.mpr (by omega), ?_⟩
    refine Prod.ext ?_ ?_
    · show r + ((x.1 - r).toNat : Int) = x.1
      omega
    · show c + ((x.2 - c).toNat : Int) = x.2
      omega
theorem box_asc (r c : Int) (k : Nat) : ∀ n : Nat, (boxOf r c n k).Pairwise lt2
  | 0 => List.Pairwise.nil
  | n + 1 => by
    have e : boxOf r c (n + 1) k = boxOf r c n k ++ rowCells (r + (n : Int)) c k := by
      unfold boxOf
      rw [List.range_succ, List.flatMap_append]
      simp
    rw [e, List.pairwise_append]
    refine ⟨box_asc r c k n, rowCells_asc _ _ _, fun a ha b hb => .inl ?_⟩
    have := box_mem.mp ha
    have := rowCells_mem hb
    omega
/-- the count of cells tells the rectangle -/
theorem rect_count {cs : List Cell} {a b c d : Int} (nd : cs.Nodup) (ha : a ∈ cs.map (·.1)) (ha' : ∀ x ∈ cs.map (·.1), a ≤ x) (hb : b ∈ cs.map (·.1)) (hb' : ∀ x ∈ cs.map (·.1), x ≤ b)
    (hc : c ∈ cs.map (·.2)) (hc' : ∀ x ∈ cs.map (·.2), c ≤ x) (hd : d ∈ cs.map (·.2)) (hd' : ∀ x ∈ cs.map (·.2), x ≤ d) : decide ((cs.length : Int) = (b - a + 1) * (d - c + 1)) = rectB cs := by
  have hab : a ≤ b := ha' b hb
  have hcd : c ≤ d := hc' d hd
  have inb : ∀ x ∈ cs, x ∈ boxOf a c (b - a + 1).toNat (d - c + 1).toNat := fun x hx => by
    have h1 := ha' x.1 (List.mem_map.mpr ⟨x, hx, rfl⟩)
    have h2 := hb' x.1 (List.mem_map.mpr ⟨x, hx, rfl⟩)
    have h3 := hc' x.2 (List.mem_map.mpr ⟨x, hx, rfl⟩)
    have h4 := hd' x.2 (List.mem_map.mpr ⟨x, hx, rfl⟩)
    exact box_mem.mpr ⟨h1, by omega, h3, by omega⟩
  have area : (((b - a + 1).toNat * (d - c + 1).toNat : Nat) : Int) = (b - a + 1) * (d - c + 1) := by
    rw [Int.natCast_mul, Int.toNat_of_nonneg (by omega), Int.toNat_of_nonneg (by omega)]
  have le1 := len_of_subset nd inb
  rw [box_len] at le1
  by_cases h : Full cs
  · rw [rectB_true h]
    have le2 : (boxOf a c (b - a + 1).toNat (d - c + 1).toNat).length ≤ cs.length := len_of_subset (nodup_of_asc (box_asc _ _ _ _)) fun x hx => by
      have := box_mem.mp hx
      obtain ⟨xa, ma, ea⟩ := List.mem_map.mp ha
      obtain ⟨xb, mb, eb⟩ := List.mem_map.mp hb
      obtain ⟨xc, mc, ec⟩ := List.mem_map.mp hc
      obtain ⟨xd, md, ed⟩ := List.mem_map.mp hd
      have := h x.1 x.2 ⟨xa, ma, by omega⟩ ⟨xb, mb, by omega⟩ ⟨xc, mc, by omega⟩ ⟨xd, md, by omega⟩
      exact this
    rw [box_len] at le2
    exact decide_eq_true (by rw [← area]; omega)
  · rw [rectB_false h]
    refine decide_eq_false fun e => h ?_
    rw [← area] at e
    have e' : cs.length = (b - a + 1).toNat * (d - c + 1).toNat := by omega
    intro r k ⟨x1, m1, q1⟩ ⟨x2, m2, q2⟩ ⟨x3, m3, q3⟩ ⟨x4, m4, q4⟩
    have h1 := ha' x1.1 (List.mem_map.mpr ⟨x1, m1, rfl⟩)
    have h2 := hb' x2.1 (List.mem_map.mpr ⟨x2, m2, rfl⟩)
    have h3 := hc' x3.2 (List.mem_map.mpr ⟨x3, m3, rfl⟩)
    have h4 := hd' x4.2 (List.mem_map.mpr ⟨x4, m4, rfl⟩)
    have hin : ((r, k) : Cell) ∈ boxOf a c (b - a + 1).toNat (d - c + 1).toNat := box_mem.mpr ⟨by show a ≤ r; omega, by show r < _; omega, by show c ≤ k; omega, by show k < _; omega⟩
    by_cases hm : ((r, k) : Cell) ∈ cs
    · exact hm
    · have le3 := len_of_subset (l := (r, k) :: cs) (List.nodup_cons.mpr ⟨hm, nd⟩) fun x hx => by
        rcases List.mem_cons.mp hx with z | z
        · subst z
          exact hin
        · exact inb x z
      rw [box_len, List.length_cons] at le3
      omega
end KS
namespace KS
open PySem PySem.Spec PyProof.Rows L2
abbrev sTrans : Stmt := topS 11
abbrev sRect : Stmt := topS 12
abbrev sFull : Stmt := topS 18
abbrev nTrans : List Str := ["plan", "row", "column"]
theorem scTrans : FnScope nTrans ["plan"] (defScope sTrans) := ⟨rfl, rfl, rfl, by decide +kernel, rfl, by decide +kernel, by decide +kernel⟩
abbrev nRect : List Str := ["plan", "rows", "columns", "height", "width", "row", "column"]
theorem scRect : FnScope nRect ["plan"] (defScope sRect) := ⟨rfl, rfl, rfl, by decide +kernel, rfl, by decide +kernel, by decide +kernel⟩
abbrev nFull : List Str := ["_law_spots", "_law_high", "_law_wide", "_law_low", "_law_spot", "_law_side"]
theorem scFull : FnScope nFull ["_law_spots"] (defScope sFull) := ⟨rfl, rfl, rfl, by decide +kernel, rfl, by decide +kernel, by decide +kernel⟩
def spTrans (K : PySem.W.Frag) : Sp := fun vs H Q _ => ∃ (a : Addr) (cs : List Cell), vs = [.ref a] ∧ PlanAt K H a cs ∧ Good cs ∧ cs.length ≤ 24 ∧
  ∀ H' p ds, Same H H' → PlanAt K H' p ds → ds.Perm (cs.map swp) → ds.Pairwise lt2 → Q (.ref p) H'
def spRect (K : PySem.W.Frag) : Sp := fun vs H Q _ => ∃ (a : Addr) (cs : List Cell), vs = [.ref a] ∧ PlanAt K H a cs ∧ Good cs ∧ cs.length ≤ 24 ∧ ∀ H', Same H H' → Q (.bl (rectB cs)) H'
section
variable {P : Program} {w : World} {K : PySem.W.Frag} {mg : Str → Option Value} {base : Heap}
theorem ok_trans {f fC : Addr} {fd fdC : FuncData} (F : Fun K "transposed" "transposed" sTrans f fd) (GC : FnOk P w K mg base CX0 5 fC fdC ["plan"] (spCheck K)) (bC : Binds K fdC ["plan"] []) (gC : mg "check_plan" = some (.ref fC)) (kC : PySem.W.keepIn K (.ref fC) = true)
    (mT : mg "tuple" = none) (mS : mg "sorted" = none) : FnOk P w K mg base CX0 6 f fd ["plan"] (spTrans K) := by
  refine F.ok scTrans (fun vs H Q E h => ?_) (fun cdv A outer s H vs Q E hr h => ?_)
  · obtain ⟨a, cs, rfl, _⟩ := h
    rfl
  · obtain ⟨a, cs, rfl, hpl, gd, hl, q⟩ := h
    have nd := scTrans.nd
    refine ⟨_, pss_cons (ps_expr (pe_call GC hr (by rfl) gC kC bC .nil pass0 (pa_cons (pv 0) pa_nil)))
      (pss_one (ps_ret (pe_callTy cr_tupOf (by rfl) mT (by decide +kernel) (pa_cons (pe_callB cr_sortedPO (by rfl) mS (by decide +kernel) (pa_cons
        (pe_lc (own := [("row", 1), ("column", 2)]) (g := gTup K 2 (gCons (gName 1) (gCons (gName 2) gNil))) (tt := tYes) rfl nd (pi_tup (pv 0)) (blkOk_by (N := nTrans) (sc := defScope sTrans) (by decide +kernel))
          (fun _ _ _ _ _ => pg_tup (by rfl) (pgs_cons (pg_name (i := 1) nd rfl (Or.inl rfl)) (pgs_cons (pg_name (i := 2) nd rfl (Or.inl rfl)) pgs_nil))) (fun _ _ _ _ _ => pts_nil)
          (fun _ _ _ _ _ => pe_tup (pa_cons (pv 2) (pa_cons (pv 1) pa_nil)))) pa_nil)) pa_nil)))), ?_⟩
    refine ⟨_, rfl, a, cs, rfl, hpl, gd, hl, fun H1 s1 => ?_⟩
    obtain ⟨xs, hx, hc⟩ := hpl.kt (.of_same s1)
    have hlen := Paired.length hc
    refine ⟨_, rfl, a, rfl, ⟨_, hx⟩, fun D nD => ?_⟩
    refine lc_tup (K := K) (a := a) (xs := xs) (fun j H3 => ∃ acc : List V, H3 D = some (.lst acc) ∧ NewCells H3 acc ((cs.take j).map swp) ∧ (∀ b o, b ≠ D → H1 b = some o → H3 b = some o)) ?_ ?_ ?_ ?_
    · exact ⟨[], upd_same, .nil, fun b o n e => by rw [upd_ne n]; exact e⟩
    · rintro j H3 _ ⟨acc, a1, a2, a3⟩
      exact same_seqT (fun b o e => a3 b o (ne_of_none e nD) e) hx
    · rintro j x H3 hj ⟨acc, a1, a2, a3⟩
      have sD : Same H1 H3 := fun b o e => a3 b o (ne_of_none e nD) e
      obtain ⟨c, hcj, t, rfl, ht⟩ := paired_get hc hj
      have hal : acc.length ≤ 24 := by
        rw [Paired.length a2, List.length_map, List.length_take]
        omega
      refine ⟨t, _, rfl, same_seqT sD ht, rfl, _, _, rfl, _, _, rfl, rfl, rfl, _, rfl, _, rfl, (by show 2 ≤ sizeLine; decide), fun z nz => ?_⟩
      have sz := same_new (o := .tup [.int c.2, .int c.1]) nz
      have nDz : D ≠ z := ne_of_none a1 nz
      refine ⟨acc, sz _ _ a1, small64 (by omega), acc ++ [.ref z], upd_same, ?_, fun b o n e => ?_⟩
      · rw [List.take_add_one, hcj, List.map_append]
        refine paired_append (newCells_mono (fun t' ys e2 => by
          rw [upd_ne (ne_of e2 a1 (by intro q; cases q))]
          exact sz _ _ e2) a2) (.cons ⟨z, rfl, ?_⟩ .nil)
        rw [upd_ne (Ne.symm nDz), upd_same]
        rfl
      · rw [upd_ne n]
        exact sz _ _ (a3 b o n e)
    · rintro H3 ⟨acc, a1, a2, a3⟩
      have sD : Same H1 H3 := fun b o e => a3 b o (ne_of_none e nD) e
      rw [hlen, List.take_length] at a2
      refine ⟨D, acc, keyOf H3, rfl, SqL.of a1, newCells_mem a2, fun ys pS srt stb npS => ?_⟩
      have sS := same_new (o := .lst ys) npS
      obtain ⟨c1, c2, c3⟩ := sorted_cells (K := K) a2 (nodup_swp (nodup_of_asc gd.asc)) srt stb.perm
      refine ⟨pS, ys, rfl, .inl ⟨SqL.of upd_same, fun m2 nm2 => ?_⟩⟩
      have sM := same_new (o := .tup ys) nm2
      exact q _ m2 _ ((s1.trans sD).trans (sS.trans sM)) ⟨ys, SqT.of upd_same, cells_kt (.of_same (sS.trans sM)) c1⟩ c2 c3
theorem ok_rect {f fC : Addr} {fd fdC : FuncData} (F : Fun K "is_rectangle" "is_rectangle" sRect f fd) (GC : FnOk P w K mg base CX0 5 fC fdC ["plan"] (spCheck K)) (bC : Binds K fdC ["plan"] []) (gC : mg "check_plan" = some (.ref fC)) (kC : PySem.W.keepIn K (.ref fC) = true)
    (mx : mg "max" = none) (mn : mg "min" = none) (ml : mg "len" = none) : FnOk P w K mg base CX0 6 f fd ["plan"] (spRect K) := by
  refine F.ok scRect (fun vs H Q E h => ?_) (fun cdv A outer s H vs Q E hr h => ?_)
  · obtain ⟨a, cs, rfl, _⟩ := h
    rfl
  · obtain ⟨a, cs, rfl, hpl, gd, hl, q⟩ := h
    have nd := scRect.nd
    refine ⟨_, pss_cons (ps_expr (pe_call GC hr (by rfl) gC kC bC .nil pass0 (pa_cons (pv 0) pa_nil)))
      (pss_cons (ps_setLc (i := 1) (own := [("row", 5), ("column", 6)]) (g := gTup K 2 (gCons (gName 5) (gCons (gName 6) gNil))) (tt := tYes) rfl nd rfl rfl (sw_true rfl rfl rfl (by decide +kernel)) (pi_tup (pv 0)) (blkOk_by (N := nRect) (sc := defScope sRect) (by decide +kernel))
          (fun _ _ _ _ _ => pg_tup (by rfl) (pgs_cons (pg_name (i := 5) nd rfl (Or.inl rfl)) (pgs_cons (pg_name (i := 6) nd rfl (Or.inl rfl)) pgs_nil))) (fun _ _ _ _ _ => pts_nil) (fun _ _ _ _ _ => pv 5))
      (pss_cons (ps_setLc (i := 2) (own := [("row", 5), ("column", 6)]) (g := gTup K 2 (gCons (gName 5) (gCons (gName 6) gNil))) (tt := tYes) rfl nd rfl rfl (sw_true rfl rfl rfl (by decide +kernel)) (pi_tup (pv 0)) (blkOk_by (N := nRect) (sc := defScope sRect) (by decide +kernel))
          (fun _ _ _ _ _ => pg_tup (by rfl) (pgs_cons (pg_name (i := 5) nd rfl (Or.inl rfl)) (pgs_cons (pg_name (i := 6) nd rfl (Or.inl rfl)) pgs_nil))) (fun _ _ _ _ _ => pts_nil) (fun _ _ _ _ _ => pv 6))
      (pss_cons (ps_set (i := 3) nd rfl (.inl rfl) (pe_op op_add (pe_op op_sub (pe_callB (cr_max rfl) (by rfl) mx (by decide +kernel) (pa_cons (pv 1) pa_nil)) (pe_callB (cr_min rfl) (by rfl) mn (by decide +kernel) (pa_cons (pv 1) pa_nil))) pe_int))
      (pss_cons (ps_set (i := 4) nd rfl (.inl rfl) (pe_op op_add (pe_op op_sub (pe_callB (cr_max rfl) (by rfl) mx (by decide +kernel) (pa_cons (pv 2) pa_nil)) (pe_callB (cr_min rfl) (by rfl) mn (by decide +kernel) (pa_cons (pv 2) pa_nil))) pe_int))
      (pss_one (ps_ret (pe_cmpR op_eq (pe_callB call_len_seq (by rfl) ml PySem.boot_len (pa_cons (pv 0) pa_nil)) (pe_op op_mul (pv 3) (pv 4)) (nomark _)))))))), ?_⟩
    refine ⟨_, rfl, a, cs, rfl, hpl, gd, hl, fun H1 s1 => ?_⟩
    obtain ⟨xs, hx, hc⟩ := hpl.kt (.of_same s1)
    have hlen := Paired.length hc
    have hpos : 0 < cs.length := by
      rcases Nat.eq_zero_or_pos cs.length with z | z
      · exact absurd (List.eq_nil_of_length_eq_zero z) gd.ne
      · exact z
    refine ⟨_, rfl, a, rfl, ⟨_, hx⟩, fun D nD => ?_⟩
    refine lc_tup (K := K) (a := a) (xs := xs) (fun j H3 => H3 D = some (.lst (((cs.take j).map (·.1)).map V.int)) ∧ (∀ b o, b ≠ D → H1 b = some o → H3 b = some o)) ?_ ?_ ?_ ?_
    · exact ⟨upd_same, fun b o n e => by rw [upd_ne n]; exact e⟩
    · rintro j H3 _ ⟨a1, a3⟩
      exact same_seqT (fun b o e => a3 b o (ne_of_none e nD) e) hx
    · rintro j x H3 hj ⟨a1, a3⟩
      have sD : Same H1 H3 := fun b o e => a3 b o (ne_of_none e nD) e
      obtain ⟨c, hcj, t, rfl, ht⟩ := paired_get hc hj
      refine ⟨t, _, rfl, same_seqT sD ht, rfl, _, _, rfl, _, _, rfl, rfl, rfl, _, rfl, _, a1, ?_, ?_, fun b o n e => ?_⟩
      · rw [List.length_map, List.length_map, List.length_take]
        exact small64 (by omega)
      · rw [upd_same, List.take_add_one, hcj, List.map_append, List.map_append]
        rfl
      · rw [upd_ne n]
        exact a3 b o n e
    rintro H3 ⟨a1, a3⟩
    have sD : Same H1 H3 := fun b o e => a3 b o (ne_of_none e nD) e
    rw [hlen, List.take_length] at a1
    have hx3 := same_seqT sD hx
    refine ⟨_, rfl, a, rfl, ⟨_, hx3⟩, fun D2 nD2 => ?_⟩
    have nDD : D ≠ D2 := ne_of_none a1 nD2
    refine lc_tup (K := K) (a := a) (xs := xs) (fun j H4 => H4 D2 = some (.lst (((cs.take j).map (·.2)).map V.int)) ∧ (∀ b o, b ≠ D2 → H3 b = some o → H4 b = some o)) ?_ ?_ ?_ ?_
    · exact ⟨upd_same, fun b o n e => by rw [upd_ne n]; exact e⟩
    · rintro j H4 _ ⟨b1, b3⟩
      exact same_seqT (fun b o e => b3 b o (ne_of_none e nD2) e) hx3
    · rintro j x H4 hj ⟨b1, b3⟩
      have sD2 : Same H3 H4 := fun b o e => b3 b o (ne_of_none e nD2) e
      obtain ⟨c, hcj, t, rfl, ht⟩ := paired_get hc hj
      refine ⟨t, _, rfl, same_seqT (sD.trans sD2) ht, rfl, _, _, rfl, _, _, rfl, rfl, rfl, _, rfl, _, b1, ?_, ?_, fun b o n e => ?_⟩
      · rw [List.length_map, List.length_map, List.length_take]
        exact small64 (by omega)
      · rw [upd_same, List.take_add_one, hcj, List.map_append, List.map_append]
        rfl
      · rw [upd_ne n]
        exact b3 b o n e
    rintro H4 ⟨b1, b3⟩
    have sD2 : Same H3 H4 := fun b o e => b3 b o (ne_of_none e nD2) e
    rw [hlen, List.take_length] at b1
    have a1' := b3 _ _ nDD a1
    have p1 : 0 < (cs.map (·.1)).length := by rw [List.length_map]; exact hpos
    have p2 : 0 < (cs.map (·.2)).length := by rw [List.length_map]; exact hpos
    refine ⟨_, rfl, D, _, rfl, SqL.of a1', p1, fun b hb hb' => ⟨_, rfl, D, _, rfl, SqL.of a1', p1, fun aa ha ha' => ⟨_, _, rfl, rfl, _, _, rfl, rfl, ?_⟩⟩⟩
    refine ⟨_, rfl, D2, _, rfl, SqL.of b1, p2, fun d hd hd' => ⟨_, rfl, D2, _, rfl, SqL.of b1, p2, fun c hc1 hc' => ⟨_, _, rfl, rfl, _, _, rfl, rfl, ?_⟩⟩⟩
    have gr1 : ∀ x ∈ cs.map (·.1), 0 ≤ x ∧ x ≤ 7 := fun x hx => by
      obtain ⟨c, hc, rfl⟩ := List.mem_map.mp hx
      have := gd.grid c hc
      unfold InGrid at this
      omega
    have g1 := gr1 _ hb
    have g2 := gr1 _ ha
    refine ⟨_, rfl, a, xs, rfl, .inr (same_seqT sD2 hx3), _, rfl, _, rfl, _, _, rfl, rfl, .inl ⟨by omega, by omega⟩, rfl, ?_⟩
    have key := rect_count (nodup_of_asc gd.asc) ha ha' hb hb' hc1 hc' hd hd'
    have e1 : decide (V.int (xs.length : Int) = V.int ((b - aa + 1) * (d - c + 1))) = rectB cs := by
      rw [← key, hlen]
      by_cases z : (cs.length : Int) = (b - aa + 1) * (d - c + 1)
      · rw [decide_eq_true z, decide_eq_true (by rw [z])]
      · rw [decide_eq_false z, decide_eq_false fun y => z (V.int.inj y)]
    show Q (V.bl (decide (V.int (xs.length : Int) = V.int ((b - aa + 1) * (d - c + 1))))) H4
    rw [e1]
    exact q H4 (s1.trans (sD.trans sD2))
end
end KS
namespace KS
open PySem PySem.Spec PyProof.Rows L2
/-- which cells of a row stand -/
def rowB (cs : List Cell) (r c : Int) (n : Nat) : List Bool := (List.range n).map fun (s : Nat) => decide ((r, c + (s : Int)) ∈ cs)
theorem rowB_succ (cs : List Cell) (r c : Int) (n : Nat) : rowB cs r c (n + 1) = rowB cs r c n ++ [decide ((r, c + (n : Int)) ∈ cs)] := by
  unfold rowB
  rw [List.range_succ, List.map_append]
  rfl
theorem rowB_len (cs : List Cell) (r c : Int) (n : Nat) : (rowB cs r c n).length = n := by
  unfold rowB
  rw [List.length_map, List.length_range]
theorem rowB_all {cs : List Cell} {r c : Int} {n : Nat} : (rowB cs r c n).all id = true ↔ ∀ k : Int, c ≤ k → k < c + n → (r, k) ∈ cs := by
  unfold rowB
  rw [List.all_eq_true]
  constructor
  · intro h k h1 h2
    have := h (decide ((r, c + ((k - c).toNat : Int)) ∈ cs)) (List.mem_map.mpr ⟨(k - c).toNat, List.mem_range.mpr (by omega), rfl⟩)
    have e : c + ((k - c).toNat : Int) = k := by omega
    rw [e] at this
    exact of_decide_eq_true this
  · intro h x hx
    obtain ⟨s, hs, rfl⟩ := List.mem_map.mp hx
    have := List.mem_range.mp hs
    exact decide_eq_true (h _ (by omega) (by omega))
section
variable {P : Program} {w : World} {K : PySem.W.Frag} {mg : Str → Option Value} {base : Heap}
theorem ok_full {f : Addr} {fd : FuncData} (F : Fun K "_law_full" "_law_full" sFull f fd)
    (mr : mg "range" = none) (mx : mg "max" = none) (mn : mg "min" = none) (ma : mg "all" = none) : FnOk P w K mg base CX0 1 f fd ["_law_spots"] (spRect K) := by
  refine F.ok scFull (fun vs H Q E h => ?_) (fun cdv A outer s H vs Q E hr h => ?_)
  · obtain ⟨a, cs, rfl, _⟩ := h
    rfl
  · obtain ⟨a, cs, rfl, ⟨xs, hx, hc⟩, gd, hl, q⟩ := h
    have nd := scFull.nd
    have hu : (A.deeper (envOfC "_law_full" (defScope sFull) s.heap.objs.size f cdv)).units + 65 < cLine := by
      have := hr.un
      omega
    refine ⟨_, pss_cons (ps_par (i := 1) (j := 2) (by rfl) nd rfl rfl (by decide) rfl rfl
        (pa_cons (pe_lc (own := [("_law_spot", 4)]) (g := gName 4) (tt := tYes) rfl nd (pi_tup (pv 0)) (blkOk_by (N := nFull) (sc := defScope sFull) (by decide +kernel))
            (fun _ _ _ _ _ => pg_name (i := 4) nd rfl (Or.inl rfl)) (fun _ _ _ _ _ => pts_nil) (fun _ _ _ _ _ => pe_ix (r := rIxT K) ix_tup (pv 4) pe_int (fun _ _ => rfl)))
          (pa_cons (pe_lc (own := [("_law_spot", 4)]) (g := gName 4) (tt := tYes) rfl nd (pi_tup (pv 0)) (blkOk_by (N := nFull) (sc := defScope sFull) (by decide +kernel))
            (fun _ _ _ _ _ => pg_name (i := 4) nd rfl (Or.inl rfl)) (fun _ _ _ _ _ => pts_nil) (fun _ _ _ _ _ => pe_ix (r := rIxT K) ix_tup (pv 4) pe_int (fun _ _ => rfl))) pa_nil)) (by rfl))
      (pss_cons (ps_for PassesOwn.never rfl (pi_range2 (by rfl) mr (pa_cons (pe_callB (cr_min rfl) (by rfl) mn (by decide +kernel) (pa_cons (pv 1) pa_nil))
          (pa_cons (pe_op op_add (pe_callB (cr_max rfl) (by rfl) mx (by decide +kernel) (pa_cons (pv 1) pa_nil)) pe_int) pa_nil))) (pg_name (i := 3) nd rfl (.inr rfl))
        (pss_one (ps_if (pt_not (pt_val (pe_callB (cr_all rfl) (by rfl) ma (by decide +kernel) (pa_cons
            (pe_lc (own := [("_law_side", 5)]) (g := gName 5) (tt := tYes) rfl nd (pi_range2 (by rfl) mr (pa_cons (pe_callB (cr_min rfl) (by rfl) mn (by decide +kernel) (pa_cons (pv 2) pa_nil))
              (pa_cons (pe_op op_add (pe_callB (cr_max rfl) (by rfl) mx (by decide +kernel) (pa_cons (pv 2) pa_nil)) pe_int) pa_nil))) (blkOk_by (N := nFull) (sc := defScope sFull) (by decide +kernel))
              (fun _ _ _ _ _ => pg_name (i := 5) nd rfl (Or.inl rfl)) (fun _ _ _ _ _ => pts_nil) (fun _ _ _ _ _ => pe_cmpR (r := rInT K) (op_inT hu) (pe_tup (pa_cons (pv 3) (pa_cons (pv 5) pa_nil))) (pv 0) (by rfl))) pa_nil))))
          (pss_one (ps_ret pe_bl)) pss_nil)))
      (pss_one (ps_ret pe_bl))), ?_⟩
    have hlen := Paired.length hc
    have hpos : 0 < cs.length := by
      rcases Nat.eq_zero_or_pos cs.length with z | z
      · exact absurd (List.eq_nil_of_length_eq_zero z) gd.ne
      · exact z
    refine ⟨_, rfl, a, rfl, ⟨_, hx⟩, fun D nD => ?_⟩
    refine lc_tup (K := K) (a := a) (xs := xs) (fun j H3 => H3 D = some (.lst (((cs.take j).map (·.1)).map V.int)) ∧ (∀ b o, b ≠ D → H b = some o → H3 b = some o)) ?_ ?_ ?_ ?_
    · exact ⟨upd_same, fun b o n e => by rw [upd_ne n]; exact e⟩
    · rintro j H3 _ ⟨a1, a3⟩
      exact same_seqT (fun b o e => a3 b o (ne_of_none e nD) e) hx
    · rintro j x H3 hj ⟨a1, a3⟩
      have sD : Same H H3 := fun b o e => a3 b o (ne_of_none e nD) e
      obtain ⟨c, hcj, t, rfl, ht⟩ := paired_get hc hj
      refine ⟨rfl, _, rfl, t, _, 0, .int c.1, rfl, rfl, same_seqT sD ht, rfl, _, a1, ?_, ?_, fun b o n e => ?_⟩
      · rw [List.length_map, List.length_map, List.length_take]
        exact small64 (by omega)
      · rw [upd_same, List.take_add_one, hcj, List.map_append, List.map_append]
        rfl
      · rw [upd_ne n]
        exact a3 b o n e
    rintro H3 ⟨a1, a3⟩
    have sD : Same H H3 := fun b o e => a3 b o (ne_of_none e nD) e
    rw [hlen, List.take_length] at a1
    have hx3 := same_seqT sD hx
    refine ⟨_, rfl, a, rfl, ⟨_, hx3⟩, fun D2 nD2 => ?_⟩
    have nDD : D ≠ D2 := ne_of_none a1 nD2
    refine lc_tup (K := K) (a := a) (xs := xs) (fun j H4 => H4 D2 = some (.lst (((cs.take j).map (·.2)).map V.int)) ∧ (∀ b o, b ≠ D2 → H3 b = some o → H4 b = some o)) ?_ ?_ ?_ ?_
    · exact ⟨upd_same, fun b o n e => by rw [upd_ne n]; exact e⟩
    · rintro j H4 _ ⟨b1, b3⟩
      exact same_seqT (fun b o e => b3 b o (ne_of_none e nD2) e) hx3
    · rintro j x H4 hj ⟨b1, b3⟩
      have sD2 : Same H3 H4 := fun b o e => b3 b o (ne_of_none e nD2) e
      obtain ⟨c, hcj, t, rfl, ht⟩ := paired_get hc hj
      refine ⟨rfl, _, rfl, t, _, 1, .int c.2, rfl, rfl, same_seqT (sD.trans sD2) ht, rfl, _, b1, ?_, ?_, fun b o n e => ?_⟩
      · rw [List.length_map, List.length_map, List.length_take]
        exact small64 (by omega)
      · rw [upd_same, List.take_add_one, hcj, List.map_append, List.map_append]
        rfl
      · rw [upd_ne n]
        exact b3 b o n e
    rintro H4 ⟨b1, b3⟩
    have sD2 : Same H3 H4 := fun b o e => b3 b o (ne_of_none e nD2) e
    rw [hlen, List.take_length] at b1
    have a1' := b3 _ _ nDD a1
    have p1 : 0 < (cs.map (·.1)).length := by rw [List.length_map]; exact hpos
    have p2 : 0 < (cs.map (·.2)).length := by rw [List.length_map]; exact hpos
    have gr1 : ∀ x ∈ cs.map (·.1), 0 ≤ x ∧ x ≤ 7 := fun x hx => by
      obtain ⟨c, hc, rfl⟩ := List.mem_map.mp hx
      have := gd.grid c hc
      unfold InGrid at this
      omega
    have gr2 : ∀ x ∈ cs.map (·.2), 0 ≤ x ∧ x ≤ 7 := fun x hx => by
      obtain ⟨c, hc, rfl⟩ := List.mem_map.mp hx
      have := gd.grid c hc
      unfold InGrid at this
      omega
    refine ⟨_, _, rfl, ?_⟩
    refine ⟨_, rfl, D, _, rfl, SqL.of a1', p1, fun lo hlo hlo' => ⟨_, rfl, D, _, rfl, SqL.of a1', p1, fun hi hhi hhi' => ⟨_, _, rfl, rfl, lo, hi + 1, rfl, ?_, ?_⟩⟩⟩
    · have := gr1 _ hlo
      have := gr1 _ hhi
      exact ⟨by omega, by omega, by omega, by omega⟩
    have s34 := sD.trans sD2
    refine for_range (lo := lo) (n := (hi + 1 - lo).toNat) (fun i σ H' => ∃ y3 : Option V, σ = [some (.ref a), some (.ref D), some (.ref D2), y3, none, none] ∧ Same H4 H' ∧
      (∀ r k : Int, lo ≤ r → r < lo + i → (∃ c ∈ cs, c.2 ≤ k) → (∃ c ∈ cs, k ≤ c.2) → (r, k) ∈ cs)) ?_ ?_ ?_
    · exact ⟨none, rfl, Same.refl _, fun r k h1 h2 => by
        have : (((0 : Nat) : Int)) = 0 := rfl
        omega⟩
    · rintro i σ H' hi' ⟨y3, rfl, sm, inv⟩
      have b1' := sm _ _ b1
      refine ⟨_, rfl, D2, _, rfl, SqL.of b1', p2, fun c0 hc0 hc0' => ⟨_, rfl, D2, _, rfl, SqL.of b1', p2, fun c1 hc1 hc1' => ⟨_, _, rfl, rfl, c0, c1 + 1, rfl, ?_, fun D3 nD3 => ?_⟩⟩⟩
      · have := gr2 _ hc0
        have := gr2 _ hc1
        exact ⟨by omega, by omega, by omega, by omega⟩
      have g0 := gr2 _ hc0
      have g1 := gr2 _ hc1
      refine lc_range (lo := c0) (n := (c1 + 1 - c0).toNat) (fun j G => G D3 = some (.lst ((rowB cs (lo + i) c0 j).map V.bl)) ∧ (∀ b o, b ≠ D3 → H' b = some o → G b = some o)) ?_ ?_ ?_
      · exact ⟨upd_same, fun b o n e => by rw [upd_ne n]; exact e⟩
      · rintro j G hj ⟨d1, d3⟩
        have sD3 : Same H' G := fun b o e => d3 b o (ne_of_none e nD3) e
        refine ⟨rfl, _, rfl, _, rfl, (by show 2 ≤ sizeLine; decide), fun t nt => ?_⟩
        have st := same_new (o := .tup [.int (lo + (i : Int)), .int (c0 + (j : Int))]) nt
        have sa := ((s34.trans sm).trans sD3).trans st
        refine ⟨_, rfl, cellD (lo + (i : Int), c0 + (j : Int)), cs.map cellD, dp_cell (SqT.of upd_same), PlanAt.dp ⟨xs, same_seqT sa hx, cells_kt (.of_same sa) hc⟩, cell_shaped _, plan_shaped cs, _, st _ _ d1, ?_, ?_, fun b o n e => ?_⟩
        · rw [List.length_map, rowB_len]
          exact small64 (by omega)
        · rw [upd_same, rowB_succ, List.map_append, in_plan]
          rfl
        · rw [upd_ne n]
          exact st _ _ (d3 b o n e)
      · rintro G ⟨d1, d3⟩
        have sD3 : Same H' G := fun b o e => d3 b o (ne_of_none e nD3) e
        refine ⟨D3, _, rfl, SqL.of d1, _, rfl, ?_⟩
        cases hall : (rowB cs (lo + i) c0 (c1 + 1 - c0).toNat).all id with
        | true =>
          refine ⟨_, rfl, sm.trans sD3, fun r k h1 h2 h3 h4 => ?_⟩
          by_cases hr' : r < lo + (i : Int)
          · exact inv r k h1 hr' h3 h4
          · have er : r = lo + (i : Int) := by omega
            subst er
            obtain ⟨x3, m3, q3⟩ := h3
            obtain ⟨x4, m4, q4⟩ := h4
            have l1 := hc0' x3.2 (List.mem_map.mpr ⟨x3, m3, rfl⟩)
            have l2 := hc1' x4.2 (List.mem_map.mpr ⟨x4, m4, rfl⟩)
            exact (rowB_all.mp hall) k (by omega) (by omega)
        | false =>
          have nf : ¬ Full cs := fun ff => by
            have : (rowB cs (lo + i) c0 (c1 + 1 - c0).toNat).all id = true := rowB_all.mpr fun k k1 k2 => by
              obtain ⟨xl, ml, el⟩ := List.mem_map.mp hlo
              obtain ⟨xh, mh, eh⟩ := List.mem_map.mp hhi
              obtain ⟨x0, m0, e0⟩ := List.mem_map.mp hc0
              obtain ⟨x1, m1, e1⟩ := List.mem_map.mp hc1
              exact ff _ k ⟨xl, ml, by omega⟩ ⟨xh, mh, by omega⟩ ⟨x0, m0, by omega⟩ ⟨x1, m1, by omega⟩
            rw [this] at hall
            cases hall
          have := q G (s34.trans (sm.trans sD3))
          rw [rectB_false nf] at this
          exact this
    · rintro σ H' ⟨y3, rfl, sm, inv⟩
      have ff : Full cs := by
        intro r k ⟨x1, m1, q1⟩ ⟨x2, m2, q2⟩ h3 h4
        have l1 := hlo' x1.1 (List.mem_map.mpr ⟨x1, m1, rfl⟩)
        have l2 := hhi' x2.1 (List.mem_map.mpr ⟨x2, m2, rfl⟩)
        exact inv r k (by omega) (by omega) h3 h4
      have := q H' (s34.trans sm)
      rw [rectB_true ff] at this
      exact this
end
end KS
namespace KS
open PySem PySem.Spec PyProof.Rows L2
abbrev sLaw : Stmt := topS 21
abbrev nLaw : List Str := ["_law_script", "_law_k"]
theorem scLaw : FnScope nLaw ["_law_script"] (defScope sLaw) := ⟨rfl, rfl, rfl, by decide +kernel, rfl, by decide +kernel, by decide +kernel⟩
section
variable {P : Program} {w : World} {K : PySem.W.Frag} {mg : Str → Option Value} {base : Heap}
theorem ok_law8 {f fC fP fR : Addr} {fd fdC fdP fdR : FuncData} (F : Fun K "law" "law" sLaw f fd)
    (GC : FnOk P w K mg base CX0 1 fC fdC ["_law_script", "_law_k"] (spCell K)) (bC : Binds K fdC ["_law_script", "_law_k"] []) (gC : mg "_law_cell" = some (.ref fC)) (kC : PySem.W.keepIn K (.ref fC) = true)
    (GP : FnOk P w K mg base CX0 1 fP fdP ["_law_number"] spPool) (bP : Binds K fdP ["_law_number"] []) (gP : mg "_law_pool" = some (.ref fP)) (kP : PySem.W.keepIn K (.ref fP) = true)
    {nR : Nat} (GR : FnG P w K mg base (nR + 1) fR fdR ["_law_pool_here"] spRight) (bR : Binds K fdR ["_law_pool_here"] []) (gR : mg "_law_right" = some (.ref fR)) (kR : PySem.W.keepIn K (.ref fR) = true)
    (ma : mg "all" = none) (mr : mg "range" = none) (mx : mg "max" = none) (mn : mg "min" = none) (ml : mg "len" = none) : FnG P w K mg base (nR + 2) f fd ["_law_script"] (spLaw K) := by
  refine okG F scLaw (fun vs H Q E h => ?_) (fun cdv A outer s H vs Q E hr hgd h => ?_)
  · obtain ⟨a, ns, rfl, _⟩ := h
    rfl
  · obtain ⟨a, ns, rfl, hS, hl, q⟩ := h
    have nd := scLaw.nd
    have hr1 : Room 1 _ := hr.mono (by omega)
    refine ⟨_, pss_one (ps_ret (pe_callB (cr_all rfl) (by rfl) ma (by decide +kernel) (pa_cons
      (pe_lc (own := [("_law_k", 1)]) (g := gName 1) (tt := tYes) rfl nd (pi_range1 (by rfl) mr (pa_cons (pe_callB (call_max2 rfl) (by rfl) mx (by decide +kernel) (pa_cons pe_int (pa_cons (pe_callB (call_min2 rfl) (by rfl) mn (by decide +kernel)
          (pa_cons (pe_callB call_len_seq (by rfl) ml PySem.boot_len (pa_cons (pv 0) pa_nil)) (pa_cons pe_int pa_nil))) pa_nil))) pa_nil)) (blkOk_by (N := nLaw) (sc := defScope sLaw) (by decide +kernel))
        (fun _ _ _ _ _ => pg_name (i := 1) nd rfl (Or.inl rfl)) (fun _ _ _ _ _ => pts_nil)
        (fun _ _ _ _ _ => pe_callG GR hr hgd (by rfl) gR kR bR (pa_cons (pe_call GP hr1 (by rfl) gP kP bP .nil pass0 (pa_cons (pe_call GC hr1 (by rfl) gC kC bC .nil pass0 (pa_cons (pv 0) (pa_cons (pv 1) pa_nil))) pa_nil)) pa_nil))) pa_nil))), ?_⟩
    refine ⟨_, rfl, a, _, rfl, .inl hS, _, _, rfl, _, _, rfl, _, rfl, ?_, ?_, fun D nD => ?_⟩
    · split <;> split <;> omega
    · split <;> split <;> omega
    generalize hN : (if (if (8 : Int) < ((ns.map V.int).length : Int) then (8 : Int) else ((ns.map V.int).length : Int)) > 2 then (if (8 : Int) < ((ns.map V.int).length : Int) then (8 : Int) else ((ns.map V.int).length : Int)) else 2) = N
    have hNb : 0 ≤ N ∧ N ≤ 8 := by
      rw [← hN]
      split <;> split <;> omega
    refine lc_range (lo := 0) (n := N.toNat) (fun i H' => H' D = some (.lst ((List.replicate i true).map V.bl)) ∧ (∀ b o, b ≠ D → H b = some o → H' b = some o)) ?_ ?_ ?_
    · exact ⟨upd_same, fun b o n e => by rw [upd_ne n]; exact e⟩
    · rintro i H' hi ⟨a1, a2⟩
      have sD : Same H H' := fun b o e => a2 b o (ne_of_none e nD) e
      refine ⟨rfl, _, rfl, _, rfl, a, ns, i, by
        show [V.ref a, V.int (0 + (i : Int))] = _
        rw [Int.zero_add], sD.seq hS, by omega, fun H1 n s1 => ⟨n, rfl, fun H2 p s2 np po => ⟨p, rfl, po, fun H3 kx => ?_⟩⟩⟩
      have nDp : D ≠ p := ne_of_none (s1 _ _ a1) np
      have s12 := s1.trans s2
      refine ⟨_, kx _ _ nDp (s12 _ _ a1), ?_, ?_, fun b o n e => ?_⟩
      · rw [List.length_map, List.length_replicate]
        exact small64 (by omega)
      · rw [upd_same, List.replicate_succ', List.map_append]
        rfl
      · rw [upd_ne n]
        have e1 := a2 b o n e
        exact kx _ _ (ne_of_none (s1 _ _ e1) np) (s12 _ _ e1)
    · rintro H' ⟨a1, a2⟩
      refine ⟨D, _, rfl, SqL.of a1, ?_⟩
      rw [show (List.replicate N.toNat true).all id = true by simp]
      exact q H'
end
end KS
namespace KS
open PySem PySem.Spec PyProof.Rows L2
abbrev sOne : Stmt := topS 19
abbrev sRight : Stmt := topS 20
abbrev nOne : List Str := ["_law_spots", "_law_due", "_law_told", "_law_spot"]
theorem scOne : FnScope nOne ["_law_spots"] (defScope sOne) := ⟨rfl, rfl, rfl, by decide +kernel, rfl, by decide +kernel, by decide +kernel⟩
abbrev nRight : List Str := ["_law_pool_here", "_law_spots", "_law_at", "_law_less", "_law_mirrored", "_law_spot"]
theorem scRight : FnScope nRight ["_law_pool_here"] (defScope sRight) := ⟨rfl, rfl, rfl, by decide +kernel, rfl, by decide +kernel, by decide +kernel⟩
def spOne (K : PySem.W.Frag) : Sp := fun vs H Q _ => ∃ (a : Addr) (cs : List Cell), vs = [.ref a] ∧ PlanAt K H a cs ∧ Good cs ∧ cs.length ≤ 24 ∧ ∀ H', Same H H' → Q (.bl true) H'
section
variable {P : Program} {w : World} {K : PySem.W.Frag} {mg : Str → Option Value} {base : Heap}
theorem ok_one {f fT fR fF : Addr} {fd fdT fdR fdF : FuncData} (F : Fun K "_law_one_right" "_law_one_right" sOne f fd)
    (GT : FnOk P w K mg base CX0 6 fT fdT ["plan"] (spTrans K)) (bT : Binds K fdT ["plan"] []) (wT : KwBinds fdT ["plan"] ["plan"] id id) (gT : mg "transposed" = some (.ref fT)) (kT : PySem.W.keepIn K (.ref fT) = true)
    (GR : FnOk P w K mg base CX0 6 fR fdR ["plan"] (spRect K)) (bR : Binds K fdR ["plan"] []) (wR : KwBinds fdR ["plan"] ["plan"] id id) (gR : mg "is_rectangle" = some (.ref fR)) (kR : PySem.W.keepIn K (.ref fR) = true)
    (GF : FnOk P w K mg base CX0 1 fF fdF ["_law_spots"] (spRect K)) (bF : Binds K fdF ["_law_spots"] []) (gF : mg "_law_full" = some (.ref fF)) (kF : PySem.W.keepIn K (.ref fF) = true)
    (mT : mg "tuple" = none) (mS : mg "sorted" = none) (mR : mg "repr" = none) (mi : mg "isinstance" = none) (mB : mg "bool" = none) : FnG P w K mg base 7 f fd ["_law_spots"] (spOne K) := by
  refine okG F scOne (fun vs H Q E h => ?_) (fun cdv A outer s H vs Q E hr hgd h => ?_)
  · obtain ⟨a, cs, rfl, _⟩ := h
    rfl
  · obtain ⟨a, cs, rfl, hpl, gd, hl, q⟩ := h
    have nd := scOne.nd
    have hr1 : Room 1 _ := hr.mono (by decide)
    have hu : (A.deeper (envOfC "_law_one_right" (defScope sOne) s.heap.objs.size f cdv)).units + 100 < cLine := by
      have := hr.un
      omega
    refine ⟨_, pss_cons (ps_set (i := 1) nd rfl (.inl rfl) (pe_callTy cr_tupOf (by rfl) mT (by decide +kernel) (pa_cons (pe_callB cr_sortedPO (by rfl) mS (by decide +kernel) (pa_cons
          (pe_lc (own := [("_law_spot", 3)]) (g := gName 3) (tt := tYes) rfl nd (pi_tup (pv 0)) (blkOk_by (N := nOne) (sc := defScope sOne) (by decide +kernel))
            (fun _ _ _ _ _ => pg_name (i := 3) nd rfl (Or.inl rfl)) (fun _ _ _ _ _ => pts_nil)
            (fun _ _ _ _ _ => pe_tup (pa_cons (pe_ix (r := rIxT K) ix_tup (pv 3) pe_int (fun _ _ => rfl)) (pa_cons (pe_ix (r := rIxT K) ix_tup (pv 3) pe_int (fun _ _ => rfl)) pa_nil)))) pa_nil)) pa_nil)))
      (pss_cons (ps_for PassesOwn.never rfl (pi_list (pe_lst (pa_cons (pe_call GT hr (by rfl) gT kT bT .nil pass0 (pa_cons (pv 0) pa_nil)) (pa_cons (pe_callKw GT hr (by rfl) gT kT wT pass0 (pk_cons (pv 0) pk_nil)) pa_nil)))) (pg_name (i := 2) nd rfl (.inl rfl))
        (pss_one (ps_if (pt_cmpR op_ne (pe_callB (call_reprD hgd hu) (by rfl) mR (by decide +kernel) (pa_cons (pv 2) pa_nil)) (pe_callB (call_reprD hgd hu) (by rfl) mR (by decide +kernel) (pa_cons (pv 1) pa_nil)) (nomark _))
          (pss_one (ps_ret pe_bl)) pss_nil)))
      (pss_cons (ps_for PassesOwn.never rfl (pi_list (pe_lst (pa_cons (pe_call GR hr (by rfl) gR kR bR .nil pass0 (pa_cons (pv 0) pa_nil)) (pa_cons (pe_callKw GR hr (by rfl) gR kR wR pass0 (pk_cons (pv 0) pk_nil)) pa_nil)))) (pg_name (i := 2) nd rfl (.inl rfl))
        (pss_one (ps_if (PW.pt (pw_or (pt_not (pt_val (pe_callB call_isi (by rfl) mi (by decide +kernel) (pa_cons (pv 2) (pa_cons (pe_bltn (v := .ty "bool") (by rfl) mB (by decide +kernel) rfl) pa_nil)))))
            (pw_or1 (pt_cmpR op_ne (pv 2) (pe_call GF hr1 (by rfl) gF kF bF .nil pass0 (pa_cons (pv 0) pa_nil)) (nomark _)))))
          (pss_one (ps_ret pe_bl)) pss_nil)))
      (pss_one (ps_ret (pe_and (pe_cmpR (op_eqD hr.units) (pe_call GT hr (by rfl) gT kT bT .nil pass0 (pa_cons (pv 1) pa_nil)) (pv 0) (nomark _))
        (pe_one (pe_cmpR op_eq (pe_call GR hr (by rfl) gR kR bR .nil pass0 (pa_cons (pv 1) pa_nil)) (pe_call GF hr1 (by rfl) gF kF bF .nil pass0 (pa_cons (pv 0) pa_nil)) (nomark _)))))))), ?_⟩
    obtain ⟨xs, hx, hc⟩ := id hpl
    have hlen := Paired.length hc
    refine ⟨_, rfl, a, rfl, ⟨_, hx⟩, fun D nD => ?_⟩
    refine lc_tup (K := K) (a := a) (xs := xs) (fun j H3 => ∃ acc : List V, H3 D = some (.lst acc) ∧ NewCells H3 acc ((cs.take j).map swp) ∧ (∀ b o, b ≠ D → H b = some o → H3 b = some o)) ?_ ?_ ?_ ?_
    · exact ⟨[], upd_same, .nil, fun b o n e => by rw [upd_ne n]; exact e⟩
    · rintro j H3 _ ⟨acc, a1, a2, a3⟩
      exact same_seqT (fun b o e => a3 b o (ne_of_none e nD) e) hx
    · rintro j x H3 hj ⟨acc, a1, a2, a3⟩
      have sD : Same H H3 := fun b o e => a3 b o (ne_of_none e nD) e
      obtain ⟨c, hcj, t, rfl, ht⟩ := paired_get hc hj
      have ht3 := same_seqT sD ht
      have hal : acc.length ≤ 24 := by
        rw [Paired.length a2, List.length_map, List.length_take]
        omega
      refine ⟨rfl, _, rfl, t, _, 1, .int c.2, rfl, rfl, ht3, rfl, _, rfl, t, _, 0, .int c.1, rfl, rfl, ht3, rfl, (by show 2 ≤ sizeLine; decide), fun z nz => ?_⟩
      have sz := same_new (o := .tup [.int c.2, .int c.1]) nz
      have nDz : D ≠ z := ne_of_none a1 nz
      refine ⟨acc, sz _ _ a1, small64 (by omega), acc ++ [.ref z], upd_same, ?_, fun b o n e => ?_⟩
      · rw [List.take_add_one, hcj, List.map_append]
        refine paired_append (newCells_mono (fun t' ys e2 => by
          rw [upd_ne (ne_of e2 a1 (by intro q; cases q))]
          exact sz _ _ e2) a2) (.cons ⟨z, rfl, ?_⟩ .nil)
        rw [upd_ne (Ne.symm nDz), upd_same]
        rfl
      · rw [upd_ne n]
        exact sz _ _ (a3 b o n e)
    rintro H3 ⟨acc, a1, a2, a3⟩
    have sD : Same H H3 := fun b o e => a3 b o (ne_of_none e nD) e
    rw [hlen, List.take_length] at a2
    refine ⟨D, acc, keyOf H3, rfl, SqL.of a1, newCells_mem a2, fun ys pS srt stb npS => ?_⟩
    have sS := same_new (o := .lst ys) npS
    obtain ⟨c1, c2, c3⟩ := sorted_cells (K := K) a2 (nodup_swp (nodup_of_asc gd.asc)) srt stb.perm
    refine ⟨pS, ys, rfl, .inl ⟨SqL.of upd_same, fun m2 nm2 => ?_⟩⟩
    have sM := same_new (o := .tup ys) nm2
    have s5 : Same H (upd (upd H3 pS (.lst ys)) m2 (.tup ys)) := sD.trans (sS.trans sM)
    have pl2 : PlanAt K (upd (upd H3 pS (.lst ys)) m2 (.tup ys)) m2 (ys.map (keyOf H3)) := ⟨ys, SqT.of upd_same, cells_kt (.of_same (sS.trans sM)) c1⟩
    generalize upd (upd H3 pS (.lst ys)) m2 (.tup ys) = H5 at s5 pl2
    generalize ys.map (keyOf H3) = ds at pl2 c2 c3
    obtain ⟨gm, gl⟩ := good_swp gd c2 c3
    obtain ⟨sh, dp⟩ := shows_plan gm.grid (by omega)
    -- transposed
    refine ⟨_, rfl, a, cs, rfl, hpl.kt (.of_same s5), gd, hl, fun H6 t1 d1 s6 pt1 pp1 pa1 => ?_⟩
    refine ⟨_, rfl, a, cs, rfl, hpl.kt (.of_same (s5.trans s6)), gd, hl, fun H7 t2 d2 s7 pt2 pp2 pa2 => ?_⟩
    have ed1 : d1 = ds := asc_perm pa1 c3 (pp1.trans c2.symm)
    have ed2 : d2 = ds := asc_perm pa2 c3 (pp2.trans c2.symm)
    subst ed1
    subst ed2
    refine ⟨(by show 2 ≤ sizeLine; decide), fun l1 n1 => ⟨l1, rfl, ⟨_, SqL.of upd_same⟩, ?_⟩⟩
    have s8 := same_new (o := .lst [.ref t1, .ref t2]) n1
    refine for_list (K := K) (a := l1) (xs := [.ref t1, .ref t2]) (fun i σ H' => ∃ y : Option V, σ = [some (.ref a), some (.ref m2), y, none] ∧ Same (upd H7 l1 (.lst [.ref t1, .ref t2])) H') ?_ ?_ ?_ ?_
    · exact ⟨none, rfl, Same.refl _⟩
    · rintro i σ H' _ ⟨_, _, sm⟩
      exact SqL.of (sm _ _ upd_same)
    · rintro i x σ H' hi ⟨y, rfl, sm⟩
      obtain ⟨t, rfl, hpt⟩ : ∃ t, x = .ref t ∧ PlanAt K H' t d2 := by
        have hm := List.mem_of_getElem? hi
        rcases (by simpa using hm : x = .ref t1 ∨ x = .ref t2) with z | z
        · exact ⟨t1, z, pt1.kt (.of_same ((s7.trans s8).trans sm))⟩
        · exact ⟨t2, z, pt2.kt (.of_same (s8.trans sm))⟩
      refine ⟨_, rfl, t, _, rfl, hpt.dp, sh.show_, sh.nod, sh.len (by decide), dp, _, rfl, m2, _, rfl, (pl2.kt (.of_same (((s6.trans s7).trans s8).trans sm))).dp, sh.show_, sh.nod, sh.len (by decide), dp, rfl, _, rfl, iteNS rfl ?_⟩
      exact ⟨_, rfl, sm⟩
    rintro σ H8 ⟨y, rfl, sm⟩
    have s9 : Same H H8 := s5.trans (((s6.trans s7).trans s8).trans sm)
    have pl3 : PlanAt K H8 m2 d2 := pl2.kt (.of_same (((s6.trans s7).trans s8).trans sm))
    -- is_rectangle
    refine ⟨_, rfl, a, cs, rfl, hpl.kt (.of_same s9), gd, hl, fun H9 s10 => ?_⟩
    refine ⟨_, rfl, a, cs, rfl, hpl.kt (.of_same (s9.trans s10)), gd, hl, fun H10 s11 => ?_⟩
    refine ⟨(by show 2 ≤ sizeLine; decide), fun l2 n2 => ⟨l2, rfl, ⟨_, SqL.of upd_same⟩, ?_⟩⟩
    have s12 := same_new (o := .lst [.bl (rectB cs), .bl (rectB cs)]) n2
    refine for_list (K := K) (a := l2) (xs := [.bl (rectB cs), .bl (rectB cs)]) (fun i σ H' => ∃ y : Option V, σ = [some (.ref a), some (.ref m2), y, none] ∧ Same (upd H10 l2 (.lst [.bl (rectB cs), .bl (rectB cs)])) H') ?_ ?_ ?_ ?_
    · exact ⟨_, rfl, Same.refl _⟩
    · rintro i σ H' _ ⟨_, _, sm2⟩
      exact SqL.of (sm2 _ _ upd_same)
    · rintro i x σ H' hi ⟨y, rfl, sm2⟩
      obtain rfl : x = .bl (rectB cs) := by
        have hm := List.mem_of_getElem? hi
        rcases (by simpa using hm : x = .bl (rectB cs)) with z
        exact z
      have s13 := s9.trans (((s10.trans s11).trans s12).trans sm2)
      refine ⟨_, rfl, _, _, _, _, true, rfl, .ty "bool", .base (.bl _), kit_ty (by decide +kernel), true, rfl, ?_⟩
      refine ⟨_, rfl, _, rfl, a, cs, rfl, hpl.kt (.of_same s13), gd, hl, fun H11 s14 => ⟨rfl, _, rfl, iteNS rfl ?_⟩⟩
      exact ⟨_, rfl, sm2.trans s14⟩
    rintro σ H11 ⟨y2, rfl, sm2⟩
    have s13 := s9.trans (((s10.trans s11).trans s12).trans sm2)
    have pl4 := pl3.kt (.of_same (((s10.trans s11).trans s12).trans sm2))
    refine ⟨_, rfl, m2, d2, rfl, pl4, gm, by omega, fun H12 t3 d3 s14 pt3 pp3 pa3 => ?_⟩
    have ed3 : d3 = cs := swp_back gd.asc c2 pp3 pa3
    subst ed3
    refine ⟨_, rfl, _, _, pt3.dp, (hpl.kt (.of_same (s13.trans s14))).dp, plan_shaped _, plan_shaped _, true, ?_, ?_⟩
    · rw [SeqAt.eqv_refl _ (SeqAt.canLay_of_shaped (plan_shaped _))]
    refine ⟨_, rfl, m2, d2, rfl, pl4.kt (.of_same s14), gm, by omega, fun H13 s15 => ?_⟩
    refine ⟨_, rfl, a, d3, rfl, hpl.kt (.of_same ((s13.trans s14).trans s15)), gd, hl, fun H14 s16 => ⟨rfl, ?_⟩⟩
    have e1 : decide (V.bl (rectB d2) = V.bl (rectB d3)) = true := decide_eq_true (by rw [rectB_swp c2])
    show Q (V.bl (decide (V.bl (rectB d2) = V.bl (rectB d3)))) H14
    rw [e1]
    exact q H14 (((s13.trans s14).trans s15).trans s16)
end
end KS
namespace KS
open PySem PySem.Spec PyProof.Rows L2
theorem cut_to {xs : List V} {k : Nat} (h : k ≤ xs.length) : cutV xs none (some (k : Int)) = xs.take k := by
  unfold cutV
  rw [HT.sIx_none, HT.sIx_nat, Nat.min_eq_left h]
  simp
theorem cut_from {xs : List V} {k : Nat} (h : k ≤ xs.length) : cutV xs (some (k : Int)) none = xs.drop k := by
  unfold cutV
  rw [HT.sIx_none, HT.sIx_nat, Nat.min_eq_left h]
  exact List.take_of_length_le (by rw [List.length_drop]; exact Nat.le_refl _)
theorem paired_take {α β : Type} {F : α → β → Prop} : ∀ {l₁ : List α} {l₂ : List β} (i : Nat), Paired F l₁ l₂ → Paired F (l₁.take i) (l₂.take i)
  | _, _, 0, _ => .nil
  | _, _, _ + 1, .nil => .nil
  | _, _, i + 1, .cons r t => .cons r (paired_take i t)
theorem paired_drop {α β : Type} {F : α → β → Prop} : ∀ {l₁ : List α} {l₂ : List β} (i : Nat), Paired F l₁ l₂ → Paired F (l₁.drop i) (l₂.drop i)
  | _, _, 0, h => h
  | _, _, _ + 1, .nil => .nil
  | _, _, i + 1, .cons _ t => paired_drop i t
theorem nil_eqv (cs : List Cell) : PyData.eqv (planD cs) (.tuple []) = cs.isEmpty := by
  cases cs with
  | nil => decide
  | cons c cs => rfl
theorem catA_ok {K : PySem.W.Frag} {H : Hp} {Q : VK} {a b : Addr} {xs ys : List V} (ha : SqT K H a xs) (hb : SqT K H b ys) (hl : xs.length + ys.length ≤ sizeLine)
    (k : ∀ H' u, Same H H' → SqT K H' u (xs ++ ys) → Q (.ref u) H') : rCatA K (.ref a) (.ref b) H Q := by
  refine ⟨a, b, xs, ys, rfl, rfl, ha, hb, hl, fun e => ?_, fun _ e => ?_, fun _ _ p np => ?_⟩
  · subst e
    exact k H b (Same.refl _) hb
  · subst e
    exact k H a (Same.refl _) (by rw [List.append_nil]; exact ha)
  · exact k _ p (same_new np) (SqT.of upd_same)
section
variable {P : Program} {w : World} {K : PySem.W.Frag} {mg : Str → Option Value} {base : Heap}
theorem ok_right {f fD fP fO : Addr} {fd fdD fdP fdO : FuncData} (F : Fun K "_law_right" "_law_right" sRight f fd)
    (GD : FnOk P w K mg base CX0 1 fD fdD ["_law_pool_here", "_law_most"] spDraw) (bD : Binds K fdD ["_law_pool_here", "_law_most"] []) (gD : mg "_law_draw" = some (.ref fD)) (kD : PySem.W.keepIn K (.ref fD) = true)
    (GP : FnOk P w K mg base CX0 2 fP fdP ["_law_pool_here", "_law_most"] (spPlan K)) (bP : Binds K fdP ["_law_pool_here", "_law_most"] []) (gP : mg "_law_plan" = some (.ref fP)) (kP : PySem.W.keepIn K (.ref fP) = true)
    (GO : FnG P w K mg base 7 fO fdO ["_law_spots"] (spOne K)) (bO : Binds K fdO ["_law_spots"] []) (gO : mg "_law_one_right" = some (.ref fO)) (kO : PySem.W.keepIn K (.ref fO) = true)
    (mI : mg "int" = none) (mT : mg "tuple" = none) (mS : mg "sorted" = none) (ml : mg "len" = none) : FnG P w K mg base 8 f fd ["_law_pool_here"] spRight := by
  refine okG F scRight (fun vs H Q E h => ?_) (fun cdv A outer s H vs Q E hr hgd h => ?_)
  · obtain ⟨p, rfl, _⟩ := h
    rfl
  · obtain ⟨p, rfl, po, q⟩ := h
    have nd := scRight.nd
    have hr1 : Room 1 _ := hr.mono (by decide)
    have hr2 : Room 2 _ := hr.mono (by decide)
    refine ⟨_, pss_cons (ps_set (i := 1) nd rfl (.inl rfl) (pe_call GP hr2 (by rfl) gP kP bP .nil pass0 (pa_cons (pv 0) (pa_cons (pe_ix ix_list (pe_lst (pa_cons pe_int (pa_cons pe_int pa_nil)))
          (pe_callTy call_int1 (by rfl) mI (by decide +kernel) (pa_cons (pe_cmpR op_gt (pe_call GD hr1 (by rfl) gD kD bD .nil pass0 (pa_cons (pv 0) (pa_cons pe_int pa_nil))) pe_int (nomark _)) pa_nil)) (fun _ _ => rfl)) pa_nil))))
      (pss_cons (ps_set (i := 2) nd rfl (.inl rfl) (pe_call GD hr1 (by rfl) gD kD bD .nil pass0 (pa_cons (pv 0) (pa_cons (pe_callB call_len_seq (by rfl) ml PySem.boot_len (pa_cons (pv 1) pa_nil)) pa_nil))))
      (pss_cons (ps_set (i := 3) nd rfl (.inl rfl) (pe_op op_catA (pe_slice sl_tupA (pv 1) po_none (po_some (pv 2))) (pe_slice sl_tupA (pv 1) (po_some (pe_op op_add (pv 2) pe_int)) po_none)))
      (pss_cons (ps_set (i := 4) nd rfl (.inl rfl) (pe_callTy cr_tupOf (by rfl) mT (by decide +kernel) (pa_cons (pe_callB cr_sortedPO (by rfl) mS (by decide +kernel) (pa_cons
          (pe_lc (own := [("_law_spot", 5)]) (g := gName 5) (tt := tYes) rfl nd (pi_tup (pv 1)) (blkOk_by (N := nRight) (sc := defScope sRight) (by decide +kernel))
            (fun _ _ _ _ _ => pg_name (i := 5) nd rfl (Or.inl rfl)) (fun _ _ _ _ _ => pts_nil)
            (fun _ _ _ _ _ => pe_tup (pa_cons (pe_ix (r := rIxT K) ix_tup (pv 5) pe_int (fun _ _ => rfl)) (pa_cons (pe_op op_sub pe_int (pe_ix (r := rIxT K) ix_tup (pv 5) pe_int (fun _ _ => rfl))) pa_nil)))) pa_nil)) pa_nil)))
      (pss_cons (ps_if (PW.pt (pw_or (pt_not (pt_val (pe_callG GO hr hgd (by rfl) gO kO bO (pa_cons (pv 1) pa_nil)))) (pw_or1 (pt_not (pt_val (pe_callG GO hr hgd (by rfl) gO kO bO (pa_cons (pv 4) pa_nil)))))))
        (pss_one (ps_ret pe_bl)) pss_nil)
      (pss_one (ps_ret (pe_or (pe_cmpR (op_eqD hr.units) (pv 3) (pe_tup pa_nil) (nomark _)) (pe_one (pe_callG GO hr hgd (by rfl) gO kO bO (pa_cons (pv 3) pa_nil)))))))))), ?_⟩
    -- spots
    refine ⟨_, rfl, (by show 2 ≤ sizeLine; decide), fun L nL => ?_⟩
    have sL := same_new (o := .lst [.int 24, .int 10]) nL
    refine ⟨_, rfl, p, 8, rfl, po.same sL, by decide, by decide, fun H1 r k1 po1 r0 r1 => ⟨_, _, rfl, rfl, .inr ⟨_, rfl, ?_⟩⟩⟩
    obtain ⟨m, hm0, hm1, hat⟩ : ∃ m : Int, 1 ≤ m ∧ m ≤ 24 ∧ atI [V.int 24, V.int 10] (if decide (0 < r) = true then 1 else 0) = some (.int m) := by
      by_cases c : 0 < r
      · rw [if_pos (decide_eq_true c)]
        exact ⟨10, by decide, by decide, rfl⟩
      · rw [if_neg (fun z => c (of_decide_eq_true z))]
        exact ⟨24, by decide, by decide, rfl⟩
    have nLp : L ≠ p := Ne.symm (po.ne nL)
    refine ⟨L, _, _, .int m, rfl, rfl, SqL.of (k1 _ _ nLp upd_same), hat, p, m, rfl, po1, hm0, hm1, fun H2 a cs k2 po2 hpl0 gd hcl _ => ?_⟩
    have kx2 : KeepX p H H2 := (KeepX.trans (.of_same sL) k1).trans k2
    have hl24 : cs.length ≤ 24 := by omega
    have hpos : 0 < cs.length := by
      rcases Nat.eq_zero_or_pos cs.length with z | z
      · exact absurd (List.eq_nil_of_length_eq_zero z) gd.ne
      · exact z
    obtain ⟨xs0, hx0, hc0⟩ := id hpl0
    have hlen := Paired.length hc0
    -- at
    refine ⟨_, rfl, _, rfl, a, xs0, rfl, .inr hx0, p, _, rfl, po2, by omega, by omega, fun H3 at_ k3 po3 t0 t1 => ?_⟩
    obtain ⟨n, rfl⟩ := Int.eq_ofNat_of_zero_le t0
    have hn : n < xs0.length := by omega
    have kt3 : KT K H2 H3 := KT.of_keepX po2 k3
    have kx3 := kx2.trans k3
    have hpl := hpl0.kt kt3
    have hx := kt3 _ _ hx0
    have hc := cells_kt kt3 hc0
    -- less
    refine ⟨_, rfl, _, rfl, (n : Int), rfl, a, xs0, rfl, hx, fun z => ?_, fun _ p1 np1 => ?_⟩
    · exfalso
      obtain ⟨_, z2⟩ := z
      rw [show HT.sIx xs0.length xs0.length (some (n : Int)) = min n xs0.length from HT.sIx_nat _ _ n] at z2
      omega
    rw [cut_to (Nat.le_of_lt hn)]
    have sp1 := same_new (o := .tup (xs0.take n)) np1
    refine ⟨_, rfl, _, rfl, _, _, rfl, rfl, ((n : Int) + 1), rfl, a, xs0, rfl, same_seqT sp1 hx, fun z => ?_, fun _ p2 np2 => ?_⟩
    · exfalso
      obtain ⟨z1, _⟩ := z
      have e1 : ((n : Int) + 1) = ((n + 1 : Nat) : Int) := by omega
      rw [e1, show HT.sIx xs0.length 0 (some ((n + 1 : Nat) : Int)) = min (n + 1) xs0.length from HT.sIx_nat _ _ (n + 1)] at z1
      omega
    have ecut : cutV xs0 (some ((n : Int) + 1)) none = xs0.drop (n + 1) := by
      have e1 : ((n : Int) + 1) = ((n + 1 : Nat) : Int) := by omega
      rw [e1]
      exact cut_from hn
    rw [ecut]
    have sp2 := same_new (o := .tup (xs0.drop (n + 1))) np2
    have hP1 : SqT K (upd (upd H3 p1 (.tup (xs0.take n))) p2 (.tup (xs0.drop (n + 1)))) p1 (xs0.take n) := same_seqT sp2 (SqT.of upd_same)
    have hP2 : SqT K (upd (upd H3 p1 (.tup (xs0.take n))) p2 (.tup (xs0.drop (n + 1)))) p2 (xs0.drop (n + 1)) := SqT.of upd_same
    have s4 : Same H3 (upd (upd H3 p1 (.tup (xs0.take n))) p2 (.tup (xs0.drop (n + 1)))) := sp1.trans sp2
    generalize upd (upd H3 p1 (.tup (xs0.take n))) p2 (.tup (xs0.drop (n + 1))) = H4 at hP1 hP2 s4
    have hlt : (xs0.take n).length + (xs0.drop (n + 1)).length ≤ sizeLine := by
      rw [List.length_take, List.length_drop, sizeLine_eq]
      omega
    refine catA_ok hP1 hP2 hlt (fun H5 u s5 hu => ?_)
    have s35 : Same H3 H5 := s4.trans s5
    have hx5 := same_seqT s35 hx
    have hc5 := cells_kt (.of_same s35) hc
    -- the plan without one cell
    have hless : PlanAt K H5 u (cs.take n ++ cs.drop (n + 1)) := ⟨_, hu, paired_append (paired_take n hc5) (paired_drop (n + 1) hc5)⟩
    have hsub : (cs.take n ++ cs.drop (n + 1)).Sublist cs := by
      have e : cs.take n ++ cs.drop (n + 1) = cs.eraseIdx n := (List.eraseIdx_eq_take_drop_succ cs n).symm
      rw [e]
      exact List.eraseIdx_sublist _ _
    -- mirrored
    refine ⟨_, rfl, a, rfl, ⟨_, hx5⟩, fun D nD => ?_⟩
    refine lc_tup (K := K) (a := a) (xs := xs0) (fun j G => ∃ acc : List V, G D = some (.lst acc) ∧ NewCells G acc ((cs.take j).map mir) ∧ (∀ b o, b ≠ D → H5 b = some o → G b = some o)) ?_ ?_ ?_ ?_
    · exact ⟨[], upd_same, .nil, fun b o n e => by rw [upd_ne n]; exact e⟩
    · rintro j G _ ⟨acc, a1, a2, a3⟩
      exact same_seqT (fun b o e => a3 b o (ne_of_none e nD) e) hx5
    · rintro j x G hj ⟨acc, a1, a2, a3⟩
      have sD : Same H5 G := fun b o e => a3 b o (ne_of_none e nD) e
      obtain ⟨c, hcj, t, rfl, ht⟩ := paired_get hc5 hj
      have ht3 := same_seqT sD ht
      have hal : acc.length ≤ 24 := by
        rw [Paired.length a2, List.length_map, List.length_take]
        omega
      refine ⟨rfl, _, rfl, t, _, 0, .int c.1, rfl, rfl, ht3, rfl, _, rfl, t, _, 1, .int c.2, rfl, rfl, ht3, rfl, _, _, rfl, rfl, (by show 2 ≤ sizeLine; decide), fun z nz => ?_⟩
      have sz := same_new (o := .tup [.int c.1, .int (7 - c.2)]) nz
      have nDz : D ≠ z := ne_of_none a1 nz
      refine ⟨acc, sz _ _ a1, small64 (by omega), acc ++ [.ref z], upd_same, ?_, fun b o n e => ?_⟩
      · rw [List.take_add_one, hcj, List.map_append]
        refine paired_append (newCells_mono (fun t' ys e2 => by
          rw [upd_ne (ne_of e2 a1 (by intro q; cases q))]
          exact sz _ _ e2) a2) (.cons ⟨z, rfl, ?_⟩ .nil)
        rw [upd_ne (Ne.symm nDz), upd_same]
        rfl
      · rw [upd_ne n]
        exact sz _ _ (a3 b o n e)
    rintro G ⟨acc, a1, a2, a3⟩
    have sD : Same H5 G := fun b o e => a3 b o (ne_of_none e nD) e
    rw [hlen, List.take_length] at a2
    refine ⟨D, acc, keyOf G, rfl, SqL.of a1, newCells_mem a2, fun ys pS srt stb npS => ?_⟩
    have sS := same_new (o := .lst ys) npS
    obtain ⟨c1, c2, c3⟩ := sorted_cells (K := K) a2 (nodup_mir (nodup_of_asc gd.asc)) srt stb.perm
    obtain ⟨gm, gl⟩ := good_mir gd c2 c3
    refine ⟨pS, ys, rfl, .inl ⟨SqL.of upd_same, fun m2 nm2 => ?_⟩⟩
    have sM := same_new (o := .tup ys) nm2
    have s6 : Same H5 (upd (upd G pS (.lst ys)) m2 (.tup ys)) := sD.trans (sS.trans sM)
    have pl2 : PlanAt K (upd (upd G pS (.lst ys)) m2 (.tup ys)) m2 (ys.map (keyOf G)) := ⟨ys, SqT.of upd_same, cells_kt (.of_same (sS.trans sM)) c1⟩
    generalize upd (upd G pS (.lst ys)) m2 (.tup ys) = H6 at s6 pl2
    generalize ys.map (keyOf G) = ds at pl2 gm gl
    -- the three plans
    refine ⟨_, rfl, a, cs, rfl, hpl.kt (.of_same (s35.trans s6)), gd, hl24, fun H7 s7 => ⟨true, rfl, ?_⟩⟩
    refine ⟨_, rfl, m2, ds, rfl, pl2.kt (.of_same s7), gm, by omega, fun H8 s8 => ⟨true, rfl, ?_⟩⟩
    have s68 := s6.trans (s7.trans s8)
    refine ⟨_, rfl, (by show 0 ≤ sizeLine; decide), fun e0 ne0 => ?_⟩
    have se := same_new (o := .tup []) ne0
    refine ⟨planD (cs.take n ++ cs.drop (n + 1)), .tuple [], (hless.kt (.of_same (s68.trans se))).dp, .tup (SqT.of upd_same) .nil, plan_shaped _, by decide, _, rfl, ?_⟩
    rw [nil_eqv]
    have kxe : KeepX p H (upd H8 e0 (.tup [])) := kx3.trans (.of_same (s35.trans (s68.trans se)))
    cases hE : (cs.take n ++ cs.drop (n + 1)) with
    | nil => exact q _ kxe
    | cons c0 cr =>
      have hne : cs.take n ++ cs.drop (n + 1) ≠ [] := by
        rw [hE]
        simp
      refine ⟨_, rfl, u, _, rfl, hless.kt (.of_same (s68.trans se)), ⟨gd.asc.sublist hsub, fun c hc => gd.grid c (hsub.subset hc), hne⟩, Nat.le_trans hsub.length_le hl24, fun H9 s9 => ?_⟩
      exact q _ (kxe.trans (.of_same s9))
end
end KS
namespace KS
open PySem PySem.Spec PyProof.Rows L2
-- topS
theorem all_mk {l : PySem.W.OpenLaw} {w : World} {K : PySem.W.Frag} {h : Heap} {mg : Str → Option Value} {fa f0 f1 f2 f3 f4 f5 f6 f7 f8 f9 f10 f11 f12 f13 f14 : Addr} (X : K.In h) (G : h.Ns mainGlobals mg) (hfa : mg "law" = some (.ref fa))
    {od0 an0 od1 an1 od2 an2 od3 an3 od4 an4 od5 an5 od6 an6 od7 an7 od8 an8 od9 an9 od10 an10 od11 an11 od12 an12 od13 an13 od14 an14 : Option Addr} {sl0 sl1 sl2 sl3 sl4 sl5 sl6 sl7 sl8 sl9 sl10 sl11 sl12 sl13 sl14 : Array (Option Value)}
    {oc0 kV0 dc0 pm0 cd0 ct0 oc1 kV1 dc1 pm1 cd1 ct1 oc2 kV2 dc2 pm2 cd2 ct2 oc3 kV3 dc3 pm3 cd3 ct3 oc4 kV4 dc4 pm4 cd4 ct4 oc5 kV5 dc5 pm5 cd5 ct5 oc6 kV6 dc6 pm6 cd6 ct6 oc7 kV7 dc7 pm7 cd7 ct7 oc8 kV8 dc8 pm8 cd8 ct8 oc9 kV9 dc9 pm9 cd9 ct9 oc10 kV10 dc10 pm10 cd10 ct10 oc11 kV11 dc11 pm11 cd11 ct11 oc12 kV12 dc12 pm12 cd12 ct12 oc13 kV13 dc13 pm13 cd13 ct13 oc14 kV14 dc14 pm14 cd14 ct14 : Value} {tk0 tk1 : Tok}
    (a0 : PySem.W.nsIn K mainGlobals "is_whole" = some (some (.ref f0)))
    (l0 : K.lookup f0 = some ⟨oc0, od0, .func (PySem.W.fnOf "is_whole" "is_whole" (defArgs sWhole) (defBody sWhole) (defScope sWhole) .none kV0 dc0 pm0 an0 cd0 ct0), sl0⟩)
    (c0 : PySem.W.codeIn K cd0 "is_whole" = true) (k0 : PySem.W.keepIn K (.ref f0) = true)
    (a1 : PySem.W.nsIn K mainGlobals "is_between" = some (some (.ref f1)))
    (l1 : K.lookup f1 = some ⟨oc1, od1, .func (PySem.W.fnOf "is_between" "is_between" (defArgs sBetween) (defBody sBetween) (defScope sBetween) .none kV1 dc1 pm1 an1 cd1 ct1), sl1⟩)
    (c1 : PySem.W.codeIn K cd1 "is_between" = true) (k1 : PySem.W.keepIn K (.ref f1) = true)
    (a2 : PySem.W.nsIn K mainGlobals "is_place" = some (some (.ref f2)))
    (l2 : K.lookup f2 = some ⟨oc2, od2, .func (PySem.W.fnOf "is_place" "is_place" (defArgs sPlace) (defBody sPlace) (defScope sPlace) .none kV2 dc2 pm2 an2 cd2 ct2), sl2⟩)
    (c2 : PySem.W.codeIn K cd2 "is_place" = true) (k2 : PySem.W.keepIn K (.ref f2) = true)
    (a3 : PySem.W.nsIn K mainGlobals "is_cell" = some (some (.ref f3)))
    (l3 : K.lookup f3 = some ⟨oc3, od3, .func (PySem.W.fnOf "is_cell" "is_cell" (defArgs sIsCell) (defBody sIsCell) (defScope sIsCell) .none kV3 dc3 pm3 an3 cd3 ct3), sl3⟩)
    (c3 : PySem.W.codeIn K cd3 "is_cell" = true) (k3 : PySem.W.keepIn K (.ref f3) = true)
    (a4 : PySem.W.nsIn K mainGlobals "check_plan" = some (some (.ref f4)))
    (l4 : K.lookup f4 = some ⟨oc4, od4, .func (PySem.W.fnOf "check_plan" "check_plan" (defArgs sCheck) (defBody sCheck) (defScope sCheck) .none kV4 dc4 pm4 an4 cd4 ct4), sl4⟩)
    (c4 : PySem.W.codeIn K cd4 "check_plan" = true) (k4 : PySem.W.keepIn K (.ref f4) = true)
    (a5 : PySem.W.nsIn K mainGlobals "transposed" = some (some (.ref f5)))
    (l5 : K.lookup f5 = some ⟨oc5, od5, .func (PySem.W.fnOf "transposed" "transposed" (defArgs sTrans) (defBody sTrans) (defScope sTrans) .none kV5 dc5 pm5 an5 cd5 ct5), sl5⟩)
    (c5 : PySem.W.codeIn K cd5 "transposed" = true) (k5 : PySem.W.keepIn K (.ref f5) = true)
    (a6 : PySem.W.nsIn K mainGlobals "is_rectangle" = some (some (.ref f6)))
    (l6 : K.lookup f6 = some ⟨oc6, od6, .func (PySem.W.fnOf "is_rectangle" "is_rectangle" (defArgs sRect) (defBody sRect) (defScope sRect) .none kV6 dc6 pm6 an6 cd6 ct6), sl6⟩)
    (c6 : PySem.W.codeIn K cd6 "is_rectangle" = true) (k6 : PySem.W.keepIn K (.ref f6) = true)
    (a7 : PySem.W.nsIn K mainGlobals "_law_cell" = some (some (.ref f7)))
    (l7 : K.lookup f7 = some ⟨oc7, od7, .func (PySem.W.fnOf "_law_cell" "_law_cell" (defArgs sCell) (defBody sCell) (defScope sCell) .none kV7 dc7 pm7 an7 cd7 ct7), sl7⟩)
    (c7 : PySem.W.codeIn K cd7 "_law_cell" = true) (k7 : PySem.W.keepIn K (.ref f7) = true)
    (a8 : PySem.W.nsIn K mainGlobals "_law_pool" = some (some (.ref f8)))
    (l8 : K.lookup f8 = some ⟨oc8, od8, .func (PySem.W.fnOf "_law_pool" "_law_pool" (defArgs sPool) (defBody sPool) (defScope sPool) .none kV8 dc8 pm8 an8 cd8 ct8), sl8⟩)
    (c8 : PySem.W.codeIn K cd8 "_law_pool" = true) (k8 : PySem.W.keepIn K (.ref f8) = true)
    (a9 : PySem.W.nsIn K mainGlobals "_law_draw" = some (some (.ref f9)))
    (l9 : K.lookup f9 = some ⟨oc9, od9, .func (PySem.W.fnOf "_law_draw" "_law_draw" (defArgs sDraw) (defBody sDraw) (defScope sDraw) .none kV9 dc9 pm9 an9 cd9 ct9), sl9⟩)
    (c9 : PySem.W.codeIn K cd9 "_law_draw" = true) (k9 : PySem.W.keepIn K (.ref f9) = true)
    (a10 : PySem.W.nsIn K mainGlobals "_law_plan" = some (some (.ref f10)))
    (l10 : K.lookup f10 = some ⟨oc10, od10, .func (PySem.W.fnOf "_law_plan" "_law_plan" (defArgs sPlan) (defBody sPlan) (defScope sPlan) .none kV10 dc10 pm10 an10 cd10 ct10), sl10⟩)
    (c10 : PySem.W.codeIn K cd10 "_law_plan" = true) (k10 : PySem.W.keepIn K (.ref f10) = true)
    (a11 : PySem.W.nsIn K mainGlobals "_law_full" = some (some (.ref f11)))
    (l11 : K.lookup f11 = some ⟨oc11, od11, .func (PySem.W.fnOf "_law_full" "_law_full" (defArgs sFull) (defBody sFull) (defScope sFull) .none kV11 dc11 pm11 an11 cd11 ct11), sl11⟩)
    (c11 : PySem.W.codeIn K cd11 "_law_full" = true) (k11 : PySem.W.keepIn K (.ref f11) = true)
    (a12 : PySem.W.nsIn K mainGlobals "_law_one_right" = some (some (.ref f12)))
    (l12 : K.lookup f12 = some ⟨oc12, od12, .func (PySem.W.fnOf "_law_one_right" "_law_one_right" (defArgs sOne) (defBody sOne) (defScope sOne) .none kV12 dc12 pm12 an12 cd12 ct12), sl12⟩)
    (c12 : PySem.W.codeIn K cd12 "_law_one_right" = true) (k12 : PySem.W.keepIn K (.ref f12) = true)
    (a13 : PySem.W.nsIn K mainGlobals "_law_right" = some (some (.ref f13)))
    (l13 : K.lookup f13 = some ⟨oc13, od13, .func (PySem.W.fnOf "_law_right" "_law_right" (defArgs sRight) (defBody sRight) (defScope sRight) .none kV13 dc13 pm13 an13 cd13 ct13), sl13⟩)
    (c13 : PySem.W.codeIn K cd13 "_law_right" = true) (k13 : PySem.W.keepIn K (.ref f13) = true)
    (a14 : PySem.W.nsIn K mainGlobals "law" = some (some (.ref f14)))
    (l14 : K.lookup f14 = some ⟨oc14, od14, .func (PySem.W.fnOf "law" "law" (defArgs sLaw) (defBody sLaw) (defScope sLaw) .none kV14 dc14 pm14 an14 cd14 ct14), sl14⟩)
    (c14 : PySem.W.codeIn K cd14 "law" = true) (k14 : PySem.W.keepIn K (.ref f14) = true)
    (z0 : PySem.W.nsIn K mainGlobals "isinstance" = some none)
    (z1 : PySem.W.nsIn K mainGlobals "int" = some none)
    (z2 : PySem.W.nsIn K mainGlobals "bool" = some none)
    (z3 : PySem.W.nsIn K mainGlobals "tuple" = some none)
    (z4 : PySem.W.nsIn K mainGlobals "len" = some none)
    (z5 : PySem.W.nsIn K mainGlobals "enumerate" = some none)
    (z6 : PySem.W.nsIn K mainGlobals "sorted" = some none)
    (z7 : PySem.W.nsIn K mainGlobals "max" = some none)
    (z8 : PySem.W.nsIn K mainGlobals "min" = some none)
    (z9 : PySem.W.nsIn K mainGlobals "abs" = some none)
    (z10 : PySem.W.nsIn K mainGlobals "divmod" = some none)
    (z11 : PySem.W.nsIn K mainGlobals "range" = some none)
    (z12 : PySem.W.nsIn K mainGlobals "sum" = some none)
    (z13 : PySem.W.nsIn K mainGlobals "all" = some none)
    (z14 : PySem.W.nsIn K mainGlobals "repr" = some none)
    (w0 : PySem.W.nsIn K mainGlobals "MOST_INDEX" = some (some (.int 7 tk0)))
    (w1 : PySem.W.nsIn K mainGlobals "MOST_CELLS" = some (some (.int 24 tk1)))
    : ∃ fd : FuncData, (∀ (s : Shared) (v : Value), BindsTo s fd ⟨[v], []⟩ [("_law_script", v)]) ∧ ∀ base : Heap, K.In base → base.Ns mainGlobals mg → FnG l.prog w K mg base 9 fa fd ["_law_script"] (spLaw K) := by
  have e := hfa.symm.trans (PySem.W.mg_of X G a14)
  cases e
  have F0 := fun_mk (st := sWhole) l0 c0 k0
  have m0 := PySem.W.mg_of X G a0
  have F1 := fun_mk (st := sBetween) l1 c1 k1
  have m1 := PySem.W.mg_of X G a1
  have F2 := fun_mk (st := sPlace) l2 c2 k2
  have m2 := PySem.W.mg_of X G a2
  have F3 := fun_mk (st := sIsCell) l3 c3 k3
  have m3 := PySem.W.mg_of X G a3
  have F4 := fun_mk (st := sCheck) l4 c4 k4
  have m4 := PySem.W.mg_of X G a4
  have F5 := fun_mk (st := sTrans) l5 c5 k5
  have m5 := PySem.W.mg_of X G a5
  have F6 := fun_mk (st := sRect) l6 c6 k6
  have m6 := PySem.W.mg_of X G a6
  have F7 := fun_mk (st := sCell) l7 c7 k7
  have m7 := PySem.W.mg_of X G a7
  have F8 := fun_mk (st := sPool) l8 c8 k8
  have m8 := PySem.W.mg_of X G a8
  have F9 := fun_mk (st := sDraw) l9 c9 k9
  have m9 := PySem.W.mg_of X G a9
  have F10 := fun_mk (st := sPlan) l10 c10 k10
  have m10 := PySem.W.mg_of X G a10
  have F11 := fun_mk (st := sFull) l11 c11 k11
  have m11 := PySem.W.mg_of X G a11
  have F12 := fun_mk (st := sOne) l12 c12 k12
  have m12 := PySem.W.mg_of X G a12
  have F13 := fun_mk (st := sRight) l13 c13 k13
  have m13 := PySem.W.mg_of X G a13
  have F14 := fun_mk (st := sLaw) l14 c14 k14
  have m14 := PySem.W.mg_of X G a14
  have n_isinstance := PySem.W.mg_none_of X G z0
  have n_int := PySem.W.mg_none_of X G z1
  have n_bool := PySem.W.mg_none_of X G z2
  have n_tuple := PySem.W.mg_none_of X G z3
  have n_len := PySem.W.mg_none_of X G z4
  have n_enumerate := PySem.W.mg_none_of X G z5
  have n_sorted := PySem.W.mg_none_of X G z6
  have n_max := PySem.W.mg_none_of X G z7
  have n_min := PySem.W.mg_none_of X G z8
  have n_abs := PySem.W.mg_none_of X G z9
  have n_divmod := PySem.W.mg_none_of X G z10
  have n_range := PySem.W.mg_none_of X G z11
  have n_sum := PySem.W.mg_none_of X G z12
  have n_all := PySem.W.mg_none_of X G z13
  have n_repr := PySem.W.mg_none_of X G z14
  have c_MOST_INDEX := PySem.W.mg_of X G w0
  have c_MOST_CELLS := PySem.W.mg_of X G w1
  have b0 := F0.binds (ps := ["value"]) fun _ _ _ _ _ _ us hl => match us, hl with | [_], _ => rfl
  have b1 := F1.binds (ps := ["value", "least", "most"]) fun _ _ _ _ _ _ us hl => match us, hl with | [_, _, _], _ => rfl
  have b2 := F2.binds (ps := ["value"]) fun _ _ _ _ _ _ us hl => match us, hl with | [_], _ => rfl
  have b3 := F3.binds (ps := ["value"]) fun _ _ _ _ _ _ us hl => match us, hl with | [_], _ => rfl
  have b4 := F4.binds (ps := ["plan"]) fun _ _ _ _ _ _ us hl => match us, hl with | [_], _ => rfl
  have b5 := F5.binds (ps := ["plan"]) fun _ _ _ _ _ _ us hl => match us, hl with | [_], _ => rfl
  have w5 : KwBinds _ ["plan"] ["plan"] id id := kw_binds F5 (fun _ _ _ _ _ _ ws hl => match ws, hl with | [_], _ => rfl) (fun r => r)
  have b6 := F6.binds (ps := ["plan"]) fun _ _ _ _ _ _ us hl => match us, hl with | [_], _ => rfl
  have w6 : KwBinds _ ["plan"] ["plan"] id id := kw_binds F6 (fun _ _ _ _ _ _ ws hl => match ws, hl with | [_], _ => rfl) (fun r => r)
  have b7 := F7.binds (ps := ["_law_script", "_law_k"]) fun _ _ _ _ _ _ us hl => match us, hl with | [_, _], _ => rfl
  have b8 := F8.binds (ps := ["_law_number"]) fun _ _ _ _ _ _ us hl => match us, hl with | [_], _ => rfl
  have b9 := F9.binds (ps := ["_law_pool_here", "_law_most"]) fun _ _ _ _ _ _ us hl => match us, hl with | [_, _], _ => rfl
  have b10 := F10.binds (ps := ["_law_pool_here", "_law_most"]) fun _ _ _ _ _ _ us hl => match us, hl with | [_, _], _ => rfl
  have b11 := F11.binds (ps := ["_law_spots"]) fun _ _ _ _ _ _ us hl => match us, hl with | [_], _ => rfl
  have b12 := F12.binds (ps := ["_law_spots"]) fun _ _ _ _ _ _ us hl => match us, hl with | [_], _ => rfl
  have b13 := F13.binds (ps := ["_law_pool_here"]) fun _ _ _ _ _ _ us hl => match us, hl with | [_], _ => rfl
  refine ⟨PySem.W.fnOf "law" "law" (defArgs sLaw) (defBody sLaw) (defScope sLaw) .none kV14 dc14 pm14 an14 cd14 ct14, fun s v => .of_eq rfl, fun base _ _ => ?_⟩
  have G0 := ok_whole (P := l.prog) (w := w) (mg := mg) (base := base) F0 n_isinstance n_int n_bool
  have G1 := ok_between (P := l.prog) (w := w) (mg := mg) (base := base) F1 G0 b0 m0 k0
  have G2 := ok_place (P := l.prog) (w := w) (mg := mg) (base := base) F2 G1 b1 m1 k1 c_MOST_INDEX
  have G3 := ok_isCell (P := l.prog) (w := w) (mg := mg) (base := base) F3 G2 b2 m2 k2 n_isinstance n_tuple n_len
  have G4 := ok_check (P := l.prog) (w := w) (mg := mg) (base := base) F4 G3 b3 m3 k3 n_isinstance n_tuple n_len n_enumerate c_MOST_CELLS
  have G5 := ok_trans (P := l.prog) (w := w) (mg := mg) (base := base) F5 G4 b4 m4 k4 n_tuple n_sorted
  have G6 := ok_rect (P := l.prog) (w := w) (mg := mg) (base := base) F6 G4 b4 m4 k4 n_max n_min n_len
  have G7 := ok_cell (P := l.prog) (w := w) (mg := mg) (base := base) F7 n_len
  have G8 := ok_pool (P := l.prog) (w := w) (mg := mg) (base := base) F8 n_abs
  have G9 := ok_draw (P := l.prog) (w := w) (mg := mg) (base := base) F9 n_divmod
  have G10 := ok_plan (P := l.prog) (w := w) (mg := mg) (base := base) F10 G9 b9 m9 k9 n_min n_range n_len n_tuple n_sum
  have G11 := ok_full (P := l.prog) (w := w) (mg := mg) (base := base) F11 n_range n_max n_min n_all
  have G12 := ok_one (P := l.prog) (w := w) (mg := mg) (base := base) F12 G5 b5 w5 m5 k5 G6 b6 w6 m6 k6 G11 b11 m11 k11 n_tuple n_sorted n_repr n_isinstance n_bool
  have G13 := ok_right (P := l.prog) (w := w) (mg := mg) (base := base) F13 G9 b9 m9 k9 G10 b10 m10 k10 G12 b12 m12 k12 n_int n_tuple n_sorted n_len
  exact ok_law8 F14 G7 b7 m7 k7 G8 b8 m8 k8 G13 b13 m13 k13 n_all n_range n_max n_min n_len
end KS
open PySem PySem.W PyProof.Rows
set_option maxHeartbeats 0 in
theorem PySem.Challenge.cw_keepsort_k03_transposed_and_rectangles_holds : PySem.Challenge.rw_keepsort_k03_transposed_and_rectangles.Holds := by
  w_on; o_law; k_head; (case hw => w_witness2)
  k_fill
  refine KS.walk_ofG (l := PySem.Challenge.rw_keepsort_k03_transposed_and_rectangles) (n := 63) (k := 9) (x := "_law_script") (sp := fun w => KS.spLaw _) rfl (by decide) rfl ⟨rfl, by decide, by decide⟩ (fun w h Y => PySem.W.kIn_of Y) ?F (fun _ _ a ns hl _ hS => ⟨a, ns, rfl, hS, hl, fun _ => rfl⟩)
  case F =>
    intro w mg fa h KX G hmg
    refine' KS.all_mk KX G hmg ?a0 ?l0 ?c0 ?k0 ?a1 ?l1 ?c1 ?k1 ?a2 ?l2 ?c2 ?k2 ?a3 ?l3 ?c3 ?k3 ?a4 ?l4 ?c4 ?k4 ?a5 ?l5 ?c5 ?k5 ?a6 ?l6 ?c6 ?k6 ?a7 ?l7 ?c7 ?k7 ?a8 ?l8 ?c8 ?k8 ?a9 ?l9 ?c9 ?k9 ?a10 ?l10 ?c10 ?k10 ?a11 ?l11 ?c11 ?k11 ?a12 ?l12 ?c12 ?k12 ?a13 ?l13 ?c13 ?k13 ?a14 ?l14 ?c14 ?k14 ?z0 ?z1 ?z2 ?z3 ?z4 ?z5 ?z6 ?z7 ?z8 ?z9 ?z10 ?z11 ?z12 ?z13 ?z14 ?w0 ?w1
    (case a0 => k_is)
    (case l0 => k_is)
    (case c0 => k_is)
    (case k0 => k_is)
    (case a1 => k_is)
    (case l1 => k_is)
    (case c1 => k_is)
    (case k1 => k_is)
    (case a2 => k_is)
    (case l2 => k_is)
    (case c2 => k_is)
    (case k2 => k_is)
    (case a3 => k_is)
    (case l3 => k_is)
    (case c3 => k_is)
    (case k3 => k_is)
    (case a4 => k_is)
    (case l4 => k_is)
    (case c4 => k_is)
    (case k4 => k_is)
    (case a5 => k_is)
    (case l5 => k_is)
    (case c5 => k_is)
    (case k5 => k_is)
    (case a6 => k_is)
    (case l6 => k_is)
    (case c6 => k_is)
    (case k6 => k_is)
    (case a7 => k_is)
    (case l7 => k_is)
    (case c7 => k_is)
    (case k7 => k_is)
    (case a8 => k_is)
    (case l8 => k_is)
    (case c8 => k_is)
    (case k8 => k_is)
    (case a9 => k_is)
    (case l9 => k_is)
    (case c9 => k_is)
    (case k9 => k_is)
    (case a10 => k_is)
    (case l10 => k_is)
    (case c10 => k_is)
    (case k10 => k_is)
    (case a11 => k_is)
    (case l11 => k_is)
    (case c11 => k_is)
    (case k11 => k_is)
    (case a12 => k_is)
    (case l12 => k_is)
    (case c12 => k_is)
    (case k12 => k_is)
    (case a13 => k_is)
    (case l13 => k_is)
    (case c13 => k_is)
    (case k13 => k_is)
    (case a14 => k_is)
    (case l14 => k_is)
    (case c14 => k_is)
    (case k14 => k_is)
    (case z0 => k_is)
    (case z1 => k_is)
    (case z2 => k_is)
    (case z3 => k_is)
    (case z4 => k_is)
    (case z5 => k_is)
    (case z6 => k_is)
    (case z7 => k_is)
    (case z8 => k_is)
    (case z9 => k_is)
    (case z10 => k_is)
    (case z11 => k_is)
    (case z12 => k_is)
    (case z13 => k_is)
    (case z14 => k_is)
    (case w0 => k_is)
    (case w1 => k_is)
