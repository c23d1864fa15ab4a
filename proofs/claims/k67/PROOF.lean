import PyProof.Rows.All
import Wide.All
import OpenK.AllK
import Wide.FinOn
import HandS.ForMost
import HandS.Style
import HandS.Flow
import KE.GoesMore
import KE.GoesEnum
import KE.KTupSum
import PyProof.ReprRoads
import PyProof.ReprLen
import HandS.IsInst
import HandS.TupLe
import HandS.SetKeys
import HandS.SortRule
import HandS.More
import HandS.MakeKwOnly
import HandS.OwnEq
import PyProof.InstEq
import KE.KCallOwn
import HandS.TupAny
import PyProof.P3In
import HandS.Deep
import HandS.SortInts
import HandS.Zip
import HandS.Conv
import HandS.SortKw
import KE.DataMinMax
import KE.SortData
import PyProof.CallFns
import HandS.Iter
import HandS.Text
import HandS.Walk
import PyProof.StrOps2
import KE.GoesZip
import PyProof.TupleOfSeq
import KE.KRevSl
import HandS.TupMul
import HandS.ForExc
import PyProof.NeKinds
import HandS.Strs
import KE.IntBitsLaws
import PyProof.Rows.StrCountLaw
import PyProof.Rows.RegReprOcc
import PyProof.Rows.ReprOcc
import HandS.StrMore
import HandS.DictComp
import KE.KDictZip
import HandS.ExcIs
import HandS.ExcField
import HandS.ExcInit
import HandS.Exc
import KE.KExcInit
import PyProof.ExcBaseAll.LookupError
import PyProof.ExcBaseAll.ArithmeticError
import HandS.ExcValue
import HandS.Words
import KE.DataFind
import HandS.List
import HandS.Nested
import HandS.ExcOwn
import HandS.FStr
import HandS.RaiseMore
import HandS.WordsExc
import HandS.Finally
import HandS.TryOnly
import HandS.Defaults
import HandS.Hot
import HandS.HotCalls
import HandS.ExcCtx
import HandS.MapObj
import HandS.DictTup
import PyProof.ReprBulk
import HandS.Lambda
import HandS.EndTab
import HandS.EndBits
import KE.KNestM
import PySem.Challenge.RW_keepsort_k67_do_all_and_watch
set_option Elab.async false
set_option linter.all false
set_option maxRecDepth 100000
set_option maxHeartbeats 4000000
namespace KS
open PySem PySem.Spec PyProof.Rows L2
/-- three whole numbers: the state, the digits left, how many draws -/
def PoolO (o : Option HO) : Prop := ∃ a b c : Int, o = some (.lst [.int a, .int b, .int c]) ∧ 0 ≤ a ∧ a < 2147483249 ∧ 0 ≤ b
/-- what stood, but at p, stands -/
def KeepX (p : Addr) (H H' : Hp) : Prop := ∀ b o, b ≠ p → H b = some o → H' b = some o
theorem KeepX.refl (p : Addr) (H : Hp) : KeepX p H H := fun _ _ _ e => e
theorem KeepX.trans {p : Addr} {H H1 H2 : Hp} (a : KeepX p H H1) (b : KeepX p H1 H2) : KeepX p H H2 := fun c o n e => b c o n (a c o n e)
theorem KeepX.of_same {p : Addr} {H H1 : Hp} (a : Same H H1) : KeepX p H H1 := fun c o _ e => a c o e
theorem same_new {H : Hp} {p : Addr} {o : HO} (h : H p = none) : Same H (upd H p o) := fun b x e => by
  rw [upd_ne (ne_of_none e h)]
  exact e
theorem keepX_upd {H : Hp} {p : Addr} {o : HO} : KeepX p H (upd H p o) := fun b x n e => by
  rw [upd_ne n]
  exact e
theorem PoolO.same {H H' : Hp} {p : Addr} (s : Same H H') (h : PoolO (H p)) : PoolO (H' p) := by
  obtain ⟨a, b, c, e, r⟩ := h
  exact ⟨a, b, c, s _ _ e, r⟩
theorem PoolO.ne {H : Hp} {p q : Addr} (h : PoolO (H p)) (n : H q = none) : p ≠ q := by
  obtain ⟨a, b, c, e, r⟩ := h
  exact ne_of_none e n
theorem same_seqT {K : PySem.W.Frag} {H H' : Hp} {a : Addr} {xs : List V} (e : Same H H') (h : SqT K H a xs) : SqT K H' a xs := by
  rcases h with (h | ⟨o, h⟩) | h
  · exact .inl (.inl (e _ _ h))
  · exact .inl (.inr ⟨o, e _ _ h⟩)
  · exact .inr h
theorem keepX_seqT {K : PySem.W.Frag} {H H' : Hp} {a p : Addr} {xs : List V} (hp : PoolO (H p)) (e : KeepX p H H') (h : SqT K H a xs) : SqT K H' a xs := by
  obtain ⟨x, y, z, ep, _⟩ := hp
  rcases h with (h | ⟨o, h⟩) | h
  · exact .inl (.inl (e _ _ (fun q => by rw [q, ep] at h; cases h) h))
  · exact .inl (.inr ⟨o, e _ _ (fun q => by rw [q, ep] at h; cases h) h⟩)
  · exact .inr h
theorem int_mod_bd (x : Int) {m : Int} (h : 0 < m) : 0 ≤ x % m ∧ x % m < m := ⟨Int.emod_nonneg x (by omega), Int.emod_lt_of_pos x h⟩
def spCell (K : PySem.W.Frag) : Sp := fun vs H Q _ => ∃ (a : Addr) (ns : List Int) (k : Nat), vs = [.ref a, .int k] ∧ SqL K H a (ns.map V.int) ∧ k ≤ 63 ∧ ∀ H' n, Same H H' → Q (.int n) H'
def spPool : Sp := fun vs H Q _ => ∃ (n : Int), vs = [.int n] ∧ ∀ H' p, Same H H' → H p = none → PoolO (H' p) → Q (.ref p) H'
def spDraw : Sp := fun vs H Q _ => ∃ (p : Addr) (m : Int), vs = [.ref p, .int m] ∧ PoolO (H p) ∧ 0 < m ∧ m < 1073741824 ∧ ∀ H' r, KeepX p H H' → PoolO (H' p) → 0 ≤ r → r < m → Q (.int r) H'
end KS
namespace KS
open PySem PySem.Spec PyProof.Rows L2
open Sem (wp)
open AutoSeq1 (wpAny_loadPart')
/-! ### sum(t), t a tuple of whole numbers -/
def rSumT (K : PySem.W.Frag) : List V → Hp → VK → Prop := fun vs H Q => ∃ (a : Addr) (ns : List Int), vs = [V.ref a] ∧ SqT K H a (ns.map V.int) ∧ Q (.int ns.sum) H
theorem cr_sumT {X : Cx} (hc : X.calm = true) : CallR X (.builtin "sum") (rSumT X.K) := by
  intro pins s σ H vs us Q I r h
  obtain ⟨a, ns, rfl, hs, q⟩ := h
  obtain ⟨its, rv, hl, _⟩ := I.tuple hs
  rw [Vals.ref1 r]
  have hi := rv.ints
  obtain ⟨xs, e⟩ := hi.allInts.items
  have hn : numsOf (intItems xs).toList = ns := by
    rw [← e]
    exact hi.numsOf
  rw [nums_intItems] at hn
  have hl2 : s.heap.IsTuple a (intItems xs) := by
    rw [← e]
    exact hl
  refine PySem.W.ktm_sumG (I.ok.hd hc) hl2 fun h' tk t' hk => ⟨.int ns.sum, H, I.kept hk, ⟨t', ?_⟩, q⟩
  rw [preSum_eq, List.take_of_length_le (by simp), hn]
/-- tuple(x), x a list or a tuple -/
def rTupOf (K : PySem.W.Frag) : List V → Hp → VK → Prop := fun xs H Q => ∃ p ys, xs = [.ref p] ∧ ((SqL K H p ys ∧ ∀ l, H l = none → Q (.ref l) (upd H l (.tup ys))) ∨ (SqT K H p ys ∧ Q (.ref p) H))
theorem cr_tupOf {X : Cx} : CallR X (.type "tuple") (rTupOf X.K) := call_tuple_of
/-! ### enumerate(t), t a tuple -/
abbrev tupItO (l : Addr) : Obj := { cls := .type "tuple_iterator", data := .fields #[.ref l, .int 0 0] }
abbrev enumO (it : Addr) : Obj := { cls := .type "enumerate", data := .fields #[.none, .bool false, .ref it, rawInt 0, .none, .none] }
theorem meets_enumT (l : Addr) (items : Array Value) (n : Nat) (dct : Option Addr) (sl : Array (Option Value)) :
    Meets (Builtin.«enumerate.__new__» ⟨[.type "enumerate", .ref l], []⟩) (fun _ R s =>
      s.heap.get? l = some { cls := .type "tuple", dict := dct, data := .seq items n, slots := sl } ∧
      R (.ok (.ret (.ref (s.heap.push (tupItO l)).objs.size))) { s with heap := (s.heap.push (tupItO l)).push (enumO s.heap.objs.size) }) :=
  .of_wp fun prog w A R s h => by
    obtain ⟨hp, g, d, tk, os⟩ := s
    obtain ⟨hl, h⟩ := h
    have hsub := sub_enumerate
    have hT : Heap.IsTuple (Shared.heap ⟨hp, g, d, tk, os⟩) l items := ⟨_, hl, rfl, n, rfl⟩
    wp_walk using wpAny_loadPart' hl
    refine wpAny_stack_any fun st => wpAny_pure ?_
    split
    · rename_i c _ _ _ _ _
      cases (c == Value.type "enumerate")
      · wp_walk using wpAny_loadPart' hl, wpAny_pyIter_tuple hT
        exact ⟨_, rfl, h⟩
      · wp_walk using wpAny_loadPart' hl, wpAny_pyIter_tuple hT
        exact ⟨_, rfl, h⟩
    · wp_walk using wpAny_loadPart' hl, wpAny_pyIter_tuple hT
      exact ⟨_, rfl, h⟩
theorem call_enumT {prog : Program} {w : World} {A : Around} {E : Value → Shared → Prop} {s : Shared} {l : Addr} {items : Array Value} {Q : Value → Shared → Prop} (hL : s.heap.IsTuple l items)
    (h : ∀ h', IsEnum h' (s.heap.objs.size + 1) s.heap.objs.size 0 .none → h'.IsTupleIter s.heap.objs.size l 0 →
      (∀ b o, s.heap.get? b = some o → h'.get? b = some o) → Q (.ref (s.heap.objs.size + 1)) { s with heap := h' }) :
    wpAny (model prog w) A (call (.type "enumerate") [.ref l]) Q E s := by
  obtain ⟨⟨c, dct, dt, sl⟩, hl, hc, n, hd⟩ := hL
  replace hc : c = .type "tuple" := hc
  replace hd : dt = .seq items n := hd
  subst hc
  subst hd
  refine callType_new F.called_enumerate (by decide) (F.typeCall_enumerate_1 _) (F.newCall_enumerate_1 _)
    (fun obj => F.args_object_init_2 obj _) F.entry_enumerate_new (meets_enumT l items n dct sl) ⟨hl, ?_⟩
  generalize hg1 : s.heap.push (tupItO l) = g1
  have hz : g1.objs.size = s.heap.objs.size + 1 := by
    rw [← hg1]
    exact Heap.size_push ..
  have hit : g1.get? s.heap.objs.size = some (tupItO l) := by
    rw [← hg1]
    exact Heap.get?_push_size _ rfl
  have hold : ∀ b o, s.heap.get? b = some o → g1.get? b = some o := fun b o e => by
    rw [← hg1]
    exact Heap.get?_push_of_some _ e
  show _ ∧ _
  rw [hz]
  have he : IsEnum (g1.push (enumO s.heap.objs.size))
      (s.heap.objs.size + 1) s.heap.objs.size 0 .none := by
    have z := Heap.get?_push_size g1 (o := enumO s.heap.objs.size) rfl
    rw [hz] at z
    exact z
  exact ⟨⟨_, he, rfl⟩, h _ he ⟨tupItO l, Heap.get?_push_of_some _ hit, rfl, rfl⟩ fun b o x => Heap.get?_push_of_some _ (hold b o x)⟩
/-- the pairs (i, item i) of the tuple at a, each a new tuple -/
def IteT (K : PySem.W.Frag) (a : Addr) : It :=
  ⟨fun i H => ∃ (xs : List V) (x : V), SqT K H a xs ∧ xs[i]? = some x,
   fun i H v H' => ∃ T x, v = .ref T ∧ H T = none ∧ H' = upd H T (.tup [.int (i : Nat), x]) ∧ ∀ xs, SqT K H a xs → xs[i]? = some x,
   fun i H => ∃ xs : List V, SqT K H a xs ∧ xs.length ≤ i⟩
theorem turn_enumT {P : Program} {w : World} {K : PySem.W.Frag} {elts : List Expr} {kk : Nat} {tpos : Pos} (a e it : Addr) :
    Turn P w K (.Tuple elts kk tpos) (IteT K a) [e, it] e
      (fun i h => (∃ old, IsEnum h e it ((i : Nat) : Int) old) ∧ h.IsTupleIter it a i ∧ e ≠ it) where
  mem := by simp
  obj := fun i h st b hb => by
    obtain ⟨⟨old, he⟩, ⟨o, ho, hc, hd⟩, _⟩ := st
    rcases (by simpa using hb : b = e ∨ b = it) with z | z
    · subst z
      exact ⟨_, he, fun v q => nomatch q⟩
    · subst z
      exact ⟨o, ho, fun v q => by rw [hd] at q; cases q⟩
  keep := fun i h h' st k => by
    obtain ⟨⟨old, he⟩, hi, hne⟩ := st
    exact ⟨⟨old, k e (by simp) _ he⟩, hi.at fun o q => k it (by simp) o q, hne⟩
  item := by
    intro X hP hw hK hc i pins s σ H E I hf st hg
    subst hP hw hK
    obtain ⟨⟨old, he⟩, hit, hne⟩ := st
    obtain ⟨xs, x, hq, hx⟩ := hg
    obtain ⟨its, rv, p, hz⟩ := I.tuple hq
    have p1 : s.heap.IsTuple a its.toArray := p
    obtain ⟨u0, hu0, ru0⟩ := rv.get hx
    have hel : e < s.heap.objs.size := Heap.lt_size he
    have hil : it < s.heap.objs.size := by
      obtain ⟨_, q, _⟩ := hit
      exact Heap.lt_size q
    have hai : a ≠ it := fun z => by
      obtain ⟨o1, g1, c1, _⟩ := p1
      obtain ⟨o2, g2, c2, _⟩ := hit
      rw [z, g2] at g1
      cases g1
      rw [c1] at c2
      injection c2 with c3
      exact absurd c3 (by decide)
    have hea : e ≠ a := fun z => by
      obtain ⟨o1, g1, c1, _⟩ := p1
      have g2 : s.heap.get? e = some _ := he
      rw [z, g1] at g2
      cases g2
      have c2 : Value.type "enumerate" = Value.type "tuple" := c1
      injection c2 with c3
      exact absurd c3 (by decide)
    have hlt : i < its.toArray.size := by
      have z : i < its.length := (List.getElem?_eq_some_iff.mp hu0).1
      simpa using z
    have DD : Draws X.prog X.w X.A.in1 it [it, a] its.toArray.size (fun i v => its.toArray[i]? = some v) (fun i h => h.IsTupleIter it a i ∧ h.IsTuple a its.toArray) :=
      Draws.tuple (show X.A.in1.handled = none from I.ok.hd hc) it a hai its.toArray
    refine wpAny_pyNext_enum_itemD DD he ⟨hit, p1⟩ hlt hne (by simp [hne, hea]) fun u h' tk hu ho hst hT hsz hk => ?_
    have eu : u = u0 := by
      have z : its[i]? = some u := by simpa using hu
      rw [hu0] at z
      exact (Option.some.inj z).symm
    subst eu
    refine ⟨_, rfl, wpAny_letOwnedTupleGo_enum (s := { s with heap := h', toks := tk + 1 }) ho fun h'' he' sb => ?_⟩
    have hT2 : h''.get? s.heap.objs.size = some { cls := .type "tuple", data := .seq #[.int i tk, u] } := (sb.2 _ (Nat.ne_of_gt hel)).trans hT
    have new : ObjOk X.prog X.w (upd H s.heap.objs.size (.tup [.int (i : Nat), x])) h'' s.heap.objs.size (.tup [.int (i : Nat), x]) :=
      ⟨by show 2 ≤ sizeLine; decide, [.int i tk, u], .cons ⟨_, rfl⟩ (.cons ru0 .nil), ⟨_, hT2, rfl, _, rfl⟩⟩
    have I1 : Inv X pins σ (upd H s.heap.objs.size (.tup [.int (i : Nat), x])) { s with heap := h'', toks := tk + 1 } :=
      I.turnedNew (ch := [e, it]) (fun b ob hb q => (sb.2 b (fun z => hb (by simp [z]))).trans
        (hk b ob (fun z => hb (by simp [z])) (fun z => hb (by simp [z])) q)) hf (Nat.le_refl _) new
    refine ⟨.ref s.heap.objs.size, _, I1, rfl, ⟨_, x, rfl, I.hok.fresh (Nat.le_refl _), rfl, fun ys hy => ?_⟩,
      ⟨⟨u, ?_⟩, hst.1.at fun o q => (sb.2 it (Ne.symm hne)).trans q, hne⟩, fun b hb => ?_⟩
    · rw [I.tuple_inj hy hq]
      exact hx
    · have e1 : ((i + 1 : Nat) : Int) = (i : Int) + 1 := by omega
      rw [e1]
      exact he'
    · have hb' : b < s.heap.objs.size := by
        rcases (by simpa using hb : b = e ∨ b = it) with z | z
        · rw [z]
          exact hel
        · rw [z]
          exact hil
      rw [upd_ne (Nat.ne_of_lt hb')]
      exact (hf b hb).1
  done := by
    intro X hP hw hK hc i pins s σ H E I hf st hg
    subst hP hw hK
    obtain ⟨⟨old, he⟩, hit, hne⟩ := st
    obtain ⟨xs, hq, hx⟩ := hg
    obtain ⟨its, rv, p, hz⟩ := I.tuple hq
    have p1 : s.heap.IsTuple a its.toArray := p
    obtain ⟨f0, f1, f2, f3, f4, f5⟩ := hf it (by simp)
    have hl := rv.length
    have DD : Draws X.prog X.w X.A.in1 it [it, a] i (fun _ _ => True) (fun j h => j = i ∧ h.IsTupleIter it a i ∧ h.IsTuple a its.toArray) :=
      { live := fun _ _ st => let ⟨o, ho, _⟩ := st.2.1; ⟨o, ho⟩
        frame := fun _ _ _ st hk => ⟨st.1, st.2.1.at fun o e => hk it (by simp) o e, st.2.2.at fun o e => hk a (by simp) o e⟩
        item := fun j s Q E hj st hQ => absurd st.1 (by omega)
        done := fun s Q E st hE => wpAny_nextOf_tuple_end (show X.A.in1.handled = none from I.ok.hd hc) st.2.1 st.2.2 (by simp; omega) hE }
    exact wpAny_pyNext_enum_endD DD he ⟨rfl, hit, p1⟩ fun h' eb => ⟨rfl, I.turned (t' := s.toks) (fun b o hb q => eb b o hb q) f0 f1 f3 f4 f5⟩
  self := fun A i s Q E st h => by
    obtain ⟨⟨_, he⟩, _⟩ := st
    exact wpAny_pyIter_enum he h
def iEnumT (K : PySem.W.Frag) (ta : TA) : TI := fun σ H R => ta σ H fun vs H1 => ∃ a xs, vs = [.ref a] ∧ SqT K H1 a xs ∧ R (IteT K a) H1
theorem pi_enumT {X : Cx} {e : Expr} {ta : TA} {p pos tpos : Pos} {elts : List Expr} {kk : Nat} (hg : Gl X "enumerate") (hm : X.mg "enumerate" = none) (ha : PA X [e] ta)
    (hs : starEach [e] X.env = [(false, eval e X.env)] := by rfl) : PI X (.Tuple elts kk tpos) (.Call (.Name "enumerate" p) [e] [] pos) (iEnumT X.K ta) := by
  refine ⟨fun pins s σ H R I h => ?_⟩
  refine Call_ (ld_blt I hg hm boot_enumerate (PyProof.Rows.callWith_type1 (thn (ha.run pos pins s σ H _ I h) fun us s1 hh => ?_) hs rfl))
  obtain ⟨vs, H1, I1, r1, a, xs, ex, hq, q⟩ := hh
  subst ex
  cases r1 with
  | cons r rr =>
    cases rr
    cases r
    obtain ⟨its, rv, p1, hz⟩ := I1.tuple hq
    refine call_enumT (items := its.toArray) p1 fun h' he hit hk => wpAny_pyIter_enum he ?_
    have I2 : Inv X pins σ H1 { s1 with heap := h' } := I1.kept (t' := s1.toks) hk
    refine ⟨s1.heap.objs.size + 1, [s1.heap.objs.size + 1, s1.heap.objs.size], _, _, H1, rfl, I2, turn_enumT a (s1.heap.objs.size + 1) s1.heap.objs.size,
      ⟨⟨.none, he⟩, hit, Nat.succ_ne_self _⟩, fun b hb => ?_, q⟩
    have hle : s1.heap.objs.size ≤ b := by
      rcases (by simpa using hb : b = s1.heap.objs.size + 1 ∨ b = s1.heap.objs.size) with z | z
      · rw [z]
        exact Nat.le_succ _
      · rw [z]
        exact Nat.le_refl _
    exact I1.fpOk hle (I1.hok.fresh hle)
/-- a for over enumerate(t): Pv at each turn; the pair stands in a new tuple at T -/
theorem for_enumT {K : PySem.W.Frag} {a : Addr} {xs : List V} {g : TG} {tb : TS} {D : Ends} {σ : L2.St} {H : Hp} (Pv : Nat → L2.St → Hp → Prop) (h0 : Pv 0 σ H)
    (hl : ∀ i σ H, i ≤ xs.length → Pv i σ H → SqT K H a xs)
    (hs : ∀ i x σ H T, xs[i]? = some x → Pv i σ H → H T = none → g (.ref T) σ (upd H T (.tup [.int (i : Nat), x])) fun σ2 H2 => tb { D with nx := Pv (i + 1), ct := Pv (i + 1), bk := D.nx } σ2 H2)
    (hd : ∀ σ H, Pv xs.length σ H → D.nx σ H) :
    ∃ W : Nat → Nat → L2.St → Hp → Prop, (∃ m, W 0 m σ H) ∧ ∀ i m σ H, W i m σ H →
      ((IteT K a).stop i H ∧ D.nx σ H) ∨ ((IteT K a).go i H ∧ ∃ N : L2.St → Hp → Prop, (∀ σ' H', N σ' H' → ∃ m', m' < m ∧ W (i + 1) m' σ' H') ∧
        ∀ x H', (IteT K a).yld i H x H' → g x σ H' fun σ2 H2 => tb { D with nx := N, ct := N, bk := D.nx } σ2 H2) := by
  refine ⟨fun i m σ H => m = xs.length - i ∧ i ≤ xs.length ∧ Pv i σ H, ⟨xs.length, by simp, Nat.zero_le _, h0⟩, ?_⟩
  rintro i m σ H ⟨rfl, hi, p⟩
  have q := hl i σ H hi p
  by_cases hlt : i < xs.length
  · refine .inr ⟨⟨xs, xs[i], q, by simp [hlt]⟩, Pv (i + 1), fun σ' H' p' => ⟨xs.length - (i + 1), by omega, rfl, hlt, p'⟩, fun x H' y => ?_⟩
    obtain ⟨T, x1, rfl, nT, rfl, hx⟩ := y
    exact hs i x1 σ H T (hx _ q) p nT
  · have e : i = xs.length := by omega
    subst e
    exact .inl ⟨⟨xs, q, Nat.le_refl _⟩, hd σ H p⟩
end KS
namespace KS
open PySem PySem.Spec PyProof.Rows L2
/-! ### promises of defs that are only called where no repr is under way -/
structure FnG (P : Program) (w : World) (K : PySem.W.Frag) (mg : Str → Option Value) (base : Heap) (k : Nat) (f : Addr) (fd : FuncData) (ps : List Str) (sp : Sp) : Prop where
  len : ∀ vs H Q E, sp vs H Q E → vs.length = ps.length
  run : ∀ (A : Around) (outer : List Env) (s : Shared) (H : Hp) (args : Args) (us : List Value) (vs : List V) (Q : VK) (E : XK),
    Room k A → A.guards = some [] → Env0 P w K mg base A outer s H → BindsTo s fd args (ps.zip us) → Vals vs us → sp vs H Q E →
    codeAny (model P w) A (.call (.ref f) args) (CR CX0 outer P w H s Q E) s
section
variable {P : Program} {w : World} {K : PySem.W.Frag} {mg : Str → Option Value} {base : Heap}
theorem okG {x qual : Str} {st : Stmt} {f : Addr} {fd : FuncData} {N ps : List Str} {k : Nat} {sp : Sp} (F : Fun K x qual st f fd) (S : FnScope N ps (defScope st))
    (len : ∀ vs H Q E, sp vs H Q E → vs.length = ps.length)
    (hbody : ∀ (cdv : Value) (A : Around) (outer : List Env) (s : Shared) (H : Hp) (vs : List V) (Q : VK) (E : XK),
      Room k (A.deeper (envOfC qual (defScope st) s.heap.objs.size f cdv)) → A.guards = some [] → sp vs H Q E →
      ∃ t, PSs (cxOf CX0 P w K mg base N qual (defScope st) f cdv A outer s H E).nox (defBody st) t ∧ t { nx := fun _ H' => Q .non H', rt := Q } (start N vs) H) :
    FnG P w K mg base (k + 1) f fd ps sp := by
  obtain ⟨oc, od, kV, doc, pm, an, cdv, ct, osl, rfl, lk, hcd⟩ := F.ex
  refine ⟨len, fun A outer s H args us vs Q E hr hgd e0 hb r hsp => ?_⟩
  have hl := len _ _ _ _ hsp
  have kept : ∀ b o, base.get? b = some o → s.heap.get? b = some o := fun b o e => (e0.bs b o e).1
  have KX : K.In s.heap := e0.mod.kin.keeps kept
  have lim : s.heap.NoLimit := e0.mod.nolimit.keeps kept
  have hkind : ∀ y ∈ ps.zip us, (defScope st).names.lookup y.1 = some .local ∨
      ((defScope st).names.lookup y.1 = some .cell ∧ ((cellsFrom (s.heap.objs.size + 1) (defScope st).names []).lookup y.1).isSome = true) := by
    rintro ⟨n, v⟩ hy
    rcases S.par n (List.of_mem_zip hy).1 with q | q
    · left
      exact q
    · right
      exact ⟨q, PySem.W.cellsFrom_some _ _ _ (.inl q)⟩
  refine codeAny_call_function hr.depth (KX _ _ lk) rfl S.co S.gen rfl
    (PySem.W.codeRec_of KX hcd) (hb _ _ _ _ ?_)
  refine wpAny_newFunctionEnv_cells S.kind hkind fun env he s1 x => ?_
  subst he
  refine ⟨lim.keeps x.toInCall.keep, codeAny_func ?_⟩
  obtain ⟨t, ht0, hq⟩ := hbody cdv A outer s H vs Q E (hr.deeper _) hgd hsp
  have ht := ht0.nox
  have I := inv_start (CX := CX0) (E := E) (cd := cdv) (qual := qual) (f := f) S hr.hd e0 hl r x
  refine wpAny_mono (ht.run [] s1 (start N vs) H _ I hq) (fun fl s' hs => ?_)
    fun e s' hs => hs
  cases fl with
  | ret u =>
    obtain ⟨v, σ', H', J, rv, q⟩ := hs
    exact ⟨v, H', J.os, J.bare, J.base, J.hok, rv, q⟩
  | next =>
    obtain ⟨σ', H', J, q⟩ := hs
    exact ⟨V.non, H', J.os, J.bare, J.base, J.hok, rfl, q⟩
  | brk =>
    obtain ⟨_, _, _, q⟩ := hs
    cases q
  | cont =>
    obtain ⟨_, _, _, q⟩ := hs
    cases q
end
section
variable {X : Cx} {k : Nat} {f : Addr} {fd : FuncData} {ps : List Str} {sp : Sp} {x : Str} {p pos : Pos} {e : Expr} {es : List Expr} {t : TA}
theorem pe_callG (F : FnG X.prog X.w X.K X.mg X.base k f fd ps sp) (hr : Room k X.A) (hgd : X.A.guards = some []) (hg : Gl X x) (hm : X.mg x = some (.ref f))
    (hk : PySem.W.keepIn X.K (.ref f) = true) (hb : Binds X.K fd ps []) (ha : PA X (e :: es) t) (hdb : (x == ("__debug__" : Str)) = false := by decide)
    (he : starEach (e :: es) X.env = (false, eval e X.env) :: starEach es X.env := by rfl)
    (hpl : (backTo pos (starEach es X.env)).any (·.1) = false := by rfl) :
    PE X (.Call (.Name x p) (e :: es) [] pos) (tCall sp [] E0 t) := by
  refine ⟨fun pins s σ H Q I h => wpAny_Call_Name_kw (ld_glob I hg hm ?_ hdb)⟩
  refine PySem.W.callWith_K (h₀ := X.base) I.ok.mod.kin hk (thn (ha.run pos pins s σ H _ I h) fun us s1 hh => ?_) he hpl
  obtain ⟨vs, H1, I1, r, q⟩ := hh
  refine ⟨I1.kIn, ?_⟩
  have q1 : sp (vs ++ []) H1 Q E0 := q
  rw [List.append_nil] at q1
  have hl : (us ++ []).length = ps.length := by
    rw [List.append_nil, ← r.length]
    exact F.len _ _ _ _ q1
  have bb := hb s1 us I1.kIn hl
  rw [List.append_nil] at bb
  refine wpAny_call (codeAny_mono (F.run X.A X.stack s1 H1 ⟨us, []⟩ us vs Q E0 hr hgd I1.env0 bb r q1) fun z s' hq => ?_)
  cases z with
  | error e => cases hq
  | ok fl =>
    cases fl with
    | ret u => exact I1.after hq
    | next => cases hq
    | brk => cases hq
    | cont => cases hq
/-- repr(x), x a list or tuple of plain data, where no repr is under way -/
theorem call_reprD (hgd : X.A.guards = some []) (hu : X.A.units + 100 < cLine) : CallR X (.builtin "repr") (fun xs H Q => ∃ (a : Addr) (d : PyData), xs = [.ref a] ∧ Dp X.K H (.ref a) d ∧
    d.showable = true ∧ d.hasDict = false ∧ d.shown.length ≤ sizeLine ∧ d.depth ≤ 64 ∧ Q (.str d.shown) H) := by
  intro pins s σ H xs us Q I r h
  obtain ⟨a, d, rfl, hd, h1, h2, h3, h4, q⟩ := h
  rw [Vals.ref1 r]
  obtain ⟨as, R⟩ := Dp.reads I d (.ref a) (.ref a) hd rfl
  exact repr_of_reads' R h1 (PyData.noDict_hsm h2) hgd (by omega) (fun _ _ e => e) (fun h' u tk hk => ⟨.str d.shown, H, I.kept hk, ⟨u, rfl⟩, q⟩) h3
end
/-! ### the end of a row whose law has such a promise -/
end KS
namespace KS
open PySem PySem.Spec PyProof.Rows L2
/-! ### cells and plans -/
abbrev Cell := Int × Int
def CellAt (K : PySem.W.Frag) (H : Hp) (x : V) (c : Cell) : Prop := ∃ t, x = .ref t ∧ SqT K H t [.int c.1, .int c.2]
abbrev CellsAt (K : PySem.W.Frag) (H : Hp) : List V → List Cell → Prop := Paired (CellAt K H)
def lt2 (a b : Cell) : Prop := a.1 < b.1 ∨ (a.1 = b.1 ∧ a.2 < b.2)
def InGrid (c : Cell) : Prop := 0 ≤ c.1 ∧ c.1 ≤ 7 ∧ 0 ≤ c.2 ∧ c.2 ≤ 7
structure Good (cs : List Cell) : Prop where
  asc : cs.Pairwise lt2
  grid : ∀ c ∈ cs, InGrid c
  ne : cs ≠ []
/-- tuples are kept -/
def KT (K : PySem.W.Frag) (H H' : Hp) : Prop := ∀ a xs, SqT K H a xs → SqT K H' a xs
section
variable {K : PySem.W.Frag} {H H1 H2 H' : Hp}
theorem KT.trans (a : KT K H H1) (b : KT K H1 H2) : KT K H H2 := fun x xs h => b x xs (a x xs h)
theorem KT.of_same (a : Same H H1) : KT K H H1 := fun _ _ h => same_seqT a h
theorem KT.of_keepX {p : Addr} (hp : PoolO (H p)) (a : KeepX p H H1) : KT K H H1 := fun _ _ h => keepX_seqT hp a h
theorem KT.upd {e : Addr} {ys : List V} {o : HO} (h : H e = some (.lst ys)) : KT K H (upd H e o) := fun a xs q => by
  rcases q with (q | ⟨ob, q⟩) | q
  · exact .inl (.inl (by rw [upd_ne (ne_of q h (by intro z; cases z))]; exact q))
  · exact .inl (.inr ⟨ob, by rw [upd_ne (ne_of q h (by intro z; cases z))]; exact q⟩)
  · exact .inr q
theorem CellAt.kt {x : V} {c : Cell} (k : KT K H H') (h : CellAt K H x c) : CellAt K H' x c := by
  obtain ⟨t, e, q⟩ := h
  exact ⟨t, e, k _ _ q⟩
theorem cells_kt {xs : List V} {cs : List Cell} (k : KT K H H') (h : CellsAt K H xs cs) : CellsAt K H' xs cs := Paired.mono (fun _ _ q => q.kt k) h
end
theorem paired_append {α β : Type} {F : α → β → Prop} : ∀ {l₁ l₁' : List α} {l₂ l₂' : List β}, Paired F l₁ l₂ → Paired F l₁' l₂' → Paired F (l₁ ++ l₁') (l₂ ++ l₂')
  | _, _, _, _, .nil, h => h
  | _, _, _, _, .cons r t, h => .cons r (paired_append t h)
theorem paired_get {α β : Type} {F : α → β → Prop} : ∀ {l₁ : List α} {l₂ : List β} {i : Nat} {x : α}, Paired F l₁ l₂ → l₁[i]? = some x → ∃ y, l₂[i]? = some y ∧ F x y
  | _, _, _, _, .nil, h => by simp at h
  | _, _, 0, _, .cons r t, h => by
    simp at h
    subst h
    exact ⟨_, rfl, r⟩
  | _, _, i + 1, _, .cons r t, h => by
    simp at h
    obtain ⟨y, e, f⟩ := paired_get t h
    exact ⟨y, by simpa using e, f⟩
theorem paired_erase {α β : Type} {F : α → β → Prop} : ∀ {l₁ : List α} {l₂ : List β} (i : Nat), Paired F l₁ l₂ → Paired F (l₁.eraseIdx i) (l₂.eraseIdx i)
  | _, _, _, .nil => .nil
  | _, _, 0, .cons r t => t
  | _, _, i + 1, .cons r t => .cons r (paired_erase i t)
/-- the cells of one row -/
def rowCells (r c : Int) (n : Nat) : List Cell := (List.range n).map fun (s : Nat) => (r, c + (s : Int))
theorem rowCells_succ (r c : Int) (n : Nat) : rowCells r c (n + 1) = rowCells r c n ++ [(r, c + (n : Int))] := by
  unfold rowCells
  rw [List.range_succ, List.map_append]
  rfl
theorem rowCells_mem {r c : Int} {n : Nat} {x : Cell} (h : x ∈ rowCells r c n) : x.1 = r ∧ c ≤ x.2 ∧ x.2 < c + n := by
  unfold rowCells at h
  obtain ⟨s, hs, rfl⟩ := List.mem_map.mp h
  have := List.mem_range.mp hs
  refine ⟨rfl, ?_, ?_⟩ <;> show _ <;> simp <;> omega
theorem rowCells_asc (r c : Int) : ∀ n : Nat, (rowCells r c n).Pairwise lt2
  | 0 => List.Pairwise.nil
  | n + 1 => by
    rw [rowCells_succ, List.pairwise_append]
    refine ⟨rowCells_asc r c n, List.pairwise_singleton _ _, fun a ha b hb => ?_⟩
    obtain ⟨e1, e2, e3⟩ := rowCells_mem ha
    rw [List.mem_singleton] at hb
    subst hb
    exact .inr ⟨e1, e3⟩
theorem rowCells_len (r c : Int) (n : Nat) : (rowCells r c n).length = n := by
  unfold rowCells
  rw [List.length_map, List.length_range]
def PlanAt (K : PySem.W.Frag) (H : Hp) (a : Addr) (cs : List Cell) : Prop := ∃ xs, SqT K H a xs ∧ CellsAt K H xs cs
theorem PlanAt.kt {K : PySem.W.Frag} {H H' : Hp} {a : Addr} {cs : List Cell} (k : KT K H H') (h : PlanAt K H a cs) : PlanAt K H' a cs := by
  obtain ⟨xs, h1, h2⟩ := h
  exact ⟨xs, k _ _ h1, cells_kt k h2⟩
/-- every = [spot for spot in every if ..] or every -/
def tFil (K : PySem.W.Frag) (tc : TT) : TS := tAsg (tOrT K (tLc (iList K (tVar 7)) (gName 12) tc (tVar 12) [12]) (tVar 7)) (gName 7)
theorem small64 {n : Nat} (h : n ≤ 64) : n < sizeLine := by
  rw [sizeLine_eq]
  omega
end KS
namespace KS
open PySem PySem.Spec PyProof.Rows L2
abbrev tDr (tm : TE) : TE := tCall spDraw [] E0 (tCons (tVar 0) (tCons tm tNil))
abbrev rAdd : V → V → Hp → VK → Prop := rI0 fun i j => .int (i + j)
/-- if mode == 2: high, wide = 1 + draw(pool, 8), 1 + draw(pool, 8) -/
theorem par_if {p : Addr} {m mode wide high : Int} {σr : L2.St} {H2 : Hp} {D : Ends} (po : PoolO (H2 p)) (hw : 1 ≤ wide ∧ wide ≤ 8) (hh : 1 ≤ high ∧ high ≤ 8)
    (k : ∀ (wide' high' : Int) (H3 : Hp), KeepX p H2 H3 → PoolO (H3 p) → 1 ≤ wide' ∧ wide' ≤ 8 → 1 ≤ high' ∧ high' ≤ 8 → D.nx (some (.ref p) :: some (.int m) :: some (.int mode) :: some (.int wide') :: some (.int high') :: σr) H3) :
    tIfS (tTest (tOp rEq (tVar 2) (tC (.int 2)))) (tPar 4 3 (tCons (tOp rAdd (tC (.int 1)) (tDr (tC (.int 8)))) (tCons (tOp rAdd (tC (.int 1)) (tDr (tC (.int 8)))) tNil))) tNext D
      (some (.ref p) :: some (.int m) :: some (.int mode) :: some (.int wide) :: some (.int high) :: σr) H2 := by
  refine ⟨_, rfl, rfl, _, rfl, ite2 (fun e => ?_) (fun e => ?_)⟩
  · refine ⟨_, rfl, p, 8, rfl, po, by decide, by decide, fun H3 a k3 po3 a0 a1 => ?_⟩
    refine ⟨_, _, rfl, rfl, _, rfl, p, 8, rfl, po3, by decide, by decide, fun H4 b k4 po4 b0 b1 => ?_⟩
    exact ⟨_, _, rfl, rfl, _, _, rfl, k (1 + b) (1 + a) H4 (k3.trans k4) po4 ⟨by omega, by omega⟩ ⟨by omega, by omega⟩⟩
  · exact k wide high H2 (KeepX.refl _ _) po hw hh
end KS
namespace KS
open PySem PySem.Spec PyProof.Rows L2
abbrev rSub : V → V → Hp → VK → Prop := rI0 fun i j => .int (i - j)
abbrev rLe : V → V → Hp → VK → Prop := rI0 fun i j => .bl (decide (i ≤ j))
end KS
namespace KS
open PySem PySem.Spec PyProof.Rows L2
theorem tyx_tup {K : PySem.W.Frag} {H : Hp} {a : Addr} {xs : List V} (h : SqT K H a xs) : TyX K H (.ref a) (.type "tuple") := by
  rcases h with (h | ⟨o, h⟩) | h
  · exact .base (.tup h)
  · exact .fTuple h
  · obtain ⟨o, its, n, e, c, r⟩ := h
    exact .kTuple e c
theorem bl_true {p : Prop} [Decidable p] (h : p) : V.bl (decide p) = V.bl true := by rw [decide_eq_true h]
theorem bl_false {p : Prop} [Decidable p] (h : ¬ p) : V.bl (decide p) = V.bl false := by rw [decide_eq_false h]
/-- a number of a row or column -/
def Place (v : Int) : Prop := 0 ≤ v ∧ v ≤ 7
def spWhole : Sp := fun vs H Q _ => ∃ i : Int, vs = [.int i] ∧ Q (.bl true) H
def spBetween : Sp := fun vs H Q _ => ∃ i lo hi : Int, vs = [.int i, .int lo, .int hi] ∧ lo ≤ i ∧ i ≤ hi ∧ Q (.bl true) H
def spPlace : Sp := fun vs H Q _ => ∃ i : Int, vs = [.int i] ∧ Place i ∧ Q (.bl true) H
def spIsCell (K : PySem.W.Frag) : Sp := fun vs H Q _ => ∃ (a : Addr) (c : Cell), vs = [.ref a] ∧ SqT K H a [.int c.1, .int c.2] ∧ InGrid c ∧ Q (.bl true) H
def spCheck (K : PySem.W.Frag) : Sp := fun vs H Q _ => ∃ (a : Addr) (cs : List Cell), vs = [.ref a] ∧ PlanAt K H a cs ∧ Good cs ∧ cs.length ≤ 24 ∧ ∀ H', Same H H' → Q .non H'
theorem good_step {cs : List Cell} (g : cs.Pairwise lt2) {i : Nat} {a b : Cell} (h1 : cs[i]? = some a) (h2 : cs[i + 1]? = some b) : lt2 a b := by
  obtain ⟨l1, e1⟩ := List.getElem?_eq_some_iff.mp h1
  obtain ⟨l2, e2⟩ := List.getElem?_eq_some_iff.mp h2
  have := (List.pairwise_iff_getElem.mp g) i (i + 1) l1 l2 (by omega)
  rw [e1, e2] at this
  exact this
theorem not_le2 {a b : Cell} (h : lt2 a b) : Ob.lexAt (fun j => decide (([b.1, b.2] : List Int).getD j 0 = ([a.1, a.2] : List Int).getD j 0)) (fun j => decide (([b.1, b.2] : List Int).getD j 0 ≤ ([a.1, a.2] : List Int).getD j 0)) (decide (([b.1, b.2] : List Int).length ≤ ([a.1, a.2] : List Int).length)) 0 (min ([b.1, b.2] : List Int).length ([a.1, a.2] : List Int).length) = false := by
  show Ob.lexAt _ _ _ 0 2 = false
  rw [Ob.lexAt_succ, Ob.lexAt_succ]
  show (if decide (b.1 = a.1) = true then (if decide (b.2 = a.2) = true then _ else decide (b.2 ≤ a.2)) else decide (b.1 ≤ a.1)) = false
  rcases h with h | ⟨h1, h2⟩
  · rw [if_neg (by simp; omega)]
    simp
    omega
  · rw [if_pos (by simp; omega), if_neg (by simp; omega)]
    simp
    omega
end KS
namespace KS
open PySem PySem.Spec PyProof.Rows L2
/-! ### f(k = v, ..), keywords alone -/
/-- two keywords, in the other order -/
def swap2 {α : Type} : List α → List α
  | [a, b] => [b, a]
  | _ => []
theorem swap2_rel {zs : List V} {ws : List Value} (r : Vals zs ws) : Vals (swap2 zs) (swap2 ws) := by
  cases r with
  | nil => exact .nil
  | cons r1 r2 =>
    cases r2 with
    | nil => exact .nil
    | cons r3 r4 =>
      cases r4 with
      | nil => exact .cons r3 (.cons r1 .nil)
      | cons _ _ => exact .nil
/-! ### lines, as numbers -/
/-- row (false) or column (true) of a cell -/
def pick (b : Bool) (c : Cell) : Int := if b = true then c.2 else c.1
/-- the indexes below i of cells in line r -/
def idxs (b : Bool) (cs : List Cell) (i : Nat) (r : Int) : List Int := ((List.range i).filter fun j => decide ((cs[j]?).map (pick b) = some r)).map fun (j : Nat) => (j : Int)
theorem idxs_hit {b : Bool} {cs : List Cell} {i : Nat} {c : Cell} (h : cs[i]? = some c) : idxs b cs (i + 1) (pick b c) = idxs b cs i (pick b c) ++ [(i : Int)] := by
  unfold idxs
  rw [List.range_succ, List.filter_append, List.map_append]
  congr 1
  rw [List.filter_cons_of_pos (by simp [h])]
  rfl
theorem idxs_miss {b : Bool} {cs : List Cell} {i : Nat} {c : Cell} {r : Int} (h : cs[i]? = some c) (n : pick b c ≠ r) : idxs b cs (i + 1) r = idxs b cs i r := by
  unfold idxs
  rw [List.range_succ, List.filter_append, List.map_append]
  rw [List.filter_cons_of_neg (by simp [h, n])]
  simp
def lnsOf (b : Bool) (cs : List Cell) : List (List Int) := ((List.range 8).map fun (r : Nat) => idxs b cs cs.length (r : Int)).filter fun l => decide (l ≠ [])
theorem idxs_len (b : Bool) (cs : List Cell) (i : Nat) (r : Int) : (idxs b cs i r).length ≤ i := by
  unfold idxs
  rw [List.length_map]
  exact Nat.le_trans (List.length_filter_le _ _) (by simp)
theorem idxs_grid {b : Bool} {cs : List Cell} {i : Nat} {r : Int} (g : ∀ c ∈ cs, InGrid c) (h : idxs b cs i r ≠ []) : 0 ≤ r ∧ r < 8 := by
  cases e : idxs b cs i r with
  | nil => exact absurd e h
  | cons x l =>
    have hx : x ∈ idxs b cs i r := by
      rw [e]
      exact List.mem_cons_self
    unfold idxs at hx
    obtain ⟨j, hj, rfl⟩ := List.mem_map.mp hx
    have q := of_decide_eq_true (List.mem_filter.mp hj).2
    cases z : cs[j]? with
    | none =>
      rw [z] at q
      cases q
    | some c =>
      rw [z] at q
      have q' : pick b c = r := Option.some.inj q
      have gc := g c (List.mem_of_getElem? z)
      unfold pick at q'
      unfold InGrid at gc
      split at q' <;> omega
/-- two strictly ascending lists with the same members are one -/
theorem asc_ext : ∀ {l m : List Int}, l.Pairwise (· < ·) → m.Pairwise (· < ·) → (∀ x, x ∈ l ↔ x ∈ m) → l = m
  | [], [], _, _, _ => rfl
  | [], y :: m, _, _, h => absurd ((h y).mpr List.mem_cons_self) (by simp)
  | x :: l, [], _, _, h => absurd ((h x).mp List.mem_cons_self) (by simp)
  | x :: l, y :: m, h1, h2, h => by
    rw [List.pairwise_cons] at h1 h2
    have e : x = y := by
      rcases List.mem_cons.mp ((h x).mp List.mem_cons_self) with z | z
      · exact z
      · rcases List.mem_cons.mp ((h y).mpr List.mem_cons_self) with z2 | z2
        · exact z2.symm
        · have a := h2.1 x z
          have b := h1.1 y z2
          omega
    subst e
    congr 1
    refine asc_ext h1.2 h2.2 fun z => ⟨fun hz => ?_, fun hz => ?_⟩
    · rcases List.mem_cons.mp ((h z).mp (List.mem_cons_of_mem _ hz)) with e | e
      · have := h1.1 z hz
        omega
      · exact e
    · rcases List.mem_cons.mp ((h z).mpr (List.mem_cons_of_mem _ hz)) with e | e
      · have := h2.1 z hz
        omega
      · exact e
theorem strict_of {l : List Int} (h : l.Pairwise (· ≤ ·)) (n : l.Nodup) : l.Pairwise (· < ·) := by
  rw [List.nodup_iff_pairwise_ne] at n
  exact (h.and n).imp fun {a b} q => by omega
/-- the lines in use, by number -/
def usedOf (b : Bool) (cs : List Cell) : List Int := ((List.range 8).map fun (r : Nat) => (r : Int)).filter fun r => decide (idxs b cs cs.length r ≠ [])
theorem used_asc (b : Bool) (cs : List Cell) : (usedOf b cs).Pairwise (· < ·) := by
  unfold usedOf
  exact List.Pairwise.sublist List.filter_sublist (by decide)
theorem used_lines (b : Bool) (cs : List Cell) : (usedOf b cs).map (fun r => idxs b cs cs.length r) = lnsOf b cs := by
  unfold usedOf lnsOf
  rw [List.filter_map, List.filter_map, List.map_map]
  rfl
theorem used_mem {b : Bool} {cs : List Cell} (g : ∀ c ∈ cs, InGrid c) (r : Int) : r ∈ usedOf b cs ↔ idxs b cs cs.length r ≠ [] := by
  unfold usedOf
  rw [List.mem_filter]
  refine ⟨fun h => of_decide_eq_true h.2, fun h => ⟨?_, decide_eq_true h⟩⟩
  have := idxs_grid g h
  rw [List.mem_map]
  exact ⟨r.toNat, List.mem_range.mpr (by omega), by omega⟩
/-! ### lines, in the heap -/
def TupI (K : PySem.W.Frag) (H : Hp) (x : V) (l : List Int) : Prop := ∃ t, x = .ref t ∧ SqT K H t (l.map V.int)
abbrev lineD (l : List Int) : PyData := .tuple (l.map PyData.int)
theorem dp_ints {K : PySem.W.Frag} {H : Hp} : ∀ l : List Int, DpAll K H (l.map V.int) (l.map PyData.int)
  | [] => .nil
  | x :: l => .cons (.int x) (dp_ints l)
theorem tupI_kt {K : PySem.W.Frag} {H H' : Hp} (k : KT K H H') {xs : List V} {ls : List (List Int)} (h : Paired (TupI K H) xs ls) : Paired (TupI K H') xs ls :=
  Paired.mono (fun _ _ ⟨t, e, q⟩ => ⟨t, e, k _ _ q⟩) h
def spIsKind : Sp := fun vs H Q _ => ∃ b : Bool, vs = [.str (if b = true then "C" else "R")] ∧ ∀ H', Same H H' → Q (.bl true) H'
def spKind : Sp := fun vs H Q _ => ∃ b : Bool, vs = [.str (if b = true then "C" else "R")] ∧ ∀ H', Same H H' → Q .non H'
def spLines (K : PySem.W.Frag) : Sp := fun vs H Q _ => ∃ (a : Addr) (b : Bool) (cs : List Cell), vs = [.ref a, .str (if b = true then "C" else "R")] ∧ PlanAt K H a cs ∧ Good cs ∧ cs.length ≤ 24 ∧
  ∀ H' p xs, Same H H' → SqT K H' p xs → Paired (TupI K H') xs (lnsOf b cs) → Q (.ref p) H'
end KS
namespace KS
open PySem PySem.Spec PyProof.Rows L2
/-- 0 if kind == "R" else 1 -/
theorem side_ok {b : Bool} {σ : L2.St} {H : Hp} {Q : VK} (hσ : σ[1]? = some (some (.str (if b = true then "C" else "R")))) (k : Q (.int (if b = true then 1 else 0)) H) :
    tIf (tTest (tOp rEq (tVar 1) (tC (.str "R")))) (tC (.int 0)) (tC (.int 1)) σ H Q := by
  refine ⟨_, hσ, by cases b <;> rfl, _, rfl, ?_⟩
  cases b
  · rw [if_pos (by decide +kernel)]
    exact k
  · rw [if_neg (by decide +kernel)]
    exact k
theorem at_pick {b : Bool} {c : Cell} : atI [V.int c.1, V.int c.2] (if b = true then 1 else 0) = some (V.int (pick b c)) := by
  cases b <;> rfl
/-- the dict of lines behind i cells -/
structure Grp (b : Bool) (cs : List Cell) (i : Nat) (d : Addr) (kvs : List (Key × V)) (ad : Int → Addr) (H : Hp) : Prop where
  dict : H d = some (.dK kvs)
  keys : ∃ ks : List Int, kvs.map (·.1) = ks.map Sum.inl ∧ ks.Nodup ∧ ks.length ≤ i
  val : ∀ r : Int, valV kvs (.inl r) = if idxs b cs i r = [] then none else some (.ref (ad r))
  lst : ∀ r : Int, idxs b cs i r ≠ [] → H (ad r) = some (.lst ((idxs b cs i r).map V.int))
  inj : ∀ r r' : Int, idxs b cs i r ≠ [] → idxs b cs i r' ≠ [] → ad r = ad r' → r = r'
theorem Grp.same {b : Bool} {cs : List Cell} {i : Nat} {d : Addr} {kvs : List (Key × V)} {ad : Int → Addr} {H H' : Hp} (g : Grp b cs i d kvs ad H) (s : Same H H') : Grp b cs i d kvs ad H' :=
  ⟨s _ _ g.dict, g.keys, g.val, fun r h => s _ _ (g.lst r h), g.inj⟩
theorem Grp.more {b : Bool} {cs : List Cell} {i : Nat} {d : Addr} {kvs : List (Key × V)} {ad : Int → Addr} {H : Hp} {c : Cell} (g : Grp b cs i d kvs ad H) (hc : cs[i]? = some c) (h : idxs b cs i (pick b c) ≠ []) :
    Grp b cs (i + 1) d kvs ad (upd H (ad (pick b c)) (.lst ((idxs b cs i (pick b c)).map V.int ++ [.int (i : Nat)]))) := by
  have same : ∀ r, (idxs b cs (i + 1) r = []) ↔ (idxs b cs i r = []) := fun r => by
    by_cases e : pick b c = r
    · subst e
      rw [idxs_hit hc]
      simp [h]
    · rw [idxs_miss hc e]
  have hd : d ≠ ad (pick b c) := ne_of g.dict (g.lst _ h) (by intro z; cases z)
  obtain ⟨ks, k1, k2, k3⟩ := g.keys
  refine ⟨by rw [upd_ne hd]; exact g.dict, ⟨ks, k1, k2, by omega⟩, fun r => ?_, fun r hr => ?_, fun r r' h1 h2 => g.inj r r' (fun z => h1 ((same r).mpr z)) (fun z => h2 ((same r').mpr z))⟩
  · rw [g.val r]
    by_cases e : idxs b cs i r = []
    · rw [if_pos e, if_pos ((same r).mpr e)]
    · rw [if_neg e, if_neg (fun z => e ((same r).mp z))]
  · have hr' : idxs b cs i r ≠ [] := fun z => hr ((same r).mpr z)
    by_cases e : pick b c = r
    · subst e
      rw [upd_same, idxs_hit hc, List.map_append]
      rfl
    · rw [upd_ne (fun z => e (g.inj _ _ h hr' z.symm)), idxs_miss hc e]
      exact g.lst r hr'
theorem Grp.new {b : Bool} {cs : List Cell} {i : Nat} {d z : Addr} {kvs : List (Key × V)} {ad : Int → Addr} {H : Hp} {c : Cell} (g : Grp b cs i d kvs ad H) (hc : cs[i]? = some c) (h : idxs b cs i (pick b c) = []) (nz : H z = none) :
    Grp b cs (i + 1) d (putK kvs (.inl (pick b c)) (.ref z)) (fun r => if r = pick b c then z else ad r) (upd (upd (upd H z (.lst [])) d (.dK (putK kvs (.inl (pick b c)) (.ref z)))) z (.lst ([] ++ [.int (i : Nat)]))) := by
  have hv : valV kvs (.inl (pick b c)) = none := by
    rw [g.val, if_pos h]
  have hdz : d ≠ z := ne_of_none g.dict nz
  have hput : putK kvs (Sum.inl (pick b c)) (V.ref z) = kvs ++ [(Sum.inl (pick b c), V.ref z)] := by
    unfold putK
    rw [if_neg]
    rw [valV_any, hv]
    simp
  have hit : idxs b cs (i + 1) (pick b c) = [(i : Int)] := by
    rw [idxs_hit hc, h]
    rfl
  obtain ⟨ks, k1, k2, k3⟩ := g.keys
  refine ⟨?_, ⟨ks ++ [pick b c], ?_, ?_, ?_⟩, fun r => ?_, fun r hr => ?_, fun r r' h1 h2 => ?_⟩
  · rw [upd_ne hdz, upd_same]
  · rw [hput, List.map_append, List.map_append, k1]
    rfl
  · rw [List.nodup_append]
    refine ⟨k2, by simp, fun x hx y hy e => ?_⟩
    rw [List.mem_singleton] at hy
    subst hy
    subst e
    apply valV_not hv
    rw [k1]
    exact List.mem_map.mpr ⟨_, hx, rfl⟩
  · rw [List.length_append]
    simp
    omega
  · rw [valV_put]
    by_cases e : r = pick b c
    · subst e
      rw [if_pos rfl, hit, if_neg (by simp), if_pos rfl]
    · rw [if_neg (fun q => e (Sum.inl.inj q)), g.val, idxs_miss hc (Ne.symm e), if_neg e]
  · by_cases e : r = pick b c
    · subst e
      show upd _ _ _ (if _ then z else _) = _
      rw [if_pos rfl, upd_same, hit]
      rfl
    · show upd _ _ _ (if _ then z else _) = _
      rw [if_neg e]
      rw [idxs_miss hc (Ne.symm e)] at hr ⊢
      have hl := g.lst r hr
      rw [upd_ne (ne_of_none hl nz), upd_ne (ne_of hl g.dict (by intro q; cases q)), upd_ne (ne_of_none hl nz)]
      exact hl
  · intro e
    by_cases e1 : r = pick b c
    · by_cases e2 : r' = pick b c
      · rw [e1, e2]
      · have e' : (if r = pick b c then z else ad r) = (if r' = pick b c then z else ad r') := e
        rw [if_pos e1, if_neg e2] at e'
        rw [idxs_miss hc (Ne.symm e2)] at h2
        have := g.lst r' h2
        rw [← e', nz] at this
        cases this
    · have e' : (if r = pick b c then z else ad r) = (if r' = pick b c then z else ad r') := e
      rw [idxs_miss hc (Ne.symm e1)] at h1
      by_cases e2 : r' = pick b c
      · rw [if_neg e1, if_pos e2] at e'
        have := g.lst r h1
        rw [e', nz] at this
        cases this
      · rw [if_neg e1, if_neg e2] at e'
        rw [idxs_miss hc (Ne.symm e2)] at h2
        exact g.inj r r' h1 h2 e'
/-- the sorted keys are the lines in use -/
theorem Grp.used {b : Bool} {cs : List Cell} {d : Addr} {kvs : List (Key × V)} {ad : Int → Addr} {H : Hp} {ks ys : List Int} (g : Grp b cs cs.length d kvs ad H) (gr : ∀ c ∈ cs, InGrid c) (e : kvs.map (·.1) = ks.map Sum.inl) (n : ks.Nodup) (p : ys.Perm ks) (s : ys.Pairwise (· ≤ ·)) : ys = usedOf b cs := by
  refine asc_ext (strict_of s (p.nodup_iff.mpr n)) (used_asc b cs) fun r => ?_
  rw [p.mem_iff, used_mem gr]
  have key : r ∈ ks ↔ (Sum.inl r : Key) ∈ kvs.map (·.1) := by
    rw [e, List.mem_map]
    exact ⟨fun h => ⟨r, h, rfl⟩, fun ⟨x, hx, q⟩ => by cases q; exact hx⟩
  rw [key]
  constructor
  · intro h z
    have hv : valV kvs (.inl r) = none := by rw [g.val, if_pos z]
    exact valV_not hv h
  · intro h
    exact valV_in (v := .ref (ad r)) (by rw [g.val, if_neg h])
end KS
namespace KS
open PySem PySem.Spec PyProof.Rows L2
theorem ints_lay : ∀ l : List Int, PyData.canLayAll0 (l.map PyData.int) = true ∧ PyData.depthAll (l.map PyData.int) = 0
  | [] => ⟨by simp only [List.map_nil, PyData.canLayAll0], by simp only [List.map_nil, PyData.depthAll]⟩
  | x :: l => by
    obtain ⟨h1, h2⟩ := ints_lay l
    simp only [List.map_cons, PyData.canLayAll0, PyData.depthAll, PyData.canLay0, PyData.depth, h1, h2, Bool.and_self, Nat.max_self, and_self]
theorem ints_shaped (l : List Int) : SeqAt.shaped (.list (l.map PyData.int)) = true := by
  obtain ⟨h1, h2⟩ := ints_lay l
  unfold SeqAt.shaped
  simp only [PyData.canLay0, PyData.depth, h1, h2]
  decide
theorem ints_eqv_nil (l : List Int) : PyData.eqv (.list (l.map PyData.int)) (.list []) = l.isEmpty := by
  cases l with
  | nil => decide
  | cons x l => rfl
theorem kind_test (b : Bool) : decide (V.str (if b = true then "C" else "R") = V.str "C") = b := by
  cases b <;> decide +kernel
/-- the lines below r that are in use -/
def lnsTo (b : Bool) (cs : List Cell) (r : Nat) : List (List Int) := ((List.range r).map fun (r : Nat) => idxs b cs cs.length (r : Int)).filter fun l => decide (l ≠ [])
theorem lnsTo_hit {b : Bool} {cs : List Cell} {r : Nat} (h : idxs b cs cs.length (r : Int) ≠ []) : lnsTo b cs (r + 1) = lnsTo b cs r ++ [idxs b cs cs.length (r : Int)] := by
  unfold lnsTo
  rw [List.range_succ, List.map_append, List.filter_append]
  congr 1
  rw [List.map_cons, List.filter_cons_of_pos (by simpa using h)]
  rfl
theorem lnsTo_miss {b : Bool} {cs : List Cell} {r : Nat} (h : idxs b cs cs.length (r : Int) = []) : lnsTo b cs (r + 1) = lnsTo b cs r := by
  unfold lnsTo
  rw [List.range_succ, List.map_append, List.filter_append, List.map_cons, List.filter_cons_of_neg (by simp [h])]
  simp
theorem lnsTo_len (b : Bool) (cs : List Cell) (r : Nat) : (lnsTo b cs r).length ≤ r := by
  unfold lnsTo
  exact Nat.le_trans (List.length_filter_le _ _) (by simp)
end KS
/-! Instances of an own class: !=, len, repr, str by own defs; methods called by keywords -/
namespace KS
open PySem PySem.Spec PyProof.Rows L2
/-! ### over the pictures -/
section
variable {X : Cx} {CX : CXT} {n : Nat} {C g : Addr} {fd : FuncData} {ps ks : List Str} {sp : Sp} {E : XK}
/-- the callee runs somewhere below the running body -/
theorem run_okA {A : Around} {pins : List (Addr × Obj)} {σ : L2.St} {H : Hp} {s : Shared} {Q : VK} {us : List Value} {ws : List V} (F : FnOk X.prog X.w X.K X.mg X.base CX n g fd ps sp) (hb : Binds X.K fd ps []) (hr : Room n A)
    (e0 : Env0 X.prog X.w X.K X.mg X.base A X.stack s H) (hx : Passes CX X E) (I : Inv X pins σ H s) (r : Vals ws us) (h : sp ws H Q E) : wpAny (model X.prog X.w) A (call (.ref g) us) (EP X pins σ Q) X.xe s := by
  have hl : us.length = ps.length := by rw [← r.length]; exact F.len _ _ _ _ h
  refine wpAny_call (codeAny_mono (F.run A X.stack s H ⟨us, []⟩ us ws Q E hr e0 (by have := hb s us I.kIn (by simpa using hl); simpa using this) r h) fun r s' hq => ?_)
  cases r with
  | error e => exact hx pins σ H s e s' I hq
  | ok fl =>
    cases fl with
    | ret u => exact I.after hq
    | next => exact False.elim hq
    | brk => exact False.elim hq
    | cont => exact False.elim hq
/-- len(x), x an instance whose class has an own __len__ -/
def rLenO (C : Addr) (sp : Sp) (E : XK) : List V → Hp → VK → Prop := fun xs H Q => ∃ a dx fs, xs = [V.ref a] ∧ H a = some (.ins C dx fs) ∧ sp [.ref a] H (fun z H' => ∃ k : Nat, z = .int k ∧ k ≤ 1000000 ∧ Q (.int k) H') E
theorem call_lenO (hs : PySem.W.findIn X.K (.ref C) "__len__" = some (some (.ref g))) (hf : PySem.W.isFn X.K (.ref g) = true) (F : FnOk X.prog X.w X.K X.mg X.base CX n g fd ps sp) (hb : Binds X.K fd ps []) (hr : Room (n + 1) X.A) (hx : Passes CX X E) :
    CallR X (.builtin "len") (rLenO C sp E) := by
  intro pins s σ H xs us Q I r h
  obtain ⟨a, dx, fs, rfl, ha, q⟩ := h
  obtain ⟨u, rfl, ru⟩ := vals1 r
  cases (show u = Value.ref a from ru)
  obtain ⟨mA, O, _⟩ := ins_get I.hok ha
  obtain ⟨od, J, _⟩ := O.look
  obtain ⟨m, hF⟩ := I.fr
  refine PySem.W.len_K hF I.ok.mod.kin J hs hf (wpAny_mono (run_okA F hb hr.in1 I.env0.in1 hx I (ws := [.ref a]) (.cons rfl .nil) q) (fun v s' z => ?_) fun _ _ y => y)
  obtain ⟨z', H', I', rz, k, ez, hk, qz⟩ := z
  subst ez
  obtain ⟨t, e⟩ := (show ∃ t, v = Value.int k t from rz)
  cases e
  exact ⟨⟨by omega, by omega⟩, .int k, H', I'.tok _, ⟨_, rfl⟩, qz⟩
/-- repr(x) by an own __repr__ -/
def rTxtO (C : Addr) (sp : Sp) (E : XK) : List V → Hp → VK → Prop := fun xs H Q => ∃ a dx fs, xs = [V.ref a] ∧ H a = some (.ins C dx fs) ∧ sp [.ref a] H (fun z H' => ∃ x, z = .str x ∧ Q (.str x) H') E
theorem call_reprO (hs : PySem.W.findIn X.K (.ref C) "__repr__" = some (some (.ref g))) (hf : PySem.W.isFn X.K (.ref g) = true) (F : FnOk X.prog X.w X.K X.mg X.base CX n g fd ps sp) (hb : Binds X.K fd ps []) (hr : Room (n + 1) X.A) (hx : Passes CX X E) :
    CallR X (.builtin "repr") (rTxtO C sp E) := by
  intro pins s σ H xs us Q I r h
  obtain ⟨a, dx, fs, rfl, ha, q⟩ := h
  obtain ⟨u, rfl, ru⟩ := vals1 r
  cases (show u = Value.ref a from ru)
  obtain ⟨mA, O, _⟩ := ins_get I.hok ha
  obtain ⟨od, J, _⟩ := O.look
  obtain ⟨m, hF⟩ := I.fr
  refine PySem.W.repr_K hr.in1.units0 hF I.ok.mod.kin J hs hf (wpAny_mono (run_okA F hb hr.in1 I.env0.in1 hx I (ws := [.ref a]) (.cons rfl .nil) q) (fun v s' z => ?_) fun _ _ y => y)
  obtain ⟨z', H', I', rz, k, ez, qz⟩ := z
  subst ez
  obtain ⟨t, e⟩ := (show ∃ t, v = Value.str k t from rz)
  cases e
  exact ⟨.str k, H', I', ⟨_, rfl⟩, qz⟩
/-- str(x) by an own __str__ -/
theorem call_strO (hs : PySem.W.findIn X.K (.ref C) "__str__" = some (some (.ref g))) (hf : PySem.W.isFn X.K (.ref g) = true) (F : FnOk X.prog X.w X.K X.mg X.base CX n g fd ps sp) (hb : Binds X.K fd ps []) (hr : Room (n + 2) X.A) (hx : Passes CX X E) :
    CallR X (.type "str") (rTxtO C sp E) := by
  intro pins s σ H xs us Q I r h
  obtain ⟨a, dx, fs, rfl, ha, q⟩ := h
  obtain ⟨u, rfl, ru⟩ := vals1 r
  cases (show u = Value.ref a from ru)
  obtain ⟨mA, O, _⟩ := ins_get I.hok ha
  obtain ⟨od, J, _⟩ := O.look
  obtain ⟨m, hF⟩ := I.fr
  have hr2 : Room n X.A.in1.in1 := (show Room (n + 1) X.A.in1 from Room.in1 hr).in1
  refine PySem.W.kso_call hr2.units0 I.kIn J hs hf (wpAny_mono (run_okA F hb hr2 I.env0.in1.in1 hx I (ws := [.ref a]) (.cons rfl .nil) q) (fun v s' z => ?_) fun _ _ y => y)
  obtain ⟨z', H', I', rz, k, ez, qz⟩ := z
  subst ez
  obtain ⟨t, e⟩ := (show ∃ t, v = Value.str k t from rz)
  cases e
  exact ⟨.str k, H', I', ⟨_, rfl⟩, qz⟩
/-- x == y, x an instance whose class has an own __eq__, y anything of a known type -/
def rEqO (K : PySem.W.Frag) (C : Addr) (sp : Sp) (E : XK) (ng : Bool) : R2 := fun x y H Q => ∃ a dx fs tb, x = .ref a ∧ H a = some (.ins C dx fs) ∧ TyX K H y tb ∧ PySem.W.notFirst K C tb = true ∧ sp [x, y] H (fun z H' => ∃ b, z = .bl b ∧ Q (.bl (xor ng b)) H') E
theorem op_eqO (hs : PySem.W.findIn X.K (.ref C) "__eq__" = some (some (.ref g))) (hf : PySem.W.isFn X.K (.ref g) = true) (F : FnOk X.prog X.w X.K X.mg X.base CX n g fd ps sp) (hb : Binds X.K fd ps []) (hr : Room n X.A) (hx : Passes CX X E) :
    OpR X (compareOp .Eq) (rEqO X.K C sp E false) := by
  intro pins s σ H x y v u Q I rx ry h
  obtain ⟨a, dx, fs, tb, rfl, ha, ty, hn, q⟩ := h
  cases (show v = Value.ref a from rx)
  obtain ⟨mA, O, _⟩ := ins_get I.hok ha
  obtain ⟨od, J, _⟩ := O.look
  obtain ⟨m, hF⟩ := I.fr
  obtain ⟨Pt, Z, p, _⟩ := kit_of I ry ty
  show wpAny _ _ (richCompare .Eq (.ref a) u) _ _ _
  refine PySem.W.cmp_K (op := .Eq) hr.units0 hF I.ok.mod.kin J (Z.ty _ _ I.kIn p) hn hs hf (wpAny_mono (run_okA F hb hr I.env0 hx I (ws := [.ref a, y]) (.cons rfl (.cons ry .nil)) q) (fun w s' z => ?_) fun _ _ y => y)
  obtain ⟨z', H', I', rz, b, ez, qz⟩ := z
  subst ez
  cases (show w = Value.bool b from rz)
  exact ⟨.bl b, H', I', rfl, by simpa using qz⟩
/-! ### o.m(k = v, ..) -/
end
end KS
namespace KS
open PySem PySem.Spec PyProof.Rows L2
/-! ### small data can be shown -/
/-! ### sorted cells -/
theorem nodup_of_asc {cs : List Cell} (h : cs.Pairwise lt2) : cs.Nodup := by
  rw [List.nodup_iff_pairwise_ne]
  refine h.imp fun {a b} q e => ?_
  subst e
  rcases q with q | q <;> omega
end KS
namespace KS
open PySem PySem.Spec PyProof.Rows L2
/-! ### x in t, t a tuple of plain data -/
def rInT (K : PySem.W.Frag) : V → V → Hp → VK → Prop := fun x y H Q => ∃ d ds, Dp K H x d ∧ Dp K H y (.tuple ds) ∧ SeqAt.shaped d = true ∧ SeqAt.shaped (.tuple ds) = true ∧ Q (.bl (ds.any fun z => PyData.eqv z d)) H
theorem op_inT {X : Cx} (hu : X.A.units + 65 < cLine) : OpR X (compareOp .In) (rInT X.K) := by
  intro pins s σ H x y v u Q I rx ry h
  obtain ⟨d, ds, hd, he, sd, se, q⟩ := h
  obtain ⟨as, r1⟩ := Dp.reads I d x v hd rx
  obtain ⟨bs, r2⟩ := Dp.reads I (.tuple ds) y u he ry
  refine SeqAt.in_tuple_reads r2 r1 (SeqAt.canLay_of_shaped se) (SeqAt.canLay_of_shaped sd) ?_ ⟨.bl _, H, I, rfl, q⟩
  have := SeqAt.depth_of_shaped sd
  have h2 : min (PyData.depthAll ds) d.depth ≤ d.depth := Nat.min_le_right _ _
  omega
/-! ### plans as data -/
abbrev cellD (c : Cell) : PyData := .tuple [.int c.1, .int c.2]
abbrev planD (cs : List Cell) : PyData := .tuple (cs.map cellD)
theorem dp_cell {K : PySem.W.Frag} {H : Hp} {t : Addr} {c : Cell} (h : SqT K H t [.int c.1, .int c.2]) : Dp K H (.ref t) (cellD c) := .tup h (.cons (.int _) (.cons (.int _) .nil))
theorem dp_cells {K : PySem.W.Frag} {H : Hp} : ∀ {xs : List V} {cs : List Cell}, CellsAt K H xs cs → DpAll K H xs (cs.map cellD)
  | _, _, .nil => .nil
  | _, _, .cons ⟨t, e, h⟩ r => by
    subst e
    exact .cons (dp_cell h) (dp_cells r)
theorem PlanAt.dp {K : PySem.W.Frag} {H : Hp} {a : Addr} {cs : List Cell} (h : PlanAt K H a cs) : Dp K H (.ref a) (planD cs) := by
  obtain ⟨xs, h1, h2⟩ := h
  exact .tup h1 (dp_cells h2)
theorem cell_lay (c : Cell) : (cellD c).canLay0 = true ∧ (cellD c).depth = 1 := by
  simp [PyData.canLay0, PyData.canLayAll0, PyData.depth, PyData.depthAll]
theorem cells_lay : ∀ cs : List Cell, PyData.canLayAll0 (cs.map cellD) = true ∧ PyData.depthAll (cs.map cellD) ≤ 1
  | [] => ⟨by simp only [List.map_nil, PyData.canLayAll0], by simp [PyData.depthAll]⟩
  | c :: cs => by
    obtain ⟨a, b⟩ := cells_lay cs
    obtain ⟨x, y⟩ := cell_lay c
    refine ⟨?_, ?_⟩
    · rw [List.map_cons, PyData.canLayAll0, x, a]
      rfl
    · rw [List.map_cons, PyData.depthAll, y]
      omega
theorem cell_shaped (c : Cell) : SeqAt.shaped (cellD c) = true := by
  obtain ⟨x, y⟩ := cell_lay c
  unfold SeqAt.shaped
  rw [x, y]
  rfl
theorem plan_shaped (cs : List Cell) : SeqAt.shaped (planD cs) = true := by
  obtain ⟨a, b⟩ := cells_lay cs
  unfold SeqAt.shaped
  rw [Bool.and_eq_true]
  refine ⟨?_, decide_eq_true ?_⟩
  · simp only [PyData.canLay0, a]
  · simp only [PyData.depth]
    omega
theorem cell_eqv (a b : Cell) : PyData.eqv (cellD a) (cellD b) = decide (a = b) := by
  have h : PyData.eqv (cellD a) (cellD b) = (a.1 == b.1 && (a.2 == b.2 && true)) := by
    simp only [PyData.eqv, PyData.eqvAll]
  rw [h, Bool.and_true]
  by_cases e : a = b
  · subst e
    simp
  · rw [decide_eq_false e]
    by_cases e1 : a.1 = b.1
    · have e2 : a.2 ≠ b.2 := fun z => e (Prod.ext e1 z)
      simp [e1, e2]
    · simp [e1]
theorem in_plan (cs : List Cell) (c : Cell) : ((cs.map cellD).any fun z => PyData.eqv z (cellD c)) = decide (c ∈ cs) := by
  rw [List.any_map]
  by_cases h : c ∈ cs
  · rw [decide_eq_true h, List.any_eq_true]
    exact ⟨c, h, by show PyData.eqv (cellD c) (cellD c) = true; rw [cell_eqv]; simp⟩
  · rw [decide_eq_false h, List.any_eq_false]
    intro x hx z
    have z' : PyData.eqv (cellD x) (cellD c) = true := z
    rw [cell_eqv] at z'
    have := of_decide_eq_true z'
    subst this
    exact h hx
/-! ### ascending lists of cells -/
/-! ### rectangles -/
end KS
namespace KS
open PySem PySem.Spec PyProof.Rows L2
/-! ### a sort of lines, as mathematics -/
def sortI (l : List Int) : List Int := l.mergeSort (fun a b => decide (a ≤ b))
theorem sortI_perm (l : List Int) : (sortI l).Perm l := List.mergeSort_perm _ _
theorem sortI_asc (l : List Int) : (sortI l).Pairwise (· ≤ ·) := by
  have h := List.pairwise_mergeSort (le := fun (a b : Int) => decide (a ≤ b)) (by
    intro a b c h1 h2
    have h1 := of_decide_eq_true h1
    have h2 := of_decide_eq_true h2
    exact decide_eq_true (by omega)) (by
    intro a b
    rw [Bool.or_eq_true, decide_eq_true_eq, decide_eq_true_eq]
    omega) l
  exact h.imp fun z => of_decide_eq_true z
theorem sortI_eq {l m : List Int} (p : m.Perm l) (a : m.Pairwise (· ≤ ·)) : m = sortI l :=
  List.Perm.eq_of_pairwise (fun x y _ _ h1 h2 => by omega) a (sortI_asc l) (p.trans (sortI_perm l).symm)
theorem sortI_len (l : List Int) : (sortI l).length = l.length := (sortI_perm l).length_eq
def getI (vs : List Int) (k : Int) : Int := vs.getD k.toNat 0
def putZ (acc : List Int) (zs : List (Int × Int)) : List Int := zs.foldl (fun a z => a.set z.1.toNat z.2) acc
theorem putZ_len (zs : List (Int × Int)) : ∀ acc, (putZ acc zs).length = acc.length := by
  induction zs with
  | nil => intro acc; rfl
  | cons z zs ih =>
    intro acc
    show (putZ (acc.set z.1.toNat z.2) zs).length = _
    rw [ih, List.length_set]
theorem putZ_more (acc : List Int) (zs : List (Int × Int)) (z : Int × Int) : putZ acc (zs ++ [z]) = (putZ acc zs).set z.1.toNat z.2 := by
  unfold putZ
  rw [List.foldl_append]
  rfl
def srtL (vs acc : List Int) (l : List Int) : List Int := putZ acc (l.zip (sortI (l.map (getI vs))))
def srtTo (vs : List Int) (ls : List (List Int)) : List Int := ls.foldl (srtL vs) vs
/-- the values after a sort of this kind -/
def srt (b : Bool) (cs : List Cell) (vs : List Int) : List Int := srtTo vs (lnsOf b cs)
theorem srtTo_more (vs : List Int) (ls : List (List Int)) (l : List Int) : srtTo vs (ls ++ [l]) = srtL vs (srtTo vs ls) l := by
  unfold srtTo
  rw [List.foldl_append]
  rfl
theorem srtL_len (vs acc l : List Int) : (srtL vs acc l).length = acc.length := putZ_len _ _
theorem foldl_len {f : List Int → List Int → List Int} (h : ∀ a l, (f a l).length = a.length) : ∀ (ls : List (List Int)) (a : List Int), (ls.foldl f a).length = a.length
  | [], _ => rfl
  | l :: ls, a => by
    show (ls.foldl f (f a l)).length = _
    rw [foldl_len h ls, h]
theorem srtTo_len (vs : List Int) (ls : List (List Int)) : (srtTo vs ls).length = vs.length := foldl_len (srtL_len vs) ls vs
theorem srt_len (b : Bool) (cs : List Cell) (vs : List Int) : (srt b cs vs).length = vs.length := srtTo_len _ _
theorem idxs_nat {b : Bool} {cs : List Cell} {i : Nat} {r k : Int} (h : k ∈ idxs b cs i r) : ∃ j : Nat, k = (j : Int) ∧ j < i := by
  unfold idxs at h
  obtain ⟨j, hj, rfl⟩ := List.mem_map.mp h
  exact ⟨j, rfl, List.mem_range.mp (List.mem_filter.mp hj).1⟩
theorem lns_mem {b : Bool} {cs : List Cell} {l : List Int} (h : l ∈ lnsOf b cs) : (∀ k ∈ l, ∃ j : Nat, k = (j : Int) ∧ j < cs.length) ∧ l.length ≤ cs.length := by
  unfold lnsOf at h
  obtain ⟨r, _, rfl⟩ := List.mem_map.mp (List.mem_filter.mp h).1
  exact ⟨fun k hk => idxs_nat hk, idxs_len _ _ _ _⟩
theorem getI_at {vs : List Int} {j : Nat} (h : j < vs.length) : (vs.map V.int)[j]? = some (.int (getI vs (j : Int))) := by
  unfold getI
  rw [List.getElem?_map, Int.toNat_natCast, List.getD_eq_getElem?_getD, List.getElem?_eq_getElem h]
  rfl
theorem ixN_at {n j : Nat} (h : j < n) : ixN n (j : Int) = some j := by
  unfold ixN
  rw [if_pos (by omega), if_pos (by omega), Int.toNat_natCast]
/-- the law's own sort: of a tuple of whole numbers -/
def spLSorted (K : PySem.W.Frag) : Sp := fun xs H Q _ => ∃ (a t : Addr) (b : Bool) (cs : List Cell) (vs : List Int), xs = [.ref a, .ref t, .str (if b = true then "C" else "R")] ∧ PlanAt K H a cs ∧ cs.length ≤ 24 ∧
  SqT K H t (vs.map V.int) ∧ vs.length = cs.length ∧ ∀ H' u, Same H H' → SqT K H' u ((srt b cs vs).map V.int) → H u = none → Q (.ref u) H'
end KS
namespace KS
open PySem PySem.Spec PyProof.Rows L2
theorem ints_eqvAll : ∀ l m : List Int, PyData.eqvAll (l.map PyData.int) (m.map PyData.int) = decide (l = m)
  | [], [] => by simp [PyData.eqvAll]
  | [], _ :: _ => by simp [PyData.eqvAll]
  | _ :: _, [] => by simp [PyData.eqvAll]
  | x :: l, y :: m => by
    have h : PyData.eqvAll ((x :: l).map PyData.int) ((y :: m).map PyData.int) = (x == y && PyData.eqvAll (l.map PyData.int) (m.map PyData.int)) := by
      simp only [List.map_cons, PyData.eqvAll, PyData.eqv]
    rw [h, ints_eqvAll l m]
    by_cases e : x = y <;> by_cases e2 : l = m <;> simp [e, e2]
theorem ints_eqvL (l m : List Int) : PyData.eqv (.list (l.map PyData.int)) (.list (m.map PyData.int)) = decide (l = m) := by
  have h : PyData.eqv (.list (l.map PyData.int)) (.list (m.map PyData.int)) = PyData.eqvAll (l.map PyData.int) (m.map PyData.int) := by simp only [PyData.eqv]
  rw [h, ints_eqvAll]
theorem ints_eqvT (l m : List Int) : PyData.eqv (.tuple (l.map PyData.int)) (.tuple (m.map PyData.int)) = decide (l = m) := by
  have h : PyData.eqv (.tuple (l.map PyData.int)) (.tuple (m.map PyData.int)) = PyData.eqvAll (l.map PyData.int) (m.map PyData.int) := by simp only [PyData.eqv]
  rw [h, ints_eqvAll]
/-- whether the values of a line ascend -/
def upL (vs l : List Int) : Bool := decide (l.map (getI vs) = sortI (l.map (getI vs)))
/-- whether each line of the kind ascends -/
def rises (b : Bool) (cs : List Cell) (vs : List Int) : Bool := (lnsOf b cs).all (upL vs)
def spLRises (K : PySem.W.Frag) : Sp := fun xs H Q _ => ∃ (a t : Addr) (b : Bool) (cs : List Cell) (vs : List Int), xs = [.ref a, .ref t, .str (if b = true then "C" else "R")] ∧ PlanAt K H a cs ∧ cs.length ≤ 24 ∧
  SqT K H t (vs.map V.int) ∧ vs.length = cs.length ∧ ∀ H', Same H H' → Q (.bl (rises b cs vs)) H'
def aft (cs : List Cell) (w : List Bool) (vs : List Int) : List Int := w.foldl (fun a b => srt b cs a) vs
theorem aft_len (cs : List Cell) : ∀ (w : List Bool) (vs : List Int), (aft cs w vs).length = vs.length
  | [], _ => rfl
  | b :: w, vs => by
    show (aft cs w (srt b cs vs)).length = _
    rw [aft_len cs w, srt_len]
theorem aft_more (cs : List Cell) (w : List Bool) (b : Bool) (vs : List Int) : aft cs (w ++ [b]) vs = srt b cs (aft cs w vs) := by
  unfold aft
  rw [List.foldl_append]
  rfl
end KS
namespace KS
open PySem PySem.Spec PyProof.Rows L2
/-- the values of a line, a new list -/
theorem pick_line {K : PySem.W.Frag} {t' : Addr} {σ : L2.St} {H : Hp} {Q : VK} {vs l : List Int} {i1 i2 i3 : Nat} {tt : Addr} (h1 : σ[i1]? = some (some (.ref t'))) (h2 : σ[i2]? = some (some (.ref tt))) (hlt : H t' = some (.lst (l.map V.int))) (ht : SqT K H tt (vs.map V.int))
    (hm : ∀ k ∈ l, ∃ j : Nat, k = (j : Int) ∧ j < vs.length) (hl : l.length ≤ 24) (h3 : i3 < σ.length) (h13 : i2 ≠ i3)
    (k : ∀ D, H D = none → Q (.ref D) (upd H D (.lst ((l.map (getI vs)).map V.int)))) :
    tLc (iList K (tVar i1)) (gName i3) tYes (tOp (rIxT K) (tVar i2) (tVar i3)) [i3] σ H Q := by
  refine ⟨_, h1, t', rfl, ⟨_, SqL.of hlt⟩, fun D nD => ?_⟩
  have ntD : t' ≠ D := ne_of_none hlt nD
  refine lc_list (K := K) (a := t') (xs := l.map V.int) (fun j G => G = upd H D (.lst (((l.take j).map (getI vs)).map V.int))) ?_ ?_ ?_ ?_
  · rfl
  · rintro j G _ rfl
    exact SqL.of (by rw [upd_ne ntD]; exact hlt)
  · rintro j x G hj rfl
    rw [List.getElem?_map] at hj
    cases ev : l[j]? with
    | none =>
      rw [ev] at hj
      cases hj
    | some k =>
      rw [ev] at hj
      cases hj
      obtain ⟨j', rfl, hj'⟩ := hm k (List.mem_of_getElem? ev)
      refine ⟨?_, .ref tt, ?_, .int (j' : Int), ?_, tt, _, _, .int (getI vs (j' : Int)), rfl, rfl, same_seqT (same_new nD) ht, atI_nat (getI_at hj'), _, upd_same, ?_, ?_⟩
      · show ((σ.set i3 none).set i3 _).set i3 none = σ.set i3 none
        rw [List.set_set, List.set_set]
      · show ((σ.set i3 none).set i3 _)[i2]? = _
        rw [List.set_set, List.getElem?_set_ne (Ne.symm h13)]
        exact h2
      · show ((σ.set i3 none).set i3 _)[i3]? = _
        rw [List.set_set, List.getElem?_set_self h3]
      · rw [List.length_map, List.length_map, List.length_take]
        exact small64 (by omega)
      · rw [upd_upd, List.take_add_one, ev, List.map_append, List.map_append]
        rfl
  · rintro G rfl
    rw [List.length_map, List.take_length]
    exact k D nD
end KS
namespace KS
open PySem PySem.Spec PyProof.Rows L2
theorem rd_ifNe {K : PySem.W.Frag} {ta tb : TE} {t u : TS} {D : Ends} {σ : L2.St} {H : Hp} (h : ta σ H fun x H1 => tb σ H1 fun y H2 => rNeD K x y H2 fun v H3 => ∃ k, v = .bl k ∧ if k = true then t D σ H3 else u D σ H3) :
    tIfS (tTest (tOp (rNeD K) ta tb)) t u D σ H := h
theorem rd_cb1 {r : List V → Hp → VK → Prop} {ta : TE} {σ : L2.St} {H : Hp} {Q : VK} (h : ta σ H fun x H1 => r [x] H1 Q) : tCB r (tCons ta tNil) σ H Q := h
theorem up_if {K : PySem.W.Frag} {t' : Addr} {σ : L2.St} {H : Hp} {vs l : List Int} {i1 i2 i3 : Nat} {tt : Addr} {tb : TS} {D : Ends} (h1 : σ[i1]? = some (some (.ref t'))) (h2 : σ[i2]? = some (some (.ref tt))) (hlt : H t' = some (.lst (l.map V.int))) (ht : SqT K H tt (vs.map V.int))
    (hm : ∀ k ∈ l, ∃ j : Nat, k = (j : Int) ∧ j < vs.length) (hl : l.length ≤ 24) (h3 : i3 < σ.length) (h13 : i2 ≠ i3)
    (k1 : ∀ H', Same H H' → upL vs l = true → D.nx σ H') (k2 : ∀ H', Same H H' → upL vs l = false → tb D σ H') :
    tIfS (tTest (tOp (rNeD K) (tLc (iList K (tVar i1)) (gName i3) tYes (tOp (rIxT K) (tVar i2) (tVar i3)) [i3]) (tCB (rSortedI K) (tCons (tLc (iList K (tVar i1)) (gName i3) tYes (tOp (rIxT K) (tVar i2) (tVar i3)) [i3]) tNil)))) tb tNext D σ H := by
  refine rd_ifNe (pick_line (K := K) (σ := σ) h1 h2 hlt ht hm hl h3 h13 (fun D1 n1 => ?_))
  have s1 := same_new (o := .lst ((l.map (getI vs)).map V.int)) n1
  refine rd_cb1 (pick_line (K := K) (σ := σ) h1 h2 (s1 _ _ hlt) (same_seqT s1 ht) hm hl h3 h13 (fun D2 n2 => ?_))
  have s2 := same_new (o := .lst ((l.map (getI vs)).map V.int)) n2
  refine ⟨D2, _, rfl, SqL.of upd_same, fun ys D3 perm asc n3 => ?_⟩
  have ey := sortI_eq perm asc
  have s3 := same_new (o := .lst (ys.map V.int)) n3
  refine ⟨_, _, .lst (SqL.of (s3 _ _ (s2 _ _ upd_same))) (dp_ints _), .lst (SqL.of upd_same) (dp_ints _), ints_shaped _, ints_shaped _, _, rfl, ?_⟩
  rw [ints_eqvL]
  have sm := (s1.trans s2).trans s3
  by_cases c : l.map (getI vs) = ys
  · rw [decide_eq_true c]
    refine k1 _ sm ?_
    unfold upL
    rw [← ey]
    exact decide_eq_true c
  · rw [decide_eq_false c]
    refine k2 _ sm ?_
    unfold upL
    rw [← ey]
    exact decide_eq_false c
end KS
namespace KS
open PySem PySem.Spec PyProof.Rows L2
/-! ### a sort takes inversions away -/
def lt1 (a b : Int) : Nat := if a < b then 1 else 0
def cnt (a : Int) : List Int → Nat
  | [] => 0
  | b :: l => lt1 b a + cnt a l
def inv : List Int → Nat
  | [] => 0
  | a :: l => cnt a l + inv l
theorem cnt_set (b x y : Int) : ∀ {m : List Int} {j : Nat}, m[j]? = some y → cnt b (m.set j x) + lt1 y b = cnt b m + lt1 x b
  | [], _, h => by cases h
  | c :: m, 0, h => by
    cases h
    show lt1 x b + cnt b m + lt1 y b = lt1 y b + cnt b m + lt1 x b
    omega
  | c :: m, j + 1, h => by
    have ih := cnt_set b x y (m := m) (j := j) h
    show lt1 c b + cnt b (m.set j x) + lt1 y b = lt1 c b + cnt b m + lt1 x b
    omega
theorem lt1_four {x y b : Int} (h : y < x) : lt1 b y + lt1 x b ≤ lt1 b x + lt1 y b := by
  unfold lt1
  split <;> split <;> split <;> split <;> omega
theorem inv_front {x y : Int} (h : y < x) : ∀ {l : List Int} {j : Nat}, l[j]? = some y → cnt y (l.set j x) + inv (l.set j x) < cnt x l + inv l
  | [], _, e => by cases e
  | b :: m, 0, e => by
    cases e
    show lt1 x y + cnt y m + (cnt x m + inv m) < lt1 y x + cnt x m + (cnt y m + inv m)
    have h1 : lt1 x y = 0 := if_neg (by omega)
    have h2 : lt1 y x = 1 := if_pos h
    omega
  | b :: m, j + 1, e => by
    have ih := inv_front h (l := m) (j := j) e
    have c := cnt_set b x y (m := m) (j := j) e
    have f := lt1_four (b := b) h
    show lt1 b y + cnt y (m.set j x) + (cnt b (m.set j x) + inv (m.set j x)) < lt1 b x + cnt x m + (cnt b m + inv m)
    omega
theorem inv_swap {x y : Int} (h : y < x) : ∀ {l : List Int} {i j : Nat}, i < j → l[i]? = some x → l[j]? = some y → inv ((l.set i y).set j x) < inv l
  | [], _, _, _, e, _ => by cases e
  | a :: l, 0, 0, hij, _, _ => absurd hij (Nat.lt_irrefl _)
  | a :: l, 0, j + 1, _, e, e2 => by
    cases e
    exact inv_front h (l := l) (j := j) e2
  | a :: l, i + 1, 0, hij, _, _ => absurd hij (Nat.not_lt_zero _)
  | a :: l, i + 1, j + 1, hij, e, e2 => by
    have hij' : i < j := Nat.lt_of_succ_lt_succ hij
    have ih := inv_swap h (l := l) (i := i) (j := j) hij' e e2
    have c1 := cnt_set a y x (m := l) (j := i) e
    have e3 : (l.set i y)[j]? = some y := by
      rw [List.getElem?_set_ne (by omega)]
      exact e2
    have c2 := cnt_set a x y (m := l.set i y) (j := j) e3
    show cnt a ((l.set i y).set j x) + inv ((l.set i y).set j x) < cnt a l + inv l
    omega
theorem cnt_le (a : Int) : ∀ l : List Int, cnt a l ≤ l.length
  | [] => Nat.le_refl _
  | b :: l => by
    have := cnt_le a l
    have h : lt1 b a ≤ 1 := by
      unfold lt1
      split <;> omega
    show lt1 b a + cnt a l ≤ l.length + 1
    omega
theorem inv_le : ∀ l : List Int, 2 * inv l ≤ l.length * (l.length - 1)
  | [] => Nat.le_refl _
  | a :: l => by
    have h := inv_le l
    have c := cnt_le a l
    show 2 * (cnt a l + inv l) ≤ (l.length + 1) * (l.length + 1 - 1)
    rw [Nat.add_sub_cancel]
    cases hl : l.length with
    | zero =>
      rw [hl] at h c
      simp at h c
      omega
    | succ n =>
      rw [hl] at h c
      rw [Nat.add_sub_cancel] at h
      have e : (n + 1 + 1) * (n + 1) = (n + 1) * n + 2 * (n + 1) := by
        rw [Nat.add_mul (n + 1) 1 (n + 1), Nat.mul_add (n + 1) n 1]
        omega
      omega
end KS
namespace KS
open PySem PySem.Spec PyProof.Rows L2
def putN : List Int → List Nat → List Int → List Int
  | acc, k :: ks, y :: ys => putN (acc.set k y) ks ys
  | acc, _, _ => acc
def getN (acc : List Int) (ks : List Nat) : List Int := ks.map fun k => acc.getD k 0
theorem putN_nil (acc : List Int) (ys : List Int) : putN acc [] ys = acc := by
  unfold putN
  rfl
theorem putN_cons (acc : List Int) (k : Nat) (ks : List Nat) (y : Int) (ys : List Int) : putN acc (k :: ks) (y :: ys) = putN (acc.set k y) ks ys := by
  rw [putN]
theorem putN_none (acc : List Int) (ks : List Nat) : putN acc ks [] = acc := by
  cases ks <;> (unfold putN; rfl)
theorem putN_len : ∀ (ks : List Nat) (ys acc : List Int), (putN acc ks ys).length = acc.length
  | [], ys, acc => by rw [putN_nil]
  | k :: ks, [], acc => by rw [putN_none]
  | k :: ks, y :: ys, acc => by rw [putN_cons, putN_len ks ys, List.length_set]
theorem putN_off : ∀ {ks : List Nat} {ys acc : List Int} {i : Nat}, i ∉ ks → (putN acc ks ys)[i]? = acc[i]?
  | [], ys, acc, i, _ => by rw [putN_nil]
  | k :: ks, [], acc, i, _ => by rw [putN_none]
  | k :: ks, y :: ys, acc, i, h => by
    have hk : k ≠ i := fun e => h (e ▸ List.mem_cons_self)
    rw [putN_cons, putN_off (fun m => h (List.mem_cons_of_mem _ m)), List.getElem?_set_ne hk]
theorem getD_of {acc : List Int} {k : Nat} {v : Int} (h : acc[k]? = some v) : acc.getD k 0 = v := by
  rw [List.getD_eq_getElem?_getD, h]
  rfl
theorem get_put : ∀ {ks : List Nat} {ys acc : List Int}, ks.Nodup → ks.length = ys.length → (∀ k ∈ ks, k < acc.length) → getN (putN acc ks ys) ks = ys
  | [], [], acc, _, _, _ => rfl
  | [], _ :: _, acc, _, h, _ => by cases h
  | _ :: _, [], acc, _, h, _ => by cases h
  | k :: ks, y :: ys, acc, nd, hl, hb => by
    rw [List.nodup_cons] at nd
    rw [putN_cons]
    show (putN (acc.set k y) ks ys).getD k 0 :: getN (putN (acc.set k y) ks ys) ks = y :: ys
    rw [get_put nd.2 (by simpa using hl) (fun j hj => by rw [List.length_set]; exact hb j (List.mem_cons_of_mem _ hj))]
    congr 1
    refine getD_of ?_
    rw [putN_off nd.1, List.getElem?_set_self (hb k List.mem_cons_self)]
theorem put_same : ∀ {ks : List Nat} {acc : List Int}, (∀ k ∈ ks, k < acc.length) → putN acc ks (getN acc ks) = acc
  | [], acc, _ => by rw [putN_nil]
  | k :: ks, acc, hb => by
    show putN acc (k :: ks) (acc.getD k 0 :: getN acc ks) = acc
    have hk := hb k List.mem_cons_self
    have e : acc.set k (acc.getD k 0) = acc := by
      rw [List.getD_eq_getElem?_getD, List.getElem?_eq_getElem hk]
      exact List.set_getElem_self hk
    rw [putN_cons, e]
    exact put_same fun j hj => hb j (List.mem_cons_of_mem _ hj)
theorem put_over : ∀ {ks : List Nat} {zs a b : List Int}, a.length = b.length → ks.length = zs.length → (∀ i, i ∉ ks → a[i]? = b[i]?) → putN a ks zs = putN b ks zs
  | [], zs, a, b, _, _, h => by
    rw [putN_nil, putN_nil]
    exact List.ext_getElem? fun i => h i (by simp)
  | k :: ks, [], a, b, _, hl, _ => by cases hl
  | k :: ks, z :: zs, a, b, hab, hl, h => by
    rw [putN_cons, putN_cons]
    refine put_over (by rw [List.length_set, List.length_set, hab]) (by simpa using hl) fun i hi => ?_
    by_cases e : k = i
    · subst e
      by_cases c : k < a.length
      · rw [List.getElem?_set_self c, List.getElem?_set_self (by omega)]
      · rw [List.getElem?_eq_none (by rw [List.length_set]; omega), List.getElem?_eq_none (by rw [List.length_set]; omega)]
    · rw [List.getElem?_set_ne e, List.getElem?_set_ne e]
      refine h i fun m => ?_
      rcases List.mem_cons.mp m with z | z
      · exact e z.symm
      · exact hi z
/-- the same, or fewer inversions -/
def Dn (a b : List Int) : Prop := b = a ∨ inv b < inv a
theorem Dn.trans {a b c : List Int} (h : Dn a b) (k : Dn b c) : Dn a c := by
  rcases h with rfl | h
  · exact k
  · rcases k with rfl | k
    · exact .inr h
    · exact .inr (Nat.lt_trans k h)
def ins (x : Int) : List Int → List Int
  | [] => [x]
  | y :: s => if x ≤ y then x :: y :: s else y :: ins x s
def isort : List Int → List Int
  | [] => []
  | x :: l => ins x (isort l)
theorem ins_perm (x : Int) : ∀ s : List Int, (ins x s).Perm (x :: s)
  | [] => List.Perm.refl _
  | y :: s => by
    unfold ins
    split
    · exact List.Perm.refl _
    · exact ((ins_perm x s).cons y).trans (List.Perm.swap _ _ _)
theorem isort_perm : ∀ l : List Int, (isort l).Perm l
  | [] => List.Perm.refl _
  | x :: l => (ins_perm x _).trans ((isort_perm l).cons x)
theorem ins_asc {x : Int} : ∀ {s : List Int}, s.Pairwise (· ≤ ·) → (ins x s).Pairwise (· ≤ ·)
  | [], _ => by simp [ins]
  | y :: s, h => by
    rw [List.pairwise_cons] at h
    unfold ins
    split
    · rename_i c
      rw [List.pairwise_cons, List.pairwise_cons]
      refine ⟨fun z hz => ?_, h.1, h.2⟩
      rcases List.mem_cons.mp hz with rfl | m
      · exact c
      · have := h.1 z m
        omega
    · rename_i c
      rw [List.pairwise_cons]
      refine ⟨fun z hz => ?_, ins_asc h.2⟩
      rcases List.mem_cons.mp ((ins_perm x s).mem_iff.mp hz) with rfl | m
      · omega
      · exact h.1 z m
theorem isort_asc : ∀ l : List Int, (isort l).Pairwise (· ≤ ·)
  | [] => List.Pairwise.nil
  | _ :: l => ins_asc (isort_asc l)
theorem isort_eq (l : List Int) : isort l = sortI l := sortI_eq (isort_perm l) (isort_asc l)
theorem ins_dn : ∀ {ks : List Nat} {k : Nat} {acc s : List Int} {x : Int}, (k :: ks).Pairwise (· < ·) → (∀ j ∈ k :: ks, j < acc.length) → getN acc (k :: ks) = x :: s → Dn acc (putN acc (k :: ks) (ins x s))
  | [], k, acc, s, x, _, hb, e => by
    have e' : [acc.getD k 0] = x :: s := e
    cases e'
    exact .inl (put_same (ks := [k]) hb)
  | k' :: ks, k, acc, [], x, _, hb, e => by
    have e' : acc.getD k 0 :: acc.getD k' 0 :: getN acc ks = [x] := e
    cases e'
  | k' :: ks, k, acc, y :: s, x, hp, hb, e => by
    unfold ins
    split
    · rw [← e]
      exact .inl (put_same hb)
    · rename_i c
      have e' : acc.getD k 0 :: acc.getD k' 0 :: getN acc ks = x :: y :: s := e
      injection e' with e1 e2
      injection e2 with e2 e3
      rw [List.pairwise_cons] at hp
      have hk := hb k List.mem_cons_self
      have hk' := hb k' (List.mem_cons_of_mem _ List.mem_cons_self)
      have hlt : k < k' := hp.1 k' List.mem_cons_self
      have g1 : acc[k]? = some x := by
        rw [List.getElem?_eq_getElem hk, ← e1, List.getD_eq_getElem?_getD, List.getElem?_eq_getElem hk]
        rfl
      have g2 : acc[k']? = some y := by
        rw [List.getElem?_eq_getElem hk', ← e2, List.getD_eq_getElem?_getD, List.getElem?_eq_getElem hk']
        rfl
      have sw := inv_swap (x := x) (y := y) (by omega) hlt g1 g2
      have hp2 := List.pairwise_cons.mp hp.2
      have gg : getN ((acc.set k y).set k' x) (k' :: ks) = x :: s := by
        show ((acc.set k y).set k' x).getD k' 0 :: getN ((acc.set k y).set k' x) ks = x :: s
        rw [getD_of (List.getElem?_set_self (by rw [List.length_set]; exact hk'))]
        congr 1
        rw [← e3]
        refine List.map_congr_left fun j hj => ?_
        have j1 : k' < j := hp2.1 j hj
        show ((acc.set k y).set k' x).getD j 0 = acc.getD j 0
        rw [List.getD_eq_getElem?_getD, List.getD_eq_getElem?_getD, List.getElem?_set_ne (by omega), List.getElem?_set_ne (by omega)]
      have ih := ins_dn (acc := (acc.set k y).set k' x) hp.2 (fun j hj => by rw [List.length_set, List.length_set]; exact hb j (List.mem_cons_of_mem _ hj)) gg
      have ep : putN acc (k :: k' :: ks) (y :: ins x s) = putN ((acc.set k y).set k' x) (k' :: ks) (ins x s) := by
        rw [putN_cons]
        cases h : ins x s with
        | nil =>
          have := (ins_perm x s).length_eq
          rw [h] at this
          cases this
        | cons z zs => rw [putN_cons, putN_cons, List.set_set]
      rw [ep]
      exact Dn.trans (.inr sw) ih
theorem sort_dn : ∀ {ks : List Nat} {acc : List Int}, ks.Pairwise (· < ·) → (∀ j ∈ ks, j < acc.length) → Dn acc (putN acc ks (isort (getN acc ks)))
  | [], acc, _, _ => .inl (putN_nil _ _)
  | k :: ks, acc, hp, hb => by
    have hp' := List.pairwise_cons.mp hp
    have hb' : ∀ j ∈ ks, j < acc.length := fun j hj => hb j (List.mem_cons_of_mem _ hj)
    have ih := sort_dn hp'.2 hb'
    have nk : k ∉ ks := fun m => Nat.lt_irrefl _ (hp'.1 k m)
    have nd : ks.Nodup := hp'.2.imp fun h => Nat.ne_of_lt h
    have ll : ks.length = (isort (getN acc ks)).length := by
      rw [(isort_perm _).length_eq]
      unfold getN
      rw [List.length_map]
    have g : getN (putN acc ks (isort (getN acc ks))) (k :: ks) = acc.getD k 0 :: isort (getN acc ks) := by
      show (putN acc ks (isort (getN acc ks))).getD k 0 :: getN (putN acc ks (isort (getN acc ks))) ks = _
      rw [get_put nd ll hb', List.getD_eq_getElem?_getD, putN_off nk, ← List.getD_eq_getElem?_getD]
    have b := ins_dn (acc := putN acc ks (isort (getN acc ks))) hp (fun j hj => by rw [putN_len]; exact hb j hj) g
    have e : putN (putN acc ks (isort (getN acc ks))) (k :: ks) (ins (acc.getD k 0) (isort (getN acc ks))) = putN acc (k :: ks) (ins (acc.getD k 0) (isort (getN acc ks))) := by
      refine put_over (putN_len _ _ _) ?_ fun i hi => putN_off fun m => hi (List.mem_cons_of_mem _ m)
      rw [(ins_perm _ _).length_eq, List.length_cons, List.length_cons, ll]
    rw [e] at b
    exact ih.trans b
end KS
namespace KS
open PySem PySem.Spec PyProof.Rows L2
def up (ks : List Nat) : List Int := ks.map fun (k : Nat) => (k : Int)
theorem putZ_up : ∀ (ks : List Nat) (ys acc : List Int), putZ acc ((up ks).zip ys) = putN acc ks ys
  | [], ys, acc => by rw [putN_nil]; rfl
  | k :: ks, [], acc => by rw [putN_none]; rfl
  | k :: ks, y :: ys, acc => by
    rw [putN_cons, ← putZ_up ks ys]
    rfl
theorem get_up (vs : List Int) (ks : List Nat) : (up ks).map (getI vs) = getN vs ks := by
  unfold up getN
  rw [List.map_map]
  rfl
def srtN (vs acc : List Int) (ks : List Nat) : List Int := putN acc ks (sortI (getN vs ks))
theorem srtL_up (vs acc : List Int) (ks : List Nat) : srtL vs acc (up ks) = srtN vs acc ks := by
  unfold srtL srtN
  rw [putZ_up, get_up]
theorem srtTo_up (vs : List Int) : ∀ (ls : List (List Nat)) (acc : List Int), (ls.map up).foldl (srtL vs) acc = ls.foldl (srtN vs) acc
  | [], _ => rfl
  | ks :: ls, acc => by
    show (ls.map up).foldl (srtL vs) (srtL vs acc (up ks)) = ls.foldl (srtN vs) (srtN vs acc ks)
    rw [srtL_up, srtTo_up vs ls]
def idxsN (b : Bool) (cs : List Cell) (i : Nat) (r : Int) : List Nat := (List.range i).filter fun j => decide ((cs[j]?).map (pick b) = some r)
def lnsN (b : Bool) (cs : List Cell) : List (List Nat) := ((List.range 8).map fun (r : Nat) => idxsN b cs cs.length (r : Int)).filter fun l => decide (l ≠ [])
theorem filter_up : ∀ ls : List (List Nat), (ls.map up).filter (fun l => decide (l ≠ [])) = (ls.filter fun l => decide (l ≠ [])).map up
  | [] => rfl
  | [] :: ls => filter_up ls
  | (k :: ks) :: ls => by
    show up (k :: ks) :: (ls.map up).filter _ = up (k :: ks) :: (ls.filter _).map up
    rw [filter_up ls]
theorem lns_up (b : Bool) (cs : List Cell) : lnsOf b cs = (lnsN b cs).map up := by
  unfold lnsOf lnsN
  rw [← filter_up, List.map_map]
  rfl
structure Parts (n : Nat) (ls : List (List Nat)) : Prop where
  asc : ∀ ks ∈ ls, ks.Pairwise (· < ·)
  bd : ∀ ks ∈ ls, ∀ k ∈ ks, k < n
  apart : ls.Pairwise fun ks ms => ∀ k ∈ ks, k ∉ ms
theorem srtN_len (vs acc : List Int) (ks : List Nat) : (srtN vs acc ks).length = acc.length := putN_len _ _ _
theorem getN_congr {a b : List Int} {ks : List Nat} (h : ∀ k ∈ ks, a[k]? = b[k]?) : getN a ks = getN b ks := by
  refine List.map_congr_left fun k hk => ?_
  show a.getD k 0 = b.getD k 0
  rw [List.getD_eq_getElem?_getD, List.getD_eq_getElem?_getD, h k hk]
theorem fold_off {vs : List Int} {i : Nat} : ∀ {ls : List (List Nat)} {acc : List Int}, (∀ ks ∈ ls, i ∉ ks) → (ls.foldl (srtN vs) acc)[i]? = acc[i]?
  | [], _, _ => rfl
  | ks :: ls, acc, h => by
    show (ls.foldl (srtN vs) (srtN vs acc ks))[i]? = _
    rw [fold_off fun ms hm => h ms (List.mem_cons_of_mem _ hm)]
    exact putN_off (h ks List.mem_cons_self)
theorem fold_dn {vs : List Int} : ∀ {ls : List (List Nat)} {acc : List Int}, Parts acc.length ls → (∀ ks ∈ ls, ∀ k ∈ ks, acc[k]? = vs[k]?) → Dn acc (ls.foldl (srtN vs) acc)
  | [], acc, _, _ => .inl rfl
  | ks :: ls, acc, P, h => by
    have pc := List.pairwise_cons.mp P.apart
    have e : getN vs ks = getN acc ks := getN_congr fun k hk => (h ks List.mem_cons_self k hk).symm
    have d : Dn acc (srtN vs acc ks) := by
      unfold srtN
      rw [e, ← isort_eq]
      exact sort_dn (P.asc ks List.mem_cons_self) (P.bd ks List.mem_cons_self)
    refine d.trans (fold_dn (ls := ls) ⟨fun ms hm => P.asc ms (List.mem_cons_of_mem _ hm), fun ms hm k hk => ?_, pc.2⟩ fun ms hm k hk => ?_)
    · rw [srtN_len]
      exact P.bd ms (List.mem_cons_of_mem _ hm) k hk
    · have nk : k ∉ ks := fun m => pc.1 ms hm k m hk
      rw [show (srtN vs acc ks)[k]? = acc[k]? from putN_off nk]
      exact h ms (List.mem_cons_of_mem _ hm) k hk
theorem fold_get {vs : List Int} : ∀ {ls : List (List Nat)} {acc : List Int}, Parts acc.length ls → ∀ ks ∈ ls, getN (ls.foldl (srtN vs) acc) ks = sortI (getN vs ks)
  | [], _, _, _, m => by cases m
  | ms :: ls, acc, P, ks, m => by
    have pc := List.pairwise_cons.mp P.apart
    have P' : Parts (srtN vs acc ms).length ls := ⟨fun z hm => P.asc z (List.mem_cons_of_mem _ hm), fun z hm k hk => by rw [srtN_len]; exact P.bd z (List.mem_cons_of_mem _ hm) k hk, pc.2⟩
    rcases List.mem_cons.mp m with rfl | m
    · show getN (ls.foldl (srtN vs) (srtN vs acc ks)) ks = _
      rw [getN_congr (b := srtN vs acc ks) fun k hk => fold_off fun z hz => pc.1 z hz k hk]
      refine get_put ((P.asc ks List.mem_cons_self).imp fun h => Nat.ne_of_lt h) ?_ (P.bd ks List.mem_cons_self)
      rw [sortI_len]
      unfold getN
      rw [List.length_map]
    · exact fold_get P' ks m
theorem fold_fix {vs : List Int} : ∀ {ls : List (List Nat)}, (∀ ks ∈ ls, ∀ k ∈ ks, k < vs.length) → (∀ ks ∈ ls, getN vs ks = sortI (getN vs ks)) → ls.foldl (srtN vs) vs = vs
  | [], _, _ => rfl
  | ks :: ls, hb, h => by
    have e : srtN vs vs ks = vs := by
      unfold srtN
      rw [← h ks List.mem_cons_self]
      exact put_same (hb ks List.mem_cons_self)
    show ls.foldl (srtN vs) (srtN vs vs ks) = vs
    rw [e]
    exact fold_fix (fun z hz => hb z (List.mem_cons_of_mem _ hz)) fun z hz => h z (List.mem_cons_of_mem _ hz)
theorem idxsN_mem {b : Bool} {cs : List Cell} {i k : Nat} {r : Int} (h : k ∈ idxsN b cs i r) : k < i ∧ (cs[k]?).map (pick b) = some r := by
  have := List.mem_filter.mp h
  exact ⟨List.mem_range.mp this.1, of_decide_eq_true this.2⟩
theorem lns_parts (b : Bool) (cs : List Cell) : Parts cs.length (lnsN b cs) := by
  refine ⟨fun ks h => ?_, fun ks h k hk => ?_, ?_⟩
  · obtain ⟨r, _, rfl⟩ := List.mem_map.mp (List.mem_filter.mp h).1
    exact List.pairwise_lt_range.filter _
  · obtain ⟨r, _, rfl⟩ := List.mem_map.mp (List.mem_filter.mp h).1
    exact (idxsN_mem hk).1
  · refine List.Pairwise.filter _ (List.pairwise_map.2 (List.pairwise_lt_range.imp ?_))
    intro r q hrq k h1 h2
    have a := (idxsN_mem h1).2
    rw [(idxsN_mem h2).2] at a
    injection a with a
    omega
theorem srt_up (b : Bool) (cs : List Cell) (vs : List Int) : srt b cs vs = (lnsN b cs).foldl (srtN vs) vs := by
  unfold srt srtTo
  rw [lns_up, srtTo_up]
/-- a sort leaves all as it is, or takes inversions away -/
theorem srt_dn {b : Bool} {cs : List Cell} {vs : List Int} (h : vs.length = cs.length) : Dn vs (srt b cs vs) := by
  rw [srt_up]
  exact fold_dn (by rw [h]; exact lns_parts b cs) fun _ _ _ _ => rfl
theorem upL_up (vs : List Int) (ks : List Nat) : upL vs (up ks) = decide (getN vs ks = sortI (getN vs ks)) := by
  unfold upL
  rw [get_up]
theorem rises_iff {b : Bool} {cs : List Cell} {vs : List Int} : rises b cs vs = true ↔ ∀ ks ∈ lnsN b cs, getN vs ks = sortI (getN vs ks) := by
  unfold rises
  rw [lns_up, List.all_map, List.all_eq_true]
  constructor
  · intro h ks hk
    have := h ks hk
    exact of_decide_eq_true ((upL_up vs ks).symm.trans this)
  · intro h ks hk
    exact (upL_up vs ks).trans (decide_eq_true (h ks hk))
theorem sortI_fix (l : List Int) : sortI (sortI l) = sortI l := (sortI_eq (List.Perm.refl _) (sortI_asc l)).symm
/-- behind a sort the lines of the kind ascend -/
theorem srt_rises {b : Bool} {cs : List Cell} {vs : List Int} (h : vs.length = cs.length) : rises b cs (srt b cs vs) = true := by
  rw [rises_iff]
  intro ks hk
  have g : getN (srt b cs vs) ks = sortI (getN vs ks) := by
    rw [srt_up]
    exact fold_get (by rw [h]; exact lns_parts b cs) ks hk
  rw [g, sortI_fix]
/-- lines that ascend are left alone -/
theorem rises_fix {b : Bool} {cs : List Cell} {vs : List Int} (h : vs.length = cs.length) (r : rises b cs vs = true) : srt b cs vs = vs := by
  rw [srt_up]
  exact fold_fix (fun ks hk k hkk => by rw [h]; exact (lns_parts b cs).bd ks hk k hkk) (rises_iff.mp r)
/-- lines that do not ascend lose inversions -/
theorem srt_lt {b : Bool} {cs : List Cell} {vs : List Int} (h : vs.length = cs.length) (r : rises b cs vs = false) : inv (srt b cs vs) < inv vs := by
  rcases srt_dn (b := b) h with e | e
  · have := srt_rises (b := b) h
    rw [e, r] at this
    cases this
  · exact e
end KS
namespace KS
open PySem PySem.Spec PyProof.Rows L2
/-- kinds in turns, this one first -/
def turns : Bool → Nat → List Bool
  | _, 0 => []
  | b, n + 1 => b :: turns (!b) n
def kindAt (b : Bool) (n : Nat) : Bool := if n % 2 = 0 then b else !b
theorem turns_succ : ∀ (b : Bool) (n : Nat), turns b (n + 1) = turns b n ++ [kindAt b n]
  | b, 0 => rfl
  | b, n + 1 => by
    show b :: turns (!b) (n + 1) = b :: (turns (!b) n ++ [kindAt b (n + 1)])
    rw [turns_succ (!b) n]
    have e : kindAt (!b) n = kindAt b (n + 1) := by
      unfold kindAt
      rcases Nat.mod_two_eq_zero_or_one n with h | h
      · rw [if_pos h, if_neg (by omega)]
      · rw [if_neg (by omega), if_pos (by omega)]
        simp
    rw [e]
theorem kindAt_succ (b : Bool) (n : Nat) : kindAt b (n + 1) = !kindAt b n := by
  unfold kindAt
  rcases Nat.mod_two_eq_zero_or_one n with h | h
  · rw [if_pos h, if_neg (show ¬ (n + 1) % 2 = 0 by omega)]
  · rw [if_pos (show (n + 1) % 2 = 0 by omega), if_neg (show ¬ n % 2 = 0 by omega)]
    simp
theorem turns_len : ∀ (b : Bool) (n : Nat), (turns b n).length = n
  | _, 0 => rfl
  | b, n + 1 => by
    show (turns (!b) n).length + 1 = n + 1
    rw [turns_len (!b) n]
def settled (cs : List Cell) (vs : List Int) : Bool := rises false cs vs && rises true cs vs
def stat (cs : List Cell) (b : Bool) (vs : List Int) (n : Nat) : List Int := aft cs (turns b n) vs
theorem stat_succ (cs : List Cell) (b : Bool) (vs : List Int) (n : Nat) : stat cs b vs (n + 1) = srt (kindAt b n) cs (stat cs b vs n) := by
  unfold stat
  rw [turns_succ, aft_more]
theorem stat_len (cs : List Cell) (b : Bool) (vs : List Int) (n : Nat) : (stat cs b vs n).length = vs.length := aft_len _ _ _
/-- the least number of sorts in turns behind which both kinds ascend, and the values then -/
structure RestIs (cs : List Cell) (b : Bool) (vs : List Int) (n : Nat) : Prop where
  end_ : settled cs (stat cs b vs n) = true
  least : ∀ m, m < n → settled cs (stat cs b vs m) = false
theorem settled_not {cs : List Cell} {vs : List Int} {k : Bool} (h : settled cs vs = false) (r : rises k cs vs = true) : rises (!k) cs vs = false := by
  unfold settled at h
  cases k
  · rw [r] at h
    simpa using h
  · rw [r] at h
    simpa using h
/-- a variant of the turns -/
def fuel (cs : List Cell) (k : Bool) (vs : List Int) : Nat := 2 * inv vs + if rises k cs vs = true then 1 else 0
theorem fuel_lt {cs : List Cell} {k : Bool} {vs : List Int} (hl : vs.length = cs.length) (h : settled cs vs = false) : fuel cs (!k) (srt k cs vs) < fuel cs k vs := by
  unfold fuel
  cases r : rises k cs vs with
  | true =>
    rw [rises_fix hl r, if_pos rfl, if_neg (by rw [settled_not h r]; decide)]
    omega
  | false =>
    have := srt_lt hl r
    rw [if_neg (show ¬ (false = true) by decide)]
    split <;> omega
/-- at most 277 sorts settle any table of 24 cells -/
theorem stat_inv {cs : List Cell} {b : Bool} {vs : List Int} {n : Nat} (hl : vs.length = cs.length) (h : RestIs cs b vs n) : ∀ m, m + 1 ≤ n → inv (stat cs b vs (m + 1)) + m ≤ inv (stat cs b vs 1)
  | 0, _ => Nat.le_refl _
  | m + 1, hm => by
    have ih := stat_inv hl h m (by omega)
    have ns := h.least (m + 1) (by omega)
    have ln : (stat cs b vs m).length = cs.length := by rw [stat_len, hl]
    have r : rises (kindAt b m) cs (stat cs b vs (m + 1)) = true := by
      rw [stat_succ]
      exact srt_rises ln
    have r2 := settled_not ns r
    rw [← kindAt_succ] at r2
    have lt := srt_lt (by rw [stat_len, hl]) r2
    rw [← stat_succ] at lt
    omega
theorem rest_le {cs : List Cell} {b : Bool} {vs : List Int} {n : Nat} (hl : vs.length = cs.length) (hc : cs.length ≤ 24) (h : RestIs cs b vs n) : n ≤ 277 := by
  cases n with
  | zero => omega
  | succ m =>
    have i := stat_inv hl h m (Nat.le_refl _)
    have le := inv_le (stat cs b vs 1)
    rw [stat_len, hl] at le
    have : cs.length * (cs.length - 1) ≤ 24 * 23 := Nat.mul_le_mul hc (by omega)
    omega
end KS
namespace KS
open PySem PySem.Spec PyProof.Rows L2
/-- so many different whole numbers from 1 to 9999 -/
structure Vals9 (n : Nat) (fs : List Int) : Prop where
  len : fs.length = n
  nd : fs.Nodup
  bd : ∀ v ∈ fs, 1 ≤ v ∧ v ≤ 9999
def spValues (K : PySem.W.Frag) : Sp := fun vs H Q _ => ∃ (p : Addr) (n : Nat), vs = [.ref p, .int n] ∧ PoolO (H p) ∧ 1 ≤ n ∧ n ≤ 24 ∧
  ∀ H' t fs, KeepX p H H' → PoolO (H' p) → SqT K H' t (fs.map V.int) → Vals9 n fs → H t = none → Q (.ref t) H'
theorem Vals9.perm {n : Nat} {as bs : List Int} (h : Vals9 n as) (p : as.Perm bs) : Vals9 n bs := ⟨p.length_eq ▸ h.len, p.nodup_iff.mp h.nd, fun v m => h.bd v (p.mem_iff.mpr m)⟩
theorem map_eraseIdx {f : Int → V} : ∀ (l : List Int) (k : Nat), (l.map f).eraseIdx k = (l.eraseIdx k).map f
  | [], _ => rfl
  | _ :: _, 0 => rfl
  | x :: l, k + 1 => by
    show f x :: (l.map f).eraseIdx k = f x :: (l.eraseIdx k).map f
    rw [map_eraseIdx l k]
theorem erase_perm : ∀ {l : List Int} {k : Nat} (h : k < l.length), l.Perm (l[k] :: l.eraseIdx k)
  | _ :: _, 0, _ => List.Perm.refl _
  | x :: l, k + 1, h => ((erase_perm (l := l) (k := k) (Nat.lt_of_succ_lt_succ h)).cons x).trans (List.Perm.swap _ _ _)
theorem pick_perm {fs l : List Int} {k : Nat} (h : k < l.length) : (fs ++ l).Perm ((fs ++ [l[k]]) ++ l.eraseIdx k) := by
  rw [List.append_assoc]
  exact (erase_perm h).append_left fs
def rgI (a b : Int) : List Int := (List.range (b - a).toNat).map fun (i : Nat) => a + (i : Int)
theorem rgV_ints (a b : Int) : rgV a b = (rgI a b).map V.int := by
  unfold rgV rgI
  rw [List.map_map]
  rfl
theorem rgI_len (a b : Int) : (rgI a b).length = (b - a).toNat := by
  unfold rgI
  rw [List.length_map, List.length_range]
theorem rgI_nd (a b : Int) : (rgI a b).Nodup := by
  unfold rgI
  refine List.pairwise_map.2 (List.nodup_range.imp ?_)
  intro x y h e
  exact h (by omega)
theorem rgI_mem {a b v : Int} (h : v ∈ rgI a b) : a ≤ v ∧ v < b := by
  unfold rgI at h
  obtain ⟨i, hi, rfl⟩ := List.mem_map.mp h
  have := List.mem_range.mp hi
  omega
theorem vals9_low {n : Nat} (n1 : n ≤ 24) : Vals9 n (rgI 1 ((n : Int) + 1)) := by
  refine ⟨by rw [rgI_len]; omega, rgI_nd _ _, fun v h => ?_⟩
  have := rgI_mem h
  omega
theorem vals9_high {n : Nat} (n1 : n ≤ 24) : Vals9 n (rgI (10000 - (n : Int)) 10000) := by
  refine ⟨by rw [rgI_len]; omega, rgI_nd _ _, fun v h => ?_⟩
  have := rgI_mem h
  omega
theorem vals9_step {n : Nat} {st : Int} (n0 : 1 ≤ n) (s0 : 1 ≤ st) (s1 : st ≤ 9999 / (n : Int)) : Vals9 n ((rgI 1 ((n : Int) + 1)).map fun v => st * v) := by
  refine ⟨by rw [List.length_map, rgI_len]; omega, List.pairwise_map.2 ((rgI_nd _ _).imp ?_), fun v h => ?_⟩
  · intro x y h e
    exact h (Int.eq_of_mul_eq_mul_left (by omega) e)
  · obtain ⟨u, hu, rfl⟩ := List.mem_map.mp h
    have b := rgI_mem hu
    have h1 : st * (n : Int) ≤ 9999 := (Int.le_ediv_iff_mul_le (by omega)).mp s1
    have h2 : st * u ≤ st * (n : Int) := Int.mul_le_mul_of_nonneg_left (by omega) (by omega)
    have h3 : 1 * 1 ≤ st * u := Int.mul_le_mul s0 b.1 (by omega) (by omega)
    omega
def VSt (p : Addr) (n : Nat) (mode : Int) (H : Hp) (σ : L2.St) (H' : Hp) : Prop := ∃ (e : Addr) (y4 : Option V) (ls : List Int), σ = [some (.ref p), some (.int n), some (.int mode), some (.ref e), y4, none, none, none] ∧
  H e = none ∧ e ≠ p ∧ H' e = some (.lst (ls.map V.int)) ∧ Vals9 n ls ∧ KeepX p H H' ∧ PoolO (H' p)
theorem KeepX.free {p q : Addr} {H H' : Hp} (k : KeepX p H H') (po : PoolO (H' p)) (n : H' q = none) : H q = none := by
  cases z : H q with
  | none => rfl
  | some o =>
    have := k q o (Ne.symm (po.ne n)) z
    rw [n] at this
    cases this
theorem vals_ifs {K : PySem.W.Frag} {p e : Addr} {n : Nat} {mode : Int} {H H2 : Hp} {tr : TS} {D : Ends} (n0 : 1 ≤ n) (n1 : n ≤ 24) (he0 : H e = none) (hep : e ≠ p) (he : H2 e = some (.lst (rgV 1 ((n : Int) + 1)))) (kx : KeepX p H H2) (po : PoolO (H2 p))
    (k : ∀ σ' H', VSt p n mode H σ' H' → tr D σ' H') :
    tSeq (tIfS (tTest (tOp rEq (tVar 2) (tC (V.int 1)))) (tAsg (tLstRg (tRg2 (tOp (rI0 fun i j => V.int (i - j)) (tC (V.int 10000)) (tVar 1)) (tC (V.int 10000)))) (gName 3)) tNext)
      (tSeq (tIfS (tTest (tOp (rI0 fun i j => V.bl (decide (i > j))) (tVar 2) (tC (V.int 1))))
        (tSeq (tAsg (tOp (rI0 fun i j => V.int (i + j)) (tC (V.int 1)) (tCall spDraw [] E0 (tCons (tVar 0) (tCons (tOp (rI CDiv fun i j => V.int (i / j)) (tC (V.int 9999)) (tVar 1)) tNil)))) (gName 4))
          (tAsg (tLc (iList K (tVar 3)) (gName 7) tYes (tOp (rI CMul fun i j => V.int (i * j)) (tVar 4) (tVar 7)) [7]) (gName 3))) tNext) tr) D
      [some (.ref p), some (.int n), some (.int mode), some (.ref e), none, none, none, none] H2 := by
  refine ⟨_, rfl, rfl, _, rfl, ite2 (fun c => ?_) (fun c => ?_)⟩
  · have cm : mode = 1 := V.int.inj (of_decide_eq_true c)
    subst cm
    refine ⟨_, rfl, _, _, rfl, rfl, _, _, rfl, rfl, ⟨by omega, by omega, by omega, by omega, by omega⟩, fun g ng => ?_⟩
    have sg := same_new (o := .lst (rgV (10000 - (n : Int)) 10000)) ng
    refine ⟨_, rfl, _, _, rfl, rfl, _, rfl, ite2 (fun c => ?_) (fun c => ?_)⟩
    · exact absurd (of_decide_eq_true c) (by decide)
    · refine k _ _ ⟨g, none, rgI (10000 - (n : Int)) 10000, rfl, kx.free po ng, Ne.symm (po.ne ng), ?_, vals9_high n1, kx.trans (.of_same sg), po.same sg⟩
      rw [upd_same, rgV_ints]
  · refine ⟨_, rfl, _, _, rfl, rfl, _, rfl, ite2 (fun c => ?_) (fun c => ?_)⟩
    · have qd : 1 ≤ (9999 : Int) / (n : Int) := (Int.le_ediv_iff_mul_le (by omega)).mpr (by omega)
      have qu : (9999 : Int) / (n : Int) ≤ 9999 := Int.ediv_le_self _ (by decide)
      refine ⟨_, rfl, _, rfl, _, _, rfl, rfl, ⟨by omega, by omega⟩, p, _, rfl, po, by omega, by omega, fun H3 r k3 po3 r0 r1 => ?_⟩
      refine ⟨_, _, rfl, rfl, ?_⟩
      have he3 := k3 _ _ hep he
      refine ⟨_, rfl, e, rfl, ⟨_, SqL.of he3⟩, fun D0 nD => ?_⟩
      have neD : e ≠ D0 := ne_of_none he3 nD
      refine lc_list (K := K) (a := e) (xs := rgV 1 ((n : Int) + 1)) (fun j G => G = upd H3 D0 (.lst (((rgI 1 ((n : Int) + 1)).take j).map fun v => V.int ((1 + r) * v)))) ?_ ?_ ?_ ?_
      · rfl
      · rintro j G _ rfl
        exact SqL.of (by rw [upd_ne neD]; exact he3)
      · rintro j x G hj rfl
        rw [rgV_ints, List.getElem?_map] at hj
        cases ev : (rgI 1 ((n : Int) + 1))[j]? with
        | none =>
          rw [ev] at hj
          cases hj
        | some v =>
          rw [ev] at hj
          cases hj
          have hv := rgI_mem (List.mem_of_getElem? ev)
          refine ⟨rfl, _, rfl, _, rfl, _, _, rfl, rfl, .inl ⟨by omega, by omega⟩, _, upd_same, ?_, ?_⟩
          · rw [List.length_map, List.length_take]
            refine small64 ?_
            rw [rgI_len]
            omega
          · rw [upd_upd, List.take_add_one, ev, List.map_append]
            rfl
      · rintro G rfl
        rw [rgV_length, List.take_of_length_le (by rw [rgI_len]; omega)]
        have sD := same_new (o := .lst ((rgI 1 ((n : Int) + 1)).map fun v => V.int ((1 + r) * v))) nD
        refine k _ _ ⟨D0, _, (rgI 1 ((n : Int) + 1)).map fun v => (1 + r) * v, rfl, (kx.trans k3).free po3 nD, Ne.symm (po3.ne nD), ?_, vals9_step n0 (by omega) (by omega), (kx.trans k3).trans (.of_same sD), po3.same sD⟩
        rw [upd_same, List.map_map]
        rfl
    · refine k _ _ ⟨e, none, rgI 1 ((n : Int) + 1), rfl, he0, hep, ?_, vals9_low n1, kx, po⟩
      rw [← rgV_ints]
      exact he
end KS
namespace KS
open PySem PySem.Spec PyProof.Rows L2
/-- the program's sort -/
def spSortL (K : PySem.W.Frag) : Sp := fun xs H Q _ => ∃ (a t : Addr) (b : Bool) (cs : List Cell) (vs : List Int), xs = [.ref a, .ref t, .str (if b = true then "C" else "R")] ∧ PlanAt K H a cs ∧ Good cs ∧ cs.length ≤ 24 ∧
  SqT K H t (vs.map V.int) ∧ Vals9 cs.length vs ∧ ∀ H' u, Same H H' → SqT K H' u ((srt b cs vs).map V.int) → Q (.ref u) H'
end KS
namespace KS
open PySem PySem.Spec PyProof.Rows L2
/-! ### a sort only moves the values -/
def one (x y : Int) : Nat := if x = y then 1 else 0
theorem count_one (x a : Int) (l : List Int) : (a :: l).count x = l.count x + one a x := by
  rw [List.count_cons]
  unfold one
  by_cases e : a = x
  · rw [if_pos e, if_pos (by simpa using e)]
  · rw [if_neg e, if_neg (by simpa using e)]
theorem count_set (x y : Int) : ∀ {l : List Int} {k : Nat} {v : Int}, l[k]? = some v → (l.set k y).count x + one v x = l.count x + one y x
  | [], k, v, h => by simp at h
  | a :: l, 0, v, h => by
    simp at h
    subst h
    show (y :: l).count x + one a x = (a :: l).count x + one y x
    rw [count_one, count_one]
    omega
  | a :: l, k + 1, v, h => by
    have h' : l[k]? = some v := by simpa using h
    have ih := count_set x y h'
    show (a :: l.set k y).count x + one v x = (a :: l).count x + one y x
    rw [count_one, count_one]
    omega
theorem getN_set {acc : List Int} {k : Nat} {y : Int} {ks : List Nat} (h : k ∉ ks) : getN (acc.set k y) ks = getN acc ks := by
  unfold getN
  refine List.map_congr_left fun j hj => ?_
  have : k ≠ j := fun e => h (e ▸ hj)
  rw [List.getD_eq_getElem?_getD, List.getD_eq_getElem?_getD, List.getElem?_set_ne this]
theorem put_count (x : Int) : ∀ {ks : List Nat} {ys acc : List Int}, ks.Nodup → ks.length = ys.length → (∀ k ∈ ks, k < acc.length) → (putN acc ks ys).count x + (getN acc ks).count x = acc.count x + ys.count x
  | [], [], acc, _, _, _ => by
    rw [putN_nil]
    rfl
  | [], _ :: _, acc, _, h, _ => by simp at h
  | _ :: _, [], acc, _, h, _ => by simp at h
  | k :: ks, y :: ys, acc, nd, hl, hb => by
    rw [List.nodup_cons] at nd
    have hk := hb k List.mem_cons_self
    obtain ⟨v, hv⟩ : ∃ v, acc[k]? = some v := ⟨acc[k], List.getElem?_eq_getElem hk⟩
    have ih := put_count x (ks := ks) (ys := ys) (acc := acc.set k y) nd.2 (by simpa using hl) (fun j hj => by
      rw [List.length_set]
      exact hb j (List.mem_cons_of_mem _ hj))
    rw [getN_set nd.1] at ih
    have cs := count_set x y hv
    rw [putN_cons]
    have eg : getN acc (k :: ks) = v :: getN acc ks := by
      unfold getN
      rw [List.map_cons, getD_of hv]
    rw [eg, count_one, count_one]
    omega
theorem put_perm {ks : List Nat} {ys acc : List Int} (nd : ks.Nodup) (hb : ∀ k ∈ ks, k < acc.length) (p : ys.Perm (getN acc ks)) : (putN acc ks ys).Perm acc := by
  rw [List.perm_iff_count]
  intro x
  have hl : ks.length = ys.length := by
    rw [p.length_eq]
    unfold getN
    rw [List.length_map]
  have := put_count x (ys := ys) nd hl hb
  rw [p.count_eq] at this
  omega
theorem asc_nodup {ks : List Nat} (h : ks.Pairwise (· < ·)) : ks.Nodup := h.imp fun q e => by omega
theorem fold_perm {vs : List Int} : ∀ {ls : List (List Nat)} {acc : List Int}, Parts acc.length ls → (∀ ks ∈ ls, ∀ k ∈ ks, acc[k]? = vs[k]?) → (ls.foldl (srtN vs) acc).Perm acc
  | [], acc, _, _ => List.Perm.refl _
  | ks :: ls, acc, P, h => by
    have pc := List.pairwise_cons.mp P.apart
    have e : getN vs ks = getN acc ks := getN_congr fun k hk => (h ks List.mem_cons_self k hk).symm
    have d : (srtN vs acc ks).Perm acc := by
      unfold srtN
      rw [e]
      exact put_perm (asc_nodup (P.asc ks List.mem_cons_self)) (P.bd ks List.mem_cons_self) (sortI_perm _)
    refine List.Perm.trans (fold_perm (ls := ls) (acc := srtN vs acc ks) ⟨fun ms hm => P.asc ms (List.mem_cons_of_mem _ hm), fun ms hm k hk => ?_, pc.2⟩ fun ms hm k hk => ?_) d
    · rw [srtN_len]
      exact P.bd ms (List.mem_cons_of_mem _ hm) k hk
    · have nk : k ∉ ks := fun m => pc.1 ms hm k m hk
      rw [show (srtN vs acc ks)[k]? = acc[k]? from putN_off nk]
      exact h ms (List.mem_cons_of_mem _ hm) k hk
theorem srt_perm {b : Bool} {cs : List Cell} {vs : List Int} (h : vs.length = cs.length) : (srt b cs vs).Perm vs := by
  rw [srt_up]
  exact fold_perm (by rw [h]; exact lns_parts b cs) fun _ _ _ _ => rfl
theorem srt9 {b : Bool} {cs : List Cell} {vs : List Int} (h : Vals9 cs.length vs) : Vals9 cs.length (srt b cs vs) := h.perm (srt_perm h.len).symm
theorem aft9 {cs : List Cell} : ∀ (w : List Bool) {vs : List Int}, Vals9 cs.length vs → Vals9 cs.length (aft cs w vs)
  | [], _, h => h
  | b :: w, _, h => aft9 w (srt9 (b := b) h)
theorem fix_rises {b : Bool} {cs : List Cell} {vs : List Int} (h : vs.length = cs.length) : decide (srt b cs vs = vs) = rises b cs vs := by
  cases r : rises b cs vs with
  | true => exact decide_eq_true (rises_fix h r)
  | false =>
    refine decide_eq_false fun e => ?_
    have := srt_rises (b := b) h
    rw [e, r] at this
    cases this
def spIsSorted (K : PySem.W.Frag) : Sp := fun xs H Q _ => ∃ (a t : Addr) (b : Bool) (cs : List Cell) (vs : List Int), xs = [.ref a, .ref t, .str (if b = true then "C" else "R")] ∧ PlanAt K H a cs ∧ Good cs ∧ cs.length ≤ 24 ∧
  SqT K H t (vs.map V.int) ∧ Vals9 cs.length vs ∧ ∀ H', Same H H' → Q (.bl (rises b cs vs)) H'
def spSettled (K : PySem.W.Frag) : Sp := fun xs H Q _ => ∃ (a t : Addr) (cs : List Cell) (vs : List Int), xs = [.ref a, .ref t] ∧ PlanAt K H a cs ∧ Good cs ∧ cs.length ≤ 24 ∧
  SqT K H t (vs.map V.int) ∧ Vals9 cs.length vs ∧ ∀ H', Same H H' → Q (.bl (settled cs vs)) H'
end KS
namespace KS
open PySem PySem.Spec PyProof.Rows L2
open PySem.W (AlikeAll dataLt minD min_list_default readsAll_atA reads_keeps alike_unique)
/-! ### x not in t -/
def rNotInT (K : PySem.W.Frag) : V → V → Hp → VK → Prop := fun x y H Q => ∃ d ds, Dp K H x d ∧ Dp K H y (.tuple ds) ∧ SeqAt.shaped d = true ∧ SeqAt.shaped (.tuple ds) = true ∧ Q (.bl (!ds.any fun z => PyData.eqv z d)) H
theorem op_notInT {X : Cx} (hu : X.A.units + 65 < cLine) : OpR X (compareOp .NotIn) (rNotInT X.K) := by
  intro pins s σ H x y v u Q I rx ry h
  obtain ⟨d, ds, hd, he, sd, se, q⟩ := h
  obtain ⟨as, r1⟩ := Dp.reads I d x v hd rx
  obtain ⟨bs, r2⟩ := Dp.reads I (.tuple ds) y u he ry
  refine SeqAt.notIn_tuple_reads r2 r1 (SeqAt.canLay_of_shaped se) (SeqAt.canLay_of_shaped sd) ?_ ⟨.bl _, H, I, rfl, q⟩
  have := SeqAt.depth_of_shaped sd
  have h2 : min (PyData.depthAll ds) d.depth ≤ d.depth := Nat.min_le_right _ _
  omega
/-! ### repr(x), x None or plain data -/
/-! ### min(l, default=None), l a list of plain data, whose first is least -/
end KS
namespace KS
open PySem PySem.Spec PyProof.Rows L2
/-! ### obstacles, as mathematics -/
/-! ### the quads in their order -/
open PySem.W (AlikeAll dataLt dataLt_tuple dataLt_cons dataLt_int alike)
end KS
namespace KS
open PySem PySem.Spec PyProof.Rows L2
/-! ### counts -/
theorem nodup_len_le : ∀ {l m : List Nat}, l.Nodup → (∀ x ∈ l, x ∈ m) → l.length ≤ m.length
  | [], _, _, _ => Nat.zero_le _
  | x :: l, m, nd, h => by
    rw [List.nodup_cons] at nd
    have hx := h x List.mem_cons_self
    have ih := nodup_len_le (l := l) (m := m.erase x) nd.2 fun y hy => by
      have : y ≠ x := fun e => nd.1 (e ▸ hy)
      exact (List.mem_erase_of_ne this).mpr (h y (List.mem_cons_of_mem _ hy))
    rw [List.length_erase_of_mem hx] at ih
    have : 0 < m.length := List.length_pos_of_mem hx
    rw [List.length_cons]
    omega
/-! ### the cells of a plan by their lines -/
end KS
namespace KS
open PySem PySem.Spec PyProof.Rows L2
/-- the letter of a kind, and a word -/
def ltr (b : Bool) : Nat := if b = true then 67 else 82
def wS (w : List Bool) : Str := ⟨(w.map ltr).toArray⟩
theorem wS_len (w : List Bool) : (wS w).length = w.length := by
  show (w.map ltr).toArray.size = _
  rw [List.size_toArray, List.length_map]
theorem ltr_str (b : Bool) : V.str ⟨#[ltr b]⟩ = V.str (if b = true then "C" else "R") := by
  cases b <;> decide +kernel
theorem wS_at {w : List Bool} {i : Nat} {c : Nat} (h : (wS w).cps[i]? = some c) : ∃ b, w[i]? = some b ∧ c = ltr b := by
  have h' : (w.map ltr).toArray[i]? = some c := h
  rw [List.getElem?_toArray, List.getElem?_map] at h'
  cases e : w[i]? with
  | none =>
    rw [e] at h'
    cases h'
  | some b =>
    rw [e] at h'
    cases h'
    exact ⟨b, rfl, rfl⟩
def spLAfter (K : PySem.W.Frag) : Sp := fun xs H Q _ => ∃ (a t : Addr) (w : List Bool) (cs : List Cell) (vs : List Int), xs = [.ref a, .ref t, .str (wS w)] ∧ PlanAt K H a cs ∧ cs.length ≤ 24 ∧
  SqT K H t (vs.map V.int) ∧ vs.length = cs.length ∧ ∀ H' u, Same H H' → SqT K H' u ((aft cs w vs).map V.int) → Q (.ref u) H'
end KS
namespace KS
open PySem PySem.Spec PyProof.Rows L2
/-- one letter, so many times -/
def rRepC : R2 := fun x y H Q => ∃ (c : Nat) (n : Nat), x = .str ⟨#[c]⟩ ∧ y = .int n ∧ 1 ≤ n ∧ n ≤ 64 ∧ Q (.str ⟨(List.replicate n c).toArray⟩) H
theorem rep_fold (c : Nat) : ∀ (n : Nat) (a : Array Nat), (List.replicate n #[c]).foldl (· ++ ·) a = a ++ (List.replicate n c).toArray
  | 0, a => by simp
  | n + 1, a => by
    rw [List.replicate_succ, List.foldl_cons, rep_fold c n, List.replicate_succ]
    apply Array.ext'
    simp
theorem op_repC {X : Cx} : OpR X (binaryOp .Mult) rRepC := by
  intro pins s σ H x y v u Q I rx ry h
  obtain ⟨c, n, rfl, rfl, n0, n1, q⟩ := h
  obtain ⟨t, rfl⟩ := rx
  obtain ⟨t', rfl⟩ := ry
  have e1 : ¬ ((n : Int) < 1) := by omega
  refine P.mul_str ?_ ?_ ?_ ?_
  · have h1 : ¬ (n : Int) < -(2 ^ 63 : Int) := by omega
    have h2 : ¬ (n : Int) ≥ 2 ^ 63 := by omega
    rw [decide_eq_false h1, decide_eq_false h2]
    rfl
  · intro _ _
    show ¬ ((1 : Int) > (2 ^ 63 - 1) / (n : Int))
    have : (1 : Int) ≤ (2 ^ 63 - 1) / (n : Int) := (Int.le_ediv_iff_mul_le (by omega)).mpr (by omega)
    omega
  · intro _ _
    show decide (1 * (n : Int).toNat > sizeLine) = false
    refine decide_eq_false ?_
    rw [sizeLine_eq]
    omega
  · rw [if_neg e1]
    by_cases e : n = 1
    · subst e
      exact ⟨.str ⟨#[c]⟩, H, I, ⟨_, rfl⟩, q⟩
    · have z : (((n : Int) == 1) || ((⟨#[c]⟩ : Str).length == 0)) = false := by
        have : ((n : Int) == 1) = false := by
          rw [beq_eq_false_iff_ne]
          omega
        rw [this]
        rfl
      rw [if_neg (by rw [z]; decide)]
      have ez : (⟨(List.replicate (n : Int).toNat (⟨#[c]⟩ : Str).cps).foldl (· ++ ·) #[]⟩ : Str) = ⟨(List.replicate n c).toArray⟩ := by
        rw [Int.toNat_natCast]
        show (⟨(List.replicate n #[c]).foldl (· ++ ·) #[]⟩ : Str) = _
        rw [rep_fold]
        simp
      rw [ez]
      refine ⟨?_, .str ⟨(List.replicate n c).toArray⟩, H, I.tok _, ⟨_, rfl⟩, q⟩
      show (List.replicate n c).toArray.size ≤ sizeLine
      rw [List.size_toArray, List.length_replicate, sizeLine_eq]
      omega
theorem wS_app (a b : List Bool) : wS a ++ wS b = wS (a ++ b) := by
  show (⟨(a.map ltr).toArray ++ (b.map ltr).toArray⟩ : Str) = ⟨((a ++ b).map ltr).toArray⟩
  rw [List.map_append]
  simp
theorem wS_rep (b : Bool) (n : Nat) : (⟨(List.replicate n (ltr b)).toArray⟩ : Str) = wS (List.replicate n b) := by
  unfold wS
  rw [List.map_replicate]
theorem wS_cut (a : List Bool) (n : Nat) (h : n ≤ a.length) : cutS (wS a) none (some (n : Int)) = wS (a.take n) := by
  have hl := wS_len a
  unfold cutS
  have e0 : HT.sIx (wS a).length 0 none = 0 := rfl
  have e1 : HT.sIx (wS a).length (wS a).length (some (n : Int)) = n := by
    rw [HT.sIx_nat, hl]
    omega
  rw [e0, e1]
  show (⟨(((a.map ltr).toArray.toList.drop 0).take (n - 0)).toArray⟩ : Str) = ⟨((a.take n).map ltr).toArray⟩
  simp
/-- a word of at most so many letters -/
def spLWord (K : PySem.W.Frag) : Sp := fun xs H Q _ => ∃ (p : Addr) (m : Nat), xs = [.ref p, .int m] ∧ PoolO (H p) ∧ m ≤ 400 ∧ ∀ H' w, KeepX p H H' → PoolO (H' p) → w.length ≤ m → Q (.str (wS w)) H'
end KS
namespace KS
open PySem PySem.Spec PyProof.Rows L2
/-- the program's word -/
def spAfterP (K : PySem.W.Frag) : Sp := fun xs H Q _ => ∃ (a t : Addr) (w : List Bool) (cs : List Cell) (vs : List Int), xs = [.ref a, .ref t, .str (wS w)] ∧ PlanAt K H a cs ∧ Good cs ∧ cs.length ≤ 24 ∧
  SqT K H t (vs.map V.int) ∧ Vals9 cs.length vs ∧ w.length ≤ 400 ∧ ∀ H' u, Same H H' → SqT K H' u ((aft cs w vs).map V.int) → Q (.ref u) H'
theorem wS_nil : V.str (wS []) = V.str "" := by decide +kernel
theorem line_shaped (l : List Int) : SeqAt.shaped (lineD l) = true := by
  obtain ⟨h1, h2⟩ := ints_lay l
  show SeqAt.shaped (.tuple (l.map PyData.int)) = true
  unfold SeqAt.shaped
  simp only [PyData.canLay0, PyData.depth, h1, h2]
  decide
end KS
namespace KS
open PySem PySem.Spec PyProof.Rows L2
def lS (b : Bool) : Str := ⟨#[ltr b]⟩
theorem lS_w (b : Bool) : lS b = wS [b] := rfl
theorem join_ws : ∀ w : List Bool, Str.join "" (w.map lS) = wS w
  | [] => by decide +kernel
  | [b] => rfl
  | b :: c :: r => by
    have h := join_ws (c :: r)
    show lS b ++ "" ++ Str.join "" ((c :: r).map lS) = _
    rw [h, show ("" : Str) = wS [] from by decide +kernel, lS_w, wS_app, wS_app]
    rfl
theorem join_letters (w : List Bool) : Txt.join "" (w.map lS) = wS w := by
  show Builtin.Str.glued "" (w.map lS) = _
  rw [StrLaws.glued_eq_join, join_ws]
theorem lS_sum : ∀ w : List Bool, ((w.map lS).map (·.length)).sum = w.length
  | [] => rfl
  | b :: w => by
    show 1 + ((w.map lS).map (·.length)).sum = _
    rw [lS_sum w, List.length_cons]
    omega
end KS
namespace KS
open PySem PySem.Spec PyProof.Rows L2
/-! ### zip(t, l): t a tuple, l a list, of one length -/
def ItTL (K : PySem.W.Frag) (a b : Addr) : It where
  go := fun i H => ∃ (ts ls : List V) (x y : V), SqT K H a ts ∧ SqL K H b ls ∧ ts[i]? = some x ∧ ls[i]? = some y
  yld := fun i H v H' => ∃ (T : Addr) (x y : V), v = .ref T ∧ H T = none ∧ H' = upd H T (.tup [x, y]) ∧ (∀ ts, SqT K H a ts → ts[i]? = some x) ∧ (∀ ls, SqL K H b ls → ls[i]? = some y)
  stop := fun i H => ∃ ts ls : List V, SqT K H a ts ∧ SqL K H b ls ∧ ts.length = i ∧ ls.length = i
def TLs (a b z TI TO i1 i2 : Addr) (i : Nat) (h : Heap) : Prop :=
  IsZip h z TI TO .none ∧ IsTupOf2 h TI (.ref i1) (.ref i2) ∧ (∃ x y, IsTupOf2 h TO x y) ∧ h.IsTupleIter i1 a i ∧ h.IsListIter i2 b i
theorem mem5 {c z TI TO i1 i2 : Addr} (h : c ∈ [z, TI, TO, i1, i2]) : c = z ∨ c = TI ∨ c = TO ∨ c = i1 ∨ c = i2 := by simpa using h
theorem out4 {c z TI TO i1 i2 : Addr} (h : c ∉ [z, TI, TO, i1, i2]) : c ≠ z ∧ c ≠ TO ∧ c ≠ i1 ∧ c ≠ i2 := by
  simp only [List.mem_cons, not_or] at h
  exact ⟨h.1, h.2.2.1, h.2.2.2.1, h.2.2.2.2.1⟩
theorem apart_sep {z TI TO i1 i2 a b : Addr} (D : ZipApart z TI TO i1 i2 a b) : ZipSep2 z TI TO i1 i2 [i1, a] [i2, b] where
  TIz := D.TIz
  TOz := D.TOz
  TITO := D.TITO
  TIi1 := D.TIi1
  TIi2 := D.TIi2
  mem1 := List.mem_cons_self
  mem2 := List.mem_cons_self
  zf1 := by simp [D.i1z.symm, D.l1z.symm]
  zf2 := by simp [D.i2z.symm, D.l2z.symm]
  Tf1 := by simp [D.TOi1, D.l1TO.symm]
  Tf2 := by simp [D.TOi2, D.l2TO.symm]
  sep1_2 := by simp [D.i12, D.l2i1.symm]
  sep2_1 := by simp [D.i12.symm, D.l1i2.symm]
theorem tls_lt {a b z TI TO i1 i2 : Addr} {i : Nat} {h : Heap} (st : TLs a b z TI TO i1 i2 i h) {c : Addr} (hc : c ∈ [z, TI, TO, i1, i2]) : ∃ o, h.get? c = some o ∧ ∀ v, o.data ≠ .cell v := by
  obtain ⟨q0, q1, ⟨x, y, q2⟩, ⟨o3, q3, _, d3⟩, ⟨o4, q4, _, d4⟩⟩ := st
  rcases mem5 hc with e | e | e | e | e <;> subst e
  · exact ⟨_, q0, fun v z => nomatch z⟩
  · exact ⟨_, q1, fun v z => nomatch z⟩
  · exact ⟨_, q2, fun v z => nomatch z⟩
  · exact ⟨o3, q3, fun v z => by rw [d3] at z; cases z⟩
  · exact ⟨o4, q4, fun v z => by rw [d4] at z; cases z⟩
theorem turn_TL {P : Program} {w : World} {K : PySem.W.Frag} {elts : List Expr} {kk : Nat} {tpos : Pos} {a b z TI TO i1 i2 : Addr} (D : ZipApart z TI TO i1 i2 a b) :
    Turn P w K (.Tuple elts kk tpos) (ItTL K a b) [z, TI, TO, i1, i2] z (TLs a b z TI TO i1 i2) where
  mem := List.mem_cons_self
  obj := fun i h st c hc => tls_lt st hc
  keep := fun i h h' st k => by
    obtain ⟨q0, q1, ⟨x, y, q2⟩, q3, q4⟩ := st
    exact ⟨k z (by simp) _ q0, k TI (by simp) _ q1, ⟨x, y, k TO (by simp) _ q2⟩, q3.at fun o e => k i1 (by simp) o e, q4.at fun o e => k i2 (by simp) o e⟩
  self := fun A i s Q E st h => wpAny_pyIter_zip st.1 h
  item := by
    intro X hP hw hK hc i pins s σ H E I hf st hg
    subst hP hw hK
    have st0 := st
    obtain ⟨q0, q1, ⟨x0, y0, q2⟩, q3, q4⟩ := st
    obtain ⟨ts, ls, x, y, ht, hl, ex, ey⟩ := hg
    obtain ⟨its, rv, p1, _⟩ := I.tuple ht
    obtain ⟨jts, rw', p2, _⟩ := I.list hl
    obtain ⟨u, hu, ru⟩ := rv.get ex
    obtain ⟨v, hv, rv'⟩ := rw'.get ey
    have n1 : i < its.toArray.size := by
      have := (List.getElem?_eq_some_iff.mp hu).1
      simpa using this
    have n2 : i < jts.toArray.size := by
      have := (List.getElem?_eq_some_iff.mp hv).1
      simpa using this
    have hh : X.A.in1.handled = none := I.ok.hd hc
    have zlt : z < s.heap.objs.size := Heap.lt_size q0
    refine wpAny_pyNext_zipD2_item (apart_sep D) (Draws.tuple hh i1 a D.l1i1 its.toArray) (Draws.list hh i2 b D.l2i2 jts.toArray) q0 q1 q2 ⟨q3, p1⟩ ⟨q4, p2.isList⟩ n1 n2 fun u' v' h1 tk hu' hv' z1 o1 a1 b1 hT sz kp => ?_
    have eu : u' = u := by
      have z : its[i]? = some u' := by simpa using hu'
      rw [hu] at z
      exact (Option.some.inj z).symm
    have ev : v' = v := by
      have z : jts[i]? = some v' := by simpa using hv'
      rw [hv] at z
      exact (Option.some.inj z).symm
    subst eu ev
    refine ⟨_, rfl, wpAny_letOwnedTupleGo_zip (s := { s with heap := h1, toks := tk }) z1 fun h2 z2 sb => ?_⟩
    have hT2 : h2.get? s.heap.objs.size = some { cls := .type "tuple", data := .seq #[u', v'] } := (sb.2 _ (Nat.ne_of_gt zlt)).trans hT
    have nw : ObjOk X.prog X.w (upd H s.heap.objs.size (.tup [x, y])) h2 s.heap.objs.size (.tup [x, y]) := ⟨by show 2 ≤ sizeLine; decide, [u', v'], .cons ru (.cons rv' .nil), ⟨_, hT2, rfl, _, rfl⟩⟩
    have I1 : Inv X pins σ (upd H s.heap.objs.size (.tup [x, y])) { s with heap := h2, toks := tk } := by
      refine I.turnedNew (ch := [z, TI, TO, i1, i2]) (fun c o n e => ?_) hf (Nat.le_refl _) nw
      obtain ⟨n1, n2, n3, n4⟩ := out4 n
      exact (sb.2 c n1).trans (kp c o n1 n2 n3 n4 e)
    refine ⟨.ref s.heap.objs.size, _, I1, rfl, ⟨_, x, y, rfl, I.hok.fresh (Nat.le_refl _), rfl, fun m hm => by rw [I.tuple_inj hm ht]; exact ex, fun m hm => by rw [I.list_inj hm hl]; exact ey⟩, ⟨z2, ?_, ⟨u', v', ?_⟩, ?_, ?_⟩, fun c hcm => ?_⟩
    · exact (sb.2 TI D.TIz).trans (kp TI _ D.TIz D.TITO D.TIi1 D.TIi2 q1)
    · exact (sb.2 TO D.TOz).trans o1
    · exact a1.1.at fun o e => (sb.2 i1 D.i1z).trans e
    · exact b1.1.at fun o e => (sb.2 i2 D.i2z).trans e
    · obtain ⟨o, ho, _⟩ := tls_lt st0 hcm
      rw [upd_ne (Nat.ne_of_lt (Heap.lt_size ho))]
      exact (hf c hcm).1
  done := by
    intro X hP hw hK hc i pins s σ H E I hf st hg
    subst hP hw hK
    obtain ⟨q0, q1, ⟨x0, y0, q2⟩, q3, q4⟩ := st
    obtain ⟨ts, ls, ht, hl, e1, e2⟩ := hg
    obtain ⟨its, rv, p1, _⟩ := I.tuple ht
    obtain ⟨jts, rw', p2, _⟩ := I.list hl
    have m1 : its.toArray.size = i := by
      have := rv.length
      simp
      omega
    have m2 : jts.toArray.size = i := by
      have := rw'.length
      simp
      omega
    have hh : X.A.in1.handled = none := I.ok.hd hc
    refine wpAny_pyNext_zipD2_end (apart_sep D) (Draws.tuple hh i1 a D.l1i1 its.toArray) (Draws.list hh i2 b D.l2i2 jts.toArray) q0 q1 q2 ⟨q3, p1⟩ ⟨q4, p2.isList⟩ (by omega) (by omega) (.inl m1.symm) fun h1 tk kp => ⟨rfl, ?_⟩
    refine I.turnedL (ch := [z, TI, TO, i1, i2]) (fun c o n e => ?_) hf
    obtain ⟨n1, n2, n3, n4⟩ := out4 n
    exact kp c o n1 n2 n3 n4 e
def iZipTL (K : PySem.W.Frag) (ta : TA) : TI := fun σ H R => ta σ H fun vs H1 => ∃ a b ts ls, vs = [.ref a, .ref b] ∧ SqT K H1 a ts ∧ SqL K H1 b ls ∧ R (ItTL K a b) H1
theorem pi_zipTL {X : Cx} {e e2 : Expr} {ta : TA} {p pos tpos : Pos} {elts : List Expr} {kk : Nat} (hg : Gl X "zip") (hm : X.mg "zip" = none) (ha : PA X [e, e2] ta)
    (hs : starEach [e, e2] X.env = (false, eval e X.env) :: starEach [e2] X.env := by rfl) (hpl : (backTo pos (starEach [e2] X.env)).any (·.1) = false := by rfl) :
    PI X (.Tuple elts kk tpos) (.Call (.Name "zip" p) [e, e2] [] pos) (iZipTL X.K ta) := by
  refine ⟨fun pins s σ H R I h => Call_ (ld_blt I hg hm PyProof.Rows.boot_zip (PyProof.Rows.callWith_type1 (thn (ha.run pos pins s σ H _ I h) fun us s1 hh => ?_) hs hpl))⟩
  obtain ⟨vs, H1, I1, r1, a, b, ts, ls, ev, ht, hl, q⟩ := hh
  subst ev
  cases r1 with
  | cons r rr =>
    cases rr with
    | cons r' rr =>
      cases rr
      cases r
      cases r'
      obtain ⟨its, rv, p1, _⟩ := I1.tuple ht
      obtain ⟨jts, rw', p2, _⟩ := I1.list hl
      have la : a < s1.heap.objs.size := by
        obtain ⟨o, ho, _⟩ := id p1
        exact Heap.lt_size ho
      refine zip_begins2 (begins_tuple a its.toArray) (begins_list b jts.toArray) p1 p2.isList fun h1 z1 t1 o1 g1 g2 sz kp => wpAny_pyIter_zip z1 ?_
      have I2 : Inv X pins σ H1 { s1 with heap := h1 } := I1.kept (t' := s1.toks) kp
      refine ⟨_, [s1.heap.objs.size + 4, s1.heap.objs.size + 2, s1.heap.objs.size + 3, s1.heap.objs.size, s1.heap.objs.size + 1], _, _, H1, rfl, I2, turn_TL (PySem.W.ktu_apart s1.heap.objs.size a b la p2.lt), ⟨z1, t1, ⟨_, _, o1⟩, ⟨_, g1, rfl, rfl⟩, ⟨_, g2, rfl, rfl⟩⟩, fun c hc => ?_, q⟩
      have le : s1.heap.objs.size ≤ c := by
        rcases mem5 hc with e | e | e | e | e <;> rw [e] <;> first | exact Nat.le_add_right _ _ | exact Nat.le_refl _
      exact I1.fpOk le (I1.hok.fresh le)
/-- a loop over zip(t, l), of one length -/
theorem for_zipTL {K : PySem.W.Frag} {a b : Addr} {xs ys : List V} {g : TG} {tb : TS} {D : Ends} {σ : L2.St} {H : Hp} (hl : xs.length = ys.length) (Pv : Nat → L2.St → Hp → Prop) (h0 : Pv 0 σ H) (hq : ∀ i σ H, Pv i σ H → SqT K H a xs ∧ SqL K H b ys)
    (hs : ∀ (i : Nat) (x y : V) (T : Addr) (σ : L2.St) (G : Hp), xs[i]? = some x → ys[i]? = some y → Pv i σ G → G T = none → g (.ref T) σ (upd G T (.tup [x, y])) fun σ2 G2 => tb { D with nx := Pv (i + 1), ct := Pv (i + 1), bk := D.nx } σ2 G2) (hd : ∀ σ G, Pv xs.length σ G → D.nx σ G) :
    ∃ W : Nat → Nat → L2.St → Hp → Prop, (∃ m, W 0 m σ H) ∧ ∀ i m σ H, W i m σ H → ((ItTL K a b).stop i H ∧ D.nx σ H) ∨ ((ItTL K a b).go i H ∧ ∃ N : L2.St → Hp → Prop, (∀ σ' H', N σ' H' → ∃ m', m' < m ∧ W (i + 1) m' σ' H') ∧
      ∀ v H', (ItTL K a b).yld i H v H' → g v σ H' fun σ2 H2 => tb { D with nx := N, ct := N, bk := D.nx } σ2 H2) := by
  refine ⟨fun i m σ G => m + i = xs.length ∧ Pv i σ G, ⟨xs.length, rfl, h0⟩, fun i m σ G hw => ?_⟩
  obtain ⟨hm, p⟩ := hw
  obtain ⟨qx, qy⟩ := hq i σ G p
  cases m with
  | zero =>
    have e : i = xs.length := by omega
    subst e
    exact .inl ⟨⟨xs, ys, qx, qy, rfl, hl.symm⟩, hd σ G p⟩
  | succ m =>
    have l1 : i < xs.length := by omega
    have l2 : i < ys.length := by omega
    refine .inr ⟨⟨xs, ys, _, _, qx, qy, List.getElem?_eq_getElem l1, List.getElem?_eq_getElem l2⟩, Pv (i + 1), fun σ' G' p' => ⟨m, Nat.lt_succ_self _, by omega, p'⟩, fun v G' y => ?_⟩
    obtain ⟨T, x, y, rfl, nT, rfl, f1, f2⟩ := y
    exact hs i x y T σ G (f1 xs qx) (f2 ys qy) p nT
end KS
namespace KS
open PySem PySem.Spec PyProof.Rows L2
/-! ### what the program's own helpers keep, for good values -/
def spFF (K : PySem.W.Frag) : Sp := fun xs H Q _ => ∃ (t : Addr) (m : Int) (vs : List Int), xs = [.ref t, .int m] ∧ SqT K H t (vs.map V.int) ∧ vs.Nodup ∧ (∀ v ∈ vs, 1 ≤ v ∧ v ≤ m) ∧ ∀ H', Same H H' → Q .non H'
def spCheckF (K : PySem.W.Frag) : Sp := fun xs H Q _ => ∃ (n : Nat) (t : Addr) (vs : List Int), xs = [.int n, .ref t] ∧ SqT K H t (vs.map V.int) ∧ Vals9 n vs ∧ n ≤ 24 ∧ ∀ H', Same H H' → Q .non H'
def spAlong (K : PySem.W.Frag) : Sp := fun xs H Q _ => ∃ (g t : Addr) (gs : List V) (ls : List (List Int)) (vs : List Int), xs = [.ref g, .ref t] ∧ SqT K H g gs ∧ Paired (TupI K H) gs ls ∧
  (∀ l ∈ ls, (∀ k ∈ l, ∃ j : Nat, k = (j : Int) ∧ j < vs.length) ∧ l.length ≤ 24) ∧ SqT K H t (vs.map V.int) ∧ ∀ H' u, Same H H' → SqT K H' u ((srtTo vs ls).map V.int) → H u = none → Q (.ref u) H'
theorem inV_take {vs : List Int} (nd : vs.Nodup) {i : Nat} {v : Int} (h : vs[i]? = some v) : inV (.int v) ((vs.take i).map V.int) = false := by
  unfold inV
  rw [List.any_eq_false]
  intro x hx
  obtain ⟨y, hy, rfl⟩ := List.mem_map.mp hx
  obtain ⟨j, hj⟩ := List.mem_iff_getElem?.mp hy
  rw [List.getElem?_take] at hj
  split at hj
  · rename_i hlt
    show ¬ ((y == v) = true)
    intro e
    have e' : y = v := by simpa using e
    subst e'
    obtain ⟨l1, e1⟩ := List.getElem?_eq_some_iff.mp h
    obtain ⟨l2, e2⟩ := List.getElem?_eq_some_iff.mp hj
    have := (List.pairwise_iff_getElem.mp nd) j i l2 l1 hlt
    rw [e1, e2] at this
    exact this rfl
  · cases hj
theorem flat_ints (l : List Int) : (l.map V.int).all flatV = true := by
  rw [List.all_eq_true]
  intro x hx
  obtain ⟨y, _, rfl⟩ := List.mem_map.mp hx
  rfl
theorem cut_take {l : List V} {i : Nat} (h : i ≤ l.length) : cutV l none (some (i : Int)) = l.take i := by
  unfold cutV
  have e0 : HT.sIx l.length 0 none = 0 := rfl
  have e1 : HT.sIx l.length l.length (some (i : Int)) = i := by
    rw [HT.sIx_nat]
    omega
  rw [e0, e1]
  simp
theorem cut_not {l : List V} {i : Nat} (h : i < l.length) : ¬ (HT.sIx l.length 0 none = 0 ∧ HT.sIx l.length l.length (some (i : Int)) = l.length) := by
  intro z
  have e1 : HT.sIx l.length l.length (some (i : Int)) = i := by
    rw [HT.sIx_nat]
    omega
  omega
theorem lns_ok {b : Bool} {cs : List Cell} {vs : List Int} (hl : cs.length ≤ 24) (hv : vs.length = cs.length) : ∀ l ∈ lnsOf b cs, (∀ k ∈ l, ∃ j : Nat, k = (j : Int) ∧ j < vs.length) ∧ l.length ≤ 24 := fun l h => by
  have := lns_mem h
  rw [hv]
  exact ⟨this.1, by omega⟩
end KS
namespace KS
open PySem PySem.Spec PyProof.Rows L2
/-! ### a word, so many times -/
theorem rep_words (w : List Bool) : ∀ (n : Nat) (a : Array Nat), (List.replicate n (w.map ltr).toArray).foldl (· ++ ·) a = a ++ (((List.replicate n w).flatten).map ltr).toArray
  | 0, a => by simp
  | n + 1, a => by
    rw [List.replicate_succ, List.foldl_cons, rep_words w n, List.replicate_succ, List.flatten_cons, List.map_append]
    apply Array.ext'
    simp
/-! ### words one after the other -/
theorem aft_app (cs : List Cell) (w v : List Bool) (vs : List Int) : aft cs (w ++ v) vs = aft cs v (aft cs w vs) := by
  unfold aft
  rw [List.foldl_append]
theorem srt_twice {b : Bool} {cs : List Cell} {vs : List Int} (h : vs.length = cs.length) : srt b cs (srt b cs vs) = srt b cs vs :=
  rises_fix (by rw [srt_len]; exact h) (srt_rises h)
theorem settled_both {cs : List Cell} {vs : List Int} (h : settled cs vs = true) (b : Bool) : rises b cs vs = true := by
  unfold settled at h
  rw [Bool.and_eq_true] at h
  cases b
  · exact h.1
  · exact h.2
theorem aft_settled {cs : List Cell} {vs : List Int} (hl : vs.length = cs.length) (h : settled cs vs = true) : ∀ w : List Bool, aft cs w vs = vs
  | [] => rfl
  | b :: w => by
    show aft cs w (srt b cs vs) = vs
    rw [rises_fix hl (settled_both h b)]
    exact aft_settled hl h w
theorem turns_take : ∀ (n m : Nat) (b : Bool), n ≤ m → (turns b m).take n = turns b n
  | 0, _, _, _ => by simp [turns]
  | n + 1, 0, _, h => by omega
  | n + 1, m + 1, b, h => by
    show (b :: turns (!b) m).take (n + 1) = b :: turns (!b) n
    rw [List.take_succ_cons, turns_take n m (!b) (by omega)]
end KS
namespace KS
open PySem PySem.Spec PyProof.Rows L2
/-! ### sorted(t), t a tuple of whole numbers -/
/-! ### ranks -/
/-! ### a rising map goes through a sort -/
theorem pg_tupK {X : Cx} {K : PySem.W.Frag} {es : List Expr} {k n : Nat} {pos : Pos} {t : TGs} (hK : X.K = K) (hc : X.calm = true) (h : PGs X es t) (hn : (assignEach es X.env).length = n := by rfl) (hst : (assignEach es X.env).findIdx? (·.1) = none := by rfl) : PG X (.Tuple es k pos) (gTup K n t) := by
  subst hK
  exact pg_tup hc h hn hst
end KS
namespace PySem
end PySem
namespace L2
open PySem PySem.Spec PyProof.Rows
end L2
namespace KS
open PySem PySem.Spec PyProof.Rows L2
theorem exm_self {K : PySem.W.Frag} {S : Addr} (h1 : PySem.W.subIn K (.ref S) (.type "BaseException") = some true) (h2 : PySem.W.isClsIn K S = true) (h3 : PySem.W.typeIn K (.ref S) = some (.type "type")) (h4 : PySem.W.subIn K (.ref S) (.ref S) = some true) :
    PySem.W.exmOne K (.ref S) (.ref S) = some true := by
  have e1 : (PySem.W.subIn K (.ref S) (.type "BaseException") == some true) = true := by rw [h1] <;> rfl
  have e2 : ((PySem.W.clsIn K S).isSome && PySem.W.typeIn K (.ref S) == some (.type "type")) = true := by
    have h2' : (PySem.W.clsIn K S).isSome = true := h2
    rw [h2', h3] <;> rfl
  show (if (PySem.W.subIn K (.ref S) (.type "BaseException") == some true) = true then (if ((PySem.W.clsIn K S).isSome && PySem.W.typeIn K (.ref S) == some (.type "type")) = true then PySem.W.subIn K (.ref S) (.ref S) else none) else none) = some true
  rw [if_pos e1, if_pos e2]
  exact h4
end KS
namespace KS
open PySem PySem.Spec PyProof.Rows L2
/-! ### things of any kind, as is_plan and its law look at them -/
inductive Oth (K : PySem.W.Frag) (H : Hp) : V → String → Prop
  | non : Oth K H .non "NoneType"
  | bl (b : Bool) : Oth K H (.bl b) "bool"
  | int (i : Int) : Oth K H (.int i) "int"
  | str (x : Str) : Oth K H (.str x) "str"
  | lst {a : Addr} {xs : List V} : H a = some (.lst xs) → Oth K H (.ref a) "list"
  | dct {a : Addr} {kvs : List (Key × V)} : H a = some (.dK kvs) → Oth K H (.ref a) "dict"
  | tup {a : Addr} {xs : List V} : SqT K H a xs → Oth K H (.ref a) "tuple"
theorem Oth.ty {K : PySem.W.Frag} {H : Hp} {v : V} {t : String} (h : Oth K H v t) : TyX K H v (.type t) := by
  cases h with
  | non => exact .base .non
  | bl b => exact .base (.bl b)
  | int i => exact .base (.int i)
  | str x => exact .base (.str x)
  | lst e => exact .base (.lst e)
  | dct e => exact .base (.dK e)
  | tup e => exact tyx_tup e
/-- a number of a row or column (true), or a known other thing -/
def PlR (K : PySem.W.Frag) (H : Hp) (v : V) : Bool → Prop
  | true => ∃ i, v = .int i ∧ 0 ≤ i ∧ i ≤ 7
  | false => (∃ i, v = .int i ∧ ¬ (0 ≤ i ∧ i ≤ 7)) ∨ ∃ t, Oth K H v t ∧ t ≠ "int"
/-- an int between bounds (true), or a known other thing -/
def BwR (K : PySem.W.Frag) (H : Hp) (v : V) (lo hi : Int) : Bool → Prop
  | true => ∃ i, v = .int i ∧ lo ≤ i ∧ i ≤ hi
  | false => (∃ i, v = .int i ∧ ¬ (lo ≤ i ∧ i ≤ hi)) ∨ ∃ t, Oth K H v t ∧ t ≠ "int"
def spBetweenG (K : PySem.W.Frag) : Sp := fun vs H Q _ => ∃ (v : V) (lo hi : Int) (b : Bool), vs = [v, .int lo, .int hi] ∧ BwR K H v lo hi b ∧ Q (.bl b) H
theorem bw_of_pl {K : PySem.W.Frag} {H : Hp} {v : V} {b : Bool} (h : PlR K H v b) : BwR K H v 0 7 b := by
  cases b <;> exact h
/-- a cell, or a known other thing -/
def ElR (K : PySem.W.Frag) (H : Hp) (x : V) : Option Cell → Prop
  | some c => CellAt K H x c ∧ InGrid c
  | none => (∃ t, Oth K H x t ∧ t ≠ "tuple") ∨ (∃ t ys, x = .ref t ∧ SqT K H t ys ∧ ys.length ≠ 2) ∨
      ∃ t y0 y1 b0 b1, x = .ref t ∧ SqT K H t [y0, y1] ∧ PlR K H y0 b0 ∧ PlR K H y1 b1 ∧ (b0 && b1) = false
/-! ### what stays -/
/-! ### the promises -/
def spWholeG (K : PySem.W.Frag) : Sp := fun vs H Q _ => ∃ (v : V) (t : String), vs = [v] ∧ Oth K H v t ∧ Q (.bl (decide (t = "int"))) H
def spPlaceG (K : PySem.W.Frag) : Sp := fun vs H Q _ => ∃ (v : V) (b : Bool), vs = [v] ∧ PlR K H v b ∧ Q (.bl b) H
def spIsCellG (K : PySem.W.Frag) : Sp := fun vs H Q _ => ∃ (v : V) (o : Option Cell), vs = [v] ∧ ElR K H v o ∧ ∀ H', Same H H' → Q (.bl o.isSome) H'
/-- isinstance's answers -/
theorem kit_int {K : PySem.W.Frag} {H : Hp} {v : V} {t : String} (h : Oth K H v t) : PySem.W.kitOne K (.type t) (.type "int") = some (decide (t = "int" ∨ t = "bool")) := by
  cases h <;> exact kit_ty (by decide +kernel)
theorem kit_bool {K : PySem.W.Frag} {H : Hp} {v : V} {t : String} (h : Oth K H v t) : PySem.W.kitOne K (.type t) (.type "bool") = some (decide (t = "bool")) := by
  cases h <;> exact kit_ty (by decide +kernel)
theorem kit_tuple {K : PySem.W.Frag} {H : Hp} {v : V} {t : String} (h : Oth K H v t) : PySem.W.kitOne K (.type t) (.type "tuple") = some (decide (t = "tuple")) := by
  cases h <;> exact kit_ty (by decide +kernel)
end KS
namespace KS
open PySem PySem.Spec PyProof.Rows L2
end KS
namespace KS
open PySem PySem.Spec PyProof.Rows L2
section
variable {K : PySem.W.Frag} {σ : L2.St} {H : Hp} {Q : VK} {ta : TA}
theorem paired_take {α β : Type} {F : α → β → Prop} : ∀ {l₁ : List α} {l₂ : List β} (i : Nat), Paired F l₁ l₂ → Paired F (l₁.take i) (l₂.take i)
  | _, _, 0, _ => .nil
  | _, _, _ + 1, .nil => .nil
  | _, _, i + 1, .cons r t => .cons r (paired_take i t)
end
end KS
namespace KS
open PySem PySem.Spec PyProof.Rows L2
section
variable {K : PySem.W.Frag} {σ : L2.St} {H : Hp} {Q : VK} {ta : TA}
theorem catA_ok2 {a b : Addr} {xs ys : List V} (ha : SqT K H a xs) (hb : SqT K H b ys) (hl : xs.length + ys.length ≤ 64)
    (k : ∀ H' u, Same H H' → SqT K H' u (xs ++ ys) → Q (.ref u) H') : rCatA K (.ref a) (.ref b) H Q := by
  refine ⟨a, b, xs, ys, rfl, rfl, ha, hb, Nat.le_of_lt (small64 hl), fun e => ?_, fun _ e => ?_, fun _ _ p np => ?_⟩
  · subst e
    exact k H b (Same.refl _) hb
  · subst e
    exact k H a (Same.refl _) (by rw [List.append_nil]; exact ha)
  · exact k _ p (same_new np) (SqT.of upd_same)
theorem cut_to2 {xs : List V} {k : Nat} (h : k ≤ xs.length) : cutV xs none (some (k : Int)) = xs.take k := by
  unfold cutV
  rw [HT.sIx_none, HT.sIx_nat, Nat.min_eq_left h]
  simp
theorem cut_from2 {xs : List V} {k : Nat} (h : k ≤ xs.length) : cutV xs (some (k : Int)) none = xs.drop k := by
  unfold cutV
  rw [HT.sIx_none, HT.sIx_nat, Nat.min_eq_left h]
  exact List.take_of_length_le (by rw [List.length_drop]; exact Nat.le_refl _)
theorem slTo_ok2 {a : Addr} {xs : List V} {n : Nat} (ha : SqT K H a xs) (hn : n ≤ xs.length) (k : ∀ H' u, Same H H' → SqT K H' u (xs.take n) → Q (.ref u) H') : rSlA K (.ref a) none (some (n : Int)) H Q := by
  refine ⟨a, xs, rfl, ha, fun z => ?_, fun _ p np => ?_⟩
  · obtain ⟨_, z2⟩ := z
    rw [show HT.sIx xs.length xs.length (some (n : Int)) = min n xs.length from HT.sIx_nat _ _ n] at z2
    have e : n = xs.length := by omega
    refine k H a (Same.refl _) ?_
    rw [e, List.take_length]
    exact ha
  · refine k _ p (same_new np) (SqT.of ?_)
    rw [upd_same, cut_to2 hn]
theorem slFrom_ok2 {a : Addr} {xs : List V} {n : Nat} (ha : SqT K H a xs) (hn : n ≤ xs.length) (k : ∀ H' u, Same H H' → SqT K H' u (xs.drop n) → Q (.ref u) H') : rSlA K (.ref a) (some (n : Int)) none H Q := by
  refine ⟨a, xs, rfl, ha, fun z => ?_, fun _ p np => ?_⟩
  · obtain ⟨z1, _⟩ := z
    rw [show HT.sIx xs.length 0 (some (n : Int)) = min n xs.length from HT.sIx_nat _ _ n] at z1
    refine k H a (Same.refl _) ?_
    rcases Nat.eq_zero_or_pos n with e | e
    · subst e
      exact ha
    · have e2 : xs.length = 0 := by omega
      have e3 := List.eq_nil_of_length_eq_zero e2
      subst e3
      simpa using ha
  · refine k _ p (same_new np) (SqT.of ?_)
    rw [upd_same, cut_from2 hn]
end
end KS
namespace KS
open PySem PySem.Spec PyProof.Rows L2
/-- t.index(x), t a tuple of plain data, x plain data -/
def rIndexD (K : PySem.W.Frag) : V → List V → Hp → VK → Prop := fun x xs H Q => ∃ (y : V) (d : PyData) (ds : List PyData) (j : Nat) (z : PyData), xs = [y] ∧ Dp K H y d ∧ Dp K H x (.tuple ds) ∧ SeqAt.shaped d = true ∧ SeqAt.shaped (.tuple ds) = true ∧
  ds[j]? = some z ∧ PyData.eqv z d = true ∧ (∀ (m : Nat) (z' : PyData), m < j → ds[m]? = some z' → PyData.eqv z' d = false) ∧ Q (.int (j : Nat)) H
theorem mt_indexD {X : Cx} (hu : X.A.units + 65 < cLine) : MtR X "tuple.index" (rIndexD X.K) := by
  intro pins s σ H x xs v us Q I rx rs h
  obtain ⟨y, d, ds, j, z, rfl, hd, he, sd, se, hz, hzd, hno, q⟩ := h
  cases rs with
  | cons ry rt =>
    rename_i uy ut
    cases rt
    obtain ⟨as, r1⟩ := Dp.reads I d y _ hd ry
    obtain ⟨bs, r2⟩ := Dp.reads I (.tuple ds) x v he rx
    cases r2 with
    | @tuple a o vs n ds' as' h1 h2 h3 h4 =>
      obtain ⟨cls, dd, dt, sl⟩ := o
      simp only at h2 h3
      subst h2
      subst h3
      have hm := SeqAt.readsAll_map ds _ _ (SeqAt.canLay_of_shaped se) h4
      have hat : ∀ (m : Nat) (hm' : m < vs.size), ds[m]? = some (SeqAt.readOf s.heap vs[m]) := fun m hm' => by
        rw [← hm, List.getElem?_map, Array.getElem?_toList, Array.getElem?_eq_getElem hm']
        rfl
      have hsz : vs.size = ds.length := by
        rw [← hm, List.length_map]
        simp
      have hj : j < vs.size := by
        rw [hsz]
        exact (List.getElem?_eq_some_iff.mp hz).1
      refine call_meets PySem.F.slot_tuple_index ⟨_, h1, rfl⟩ PySem.F.entry_tuple_index (PySem.F.args_tuple_index_2 _ _)
        (TI.tuple_indexAt a vs n dd sl uy (fun y => PyData.eqv (SeqAt.readOf s.heap y) d) j hj ?_ ?_)
        ⟨h1, SeqAt.items_eqAt h4 r1 (SeqAt.canLay_of_shaped se) (SeqAt.canLay_of_shaped sd) ?_, ⟨.int (j : Nat), H, I.tok _, ⟨_, rfl⟩, q⟩⟩
      · have e := hat j hj
        rw [hz] at e
        show PyData.eqv (SeqAt.readOf s.heap vs[j]) d = true
        rw [← Option.some.inj e]
        exact hzd
      · intro m hm' hmj
        exact hno m _ hmj (hat m hm')
      · have := SeqAt.depth_of_shaped sd
        have h2 : min (PyData.depthAll ds) d.depth ≤ d.depth := Nat.min_le_right _ _
        omega
end KS
namespace KS
open PySem PySem.Spec PyProof.Rows L2
/-- a tuple of xs that is known to have no dict of its own -/
def TupN (H : Hp) (p : Addr) (xs : List V) : Prop := ∃ ob : Obj, H p = some (.frz ob (.tup xs)) ∧ ob.cls = .type "tuple" ∧ ob.dict = none
theorem TupN.sq {K : PySem.W.Frag} {H : Hp} {p : Addr} {xs : List V} (h : TupN H p xs) : SqT K H p xs := by
  obtain ⟨ob, e, _⟩ := h
  exact .inl (.inr ⟨ob, e⟩)
/-- tuple(list): the new tuple has no dict -/
def rTupFz (K : PySem.W.Frag) : List V → Hp → VK → Prop := fun xs H Q => ∃ p ys, xs = [.ref p] ∧ SqL K H p ys ∧ ∀ l ob, H l = none → ob.cls = Value.type "tuple" → ob.dict = none → Q (.ref l) (upd H l (.frz ob (.tup ys)))
theorem cr_tupFz {X : Cx} : CallR X (.type "tuple") (rTupFz X.K) := by
  rintro pins s σ H xs us Q I r ⟨p, ys, rfl, hq, q⟩
  obtain ⟨u, rfl, rx⟩ := vals1 r
  cases rx
  obtain ⟨its, r', pl, hz⟩ := I.list hq
  have hlen := r'.length
  refine call_tuple_list pl.isList (fun h' kp => ?_) (by simp only [List.size_toArray] <;> omega)
  have I1 : Inv X pins σ H { s with heap := h' } := I.kept (t' := s.toks) kp
  have new : ObjOk X.prog X.w (upd H h'.objs.size (.frz { cls := .type "tuple", data := .seq its.toArray } (.tup ys))) (h'.push { cls := .type "tuple", data := .seq its.toArray }) h'.objs.size (.frz { cls := .type "tuple", data := .seq its.toArray } (.tup ys)) :=
    ⟨Heap.get?_push_size _ rfl, hz, its, r', IsTup.new _ _⟩
  exact ⟨.ref h'.objs.size, _, I1.laid (t' := s.toks) (fun b o e => Heap.get?_push_of_some _ e) (Nat.le_refl _) new, rfl, q _ _ (I1.hok.fresh (Nat.le_refl _)) rfl rfl⟩
/-- t.m(..) of such a tuple -/
def tBMT (r : V → List V → Hp → VK → Prop) (to : TE) (t : TA) : TE := fun σ H Q => to σ H fun x H1 => (∃ p ys, x = .ref p ∧ TupN H1 p ys) ∧ t σ H1 fun xs H2 => r x xs H2 Q
theorem pe_bmT {X : Cx} {o e : Expr} {es : List Expr} {to : TE} {t : TA} {name : Str} {apos cpos : Pos} {id : String} {r : V → List V → Hp → VK → Prop} (pa : PlainAttrs "tuple") (slot : Slot "tuple" name id)
    (hty : typeOf (.builtin id) = pure (.type "method_descriptor")) (hm : MtR X id r) (ho : PE X o to) (ha : PA X (e :: es) t)
    (hbase : attributeBase o name X.env (eval o X.env) = eval o X.env := by rfl)
    (hfew : ((backTo cpos (starEach (e :: es) X.env)).all (fun x => !x.1) && (backToKw cpos (keywordEach [] X.env)).all (fun x => x.1.isSome) && decide ((e :: es).length + ([] : List Keyword).length + (if ([] : List Keyword).isEmpty then 0 else 1) < 30)) = true := by rfl)
    (hline : (apos.endLine == cpos.line) = true := by rfl) (hs : starEach (e :: es) X.env = (false, eval e X.env) :: starEach es X.env := by rfl) (hplain : (backTo cpos (starEach es X.env)).any (·.1) = false := by rfl) :
    PE X (.Call (.Attribute o name apos) (e :: es) [] cpos) (tBMT r to t) := by
  constructor
  intro pins s σ H Q I h
  refine wpAny_Call_method_late hbase hfew hline rfl (thn (ho.run pins s σ H _ I h) ?_)
  rintro v s1 ⟨x, H1, I1, r1, ⟨p, ys, rfl, ob, hp, hc, hd⟩, q1⟩
  cases r1
  have hob : s1.heap.get? p = some ob := (I1.hok p _ hp).1
  refine ⟨"tuple", id, pa, slot, hty, ⟨ob, hob, hc⟩, ?_, ?_⟩
  · intro a ea
    cases ea
    exact ⟨ob, hob, hd⟩
  have hA := ha.run cpos pins s1 σ H1 _ I1 q1
  rw [hs] at hA ⊢
  refine Calls.callWith_builtin (by show (false || (backTo cpos (starEach es X.env)).any (·.1)) = false; rw [hplain] <;> rfl) (Calls.evalArgs_plain (thn hA ?_))
  rintro us s2 ⟨vs, H2, I2, r2, q2⟩
  exact hm pins s2 σ H2 (.ref p) vs (.ref p) us Q I2 rfl r2 q2
end KS
namespace KS
open PySem PySem.Spec PyProof.Rows L2
/-! ### plans whose cells are tuples made at run time -/
def CellT (H : Hp) (x : V) (c : Cell) : Prop := ∃ t, x = .ref t ∧ H t = some (.tup [.int c.1, .int c.2])
abbrev CellsT (H : Hp) : List V → List Cell → Prop := Paired (CellT H)
/-- such tuples are kept -/
def KTt (H H' : Hp) : Prop := ∀ a xs, H a = some (.tup xs) → H' a = some (.tup xs)
section
variable {K : PySem.W.Frag} {H H1 H2 H' : Hp}
theorem KTt.trans (a : KTt H H1) (b : KTt H1 H2) : KTt H H2 := fun x xs h => b x xs (a x xs h)
theorem KTt.of_same (a : Same H H1) : KTt H H1 := fun _ _ h => a _ _ h
theorem KTt.of_keepX {p : Addr} (hp : PoolO (H p)) (a : KeepX p H H1) : KTt H H1 := fun x xs h => by
  obtain ⟨_, _, _, ep, _⟩ := hp
  exact a _ _ (fun q => by rw [q, ep] at h; cases h) h
theorem KTt.upd {e : Addr} {ys : List V} {o : HO} (h : H e = some (.lst ys)) : KTt H (upd H e o) := fun a xs q => by
  rw [upd_ne (ne_of q h (by intro z; cases z))]
  exact q
theorem cellsT_kt {xs : List V} {cs : List Cell} (k : KTt H H') (h : CellsT H xs cs) : CellsT H' xs cs := Paired.mono (fun _ _ ⟨t, e, q⟩ => ⟨t, e, k _ _ q⟩) h
theorem cellsT_at {xs : List V} {cs : List Cell} (h : CellsT H xs cs) : CellsAt K H xs cs := Paired.mono (fun _ _ ⟨t, e, q⟩ => ⟨t, e, SqT.of q⟩) h
end
def PlanT (K : PySem.W.Frag) (H : Hp) (a : Addr) (cs : List Cell) : Prop := ∃ xs, SqT K H a xs ∧ CellsT H xs cs
theorem PlanT.at {K : PySem.W.Frag} {H : Hp} {a : Addr} {cs : List Cell} (h : PlanT K H a cs) : PlanAt K H a cs := by
  obtain ⟨xs, h1, h2⟩ := h
  exact ⟨xs, h1, cellsT_at h2⟩
theorem PlanT.same {K : PySem.W.Frag} {H H' : Hp} {a : Addr} {cs : List Cell} (h : PlanT K H a cs) (s : Same H H') : PlanT K H' a cs := by
  obtain ⟨xs, h1, h2⟩ := h
  exact ⟨xs, same_seqT s h1, cellsT_kt (.of_same s) h2⟩
/-- where _law_plan stands behind its first loop -/
structure PlStT (K : PySem.W.Frag) (p : Addr) (H : Hp) (m mode wide high top left : Int) (σ : L2.St) (H' : Hp) : Prop where
  ex : ∃ (e : Addr) (xs : List V) (cs : List Cell) (y8 y9 y10 : Option V),
    σ = [some (.ref p), some (.int m), some (.int mode), some (.int wide), some (.int high), some (.int top), some (.int left), some (.ref e), y8, y9, y10, none, none] ∧
    H e = none ∧ e ≠ p ∧ H' e = some (.lst xs) ∧ CellsT H' xs cs ∧ Good cs ∧ cs.length ≤ 64
  kx : KeepX p H H'
  po : PoolO (H' p)
theorem filT_ok {K : PySem.W.Frag} {p : Addr} {H : Hp} {m mode wide high top left : Int} {tc : TT} {D : Ends} {σ : L2.St} {H' : Hp} (h : PlStT K p H m mode wide high top left σ H')
    (htc : ∀ (t : Addr) (c : Cell) (H2 : Hp) (R : Bool → Hp → Prop), SqT K H2 t [.int c.1, .int c.2] → PoolO (H2 p) → (∀ b H3, KeepX p H2 H3 → PoolO (H3 p) → R b H3) → tc (σ.set 12 (some (.ref t))) H2 R)
    (k : ∀ σ' H'', PlStT K p H m mode wide high top left σ' H'' → D.nx σ' H'') : tFil K tc D σ H' := by
  obtain ⟨⟨e, xs, cs, y8, y9, y10, rfl, he0, hep, he, hc, gd, hl⟩, kx, po⟩ := h
  have hlen := Paired.length hc
  refine ⟨_, rfl, e, rfl, ⟨_, SqL.of he⟩, fun d nd => ?_⟩
  have ned : e ≠ d := ne_of_none he nd
  have npd : p ≠ d := po.ne nd
  refine lc_list (K := K) (a := e) (xs := xs) (fun i H2 => ∃ (acc : List V) (cs' : List Cell), H2 d = some (.lst acc) ∧ CellsT H2 acc cs' ∧ cs'.Sublist (cs.take i) ∧
    KeepX p H H2 ∧ PoolO (H2 p) ∧ H2 e = some (.lst xs) ∧ CellsT H2 xs cs) ?_ ?_ ?_ ?_
  · have s1 := same_new (o := .lst []) nd
    refine ⟨[], [], upd_same, .nil, List.nil_sublist _, kx.trans (.of_same s1), po.same s1, s1 _ _ he, cellsT_kt (.of_same s1) hc⟩
  · rintro i H2 _ ⟨acc, cs', _, _, _, _, _, h6, _⟩
    exact SqL.of h6
  · rintro i x H2 hi ⟨acc, cs', h1, h2, h3, h4, h5, h6, h7⟩
    obtain ⟨c, hci, t, rfl, ht⟩ := paired_get h7 hi
    have hlt : i < cs.length := (List.getElem?_eq_some_iff.mp hci).1
    have tk : cs.take (i + 1) = cs.take i ++ [c] := by
      rw [List.take_add_one, hci]
      rfl
    refine ⟨rfl, htc t c H2 _ (SqT.of ht) h5 (fun b H3 k3 p3 => ?_)⟩
    have q3 : KTt H2 H3 := KTt.of_keepX h5 k3
    have hd3 : H3 d = some (.lst acc) := k3 _ _ (Ne.symm npd) h1
    have he3 : H3 e = some (.lst xs) := k3 _ _ hep h6
    have hal : acc.length ≤ 64 := by
      rw [Paired.length h2]
      exact Nat.le_trans h3.length_le (by rw [List.length_take]; omega)
    refine ite2 (fun _ => ?_) (fun _ => ?_)
    · refine ⟨_, rfl, acc, hd3, small64 hal, acc ++ [.ref t], cs' ++ [c], upd_same, ?_, ?_, ?_, ?_, ?_, ?_⟩
      · exact cellsT_kt (q3.trans (KTt.upd hd3)) (paired_append h2 (.cons ⟨t, rfl, ht⟩ .nil))
      · rw [tk]
        exact List.Sublist.append h3 (List.Sublist.refl _)
      · intro b o n e2
        rw [upd_ne (fun z => by
          subst z
          have q := kx b o n e2
          rw [nd] at q
          cases q)]
        exact k3 _ _ n (h4 _ _ n e2)
      · rw [upd_ne npd]
        exact p3
      · rw [upd_ne ned]
        exact he3
      · exact cellsT_kt (q3.trans (KTt.upd hd3)) h7
    · refine ⟨acc, cs', hd3, cellsT_kt q3 h2, ?_, h4.trans k3, p3, he3, cellsT_kt q3 h7⟩
      rw [tk]
      exact List.Sublist.trans h3 (List.sublist_append_left _ _)
  · rintro H2 ⟨acc, cs', h1, h2, h3, h4, h5, h6, h7⟩
    have h3' : cs'.Sublist cs := List.Sublist.trans h3 (List.take_sublist _ _)
    refine ⟨!acc.isEmpty, .inl ⟨acc, SqL.of h1, rfl⟩, ite2 (fun e1 => ?_) (fun e1 => ?_)⟩
    · refine k _ _ ⟨⟨d, acc, cs', y8, y9, y10, rfl, ?_, Ne.symm npd, h1, h2, ⟨gd.asc.sublist h3', fun c hc => gd.grid c (h3'.subset hc), ?_⟩, Nat.le_trans h3'.length_le hl⟩, h4, h5⟩
      · cases q : H d with
        | none => rfl
        | some o =>
          have z := kx d o (Ne.symm npd) q
          rw [nd] at z
          cases z
      · intro z
        subst z
        cases h2
        cases e1
    · exact ⟨_, rfl, k _ _ ⟨⟨e, xs, cs, y8, y9, y10, rfl, he0, hep, h6, h7, gd, hl⟩, h4, h5⟩⟩
end KS
namespace KS
open PySem PySem.Spec PyProof.Rows L2
/-- if mode == n: every = [spot for spot in every if ..] or every -/
theorem filT_if {K : PySem.W.Frag} {p : Addr} {H : Hp} {m mode wide high top left n : Int} {tc : TT} {D : Ends} {σ : L2.St} {H' : Hp} (h : PlStT K p H m mode wide high top left σ H')
    (htc : ∀ (t : Addr) (c : Cell) (H2 : Hp) (R : Bool → Hp → Prop), SqT K H2 t [.int c.1, .int c.2] → PoolO (H2 p) → (∀ b H3, KeepX p H2 H3 → PoolO (H3 p) → R b H3) → tc (σ.set 12 (some (.ref t))) H2 R)
    (k : ∀ σ' H'', PlStT K p H m mode wide high top left σ' H'' → D.nx σ' H'') : tIfS (tTest (tOp rEq (tVar 2) (tC (.int n)))) (tFil K tc) tNext D σ H' := by
  obtain ⟨e, xs, cs, y8, y9, y10, es, rest⟩ := h.ex
  refine ⟨.int mode, by rw [es]; rfl, rfl, _, rfl, ite2 (fun e => ?_) (fun e => ?_)⟩
  · exact filT_ok h htc k
  · exact k _ _ h
theorem drawT_test {K : PySem.W.Frag} {p : Addr} {H : Hp} {m mode wide high top left n : Int} {σ : L2.St} {H' : Hp} (h : PlStT K p H m mode wide high top left σ H') (n0 : 0 < n) (n1 : n < 1073741824)
    (t : Addr) (c : Cell) (H2 : Hp) (R : Bool → Hp → Prop) (ht : SqT K H2 t [.int c.1, .int c.2]) (po : PoolO (H2 p)) (k : ∀ b H3, KeepX p H2 H3 → PoolO (H3 p) → R b H3) :
    tTest (tOp (rI0 fun i j => .bl (decide (i > j))) (tDr (tC (.int n))) (tC (.int 0))) (σ.set 12 (some (.ref t))) H2 R := by
  obtain ⟨e, xs, cs, y8, y9, y10, es, rest⟩ := h.ex
  subst es
  exact ⟨_, rfl, p, n, rfl, po, n0, n1, fun H3 r k3 po3 r0 r1 => ⟨_, _, rfl, rfl, _, rfl, k _ _ k3 po3⟩⟩
end KS
namespace KS
open PySem PySem.Spec PyProof.Rows L2
theorem filT3_if {K : PySem.W.Frag} {p : Addr} {H : Hp} {m mode wide high top left : Int} {D : Ends} {σ : L2.St} {H' : Hp} (h : PlStT K p H m mode wide high top left σ H')
    (k : ∀ σ' H'', PlStT K p H m mode wide high top left σ' H'' → D.nx σ' H'') :
    tIfS (tTest (tOp rEq (tVar 2) (tC (.int 3)))) (tSeq (tAsg (tOp rAdd (tOp rAdd (tVar 5) (tVar 6)) (tDr (tC (.int 4)))) (gName 9))
      (tSeq (tAsg (tOp rSub (tOp rSub (tOp rAdd (tOp rAdd (tOp rAdd (tVar 5) (tVar 6)) (tVar 4)) (tVar 3)) (tC (.int 2))) (tDr (tC (.int 4)))) (gName 10))
      (tFil K (tTest (tChain rLe rLe (tVar 9) (tCB (rSumT K) (tCons (tVar 12) tNil)) (tVar 10)))))) tNext D σ H' := by
  obtain ⟨⟨e, xs, cs, y8, y9, y10, rfl, he0, hep, he, hc, gd, hl⟩, kx, po⟩ := id h
  refine ⟨_, rfl, rfl, _, rfl, ite2 (fun e => ?_) (fun e => ?_)⟩
  · refine ⟨_, rfl, _, rfl, _, _, rfl, rfl, _, rfl, p, 4, rfl, po, by decide, by decide, fun H1 a k1 po1 _ _ => ⟨_, _, rfl, rfl, ?_⟩⟩
    refine ⟨_, rfl, _, rfl, _, _, rfl, rfl, _, rfl, _, _, rfl, rfl, _, rfl, _, _, rfl, rfl, _, _, rfl, rfl, _, rfl, p, 4, rfl, po1, by decide, by decide, fun H2 b k2 po2 _ _ => ⟨_, _, rfl, rfl, ?_⟩⟩
    have k12 := k1.trans k2
    refine filT_ok (p := p) (H := H) (m := m) (mode := mode) (wide := wide) (high := high) (top := top) (left := left)
      ⟨⟨_, xs, cs, y8, _, _, rfl, he0, hep, k12 _ _ hep he, cellsT_kt (KTt.of_keepX po k12) hc, gd, hl⟩, kx.trans k12, po2⟩ (fun t c H3 R ht p3 kk => ?_) k
    refine ⟨_, rfl, _, rfl, t, [c.1, c.2], rfl, ht, _, _, rfl, rfl, _, rfl, ite2 (fun e1 => ?_) (fun e1 => ?_)⟩
    · exact ⟨_, rfl, _, _, rfl, rfl, _, rfl, kk _ _ (KeepX.refl _ _) p3⟩
    · exact ⟨_, rfl, kk _ _ (KeepX.refl _ _) p3⟩
  · exact k _ _ h
end KS
namespace KS
open PySem PySem.Spec PyProof.Rows L2
/-! ### programs: words, and repeats of steps -/
inductive Stp
  | w (l : List Bool)
  | r (n : Int) (b : List Stp)
mutual
def Stp.steps : Stp → Nat
  | .w _ => 1
  | .r _ b => 1 + stepsL b
def stepsL : List Stp → Nat
  | [] => 0
  | s :: b => s.steps + stepsL b
end
mutual
def Stp.nest : Stp → Nat
  | .w _ => 0
  | .r _ b => 1 + nestL b
def nestL : List Stp → Nat
  | [] => 0
  | s :: b => max s.nest (nestL b)
end
mutual
def Stp.ok : Stp → Prop
  | .w l => l ≠ [] ∧ l.length ≤ 400
  | .r n b => 1 ≤ n ∧ n ≤ 10 ^ 30 ∧ okL b
def okL : List Stp → Prop
  | [] => True
  | s :: b => s.ok ∧ okL b
end
theorem stepsL_app : ∀ a b : List Stp, stepsL (a ++ b) = stepsL a + stepsL b
  | [], b => by rw [List.nil_append]; simp only [stepsL]; omega
  | s :: a, b => by
    rw [List.cons_append]
    simp only [stepsL]
    rw [stepsL_app a b]
    omega
theorem nestL_app : ∀ a b : List Stp, nestL (a ++ b) = max (nestL a) (nestL b)
  | [], b => by rw [List.nil_append]; simp only [nestL]; omega
  | s :: a, b => by
    rw [List.cons_append]
    simp only [nestL]
    rw [nestL_app a b]
    omega
theorem okL_app : ∀ {a b : List Stp}, okL (a ++ b) ↔ okL a ∧ okL b
  | [], b => by rw [List.nil_append]; simp only [okL]; exact ⟨fun h => ⟨trivial, h⟩, fun h => h.2⟩
  | s :: a, b => by
    rw [List.cons_append]
    simp only [okL]
    rw [okL_app (a := a)]
    exact ⟨fun ⟨x, y, z⟩ => ⟨⟨x, y⟩, z⟩, fun ⟨⟨x, y⟩, z⟩ => ⟨x, y, z⟩⟩
theorem nest_mem : ∀ {b : List Stp} {s : Stp}, s ∈ b → s.nest ≤ nestL b
  | [], _, h => by cases h
  | x :: b, s, h => by
    simp only [nestL]
    rcases List.mem_cons.mp h with e | h
    · subst e
      omega
    · have := nest_mem h
      omega
theorem ok_mem : ∀ {b : List Stp} {s : Stp}, okL b → s ∈ b → s.ok
  | [], _, _, h => by cases h
  | x :: b, s, o, h => by
    simp only [okL] at o
    rcases List.mem_cons.mp h with e | h
    · subst e
      exact o.1
    · exact ok_mem o.2 h
theorem steps_pos (s : Stp) : 1 ≤ s.steps := by
  cases s with
  | w => simp only [Stp.steps]; omega
  | r => simp only [Stp.steps]; omega
/-! ### the counts are not too large -/
/-! ### multiplied, however large -/
end KS
namespace KS
open PySem PySem.Spec PyProof.Rows L2
/-! ### programs as they lie there -/
mutual
inductive StA (K : PySem.W.Frag) (H : Hp) : V → Stp → Prop
  | w (l : List Bool) : StA K H (.str (wS l)) (.w l)
  | r {t b : Addr} {n : Int} {xs : List V} {ss : List Stp} : SqT K H t [.str "repeat", .int n, .ref b] → SqT K H b xs → StsA K H xs ss → StA K H (.ref t) (.r n ss)
inductive StsA (K : PySem.W.Frag) (H : Hp) : List V → List Stp → Prop
  | nil : StsA K H [] []
  | cons {v : V} {s : Stp} {vs : List V} {ss : List Stp} : StA K H v s → StsA K H vs ss → StsA K H (v :: vs) (s :: ss)
end
mutual
theorem StA.kt {K : PySem.W.Frag} {H H' : Hp} (k : KT K H H') : ∀ {v : V} {s : Stp}, StA K H v s → StA K H' v s
  | _, _, .w l => .w l
  | _, _, .r h1 h2 h3 => .r (k _ _ h1) (k _ _ h2) (StsA.kt k h3)
theorem StsA.kt {K : PySem.W.Frag} {H H' : Hp} (k : KT K H H') : ∀ {vs : List V} {ss : List Stp}, StsA K H vs ss → StsA K H' vs ss
  | _, _, .nil => .nil
  | _, _, .cons h1 h2 => .cons (StA.kt k h1) (StsA.kt k h2)
end
theorem StsA.len {K : PySem.W.Frag} {H : Hp} : ∀ {vs : List V} {ss : List Stp}, StsA K H vs ss → vs.length = ss.length
  | _, _, .nil => rfl
  | _, _, .cons _ h => congrArg (· + 1) (StsA.len h)
theorem StsA.get {K : PySem.W.Frag} {H : Hp} : ∀ {vs : List V} {ss : List Stp}, StsA K H vs ss → ∀ {i : Nat} {v : V}, vs[i]? = some v → ∃ s, ss[i]? = some s ∧ StA K H v s
  | _, _, .nil, i, v, e => by cases e
  | _, _, .cons h1 h2, 0, v, e => by
    cases e
    exact ⟨_, rfl, h1⟩
  | _, _, .cons h1 h2, i + 1, v, e => StsA.get h2 e
theorem StsA.app {K : PySem.W.Frag} {H : Hp} : ∀ {vs ws : List V} {ss ts : List Stp}, StsA K H vs ss → StsA K H ws ts → StsA K H (vs ++ ws) (ss ++ ts)
  | _, _, _, _, .nil, h => h
  | _, _, _, _, .cons h1 h2, h => .cons h1 (StsA.app h2 h)
/-- a program: a tuple of steps -/
def PgA (K : PySem.W.Frag) (H : Hp) (t : Addr) (ss : List Stp) : Prop := ∃ xs, SqT K H t xs ∧ StsA K H xs ss
theorem PgA.kt {K : PySem.W.Frag} {H H' : Hp} (k : KT K H H') {t : Addr} {ss : List Stp} (h : PgA K H t ss) : PgA K H' t ss := by
  obtain ⟨xs, h1, h2⟩ := h
  exact ⟨xs, k _ _ h1, h2.kt k⟩
theorem stepsL_take {ss : List Stp} {i : Nat} {s : Stp} (h : ss[i]? = some s) : stepsL (ss.take (i + 1)) = stepsL (ss.take i) + s.steps ∧ stepsL (ss.take i) + s.steps ≤ stepsL ss := by
  have e : stepsL (ss.take (i + 1)) = stepsL (ss.take i) + s.steps := by
    rw [List.take_add_one, h, stepsL_app]
    show _ + stepsL [s] = _
    simp only [stepsL]
    omega
  refine ⟨e, ?_⟩
  rw [← e]
  have := stepsL_app (ss.take (i + 1)) (ss.drop (i + 1))
  rw [List.take_append_drop] at this
  omega
/-! ### letters counted -/
theorem wS_ne {l : List Bool} (h : l ≠ []) : V.bl (!decide (V.str (wS l) = V.str "")) = V.bl true := by
  have : V.str (wS l) ≠ V.str "" := fun e => by
    have e := V.str.inj e
    have e2 := wS_len l
    rw [e] at e2
    have e0 : ("" : Str).length = 0 := by decide +kernel
    rw [e0] at e2
    exact h (List.length_eq_zero_iff.mp e2.symm)
  rw [decide_eq_false this]
  rfl
/-! ### the promises -/
def spIsWordG : Sp := fun xs H Q _ => ∃ l : List Bool, xs = [.str (wS l)] ∧ l.length ≤ 400 ∧ ∀ H', Same H H' → Q (.bl true) H'
def spIsRep (K : PySem.W.Frag) : Sp := fun xs H Q _ => ∃ (t b : Addr) (n : Int) (ys : List V), xs = [.ref t] ∧ SqT K H t [.str "repeat", .int n, .ref b] ∧ SqT K H b ys ∧ 1 ≤ n ∧ n ≤ 10 ^ 30 ∧ Q (.bl true) H
def spCS (K : PySem.W.Frag) (m : Nat) : Sp := fun xs H Q _ => ∃ (v : V) (s : Stp) (d room : Int), xs = [v, .int d, .int room] ∧ StA K H v s ∧ s.ok ∧ s.nest ≤ m ∧ 1 ≤ d ∧ d + (s.nest : Nat) ≤ 5 ∧ (s.steps : Nat) ≤ room ∧ ∀ H', Same H H' → Q (.int (s.steps : Nat)) H'
def spCP (K : PySem.W.Frag) : Sp := fun xs H Q _ => ∃ (t : Addr) (ss : List Stp), xs = [.ref t] ∧ PgA K H t ss ∧ okL ss ∧ nestL ss ≤ 4 ∧ stepsL ss ≤ 60 ∧ ∀ H', Same H H' → Q .non H'
end KS
namespace KS
open PySem PySem.Spec PyProof.Rows L2
theorem pe_never {X : Cx} {e : Expr} : PE X e (fun _ _ _ => False) := ⟨fun _ _ _ _ _ _ h => h.elim⟩
/-! ### small programs, spelt out -/
mutual
def Stp.sm : Stp → Prop
  | .w l => l.length ≤ 6
  | .r n b => n ≤ 3 ∧ smL b
def smL : List Stp → Prop
  | [] => True
  | s :: b => s.sm ∧ smL b
end
mutual
def Stp.spell : Stp → List Bool
  | .w l => l
  | .r n b => (List.replicate n.toNat (spellL b)).flatten
def spellL : List Stp → List Bool
  | [] => []
  | s :: b => s.spell ++ spellL b
end
theorem spellL_app : ∀ a b : List Stp, spellL (a ++ b) = spellL a ++ spellL b
  | [], b => rfl
  | s :: a, b => by
    rw [List.cons_append]
    simp only [spellL]
    rw [spellL_app a b, List.append_assoc]
theorem spellL_take {ss : List Stp} {i : Nat} {s : Stp} (h : ss[i]? = some s) : spellL (ss.take (i + 1)) = spellL (ss.take i) ++ s.spell := by
  rw [List.take_add_one, h, spellL_app]
  show _ ++ spellL [s] = _
  simp only [spellL, List.append_nil]
/-! ### large numbers can be shown -/
/-! ### the promises -/
end KS
/-! sheets: what lies there, edits as mathematics -/
namespace KS
open PySem PySem.Spec PyProof.Rows L2
def isTp : HO → Bool
  | .tup _ => true
  | .frz _ (.tup _) => true
  | _ => false
/-- tuples of the picture stay -/
def KN (H H' : Hp) : Prop := ∀ a o, H a = some o → isTp o = true → H' a = some o
theorem KN.trans {H H1 H2 : Hp} (a : KN H H1) (b : KN H1 H2) : KN H H2 := fun x o e t => b x o (a x o e t) t
theorem KN.of_same {H H1 : Hp} (a : Same H H1) : KN H H1 := fun x o e _ => a x o e
theorem KN.ofX {H H1 : Hp} {p : Addr} (k : KeepX p H H1) (h : ∀ o, H p = some o → isTp o = false) : KN H H1 := fun x o e t => by
  by_cases z : x = p
  · subst z
    rw [h o e] at t
    cases t
  · exact k x o z e
theorem KN.of_pool {H H1 : Hp} {p : Addr} (po : PoolO (H p)) (k : KeepX p H H1) : KN H H1 := .ofX k fun o e => by
  obtain ⟨_, _, _, ep, _⟩ := po
  rw [ep] at e
  cases e
  rfl
theorem KN.of_ins {H H1 : Hp} {a C dx : Addr} {fs : List (Str × V)} (h : H a = some (.ins C dx fs)) (k : KeepX a H H1) : KN H H1 := .ofX k fun o e => by
  rw [h] at e
  cases e
  rfl
theorem KN.upd {H : Hp} {e : Addr} {o o' : HO} (h : H e = some o) (t : isTp o = false) : KN H (upd H e o') := fun a u q z => by
  by_cases c : a = e
  · subst c
    rw [h] at q
    cases q
    rw [t] at z
    cases z
  · rw [upd_ne c]
    exact q
theorem KN.kt {K : PySem.W.Frag} {H H' : Hp} (k : KN H H') : KT K H H' := fun a xs q => by
  rcases q with (q | ⟨ob, q⟩) | q
  · exact .inl (.inl (k _ _ q rfl))
  · exact .inl (.inr ⟨ob, k _ _ q rfl⟩)
  · exact .inr q
theorem KN.sq {K : PySem.W.Frag} {H H' : Hp} (k : KN H H') {a : Addr} {xs : List V} (h : SqT K H a xs) : SqT K H' a xs := k.kt a xs h
theorem KN.t {H H' : Hp} (k : KN H H') : KTt H H' := fun a xs q => k _ _ q rfl
theorem TupN.kn {H H' : Hp} {p : Addr} {xs : List V} (k : KN H H') (h : TupN H p xs) : TupN H' p xs := by
  obtain ⟨ob, e, c⟩ := h
  exact ⟨ob, k _ _ e rfl, c⟩
theorem PlanT.kn {K : PySem.W.Frag} {H H' : Hp} {a : Addr} {cs : List Cell} (k : KN H H') (h : PlanT K H a cs) : PlanT K H' a cs := by
  obtain ⟨xs, h1, h2⟩ := h
  exact ⟨xs, k.sq h1, cellsT_kt k.t h2⟩
/-- a plan whose tuple's methods can be called -/
def PlanN (H : Hp) (a : Addr) (cs : List Cell) : Prop := ∃ xs, TupN H a xs ∧ CellsT H xs cs
theorem PlanN.t {K : PySem.W.Frag} {H : Hp} {a : Addr} {cs : List Cell} (h : PlanN H a cs) : PlanT K H a cs := by
  obtain ⟨xs, h1, h2⟩ := h
  exact ⟨xs, h1.sq, h2⟩
theorem PlanN.kn {H H' : Hp} {a : Addr} {cs : List Cell} (k : KN H H') (h : PlanN H a cs) : PlanN H' a cs := by
  obtain ⟨xs, h1, h2⟩ := h
  exact ⟨xs, h1.kn k, cellsT_kt k.t h2⟩
/-! ### an instance's fields -/
def shF (p q t : Addr) (b : Bool) : List (Str × V) := [("cells", .ref p), ("numbers", .ref q), ("past", .ref t), ("busy", .bl b)]
theorem sne1 : (("numbers" : Str) == "cells") = false := by decide +kernel
theorem sne2 : (("past" : Str) == "cells") = false := by decide +kernel
theorem sne3 : (("past" : Str) == "numbers") = false := by decide +kernel
theorem sne4 : (("busy" : Str) == "cells") = false := by decide +kernel
theorem sne5 : (("busy" : Str) == "numbers") = false := by decide +kernel
theorem sne6 : (("busy" : Str) == "past") = false := by decide +kernel
theorem seq1 (x : Str) : (x == x) = true := beq_self_eq_true x
section
variable {p q t q' t' : Addr} {b b' : Bool}
theorem shF_cells : (shF p q t b).lookup ("cells" : Str) = some (V.ref p) := by
  unfold shF
  rw [List.lookup_cons, seq1]
theorem shF_numbers : (shF p q t b).lookup ("numbers" : Str) = some (V.ref q) := by
  unfold shF
  rw [List.lookup_cons, sne1, List.lookup_cons, seq1]
theorem shF_past : (shF p q t b).lookup ("past" : Str) = some (V.ref t) := by
  unfold shF
  rw [List.lookup_cons, sne2, List.lookup_cons, sne3, List.lookup_cons, seq1]
theorem shF_busy : (shF p q t b).lookup ("busy" : Str) = some (V.bl b) := by
  unfold shF
  rw [List.lookup_cons, sne4, List.lookup_cons, sne5, List.lookup_cons, sne6, List.lookup_cons, seq1]
theorem shF_no {m : Str} (h1 : (m == "cells") = false) (h2 : (m == "numbers") = false) (h3 : (m == "past") = false) (h4 : (m == "busy") = false) : (shF p q t b).lookup m = none := by
  unfold shF
  rw [List.lookup_cons, h1, List.lookup_cons, h2, List.lookup_cons, h3, List.lookup_cons, h4]
  rfl
theorem putF_yes {f : Str} {v w : V} {fs : List (Str × V)} : putF f v ((f, w) :: fs) = (f, v) :: fs := by
  show (if f = f then _ else _) = _
  rw [if_pos rfl]
theorem putF_no {f g : Str} {v w : V} {fs : List (Str × V)} (h : (f == g) = false) : putF f v ((g, w) :: fs) = (g, w) :: putF f v fs := by
  show (if g = f then _ else _) = _
  rw [if_neg (fun e => by subst e; rw [seq1] at h; cases h)]
theorem shF_new : putF "busy" (.bl b) (putF "past" (.ref t) (putF "numbers" (.ref q) (putF "cells" (.ref p) []))) = shF p q t b := by
  have e0 : putF "cells" (V.ref p) [] = [(("cells" : Str), V.ref p)] := rfl
  have e1 : putF "numbers" (V.ref q) [] = [(("numbers" : Str), V.ref q)] := rfl
  have e2 : putF "past" (V.ref t) [] = [(("past" : Str), V.ref t)] := rfl
  have e3 : putF "busy" (V.bl b) [] = [(("busy" : Str), V.bl b)] := rfl
  rw [e0, putF_no sne1, e1, putF_no sne2, putF_no sne3, e2, putF_no sne4, putF_no sne5, putF_no sne6, e3]
  rfl
theorem shF_setN : putF "numbers" (.ref q') (shF p q t b) = shF p q' t b := by
  unfold shF
  rw [putF_no sne1, putF_yes]
theorem shF_setP : putF "past" (.ref t') (shF p q t b) = shF p q t' b := by
  unfold shF
  rw [putF_no sne2, putF_no sne3, putF_yes]
theorem shF_setB : putF "busy" (.bl b') (shF p q t b) = shF p q t b' := by
  unfold shF
  rw [putF_no sne4, putF_no sne5, putF_no sne6, putF_yes]
theorem shF_len : (shF p q t b).length < 1000 := by
  show 4 < 1000
  decide
end
/-! ### edits -/
inductive Ed
  | arr (ss : List Stp)
  | set (i : Nat) (v : Int)
  | swap (i j : Nat)
/-- the values behind an edit -/
def Ed.beh (cs : List Cell) (vs : List Int) : Ed → List Int
  | .arr ss => aft cs (spellL ss) vs
  | .set i v => vs.set i v
  | .swap i j => (vs.set i (vs.getD j 0)).set j (vs.getD i 0)
def Ed.ok (n : Nat) (vs : List Int) : Ed → Prop
  | .arr ss => okL ss ∧ nestL ss ≤ 4 ∧ stepsL ss ≤ 60
  | .set i v => i < n ∧ 1 ≤ v ∧ v ≤ 9999 ∧ ∀ j, j < n → j ≠ i → vs.getD j 0 ≠ v
  | .swap i j => i < n ∧ j < n
/-- an edit as it lies there -/
inductive EdA (K : PySem.W.Frag) (H : Hp) (cs : List Cell) : V → Ed → Prop
  | arr {t g : Addr} {ss : List Stp} : SqT K H t [.str "arrange", .ref g] → PgA K H g ss → EdA K H cs (.ref t) (.arr ss)
  | set {t : Addr} {x : V} {c : Cell} {i : Nat} {v : Int} : SqT K H t [.str "set", x, .int v] → CellT H x c → cs[i]? = some c → EdA K H cs (.ref t) (.set i v)
  | swap {t : Addr} {x y : V} {c d : Cell} {i j : Nat} : SqT K H t [.str "swap", x, y] → CellT H x c → CellT H y d → cs[i]? = some c → cs[j]? = some d → EdA K H cs (.ref t) (.swap i j)
theorem cellT_kn {H H' : Hp} (k : KN H H') {x : V} {c : Cell} (h : CellT H x c) : CellT H' x c := by
  obtain ⟨t, e, q⟩ := h
  exact ⟨t, e, k _ _ q rfl⟩
theorem EdA.kn {K : PySem.W.Frag} {H H' : Hp} (k : KN H H') {cs : List Cell} {x : V} {e : Ed} (h : EdA K H cs x e) : EdA K H' cs x e := by
  cases h with
  | arr h1 h2 => exact .arr (k.sq h1) (h2.kt k.kt)
  | set h1 h2 h3 => exact .set (k.sq h1) (cellT_kn k h2) h3
  | swap h1 h2 h3 h4 h5 => exact .swap (k.sq h1) (cellT_kn k h2) (cellT_kn k h3) h4 h5
def PastA (K : PySem.W.Frag) (H : Hp) (cs : List Cell) : List V → List (Ed × List Int) → Prop := Paired fun x pr => ∃ (u : Addr) (e : V) (q : Addr), x = .ref u ∧ SqT K H u [e, .ref q] ∧ EdA K H cs e pr.1 ∧ SqT K H q (pr.2.map V.int)
theorem PastA.kn {K : PySem.W.Frag} {H H' : Hp} (k : KN H H') {cs : List Cell} {xs : List V} {ps : List (Ed × List Int)} (h : PastA K H cs xs ps) : PastA K H' cs xs ps :=
  Paired.mono (fun _ _ ⟨u, e, q, ex, h1, h2, h3⟩ => ⟨u, e, q, ex, k.sq h1, h2.kn k, k.sq h3⟩) h
/-- a sheet: its plan at p, its filling at q, its past at t -/
structure ShP (K : PySem.W.Frag) (C : Addr) (H : Hp) (a p q t : Addr) (b : Bool) (cs : List Cell) (vs : List Int) (ps : List (Ed × List Int)) : Prop where
  ob : ∃ dx, H a = some (.ins C dx (shF p q t b))
  pl : PlanT K H p cs
  fl : SqT K H q (vs.map V.int)
  pt : ∃ xs, SqT K H t xs ∧ PastA K H cs xs ps
  gd : Good cs
  l24 : cs.length ≤ 24
  v9 : Vals9 cs.length vs
section
variable {K : PySem.W.Frag} {C : Addr} {H H' : Hp} {a p q t : Addr} {b : Bool} {cs : List Cell} {vs : List Int} {ps : List (Ed × List Int)}
theorem ShP.keep (h : ShP K C H a p q t b cs vs ps) (k : KN H H') (e : ∀ o, H a = some o → H' a = some o) : ShP K C H' a p q t b cs vs ps := by
  obtain ⟨⟨dx, h1⟩, h2, h3, ⟨xs, h4, h5⟩, h6, h7, h8⟩ := h
  exact ⟨⟨dx, e _ h1⟩, h2.kn k, k.sq h3, ⟨xs, k.sq h4, h5.kn k⟩, h6, h7, h8⟩
theorem ShP.same (h : ShP K C H a p q t b cs vs ps) (s : Same H H') : ShP K C H' a p q t b cs vs ps := h.keep (.of_same s) fun o e => s _ _ e
end
/-! ### what an edit makes of the values -/
theorem getD_mem {vs : List Int} {i : Nat} (h : i < vs.length) : vs.getD i 0 = vs[i] := by
  rw [List.getD_eq_getElem?_getD, List.getElem?_eq_getElem h]
  rfl
theorem swap_perm {vs : List Int} {i j : Nat} (hi : i < vs.length) (hj : j < vs.length) : ((vs.set i (vs.getD j 0)).set j (vs.getD i 0)).Perm vs := by
  rw [getD_mem hi, getD_mem hj]
  refine List.perm_iff_count.mpr fun x => ?_
  rw [List.count_set (by rw [List.length_set]; exact hj), List.count_set hi]
  by_cases e : i = j
  · subst e
    rw [List.getElem_set_self]
    have p := List.count_pos_iff.mpr (List.getElem_mem hi)
    by_cases c : vs[i] = x
    · subst c
      simp
    · simp [c]
  · rw [List.getElem_set_ne e]
    have pi := List.count_pos_iff.mpr (List.getElem_mem hi)
    have pj := List.count_pos_iff.mpr (List.getElem_mem hj)
    by_cases c1 : vs[i] = x
    · by_cases c2 : vs[j] = x
      · subst c1
        simp [c2]
      · subst c1
        simp [c2]
    · by_cases c2 : vs[j] = x
      · subst c2
        simp [c1]
      · simp [c1, c2]
theorem beh9 {cs : List Cell} {vs : List Int} {e : Ed} (v9 : Vals9 cs.length vs) (ok : e.ok cs.length vs) : Vals9 cs.length (e.beh cs vs) := by
  cases e with
  | arr ss => exact aft9 _ v9
  | set i v =>
    obtain ⟨hi, h1, h2, h3⟩ := ok
    have hl := v9.len
    refine ⟨by show (vs.set i v).length = _; rw [List.length_set, hl], ?_, ?_⟩
    · show (vs.set i v).Nodup
      rw [List.nodup_iff_pairwise_ne, List.pairwise_iff_getElem]
      intro x y hx hy hxy
      rw [List.length_set] at hx hy
      rw [List.getElem_set, List.getElem_set]
      have nd := (List.nodup_iff_pairwise_ne.mp v9.nd)
      rw [List.pairwise_iff_getElem] at nd
      by_cases c1 : i = x
      · by_cases c2 : i = y
        · omega
        · rw [if_pos c1, if_neg c2]
          have := h3 y (by omega) (by omega)
          rw [getD_mem hy] at this
          exact fun z => this z.symm
      · by_cases c2 : i = y
        · rw [if_neg c1, if_pos c2]
          have := h3 x (by omega) (by omega)
          rw [getD_mem hx] at this
          exact this
        · rw [if_neg c1, if_neg c2]
          exact nd x y hx hy hxy
    · intro z hz
      rcases List.mem_or_eq_of_mem_set hz with h | h
      · exact v9.bd z h
      · subst h
        exact ⟨h1, h2⟩
  | swap i j =>
    obtain ⟨hi, hj⟩ := ok
    exact v9.perm (swap_perm (by rw [v9.len]; exact hi) (by rw [v9.len]; exact hj)).symm
end KS
namespace KS
/-! ### words squeezed and cut lead to the same -/
def sqF (acc : List Bool) (b : Bool) : List Bool := if acc.getLast? = some b then acc else acc ++ [b]
def sq (w : List Bool) : List Bool := w.foldl sqF []
theorem sq_snoc (w : List Bool) (b : Bool) : sq (w ++ [b]) = sqF (sq w) b := by
  unfold sq
  rw [List.foldl_append]
  rfl
theorem sqF_last (acc : List Bool) (b : Bool) : (sqF acc b).getLast? = some b := by
  unfold sqF
  split
  · assumption
  · simp
def EqW (cs : List Cell) (a b : List Bool) : Prop := ∀ vs : List Int, vs.length = cs.length → aft cs a vs = aft cs b vs
theorem EqW.refl (cs : List Cell) (a : List Bool) : EqW cs a a := fun _ _ => rfl
theorem EqW.symm {cs : List Cell} {a b : List Bool} (h : EqW cs a b) : EqW cs b a := fun vs e => (h vs e).symm
theorem EqW.trans {cs : List Cell} {a b c : List Bool} (h : EqW cs a b) (k : EqW cs b c) : EqW cs a c := fun vs e => (h vs e).trans (k vs e)
theorem EqW.app {cs : List Cell} {a b c d : List Bool} (h : EqW cs a b) (k : EqW cs c d) : EqW cs (a ++ c) (b ++ d) := fun vs e => by
  rw [aft_app, aft_app, h vs e, k _ (by rw [aft_len]; exact e)]
theorem sqF_eq {cs : List Cell} (acc : List Bool) (b : Bool) : EqW cs (sqF acc b) (acc ++ [b]) := by
  unfold sqF
  split
  · rename_i h
    intro vs e
    have hne : acc ≠ [] := fun z => by rw [z] at h; cases h
    have e1 := List.dropLast_concat_getLast hne
    have e2 : acc.getLast hne = b := by
      rw [List.getLast?_eq_getLast hne] at h
      exact Option.some.inj h
    rw [e2] at e1
    rw [← e1, aft_more, aft_more, aft_more, srt_twice (by rw [aft_len]; exact e)]
  · exact EqW.refl _ _
theorem fold_eq {cs : List Cell} : ∀ (w acc : List Bool), EqW cs (w.foldl sqF acc) (acc ++ w)
  | [], acc => by
    rw [List.append_nil]
    exact EqW.refl _ _
  | b :: w, acc => by
    have h1 := fold_eq (cs := cs) w (sqF acc b)
    have h2 : EqW cs (sqF acc b ++ w) ((acc ++ [b]) ++ w) := (sqF_eq acc b).app (EqW.refl _ _)
    have e : (acc ++ [b]) ++ w = acc ++ b :: w := by rw [List.append_assoc]; rfl
    rw [e] at h2
    exact h1.trans h2
theorem sq_eq {cs : List Cell} (w : List Bool) : EqW cs (sq w) w := fold_eq w []
theorem fold_len : ∀ (w acc : List Bool), (w.foldl sqF acc).length ≤ acc.length + w.length
  | [], acc => Nat.le_refl _
  | b :: w, acc => by
    have h := fold_len w (sqF acc b)
    have h2 : (sqF acc b).length ≤ acc.length + 1 := by
      unfold sqF
      split
      · omega
      · rw [List.length_append]
        exact Nat.le_refl _
    rw [List.length_cons]
    show (w.foldl sqF (sqF acc b)).length ≤ _
    omega
theorem sq_len (w : List Bool) : (sq w).length ≤ w.length := by
  have := fold_len w []
  show (w.foldl sqF []).length ≤ _
  simpa using this
/-! ### alternating words -/
theorem turns_last (b : Bool) (n : Nat) : (turns b (n + 1)).getLast? = some (kindAt b n) := by
  rw [turns_succ]
  simp
theorem sqF_turns (b c : Bool) (n : Nat) : sqF (turns b n) c = if n = 0 then turns c 1 else if c = kindAt b n then turns b (n + 1) else turns b n := by
  cases n with
  | zero => rfl
  | succ n =>
    have e0 : (if n + 1 = 0 then turns c 1 else if c = kindAt b (n + 1) then turns b (n + 1 + 1) else turns b (n + 1)) = (if c = kindAt b (n + 1) then turns b (n + 1 + 1) else turns b (n + 1)) := if_neg (Nat.succ_ne_zero n)
    rw [e0]
    unfold sqF
    rw [turns_last]
    by_cases h : c = kindAt b (n + 1)
    · have h2 : ¬ some (kindAt b n) = some c := fun z => by
        have z := Option.some.inj z
        rw [h, kindAt_succ] at z
        cases hk : kindAt b n <;> rw [hk] at z <;> cases z
      rw [if_pos h, if_neg h2, turns_succ b (n + 1), h]
    · have h2 : some (kindAt b n) = some c := by
        rw [kindAt_succ] at h
        congr 1
        cases hk : kindAt b n <;> rw [hk] at h <;> cases c <;> simp_all
      rw [if_neg h, if_pos h2]
theorem sqF_alt {acc : List Bool} (h : ∃ b n, acc = turns b n) (c : Bool) : ∃ b n, sqF acc c = turns b n := by
  obtain ⟨b, n, rfl⟩ := h
  rw [sqF_turns]
  split
  · exact ⟨_, _, rfl⟩
  · split
    · exact ⟨_, _, rfl⟩
    · exact ⟨_, _, rfl⟩
theorem fold_alt : ∀ (w : List Bool) {acc : List Bool}, (∃ b n, acc = turns b n) → ∃ b n, w.foldl sqF acc = turns b n
  | [], _, h => h
  | c :: w, _, h => fold_alt w (sqF_alt h c)
theorem sq_alt (w : List Bool) : ∃ b n, sq w = turns b n := fold_alt w ⟨true, 0, rfl⟩
theorem fold_go : ∀ (m : Nat) (b : Bool) (k : Nat) (c : Bool), c = kindAt b k → (turns c m).foldl sqF (turns b k) = turns b (k + m)
  | 0, b, k, c, _ => rfl
  | m + 1, b, k, c, h => by
    show (turns (!c) m).foldl sqF (sqF (turns b k) c) = turns b (k + (m + 1))
    rw [sqF_turns]
    have e : k + (m + 1) = (k + 1) + m := by omega
    rw [e]
    by_cases z : k = 0
    · subst z
      rw [if_pos rfl]
      have hc : c = b := h
      subst hc
      exact fold_go m c 1 (!c) (by rw [kindAt_succ]; rfl)
    · rw [if_neg z, if_pos h]
      exact fold_go m b (k + 1) (!c) (by rw [kindAt_succ, ← h])
/-- a word that alternates, time after time -/
theorem rep_alt (b : Bool) {m : Nat} (hm : 2 ≤ m) : ∀ e : Nat, ∃ k, (m - 1) * e ≤ k ∧ sq ((List.replicate e (turns b m)).flatten) = turns b k
  | 0 => ⟨0, by omega, rfl⟩
  | e + 1 => by
    obtain ⟨k, h1, h2⟩ := rep_alt b hm e
    have hx : (List.replicate (e + 1) (turns b m)).flatten = (List.replicate e (turns b m)).flatten ++ turns b m := by
      rw [List.replicate_succ', List.flatten_append]
      simp
    have hf : sq ((List.replicate (e + 1) (turns b m)).flatten) = (turns b m).foldl sqF (turns b k) := by
      rw [hx]
      unfold sq at h2 ⊢
      rw [List.foldl_append, h2]
    rw [hf]
    have hs : (m - 1) * (e + 1) = (m - 1) * e + (m - 1) := Nat.mul_succ _ _
    by_cases c : b = kindAt b k
    · exact ⟨k + m, by omega, fold_go m b k b c⟩
    · obtain ⟨m', rfl⟩ : ∃ m', m = m' + 1 := ⟨m - 1, by omega⟩
      refine ⟨k + m', by omega, ?_⟩
      show (turns (!b) m').foldl sqF (sqF (turns b k) b) = turns b (k + m')
      have k0 : k ≠ 0 := fun z => c (by rw [z]; rfl)
      rw [sqF_turns, if_neg k0, if_neg c]
      refine fold_go m' b k (!b) ?_
      cases hk : kindAt b k <;> rw [hk] at c <;> cases b <;> simp_all
/-! ### four hundred letters are enough -/
theorem least {P : Nat → Bool} : ∀ n, P n = true → ∃ k, k ≤ n ∧ P k = true ∧ ∀ m, m < k → P m = false := by
  intro n
  induction n using Nat.strongRecOn with
  | _ n ih =>
    intro h
    by_cases c : ∃ m, m < n ∧ P m = true
    · obtain ⟨m, hm, pm⟩ := c
      obtain ⟨k, k1, k2, k3⟩ := ih m hm pm
      exact ⟨k, by omega, k2, k3⟩
    · refine ⟨n, Nat.le_refl _, h, fun m hm => ?_⟩
      cases e : P m with
      | false => rfl
      | true => exact absurd ⟨m, hm, e⟩ c
theorem rest_ex {cs : List Cell} : ∀ (f : Nat) (b : Bool) (vs : List Int), vs.length = cs.length → fuel cs b vs ≤ f → ∃ n, settled cs (stat cs b vs n) = true
  | f, b, vs, hl, hf => by
    by_cases c : settled cs vs = true
    · exact ⟨0, c⟩
    · have c' : settled cs vs = false := by simpa using c
      have lt := fuel_lt (k := b) hl c'
      match f, hf with
      | 0, hf => omega
      | f + 1, hf =>
        obtain ⟨n, hn⟩ := rest_ex f (!b) (srt b cs vs) (by rw [srt_len]; exact hl) (by omega)
        exact ⟨n + 1, hn⟩
theorem settles {cs : List Cell} (hc : cs.length ≤ 24) (b : Bool) {vs : List Int} (hl : vs.length = cs.length) {n : Nat} (hn : 277 ≤ n) : settled cs (stat cs b vs n) = true := by
  obtain ⟨m, hm⟩ := rest_ex (fuel cs b vs) b vs hl (Nat.le_refl _)
  obtain ⟨k, k1, k2, k3⟩ := least (P := fun i => settled cs (stat cs b vs i)) m hm
  have rk : k ≤ 277 := rest_le hl hc ⟨k2, k3⟩
  have e : turns b n = turns b k ++ (turns b n).drop k := by
    rw [← turns_take k n b (by omega), List.take_append_drop]
  have : stat cs b vs n = stat cs b vs k := by
    unfold stat at k2 ⊢
    rw [e, aft_app]
    exact aft_settled (by rw [aft_len]; exact hl) k2 _
  rw [this]
  exact k2
theorem cut_eq {cs : List Cell} (hc : cs.length ≤ 24) {w : List Bool} (h : ∃ b n, w = turns b n) : EqW cs (w.take 400) w := by
  obtain ⟨b, n, rfl⟩ := h
  intro vs hl
  by_cases c : n ≤ 400
  · rw [List.take_of_length_le (by rw [turns_len]; exact c)]
  · have e := List.take_append_drop 400 (turns b n)
    rw [turns_take 400 n b (by omega)] at e ⊢
    rw [← e, aft_app]
    exact (aft_settled (vs := stat cs b vs 400) (by rw [stat_len]; exact hl) (settles hc b hl (by omega)) _).symm
theorem long_settled {cs : List Cell} (hc : cs.length ≤ 24) {w : List Bool} {b : Bool} {k : Nat} (h : sq w = turns b k) (hk : 277 ≤ k) (m : List Bool) : EqW cs (w ++ m) w := fun vs hl => by
  have e := sq_eq (cs := cs) w vs hl
  rw [aft_app]
  refine aft_settled (by rw [aft_len]; exact hl) ?_ m
  rw [← e, h]
  exact settles hc b hl hk
/-! ### repeated -/
def rpN (w : List Bool) (n : Nat) : List Bool := if w.length < 2 then w else (List.replicate (min n (400 / (w.length - 1) + 1)) w).flatten
theorem rep_one {cs : List Cell} (b : Bool) : ∀ n : Nat, 1 ≤ n → EqW cs ((List.replicate n [b]).flatten) [b]
  | 1, _ => EqW.refl _ _
  | n + 2, _ => by
    have ih := rep_one (cs := cs) b (n + 1) (by omega)
    have e : (List.replicate (n + 2) [b]).flatten = [b] ++ (List.replicate (n + 1) [b]).flatten := by
      rw [List.replicate_succ, List.flatten_cons]
    rw [e]
    have h : EqW cs ([b] ++ (List.replicate (n + 1) [b]).flatten) ([b] ++ [b]) := (EqW.refl _ _).app ih
    refine h.trans fun vs hl => ?_
    show srt b cs (srt b cs vs) = srt b cs vs
    exact srt_twice hl
theorem rp_eq {cs : List Cell} (hc : cs.length ≤ 24) {w : List Bool} (h : ∃ b m, w = turns b m) {n : Nat} (hn : 1 ≤ n) : EqW cs (rpN w n) ((List.replicate n w).flatten) := by
  obtain ⟨b, m, rfl⟩ := h
  unfold rpN
  rw [turns_len]
  by_cases c : m < 2
  · rw [if_pos c]
    have : m = 0 ∨ m = 1 := by omega
    rcases this with z | z <;> subst z
    · have : ∀ k : Nat, (List.replicate k (turns b 0)).flatten = [] := fun k => by
        induction k with
        | zero => rfl
        | succ k ih => rw [List.replicate_succ, List.flatten_cons, ih]; rfl
      rw [this]
      exact EqW.refl _ _
    · exact (rep_one b n hn).symm
  · rw [if_neg c]
    by_cases d : n ≤ 400 / (m - 1) + 1
    · rw [Nat.min_eq_left d]
      exact EqW.refl _ _
    · rw [Nat.min_eq_right (by omega)]
      obtain ⟨k, k1, k2⟩ := rep_alt b (m := m) (by omega) (400 / (m - 1) + 1)
      have hk : 277 ≤ k := by
        have h1 := Nat.div_add_mod 400 (m - 1)
        have h2 := Nat.mod_lt 400 (show 0 < m - 1 by omega)
        rw [Nat.mul_succ] at k1
        omega
      have e : (List.replicate n (turns b m)).flatten = (List.replicate (400 / (m - 1) + 1) (turns b m)).flatten ++ (List.replicate (n - (400 / (m - 1) + 1)) (turns b m)).flatten := by
        rw [← List.flatten_append, List.replicate_append_replicate]
        congr 2
        omega
      rw [e]
      exact (long_settled hc k2 hk _).symm
theorem rep_congr {cs : List Cell} {a b : List Bool} (h : EqW cs a b) : ∀ n : Nat, EqW cs ((List.replicate n a).flatten) ((List.replicate n b).flatten)
  | 0 => EqW.refl _ _
  | n + 1 => by
    rw [List.replicate_succ, List.replicate_succ, List.flatten_cons, List.flatten_cons]
    exact h.app (rep_congr h n)
/-! ### a program's flat word -/
mutual
def Stp.fl : Stp → List Bool
  | .w l => l
  | .r n b => rpN (flL b []) n.toNat
def flL : List Stp → List Bool → List Bool
  | [], acc => acc
  | s :: b, acc => flL b ((sq (acc ++ s.fl)).take 400)
end
theorem take_alt {w : List Bool} (h : ∃ b n, w = turns b n) (k : Nat) : ∃ b n, w.take k = turns b n := by
  obtain ⟨b, n, rfl⟩ := h
  by_cases c : k ≤ n
  · exact ⟨b, k, turns_take k n b c⟩
  · exact ⟨b, n, List.take_of_length_le (by rw [turns_len]; omega)⟩
mutual
theorem fl_eq {cs : List Cell} (hc : cs.length ≤ 24) : ∀ s : Stp, s.ok → EqW cs s.fl s.spell
  | .w l, _ => by
    simp only [Stp.fl, Stp.spell]
    exact EqW.refl _ _
  | .r n b, h => by
    simp only [Stp.ok] at h
    simp only [Stp.fl, Stp.spell]
    obtain ⟨h1, h2⟩ := flL_eq hc b [] h.2.2 ⟨true, 0, rfl⟩
    rw [List.nil_append] at h1
    exact (rp_eq hc h2 (by omega)).trans (rep_congr h1 _)
theorem flL_eq {cs : List Cell} (hc : cs.length ≤ 24) : ∀ (b : List Stp) (acc : List Bool), okL b → (∃ x n, acc = turns x n) → EqW cs (flL b acc) (acc ++ spellL b) ∧ ∃ x n, flL b acc = turns x n
  | [], acc, _, h => by
    simp only [flL, spellL, List.append_nil]
    exact ⟨EqW.refl _ _, h⟩
  | s :: b, acc, o, h => by
    simp only [okL] at o
    simp only [flL, spellL]
    have a1 : ∃ x n, (sq (acc ++ s.fl)).take 400 = turns x n := take_alt (sq_alt _) 400
    obtain ⟨i1, i2⟩ := flL_eq hc b _ o.2 a1
    refine ⟨?_, i2⟩
    have e1 : EqW cs ((sq (acc ++ s.fl)).take 400) (acc ++ s.spell) := ((cut_eq hc (sq_alt _)).trans (sq_eq _)).trans ((EqW.refl _ acc).app (fl_eq hc s o.1))
    have e2 := e1.app (EqW.refl cs (spellL b))
    rw [List.append_assoc] at e2
    exact i1.trans e2
end
theorem flL_len : ∀ (b : List Stp) (acc : List Bool), acc.length ≤ 400 → (flL b acc).length ≤ 400
  | [], acc, h => by
    simp only [flL]
    exact h
  | s :: b, acc, _ => by
    simp only [flL]
    refine flL_len b _ ?_
    rw [List.length_take]
    omega
end KS
namespace KS
open PySem PySem.Spec PyProof.Rows L2
def topS (i : Nat) : Stmt := PySem.Challenge.pw_keepsort_k67_do_all_and_watch.main.body.getD i (.Pass ⟨0, 0, 0, 0⟩)
abbrev sCell : Stmt := topS 66
abbrev sPool : Stmt := topS 67
abbrev sDraw : Stmt := topS 68
theorem scCell : FnScope ["_law_script", "_law_k", "_law_state", "_law_number"] ["_law_script", "_law_k"] (defScope sCell) := ⟨rfl, rfl, rfl, by decide +kernel, rfl, by decide +kernel, by decide +kernel⟩
theorem scPool : FnScope ["_law_number", "_law_digits"] ["_law_number"] (defScope sPool) := ⟨rfl, rfl, rfl, by decide +kernel, rfl, by decide +kernel, by decide +kernel⟩
theorem scDraw : FnScope ["_law_pool_here", "_law_most", "_law_state", "_law_digit"] ["_law_pool_here", "_law_most"] (defScope sDraw) := ⟨rfl, rfl, rfl, by decide +kernel, rfl, by decide +kernel, by decide +kernel⟩
section
variable {P : Program} {w : World} {K : PySem.W.Frag} {mg : Str → Option Value} {base : Heap}
theorem ok_cell {f : Addr} {fd : FuncData} (F : Fun K "_law_cell" "_law_cell" sCell f fd) (ml : mg "len" = none) : FnOk P w K mg base CX0 1 f fd ["_law_script", "_law_k"] (spCell K) := by
  refine F.ok scCell (fun vs H Q E h => ?_) (fun cdv A outer s H vs Q E hr h => ?_)
  · obtain ⟨a, ns, k, rfl, _⟩ := h
    rfl
  · obtain ⟨a, ns, k, rfl, hS, hk, q⟩ := h
    refine ⟨_, pss_cons (ps_if (pt_cmpR op_lt (pv 1) (pe_callB call_len_seq (by rfl) ml PySem.boot_len (pa_cons (pv 0) pa_nil)) (nomark _))
        (pss_one (ps_ret (pe_ix ix_list (pv 0) (pv 1) (fun _ _ => rfl)))) pss_nil)
      (pss_cons (ps_set (i := 2) scCell.nd rfl (.inl rfl) (pe_op op_mod (pe_op op_mul pe_int (pe_op op_add (pe_op op_add (pe_op op_mul (pv 1) (pv 1)) (pe_op op_mul pe_int (pv 1))) pe_int)) pe_int))
      (pss_cons (ps_for PassesOwn.never rfl (pi_list (pe_slice sl_list (pv 0) po_none (po_some pe_int))) (pg_name (i := 3) scCell.nd rfl (.inl rfl))
        (pss_one (ps_set (i := 2) scCell.nd rfl (.inl rfl) (pe_op op_mod (pe_op op_add (pe_op op_mul (pv 2) pe_int) (pv 3)) pe_int))))
      (pss_one (ps_ret (pv 2))))), ?_⟩
    refine ⟨_, rfl, _, rfl, a, ns.map V.int, rfl, .inl hS, _, _, rfl, rfl, _, rfl, ite2 (fun e => ?_) (fun e => ?_)⟩
    · have e0 : (k : Int) < ((ns.map V.int).length : Int) := of_decide_eq_true e
      rw [List.length_map] at e0
      have hj : k < ns.length := by omega
      refine ⟨_, rfl, _, rfl, a, _, _, .int ns[k], rfl, rfl, hS, atI_nat (j := k) ?_, q H _ (Same.refl H)⟩
      rw [List.getElem?_map, List.getElem?_eq_getElem hj]
      rfl
    · refine ⟨_, rfl, _, rfl, _, _, rfl, rfl, .inl ⟨by omega, by omega⟩, _, rfl, _, _, rfl, rfl, .inl ⟨by omega, by omega⟩, _, _, rfl, rfl, _, _, rfl, rfl, _, _, rfl, rfl, .inl ⟨by omega, by omega⟩, _, _, rfl, rfl, by show (0 : Int) < 2147483249; decide, ?_⟩
      refine ⟨_, rfl, 3, rfl, a, _, rfl, hS, fun c nc => ?_⟩
      have s1 := same_new (o := .lst (cutV (ns.map V.int) none (some 3))) nc
      have hc : SqL K (upd H c (.lst (cutV (ns.map V.int) none (some 3)))) c (cutV (ns.map V.int) none (some 3)) := SqL.of upd_same
      refine ⟨c, rfl, ⟨_, hc⟩, for_list (K := K) (a := c) (xs := cutV (ns.map V.int) none (some 3)) (fun i σ H' => ∃ (st : Int) (y : Option V), σ = [some (.ref a), some (.int k), some (.int st), y] ∧ 0 ≤ st ∧ st < 2147483249 ∧ H' = upd H c (.lst (cutV (ns.map V.int) none (some 3)))) ?_ ?_ ?_ ?_⟩
      · have b := int_mod_bd (60013 * ((k : Int) * k + 5 * k + 3)) (m := 2147483249) (by decide)
        exact ⟨_, none, rfl, b.1, b.2, rfl⟩
      · rintro i σ H' _ ⟨st, y, rfl, _, _, rfl⟩
        exact hc
      · rintro i x σ H' hi ⟨st, y, rfl, h0, h1, rfl⟩
        have hm : x ∈ ns.map V.int := by
          have := List.mem_of_getElem? hi
          unfold cutV at this
          exact List.mem_of_mem_drop (List.mem_of_mem_take this)
        obtain ⟨n, _, rfl⟩ := List.mem_map.mp hm
        have b := int_mod_bd (st * 41221 + n) (m := 2147483249) (by decide)
        refine ⟨_, rfl, _, _, rfl, rfl, .inl ⟨by omega, by omega⟩, _, rfl, _, _, rfl, rfl, _, _, rfl, rfl, by show (0 : Int) < 2147483249; decide, ?_⟩
        exact ⟨_, some (.int n), rfl, b.1, b.2, rfl⟩
      · rintro σ H' ⟨st, y, rfl, h0, h1, rfl⟩
        exact ⟨_, rfl, q _ _ s1⟩
theorem ok_pool {f : Addr} {fd : FuncData} (F : Fun K "_law_pool" "_law_pool" sPool f fd) (ma : mg "abs" = none) : FnOk P w K mg base CX0 1 f fd ["_law_number"] spPool := by
  refine F.ok scPool (fun vs H Q E h => ?_) (fun cdv A outer s H vs Q E hr h => ?_)
  · obtain ⟨n, rfl, _⟩ := h
    rfl
  · obtain ⟨n, rfl, q⟩ := h
    refine ⟨_, pss_cons (ps_set (i := 1) scPool.nd rfl (.inl rfl) (pe_ifExp (PW.pt (pw_or (pt_cmpR op_lt (pv 0) pe_int (nomark _)) (pw_or1 (pt_cmpR op_ge (pv 0) (pe_op op_pow pe_int pe_int) (nomark _)))))
        (pe_callB call_abs (by rfl) ma (by decide +kernel) (pa_cons (pv 0) pa_nil)) pe_int))
      (pss_one (ps_ret (pe_lst (pa_cons (pe_op op_mod (pv 0) pe_int) (pa_cons (pv 1) (pa_cons pe_int pa_nil)))))), ?_⟩
    have b := int_mod_bd n (m := 2147483249) (by decide)
    have fin : ∀ d : Int, 0 ≤ d → tRet (tLst (tCons (tOp (rI (fun _ j => 0 < j) fun i j => .int (i % j)) (tVar 0) (tC (.int 2147483249))) (tCons (tVar 1) (tCons (tC (.int 0)) tNil)))) { nx := fun _ H' => Q .non H', rt := Q } [some (.int n), some (.int d)] H := fun d hd => by
      refine ⟨_, rfl, _, _, rfl, rfl, by show (0 : Int) < 2147483249; decide, _, rfl, (by show 3 ≤ sizeLine; decide), fun p np => ?_⟩
      exact q _ _ (same_new np) np ⟨_, _, _, upd_same, b.1, b.2, hd⟩
    refine ⟨_, rfl, _, _, rfl, rfl, _, rfl, ite2 (fun e => ?_) (fun e => ?_)⟩
    · have e0 : n < 0 := of_decide_eq_true e
      refine iteT ⟨_, rfl, n, rfl, ?_⟩
      rw [if_pos e0]
      exact fin _ (by omega)
    · refine ⟨_, rfl, _, _, rfl, rfl, ⟨by decide, by decide, by decide⟩, _, _, rfl, rfl, _, rfl, ite2 (fun e1 => ?_) (fun e1 => ?_)⟩
      · have e0 : ¬ n < 0 := fun z => e (decide_eq_true z)
        refine ⟨_, rfl, n, rfl, ?_⟩
        rw [if_neg e0]
        exact fin _ (by omega)
      · exact fin _ (by omega)
theorem ok_draw {f : Addr} {fd : FuncData} (F : Fun K "_law_draw" "_law_draw" sDraw f fd) (md : mg "divmod" = none) : FnOk P w K mg base CX0 1 f fd ["_law_pool_here", "_law_most"] spDraw := by
  refine F.ok scDraw (fun vs H Q E h => ?_) (fun cdv A outer s H vs Q E hr h => ?_)
  · obtain ⟨p, m, rfl, _⟩ := h
    rfl
  · obtain ⟨p, m, rfl, ⟨a, b, c, hp, a0, a1, b0⟩, m0, m1, q⟩ := h
    refine ⟨_, pss_cons (ps_asg (pe_op op_add (pe_ix ix_list (pv 0) pe_int (fun _ _ => rfl)) pe_int) (pg_sub (pv 0) pe_int set_list))
      (pss_cons (ps_set (i := 2) scDraw.nd rfl (.inl rfl) (pe_ix ix_list (pv 0) pe_int (fun _ _ => rfl)))
      (pss_cons (ps_asg (pe_op op_mod (pe_op op_add (pe_op op_mul (pv 2) (pe_op op_add (pe_op op_mod (pv 2) pe_int) pe_int)) (pe_op op_mul pe_int (pe_ix ix_list (pv 0) pe_int (fun _ _ => rfl)))) pe_int) (pg_sub (pv 0) pe_int set_list))
      (pss_cons (ps_if (pt_cmpR op_gt (pe_ix ix_list (pv 0) pe_int (fun _ _ => rfl)) pe_int (nomark _))
        (pss_cons (ps_asg (pe_callB call_divmod (by rfl) md (by decide +kernel) (pa_cons (pe_ix ix_list (pv 0) pe_int (fun _ _ => rfl)) (pa_cons (pv 1) pa_nil)))
            (pg_tup (by rfl) (pgs_cons (pg_sub (pv 0) pe_int set_list) (pgs_cons (pg_name (i := 3) scDraw.nd rfl (.inl rfl)) pgs_nil))))
          (pss_one (ps_ret (pv 3)))) pss_nil)
      (pss_one (ps_ret (pe_op op_mod (pe_op op_fdiv (pe_ix ix_list (pv 0) pe_int (fun _ _ => rfl)) pe_int) (pv 1))))))), ?_⟩
    -- pool[2] = pool[2] + 1
    refine ⟨_, rfl, p, _, 2, .int c, rfl, rfl, SqL.of hp, rfl, _, _, rfl, rfl, _, rfl, p, _, 2, 2, rfl, rfl, hp, rfl, ?_⟩
    refine ⟨_, rfl, p, _, 0, .int a, rfl, rfl, SqL.of upd_same, rfl, ?_⟩
    have bm := int_mod_bd a (m := 50021) (by decide)
    refine ⟨_, rfl, _, rfl, _, _, rfl, rfl, by show (0 : Int) < 50021; decide, _, _, rfl, rfl, _, _, rfl, rfl, .inl ⟨by omega, by omega⟩, _, rfl, p, _, 2, .int (c + 1), rfl, rfl, SqL.of upd_same, rfl, _, _, rfl, rfl, .inl ⟨by decide, by decide⟩, _, _, rfl, rfl, _, _, rfl, rfl, by show (0 : Int) < 2147483249; decide, ?_⟩
    refine ⟨_, rfl, p, _, 0, 0, rfl, rfl, upd_same, rfl, ?_⟩
    have bz := int_mod_bd (a * (a % 50021 + 30011) + 80021 * (c + 1)) (m := 2147483249) (by decide)
    rw [upd_upd]
    show _
    refine ⟨_, rfl, p, _, 1, .int b, rfl, rfl, SqL.of upd_same, rfl, _, _, rfl, rfl, _, rfl, ite2 (fun e => ?_) (fun e => ?_)⟩
    · refine ⟨_, rfl, p, _, 1, .int b, rfl, rfl, SqL.of upd_same, rfl, _, rfl, b, m, rfl, ⟨m0, m1⟩, fun t nt => ?_⟩
      have npt : p ≠ t := ne_of_none upd_same nt
      refine ⟨t, _, rfl, SqT.of upd_same, rfl, _, _, rfl, ?_⟩
      refine ⟨_, rfl, p, _, 1, 1, rfl, rfl, by rw [upd_ne npt]; exact upd_same, rfl, _, [], rfl, rfl, ?_⟩
      have br := int_mod_bd b m0
      refine ⟨_, rfl, q _ _ (fun x o n e => ?_) ⟨_, _, _, upd_same, bz.1, bz.2, Int.ediv_nonneg b0 (by omega)⟩ br.1 br.2⟩
      rw [upd_ne n, upd_ne, upd_ne n]
      · exact e
      · intro z
        rw [z] at e
        rw [upd_ne (Ne.symm npt)] at nt
        rw [nt] at e
        cases e
    · refine ⟨_, rfl, p, _, 0, .int ((a * (a % 50021 + 30011) + 80021 * (c + 1)) % 2147483249), rfl, rfl, SqL.of upd_same, rfl, _, _, rfl, rfl, ⟨by decide, by decide⟩, _, rfl, _, _, rfl, rfl, m0, ?_⟩
      have br := int_mod_bd ((a * (a % 50021 + 30011) + 80021 * (c + 1)) % 2147483249 / 64) m0
      exact q _ _ keepX_upd ⟨_, _, _, upd_same, bz.1, bz.2, b0⟩ br.1 br.2
end
end KS
namespace KS
open PySem PySem.Spec PyProof.Rows L2
abbrev sWhole : Stmt := topS 23
abbrev sBetween : Stmt := topS 24
abbrev sPlace : Stmt := topS 25
abbrev sIsCell : Stmt := topS 26
abbrev sCheck : Stmt := topS 27
theorem scWhole : FnScope ["value"] ["value"] (defScope sWhole) := ⟨rfl, rfl, rfl, by decide +kernel, rfl, by decide +kernel, by decide +kernel⟩
theorem scBetween : FnScope ["value", "least", "most"] ["value", "least", "most"] (defScope sBetween) := ⟨rfl, rfl, rfl, by decide +kernel, rfl, by decide +kernel, by decide +kernel⟩
theorem scPlace : FnScope ["value"] ["value"] (defScope sPlace) := ⟨rfl, rfl, rfl, by decide +kernel, rfl, by decide +kernel, by decide +kernel⟩
theorem scIsCell : FnScope ["value"] ["value"] (defScope sIsCell) := ⟨rfl, rfl, rfl, by decide +kernel, rfl, by decide +kernel, by decide +kernel⟩
theorem scCheck : FnScope ["plan", "index", "cell"] ["plan"] (defScope sCheck) := ⟨rfl, rfl, rfl, by decide +kernel, rfl, by decide +kernel, by decide +kernel⟩
section
variable {P : Program} {w : World} {K : PySem.W.Frag} {mg : Str → Option Value} {base : Heap}
theorem ok_whole {f : Addr} {fd : FuncData} (F : Fun K "is_whole" "is_whole" sWhole f fd) (mi : mg "isinstance" = none) (mI : mg "int" = none) (mB : mg "bool" = none) : FnOk P w K mg base CX0 1 f fd ["value"] spWhole := by
  refine F.ok scWhole (fun vs H Q E h => ?_) (fun cdv A outer s H vs Q E hr h => ?_)
  · obtain ⟨i, rfl, _⟩ := h
    rfl
  · obtain ⟨i, rfl, q⟩ := h
    refine ⟨_, pss_one (ps_ret (pe_and (pe_callB call_isi (by rfl) mi (by decide +kernel) (pa_cons (pv 0) (pa_cons (pe_bltn (v := .ty "int") (by rfl) mI (by decide +kernel) rfl) pa_nil)))
      (pe_one (pe_not (pe_callB call_isi (by rfl) mi (by decide +kernel) (pa_cons (pv 0) (pa_cons (pe_bltn (v := .ty "bool") (by rfl) mB (by decide +kernel) rfl) pa_nil))))))), ?_⟩
    refine ⟨_, rfl, _, _, _, _, true, rfl, .ty "int", .base (.int i), kit_ty (by decide +kernel), true, rfl, ?_⟩
    refine ⟨_, rfl, _, _, _, _, false, rfl, .ty "bool", .base (.int i), kit_ty (by decide +kernel), false, rfl, ?_⟩
    exact q
theorem ok_between {f fW : Addr} {fd fdW : FuncData} (F : Fun K "is_between" "is_between" sBetween f fd) (GW : FnOk P w K mg base CX0 1 fW fdW ["value"] spWhole) (bW : Binds K fdW ["value"] []) (gW : mg "is_whole" = some (.ref fW)) (kW : PySem.W.keepIn K (.ref fW) = true) :
    FnOk P w K mg base CX0 2 f fd ["value", "least", "most"] spBetween := by
  refine F.ok scBetween (fun vs H Q E h => ?_) (fun cdv A outer s H vs Q E hr h => ?_)
  · obtain ⟨i, lo, hi, rfl, _⟩ := h
    rfl
  · obtain ⟨i, lo, hi, rfl, h1, h2, q⟩ := h
    refine ⟨_, pss_one (ps_ret (pe_and (pe_call GW hr (by rfl) gW kW bW .nil pass0 (pa_cons (pv 0) pa_nil)) (pe_one (pe_chain op_le op_le (pv 1) (pv 0) (pv 2))))), ?_⟩
    refine ⟨_, rfl, i, rfl, true, rfl, ?_⟩
    refine ⟨_, rfl, _, rfl, _, _, rfl, rfl, true, bl_true h1, ?_⟩
    refine ⟨_, rfl, _, _, rfl, rfl, ?_⟩
    show Q (V.bl (decide (i ≤ hi))) H
    rw [bl_true h2]
    exact q
theorem ok_place {f fB : Addr} {fd fdB : FuncData} {t : Tok} (F : Fun K "is_place" "is_place" sPlace f fd) (GB : FnOk P w K mg base CX0 2 fB fdB ["value", "least", "most"] spBetween) (bB : Binds K fdB ["value", "least", "most"] []) (gB : mg "is_between" = some (.ref fB)) (kB : PySem.W.keepIn K (.ref fB) = true)
    (mM : mg "MOST_INDEX" = some (.int 7 t)) : FnOk P w K mg base CX0 3 f fd ["value"] spPlace := by
  refine F.ok scPlace (fun vs H Q E h => ?_) (fun cdv A outer s H vs Q E hr h => ?_)
  · obtain ⟨i, rfl, _⟩ := h
    rfl
  · obtain ⟨i, rfl, hp, q⟩ := h
    refine ⟨_, pss_one (ps_ret (pe_call GB hr (by rfl) gB kB bB .nil pass0 (pa_cons (pv 0) (pa_cons pe_int (pa_cons (pe_glob (v := .int 7) (by rfl) mM ⟨_, rfl⟩) pa_nil))))), ?_⟩
    exact ⟨_, rfl, i, 0, 7, rfl, hp.1, hp.2, q⟩
theorem ok_isCell {f fP : Addr} {fd fdP : FuncData} (F : Fun K "is_cell" "is_cell" sIsCell f fd) (GP : FnOk P w K mg base CX0 3 fP fdP ["value"] spPlace) (bP : Binds K fdP ["value"] []) (gP : mg "is_place" = some (.ref fP)) (kP : PySem.W.keepIn K (.ref fP) = true)
    (mi : mg "isinstance" = none) (mT : mg "tuple" = none) (ml : mg "len" = none) : FnOk P w K mg base CX0 4 f fd ["value"] (spIsCell K) := by
  refine F.ok scIsCell (fun vs H Q E h => ?_) (fun cdv A outer s H vs Q E hr h => ?_)
  · obtain ⟨a, c, rfl, _⟩ := h
    rfl
  · obtain ⟨a, c, rfl, ht, hg, q⟩ := h
    refine ⟨_, pss_one (ps_ret (pe_and (pe_callB call_isi (by rfl) mi (by decide +kernel) (pa_cons (pv 0) (pa_cons (pe_bltn (v := .ty "tuple") (by rfl) mT (by decide +kernel) rfl) pa_nil)))
      (pe_and (pe_cmpR op_eq (pe_callB call_len_seq (by rfl) ml PySem.boot_len (pa_cons (pv 0) pa_nil)) pe_int (nomark _))
      (pe_and (pe_call GP hr (by rfl) gP kP bP .nil pass0 (pa_cons (pe_ix ix_tup (pv 0) pe_int (fun _ _ => rfl)) pa_nil))
      (pe_one (pe_call GP hr (by rfl) gP kP bP .nil pass0 (pa_cons (pe_ix ix_tup (pv 0) pe_int (fun _ _ => rfl)) pa_nil))))))), ?_⟩
    refine ⟨_, rfl, _, _, _, _, true, rfl, .ty "tuple", tyx_tup ht, kit_ty (by decide +kernel), true, rfl, ?_⟩
    refine ⟨_, rfl, a, _, rfl, .inr ht, rfl, true, rfl, ?_⟩
    refine ⟨_, rfl, a, _, 0, .int c.1, rfl, rfl, ht, rfl, c.1, rfl, ⟨hg.1, hg.2.1⟩, true, rfl, ?_⟩
    exact ⟨_, rfl, a, _, 1, .int c.2, rfl, rfl, ht, rfl, c.2, rfl, ⟨hg.2.2.1, hg.2.2.2⟩, q⟩
theorem ok_check {f fI : Addr} {fd fdI : FuncData} {t : Tok} (F : Fun K "check_plan" "check_plan" sCheck f fd) (GI : FnOk P w K mg base CX0 4 fI fdI ["value"] (spIsCell K)) (bI : Binds K fdI ["value"] []) (gI : mg "is_cell" = some (.ref fI)) (kI : PySem.W.keepIn K (.ref fI) = true)
    (mi : mg "isinstance" = none) (mT : mg "tuple" = none) (ml : mg "len" = none) (me : mg "enumerate" = none) (mM : mg "MOST_CELLS" = some (.int 24 t)) : FnOk P w K mg base CX0 5 f fd ["plan"] (spCheck K) := by
  refine F.ok scCheck (fun vs H Q E h => ?_) (fun cdv A outer s H vs Q E hr h => ?_)
  · obtain ⟨a, c, rfl, _⟩ := h
    rfl
  · obtain ⟨a, cs, rfl, ⟨xs, hx, hc⟩, gd, hl, q⟩ := h
    have nd := scCheck.nd
    refine ⟨_, pss_cons (ps_if (PW.pt (pw_or (pt_not (pt_val (pe_callB call_isi (by rfl) mi (by decide +kernel) (pa_cons (pv 0) (pa_cons (pe_bltn (v := .ty "tuple") (by rfl) mT (by decide +kernel) rfl) pa_nil)))))
          (pw_or1 (pt_not (pt_chain op_le op_le pe_int (pe_callB call_len_seq (by rfl) ml PySem.boot_len (pa_cons (pv 0) pa_nil)) (pe_glob (v := .int 24) (by rfl) mM ⟨_, rfl⟩))))))
        (pss_one ps_never) pss_nil)
      (pss_one (ps_for PassesOwn.never rfl (pi_enumT (by rfl) me (pa_cons (pv 0) pa_nil)) (pg_tup (by rfl) (pgs_cons (pg_name (i := 1) nd rfl (.inl rfl)) (pgs_cons (pg_name (i := 2) nd rfl (.inl rfl)) pgs_nil)))
        (pss_cons (ps_if (pt_not (pt_val (pe_call GI hr (by rfl) gI kI bI .nil pass0 (pa_cons (pv 2) pa_nil)))) (pss_one ps_never) pss_nil)
        (pss_one (ps_if (PW.pt (pw_and (pt_cmpR op_gt (pv 1) pe_int (nomark _)) (pw_and1 (pt_cmpR (op_leT hr.units0) (pv 2) (pe_ix ix_tup (pv 0) (pe_op op_sub (pv 1) pe_int) (fun _ _ => rfl)) (nomark _))))) (pss_one ps_never) pss_nil))))), ?_⟩
    have hlen := Paired.length hc
    have h1 : 1 ≤ xs.length := by
      rcases Nat.eq_zero_or_pos cs.length with z | z
      · exact absurd (List.eq_nil_of_length_eq_zero z) gd.ne
      · omega
    refine ⟨_, rfl, _, _, _, _, true, rfl, .ty "tuple", tyx_tup hx, kit_ty (by decide +kernel), true, rfl, ?_⟩
    refine ⟨_, rfl, a, _, rfl, .inr hx, _, _, rfl, rfl, true, bl_true (show (1 : Int) ≤ (xs.length : Int) by omega), ?_⟩
    refine ⟨_, _, rfl, rfl, true, bl_true (show (xs.length : Int) ≤ 24 by omega), ?_⟩
    refine ⟨_, rfl, a, xs, rfl, hx, for_enumT (K := K) (a := a) (xs := xs) (fun i σ H' => Same H H' ∧ ∃ y1 y2, σ = [some (.ref a), y1, y2]) ?_ ?_ ?_ ?_⟩
    · exact ⟨Same.refl _, none, none, rfl⟩
    · rintro i σ H' _ ⟨sm, _⟩
      exact same_seqT sm hx
    · rintro i x σ H' T hi ⟨sm, y1, y2, rfl⟩ nT
      obtain ⟨c, hci, tt, rfl, ht⟩ := paired_get hc hi
      have sT := same_new (o := .tup [.int (i : Nat), .ref tt]) nT
      have s2 := sm.trans sT
      refine ⟨T, _, rfl, SqT.of upd_same, rfl, _, _, rfl, _, _, rfl, rfl, ?_⟩
      refine ⟨_, rfl, tt, c, rfl, same_seqT s2 ht, gd.grid c (List.mem_of_getElem? hci), true, rfl, ?_⟩
      refine ⟨_, rfl, _, _, rfl, rfl, _, rfl, ite2 (fun e => ?_) (fun e => ?_)⟩
      · have e' : (0 : Int) < (i : Int) := of_decide_eq_true e
        obtain ⟨j, rfl⟩ : ∃ j, i = j + 1 := ⟨i - 1, by omega⟩
        have hj : j < xs.length := by
          have := (List.getElem?_eq_some_iff.mp hi).1
          omega
        obtain ⟨c0, hc0, t0, e0, ht0⟩ := paired_get hc (List.getElem?_eq_getElem hj)
        have gx : xs[j]? = some (.ref t0) := by rw [List.getElem?_eq_getElem hj, e0]
        have ej : ((j + 1 : Nat) : Int) - 1 = ((j : Nat) : Int) := by omega
        refine ⟨_, rfl, _, rfl, _, rfl, _, _, rfl, rfl, a, xs, _, .ref t0, rfl, rfl, same_seqT s2 hx, ?_, tt, t0, [c.1, c.2], [c0.1, c0.2], rfl, rfl, same_seqT s2 ht, same_seqT s2 ht0, false, ?_, ?_⟩
        · show atI xs (((j + 1 : Nat) : Int) - 1) = _
          rw [ej]
          exact atI_nat gx
        · rw [not_le2 (good_step gd.asc hc0 hci)]
        · exact ⟨s2, _, _, rfl⟩
      · exact ⟨s2, _, _, rfl⟩
    · rintro σ H' ⟨sm, _⟩
      exact q H' sm
end
end KS
namespace KS
open PySem PySem.Spec PyProof.Rows L2
abbrev sIsKind : Stmt := topS 28
abbrev sKind : Stmt := topS 29
theorem scIsKind : FnScope ["value"] ["value"] (defScope sIsKind) := ⟨rfl, rfl, rfl, by decide +kernel, rfl, by decide +kernel, by decide +kernel⟩
theorem scKind : FnScope ["kind"] ["kind"] (defScope sKind) := ⟨rfl, rfl, rfl, by decide +kernel, rfl, by decide +kernel, by decide +kernel⟩
section
variable {P : Program} {w : World} {K : PySem.W.Frag} {mg : Str → Option Value} {base : Heap}
theorem ok_isKind {f : Addr} {fd : FuncData} (F : Fun K "is_kind" "is_kind" sIsKind f fd) (mi : mg "isinstance" = none) (mS : mg "str" = none) : FnOk P w K mg base CX0 1 f fd ["value"] spIsKind := by
  refine F.ok scIsKind (fun vs H Q E h => ?_) (fun cdv A outer s H vs Q E hr h => ?_)
  · obtain ⟨b, rfl, _⟩ := h
    rfl
  · obtain ⟨b, rfl, q⟩ := h
    refine ⟨_, pss_one (ps_ret (pe_and (pe_callB call_isi (by rfl) mi (by decide +kernel) (pa_cons (pv 0) (pa_cons (pe_bltn (v := .ty "str") (by rfl) mS (by decide +kernel) rfl) pa_nil)))
        (pe_one (pe_cmpR op_in_seq (pv 0) (pe_tup (pa_cons pe_str (pa_cons pe_str pa_nil))) (by rfl))))), ?_⟩
    refine ⟨_, rfl, _, _, _, _, true, rfl, .ty "str", .base (.str _), kit_ty (by decide +kernel), true, rfl, ?_⟩
    refine ⟨_, rfl, (by show 2 ≤ sizeLine; decide), fun t nt => ⟨t, _, rfl, .inr (SqT.of upd_same), rfl, rfl, ?_⟩⟩
    have e : inV (V.str (if b = true then "C" else "R")) [V.str "R", V.str "C"] = true := by cases b <;> decide +kernel
    show Q (V.bl (inV (V.str (if b = true then "C" else "R")) [V.str "R", V.str "C"])) _
    rw [e]
    exact q _ (same_new nt)
theorem ok_kind {f fI : Addr} {fd fdI : FuncData} (F : Fun K "check_kind" "check_kind" sKind f fd) (GI : FnOk P w K mg base CX0 1 fI fdI ["value"] spIsKind) (bI : Binds K fdI ["value"] []) (gI : mg "is_kind" = some (.ref fI)) (kI : PySem.W.keepIn K (.ref fI) = true) : FnOk P w K mg base CX0 2 f fd ["kind"] spKind := by
  refine F.ok scKind (fun vs H Q E h => ?_) (fun cdv A outer s H vs Q E hr h => ?_)
  · obtain ⟨b, rfl, _⟩ := h
    rfl
  · obtain ⟨b, rfl, q⟩ := h
    refine ⟨_, pss_one (ps_if (pt_not (pt_val (pe_call GI hr (by rfl) gI kI bI .nil pass0 (pa_cons (pv 0) pa_nil)))) (pss_one ps_never) pss_nil), ?_⟩
    exact ⟨_, rfl, b, rfl, fun H' sm => ⟨true, rfl, q H' sm⟩⟩
end
end KS
namespace KS
open PySem PySem.Spec PyProof.Rows L2
abbrev sLines : Stmt := topS 30
abbrev nLines : List Str := ["plan", "kind", "side", "found", "index", "cell", "place"]
theorem scLines : FnScope nLines ["plan", "kind"] (defScope sLines) := ⟨rfl, rfl, rfl, by decide +kernel, rfl, by decide +kernel, by decide +kernel⟩
section
variable {P : Program} {w : World} {K : PySem.W.Frag} {mg : Str → Option Value} {base : Heap}
theorem ok_lines {f fC fK : Addr} {fd fdC fdK : FuncData} (F : Fun K "lines" "lines" sLines f fd) (GC : FnOk P w K mg base CX0 5 fC fdC ["plan"] (spCheck K)) (bC : Binds K fdC ["plan"] []) (gC : mg "check_plan" = some (.ref fC)) (kC : PySem.W.keepIn K (.ref fC) = true)
    (GK : FnOk P w K mg base CX0 2 fK fdK ["kind"] spKind) (bK : Binds K fdK ["kind"] []) (gK : mg "check_kind" = some (.ref fK)) (kK : PySem.W.keepIn K (.ref fK) = true)
    (me : mg "enumerate" = none) (mT : mg "tuple" = none) (mS : mg "sorted" = none) : FnOk P w K mg base CX0 6 f fd ["plan", "kind"] (spLines K) := by
  refine F.ok scLines (fun vs H Q E h => ?_) (fun cdv A outer s H vs Q E hr h => ?_)
  · obtain ⟨a, b, cs, rfl, _⟩ := h
    rfl
  · obtain ⟨a, b, cs, rfl, ⟨xs, hx, hc⟩, gd, hl, q⟩ := h
    have nd := scLines.nd
    have hr1 : Room 2 _ := hr.mono (by decide)
    refine ⟨_, pss_cons (ps_expr (pe_call GC hr (by rfl) gC kC bC .nil pass0 (pa_cons (pv 0) pa_nil)))
      (pss_cons (ps_expr (pe_call GK hr1 (by rfl) gK kK bK .nil pass0 (pa_cons (pv 1) pa_nil)))
      (pss_cons (ps_set (i := 2) nd rfl (.inl rfl) (pe_ifExp (pt_cmpR op_eq (pv 1) pe_str (nomark _)) pe_int pe_int))
      (pss_cons (ps_set (i := 3) nd rfl (.inr rfl) pe_dnewK)
      (pss_cons (ps_for PassesOwn.never rfl (pi_enumT (by rfl) me (pa_cons (pv 0) pa_nil)) (pg_tup (by rfl) (pgs_cons (pg_name (i := 4) nd rfl (.inl rfl)) (pgs_cons (pg_name (i := 5) nd rfl (.inl rfl)) pgs_nil)))
        (pss_one (ps_expr (pe_bm PySem.F.plainAttrs_list PySem.F.slot_list_append PySem.F.type_list_append mt_append
          (pe_dsetd (pv 3) (pe_ix ix_tup (pv 5) (pv 2) (fun _ _ => rfl)) (pe_lst pa_nil) ⟨by rfl, by rfl, by rfl, by rfl⟩) (pa_cons (pv 4) pa_nil)))))
      (pss_one (ps_ret (pe_callTy call_tuple_of (by rfl) mT (by decide +kernel) (pa_cons
        (pe_lc (own := [("place", 6)]) (g := gName 6) (tt := tYes) rfl nd (pi_list (pe_callB (call_sortedDI rfl) (by rfl) mS (by decide +kernel) (pa_cons (pv 3) pa_nil))) (blkOk_by (N := nLines) (sc := defScope sLines) (by decide +kernel))
          (fun _ _ _ _ _ => pg_name (i := 6) nd rfl (Or.inl rfl)) (fun _ _ _ _ _ => pts_nil)
          (fun _ _ _ _ _ => pe_callTy (T := "tuple") (r := rTupOf K) cr_tupOf (by rfl) mT (by decide +kernel) (pa_cons (pe_dget (hu_of hr) (pv 3) (pv 6) (fun _ _ => rfl)) pa_nil))) pa_nil)))))))), ?_⟩
    refine ⟨_, rfl, a, cs, rfl, ⟨xs, hx, hc⟩, gd, hl, fun H1 s1 => ?_⟩
    refine ⟨_, rfl, b, rfl, fun H2 s2 => ?_⟩
    refine side_ok (b := b) rfl ?_
    intro d nd0
    have s3 := (s1.trans s2).trans (same_new (o := .dK []) nd0)
    refine ⟨_, rfl, a, xs, rfl, same_seqT s3 hx, for_enumT (K := K) (a := a) (xs := xs) (fun i σ H' => ∃ (kvs : List (Key × V)) (ad : Int → Addr) (y4 y5 : Option V),
      σ = [some (.ref a), some (.str (if b = true then "C" else "R")), some (.int (if b = true then 1 else 0)), some (.ref d), y4, y5, none] ∧ Same H H' ∧ H d = none ∧ Grp b cs i d kvs ad H' ∧ (∀ r, idxs b cs i r ≠ [] → H (ad r) = none)) ?_ ?_ ?_ ?_⟩
    · refine ⟨[], fun _ => d, none, none, rfl, s3, (s1.trans s2).free nd0, ⟨upd_same, ⟨[], rfl, by simp, Nat.zero_le _⟩, fun r => rfl, fun r h => absurd rfl h, fun r r' h => absurd rfl h⟩, fun r h => absurd rfl h⟩
    · rintro i σ H' _ ⟨kvs, ad, y4, y5, rfl, sm, _⟩
      exact same_seqT sm hx
    · rintro i x σ H' T hi ⟨kvs, ad, y4, y5, rfl, sm, hd0, g, hn⟩ nT
      obtain ⟨c, hci, tt, rfl, ht⟩ := paired_get hc hi
      have sT := same_new (o := .tup [.int (i : Nat), .ref tt]) nT
      have s4 := sm.trans sT
      have g1 := g.same sT
      refine ⟨T, _, rfl, SqT.of upd_same, rfl, _, _, rfl, _, _, rfl, rfl, ?_⟩
      refine ⟨_, rfl, d, rfl, .inl ⟨kvs, Rd.of g1.dict⟩, _, rfl, _, rfl, tt, _, _, _, rfl, rfl, same_seqT s4 ht, at_pick, Nat.zero_le _, fun z nz => ?_⟩
      have sz := same_new (o := .lst []) nz
      have g2 := g1.same sz
      obtain ⟨ks, k1, k2, k3⟩ := g2.keys
      have hlen : kvs.length ≤ 24 := by
        have := congrArg List.length k1
        rw [List.length_map, List.length_map] at this
        have := (List.getElem?_eq_some_iff.mp hci).1
        omega
      refine ⟨kvs, .inl (pick b c), g2.dict, rfl, small64 (by omega), fun v hv => ?_, fun hv => ?_⟩
      · have hne : idxs b cs i (pick b c) ≠ [] := fun e => by
          rw [g2.val, if_pos e] at hv
          cases hv
        rw [g2.val, if_neg hne] at hv
        cases hv
        have hL := g2.lst _ hne
        refine ⟨.inl ⟨rfl, _, SqL.of hL⟩, _, rfl, _, _, _, rfl, rfl, hL, ?_, ?_⟩
        · rw [List.length_map]
          have := idxs_len b cs i (pick b c)
          have := (List.getElem?_eq_some_iff.mp hci).1
          exact small64 (by omega)
        · refine ⟨kvs, ad, _, _, rfl, fun q o e => ?_, hd0, g2.more hci hne, fun r hr => ?_⟩
          · rw [upd_ne (ne_of_none e (hn _ hne))]
            exact sz _ _ (s4 _ _ e)
          · by_cases e : pick b c = r
            · subst e
              exact hn _ hne
            · rw [idxs_miss hci e] at hr
              exact hn r hr
      · have he : idxs b cs i (pick b c) = [] := by
          by_cases e : idxs b cs i (pick b c) = []
          · exact e
          · rw [g2.val, if_neg e] at hv
            cases hv
        have hdz : z ≠ d := Ne.symm (ne_of_none g1.dict nz)
        refine ⟨.inl ⟨rfl, [], SqL.of (by rw [upd_ne hdz, upd_same])⟩, _, rfl, z, [], _, rfl, rfl, by rw [upd_ne hdz, upd_same], by rw [sizeLine_eq]; decide, ?_⟩
        have zH : H z = none := by
          cases e : H z with
          | none => rfl
          | some o =>
            have := s4 _ _ e
            rw [nz] at this
            cases this
        refine ⟨_, _, _, _, rfl, fun q o e => ?_, hd0, g1.new hci he nz, fun r hr => ?_⟩
        · rw [upd_ne (ne_of_none e zH), upd_ne (ne_of_none e hd0)]
          exact sz _ _ (s4 _ _ e)
        · show H (if _ then z else _) = none
          by_cases e : r = pick b c
          · rw [if_pos e]
            exact zH
          · rw [if_neg e]
            rw [idxs_miss hci (Ne.symm e)] at hr
            exact hn r hr
    · rintro σ H' ⟨kvs, ad, y4, y5, rfl, sm, hd0, g, hn⟩
      have hlen := Paired.length hc
      rw [hlen] at g hn
      obtain ⟨ks, k1, k2, k3⟩ := g.keys
      refine ⟨_, rfl, d, kvs, ks, rfl, Rd.of g.dict, k1, by omega, fun ys p perm pw np => ?_⟩
      have ey := g.used gd.grid k1 k2 perm pw
      subst ey
      have sp := same_new (o := .lst ((usedOf b cs).map V.int)) np
      have hul : (usedOf b cs).length ≤ 8 := by
        unfold usedOf
        exact Nat.le_trans (List.length_filter_le _ _) (by simp)
      refine ⟨p, rfl, ⟨_, SqL.of upd_same⟩, fun D nD => ?_⟩
      refine lc_list (K := K) (a := p) (xs := (usedOf b cs).map V.int) (fun j H2 => ∃ acc : List V, H2 D = some (.lst acc) ∧ Paired (TupI K H2) acc (((usedOf b cs).take j).map fun r => idxs b cs cs.length r) ∧
        (∀ q o, q ≠ D → upd H' p (.lst ((usedOf b cs).map V.int)) q = some o → H2 q = some o)) ?_ ?_ ?_ ?_
      · exact ⟨[], upd_same, .nil, fun q o n e => by rw [upd_ne n]; exact e⟩
      · rintro j H2 _ ⟨acc, a1, a2, a3⟩
        exact SqL.of (a3 _ _ (ne_of_none (H := upd H' p (.lst ((usedOf b cs).map V.int))) upd_same nD) upd_same)
      · rintro j x H2 hj ⟨acc, a1, a2, a3⟩
        have sD : Same (upd H' p (.lst ((usedOf b cs).map V.int))) H2 := fun q o e => a3 q o (ne_of_none e nD) e
        rw [List.getElem?_map] at hj
        cases er : (usedOf b cs)[j]? with
        | none =>
          rw [er] at hj
          cases hj
        | some r =>
          rw [er] at hj
          cases hj
          have hr := (used_mem gd.grid r).mp (List.mem_of_getElem? er)
          have gg := g.same (sp.trans sD)
          have hL := gg.lst r hr
          have hal : acc.length ≤ 8 := by
            rw [Paired.length a2, List.length_map, List.length_take]
            omega
          refine ⟨rfl, _, rfl, _, rfl, d, .ref (ad r), rfl, .inl ⟨kvs, .inl r, Rd.of gg.dict, rfl, by rw [gg.val, if_neg hr]⟩, ad r, _, rfl, .inl ⟨SqL.of hL, fun t nt => ?_⟩⟩
          have st := same_new (o := .tup ((idxs b cs cs.length r).map V.int)) nt
          have nDt : D ≠ t := ne_of_none a1 nt
          refine ⟨acc, st _ _ a1, small64 (by omega), acc ++ [.ref t], upd_same, ?_, fun q o n e => ?_⟩
          · rw [List.take_add_one, er, List.map_append]
            refine paired_append (tupI_kt ((KT.of_same st).trans (KT.upd (st _ _ a1))) a2) (.cons ⟨t, rfl, SqT.of ?_⟩ .nil)
            rw [upd_ne (Ne.symm nDt), upd_same]
          · rw [upd_ne n]
            exact st _ _ (a3 q o n e)
      · rintro H2 ⟨acc, a1, a2, a3⟩
        rw [List.length_map, List.take_length, used_lines] at a2
        have sD : Same (upd H' p (.lst ((usedOf b cs).map V.int))) H2 := fun q o e => a3 q o (ne_of_none e nD) e
        refine ⟨D, acc, rfl, .inl ⟨SqL.of a1, fun l nl => ?_⟩⟩
        have sl := same_new (o := .tup acc) nl
        exact q _ l acc (((sm.trans sp).trans sD).trans sl) (SqT.of upd_same) (tupI_kt (.of_same sl) a2)
end
end KS
namespace KS
open PySem PySem.Spec PyProof.Rows L2 RZ
abbrev sFF : Stmt := topS 32
abbrev sCheckF : Stmt := topS 33
abbrev sAlong : Stmt := topS 38
theorem scFF : FnScope ["values", "most", "index", "value"] ["values", "most"] (defScope sFF) := ⟨rfl, rfl, rfl, by decide +kernel, rfl, by decide +kernel, by decide +kernel⟩
theorem scCheckF : FnScope ["size", "filling", "index"] ["size", "filling"] (defScope sCheckF) := ⟨rfl, rfl, rfl, by decide +kernel, rfl, by decide +kernel, by decide +kernel⟩
abbrev nAlong : List Str := ["groups", "filling", "result", "line", "index", "values", "value"]
theorem scAlong : FnScope nAlong ["groups", "filling"] (defScope sAlong) := ⟨rfl, rfl, rfl, by decide +kernel, rfl, by decide +kernel, by decide +kernel⟩
section
variable {P : Program} {w : World} {K : PySem.W.Frag} {mg : Str → Option Value} {base : Heap}
theorem ok_ff {f fI : Addr} {fd fdI : FuncData} (F : Fun K "first_fault" "first_fault" sFF f fd) (GI : FnOk P w K mg base CX0 2 fI fdI ["value", "least", "most"] spBetween) (bI : Binds K fdI ["value", "least", "most"] []) (gI : mg "is_between" = some (.ref fI)) (kI : PySem.W.keepIn K (.ref fI) = true)
    (me : mg "enumerate" = none) : FnOk P w K mg base CX0 3 f fd ["values", "most"] (spFF K) := by
  refine F.ok scFF (fun vs H Q E h => ?_) (fun cdv A outer s H vs Q E hr h => ?_)
  · obtain ⟨a, t, vs, rfl, _⟩ := h
    rfl
  · obtain ⟨a, m, vs, rfl, hx, vn, vb, q⟩ := h
    have nd := scFF.nd
    refine ⟨_, pss_cons (ps_for PassesOwn.never rfl (pi_enumT (by rfl) me (pa_cons (pv 0) pa_nil)) (pg_tup (by rfl) (pgs_cons (pg_name (i := 2) nd rfl (.inl rfl)) (pgs_cons (pg_name (i := 3) nd rfl (.inl rfl)) pgs_nil)))
        (pss_one (ps_if (PW.pt (pw_or (pt_not (pt_val (pe_call GI hr (by rfl) gI kI bI .nil pass0 (pa_cons (pv 3) (pa_cons pe_int (pa_cons (pv 1) pa_nil))))))
          (pw_or1 (pt_cmpR op_in_seq (pv 3) (pe_slice sl_tup (pv 0) po_none (po_some (pv 2))) (by rfl))))) (pss_one (ps_ret (pv 2))) pss_nil)))
      (pss_one (ps_ret pe_non)), ?_⟩
    refine ⟨_, rfl, a, _, rfl, hx, for_enumT (K := K) (a := a) (xs := vs.map V.int) (fun i σ H' => Same H H' ∧ ∃ y1 y2, σ = [some (.ref a), some (.int m), y1, y2]) ?_ ?_ ?_ ?_⟩
    · exact ⟨Same.refl _, none, none, rfl⟩
    · rintro i σ H' _ ⟨sm, _⟩
      exact same_seqT sm hx
    · rintro i x σ H' T hi ⟨sm, y1, y2, rfl⟩ nT
      have hil : i < (vs.map V.int).length := (List.getElem?_eq_some_iff.mp hi).1
      rw [List.getElem?_map] at hi
      cases ev : vs[i]? with
      | none =>
        rw [ev] at hi
        cases hi
      | some v =>
        rw [ev] at hi
        cases hi
        have sT := same_new (o := .tup [.int (i : Nat), .int v]) nT
        have s2 := sm.trans sT
        have bd := vb v (List.mem_of_getElem? ev)
        refine ⟨T, _, rfl, SqT.of upd_same, rfl, _, _, rfl, _, _, rfl, rfl, ?_⟩
        refine ⟨_, rfl, _, rfl, v, 1, m, rfl, bd.1, bd.2, true, rfl, ?_⟩
        refine ⟨_, rfl, _, rfl, _, rfl, _, rfl, a, _, rfl, same_seqT s2 hx, cut_not hil, fun S nS => ?_⟩
        have sS := same_new (o := .tup (cutV (vs.map V.int) none (some (i : Int)))) nS
        refine ⟨S, _, rfl, .inr (SqT.of upd_same), rfl, ?_, false, ?_, ?_⟩
        · rw [cut_take (by omega), ← List.map_take]
          exact flat_ints _
        · show V.bl (inV (.int v) (cutV (vs.map V.int) none (some (i : Int)))) = V.bl false
          rw [cut_take (by omega), ← List.map_take, inV_take vn ev]
        · exact ⟨s2.trans sS, _, _, rfl⟩
    · rintro σ H' ⟨sm, _⟩
      exact q H' sm
theorem ok_checkF {f fI : Addr} {fd fdI : FuncData} {tk : Tok} (F : Fun K "check_filling" "check_filling" sCheckF f fd) (GI : FnOk P w K mg base CX0 3 fI fdI ["values", "most"] (spFF K)) (bI : Binds K fdI ["values", "most"] []) (gI : mg "first_fault" = some (.ref fI)) (kI : PySem.W.keepIn K (.ref fI) = true)
    (mi : mg "isinstance" = none) (mT : mg "tuple" = none) (ml : mg "len" = none) (mM : mg "MOST_VALUE" = some (.int 9999 tk)) : FnOk P w K mg base CX0 4 f fd ["size", "filling"] (spCheckF K) := by
  refine F.ok scCheckF (fun vs H Q E h => ?_) (fun cdv A outer s H vs Q E hr h => ?_)
  · obtain ⟨a, t, vs, rfl, _⟩ := h
    rfl
  · obtain ⟨n, a, vs, rfl, hx, v9, hn, q⟩ := h
    have nd := scCheckF.nd
    refine ⟨_, pss_cons (ps_if (PW.pt (pw_or (pt_not (pt_val (pe_callB call_isi (by rfl) mi (by decide +kernel) (pa_cons (pv 1) (pa_cons (pe_bltn (v := .ty "tuple") (by rfl) mT (by decide +kernel) rfl) pa_nil)))))
          (pw_or1 (pt_cmpR op_ne (pe_callB call_len_seq (by rfl) ml PySem.boot_len (pa_cons (pv 1) pa_nil)) (pv 0) (nomark _)))))
        (pss_one ps_never) pss_nil)
      (pss_cons (ps_set (i := 2) nd rfl (.inl rfl) (pe_call GI hr (by rfl) gI kI bI .nil pass0 (pa_cons (pv 1) (pa_cons (pe_glob (v := .int 9999) (by rfl) mM ⟨_, rfl⟩) pa_nil))))
      (pss_one (ps_if (pt_cmpR op_notN (pv 2) pe_non (nomark _)) (pss_one ps_never) pss_nil))), ?_⟩
    have hlen : (vs.map V.int).length = n := by rw [List.length_map, v9.len]
    refine ⟨_, rfl, _, _, _, _, true, rfl, .ty "tuple", tyx_tup hx, kit_ty (by decide +kernel), true, rfl, ?_⟩
    refine ⟨_, rfl, a, _, rfl, .inr hx, _, rfl, rfl, false, ?_, ?_⟩
    · rw [hlen]
      simp
    refine ⟨_, rfl, a, 9999, vs, rfl, hx, v9.nd, v9.bd, fun H1 s1 => ?_⟩
    exact ⟨_, rfl, rfl, false, rfl, q H1 s1⟩
theorem ok_along {f : Addr} {fd : FuncData} (F : Fun K "sorted_along" "sorted_along" sAlong f fd) (mL : mg "list" = none) (mz : mg "zip" = none) (ms : mg "sorted" = none) (mt : mg "tuple" = none) :
    FnOk P w K mg base CX0 1 f fd ["groups", "filling"] (spAlong K) := by
  refine F.ok scAlong (fun vs H Q E h => ?_) (fun cdv A outer s H vs Q E hr h => ?_)
  · obtain ⟨g, t, gs, ls, vs, rfl, _⟩ := h
    rfl
  · obtain ⟨g, t, gs, ls, vs, rfl, hg, hx, hls, ht, q⟩ := h
    have nd := scAlong.nd
    refine ⟨_, pss_cons (ps_set (i := 2) nd rfl (.inl rfl) (pe_callTy call_list_of (by rfl) mL (by decide +kernel) (pa_cons (pv 1) pa_nil)))
      (pss_cons (ps_for PassesOwn.never rfl (pi_tup (pv 0)) (pg_name (i := 3) nd rfl (.inl rfl))
        (pss_cons (ps_set (i := 5) nd rfl (.inl rfl) (pe_callB cr_sortedI (by rfl) ms (by decide +kernel) (pa_cons
            (pe_lc (own := [("index", 4)]) (g := gName 4) (tt := tYes) rfl nd (pi_tup (pv 3)) (blkOk_by (N := nAlong) (sc := defScope sAlong) (by decide +kernel))
              (fun _ _ _ _ _ => pg_name (i := 4) nd rfl (Or.inl rfl)) (fun _ _ _ _ _ => pts_nil) (fun _ _ _ _ _ => pe_ix (r := rIxT K) ix_tup (pv 1) (pv 4) (fun _ _ => rfl))) pa_nil)))
        (pss_one (ps_for PassesOwn.never rfl (pi_zipTL (by rfl) mz (pa_cons (pv 3) (pa_cons (pv 5) pa_nil)))
          (pg_tup (by rfl) (pgs_cons (pg_name (i := 4) nd rfl (.inl rfl)) (pgs_cons (pg_name (i := 6) nd rfl (.inl rfl)) pgs_nil)))
          (pss_one (ps_asg (pv 6) (pg_sub (pv 2) (pv 4) set_list)))))))
      (pss_one (ps_ret (pe_callTy call_tuple_of (by rfl) mt (by decide +kernel) (pa_cons (pv 2) pa_nil))))), ?_⟩
    refine ⟨_, rfl, t, _, rfl, .inr ht, fun o no => ?_⟩
    have so := same_new (o := .lst (vs.map V.int)) no
    refine ⟨_, rfl, g, rfl, ⟨_, same_seqT so hg⟩, for_tup (K := K) (a := g) (xs := gs) (fun i σ H' => ∃ (y3 y4 y5 y6 : Option V), σ = [some (.ref g), some (.ref t), some (.ref o), y3, y4, y5, y6] ∧
      (∀ c u, c ≠ o → H c = some u → H' c = some u) ∧ H' o = some (.lst ((srtTo vs (ls.take i)).map V.int))) ?_ ?_ ?_ ?_⟩
    · exact ⟨none, none, none, none, rfl, fun c u n e => so c u e, upd_same⟩
    · rintro i σ H' _ ⟨y3, y4, y5, y6, rfl, k', ho⟩
      exact same_seqT (fun c u e => k' c u (ne_of_none e no) e) hg
    · rintro i x σ H' hi ⟨y3, y4, y5, y6, rfl, k', ho⟩
      obtain ⟨l, hli, t', rfl, hl'⟩ := paired_get hx hi
      have sm : Same H H' := fun c u e => k' c u (ne_of_none e no) e
      have hlt := same_seqT sm hl'
      have hm := hls l (List.mem_of_getElem? hli)
      refine ⟨_, rfl, t', rfl, ⟨_, hlt⟩, fun D nD => ?_⟩
      have noD : o ≠ D := ne_of_none ho nD
      refine lc_tup (K := K) (a := t') (xs := l.map V.int) (fun j G => G = upd H' D (.lst (((l.take j).map (getI vs)).map V.int))) ?_ ?_ ?_ ?_
      · rfl
      · rintro j G _ rfl
        exact same_seqT (same_new nD) hlt
      · rintro j x G hj rfl
        rw [List.getElem?_map] at hj
        cases ev : l[j]? with
        | none =>
          rw [ev] at hj
          cases hj
        | some k =>
          rw [ev] at hj
          cases hj
          obtain ⟨j', rfl, hj'⟩ := hm.1 k (List.mem_of_getElem? ev)
          refine ⟨rfl, _, rfl, _, rfl, t, _, _, .int (getI vs (j' : Int)), rfl, rfl, same_seqT (sm.trans (same_new nD)) ht, atI_nat (getI_at (by omega)), _, upd_same, ?_, ?_⟩
          · rw [List.length_map, List.length_map, List.length_take]
            exact small64 (by omega)
          · rw [upd_upd, List.take_add_one, ev, List.map_append, List.map_append]
            rfl
      · rintro G rfl
        rw [List.length_map, List.take_length]
        refine ⟨D, _, rfl, SqL.of upd_same, fun ys P' perm asc nP => ?_⟩
        have ey := sortI_eq perm asc
        have yl : ys.length = l.length := by
          rw [perm.length_eq, List.length_map]
        have noP : o ≠ P' := fun e => by
          rw [← e, upd_ne noD, ho] at nP
          cases nP
        have sP := (same_new (o := .lst ((l.map (getI vs)).map V.int)) nD).trans (same_new (o := .lst (ys.map V.int)) nP)
        generalize hG : upd (upd H' D (.lst ((l.map (getI vs)).map V.int))) P' (.lst (ys.map V.int)) = G0 at sP
        have hP0 : G0 P' = some (.lst (ys.map V.int)) := by rw [← hG, upd_same]
        have hz0 : KT K H' G0 := .of_same sP
        refine ⟨_, rfl, _, rfl, t', P', _, _, rfl, hz0 _ _ hlt, SqL.of hP0, for_zipTL (K := K) (a := t') (b := P') (xs := l.map V.int) (ys := ys.map V.int) (by rw [List.length_map, List.length_map, yl])
          (fun j σ G => ∃ (y4 y6 : Option V), σ = [some (.ref g), some (.ref t), some (.ref o), some (.ref t'), y4, some (.ref P'), y6] ∧
            (∀ c u, c ≠ o → G0 c = some u → G c = some u) ∧ G o = some (.lst ((putZ (srtTo vs (ls.take i)) ((l.zip ys).take j)).map V.int))) ?_ ?_ ?_ ?_⟩
        · exact ⟨y4, y6, rfl, fun c u _ e => e, sP _ _ ho⟩
        · rintro j σ G ⟨y4, y6, rfl, kG, hoG⟩
          refine ⟨?_, SqL.of (kG _ _ (Ne.symm noP) hP0)⟩
          have z := hz0 _ _ hlt
          rcases z with (z | ⟨ob, z⟩) | z
          · exact .inl (.inl (kG _ _ (fun e => by rw [e, sP _ _ ho] at z; cases z) z))
          · exact .inl (.inr ⟨ob, kG _ _ (fun e => by rw [e, sP _ _ ho] at z; cases z) z⟩)
          · exact .inr z
        · rintro j x y T σ G hx' hy' ⟨y4, y6, rfl, kG, hoG⟩ nT
          rw [List.getElem?_map] at hx' hy'
          cases ex : l[j]? with
          | none =>
            rw [ex] at hx'
            cases hx'
          | some k =>
            cases ey' : ys[j]? with
            | none =>
              rw [ey'] at hy'
              cases hy'
            | some v =>
              rw [ex] at hx'
              rw [ey'] at hy'
              cases hx'
              cases hy'
              obtain ⟨j', rfl, hj'⟩ := hm.1 k (List.mem_of_getElem? ex)
              have noT : o ≠ T := ne_of_none hoG nT
              refine ⟨T, _, rfl, SqT.of upd_same, rfl, _, _, rfl, _, _, rfl, rfl, ?_⟩
              refine ⟨_, rfl, _, rfl, _, rfl, o, _, (j' : Int), j', rfl, rfl, by rw [upd_ne noT]; exact hoG, ixN_at ?_, ?_⟩
              · rw [List.length_map, putZ_len, srtTo_len]
                omega
              · refine ⟨_, _, rfl, fun c u nc e => ?_, ?_⟩
                · rw [upd_ne nc, upd_ne (ne_of_none (kG c u nc e) nT)]
                  exact kG c u nc e
                · have ez : (l.zip ys)[j]? = some ((j' : Int), v) := by
                    rw [List.getElem?_zip_eq_some]
                    exact ⟨ex, ey'⟩
                  rw [upd_same, List.take_add_one, ez]
                  show _ = some (HO.lst ((putZ _ (List.take j (l.zip ys) ++ [((j' : Int), v)])).map V.int))
                  rw [putZ_more, List.map_set]
                  rfl
        · rintro σ G ⟨y4, y6, rfl, kG, hoG⟩
          refine ⟨_, _, _, _, rfl, fun c u nc e => kG c u nc (sP c u (k' c u nc e)), ?_⟩
          have et : List.take (List.map V.int l).length (l.zip ys) = l.zip ys := List.take_of_length_le (by rw [List.length_zip, List.length_map]; omega)
          rw [hoG, et, List.take_add_one, hli, ey]
          show _ = some (HO.lst ((srtTo vs (List.take i ls ++ [l])).map V.int))
          rw [srtTo_more]
          rfl
    · rintro σ H' ⟨y3, y4, y5, y6, rfl, k', ho⟩
      rw [Paired.length hx, List.take_length] at ho
      refine ⟨_, rfl, o, _, rfl, .inl ⟨SqL.of ho, fun u nu => ?_⟩⟩
      have sm : Same H H' := fun c u e => k' c u (ne_of_none e no) e
      exact q _ u (sm.trans (same_new nu)) (SqT.of upd_same) (sm.free nu)
end
end KS
namespace KS
open PySem PySem.Spec PyProof.Rows L2
/-! ### enumerate(z), z a text -/
def IteS (z : Str) : It where
  go := fun i _ => i < z.cps.size
  yld := fun i H v H' => ∃ (T : Addr) (c : Nat), v = .ref T ∧ H T = none ∧ z.cps[i]? = some c ∧ H' = upd H T (.tup [.int (i : Nat), .str ⟨#[c]⟩])
  stop := fun i _ => i = z.cps.size
def EnS (z : Str) (t : Tok) (e it : Addr) (i : Nat) (h : Heap) : Prop := (∃ old, IsEnum h e it ((i : Nat) : Int) old) ∧ h.IsStrIter it (strIterType z) z t i ∧ e ≠ it
theorem mem2 {b e it : Addr} (h : b ∈ [e, it]) : b = e ∨ b = it := by simpa using h
theorem strIter_at {h h' : Heap} {a : Addr} {ty : String} {x : Str} {t : Tok} {i : Nat} (y : h.IsStrIter a ty x t i) (k : ∀ o, h.get? a = some o → h'.get? a = some o) : h'.IsStrIter a ty x t i := by
  obtain ⟨o, ho, r⟩ := y
  exact ⟨o, k o ho, r⟩
theorem ens_obj {z : Str} {t : Tok} {e it b : Addr} {i : Nat} {h : Heap} (st : EnS z t e it i h) (hb : b ∈ [e, it]) : ∃ o, h.get? b = some o ∧ ∀ v, o.data ≠ .cell v := by
  obtain ⟨⟨old, q1⟩, ⟨o, q2, _, d⟩, _⟩ := st
  rcases mem2 hb with r | r <;> subst r
  · exact ⟨_, q1, fun v w => nomatch w⟩
  · exact ⟨o, q2, fun v w => by rw [d] at w; cases w⟩
theorem turn_enumS {P : Program} {w : World} {K : PySem.W.Frag} {elts : List Expr} {kk : Nat} {tpos : Pos} (z : Str) (t : Tok) (e it : Addr) : Turn P w K (.Tuple elts kk tpos) (IteS z) [e, it] e (EnS z t e it) where
  mem := List.mem_cons_self
  obj := fun i h st b hb => ens_obj st hb
  keep := fun i h h' st k => ⟨st.1.elim fun old q => ⟨old, k e (by simp) _ q⟩, strIter_at st.2.1 fun o q => k it (by simp) o q, st.2.2⟩
  self := fun A i s Q E st h => st.1.elim fun old q => wpAny_pyIter_enum q h
  item := by
    intro X hP hw hK hc i pins s σ H E I hf st hg
    subst hP hw hK
    have st0 := st
    obtain ⟨⟨old, q1⟩, q2, ne⟩ := st
    have hh : X.A.in1.handled = none := I.ok.hd hc
    have el : e < s.heap.objs.size := Heap.lt_size q1
    refine wpAny_pyNext_enum_itemD (Draws.text hh it z t) q1 q2 hg ne (by simp [ne]) fun u h1 tk hu ho hst hT sz kp => ?_
    obtain ⟨c, tu, hcx, rfl⟩ := hu
    refine ⟨_, rfl, wpAny_letOwnedTupleGo_enum (s := { s with heap := h1, toks := tk + 1 }) ho fun h2 e2 sb => ?_⟩
    have hT2 : h2.get? s.heap.objs.size = some { cls := .type "tuple", data := .seq #[.int i tk, .str ⟨#[c]⟩ tu] } := (sb.2 _ (Nat.ne_of_gt el)).trans hT
    have nw : ObjOk X.prog X.w (upd H s.heap.objs.size (.tup [.int (i : Nat), .str ⟨#[c]⟩])) h2 s.heap.objs.size (.tup [.int (i : Nat), .str ⟨#[c]⟩]) :=
      ⟨by show 2 ≤ sizeLine; decide, [.int i tk, .str ⟨#[c]⟩ tu], .cons ⟨_, rfl⟩ (.cons ⟨_, rfl⟩ .nil), ⟨_, hT2, rfl, _, rfl⟩⟩
    have I1 : Inv X pins σ (upd H s.heap.objs.size (.tup [.int (i : Nat), .str ⟨#[c]⟩])) { s with heap := h2, toks := tk + 1 } := by
      refine I.turnedNew (ch := [e, it]) (fun b o n q => ?_) hf (Nat.le_refl _) nw
      have n1 : b ≠ e := fun r => n (by simp [r])
      have n2 : b ≠ it := fun r => n (by simp [r])
      exact (sb.2 b n1).trans (kp b o n1 n2 q)
    refine ⟨.ref s.heap.objs.size, _, I1, rfl, ⟨_, c, rfl, I.hok.fresh (Nat.le_refl _), hcx, rfl⟩, ⟨⟨.str ⟨#[c]⟩ tu, ?_⟩, strIter_at hst fun o q => (sb.2 it (Ne.symm ne)).trans q, ne⟩, fun b hb => ?_⟩
    · have r : ((i + 1 : Nat) : Int) = (i : Int) + 1 := by omega
      rw [r]
      exact e2
    · obtain ⟨o, ho, _⟩ := ens_obj st0 hb
      rw [upd_ne (Nat.ne_of_lt (Heap.lt_size ho))]
      exact (hf b hb).1
  done := by
    intro X hP hw hK hc i pins s σ H E I hf st hg
    subst hP hw hK
    obtain ⟨⟨old, q1⟩, q2, ne⟩ := st
    have hh : X.A.in1.handled = none := I.ok.hd hc
    have hg' : i = z.cps.size := hg
    subst hg'
    obtain ⟨f0, f1, f2, f3, f4, f5⟩ := hf it (by simp)
    exact wpAny_pyNext_enum_endD (Draws.text hh it z t) q1 q2 fun h1 eb => ⟨rfl, I.turned (t' := s.toks) (fun b o hb q => eb b o hb q) f0 f1 f3 f4 f5⟩
def iEnumS (ta : TA) : TI := fun σ H R => ta σ H fun vs H1 => ∃ z, vs = [.str z] ∧ R (IteS z) H1
theorem pi_enumS {X : Cx} {e : Expr} {ta : TA} {p pos tpos : Pos} {elts : List Expr} {kk : Nat} (hg : Gl X "enumerate") (hm : X.mg "enumerate" = none) (ha : PA X [e] ta)
    (hs : starEach [e] X.env = [(false, eval e X.env)] := by rfl) : PI X (.Tuple elts kk tpos) (.Call (.Name "enumerate" p) [e] [] pos) (iEnumS ta) := by
  refine ⟨fun pins s σ H R I h => Call_ (ld_blt I hg hm boot_enumerate (PyProof.Rows.callWith_type1 (thn (ha.run pos pins s σ H _ I h) fun us s1 hh => ?_) hs rfl))⟩
  obtain ⟨vs, H1, I1, r1, z, ex, q⟩ := hh
  subst ex
  cases r1 with
  | cons r rr =>
    cases rr
    obtain ⟨t, rfl⟩ := r
    refine call_enumerate_str fun h1 he hit sz kp => wpAny_pyIter_enum he ?_
    have I2 : Inv X pins σ H1 { s1 with heap := h1 } := I1.kept (t' := s1.toks) kp
    refine ⟨s1.heap.objs.size + 1, [s1.heap.objs.size + 1, s1.heap.objs.size], _, _, H1, rfl, I2, turn_enumS z t (s1.heap.objs.size + 1) s1.heap.objs.size, ⟨⟨.none, he⟩, hit, Nat.succ_ne_self _⟩, fun b hb => ?_, q⟩
    have le : s1.heap.objs.size ≤ b := by
      rcases mem2 hb with r | r <;> rw [r]
      · exact Nat.le_succ _
      · exact Nat.le_refl _
    exact I1.fpOk le (I1.hok.fresh le)
theorem for_enumS {z : Str} {g : TG} {tb : TS} {D : Ends} {σ : L2.St} {H : Hp} (Pv : Nat → L2.St → Hp → Prop) (h0 : Pv 0 σ H)
    (hs : ∀ i c σ G T, z.cps[i]? = some c → Pv i σ G → G T = none → g (.ref T) σ (upd G T (.tup [.int (i : Nat), .str ⟨#[c]⟩])) fun σ2 G2 => tb { D with nx := Pv (i + 1), ct := Pv (i + 1), bk := D.nx } σ2 G2)
    (hd : ∀ σ G, Pv z.cps.size σ G → D.nx σ G) :
    ∃ W : Nat → Nat → L2.St → Hp → Prop, (∃ m, W 0 m σ H) ∧ ∀ i m σ H, W i m σ H → ((IteS z).stop i H ∧ D.nx σ H) ∨ ((IteS z).go i H ∧ ∃ N : L2.St → Hp → Prop, (∀ σ' H', N σ' H' → ∃ m', m' < m ∧ W (i + 1) m' σ' H') ∧
      ∀ v H', (IteS z).yld i H v H' → g v σ H' fun σ2 H2 => tb { D with nx := N, ct := N, bk := D.nx } σ2 H2) := by
  refine ⟨fun i m σ G => m + i = z.cps.size ∧ Pv i σ G, ⟨_, rfl, h0⟩, fun i m σ G hw => ?_⟩
  obtain ⟨hm, p⟩ := hw
  cases m with
  | zero =>
    have e : i = z.cps.size := by omega
    subst e
    exact .inl ⟨rfl, hd σ G p⟩
  | succ m =>
    refine .inr ⟨by show i < z.cps.size; omega, Pv (i + 1), fun σ' G' p' => ⟨m, Nat.lt_succ_self _, by omega, p'⟩, fun v G' y => ?_⟩
    obtain ⟨T, c, rfl, nT, hc, rfl⟩ := y
    exact hs i c σ G T hc p nT
end KS
namespace KS
open PySem PySem.Spec PyProof.Rows L2 RZ
abbrev sCheckL : Stmt := topS 35
abbrev sCheckW : Stmt := topS 36
abbrev sAfterP : Stmt := topS 40
theorem scCheckL : FnScope ["word", "letters", "index", "letter"] ["word", "letters"] (defScope sCheckL) := ⟨rfl, rfl, rfl, by decide +kernel, rfl, by decide +kernel, by decide +kernel⟩
theorem scCheckW : FnScope ["word"] ["word"] (defScope sCheckW) := ⟨rfl, rfl, rfl, by decide +kernel, rfl, by decide +kernel, by decide +kernel⟩
theorem scAfterP : FnScope ["plan", "filling", "word", "groups", "result", "letter"] ["plan", "filling", "word"] (defScope sAfterP) := ⟨rfl, rfl, rfl, by decide +kernel, rfl, by decide +kernel, by decide +kernel⟩
def spCheckL : Sp := fun vs H Q _ => ∃ wd : List Bool, vs = [.str (wS wd), .str "RC"] ∧ wd.length ≤ 400 ∧ ∀ H', Same H H' → Q .non H'
def spCheckW : Sp := fun vs H Q _ => ∃ wd : List Bool, vs = [.str (wS wd)] ∧ wd.length ≤ 400 ∧ ∀ H', Same H H' → Q .non H'
section
variable {P : Program} {w : World} {K : PySem.W.Frag} {mg : Str → Option Value} {base : Heap}
theorem ok_checkL {f : Addr} {fd : FuncData} {tk : Tok} (F : Fun K "check_letters" "check_letters" sCheckL f fd) (mi : mg "isinstance" = none) (mS : mg "str" = none) (ml : mg "len" = none) (me : mg "enumerate" = none) (mM : mg "MOST_LETTERS" = some (.int 400 tk)) :
    FnOk P w K mg base CX0 1 f fd ["word", "letters"] spCheckL := by
  refine F.ok scCheckL (fun vs H Q E h => ?_) (fun cdv A outer s H vs Q E hr h => ?_)
  · obtain ⟨wd, rfl, _⟩ := h
    rfl
  · obtain ⟨wd, rfl, hl, q⟩ := h
    have nd := scCheckL.nd
    refine ⟨_, pss_cons (ps_if (PW.pt (pw_or (pt_not (pt_val (pe_callB call_isi (by rfl) mi (by decide +kernel) (pa_cons (pv 0) (pa_cons (pe_bltn (v := .ty "str") (by rfl) mS (by decide +kernel) rfl) pa_nil)))))
          (pw_or1 (pt_cmpR op_gt (pe_callB call_len_str (by rfl) ml PySem.boot_len (pa_cons (pv 0) pa_nil)) (pe_glob (v := .int 400) (by rfl) mM ⟨_, rfl⟩) (nomark _)))))
        (pss_one ps_never) pss_nil)
      (pss_one (ps_for PassesOwn.never rfl (pi_enumS (by rfl) me (pa_cons (pv 0) pa_nil)) (pg_tup (by rfl) (pgs_cons (pg_name (i := 2) nd rfl (.inl rfl)) (pgs_cons (pg_name (i := 3) nd rfl (.inl rfl)) pgs_nil)))
        (pss_one (ps_if (pt_cmpR op_notIn_sign (pv 3) (pv 1) (by rfl)) (pss_one ps_never) pss_nil)))), ?_⟩
    have hw := wS_len wd
    refine ⟨_, rfl, _, _, _, _, true, rfl, .ty "str", .base (.str _), kit_ty (by decide +kernel), true, rfl, ?_⟩
    refine ⟨_, rfl, _, rfl, by rw [hw, sizeLine_eq]; omega, _, _, rfl, rfl, false, bl_false (by rw [hw]; omega), ?_⟩
    refine ⟨_, rfl, _, rfl, for_enumS (fun i σ H' => Same H H' ∧ ∃ y1 y2, σ = [some (.str (wS wd)), some (.str "RC"), y1, y2]) ?_ ?_ ?_⟩
    · exact ⟨Same.refl _, none, none, rfl⟩
    · rintro i c σ H' T hi ⟨sm, y1, y2, rfl⟩ nT
      obtain ⟨b, hb, rfl⟩ := wS_at hi
      have sT := same_new (o := .tup [.int (i : Nat), .str ⟨#[ltr b]⟩]) nT
      refine ⟨T, _, rfl, SqT.of upd_same, rfl, _, _, rfl, _, _, rfl, rfl, ?_⟩
      refine ⟨_, rfl, _, rfl, _, _, rfl, rfl, false, ?_, ?_⟩
      · cases b <;> decide +kernel
      · exact ⟨sm.trans sT, _, _, rfl⟩
    · rintro σ H' ⟨sm, _⟩
      exact q H' sm
theorem ok_checkW {f fL : Addr} {fd fdL : FuncData} (F : Fun K "check_word" "check_word" sCheckW f fd) (GL : FnOk P w K mg base CX0 1 fL fdL ["word", "letters"] spCheckL) (bL : Binds K fdL ["word", "letters"] []) (gL : mg "check_letters" = some (.ref fL)) (kL : PySem.W.keepIn K (.ref fL) = true) :
    FnOk P w K mg base CX0 2 f fd ["word"] spCheckW := by
  refine F.ok scCheckW (fun vs H Q E h => ?_) (fun cdv A outer s H vs Q E hr h => ?_)
  · obtain ⟨wd, rfl, _⟩ := h
    rfl
  · obtain ⟨wd, rfl, hl, q⟩ := h
    refine ⟨_, pss_one (ps_expr (pe_call GL hr (by rfl) gL kL bL .nil pass0 (pa_cons (pv 0) (pa_cons pe_str pa_nil)))), ?_⟩
    exact ⟨_, rfl, wd, rfl, hl, q⟩
theorem ok_afterP {f fC fF fL fA fW : Addr} {fd fdC fdF fdL fdA fdW : FuncData} (F : Fun K "after" "after" sAfterP f fd)
    (GC : FnOk P w K mg base CX0 5 fC fdC ["plan"] (spCheck K)) (bC : Binds K fdC ["plan"] []) (gC : mg "check_plan" = some (.ref fC)) (kC : PySem.W.keepIn K (.ref fC) = true)
    (GF : FnOk P w K mg base CX0 4 fF fdF ["size", "filling"] (spCheckF K)) (bF : Binds K fdF ["size", "filling"] []) (gF : mg "check_filling" = some (.ref fF)) (kF : PySem.W.keepIn K (.ref fF) = true)
    (GW : FnOk P w K mg base CX0 2 fW fdW ["word"] spCheckW) (bW : Binds K fdW ["word"] []) (gW : mg "check_word" = some (.ref fW)) (kW : PySem.W.keepIn K (.ref fW) = true)
    (GL : FnOk P w K mg base CX0 6 fL fdL ["plan", "kind"] (spLines K)) (bL : Binds K fdL ["plan", "kind"] []) (gL : mg "lines" = some (.ref fL)) (kL : PySem.W.keepIn K (.ref fL) = true)
    (GA : FnOk P w K mg base CX0 1 fA fdA ["groups", "filling"] (spAlong K)) (bA : Binds K fdA ["groups", "filling"] []) (gA : mg "sorted_along" = some (.ref fA)) (kA : PySem.W.keepIn K (.ref fA) = true)
    (ml : mg "len" = none) : FnOk P w K mg base CX0 7 f fd ["plan", "filling", "word"] (spAfterP K) := by
  refine F.ok scAfterP (fun vs H Q E h => ?_) (fun cdv A outer s H vs Q E hr h => ?_)
  · obtain ⟨a, t, b, cs, vs, rfl, _⟩ := h
    rfl
  · obtain ⟨a, t, wd, cs, vs, rfl, hp, gd, hl, ht, v9, hw, q⟩ := h
    have nd := scAfterP.nd
    refine ⟨_, pss_cons (ps_expr (pe_call GC (hr.mono (by decide)) (by rfl) gC kC bC .nil pass0 (pa_cons (pv 0) pa_nil)))
      (pss_cons (ps_expr (pe_call GF (hr.mono (by decide)) (by rfl) gF kF bF .nil pass0 (pa_cons (pe_callB call_len_seq (by rfl) ml PySem.boot_len (pa_cons (pv 0) pa_nil)) (pa_cons (pv 1) pa_nil))))
      (pss_cons (ps_expr (pe_call GW (hr.mono (by decide)) (by rfl) gW kW bW .nil pass0 (pa_cons (pv 2) pa_nil)))
      (pss_cons (ps_set (i := 3) nd rfl (.inl rfl) (pe_disp (pps_cons pe_str (pe_call GL hr (by rfl) gL kL bL .nil pass0 (pa_cons (pv 0) (pa_cons pe_str pa_nil))) (pps_cons pe_str (pe_call GL hr (by rfl) gL kL bL .nil pass0 (pa_cons (pv 0) (pa_cons pe_str pa_nil))) pps_nil))
          (by rfl) (by rfl) (fun z => by cases z) (by decide)))
      (pss_cons (ps_set (i := 4) nd rfl (.inl rfl) (pv 1))
      (pss_cons (ps_for PassesOwn.never rfl (pi_str (pv 2)) (pg_name (i := 5) nd rfl (.inl rfl))
        (pss_one (ps_set (i := 4) nd rfl (.inl rfl) (pe_call GA (hr.mono (by decide)) (by rfl) gA kA bA .nil pass0 (pa_cons (pe_dget (hu_of hr) (pv 3) (pv 5) (fun _ _ => rfl)) (pa_cons (pv 4) pa_nil))))))
      (pss_one (ps_ret (pv 4)))))))), ?_⟩
    obtain ⟨xs, hx, hc⟩ := id hp
    have hlen := Paired.length hc
    refine ⟨_, rfl, a, cs, rfl, hp, gd, hl, fun H1 s1 => ?_⟩
    refine ⟨_, rfl, a, xs, rfl, .inr (same_seqT s1 hx), _, rfl, xs.length, t, vs, rfl, same_seqT s1 ht, by rw [hlen]; exact v9, by omega, fun H2 s2 => ?_⟩
    refine ⟨_, rfl, wd, rfl, hw, fun H3 s3 => ?_⟩
    have s13 := (s1.trans s2).trans s3
    intro d nd0
    have sd := s13.trans (same_new (o := .dK []) nd0)
    refine ⟨_, rfl, a, false, cs, rfl, hp.kt (.of_same sd), gd, hl, fun H4 pR yR s4 hR hyR => ?_⟩
    refine ⟨_, rfl, a, true, cs, rfl, hp.kt (.of_same (sd.trans s4)), gd, hl, fun H5 pC yC s5 hC hyC => ?_⟩
    have hd5 : H5 d = some (.dK []) := s5 _ _ (s4 _ _ upd_same)
    refine ⟨hd5, [(.inr "R", .ref pR), (.inr "C", .ref pC)], rfl, by show 2 ≤ 15; decide, ?_⟩
    have kd : KT K H5 (upd H5 d (.dK (mergeK [] [(.inr "R", .ref pR), (.inr "C", .ref pC)]))) := fun x ys z => by
      rcases z with (z | ⟨ob, z⟩) | z
      · exact .inl (.inl (by rw [upd_ne (ne_of z hd5 (by intro y; cases y))]; exact z))
      · exact .inl (.inr ⟨ob, by rw [upd_ne (ne_of z hd5 (by intro y; cases y))]; exact z⟩)
      · exact .inr z
    have hR6 : SqT K (upd H5 d (.dK (mergeK [] [(.inr "R", .ref pR), (.inr "C", .ref pC)]))) pR yR := kd _ _ (same_seqT s5 hR)
    have hyR6 := tupI_kt kd (tupI_kt (.of_same s5) hyR)
    have hC6 := kd _ _ hC
    have hyC6 := tupI_kt kd hyC
    have ht6 := kd _ _ (same_seqT ((sd.trans s4).trans s5) ht)
    have s6 : Same H (upd H5 d (.dK (mergeK [] [(.inr "R", .ref pR), (.inr "C", .ref pC)]))) := fun c u e => by
      have e3 := s13 c u e
      rw [upd_ne (ne_of_none e3 nd0)]
      exact s5 _ _ (s4 _ _ (same_new nd0 _ _ e3))
    have hd6 : upd H5 d (.dK (mergeK [] [(.inr "R", .ref pR), (.inr "C", .ref pC)])) d = some (.dK (mergeK [] [(.inr "R", .ref pR), (.inr "C", .ref pC)])) := upd_same
    generalize upd H5 d (.dK (mergeK [] [(.inr "R", .ref pR), (.inr "C", .ref pC)])) = H6 at hR6 hyR6 hC6 hyC6 ht6 s6 hd6
    refine ⟨_, rfl, ?_⟩
    refine ⟨_, rfl, _, rfl, for_it walk_str (fun i σ H' => ∃ (u : Addr) (y5 : Option V), σ = [some (.ref a), some (.ref t), some (.str (wS wd)), some (.ref d), some (.ref u), y5] ∧ Same H6 H' ∧ SqT K H' u ((aft cs (wd.take i) vs).map V.int)) ?_ ?_ ?_ ?_⟩
    · exact ⟨t, none, rfl, Same.refl _, ht6⟩
    · intros
      trivial
    · rintro i x σ H' H'' hi ⟨u, y5, rfl, sm, hu⟩ ⟨rfl, c, hcc, rfl⟩
      obtain ⟨b, hb, rfl⟩ := wS_at hcc
      rw [ltr_str]
      obtain ⟨pg, yg, hv, hg, hyg⟩ : ∃ pg yg, valV (mergeK [] [(.inr "R", .ref pR), (.inr "C", .ref pC)]) (.inr (if b = true then "C" else "R")) = some (.ref pg) ∧ SqT K H'' pg yg ∧ Paired (TupI K H'') yg (lnsOf b cs) := by
        cases b
        · exact ⟨pR, yR, by rfl, same_seqT sm hR6, tupI_kt (.of_same sm) hyR6⟩
        · exact ⟨pC, yC, by rfl, same_seqT sm hC6, tupI_kt (.of_same sm) hyC6⟩
      have al : (aft cs (wd.take i) vs).length = cs.length := by rw [aft_len, v9.len]
      refine ⟨_, rfl, _, rfl, d, .ref pg, rfl, .inl ⟨_, .inr (if b = true then "C" else "R"), Rd.of (sm _ _ hd6), rfl, hv.symm⟩, _, rfl, pg, u, yg, _, _, rfl, hg, hyg, lns_ok hl al, hu, fun G u' sG hu' _ => ?_⟩
      refine ⟨u', _, rfl, sm.trans sG, ?_⟩
      rw [List.take_add_one, hb]
      show SqT K G u' ((aft cs (wd.take i ++ [b]) vs).map V.int)
      rw [aft_more]
      exact hu'
    · rintro σ H' ⟨u, y5, rfl, sm, hu⟩
      have e : wd.take (wS wd).cps.size = wd := List.take_of_length_le (by
        have := wS_len wd
        show wd.length ≤ (wS wd).length
        omega)
      rw [e] at hu
      exact ⟨_, rfl, q H' u (s6.trans sm) hu⟩
end
end KS
namespace KS
open PySem PySem.Spec PyProof.Rows L2 RZ
theorem ten30 : (10 : Int) ^ 30 = 1000000000000000000000000000000 := by decide +kernel
abbrev sIsWord : Stmt := topS 37
theorem scIsWord : FnScope ["value"] ["value"] (defScope sIsWord) := ⟨rfl, rfl, rfl, by decide +kernel, rfl, by decide +kernel, by decide +kernel⟩
abbrev sIsRep : Stmt := topS 48
theorem scIsRep : FnScope ["value"] ["value"] (defScope sIsRep) := ⟨rfl, rfl, rfl, by decide +kernel, rfl, by decide +kernel, by decide +kernel⟩
abbrev sCS : Stmt := topS 49
abbrev nCS : List Str := ["step", "depth", "room", "count", "inner", "more"]
theorem scCS : FnScope nCS ["step", "depth", "room"] (defScope sCS) := ⟨rfl, rfl, rfl, by decide +kernel, rfl, by decide +kernel, by decide +kernel⟩
abbrev sCP : Stmt := topS 50
abbrev nCP : List Str := ["program", "room", "index", "step", "count"]
theorem scCP : FnScope nCP ["program"] (defScope sCP) := ⟨rfl, rfl, rfl, by decide +kernel, rfl, by decide +kernel, by decide +kernel⟩
section
variable {P : Program} {w : World} {K : PySem.W.Frag} {mg : Str → Option Value} {base : Heap}
theorem ok_isWordG {f fC C : Addr} {fd fdC : FuncData} (F : Fun K "is_word" "is_word" sIsWord f fd) (GC : FnOk P w K mg base CX0 2 fC fdC ["word"] spCheckW) (bC : Binds K fdC ["word"] []) (gC : mg "check_word" = some (.ref fC)) (kC : PySem.W.keepIn K (.ref fC) = true)
    (gX : mg "InvalidWord" = some (.ref C)) : FnOk P w K mg base CX0 3 f fd ["value"] spIsWordG := by
  refine F.ok scIsWord (fun vs H Q E h => ?_) (fun cdv A outer s H vs Q E hr h => ?_)
  · obtain ⟨l, rfl, _⟩ := h
    rfl
  · obtain ⟨l, rfl, hl, q⟩ := h
    refine ⟨_, pss_cons (ps_try_only (tb := fun W => tDrop (tCall spCheckW [] E0 (tCons (tVar 0) tNil))) (ts := fun _ _ _ => tRet (tC (.bl false))) (Wout := fun _ _ _ _ => False) rfl rfl ⟨rfl, by decide, Or.inl gX⟩ takes0
        (fun W pn xe tk _ => pss_one (ps_expr (by exact (pe_call GC hr (by rfl) gC kC bC .nil pass0 (by exact (pa_cons (pv 0) pa_nil))))))
        (fun a oe cls d pn _ _ => pss_one (ps_ret pe_bl)))
      (pss_one (ps_ret pe_bl)), ?_⟩
    exact ⟨_, rfl, l, rfl, hl, fun H' s' => q H' s'⟩
theorem ok_isRep {f fB : Addr} {fd fdB : FuncData} {tk : Tok} (F : Fun K "is_repeat" "is_repeat" sIsRep f fd) (GB : FnOk P w K mg base CX0 2 fB fdB ["value", "least", "most"] spBetween) (bB : Binds K fdB ["value", "least", "most"] []) (gB : mg "is_between" = some (.ref fB)) (kB : PySem.W.keepIn K (.ref fB) = true)
    (mi : mg "isinstance" = none) (mT : mg "tuple" = none) (ml : mg "len" = none) (mM : mg "MOST_TIMES" = some (.int 1000000000000000000000000000000 tk)) : FnOk P w K mg base CX0 3 f fd ["value"] (spIsRep K) := by
  refine F.ok scIsRep (fun vs H Q E h => ?_) (fun cdv A outer s H vs Q E hr h => ?_)
  · obtain ⟨t, b, n, ys, rfl, _⟩ := h
    rfl
  · obtain ⟨t, b, n, ys, rfl, ht, hb, n1, n2, q⟩ := h
    refine ⟨_, pss_cons (ps_if (PW.pt (pw_or (pt_not (pt_val (pe_callB call_isi (by rfl) mi (by decide +kernel) (pa_cons (pv 0) (pa_cons (pe_bltn (v := .ty "tuple") (by rfl) mT (by decide +kernel) rfl) pa_nil)))))
          (pw_or (pt_cmpR op_ne (pe_callB call_len_seq (by rfl) ml PySem.boot_len (pa_cons (pv 0) pa_nil)) pe_int (nomark _))
          (pw_or1 (pt_cmpR op_ne (pe_ix ix_tup (pv 0) pe_int (fun _ _ => rfl)) pe_str (nomark _)))))) (pss_one ps_never) pss_nil)
      (pss_one (ps_ret (pe_and (pe_call GB hr (by rfl) gB kB bB .nil pass0 (pa_cons (pe_ix ix_tup (pv 0) pe_int (fun _ _ => rfl)) (pa_cons pe_int (pa_cons (pe_glob (v := .int 1000000000000000000000000000000) (by rfl) mM ⟨_, rfl⟩) pa_nil))))
        (pe_one (pe_callB call_isi (by rfl) mi (by decide +kernel) (pa_cons (pe_ix ix_tup (pv 0) pe_int (fun _ _ => rfl)) (pa_cons (pe_bltn (v := .ty "tuple") (by rfl) mT (by decide +kernel) rfl) pa_nil))))))), ?_⟩
    refine ⟨_, rfl, _, _, _, _, true, rfl, .ty "tuple", tyx_tup ht, kit_ty (by decide +kernel), true, rfl, ?_⟩
    refine ⟨_, rfl, t, _, rfl, .inr ht, rfl, false, rfl, ?_⟩
    refine ⟨_, rfl, t, _, 0, .str "repeat", rfl, rfl, ht, rfl, rfl, false, by simp, ?_⟩
    refine ⟨_, rfl, t, _, 1, .int n, rfl, rfl, ht, rfl, n, 1, _, rfl, n1, (by have := ten30; omega), true, rfl, ?_⟩
    refine ⟨_, rfl, t, _, 2, .ref b, rfl, rfl, ht, rfl, _, _, _, _, true, rfl, .ty "tuple", tyx_tup hb, kit_ty (by decide +kernel), q⟩
theorem ok_countS {f fW fR : Addr} {fd fdW fdR : FuncData} {tk : Tok} (F : Fun K "count_steps" "count_steps" sCS f fd) (bS : Binds K fd ["step", "depth", "room"] []) (gS : mg "count_steps" = some (.ref f)) (kS : PySem.W.keepIn K (.ref f) = true)
    (GW : FnOk P w K mg base CX0 3 fW fdW ["value"] spIsWordG) (bW : Binds K fdW ["value"] []) (gW : mg "is_word" = some (.ref fW)) (kW : PySem.W.keepIn K (.ref fW) = true)
    (GR : FnOk P w K mg base CX0 3 fR fdR ["value"] (spIsRep K)) (bR : Binds K fdR ["value"] []) (gR : mg "is_repeat" = some (.ref fR)) (kR : PySem.W.keepIn K (.ref fR) = true)
    (mi : mg "isinstance" = none) (mS : mg "str" = none) (mM : mg "MOST_NESTED" = some (.int 5 tk)) : ∀ m, FnOk P w K mg base CX0 (m + 5) f fd ["step", "depth", "room"] (spCS K m)
  | 0 => by
    refine F.ok scCS (fun vs H Q E h => ?_) (fun cdv A outer s H vs Q E hr h => ?_)
    · obtain ⟨v, s, d, room, rfl, _⟩ := h
      rfl
    · obtain ⟨v, st, d, room, rfl, hs, ok, hn, d1, d5, hr', q⟩ := h
      have hr3 : Room 3 _ := hr.mono (by omega)
      refine ⟨_, pss_cons (ps_if (pt_cmpR op_lt (pv 2) pe_int (nomark _)) (pss_one ps_never) pss_nil)
        (pss_cons (ps_if (pt_val (pe_callB call_isi (by rfl) mi (by decide +kernel) (pa_cons (pv 0) (pa_cons (pe_bltn (v := .ty "str") (by rfl) mS (by decide +kernel) rfl) pa_nil))))
          (pss_one (ps_ret (pe_ifExp (PW.pt (pw_and (pt_cmpR op_ne (pv 0) pe_str (nomark _)) (pw_and1 (pt_val (pe_call GW hr3 (by rfl) gW kW bW .nil pass0 (pa_cons (pv 0) pa_nil)))))) pe_int pe_non))) pss_nil)
        (pss_cons ps_never (pss_cons ps_never (pss_cons ps_never (pss_one ps_never))))), ?_⟩
      have sp := steps_pos st
      refine ⟨_, rfl, _, _, rfl, rfl, false, bl_false (show ¬ room < 1 by omega), ?_⟩
      cases hs with
      | w l =>
        simp only [Stp.ok] at ok
        refine ⟨_, rfl, _, _, _, _, true, rfl, .ty "str", .base (.str _), kit_ty (by decide +kernel), true, rfl, ?_⟩
        refine ⟨_, rfl, rfl, true, ?_, ?_⟩
        · exact wS_ne ok.1
        refine ⟨_, rfl, l, rfl, ok.2, fun H' s' => ⟨true, rfl, ?_⟩⟩
        exact q H' s'
      | r h1 h2 h3 =>
        simp only [Stp.nest] at hn
        omega
  | m + 1 => by
    have GS := ok_countS F bS gS kS GW bW gW kW GR bR gR kR mi mS mM m
    refine F.ok scCS (fun vs H Q E h => ?_) (fun cdv A outer s H vs Q E hr h => ?_)
    · obtain ⟨v, s, d, room, rfl, _⟩ := h
      rfl
    · obtain ⟨v, st, d, room, rfl, hs, ok, hn, d1, d5, hr', q⟩ := h
      have nd := scCS.nd
      have hr3 : Room 3 _ := hr.mono (by omega)
      refine ⟨_, pss_cons (ps_if (pt_cmpR op_lt (pv 2) pe_int (nomark _)) (pss_one ps_never) pss_nil)
        (pss_cons (ps_if (pt_val (pe_callB call_isi (by rfl) mi (by decide +kernel) (pa_cons (pv 0) (pa_cons (pe_bltn (v := .ty "str") (by rfl) mS (by decide +kernel) rfl) pa_nil))))
          (pss_one (ps_ret (pe_ifExp (PW.pt (pw_and (pt_cmpR op_ne (pv 0) pe_str (nomark _)) (pw_and1 (pt_val (pe_call GW hr3 (by rfl) gW kW bW .nil pass0 (pa_cons (pv 0) pa_nil)))))) pe_int pe_non))) pss_nil)
        (pss_cons (ps_if (PW.pt (pw_or (pt_cmpR op_eq (pv 1) (pe_glob (v := .int 5) (by rfl) mM ⟨_, rfl⟩) (nomark _)) (pw_or1 (pt_not (pt_val (pe_call GR hr3 (by rfl) gR kR bR .nil pass0 (pa_cons (pv 0) pa_nil))))))) (pss_one ps_never) pss_nil)
        (pss_cons (ps_set (i := 3) nd rfl (.inl rfl) pe_int)
        (pss_cons (ps_for PassesOwn.never rfl (pi_tup (pe_ix ix_tup (pv 0) pe_int (fun _ _ => rfl))) (pg_name (i := 4) nd rfl (.inl rfl))
          (pss_cons (ps_set (i := 5) nd rfl (.inl rfl) (pe_call GS hr (by rfl) gS kS bS .nil pass0 (pa_cons (pv 4) (pa_cons (pe_op op_add (pv 1) pe_int) (pa_cons (pe_op op_sub (pv 2) (pv 3)) pa_nil)))))
          (pss_cons (ps_if (pt_cmpR op_isN (pv 5) pe_non (nomark _)) (pss_one ps_never) pss_nil)
          (pss_one (ps_aug (i := 3) nd rfl (.inl rfl) (pv 5) iop_add)))))
        (pss_one (ps_ret (pv 3))))))), ?_⟩
      have sp := steps_pos st
      refine ⟨_, rfl, _, _, rfl, rfl, false, bl_false (show ¬ room < 1 by omega), ?_⟩
      cases hs with
      | w l =>
        simp only [Stp.ok] at ok
        refine ⟨_, rfl, _, _, _, _, true, rfl, .ty "str", .base (.str _), kit_ty (by decide +kernel), true, rfl, ?_⟩
        refine ⟨_, rfl, rfl, true, ?_, ?_⟩
        · exact wS_ne ok.1
        refine ⟨_, rfl, l, rfl, ok.2, fun H' s' => ⟨true, rfl, ?_⟩⟩
        exact q H' s'
      | @r t b n xs ss h1 h2 h3 =>
        simp only [Stp.ok] at ok
        simp only [Stp.nest] at hn d5
        simp only [Stp.steps] at hr' q
        refine ⟨_, rfl, _, _, _, _, false, rfl, .ty "str", tyx_tup h1, kit_ty (by decide +kernel), false, rfl, ?_⟩
        refine ⟨_, rfl, rfl, false, ?_, ?_⟩
        · exact congrArg V.bl (decide_eq_false (fun e => by have := V.int.inj e; omega))
        refine ⟨_, rfl, t, b, n, xs, rfl, h1, h2, ok.1, ok.2.1, true, rfl, ?_⟩
        refine ⟨_, rfl, t, _, 2, .ref b, rfl, rfl, h1, rfl, b, rfl, ⟨_, h2⟩, ?_⟩
        refine for_it (walk_tup (K := K) (a := b) (xs := xs)) (fun i σ G => ∃ y4 y5 : Option V, σ = [some (.ref t), some (.int d), some (.int room), some (.int ((1 + stepsL (ss.take i) : Nat) : Int)), y4, y5] ∧ Same H G) ?_ ?_ ?_ ?_
        · exact ⟨none, none, rfl, Same.refl _⟩
        · rintro i σ G _ ⟨_, _, _, sm⟩
          exact same_seqT sm h2
        · rintro i x σ G G' hi ⟨y4, y5, rfl, sm⟩ ⟨rfl, hx⟩
          have hx : xs[i]? = some x := hx
          obtain ⟨s1, e1, a1⟩ := h3.get hx
          have m1 := List.mem_of_getElem? e1
          obtain ⟨t1, t2⟩ := stepsL_take e1
          have n1 := nest_mem m1
          refine ⟨_, rfl, _, rfl, _, _, rfl, rfl, _, rfl, _, rfl, _, _, rfl, rfl, x, s1, d + 1, _, rfl, a1.kt (.of_same sm), ok_mem ok.2.2 m1, by omega, by omega, by omega, by omega, fun G1 s2 => ?_⟩
          refine ⟨_, rfl, rfl, false, rfl, ?_⟩
          refine ⟨_, rfl, _, rfl, _, _, rfl, rfl, ?_⟩
          refine ⟨some x, some (.int (s1.steps : Nat)), ?_, sm.trans s2⟩
          rw [t1]
          have e : ((1 + stepsL (ss.take i) : Nat) : Int) + ((s1.steps : Nat) : Int) = ((1 + (stepsL (ss.take i) + s1.steps) : Nat) : Int) := by omega
          exact congrArg (fun z => [some (V.ref t), some (V.int d), some (V.int room), some (V.int z), some x, some (V.int (s1.steps : Nat))]) e
        · rintro σ G ⟨y4, y5, rfl, sm⟩
          rw [h3.len, List.take_length]
          exact ⟨_, rfl, q G sm⟩
theorem ok_checkP {f fS : Addr} {fd fdS : FuncData} {tk : Tok} (F : Fun K "check_program" "check_program" sCP f fd)
    (GS : FnOk P w K mg base CX0 9 fS fdS ["step", "depth", "room"] (spCS K 4)) (bS : Binds K fdS ["step", "depth", "room"] []) (gS : mg "count_steps" = some (.ref fS)) (kS : PySem.W.keepIn K (.ref fS) = true)
    (mi : mg "isinstance" = none) (mT : mg "tuple" = none) (me : mg "enumerate" = none) (mM : mg "MOST_STEPS" = some (.int 60 tk)) : FnOk P w K mg base CX0 10 f fd ["program"] (spCP K) := by
  refine F.ok scCP (fun vs H Q E h => ?_) (fun cdv A outer s H vs Q E hr h => ?_)
  · obtain ⟨t, ss, rfl, _⟩ := h
    rfl
  · obtain ⟨t, ss, rfl, ⟨xs, hx, hs⟩, ok, hn, hst, q⟩ := h
    have nd := scCP.nd
    refine ⟨_, pss_cons (ps_if (pt_not (pt_val (pe_callB call_isi (by rfl) mi (by decide +kernel) (pa_cons (pv 0) (pa_cons (pe_bltn (v := .ty "tuple") (by rfl) mT (by decide +kernel) rfl) pa_nil))))) (pss_one ps_never) pss_nil)
      (pss_cons (ps_set (i := 1) nd rfl (.inl rfl) (pe_glob (v := .int 60) (by rfl) mM ⟨_, rfl⟩))
      (pss_one (ps_for PassesOwn.never rfl (pi_enumT (by rfl) me (pa_cons (pv 0) pa_nil)) (pg_tup (by rfl) (pgs_cons (pg_name (i := 2) nd rfl (.inl rfl)) (pgs_cons (pg_name (i := 3) nd rfl (.inl rfl)) pgs_nil)))
        (pss_cons (ps_set (i := 4) nd rfl (.inl rfl) (pe_call GS hr (by rfl) gS kS bS .nil pass0 (pa_cons (pv 3) (pa_cons pe_int (pa_cons (pv 1) pa_nil)))))
        (pss_cons (ps_if (pt_cmpR op_isN (pv 4) pe_non (nomark _)) (pss_one ps_never) pss_nil)
        (pss_one (ps_aug (i := 1) nd rfl (.inl rfl) (pv 4) iop_sub))))))), ?_⟩
    refine ⟨_, rfl, _, _, _, _, true, rfl, .ty "tuple", tyx_tup hx, kit_ty (by decide +kernel), true, rfl, ?_⟩
    refine ⟨_, rfl, t, xs, rfl, hx, for_enumT (K := K) (a := t) (xs := xs) (fun i σ G => Same H G ∧ ∃ y2 y3 y4, σ = [some (.ref t), some (.int (60 - (stepsL (ss.take i) : Nat))), y2, y3, y4]) ?_ ?_ ?_ ?_⟩
    · exact ⟨Same.refl _, none, none, none, rfl⟩
    · rintro i σ G _ ⟨sm, _⟩
      exact same_seqT sm hx
    · rintro i x σ G T hi ⟨sm, y2, y3, y4, rfl⟩ nT
      obtain ⟨s1, e1, a1⟩ := hs.get hi
      have m1 := List.mem_of_getElem? e1
      obtain ⟨t1, t2⟩ := stepsL_take e1
      have n1 := nest_mem m1
      have sT := same_new (o := .tup [.int (i : Nat), x]) nT
      have s2 := sm.trans sT
      refine ⟨T, _, rfl, SqT.of upd_same, rfl, _, _, rfl, _, _, rfl, rfl, ?_⟩
      refine ⟨_, rfl, _, rfl, x, s1, 1, _, rfl, a1.kt (.of_same s2), ok_mem ok m1, by omega, by omega, by omega, by omega, fun G1 s3 => ?_⟩
      refine ⟨_, rfl, rfl, false, rfl, ?_⟩
      refine ⟨_, rfl, _, rfl, _, _, rfl, rfl, ?_⟩
      refine ⟨s2.trans s3, some (.int (i : Nat)), some x, some (.int (s1.steps : Nat)), ?_⟩
      rw [t1]
      have e : (60 - ((stepsL (ss.take i) : Nat) : Int)) - ((s1.steps : Nat) : Int) = 60 - ((stepsL (ss.take i) + s1.steps : Nat) : Int) := by omega
      exact congrArg (fun z => [some (V.ref t), some (V.int z), some (V.int (i : Nat)), some x, some (V.int (s1.steps : Nat))]) e
    · rintro σ G ⟨sm, _⟩
      exact q G sm
end
end KS
namespace KS
open PySem PySem.Spec PyProof.Rows L2 RZ
/-- a word, however often -/
def rRepH : R2 := fun x y H Q => ∃ (wd : List Bool) (n : Int), x = .str (wS wd) ∧ y = .int n ∧ 1 ≤ n ∧ n ≤ 1000 ∧ wd.length ≤ 1000 ∧ Q (.str (wS (List.replicate n.toNat wd).flatten)) H
theorem op_repH {X : Cx} : OpR X (binaryOp .Mult) rRepH := by
  intro pins s σ H x y v u Q I rx ry h
  obtain ⟨wd, n, rfl, rfl, n0, n1, w1, q⟩ := h
  obtain ⟨t, rfl⟩ := rx
  obtain ⟨t', rfl⟩ := ry
  have e1 : ¬ (n < 1) := by omega
  have hl := wS_len wd
  have hm : wd.length * n.toNat ≤ 1000000 := Nat.mul_le_mul w1 (show n.toNat ≤ 1000 by omega)
  refine P.mul_str ?_ ?_ ?_ ?_
  · have h1 : ¬ n < -(2 ^ 63 : Int) := by omega
    have h2 : ¬ n ≥ 2 ^ 63 := by omega
    rw [decide_eq_false h1, decide_eq_false h2]
    rfl
  · intro _ _
    rw [hl]
    have : (wd.length : Int) ≤ (2 ^ 63 - 1) / n := (Int.le_ediv_iff_mul_le (by omega)).mpr (by
      have : ((wd.length * n.toNat : Nat) : Int) ≤ 1000000 := by omega
      rw [Int.natCast_mul, Int.toNat_of_nonneg (by omega)] at this
      omega)
    omega
  · intro _ _
    refine decide_eq_false ?_
    rw [hl, sizeLine_eq]
    omega
  · rw [if_neg e1]
    by_cases z : ((n == 1) || ((wS wd).length == 0)) = true
    · rw [if_pos z]
      have ez : wS wd = wS (List.replicate n.toNat wd).flatten := by
        rw [Bool.or_eq_true] at z
        rcases z with z | z
        · have : n = 1 := by simpa using z
          subst this
          show wS wd = wS (wd ++ [])
          rw [List.append_nil]
        · rw [hl] at z
          have : wd = [] := List.length_eq_zero_iff.mp (by simpa using z)
          subst this
          congr 1
          have : ∀ k : Nat, (List.replicate k ([] : List Bool)).flatten = [] := fun k => by
            induction k with
            | zero => rfl
            | succ k ih => rw [List.replicate_succ, List.flatten_cons, ih]; rfl
          rw [this]
      rw [ez] at *
      first | exact ⟨.str (wS (List.replicate n.toNat wd).flatten), H, I, ⟨_, rfl⟩, q⟩ | exact ⟨.str (wS (List.replicate n.toNat wd).flatten), H, I.tok _, ⟨_, rfl⟩, q⟩
    · rw [if_neg z]
      have ez : (⟨(List.replicate n.toNat (wS wd).cps).foldl (· ++ ·) #[]⟩ : Str) = wS (List.replicate n.toNat wd).flatten := by
        show (⟨(List.replicate n.toNat (wd.map ltr).toArray).foldl (· ++ ·) #[]⟩ : Str) = _
        rw [rep_words]
        unfold wS
        simp
      rw [ez]
      refine ⟨?_, .str (wS (List.replicate n.toNat wd).flatten), H, I.tok _, ⟨_, rfl⟩, q⟩
      rw [wS_len, List.length_flatten, List.map_replicate, List.sum_replicate_nat, sizeLine_eq, Nat.mul_comm]
      omega
theorem walk_enumS {z : Str} : Walk (IteS z) z.cps.size (fun _ => True) (fun i H v H' => ∃ (T : Addr) (c : Nat), v = .ref T ∧ H T = none ∧ z.cps[i]? = some c ∧ H' = upd H T (.tup [.int (i : Nat), .str ⟨#[c]⟩])) :=
  ⟨fun _ _ h _ => h, fun _ _ => rfl, fun _ _ _ _ _ _ y => y⟩
theorem wS_cut4 (a : List Bool) : cutS (wS a) none (some (400 : Int)) = wS (a.take 400) := by
  have hl := wS_len a
  unfold cutS
  have e0 : HT.sIx (wS a).length 0 none = 0 := rfl
  have e1 : HT.sIx (wS a).length (wS a).length (some ((400 : Nat) : Int)) = min 400 a.length := by
    rw [HT.sIx_nat, hl]
  have e1' : HT.sIx (wS a).length (wS a).length (some (400 : Int)) = min 400 a.length := e1
  rw [e0, e1']
  show (⟨(((a.map ltr).toArray.toList.drop 0).take (min 400 a.length - 0)).toArray⟩ : Str) = ⟨((a.take 400).map ltr).toArray⟩
  rw [List.toList_toArray, List.drop_zero, Nat.sub_zero, ← List.map_take]
  congr 2
  by_cases c : 400 ≤ a.length
  · rw [Nat.min_eq_left c]
  · rw [Nat.min_eq_right (by omega), List.take_of_length_le (Nat.le_refl _), List.take_of_length_le (by omega)]
theorem flL_snoc : ∀ (b : List Stp) (s : Stp) (acc : List Bool), flL (b ++ [s]) acc = (sq (flL b acc ++ s.fl)).take 400
  | [], s, acc => by
    rw [List.nil_append]
    simp only [flL]
  | x :: b, s, acc => by
    rw [List.cons_append]
    simp only [flL]
    exact flL_snoc b s _
theorem rp_len {w : List Bool} (h : w.length ≤ 400) (n : Nat) : (rpN w n).length ≤ 170000 := by
  unfold rpN
  split
  · omega
  · rw [List.length_flatten, List.map_replicate, List.sum_replicate_nat]
    have h1 : min n (400 / (w.length - 1) + 1) ≤ 401 := by
      have := Nat.div_le_self 400 (w.length - 1)
      omega
    have := Nat.mul_le_mul h1 h
    omega
def spSqz : Sp := fun xs H Q _ => ∃ l : List Bool, xs = [.str (wS l)] ∧ l.length ≤ 200000 ∧ ∀ H', Same H H' → Q (.str (wS (sq l))) H'
def spRpt : Sp := fun xs H Q _ => ∃ (l : List Bool) (n : Int), xs = [.str (wS l), .int n] ∧ l.length ≤ 400 ∧ 1 ≤ n ∧ Q (.str (wS (rpN l n.toNat))) H
def spFlat (K : PySem.W.Frag) (m : Nat) : Sp := fun xs H Q _ => ∃ (t : Addr) (ss : List Stp), xs = [.ref t] ∧ PgA K H t ss ∧ okL ss ∧ nestL ss ≤ m ∧ ∀ H', Same H H' → Q (.str (wS (flL ss []))) H'
def spRun (K : PySem.W.Frag) : Sp := fun xs H Q _ => ∃ (a t g : Addr) (cs : List Cell) (vs : List Int) (ss : List Stp), xs = [.ref a, .ref t, .ref g] ∧ PlanAt K H a cs ∧ Good cs ∧ cs.length ≤ 24 ∧ SqT K H t (vs.map V.int) ∧ Vals9 cs.length vs ∧ PgA K H g ss ∧ okL ss ∧ nestL ss ≤ 4 ∧ stepsL ss ≤ 60 ∧
  ∀ H' u, Same H H' → SqT K H' u ((aft cs (spellL ss) vs).map V.int) → Q (.ref u) H'
abbrev sSqz : Stmt := topS 44
abbrev nSqz : List Str := ["word", "index", "letter"]
theorem scSqz : FnScope nSqz ["word"] (defScope sSqz) := ⟨rfl, rfl, rfl, by decide +kernel, rfl, by decide +kernel, by decide +kernel⟩
abbrev sRpt : Stmt := topS 51
abbrev nRpt : List Str := ["word", "times", "enough"]
theorem scRpt : FnScope nRpt ["word", "times"] (defScope sRpt) := ⟨rfl, rfl, rfl, by decide +kernel, rfl, by decide +kernel, by decide +kernel⟩
abbrev sFlat : Stmt := topS 52
abbrev nFlat : List Str := ["program", "word", "step", "part"]
theorem scFlat : FnScope nFlat ["program"] (defScope sFlat) := ⟨rfl, rfl, rfl, by decide +kernel, rfl, by decide +kernel, by decide +kernel⟩
abbrev sRun : Stmt := topS 53
theorem scRun : FnScope ["plan", "filling", "program"] ["plan", "filling", "program"] (defScope sRun) := ⟨rfl, rfl, rfl, by decide +kernel, rfl, by decide +kernel, by decide +kernel⟩
section
variable {P : Program} {w : World} {K : PySem.W.Frag} {mg : Str → Option Value} {base : Heap}
theorem ok_squeezed {f : Addr} {fd : FuncData} (F : Fun K "squeezed" "squeezed" sSqz f fd) (me : mg "enumerate" = none) : FnOk P w K mg base CX0 1 f fd ["word"] spSqz := by
  refine F.ok scSqz (fun vs H Q E h => ?_) (fun cdv A outer s H vs Q E hr h => ?_)
  · obtain ⟨l, rfl, _⟩ := h
    rfl
  · obtain ⟨l, rfl, hl, q⟩ := h
    have nd := scSqz.nd
    refine ⟨_, pss_one (ps_ret (pe_m1 PySem.F.slot_str_join PySem.F.type_str_join mt_join pe_str
      (pe_lc (own := [("index", 1), ("letter", 2)]) rfl nd (pi_enumS (by rfl) me (pa_cons (pv 0) pa_nil)) (blkOk_by (N := nSqz) (sc := defScope sSqz) (by decide +kernel))
        (fun _ _ _ _ _ => pg_tupK (K := K) (n := 2) rfl (by rfl) (pgs_cons (pg_name (i := 1) nd rfl (Or.inl rfl)) (pgs_cons (pg_name (i := 2) nd rfl (Or.inl rfl)) pgs_nil)))
        (fun _ _ _ _ _ => pts_one (PW.pt (pw_or (pt_cmpR op_eq (pv 1) pe_int (nomark _)) (pw_or1 (pt_cmpR op_ne (pv 2) (pe_ix ix_str (pv 0) (pe_op op_sub (pv 1) pe_int) (fun _ _ => rfl)) (nomark _))))))
        (fun _ _ _ _ _ => pv 2)))), ?_⟩
    have wl := wS_len l
    refine ⟨⟨_, rfl⟩, _, rfl, _, rfl, fun D nD => ?_⟩
    refine lc_it walk_enumS (fun i G => G D = some (.lst (((sq (l.take i)).map lS).map V.str)) ∧ (sq (l.take i)).length ≤ i ∧ (∀ b o, b ≠ D → H b = some o → G b = some o)) ?_ ?_ ?_ ?_
    · exact ⟨upd_same, Nat.le_refl _, fun b o n e => by rw [upd_ne n]; exact e⟩
    · intros
      trivial
    · rintro i x G G' hi ⟨a1, a2, a3⟩ ⟨T, c, rfl, nT, hc, rfl⟩
      obtain ⟨b, hb, rfl⟩ := wS_at hc
      have sT := same_new (o := .tup [.int (i : Nat), .str ⟨#[ltr b]⟩]) nT
      have a1' := sT _ _ a1
      have il := (List.getElem?_eq_some_iff.mp hb).1
      have tk : l.take (i + 1) = l.take i ++ [b] := by rw [List.take_add_one, hb]; rfl
      have kG : ∀ b' o, b' ≠ D → H b' = some o → upd G T (.tup [.int (i : Nat), .str ⟨#[ltr b]⟩]) b' = some o := fun b' o n e => sT _ _ (a3 b' o n e)
      have put : ((sq (l.take i)).getLast? = some b → False) → ∃ acc, upd G T (.tup [.int (i : Nat), .str ⟨#[ltr b]⟩]) D = some (.lst acc) ∧ acc.length < sizeLine ∧ (upd (upd G T (.tup [.int (i : Nat), .str ⟨#[ltr b]⟩])) D (.lst (acc ++ [V.str ⟨#[ltr b]⟩])) D = some (.lst (((sq (l.take (i + 1))).map lS).map V.str)) ∧ (sq (l.take (i + 1))).length ≤ i + 1 ∧ (∀ b' o, b' ≠ D → H b' = some o → upd (upd G T (.tup [.int (i : Nat), .str ⟨#[ltr b]⟩])) D (.lst (acc ++ [V.str ⟨#[ltr b]⟩])) b' = some o)) := fun ne => by
        have e : sq (l.take (i + 1)) = sq (l.take i) ++ [b] := by
          rw [tk, sq_snoc]
          unfold sqF
          rw [if_neg ne]
        refine ⟨_, a1', ?_, ?_, ?_, fun b' o n e' => ?_⟩
        · rw [List.length_map, List.length_map, sizeLine_eq]
          omega
        · rw [upd_same, e, List.map_append, List.map_append]
          rfl
        · rw [e, List.length_append]
          show _ + 1 ≤ _
          omega
        · rw [upd_ne n]
          exact kG b' o n e'
      refine ⟨T, _, rfl, SqT.of upd_same, rfl, _, _, rfl, _, _, rfl, rfl, rfl, ?_⟩
      refine ⟨_, rfl, rfl, _, rfl, ite2 (fun e => ?_) (fun e => ?_)⟩
      · have e0 : i = 0 := by
          have := of_decide_eq_true e
          have := V.int.inj this
          omega
        refine ⟨_, rfl, put (fun z => ?_)⟩
        subst e0
        cases z
      · have e0 : i ≠ 0 := fun z => e (decide_eq_true (by rw [z]; rfl))
        obtain ⟨j, rfl⟩ : ∃ j, i = j + 1 := ⟨i - 1, by omega⟩
        have hj : l[j]? = some l[j] := List.getElem?_eq_getElem (by omega)
        have ej : ((j + 1 : Nat) : Int) - 1 = ((j : Nat) : Int) := by omega
        have lst : (sq (l.take (j + 1))).getLast? = some l[j] := by
          have : l.take (j + 1) = l.take j ++ [l[j]] := by rw [List.take_add_one, hj]; rfl
          rw [this, sq_snoc]
          exact sqF_last _ _
        have at_ : atI (wS l).cps.toList (((j + 1 : Nat) : Int) - 1) = some (ltr l[j]) := by
          rw [ej]
          refine atI_nat ?_
          show (l.map ltr).toArray.toList[j]? = _
          rw [List.toList_toArray, List.getElem?_map, hj]
          rfl
        refine ⟨_, rfl, _, rfl, _, rfl, _, _, rfl, rfl, _, _, ltr l[j], rfl, rfl, by rw [wl, sizeLine_eq]; omega, at_, rfl, ?_⟩
        by_cases cc : l[j] = b
        · refine ⟨false, ?_, ?_⟩
          · rw [cc]
            simp
          refine ⟨?_, ?_, kG⟩
          · rw [a1', tk, sq_snoc]
            unfold sqF
            rw [lst, if_pos (by rw [cc])]
          · rw [tk, sq_snoc]
            unfold sqF
            rw [lst, if_pos (by rw [cc])]
            omega
        · refine ⟨true, ?_, ?_⟩
          · have : ¬ V.str (⟨#[ltr b]⟩ : Str) = V.str ⟨#[ltr l[j]]⟩ := fun z => by
              have z := V.str.inj z
              have z2 : ltr b = ltr l[j] := by
                have := congrArg Str.cps z
                simpa using this
              apply cc
              cases h1 : l[j] <;> cases b <;> rw [h1] at z2 <;> first | rfl | (cases z2) | (exact absurd z2 (by decide))
            rw [decide_eq_false this]
            rfl
          refine ⟨_, rfl, put (fun z => ?_)⟩
          rw [lst] at z
          exact cc (Option.some.inj z)
    · rintro G ⟨a1, a2, a3⟩
      have ez : (wS l).cps.size = l.length := wl
      rw [ez, List.take_length] at a1 a2
      refine ⟨"", D, (sq l).map lS, rfl, rfl, .inl (SqL.of a1), ?_, ?_⟩
      · rw [lS_sum]
        show (sq l).length + ((sq l).map lS).length * 0 ≤ 16777216
        omega
      rw [join_letters]
      exact q G fun b o e => a3 b o (ne_of_none e nD) e
theorem ok_repeated {f : Addr} {fd : FuncData} {tk : Tok} (F : Fun K "repeated" "repeated" sRpt f fd) (ml : mg "len" = none) (mn : mg "min" = none) (mM : mg "MOST_LETTERS" = some (.int 400 tk)) : FnOk P w K mg base CX0 1 f fd ["word", "times"] spRpt := by
  refine F.ok scRpt (fun vs H Q E h => ?_) (fun cdv A outer s H vs Q E hr h => ?_)
  · obtain ⟨l, n, rfl, _⟩ := h
    rfl
  · obtain ⟨l, n, rfl, hl, hn, q⟩ := h
    have nd := scRpt.nd
    refine ⟨_, pss_cons (ps_if (pt_cmpR op_lt (pe_callB call_len_str (by rfl) ml PySem.boot_len (pa_cons (pv 0) pa_nil)) pe_int (nomark _)) (pss_one (ps_ret (pv 0))) pss_nil)
      (pss_cons (ps_set (i := 2) nd rfl (.inl rfl) (pe_op op_add (pe_op op_fdiv (pe_glob (v := .int 400) (by rfl) mM ⟨_, rfl⟩) (pe_op op_sub (pe_callB call_len_str (by rfl) ml PySem.boot_len (pa_cons (pv 0) pa_nil)) pe_int)) pe_int))
      (pss_one (ps_ret (pe_op op_repH (pv 0) (pe_callB (call_min2 rfl) (by rfl) mn (by decide +kernel) (pa_cons (pv 1) (pa_cons (pv 2) pa_nil))))))), ?_⟩
    have wl := wS_len l
    refine ⟨_, rfl, _, rfl, by rw [wl, sizeLine_eq]; omega, _, _, rfl, rfl, ?_⟩
    by_cases c : l.length < 2
    · refine ⟨true, bl_true (show (((wS l).length : Nat) : Int) < 2 by rw [wl]; omega), ?_⟩
      have e : rpN l n.toNat = l := by
        unfold rpN
        rw [if_pos c]
      rw [e] at q
      exact ⟨_, rfl, q⟩
    · refine ⟨false, bl_false (show ¬ (((wS l).length : Nat) : Int) < 2 by rw [wl]; omega), ?_⟩
      refine ⟨_, rfl, _, rfl, by rw [wl, sizeLine_eq]; omega, _, _, rfl, rfl, _, _, rfl, rfl, ⟨by rw [wl]; omega, by rw [wl]; omega⟩, _, _, rfl, rfl, ?_⟩
      refine ⟨_, rfl, _, rfl, _, rfl, _, _, rfl, ?_⟩
      have em : (400 : Int) / ((((wS l).length : Nat) : Int) - 1) + 1 = ((400 / (l.length - 1) + 1 : Nat) : Int) := by
        rw [wl]
        have : ((l.length : Int) - 1) = ((l.length - 1 : Nat) : Int) := by omega
        rw [this]
        rfl
      have hmin : (if (400 : Int) / ((((wS l).length : Nat) : Int) - 1) + 1 < n then (400 : Int) / ((((wS l).length : Nat) : Int) - 1) + 1 else n) = ((min n.toNat (400 / (l.length - 1) + 1) : Nat) : Int) := by
        rw [em]
        split <;> omega
      have dl := Nat.div_le_self 400 (l.length - 1)
      have mp : 1 ≤ min n.toNat (400 / (l.length - 1) + 1) := by
        have : 1 ≤ n.toNat := by omega
        exact Nat.le_min.mpr ⟨this, Nat.succ_le_succ (Nat.zero_le _)⟩
      have mq : min n.toNat (400 / (l.length - 1) + 1) ≤ 1000 := Nat.le_trans (Nat.min_le_right _ _) (by omega)
      refine ⟨l, _, rfl, congrArg V.int hmin, by exact_mod_cast mp, by exact_mod_cast mq, by omega, ?_⟩
      rw [Int.toNat_natCast]
      have e : rpN l n.toNat = (List.replicate (min n.toNat (400 / (l.length - 1) + 1)) l).flatten := by
        unfold rpN
        rw [if_neg c]
      rw [← e]
      exact q
end
end KS
namespace KS
open PySem PySem.Spec PyProof.Rows L2 RZ
theorem flL_take {ss : List Stp} {i : Nat} {s : Stp} (h : ss[i]? = some s) : flL (ss.take (i + 1)) [] = (sq (flL (ss.take i) [] ++ s.fl)).take 400 := by
  rw [List.take_add_one, h]
  exact flL_snoc _ s []
section
variable {P : Program} {w : World} {K : PySem.W.Frag} {mg : Str → Option Value} {base : Heap}
theorem ok_flat {f fQ fR : Addr} {fd fdQ fdR : FuncData} {tk : Tok} (F : Fun K "flat_word" "flat_word" sFlat f fd) (bS : Binds K fd ["program"] []) (gS : mg "flat_word" = some (.ref f)) (kS : PySem.W.keepIn K (.ref f) = true)
    (GQ : FnOk P w K mg base CX0 1 fQ fdQ ["word"] spSqz) (bQ : Binds K fdQ ["word"] []) (gQ : mg "squeezed" = some (.ref fQ)) (kQ : PySem.W.keepIn K (.ref fQ) = true)
    (GR : FnOk P w K mg base CX0 1 fR fdR ["word", "times"] spRpt) (bR : Binds K fdR ["word", "times"] []) (gR : mg "repeated" = some (.ref fR)) (kR : PySem.W.keepIn K (.ref fR) = true)
    (mi : mg "isinstance" = none) (mS : mg "str" = none) (mM : mg "MOST_LETTERS" = some (.int 400 tk)) : ∀ m, FnOk P w K mg base CX0 (m + 2) f fd ["program"] (spFlat K m)
  | 0 => by
    refine F.ok scFlat (fun vs H Q E h => ?_) (fun cdv A outer s H vs Q E hr h => ?_)
    · obtain ⟨t, ss, rfl, _⟩ := h
      rfl
    · obtain ⟨t, ss, rfl, ⟨xs, hx, hs⟩, ok, hn, q⟩ := h
      have nd := scFlat.nd
      have hr1 : Room 1 _ := hr.mono (by omega)
      refine ⟨_, pss_cons (ps_set (i := 1) nd rfl (.inl rfl) pe_str)
        (pss_cons (ps_for PassesOwn.never rfl (pi_tup (pv 0)) (pg_name (i := 2) nd rfl (.inl rfl))
          (pss_cons (ps_set (i := 3) nd rfl (.inl rfl) (pe_ifExp (pt_val (pe_callB call_isi (by rfl) mi (by decide +kernel) (pa_cons (pv 2) (pa_cons (pe_bltn (v := .ty "str") (by rfl) mS (by decide +kernel) rfl) pa_nil)))) (pv 2) pe_never))
          (pss_one (ps_set (i := 1) nd rfl (.inl rfl) (pe_slice sl_str (pe_call GQ hr1 (by rfl) gQ kQ bQ .nil pass0 (pa_cons (pe_op op_add_str (pv 1) (pv 3)) pa_nil)) po_none (po_some (pe_glob (v := .int 400) (by rfl) mM ⟨_, rfl⟩)))))))
        (pss_one (ps_ret (pv 1)))), ?_⟩
      refine ⟨_, rfl, t, rfl, ⟨_, hx⟩, ?_⟩
      refine for_it (walk_tup (K := K) (a := t) (xs := xs)) (fun i σ G => ∃ y2 y3 : Option V, σ = [some (.ref t), some (.str (wS (flL (ss.take i) []))), y2, y3] ∧ Same H G) ?_ ?_ ?_ ?_
      · refine ⟨none, none, ?_, Same.refl _⟩
        rw [List.take_zero]
        simp only [flL]
        rw [wS_nil]
        rfl
      · rintro i σ G _ ⟨_, _, _, sg⟩
        exact same_seqT sg hx
      · rintro i x σ G G' hi ⟨y2, y3, rfl, sg⟩ ⟨rfl, hx'⟩
        have hx' : xs[i]? = some x := hx'
        obtain ⟨s1, e1, a1⟩ := hs.get hx'
        have m1 := List.mem_of_getElem? e1
        have n1 := nest_mem m1
        have o1 := ok_mem ok m1
        have fl4 := flL_len (ss.take i) [] (by decide)
        cases a1 with
        | w l =>
          simp only [Stp.ok] at o1
          refine ⟨_, rfl, _, _, _, _, true, rfl, .ty "str", .base (.str _), kit_ty (by decide +kernel), true, rfl, ?_⟩
          refine ⟨_, rfl, ?_⟩
          refine ⟨_, rfl, _, rfl, _, _, rfl, rfl, by rw [wS_len, wS_len, sizeLine_eq]; omega, flL (ss.take i) [] ++ l, congrArg (fun z => [V.str z]) (wS_app _ _), by rw [List.length_append]; omega, fun G1 s1' => ?_⟩
          refine ⟨_, rfl, _, rfl, by rw [wS_len, sizeLine_eq]; have := sq_len (flL (ss.take i) [] ++ l); rw [List.length_append] at this; omega, ?_⟩
          rw [wS_cut4]
          refine ⟨some (.str (wS l)), some (.str (wS l)), ?_, sg.trans s1'⟩
          rw [flL_take e1]
          simp only [Stp.fl]
          rfl
        | r h1 h2 h3 =>
          simp only [Stp.nest] at n1
          omega
      · rintro σ G ⟨y2, y3, rfl, sg⟩
        rw [hs.len, List.take_length]
        exact ⟨_, rfl, q G sg⟩
  | m + 1 => by
    have GS := ok_flat F bS gS kS GQ bQ gQ kQ GR bR gR kR mi mS mM m
    refine F.ok scFlat (fun vs H Q E h => ?_) (fun cdv A outer s H vs Q E hr h => ?_)
    · obtain ⟨t, ss, rfl, _⟩ := h
      rfl
    · obtain ⟨t, ss, rfl, ⟨xs, hx, hs⟩, ok, hn, q⟩ := h
      have nd := scFlat.nd
      have hr1 : Room 1 _ := hr.mono (by omega)
      refine ⟨_, pss_cons (ps_set (i := 1) nd rfl (.inl rfl) pe_str)
        (pss_cons (ps_for PassesOwn.never rfl (pi_tup (pv 0)) (pg_name (i := 2) nd rfl (.inl rfl))
          (pss_cons (ps_set (i := 3) nd rfl (.inl rfl) (pe_ifExp (pt_val (pe_callB call_isi (by rfl) mi (by decide +kernel) (pa_cons (pv 2) (pa_cons (pe_bltn (v := .ty "str") (by rfl) mS (by decide +kernel) rfl) pa_nil)))) (pv 2)
            (pe_call GR hr1 (by rfl) gR kR bR .nil pass0 (pa_cons (pe_call GS hr (by rfl) gS kS bS .nil pass0 (pa_cons (pe_ix ix_tup (pv 2) pe_int (fun _ _ => rfl)) pa_nil)) (pa_cons (pe_ix ix_tup (pv 2) pe_int (fun _ _ => rfl)) pa_nil)))))
          (pss_one (ps_set (i := 1) nd rfl (.inl rfl) (pe_slice sl_str (pe_call GQ hr1 (by rfl) gQ kQ bQ .nil pass0 (pa_cons (pe_op op_add_str (pv 1) (pv 3)) pa_nil)) po_none (po_some (pe_glob (v := .int 400) (by rfl) mM ⟨_, rfl⟩)))))))
        (pss_one (ps_ret (pv 1)))), ?_⟩
      refine ⟨_, rfl, t, rfl, ⟨_, hx⟩, ?_⟩
      refine for_it (walk_tup (K := K) (a := t) (xs := xs)) (fun i σ G => ∃ y2 y3 : Option V, σ = [some (.ref t), some (.str (wS (flL (ss.take i) []))), y2, y3] ∧ Same H G) ?_ ?_ ?_ ?_
      · refine ⟨none, none, ?_, Same.refl _⟩
        rw [List.take_zero]
        simp only [flL]
        rw [wS_nil]
        rfl
      · rintro i σ G _ ⟨_, _, _, sg⟩
        exact same_seqT sg hx
      · rintro i x σ G G' hi ⟨y2, y3, rfl, sg⟩ ⟨rfl, hx'⟩
        have hx' : xs[i]? = some x := hx'
        obtain ⟨s1, e1, a1⟩ := hs.get hx'
        have m1 := List.mem_of_getElem? e1
        have n1 := nest_mem m1
        have o1 := ok_mem ok m1
        have fl4 := flL_len (ss.take i) [] (by decide)
        cases a1 with
        | w l =>
          simp only [Stp.ok] at o1
          refine ⟨_, rfl, _, _, _, _, true, rfl, .ty "str", .base (.str _), kit_ty (by decide +kernel), true, rfl, ?_⟩
          refine ⟨_, rfl, ?_⟩
          refine ⟨_, rfl, _, rfl, _, _, rfl, rfl, by rw [wS_len, wS_len, sizeLine_eq]; omega, flL (ss.take i) [] ++ l, congrArg (fun z => [V.str z]) (wS_app _ _), by rw [List.length_append]; omega, fun G1 s1' => ?_⟩
          refine ⟨_, rfl, _, rfl, by rw [wS_len, sizeLine_eq]; have := sq_len (flL (ss.take i) [] ++ l); rw [List.length_append] at this; omega, ?_⟩
          rw [wS_cut4]
          refine ⟨some (.str (wS l)), some (.str (wS l)), ?_, sg.trans s1'⟩
          rw [flL_take e1]
          simp only [Stp.fl]
          rfl
        | @r t' b n ys sb h1 h2 h3 =>
          simp only [Stp.nest] at n1
          simp only [Stp.ok] at o1
          have h1 := same_seqT sg h1
          have fb4 := flL_len sb [] (by decide)
          have rl := rp_len fb4 n.toNat
          refine ⟨_, rfl, _, _, _, _, false, rfl, .ty "str", tyx_tup h1, kit_ty (by decide +kernel), false, rfl, ?_⟩
          refine ⟨_, rfl, t', _, 2, .ref b, rfl, rfl, h1, rfl, b, sb, rfl, ⟨ys, same_seqT sg h2, h3.kt (.of_same sg)⟩, o1.2.2, by omega, fun G1 s2 => ?_⟩
          refine ⟨_, rfl, t', _, 1, .int n, rfl, rfl, same_seqT s2 h1, rfl, flL sb [], n, rfl, fb4, o1.1, ?_⟩
          refine ⟨_, rfl, _, rfl, _, _, rfl, rfl, by rw [wS_len, wS_len, sizeLine_eq]; omega, flL (ss.take i) [] ++ rpN (flL sb []) n.toNat, congrArg (fun z => [V.str z]) (wS_app _ _), by rw [List.length_append]; omega, fun G2 s3 => ?_⟩
          refine ⟨_, rfl, _, rfl, by rw [wS_len, sizeLine_eq]; have := sq_len (flL (ss.take i) [] ++ rpN (flL sb []) n.toNat); rw [List.length_append] at this; omega, ?_⟩
          rw [wS_cut4]
          refine ⟨some (.ref t'), some (.str (wS (rpN (flL sb []) n.toNat))), ?_, (sg.trans s2).trans s3⟩
          rw [flL_take e1]
          simp only [Stp.fl]
          rfl
      · rintro σ G ⟨y2, y3, rfl, sg⟩
        rw [hs.len, List.take_length]
        exact ⟨_, rfl, q G sg⟩
theorem ok_run {f fP fF fC fA fL : Addr} {fd fdP fdF fdC fdA fdL : FuncData} (F : Fun K "run" "run" sRun f fd)
    (GP : FnOk P w K mg base CX0 5 fP fdP ["plan"] (spCheck K)) (bP : Binds K fdP ["plan"] []) (gP : mg "check_plan" = some (.ref fP)) (kP : PySem.W.keepIn K (.ref fP) = true)
    (GF : FnOk P w K mg base CX0 4 fF fdF ["size", "filling"] (spCheckF K)) (bF : Binds K fdF ["size", "filling"] []) (gF : mg "check_filling" = some (.ref fF)) (kF : PySem.W.keepIn K (.ref fF) = true)
    (GC : FnOk P w K mg base CX0 10 fC fdC ["program"] (spCP K)) (bC : Binds K fdC ["program"] []) (gC : mg "check_program" = some (.ref fC)) (kC : PySem.W.keepIn K (.ref fC) = true)
    (GA : FnOk P w K mg base CX0 7 fA fdA ["plan", "filling", "word"] (spAfterP K)) (bA : Binds K fdA ["plan", "filling", "word"] []) (gA : mg "after" = some (.ref fA)) (kA : PySem.W.keepIn K (.ref fA) = true)
    (GL : FnOk P w K mg base CX0 6 fL fdL ["program"] (spFlat K 4)) (bL : Binds K fdL ["program"] []) (gL : mg "flat_word" = some (.ref fL)) (kL : PySem.W.keepIn K (.ref fL) = true)
    (ml : mg "len" = none) : FnOk P w K mg base CX0 11 f fd ["plan", "filling", "program"] (spRun K) := by
  refine F.ok scRun (fun vs H Q E h => ?_) (fun cdv A outer s H vs Q E hr h => ?_)
  · obtain ⟨a, t, g, cs, vs, ss, rfl, _⟩ := h
    rfl
  · obtain ⟨a, t, g, cs, vs, ss, rfl, hp, gd, hl, ht, v9, hg, ok, hn, hst, q⟩ := h
    have hr4 : Room 4 _ := hr.mono (by omega)
    have hr5 : Room 5 _ := hr.mono (by omega)
    have hr6 : Room 6 _ := hr.mono (by omega)
    have hr7 : Room 7 _ := hr.mono (by omega)
    refine ⟨_, pss_cons (ps_expr (pe_call GP hr5 (by rfl) gP kP bP .nil pass0 (pa_cons (pv 0) pa_nil)))
      (pss_cons (ps_expr (pe_call GF hr4 (by rfl) gF kF bF .nil pass0 (pa_cons (pe_callB call_len_seq (by rfl) ml PySem.boot_len (pa_cons (pv 0) pa_nil)) (pa_cons (pv 1) pa_nil))))
      (pss_cons (ps_expr (pe_call GC hr (by rfl) gC kC bC .nil pass0 (pa_cons (pv 2) pa_nil)))
      (pss_one (ps_ret (pe_call GA hr7 (by rfl) gA kA bA .nil pass0 (pa_cons (pv 0) (pa_cons (pv 1) (pa_cons (pe_call GL hr6 (by rfl) gL kL bL .nil pass0 (pa_cons (pv 2) pa_nil)) pa_nil)))))))), ?_⟩
    obtain ⟨xs, hx, hc⟩ := id hp
    have hlen := Paired.length hc
    refine ⟨_, rfl, a, cs, rfl, hp, gd, hl, fun H1 s1 => ?_⟩
    refine ⟨_, rfl, a, xs, rfl, .inr (same_seqT s1 hx), _, rfl, xs.length, t, vs, rfl, same_seqT s1 ht, by rw [hlen]; exact v9, by omega, fun H2 s2 => ?_⟩
    have s12 := s1.trans s2
    refine ⟨_, rfl, g, ss, rfl, hg.kt (.of_same s12), ok, hn, hst, fun H3 s3 => ?_⟩
    have s13 := s12.trans s3
    refine ⟨_, rfl, _, rfl, _, rfl, g, ss, rfl, hg.kt (.of_same s13), ok, hn, fun H4 s4 => ?_⟩
    have s14 := s13.trans s4
    refine ⟨a, t, flL ss [], cs, vs, rfl, hp.kt (.of_same s14), gd, hl, same_seqT s14 ht, v9, flL_len ss [] (by decide), fun H5 u s5 hu => ?_⟩
    have e := (flL_eq (cs := cs) hl ss [] ok ⟨true, 0, rfl⟩).1 vs v9.len
    rw [List.nil_append] at e
    rw [e] at hu
    exact q H5 u (s14.trans s5) hu
end
end KS
namespace KS
open PySem PySem.Spec PyProof.Rows L2 TL
/-! ### the written words of a program -/
def nmS (n : Int) : Str := Str.ofString (toString n)
/-! ### joined by blanks -/
def jn (L : List Str) : Str := Txt.join (" " : Str) L
theorem tl_sp : tl (" " : Str) = [32] := by decide +kernel
theorem tl_jn (L : List Str) : tl (jn L) = joinL [32] (L.map tl) := by
  unfold jn
  rw [join_eq, tl_join, tl_sp]
/-! ### sizes -/
def wtS (L : List Str) : Nat := (L.map (·.length)).sum + L.length
theorem wtS_app (a b : List Str) : wtS (a ++ b) = wtS a + wtS b := by
  unfold wtS
  rw [List.map_append, List.sum_append, List.length_append]
  omega
theorem wtS_cons (a : Str) (b : List Str) : wtS (a :: b) = a.length + 1 + wtS b := by
  unfold wtS
  rw [List.map_cons, List.sum_cons, List.length_cons]
  omega
theorem wtS_nil : wtS [] = 0 := rfl
theorem joinL_len : ∀ L : List (List Nat), (joinL [32] L).length ≤ (L.map List.length).sum + L.length
  | [] => Nat.le_refl _
  | [p] => by
    show p.length ≤ _
    rw [List.map_cons, List.sum_cons]
    omega
  | p :: q :: r => by
    have ih := joinL_len (q :: r)
    show (p ++ ([32] ++ joinL [32] (q :: r))).length ≤ _
    rw [List.length_append, List.length_append, List.map_cons, List.sum_cons, List.length_cons (a := p)]
    show p.length + (1 + (joinL [32] (q :: r)).length) ≤ _
    omega
theorem jn_len (L : List Str) : (jn L).length ≤ wtS L := by
  have := joinL_len (L.map tl)
  rw [len_tl, tl_jn]
  unfold wtS
  rw [List.map_map, List.length_map] at this
  have e : L.map (List.length ∘ tl) = L.map (·.length) := List.map_congr_left fun x _ => (len_tl x).symm
  rw [e] at this
  exact this
theorem nm_tl {n : Int} (h : 0 ≤ n) : tl (nmS n) = numL n.toNat := by
  obtain ⟨k, rfl⟩ := Int.eq_ofNat_of_zero_le h
  unfold nmS
  rw [tl_num, Int.toNat_natCast]
/-! ### words are free of blanks, and told apart -/
/-! ### the reading machine -/
/-! the numbers of written repeats -/
/-! ### numbers read back -/
end KS
namespace KS
open PySem PySem.Spec PyProof.Rows L2 RZ
/-! ### dicts whose keys are tuples: {k: v for ..} -/
/-- the pair (y, z) goes into the dict at D -/
def PutT (D : Addr) (y z : V) (G : Hp) (N : Hp → Prop) : Prop := ∃ (kvs : List (List L2.Key × V)) (k : List L2.Key) (b : Addr), y = .ref b ∧ G b = some (.tup (k.map kV)) ∧ G D = some (.dT kvs) ∧ kvs.length < sizeLine ∧ N (upd G D (.dT (putK kvs k z)))
/-- one turn of such a comprehension -/
def TurnDT (J : It) (g : TG) (tt : TT) (tk tv : TE) (vs : List Nat) (σ : L2.St) (D : Addr) (i : Nat) (G : Hp) (N : Hp → Prop) : Prop :=
  ∀ x G1, J.yld i G x G1 → g x (wipe σ vs) G1 fun τ G2 => wipe τ vs = wipe σ vs ∧ tt τ G2 fun b G3 => if b = true then tk τ G3 (fun y G4 => tv τ G4 fun z G5 => PutT D y z G5 N) else N G3
def tDcT (wi : TI) (g : TG) (tt : TT) (tk tv : TE) (vs : List Nat) : TE := fun σ H Q => wi σ H fun J H1 => ∀ D, H1 D = none →
  ∃ W : Nat → Nat → Hp → Prop, (∃ m, W 0 m (upd H1 D (.dT []))) ∧
    ∀ i m G, W i m G → (J.stop i G ∧ Q (.ref D) G) ∨ (J.go i G ∧ ∃ N : Hp → Prop, (∀ G', N G' → ∃ m', m' < m ∧ W (i + 1) m' G') ∧ TurnDT J g tt tk tv vs σ D i G N)
section
variable {X : Cx}
theorem putT_set {pins : List (Addr × Obj)} {σ : L2.St} {H : Hp} {s : Shared} {E : Value → Shared → Prop} {D : Addr} {y z : V} {u r : Value} {N : Hp → Prop} {Q : Unit → Shared → Prop} (hu : X.A.units < cLine)
    (I : Inv X pins σ H s) (p : PutT D y z H N) (ry : RelV y u) (rz : RelV z r) (h : ∀ H' s', Inv X pins σ H' s' → N H' → Q () s') :
    wpAny (model X.prog X.w) X.A (dictSet D u r) Q E s := by
  obtain ⟨kvs, k, b, rfl, eb, eD, len, nx⟩ := p
  cases (show u = Value.ref b from ry)
  obtain ⟨z0, hd, xs, rel, dd⟩ := dt_of I.hok eD
  have few : xs.length ≤ sizeLine := (Paired.length rel) ▸ z0
  have few' : (putK kvs k z).length ≤ sizeLine := Nat.le_trans (length_putK kvs k z) len
  refine wpAny_dictSet_heap (knd := tupleKind (mixKind X.prog X.w)) (hsz := few) hu (key_of I.hok eb) dd (fun h' dd' hs => h _ _ ?_ nx)
  obtain ⟨q, es, ep, hq, c2, c3, c4, _, c5⟩ := dd'
  have kept : L2.KT (upd H D (.dT (putK kvs k z))) (putK kvs k z) (storedH xs k b r) :=
    (rel.put k eb rz).keeps (fun c ys ec => (upd_ne (ne_of ec eD (fun e => nomatch e))).trans ec)
  exact d_write I (eD.symm ▸ True.intro) hs ⟨q, hq⟩ ⟨few', hd, _, kept, q, es, ep, hq, c2, c3, c4, c5⟩
/-- what the block's walker leaves alone -/
theorem foot {Y : Cx} {fp : List Addr} {τ : L2.St} {G : Hp} {t : Shared} (I : Inv Y [] τ G t) (hx : ∀ b ∈ fp, b ∈ Y.ex) (hp : Y.pn = []) (hn : ∀ b ∈ fp, G b = none) : ∀ b ∈ fp, FpOk Y [] G b := by
  intro b hb
  have inx := hx b hb
  have e1 := I.ok.exf b inx
  refine ⟨hn b hb, e1.1, I.ok.exfs b inx, Or.inl inx, fun x c e => e1.2 x c e, ?_⟩
  rw [hp]
  intro p hpm
  cases hpm
theorem dcT_core {pins : List (Addr × Obj)} {s : Shared} {σ : L2.St} {H : Hp} {Q : VK} {kx vx tg iter : Expr} {ifs : List Expr} {scope : Scope} {own : List (Str × Nat)} {pos pos' : Pos} {wi : TI} {g : TG} {tt : TT} {tk tv : TE} {use : Option (Value → Sem Unit)} {Qf : Value → Shared → Prop}
    (hu : X.A.units < cLine) (hc : X.calm = true) (hN : X.N.Nodup) (I : Inv X pins σ H s) (hi : PI X tg iter wi) (ok : BlkOk X.N X.env.scope scope own)
    (hg : ∀ (s : Shared) (H : Hp) (C : Addr) (cl : List (Str × Addr)) (fp : List Addr), PG (X.blk s H scope (compEnvC scope cl C X.env) fp) tg g)
    (ht : ∀ (s : Shared) (H : Hp) (C : Addr) (cl : List (Str × Addr)) (fp : List Addr), PTs (X.blk s H scope (compEnvC scope cl C X.env) fp) ifs tt)
    (hk : ∀ (s : Shared) (H : Hp) (C : Addr) (cl : List (Str × Addr)) (fp : List Addr), PE (X.blk s H scope (compEnvC scope cl C X.env) fp) kx tk)
    (hv : ∀ (s : Shared) (H : Hp) (C : Addr) (cl : List (Str × Addr)) (fp : List Addr), PE (X.blk s H scope (compEnvC scope cl C X.env) fp) vx tv)
    (hs : ∀ x, foldedSetIterable iter X.env x = pure x) (h : tDcT wi g tt tk tv (own.map (·.2)) σ H Q)
    (fin : ∀ D C s' m H', Inv X pins σ H' s' → Q (.ref D) H' → s'.heap.Ns C m → FpOk X pins H' C → compPost (model X.prog X.w) X.A X.xe use Qf (.ref D) C (.ok .next) s') :
    wpAny (model X.prog X.w) X.A (comprehension (.DictComp kx vx [⟨tg, iter, ifs, 0⟩] scope pos) scope X.env pos' newDict false (eval iter X.env) use) Qf X.xe s := by
  have caps : ∀ y ∈ scope.names, y.2 = .free → ∃ c, X.env.cells.lookup y.1 = some c := fun y hy e => (ok.free y hy e).elim (fun k => I.ok.has _ (Or.inl k)) (fun k => I.ok.has _ (Or.inr k))
  have loc : ∀ y ∈ scope.names, y.2 = .local → scope.names.lookup y.1 = some .local := fun y hy e => e ▸ ok.uniq y hy
  refine wpAny_comprehension_free (use := use) rfl hs (closure_ok caps) ok.kind loc (thn (hi.run pins s σ H _ I h) fun xv s1 hx => ?_)
  refine thn hx fun itv s2 came => ?_
  obtain ⟨it, fp, tn, J, H2, rfl, I2, T, st2, f2, q⟩ := came
  refine wpAny_newObj_type (newEnv_comp ?_)
  have DN : H2 s2.heap.objs.size = none := I2.hok.fresh (Nat.le_refl _)
  obtain ⟨W, ⟨m0, w0⟩, turn⟩ := q _ DN
  have I3 : Inv X pins σ (upd H2 s2.heap.objs.size (.dT [])) { s2 with heap := s2.heap.push { cls := .type "dict", data := .dict #[] } } :=
    I2.laid (t' := s2.toks) (fun b o e => Heap.get?_push_of_some _ e) (Nat.le_refl _) (dt_empty s2.heap I2.big)
  have small : ∀ b ∈ fp, b < s2.heap.objs.size := fun b hb => (T.obj _ _ st2 b hb).elim fun o e => Heap.lt_size e.1
  have f3 : ∀ b ∈ fp, FpOk X pins (upd H2 s2.heap.objs.size (.dT [])) b ∧ b < (s2.heap.push { cls := .type "dict", data := .dict #[] }).objs.size := fun b hb =>
    ⟨⟨(upd_ne (Nat.ne_of_lt (small b hb))).trans (f2 b hb).1, (f2 b hb).2⟩, (Heap.size_push ..).symm ▸ Nat.lt_succ_of_lt (small b hb)⟩
  have st3 : tn 0 (s2.heap.push { cls := .type "dict", data := .dict #[] }) := T.keep _ _ _ st2 fun b _ o e => Heap.get?_push_of_some _ e
  generalize eD : s2.heap.objs.size = D at *
  generalize eH : upd H2 D (.dT []) = H3 at *
  generalize eS : ({ s2 with heap := s2.heap.push { cls := .type "dict", data := .dict #[] } } : Shared) = s3 at *
  have I4 := block_start I3 ok hN (fun b hb => by rw [← eS]; exact f3 b hb)
  have sh : s3.heap = s2.heap.push { cls := .type "dict", data := .dict #[] } := by rw [← eS]
  rw [← sh] at st3
  have st4 : tn 0 (pushCells (s3.heap.push { cls := .type "dict", data := .dict #[] }) scope.names) := T.keep _ _ _ st3 fun b _ o e => pushCells_keeps _ _ _ _ (Heap.get?_push_of_some _ e)
  have n3 : ∀ b ∈ fp, H3 b = none := fun b hb => (f3 b hb).1.1
  have pg := hg s3 H3 s3.heap.objs.size (cellsFrom (s3.heap.objs.size + 1) scope.names (cloFrom X.env.cells scope.names [])) fp
  have pt := ht s3 H3 s3.heap.objs.size (cellsFrom (s3.heap.objs.size + 1) scope.names (cloFrom X.env.cells scope.names [])) fp
  have pk := hk s3 H3 s3.heap.objs.size (cellsFrom (s3.heap.objs.size + 1) scope.names (cloFrom X.env.cells scope.names [])) fp
  have pv' := hv s3 H3 s3.heap.objs.size (cellsFrom (s3.heap.objs.size + 1) scope.names (cloFrom X.env.cells scope.names [])) fp
  have cL : (compEnvC scope (cellsFrom (s3.heap.objs.size + 1) scope.names (cloFrom X.env.cells scope.names [])) s3.heap.objs.size X.env).locals = s3.heap.objs.size := rfl
  change codeAny (model X.prog X.w) X.A (.compStart (.DictComp kx vx [⟨tg, iter, ifs, 0⟩] scope pos) 0 (.ref it) (.ref D) (compEnvC scope (cellsFrom (s3.heap.objs.size + 1) scope.names (cloFrom X.env.cells scope.names [])) s3.heap.objs.size X.env))
    (compPost (model X.prog X.w) X.A X.xe use Qf (.ref D) s3.heap.objs.size) { s3 with heap := pushCells (s3.heap.push { cls := .type "dict", data := .dict #[] }) scope.names }
  generalize compEnvC scope (cellsFrom (s3.heap.objs.size + 1) scope.names (cloFrom X.env.cells scope.names [])) s3.heap.objs.size X.env = ce at I4 pg pt pk pv' cL ⊢
  generalize e4 : ({ s3 with heap := pushCells (s3.heap.push { cls := .type "dict", data := .dict #[] }) scope.names } : Shared) = s4 at I4 ⊢
  replace st4 : tn 0 s4.heap := by
    rw [← e4]
    exact st4
  suffices loop : codeAny (model X.prog X.w) X.A (.compLoop (.DictComp kx vx [⟨tg, iter, ifs, 0⟩] scope pos) 0 (.ref it) (.ref D) ce) (compPost (model X.prog X.w) X.A X.xe use Qf (.ref D) s3.heap.objs.size) s4 from
    codeAny_compStart_dict loop (T.self X.A 0 _ _ _ st4 loop)
  refine compLoop_anyD (fun n t => ∃ i G, Inv (X.blk s3 H3 scope ce fp) [] (wipe σ (own.map (·.2))) G t ∧ tn i t.heap ∧ (∀ b ∈ fp, G b = none) ∧ W i n G) (fun n t inv => ?_) m0 ⟨0, H3, I4, st4, n3, w0⟩
  obtain ⟨i, G, IG, stG, nG, wG⟩ := inv
  rcases turn i n G wG with ⟨halt, qG⟩ | ⟨more, N, hN', body⟩
  · -- no more items
    refine thnF (T.done (X.blk s3 H3 scope ce fp) rfl rfl rfl hc i [] t _ G (fun _ _ => False) IG (foot IG (fun _ hb => hb) rfl nG) stG halt) fun r t1 both => ?_
    obtain ⟨rfl, I1⟩ := both
    have back : Inv X pins σ G t1 := I3.call' (ch := fp) I1.os I1.base I1.hok I1.bare fun b hb =>
      let ⟨_, u1, _, u2, u3, u4⟩ := (f3 b hb).1
      ⟨u2, u1, u3, u4⟩
    have freeC : G s3.heap.objs.size = none := cL ▸ (show G ce.locals = none from I1.free)
    obtain ⟨m, hn, _⟩ := I1.loc
    exact fin D s3.heap.objs.size t1 m G back qG (cL ▸ (show t1.heap.Ns ce.locals m from hn)) (I3.fpOk (Nat.le_refl _) freeC)
  · refine thnF (T.item (X.blk s3 H3 scope ce fp) rfl rfl rfl hc i [] t _ G (fun _ _ => False) IG (foot IG (fun _ hb => hb) rfl nG) stG more) fun r t1 got => ?_
    obtain ⟨u, rfl, got⟩ := got
    refine thnF got fun _ t2 ⟨x, G2, IG2, rx, yx, stx, nx⟩ => ?_
    have held := IG2.pinned (foot IG2 (fun _ hb => hb) rfl nx) (T.obj _ _ stx)
    refine thnF (pg.run _ t2 _ G2 x u _ held rx (body x G2 yx)) fun _ t3 ⟨τ, G3, IG3, weq, rest⟩ => ?_
    refine thnF (pt.run _ t3 τ G3 _ IG3 rest) fun b t4 ⟨G4, IG4, rest⟩ => ?_
    have close : ∀ {t' : Shared} {G' : Hp}, Inv (X.blk s3 H3 scope ce fp) ([] ++ pinsAt fp t2.heap) τ G' t' → N G' → ∃ m, m < n ∧ ∃ i G, Inv (X.blk s3 H3 scope ce fp) [] (wipe σ (own.map (·.2))) G t' ∧ tn i t'.heap ∧ (∀ b ∈ fp, G b = none) ∧ W i m G := by
      intro t' G' IG' nn
      obtain ⟨m', lt, w'⟩ := hN' G' nn
      have still : ∀ b ∈ fp, ∀ o, t2.heap.get? b = some o → t'.heap.get? b = some o ∧ G' b = none := by
        intro b hb o e
        have z := IG'.pin (b, o) (List.mem_append_right _ (List.mem_append_right _ (mem_pinsAt hb e)))
        exact ⟨z.1, z.2.1⟩
      have lens : (wipe σ (own.map (·.2))).length = τ.length := (congrArg List.length weq).symm.trans (wipe_length _ _)
      refine ⟨m', lt, i + 1, G', (IG'.unpinned (pins := [])).weak lens (fun j v e => (wipe_some (weq ▸ e)).1), T.keep _ _ _ stx fun b hb o e => (still b hb o e).1, ?_, w'⟩
      intro b hb
      obtain ⟨o, e, _⟩ := T.obj _ _ stx b hb
      exact (still b hb o e).2
    cases b with
    | false => exact close IG4 rest
    | true =>
      refine thnF (pk.run _ t4 τ G4 _ IG4 rest) fun uk t5 ⟨yk, G5, IG5, rk, rest⟩ => ?_
      refine thnF (pv'.run _ t5 τ G5 _ IG5 rest) fun uv t6 ⟨yv, G6, IG6, rv, put⟩ => ?_
      exact putT_set (X := X.blk s3 H3 scope ce fp) hu IG6 put rk rv fun G' t' I' nn => close I' nn
end
/-- a walk over two tuples side by side -/
theorem walk_zipT {K : PySem.W.Frag} {a b : Addr} {xs ys : List V} {n : Nat} (hx : xs.length = n) (hy : ys.length = n) : Walk (ItzT K a b) n (fun H => SqT K H a xs ∧ SqT K H b ys) (YPair (fun i => xs[i]?) (fun i => ys[i]?)) where
  goes := fun i H hi ⟨h1, h2⟩ => ⟨xs, ys, _, _, h1, h2, List.getElem?_eq_getElem (by omega), List.getElem?_eq_getElem (by omega)⟩
  stops := fun H ⟨h1, h2⟩ => ⟨xs, ys, h1, h2, Or.inl (by omega)⟩
  yields := fun i H x H' hi ⟨h1, h2⟩ ⟨T, x', y', e1, e2, e3, f1, f2⟩ => ⟨T, x', y', e1, e2, e3, f1 xs h1, f2 ys h2⟩
/-- such a comprehension over any walk -/
theorem dcT_it {J : It} {n : Nat} {Gd : Hp → Prop} {Y : Nat → Hp → V → Hp → Prop} (w : Walk J n Gd Y) {g : TG} {tt : TT} {tk tv : TE} {vs : List Nat} {σ : L2.St} {H1 : Hp} {D : Addr} {Qd : Hp → Prop} (Pv : Nat → Hp → Prop) (h0 : Pv 0 (upd H1 D (.dT []))) (hl : ∀ i H, i ≤ n → Pv i H → Gd H)
    (hs : ∀ i x G G1, i < n → Pv i G → Y i G x G1 → g x (wipe σ vs) G1 fun τ G2 => wipe τ vs = wipe σ vs ∧ tt τ G2 fun b G3 => if b = true then tk τ G3 (fun y G4 => tv τ G4 fun z G5 => PutT D y z G5 (Pv (i + 1))) else Pv (i + 1) G3)
    (hd : ∀ H, Pv n H → Qd H) :
    ∃ W : Nat → Nat → Hp → Prop, (∃ m, W 0 m (upd H1 D (.dT []))) ∧
      ∀ i m G, W i m G → (J.stop i G ∧ Qd G) ∨ (J.go i G ∧ ∃ N : Hp → Prop, (∀ G', N G' → ∃ m', m' < m ∧ W (i + 1) m' G') ∧ TurnDT J g tt tk tv vs σ D i G N) := by
  refine ⟨fun i m G => m + i = n ∧ Pv i G, ⟨n, rfl, h0⟩, ?_⟩
  rintro i m G ⟨e, p⟩
  have hi : i ≤ n := by omega
  have good := hl i G hi p
  rcases Nat.lt_or_ge i n with lt | ge
  · refine Or.inr ⟨w.goes i G lt good, Pv (i + 1), fun G' p' => ⟨m - 1, by omega, by omega, p'⟩, ?_⟩
    intro x G1 y
    exact hs i x G G1 lt p (w.yields i G x G1 lt good y)
  · have e2 : i = n := by omega
    subst e2
    exact Or.inl ⟨w.stops G good, hd G p⟩
end KS
namespace KS
open PySem PySem.Spec PyProof.Rows L2 RZ
/-! ### dict(zip(t1, t2)): both tuples, the keys tuples -/
section
variable {prog : Program} {w : World} {A : Around} {E : Value → Shared → Prop} {s : Shared} {z TI TO T i1 i2 l1 l2 : Addr} {f : Bool} {oT : Obj}
/-- zip's next, its last tuple still out: whatever the two walkers do -/
theorem zn_two {Q : Value → Shared → Prop} (hz : IsZipHeld s.heap z TI TO T f) (hT : s.heap.get? T = some oT) (hTI : IsPair s.heap TI (.ref i1) (.ref i2))
    (h : ∀ h₁, IsZipHeld h₁ z TI TO T true → Heap.SameBut z s.heap h₁ → wpAny (model prog w) A (Builtin.SmallTypes.nextOf (.ref i1)) (fun x s2 => wpAny (model prog w) A (Builtin.SmallTypes.nextOf (.ref i2)) (fun y s3 => Q (.ref s3.heap.objs.size) { s3 with heap := s3.heap.push { cls := .type "tuple", data := .seq #[x, y] } }) E s2) E { s with heap := h₁ }) :
    wpAny (model prog w) A (Builtin.«zip.__next__» ⟨[.ref z], []⟩) (fun fin s' => ∃ v, fin = .done (.ret v) ∧ Q v s') E s := by
  show wpAny _ _ (field (.ref z) 2 >>= _) _ _ _
  refine wpAny_bind (wpAny_field hz rfl (x := .bool false) rfl (show wpAny _ _ (field (.ref z) 3 >>= _) _ _ _ from ?_))
  refine wpAny_bind (wpAny_field hz rfl (x := .ref TI) rfl (wpAny_bind (wpAny_seqItems hTI rfl (show wpAny _ _ (Builtin.SmallTypes.ownedTupleIsFree (.ref z) >>= _) _ _ _ from ?_))))
  refine wpAny_bind (wpAny_tupleHeld_zip hz hT fun h₁ hz₁ hs₁ => ?_)
  simp only [Bool.false_eq_true, if_false]
  refine wpAny_bind ?_
  rw [← Array.forIn_toList]
  simp only [List.forIn_cons, List.forIn_nil]
  refine wpAny_bind (wpAny_bind (wpAny_holding (show wpAny _ _ (Builtin.SmallTypes.nextOf (.ref i1) >>= _) _ _ _ from ?_)))
  refine wpAny_bind (thn (h h₁ hz₁ hs₁) fun x s2 h2 => wpAny_pure (wpAny_pure ?_))
  refine wpAny_bind (wpAny_bind (wpAny_holding (show wpAny _ _ (Builtin.SmallTypes.nextOf (.ref i2) >>= _) _ _ _ from ?_)))
  refine wpAny_bind (thn h2 fun y s3 h3 => wpAny_pure (wpAny_pure (wpAny_pure ?_)))
  show wpAny _ _ (newTuple [x, y] >>= _) _ _ _
  exact wpAny_bind (wpAny_newTuple (wpAny_pure ⟨_, rfl, h3⟩))
theorem zn_py {Q : Option Value → Shared → Prop} (hz : ∃ o, s.heap.get? z = some o ∧ o.cls = .type "zip") 
    (h : wpAny (model prog w) A.in1 (Builtin.«zip.__next__» ⟨[.ref z], []⟩) (fun fin s' => ∃ v, fin = .done (.ret v) ∧ Q (some v) s') (fun e s' => ∃ b o, e = .ref b ∧ s'.heap.get? b = some o ∧ o.cls = .type "StopIteration" ∧ Q none s') s) :
    wpAny (model prog w) A (pyNext (.ref z)) Q E s := by
  have hTy : s.TypeIs (.ref z) "zip" := hz
  unfold pyNext
  refine wpAny_bind (wpAny_attempt (wpAny_callSpecial?_slot (name := Str.ofString "__next__") hTy F.slot_zip_next (wpAny_call_entry F.slot_zip_next hTy F.entry_zip_next (wpAny_mono h (fun fin s' ⟨v, e, q⟩ => ⟨v, e, wpAny_pure q⟩) fun e s' hq => ?_) (F.args_zip_next_1 _))))
  obtain ⟨b, o, rfl, ho, hc, q⟩ := hq
  exact wpAny_bind (wpAny_isInstance (T := "StopIteration") (b := true) ⟨o, ho, hc⟩ isSubtype_stop (wpAny_pure q))
end
/-- a zip of two tuples, i turns in: fresh, or its last tuple still out -/
structure ZTs (z TI TO i1 i2 l1 l2 d : Addr) (xs ys : Array Value) (i : Nat) (h : Heap) : Prop where
  hTI : IsPair h TI (.ref i1) (.ref i2)
  w1 : h.IsTupleIter i1 l1 i
  w2 : h.IsTupleIter i2 l2 i
  t1 : h.IsTuple l1 xs
  t2 : h.IsTuple l2 ys
  zz : (IsZip h z TI TO .none ∧ ∃ a b, IsPair h TO a b) ∨ ∃ T f oT, IsZipHeld h z TI TO T f ∧ h.get? T = some oT ∧ T ≠ z ∧ T ≠ i1 ∧ T ≠ i2 ∧ T ≠ d
def mergeT (acc more : List (List L2.Key × V)) : List (List L2.Key × V) := more.foldl (fun a kv => putK a kv.1 kv.2) acc
theorem mergeT_len (more : List (List L2.Key × V)) : ∀ acc : List (List L2.Key × V), (mergeT acc more).length ≤ acc.length + more.length := by
  induction more with
  | nil => exact fun acc => Nat.le_refl _
  | cons p r ih =>
    intro acc
    have h1 := ih (putK acc p.1 p.2)
    have h2 := length_putK acc p.1 p.2
    show (mergeT (putK acc p.1 p.2) r).length ≤ acc.length + (r.length + 1)
    omega
/-- keys, their tuples, values as they stand -/
inductive Trip (H : Hp) : List Addr → List (List L2.Key) → List V → List Value → Prop
  | nil : Trip H [] [] [] []
  | cons {p : Addr} {k : List L2.Key} {y : V} {u : Value} {ps : List Addr} {ks : List (List L2.Key)} {ys : List V} {us : List Value} : H p = some (.tup (k.map kV)) → RelV y u → Trip H ps ks ys us → Trip H (p :: ps) (k :: ks) (y :: ys) (u :: us)
def tri : List Addr → List (List L2.Key) → List Value → List (List L2.Key × Addr × Value)
  | p :: ps, k :: ks, u :: us => (k, p, u) :: tri ps ks us
  | _, _, _ => []
theorem Trip.kt {H : Hp} {ps : List Addr} {ks : List (List L2.Key)} {ys : List V} {us : List Value} (t : Trip H ps ks ys us) : ∀ {acc : List (List L2.Key × V)} {xs : List (List L2.Key × Addr × Value)}, L2.KT H acc xs → L2.KT H (mergeT acc (ks.zip ys)) (storedAllH xs (tri ps ks us)) := by
  induction t with
  | nil => exact fun h => h
  | cons h1 h2 _ ih => exact fun h => ih (h.put _ h1 h2)
theorem Trip.at {H : Hp} {ps : List Addr} {ks : List (List L2.Key)} {ys : List V} {us : List Value} (t : Trip H ps ks ys us) : ∀ {i : Nat} {p : Addr} {u : Value}, ps[i]? = some p → us[i]? = some u → ∃ k, (tri ps ks us)[i]? = some (k, p, u) := by
  induction t with
  | nil => intro i p u h; cases h
  | cons h1 h2 _ ih =>
    intro i p u e1 e2
    cases i with
    | zero =>
      cases e1
      cases e2
      exact ⟨_, rfl⟩
    | succ i => exact ih e1 e2
theorem Trip.len {H : Hp} {ps : List Addr} {ks : List (List L2.Key)} {ys : List V} {us : List Value} (t : Trip H ps ks ys us) : (tri ps ks us).length = ps.length ∧ us.length = ps.length ∧ (ks.zip ys).length = ps.length := by
  induction t with
  | nil => exact ⟨rfl, rfl, rfl⟩
  | cons _ _ _ ih => exact ⟨congrArg (· + 1) ih.1, congrArg (· + 1) ih.2.1, congrArg (· + 1) ih.2.2⟩
theorem Trip.mem {H : Hp} {ps : List Addr} {ks : List (List L2.Key)} {ys : List V} {us : List Value} (t : Trip H ps ks ys us) : ∀ x ∈ tri ps ks us, H x.2.1 = some (.tup (x.1.map kV)) := by
  induction t with
  | nil => intro x hx; cases hx
  | cons h1 _ _ ih =>
    intro x hx
    rcases List.mem_cons.mp hx with e | hx
    · rw [e]
      exact h1
    · exact ih x hx
theorem Trip.of {H : Hp} : ∀ {ps : List Addr} {ks : List (List L2.Key)} {ys : List V} {us : List Value}, Paired (fun (p : Addr) (k : List L2.Key) => H p = some (.tup (k.map kV))) ps ks → Paired RelV ys us → ps.length = ys.length → Trip H ps ks ys us
  | _, _, _, _, .nil, .nil, _ => .nil
  | _, _, _, _, .cons h1 t, .cons h2 t', e => .cons h1 h2 (Trip.of t t' (Nat.succ.inj e))
  | _, _, _, _, .nil, .cons _ _, e => by cases e
  | _, _, _, _, .cons _ _, .nil, e => by cases e
theorem refs_arr : ∀ {ps : List Addr} {us : List Value}, Paired RelV (ps.map V.ref) us → us = ps.map Value.ref
  | [], _, .nil => rfl
  | p :: ps, _, .cons r t => by
    cases r
    rw [refs_arr t]
    rfl
end KS
namespace KS
open PySem PySem.Spec PyProof.Rows L2 TL
/-! ### the written form of a table -/
instance (a b : Cell) : Decidable (lt2 a b) := by unfold lt2; exact inferInstance
def atC : List (Cell × Int) → Cell → Option Int
  | [], _ => none
  | z :: zs, x => if z.1 = x then some z.2 else atC zs x
def topI (l : List Int) : Int := l.foldr max 0
theorem topI_ge : ∀ (l : List Int) (x : Int), x ∈ l → x ≤ topI l
  | y :: l, x, h => by
    show x ≤ max y (topI l)
    rcases List.mem_cons.mp h with e | h
    · omega
    · have := topI_ge l x h
      omega
theorem topI_le : ∀ (l : List Int) (m : Int), 0 ≤ m → (∀ x ∈ l, x ≤ m) → topI l ≤ m
  | [], m, h, _ => h
  | y :: l, m, h, k => by
    show max y (topI l) ≤ m
    have h1 := k y (List.mem_cons_self ..)
    have h2 := topI_le l m h fun x hx => k x (List.mem_cons_of_mem _ hx)
    omega
theorem topI_is {l : List Int} {m : Int} (hm : m ∈ l) (h0 : 0 ≤ m) (h : ∀ x ∈ l, x ≤ m) : topI l = m :=
  Int.le_antisymm (topI_le l m h0 h) (topI_ge l m hm)
def hiN (cs : List Cell) : Nat := (topI (cs.map (·.1))).toNat + 1
def wiN (cs : List Cell) : Nat := (topI (cs.map (·.2))).toNat + 1
theorem hiN_le {cs : List Cell} (g : Good cs) : hiN cs ≤ 8 := by
  have := topI_le (cs.map (·.1)) 7 (by decide) (fun x hx => by
    obtain ⟨c, hc, rfl⟩ := List.mem_map.mp hx
    exact (g.grid c hc).2.1)
  unfold hiN
  omega
theorem wiN_le {cs : List Cell} (g : Good cs) : wiN cs ≤ 8 := by
  have := topI_le (cs.map (·.2)) 7 (by decide) (fun x hx => by
    obtain ⟨c, hc, rfl⟩ := List.mem_map.mp hx
    exact (g.grid c hc).2.2.2)
  unfold wiN
  omega
def dotS : Str := "."
def wdAt (zs : List (Cell × Int)) (c : Cell) : Str := match atC zs c with
  | some v => nmS v
  | none => dotS
def rowW (cs : List Cell) (vs : List Int) (r : Nat) : List Str := (List.range (wiN cs)).map fun j => wdAt (cs.zip vs) ((r : Int), ((j : Nat) : Int))
def pgR (cs : List Cell) (vs : List Int) : List Str := (List.range (hiN cs)).map fun r => jn (rowW cs vs r)
def jl (L : List Str) : Str := Txt.join ("\n" : Str) L
def page (cs : List Cell) (vs : List Int) : Str := jl (pgR cs vs)
theorem atC_ne {z : Cell × Int} {zs : List (Cell × Int)} {c : Cell} (h : z.1 ≠ c) : atC (z :: zs) c = atC zs c := if_neg h
theorem atC_eq {z : Cell × Int} {zs : List (Cell × Int)} {c : Cell} (h : z.1 = c) : atC (z :: zs) c = some z.2 := if_pos h
theorem atC_mem : ∀ {zs : List (Cell × Int)} {c : Cell} {v : Int}, atC zs c = some v → (c, v) ∈ zs
  | z :: zs, c, v, h => by
    unfold atC at h
    by_cases e : z.1 = c
    · rw [if_pos e] at h
      cases h
      rw [← e]
      exact List.mem_cons_self ..
    · rw [if_neg e] at h
      exact List.mem_cons_of_mem _ (atC_mem h)
/-! ### what comes before a cell -/
def Asc (zs : List (Cell × Int)) : Prop := zs.Pairwise fun a b => lt2 a.1 b.1
theorem asc_zip : ∀ {cs : List Cell} {vs : List Int}, cs.Pairwise lt2 → Asc (cs.zip vs)
  | [], _, _ => List.Pairwise.nil
  | c :: cs, [], _ => List.Pairwise.nil
  | c :: cs, v :: vs, h => by
    obtain ⟨h1, h2⟩ := List.pairwise_cons.mp h
    refine List.pairwise_cons.mpr ⟨fun z hz => ?_, asc_zip h2⟩
    exact h1 _ (List.of_mem_zip (show (z.1, z.2) ∈ _ from hz)).1
theorem lt2_irr {a : Cell} : ¬ lt2 a a := by unfold lt2; omega
/-! ### split again -/
theorem wd_cases (zs : List (Cell × Int)) (c : Cell) : (∃ v, atC zs c = some v ∧ wdAt zs c = nmS v) ∨ (atC zs c = none ∧ wdAt zs c = dotS) := by
  unfold wdAt
  cases e : atC zs c with
  | none => exact .inr ⟨rfl, rfl⟩
  | some v => exact .inl ⟨v, rfl, rfl⟩
theorem dot_tl : tl dotS = [46] := by decide +kernel
theorem nl_tl : tl ("\n" : Str) = [10] := by decide +kernel
theorem wd_sm {zs : List (Cell × Int)} (hv : ∀ z ∈ zs, 1 ≤ z.2) (c : Cell) : ∀ x ∈ tl (wdAt zs c), x < 128 := by
  rcases wd_cases zs c with ⟨v, e, w⟩ | ⟨e, w⟩ <;> rw [w]
  · have := hv _ (atC_mem e)
    rw [nm_tl (show 0 ≤ v by have : 1 ≤ v := this; omega)]
    intro x hx
    have := numL_digits v.toNat x hx
    omega
  · rw [dot_tl]
    intro x hx
    rw [List.mem_singleton.mp hx]
    decide
theorem nm4 {v : Int} (h1 : 1 ≤ v) (h2 : v ≤ 9999) : (nmS v).length ≤ 4 := by
  rw [len_tl, nm_tl (by omega)]
  exact numL_len (by decide) (by omega)
theorem wd_len {zs : List (Cell × Int)} (hv : ∀ z ∈ zs, 1 ≤ z.2 ∧ z.2 ≤ 9999) (c : Cell) : (wdAt zs c).length ≤ 4 := by
  rcases wd_cases zs c with ⟨v, e, w⟩ | ⟨e, w⟩ <;> rw [w]
  · have := hv _ (atC_mem e)
    exact nm4 this.1 this.2
  · decide +kernel
theorem zip_vals {cs : List Cell} {vs : List Int} (h : Vals9 cs.length vs) : ∀ z ∈ cs.zip vs, 1 ≤ z.2 ∧ z.2 ≤ 9999 := fun z hz => by
  have := h.bd z.2 (List.of_mem_zip (show (z.1, z.2) ∈ _ from hz)).2
  omega
theorem row_wt {cs : List Cell} {vs : List Int} (g : Good cs) (h : Vals9 cs.length vs) (r : Nat) : wtS (rowW cs vs r) ≤ 40 := by
  have hw := wiN_le g
  unfold rowW
  generalize wiN cs = n at *
  suffices ∀ n : Nat, wtS ((List.range n).map fun j => wdAt (cs.zip vs) ((r : Int), ((j : Nat) : Int))) ≤ 5 * n by
    have := this n
    omega
  intro n
  induction n with
  | zero => exact Nat.le_refl _
  | succ n ih =>
    rw [List.range_succ, List.map_append, wtS_app]
    have := wd_len (zip_vals h) ((r : Int), ((n : Nat) : Int))
    show _ + wtS [wdAt (cs.zip vs) ((r : Int), ((n : Nat) : Int))] ≤ _
    rw [wtS_cons, wtS_nil]
    omega
theorem row_len {cs : List Cell} {vs : List Int} (g : Good cs) (h : Vals9 cs.length vs) (r : Nat) : (jn (rowW cs vs r)).length ≤ 40 := Nat.le_trans (jn_len _) (row_wt g h r)
theorem mem_joinS (S : List Nat) : ∀ (L : List (List Nat)) (c : Nat), c ∈ joinL S L → c ∈ S ∨ ∃ p ∈ L, c ∈ p
  | [], c, h => by cases h
  | [p], c, h => .inr ⟨p, List.mem_singleton.mpr rfl, h⟩
  | p :: q :: r, c, h => by
    have h : c ∈ p ++ (S ++ joinL S (q :: r)) := h
    rcases List.mem_append.mp h with h | h
    · exact .inr ⟨p, List.mem_cons_self .., h⟩
    · rcases List.mem_append.mp h with h | h
      · exact .inl h
      · rcases mem_joinS S (q :: r) c h with z | ⟨x, hx, z⟩
        · exact .inl z
        · exact .inr ⟨x, List.mem_cons_of_mem _ hx, z⟩
theorem row_mem {cs : List Cell} {vs : List Int} {r c : Nat} (hc : c ∈ tl (jn (rowW cs vs r))) : c = 32 ∨ ∃ x, c ∈ tl (wdAt (cs.zip vs) x) := by
  rw [tl_jn] at hc
  rcases mem_joinS _ _ c hc with z | ⟨p, hp, z⟩
  · exact .inl (List.mem_singleton.mp z)
  · obtain ⟨x, hx, rfl⟩ := List.mem_map.mp hp
    obtain ⟨j, _, rfl⟩ := List.mem_map.mp hx
    exact .inr ⟨_, z⟩
theorem tl_jl (L : List Str) : tl (jl L) = joinL [10] (L.map tl) := by
  unfold jl
  rw [join_eq, tl_join, nl_tl]
theorem joinS_len (s : Nat) : ∀ L : List (List Nat), (joinL [s] L).length ≤ (L.map List.length).sum + L.length
  | [] => Nat.le_refl _
  | [p] => by
    show p.length ≤ _
    rw [List.map_cons, List.sum_cons]
    omega
  | p :: q :: r => by
    have ih := joinS_len s (q :: r)
    show (p ++ ([s] ++ joinL [s] (q :: r))).length ≤ _
    rw [List.length_append, List.length_append, List.map_cons, List.sum_cons, List.length_cons (a := p)]
    show p.length + (1 + (joinL [s] (q :: r)).length) ≤ _
    omega
theorem jl_len (L : List Str) : (jl L).length ≤ wtS L := by
  have := joinS_len 10 (L.map tl)
  rw [len_tl, tl_jl]
  unfold wtS
  rw [List.map_map, List.length_map] at this
  have e : L.map (List.length ∘ tl) = L.map (·.length) := List.map_congr_left fun x _ => (len_tl x).symm
  rw [e] at this
  exact this
theorem pg_wt {cs : List Cell} {vs : List Int} (g : Good cs) (h : Vals9 cs.length vs) (n : Nat) : wtS ((List.range n).map fun r => jn (rowW cs vs r)) ≤ 41 * n := by
  induction n with
  | zero => exact Nat.le_refl _
  | succ n ih =>
    rw [List.range_succ, List.map_append, wtS_app]
    have := row_len g h n
    show _ + wtS [jn (rowW cs vs n)] ≤ _
    rw [wtS_cons, wtS_nil]
    omega
theorem page_len {cs : List Cell} {vs : List Int} (g : Good cs) (h : Vals9 cs.length vs) : (page cs vs).length ≤ 328 := by
  have h1 := jl_len (pgR cs vs)
  have h2 := pg_wt g h (hiN cs)
  have h3 := hiN_le g
  show (jl (pgR cs vs)).length ≤ _
  have : wtS (pgR cs vs) ≤ 41 * hiN cs := h2
  omega
theorem page_sm {cs : List Cell} {vs : List Int} (h : Vals9 cs.length vs) : ∀ c ∈ (page cs vs).cps.toList, c < 16 ^ 8 := by
  intro c hc
  have hc : c ∈ tl (jl (pgR cs vs)) := hc
  rw [tl_jl] at hc
  have e : (128 : Nat) < 16 ^ 8 := by decide
  have : c < 128 := by
    rcases mem_joinS _ _ c hc with z | ⟨p, hp, z⟩
    · rw [List.mem_singleton.mp z]
      decide
    · obtain ⟨x, hx, rfl⟩ := List.mem_map.mp hp
      obtain ⟨r, _, rfl⟩ := List.mem_map.mp hx
      rcases row_mem z with z | ⟨x, z⟩
      · rw [z]
        decide
      · exact wd_sm (fun z hz => (zip_vals h z hz).1) _ c z
  omega
/-! ### the dict of a table -/
def keyC (c : Cell) : List L2.Key := [.inl c.1, .inl c.2]
theorem keyC_inj {a b : Cell} : keyC a = keyC b ↔ a = b := by
  obtain ⟨a1, a2⟩ := a
  obtain ⟨b1, b2⟩ := b
  unfold keyC
  simp
/-- the dict holds f of each value, by the cells -/
def DictT (f : Int → V) (zs : List (Cell × Int)) (kvs : List (List L2.Key × V)) : Prop := kvs.length ≤ zs.length ∧ ∀ c, valV kvs (keyC c) = (atC zs c).map f
theorem atC_snoc : ∀ (zs : List (Cell × Int)) (c x : Cell) (v : Int), (∀ z ∈ zs, z.1 ≠ c) → atC (zs ++ [(c, v)]) x = if c = x then some v else atC zs x
  | [], c, x, v, _ => rfl
  | z :: zs, c, x, v, h => by
    have ih := atC_snoc zs c x v fun y hy => h y (List.mem_cons_of_mem _ hy)
    show atC (z :: (zs ++ [(c, v)])) x = _
    by_cases e : z.1 = x
    · rw [atC_eq e, atC_eq e, if_neg (fun q => h z (List.mem_cons_self ..) (e.trans q.symm))]
    · rw [atC_ne e, atC_ne e, ih]
theorem DictT.put {f : Int → V} {zs : List (Cell × Int)} {kvs : List (List L2.Key × V)} {c : Cell} {v : Int} (h : DictT f zs kvs) (nc : ∀ z ∈ zs, z.1 ≠ c) : DictT f (zs ++ [(c, v)]) (putK kvs (keyC c) (f v)) := by
  refine ⟨?_, fun x => ?_⟩
  · have h1 := length_putK kvs (keyC c) (f v)
    have h2 := h.1
    rw [List.length_append]
    show _ ≤ zs.length + 1
    omega
  · rw [valV_put, h.2 x, atC_snoc zs c x v nc]
    by_cases e : c = x
    · rw [if_pos e, if_pos (keyC_inj.mpr e.symm)]
      rfl
    · rw [if_neg e, if_neg (fun q => e (keyC_inj.mp q).symm)]
theorem DictT.nil {f : Int → V} : DictT f [] [] := ⟨Nat.le_refl _, fun c => rfl⟩
theorem dictT_merge {f : Int → V} : ∀ (cs : List Cell) (vs : List Int) (zs : List (Cell × Int)) (kvs : List (List L2.Key × V)), DictT f zs kvs → cs.Nodup → (∀ z ∈ zs, z.1 ∉ cs) → DictT f (zs ++ cs.zip vs) (mergeT kvs ((cs.map keyC).zip (vs.map f)))
  | [], vs, zs, kvs, h, _, _ => by
    rw [List.zip_nil_left, List.append_nil]
    exact h
  | c :: cs, [], zs, kvs, h, _, _ => by
    rw [List.zip_nil_right, List.append_nil]
    exact h
  | c :: cs, v :: vs, zs, kvs, h, nd, ni => by
    have ih := dictT_merge cs vs (zs ++ [(c, v)]) (putK kvs (keyC c) (f v)) (h.put fun z hz e => ni z hz (by rw [e]; exact List.mem_cons_self ..)) (List.nodup_cons.mp nd).2 (fun z hz => by
      rcases List.mem_append.mp hz with hz | hz
      · exact fun q => ni z hz (List.mem_cons_of_mem _ q)
      · rw [List.mem_singleton.mp hz]
        exact (List.nodup_cons.mp nd).1)
    rw [List.append_assoc] at ih
    exact ih
end KS
namespace KS
open PySem PySem.Spec PyProof.Rows L2 RZ TL
section
variable {X : Cx}
/-- {k: v for ..} as a value, the keys tuples -/
theorem pe_dcT {kx vx tg iter : Expr} {ifs : List Expr} {scope : Scope} {own : List (Str × Nat)} {pos : Pos} {wi : TI} {g : TG} {tt : TT} {tk tv : TE} (hu : X.A.units < cLine) (hc : X.calm = true) (hN : X.N.Nodup) (hi : PI X tg iter wi) (ok : BlkOk X.N X.env.scope scope own)
    (hg : ∀ (s : Shared) (H : Hp) (C : Addr) (cl : List (Str × Addr)) (fp : List Addr), PG (X.blk s H scope (compEnvC scope cl C X.env) fp) tg g)
    (ht : ∀ (s : Shared) (H : Hp) (C : Addr) (cl : List (Str × Addr)) (fp : List Addr), PTs (X.blk s H scope (compEnvC scope cl C X.env) fp) ifs tt)
    (hk : ∀ (s : Shared) (H : Hp) (C : Addr) (cl : List (Str × Addr)) (fp : List Addr), PE (X.blk s H scope (compEnvC scope cl C X.env) fp) kx tk)
    (hv : ∀ (s : Shared) (H : Hp) (C : Addr) (cl : List (Str × Addr)) (fp : List Addr), PE (X.blk s H scope (compEnvC scope cl C X.env) fp) vx tv)
    (hs : ∀ x, foldedSetIterable iter X.env x = pure x := by intro _; rfl) :
    PE X (.DictComp kx vx [⟨tg, iter, ifs, 0⟩] scope pos) (tDcT wi g tt tk tv (own.map (·.2))) := by
  refine ⟨fun pins s σ H Q I h => ?_⟩
  rw [arm_eval_DictComp]
  refine dcT_core hu hc hN I hi ok hg ht hk hv hs h fun D C s' m H' I' q hn f => ⟨m, hn, fun h'' sb => ?_⟩
  obtain ⟨g0, g1, g2, g3, g4, g5⟩ := f
  exact ⟨.ref D, H', I'.turned (t' := s'.toks) (fun b o hb e => (sb.2 b hb).trans e) g0 g1 g3 g4 g5, rfl, q⟩
end
/-- max of a list of whole numbers, for use anywhere -/
theorem cr_maxK {X : Cx} {K : PySem.W.Frag} (hc : X.calm = true) (hK : X.K = K) : CallR X (.builtin "max") (rMax K) := by
  subst hK
  exact cr_max hc
def rJoinK (K : PySem.W.Frag) : V → List V → Hp → VK → Prop := fun x xs H Q => ∃ a p, ∃ ys : List Str, x = .str a ∧ xs = [.ref p] ∧ (SqL K H p (ys.map V.str) ∨ SqT K H p (ys.map V.str)) ∧ (ys.map (·.length)).sum + ys.length * a.length ≤ 16777216 ∧ Q (.str (Txt.join a ys)) H
theorem mt_joinK {X : Cx} {K : PySem.W.Frag} (hK : X.K = K) : MtR X "str.join" (rJoinK K) := by
  subst hK
  exact mt_join
def spFmtT (K : PySem.W.Frag) : Sp := fun xs H Q _ => ∃ (a t : Addr) (cs : List Cell) (vs : List Int), xs = [.ref a, .ref t] ∧ PlanT K H a cs ∧ Good cs ∧ cs.length ≤ 24 ∧ SqT K H t (vs.map V.int) ∧ Vals9 cs.length vs ∧ ∀ H', Same H H' → Q (.str (page cs vs)) H'
end KS
namespace KS
open PySem PySem.Spec PyProof.Rows L2 RZ TL
abbrev sFmtT : Stmt := topS 55
abbrev nFmtT : List Str := ["plan", "filling", "values", "height", "width", "rows", "cell", "value", "row", "column", "words"]
theorem scFmtT : FnScope nFmtT ["plan", "filling"] (defScope sFmtT) := ⟨rfl, rfl, rfl, by decide +kernel, rfl, by decide +kernel, by decide +kernel⟩
def strV (v : Int) : V := .str (nmS v)
section
variable {P : Program} {w : World} {K : PySem.W.Frag} {mg : Str → Option Value} {base : Heap}
theorem log4 {v : Int} (h1 : 1 ≤ v) (h2 : v ≤ 9999) : v.natAbs.log2 < 1920 := by
  obtain ⟨k, rfl⟩ := Int.eq_ofNat_of_zero_le (show 0 ≤ v by omega)
  have hk : k < 2 ^ 14 := by omega
  rw [Int.natAbs_natCast]
  exact Nat.lt_of_lt_of_le ((Nat.log2_lt (by omega)).mpr hk) (by decide)
theorem take_asc {zs : List (Cell × Int)} (h : Asc zs) {j : Nat} {z : Cell × Int} (e : zs[j]? = some z) : ∀ x ∈ zs.take j, x.1 ≠ z.1 := by
  intro x hx q
  have hl := (List.getElem?_eq_some_iff.mp e).1
  have t1 : zs.take (j + 1) = zs.take j ++ [z] := by
    rw [List.take_add_one, e]
    rfl
  have p : Asc (zs.take (j + 1)) := List.Pairwise.sublist (List.take_sublist _ _) h
  rw [t1] at p
  have := (List.pairwise_append.mp p).2.2 x hx z (List.mem_singleton.mpr rfl)
  rw [q] at this
  exact lt2_irr this
theorem wdAt_get (zs : List (Cell × Int)) (c : Cell) : ((atC zs c).map strV).getD (V.str ".") = V.str (wdAt zs c) := by
  unfold wdAt
  cases atC zs c <;> rfl
theorem ok_fmtT {f fC fF : Addr} {fd fdC fdF : FuncData} (F : Fun K "format_table" "format_table" sFmtT f fd) (GC : FnOk P w K mg base CX0 5 fC fdC ["plan"] (spCheck K)) (bC : Binds K fdC ["plan"] []) (gC : mg "check_plan" = some (.ref fC)) (kC : PySem.W.keepIn K (.ref fC) = true)
    (GF : FnOk P w K mg base CX0 4 fF fdF ["size", "filling"] (spCheckF K)) (bF : Binds K fdF ["size", "filling"] []) (gF : mg "check_filling" = some (.ref fF)) (kF : PySem.W.keepIn K (.ref fF) = true)
    (ml : mg "len" = none) (mz : mg "zip" = none) (mx : mg "max" = none) (mr : mg "range" = none) (mS : mg "str" = none) : FnOk P w K mg base CX0 6 f fd ["plan", "filling"] (spFmtT K) := by
  refine F.ok scFmtT (fun vs H Q E h => ?_) (fun cdv A outer s H vs Q E hr h => ?_)
  · obtain ⟨a, t, cs, vs, rfl, _⟩ := h
    rfl
  · obtain ⟨a, t, cs, vs, rfl, hp, gd, h24, ht, v9, q⟩ := h
    have nd := scFmtT.nd
    have hr4 : Room 4 _ := hr.mono (by decide)
    refine ⟨_, pss_cons (ps_expr (pe_call GC hr (by rfl) gC kC bC .nil pass0 (pa_cons (pv 0) pa_nil)))
      (pss_cons (ps_expr (pe_call GF hr4 (by rfl) gF kF bF .nil pass0 (pa_cons (pe_callB call_len_seq (by rfl) ml PySem.boot_len (pa_cons (pv 0) pa_nil)) (pa_cons (pv 1) pa_nil))))
      (pss_cons (ps_set (i := 2) nd rfl (.inr rfl) (pe_dcT (own := [("cell", 6), ("value", 7)]) (tt := tYes) (Nat.lt_of_le_of_lt (Nat.le_add_right _ _) hr.units) rfl nd (pi_zipA (by rfl) mz (pa_cons (pv 0) (pa_cons (pv 1) pa_nil))) (blkOk_by (N := nFmtT) (sc := defScope sFmtT) (by decide +kernel))
          (fun _ _ _ _ _ => pg_tupK (K := K) (n := 2) rfl (by rfl) (pgs_cons (pg_name (i := 6) nd rfl (Or.inl rfl)) (pgs_cons (pg_name (i := 7) nd rfl (Or.inl rfl)) pgs_nil))) (fun _ _ _ _ _ => pts_nil)
          (fun _ _ _ _ _ => pv 6) (fun _ _ _ _ _ => pe_callTy call_str_int (by rfl) mS (by decide +kernel) (pa_cons (pv 7) pa_nil))))
      (pss_cons (ps_set (i := 3) nd rfl (.inl rfl) (pe_op op_add (pe_callB (id := "max") (r := rMax K) (cr_maxK rfl rfl) (by rfl) mx (by decide +kernel) (pa_cons
          (pe_lc (own := [("row", 8), ("column", 9)]) (tt := tYes) rfl nd (pi_tup (pv 0)) (blkOk_by (N := nFmtT) (sc := defScope sFmtT) (by decide +kernel))
            (fun _ _ _ _ _ => pg_tupK (K := K) (n := 2) rfl (by rfl) (pgs_cons (pg_name (i := 8) nd rfl (Or.inl rfl)) (pgs_cons (pg_name (i := 9) nd rfl (Or.inl rfl)) pgs_nil))) (fun _ _ _ _ _ => pts_nil)
            (fun _ _ _ _ _ => pv 8)) pa_nil)) pe_int))
      (pss_cons (ps_set (i := 4) nd rfl (.inr rfl) (pe_op op_add (pe_callB (id := "max") (r := rMax K) (cr_maxK rfl rfl) (by rfl) mx (by decide +kernel) (pa_cons
          (pe_lc (own := [("row", 8), ("column", 9)]) (tt := tYes) rfl nd (pi_tup (pv 0)) (blkOk_by (N := nFmtT) (sc := defScope sFmtT) (by decide +kernel))
            (fun _ _ _ _ _ => pg_tupK (K := K) (n := 2) rfl (by rfl) (pgs_cons (pg_name (i := 8) nd rfl (Or.inl rfl)) (pgs_cons (pg_name (i := 9) nd rfl (Or.inl rfl)) pgs_nil))) (fun _ _ _ _ _ => pts_nil)
            (fun _ _ _ _ _ => pv 9)) pa_nil)) pe_int))
      (pss_cons (ps_setLc (i := 5) (own := [("row", 8)]) (g := gName 8) (tt := tYes) rfl nd rfl rfl (sw_true rfl rfl rfl (by decide +kernel)) (pi_range1 (by rfl) mr (pa_cons (pv 3) pa_nil)) (blkOk_by (N := nFmtT) (sc := defScope sFmtT) (by decide +kernel))
          (fun _ _ _ _ _ => pg_name (i := 8) nd rfl (Or.inr rfl)) (fun _ _ _ _ _ => pts_nil)
          (fun _ _ _ _ _ => pe_lc (own := [("column", 9)]) (g := gName 9) (tt := tYes) rfl nd (pi_range1 (by rfl) mr (pa_cons (pv 4) pa_nil))
            (blkOk_by (N := nFmtT) (sc := { kind := .function, names := [(".0", .local), ("row", .cell), ("range", .globalImplicit), ("values", .cell), ("width", .cell)], isGenerator := false, isCoroutine := false }) (by decide +kernel))
            (fun _ _ _ _ _ => pg_name (i := 9) nd rfl (Or.inl rfl)) (fun _ _ _ _ _ => pts_nil)
            (fun _ _ _ _ _ => pe_dget2 (Nat.lt_of_le_of_lt (Nat.add_le_add_left (by decide) _) hr.units) (pv 2) (pe_tup (pa_cons (pv 8) (pa_cons (pv 9) pa_nil))) pe_str ⟨rfl, rfl, rfl, rfl⟩)))
      (pss_one (ps_ret (pe_m1 PySem.F.slot_str_join PySem.F.type_str_join mt_join pe_str
        (pe_lc (own := [("words", 10)]) (g := gName 10) (tt := tYes) rfl nd (pi_list (pv 5)) (blkOk_by (N := nFmtT) (sc := defScope sFmtT) (by decide +kernel))
          (fun _ _ _ _ _ => pg_name (i := 10) nd rfl (Or.inl rfl)) (fun _ _ _ _ _ => pts_nil)
          (fun _ _ _ _ _ => pe_m1 (r := rJoinK K) PySem.F.slot_str_join PySem.F.type_str_join (mt_joinK rfl) pe_str (pv 10))))))))))), ?_⟩
    refine ⟨_, rfl, a, cs, rfl, hp.at, gd, h24, fun H1 s1 => ?_⟩
    have hp1 := hp.same s1
    have ht1 := same_seqT s1 ht
    obtain ⟨xs, hx, hc⟩ := hp1
    have hxl : xs.length = cs.length := Paired.length hc
    have hvl := v9.len
    refine ⟨_, rfl, a, _, rfl, .inr hx, _, rfl, cs.length, t, vs, by rw [hxl]; rfl, ht1, v9, h24, fun H2 s2 => ?_⟩
    have hx2 := same_seqT s2 hx
    have ht2 := same_seqT s2 ht1
    have hc2 := cellsT_kt (.of_same s2) hc
    have asc := asc_zip (vs := vs) gd.asc
    -- the dict
    refine ⟨_, rfl, _, rfl, a, t, xs, vs.map V.int, rfl, .inr ⟨hx2, ht2, fun D nD => ?_⟩⟩
    refine dcT_it (walk_zipT (K := K) (a := a) (b := t) (xs := xs) (ys := vs.map V.int) (n := cs.length) hxl (by rw [List.length_map, hvl])) (fun j G => ∃ kvs, G D = some (.dT kvs) ∧ DictT strV ((cs.zip vs).take j) kvs ∧ (∀ b o, b ≠ D → H2 b = some o → G b = some o)) ?_ ?_ ?_ ?_
    · exact ⟨[], upd_same, .nil, fun b o n e => by rw [upd_ne n]; exact e⟩
    · rintro j G _ ⟨kvs, a1, a2, a3⟩
      have sG : Same H2 G := fun b o e => a3 b o (ne_of_none e nD) e
      exact ⟨same_seqT sG hx2, same_seqT sG ht2⟩
    · rintro j x G G1 hj ⟨kvs, a1, a2, a3⟩ ⟨T, y, z, rfl, nT, rfl, ey, ez⟩
      have sG : Same H2 G := fun b o e => a3 b o (ne_of_none e nD) e
      have sT := same_new (o := .tup [y, z]) nT
      obtain ⟨c, ec, b, rfl, hb⟩ := paired_get hc2 ey
      have evj : vs[j]? = some vs[j] := List.getElem?_eq_getElem (by omega)
      have ez : (vs.map V.int)[j]? = some z := ez
      rw [List.getElem?_map, evj] at ez
      cases ez
      have ezip : (cs.zip vs)[j]? = some (c, vs[j]) := by
        rw [List.getElem?_zip_eq_some]
        exact ⟨ec, evj⟩
      have bd := v9.bd vs[j] (List.mem_of_getElem? evj)
      refine ⟨T, _, rfl, SqT.of upd_same, rfl, _, _, rfl, _, _, rfl, rfl, rfl, ?_⟩
      refine ⟨_, rfl, _, rfl, vs[j], rfl, ?_, kvs, keyC c, b, rfl, sT _ _ (sG _ _ hb), sT _ _ a1, ?_, _, upd_same, ?_, fun b' o n e => ?_⟩
      · exact log4 bd.1 bd.2
      · have := a2.1
        rw [List.length_take] at this
        exact small64 (by omega)
      · have e := a2.put (c := c) (v := vs[j]) (take_asc asc ezip)
        rw [List.take_add_one, ezip]
        exact e
      · rw [upd_ne n]
        exact sT _ _ (a3 b' o n e)
    rintro G ⟨kvs, a1, a2, a3⟩
    have sG : Same H2 G := fun b o e => a3 b o (ne_of_none e nD) e
    have zl : (cs.zip vs).length = cs.length := by rw [List.length_zip, hvl, Nat.min_self]
    rw [← zl, List.take_length] at a2
    -- the largest row
    refine ⟨_, rfl, a, rfl, ⟨_, same_seqT sG hx2⟩, fun D1 nD1 => ?_⟩
    refine lc_tup (K := K) (a := a) (xs := xs) (fun j G' => G' D1 = some (.lst (((cs.take j).map (·.1)).map V.int)) ∧ (∀ b o, b ≠ D1 → G b = some o → G' b = some o)) ?_ ?_ ?_ ?_
    · exact ⟨upd_same, fun b o n e => by rw [upd_ne n]; exact e⟩
    · rintro j G' _ ⟨b1, b2⟩
      exact same_seqT (fun b o e => b2 b o (ne_of_none e nD1) e) (same_seqT sG hx2)
    · rintro j x G' hj ⟨b1, b2⟩
      have sG' : Same G G' := fun b o e => b2 b o (ne_of_none e nD1) e
      obtain ⟨c, ec, b, rfl, hb⟩ := paired_get hc2 hj
      have jl := (List.getElem?_eq_some_iff.mp ec).1
      refine ⟨b, _, rfl, SqT.of ((sG.trans sG') _ _ hb), rfl, _, _, rfl, _, _, rfl, rfl, rfl, ?_⟩
      refine ⟨_, rfl, _, b1, ?_, ?_, fun b o n e => ?_⟩
      · rw [List.length_map, List.length_map, List.length_take]
        exact small64 (by omega)
      · rw [upd_same, List.take_add_one, ec, List.map_append, List.map_append]
        rfl
      · rw [upd_ne n]
        exact b2 b o n e
    rintro G1 ⟨b11, b21⟩
    have sG1 : Same G G1 := fun b o e => b21 b o (ne_of_none e nD1) e
    rw [hxl, List.take_length] at b11
    refine ⟨D1, cs.map (·.1), rfl, SqL.of b11, ?_, fun m1 hm hle => ?_⟩
    · rw [List.length_map]
      exact List.length_pos_iff.mpr gd.ne
    have m01 : 0 ≤ m1 := by
      obtain ⟨c, hc', rfl⟩ := List.mem_map.mp hm
      have := gd.grid c hc'
      unfold InGrid at this
      show 0 ≤ c.1
      omega
    have em1 : m1 + 1 = ((hiN cs : Nat) : Int) := by
      have := topI_is hm m01 hle
      unfold hiN
      rw [this]
      omega
    refine ⟨_, _, rfl, rfl, ?_⟩
    dsimp only []
    rw [em1]
    have sA := sG.trans sG1
    -- the largest column
    refine ⟨_, rfl, a, rfl, ⟨_, same_seqT sA hx2⟩, fun D2 nD2 => ?_⟩
    refine lc_tup (K := K) (a := a) (xs := xs) (fun j G' => G' D2 = some (.lst (((cs.take j).map (·.2)).map V.int)) ∧ (∀ b o, b ≠ D2 → G1 b = some o → G' b = some o)) ?_ ?_ ?_ ?_
    · exact ⟨upd_same, fun b o n e => by rw [upd_ne n]; exact e⟩
    · rintro j G' _ ⟨b1, b2⟩
      exact same_seqT (fun b o e => b2 b o (ne_of_none e nD2) e) (same_seqT sA hx2)
    · rintro j x G' hj ⟨b1, b2⟩
      have sG' : Same G1 G' := fun b o e => b2 b o (ne_of_none e nD2) e
      obtain ⟨c, ec, b, rfl, hb⟩ := paired_get hc2 hj
      have jl := (List.getElem?_eq_some_iff.mp ec).1
      refine ⟨b, _, rfl, SqT.of ((sA.trans sG') _ _ hb), rfl, _, _, rfl, _, _, rfl, rfl, rfl, ?_⟩
      refine ⟨_, rfl, _, b1, ?_, ?_, fun b o n e => ?_⟩
      · rw [List.length_map, List.length_map, List.length_take]
        exact small64 (by omega)
      · rw [upd_same, List.take_add_one, ec, List.map_append, List.map_append]
        rfl
      · rw [upd_ne n]
        exact b2 b o n e
    rintro G2 ⟨b12, b22⟩
    have sG2 : Same G1 G2 := fun b o e => b22 b o (ne_of_none e nD2) e
    rw [hxl, List.take_length] at b12
    refine ⟨D2, cs.map (·.2), rfl, SqL.of b12, ?_, fun m2 hm hle => ?_⟩
    · rw [List.length_map]
      exact List.length_pos_iff.mpr gd.ne
    have m02 : 0 ≤ m2 := by
      obtain ⟨c, hc', rfl⟩ := List.mem_map.mp hm
      have := gd.grid c hc'
      unfold InGrid at this
      show 0 ≤ c.2
      omega
    have em2 : m2 + 1 = ((wiN cs : Nat) : Int) := by
      have := topI_is hm m02 hle
      unfold wiN
      rw [this]
      omega
    refine ⟨_, _, rfl, rfl, ?_⟩
    dsimp only []
    rw [em2]
    have sB := sA.trans sG2
    have hw := wiN_le gd
    have hh := hiN_le gd
    have aD := sG2 _ _ (sG1 _ _ a1)
    clear b11 b12 b21 b22
    -- the rows
    refine ⟨_, rfl, ((hiN cs : Nat) : Int), rfl, by omega, by omega, fun DR nR => ?_⟩
    refine lc_range (lo := 0) (n := hiN cs) (fun j J => ∃ gs : List V, J DR = some (.lst gs) ∧ Paired (fun x ws => ∃ t', x = .ref t' ∧ J t' = some (.lst (ws.map V.str)) ∧ t' ≠ DR) gs ((List.range j).map (rowW cs vs)) ∧ (∀ b o, b ≠ DR → G2 b = some o → J b = some o)) ?_ ?_ ?_
    · exact ⟨[], upd_same, .nil, fun b o n e => by rw [upd_ne n]; exact e⟩
    · rintro j J hj ⟨gs, c1, c2, c3⟩
      have sJ : Same G2 J := fun b o e => c3 b o (ne_of_none e nR) e
      refine ⟨rfl, _, rfl, ((wiN cs : Nat) : Int), rfl, by omega, by omega, fun D3 nD3 => ?_⟩
      refine lc_range (lo := 0) (n := wiN cs) (fun k J3 => J3 D3 = some (.lst (((List.range k).map fun z => wdAt (cs.zip vs) ((j : Int), ((z : Nat) : Int))).map V.str)) ∧ (∀ b o, b ≠ D3 → J b = some o → J3 b = some o)) ?_ ?_ ?_
      · exact ⟨upd_same, fun b o n e => by rw [upd_ne n]; exact e⟩
      · rintro k J3 hk ⟨d1, d2⟩
        have sJ3 : Same J J3 := fun b o e => d2 b o (ne_of_none e nD3) e
        have dD := sJ3 _ _ (sJ _ _ aD)
        refine ⟨rfl, _, rfl, D, rfl, .inr ⟨kvs, .inl dD⟩, _, rfl, _, rfl, by show 2 ≤ sizeLine; decide, fun T nT => ?_⟩
        have sT := same_new (o := .tup [.int (0 + (j : Int)), .int (0 + (k : Int))]) nT
        refine ⟨_, DGet.t (k := keyC ((j : Int), (k : Int))) (sT _ _ dD) (by
          rw [upd_same, Int.zero_add, Int.zero_add]
          rfl), ?_⟩
        rw [a2.2, wdAt_get]
        refine ⟨_, sT _ _ d1, ?_, ?_, fun b o n e => ?_⟩
        · rw [List.length_map, List.length_map, List.length_range]
          exact small64 (by omega)
        · rw [upd_same, List.range_succ, List.map_append, List.map_append]
          rfl
        · rw [upd_ne n]
          exact sT _ _ (d2 b o n e)
      · rintro J3 ⟨d1, d2⟩
        have sJ3 : Same J J3 := fun b o e => d2 b o (ne_of_none e nD3) e
        have n3 : D3 ≠ DR := Ne.symm (ne_of_none c1 nD3)
        have hgl := Paired.length c2
        rw [List.length_map, List.length_range] at hgl
        refine ⟨gs, sJ3 _ _ c1, small64 (by omega), gs ++ [.ref D3], upd_same, ?_, fun b o n e => ?_⟩
        · rw [List.range_succ, List.map_append]
          refine paired_append (Paired.mono (fun x ws ⟨t', e1, e2, e3⟩ => ⟨t', e1, ?_, e3⟩) c2) (.cons ⟨D3, rfl, ?_, n3⟩ .nil)
          · rw [upd_ne n3]
            exact d1
          · rw [upd_ne e3]
            exact sJ3 _ _ e2
        · rw [upd_ne n]
          exact sJ3 _ _ (c3 b o n e)
    rintro J ⟨gs, c1, c2, c3⟩
    have sJ : Same G2 J := fun b o e => c3 b o (ne_of_none e nR) e
    have c2 : Paired (fun x ws => ∃ t', x = .ref t' ∧ J t' = some (.lst (ws.map V.str)) ∧ t' ≠ DR) gs ((List.range (hiN cs)).map (rowW cs vs)) := c2
    have hgl := Paired.length c2
    rw [List.length_map, List.length_range] at hgl
    -- joined
    refine ⟨⟨_, rfl⟩, _, rfl, DR, rfl, ⟨_, SqL.of c1⟩, fun D4 nD4 => ?_⟩
    refine lc_list (K := K) (a := DR) (xs := gs) (fun j J4 => J4 D4 = some (.lst ((((List.range (hiN cs)).take j).map fun r => jn (rowW cs vs r)).map V.str)) ∧ (∀ b o, b ≠ D4 → J b = some o → J4 b = some o)) ?_ ?_ ?_ ?_
    · exact ⟨upd_same, fun b o n e => by rw [upd_ne n]; exact e⟩
    · rintro j J4 _ ⟨d1, d2⟩
      exact SqL.of (d2 _ _ (ne_of_none c1 nD4) c1)
    · rintro j x J4 hj ⟨d1, d2⟩
      have sJ4 : Same J J4 := fun b o e => d2 b o (ne_of_none e nD4) e
      obtain ⟨ws, ew, t', rfl, ht', _⟩ := paired_get c2 hj
      rw [List.getElem?_map] at ew
      cases er : (List.range (hiN cs))[j]? with
      | none =>
        rw [er] at ew
        cases ew
      | some r =>
        rw [er] at ew
        cases ew
        have jl := (List.getElem?_eq_some_iff.mp er).1
        rw [List.length_range] at jl
        have wt := row_wt gd v9 r
        refine ⟨rfl, ⟨_, rfl⟩, _, rfl, _, t', rowW cs vs r, rfl, rfl, .inl (SqL.of (sJ4 _ _ ht')), ?_, ?_⟩
        · have e6 : (" " : Str).length = 1 := by decide +kernel
          rw [e6]
          rw [Nat.mul_one]
          exact Nat.le_trans wt (by decide)
        · refine ⟨_, d1, ?_, ?_, fun b o n e => ?_⟩
          · rw [List.length_map, List.length_map, List.length_take, List.length_range]
            exact small64 (by omega)
          · rw [upd_same, List.take_add_one, er, List.map_append, List.map_append]
            rfl
          · rw [upd_ne n]
            exact d2 b o n e
    · rintro J4 ⟨d1, d2⟩
      have sJ4 : Same J J4 := fun b o e => d2 b o (ne_of_none e nD4) e
      have et : (List.range (hiN cs)).take gs.length = List.range (hiN cs) := List.take_of_length_le (by rw [List.length_range]; omega)
      rw [et] at d1
      refine ⟨_, D4, pgR cs vs, rfl, rfl, .inl (SqL.of d1), ?_, ?_⟩
      · have e6 : ("\n" : Str).length = 1 := by decide +kernel
        rw [e6, Nat.mul_one]
        have w1 : wtS (pgR cs vs) ≤ 41 * hiN cs := pg_wt gd v9 (hiN cs)
        exact Nat.le_trans w1 (by omega)
      · exact q _ ((((s1.trans s2).trans sB).trans sJ).trans sJ4)
end
end KS
namespace KS
open PySem PySem.Spec PyProof.Rows L2 RZ
abbrev sSortLines : Stmt := topS 39
theorem scSortLines : FnScope ["plan", "filling", "kind"] ["plan", "filling", "kind"] (defScope sSortLines) := ⟨rfl, rfl, rfl, by decide +kernel, rfl, by decide +kernel, by decide +kernel⟩
section
variable {P : Program} {w : World} {K : PySem.W.Frag} {mg : Str → Option Value} {base : Heap}
theorem ok_sortLines {f fC fF fL fA : Addr} {fd fdC fdF fdL fdA : FuncData} (F : Fun K "sort_lines" "sort_lines" sSortLines f fd)
    (GC : FnOk P w K mg base CX0 5 fC fdC ["plan"] (spCheck K)) (bC : Binds K fdC ["plan"] []) (gC : mg "check_plan" = some (.ref fC)) (kC : PySem.W.keepIn K (.ref fC) = true)
    (GF : FnOk P w K mg base CX0 4 fF fdF ["size", "filling"] (spCheckF K)) (bF : Binds K fdF ["size", "filling"] []) (gF : mg "check_filling" = some (.ref fF)) (kF : PySem.W.keepIn K (.ref fF) = true)
    (GL : FnOk P w K mg base CX0 6 fL fdL ["plan", "kind"] (spLines K)) (bL : Binds K fdL ["plan", "kind"] []) (gL : mg "lines" = some (.ref fL)) (kL : PySem.W.keepIn K (.ref fL) = true)
    (GA : FnOk P w K mg base CX0 1 fA fdA ["groups", "filling"] (spAlong K)) (bA : Binds K fdA ["groups", "filling"] []) (gA : mg "sorted_along" = some (.ref fA)) (kA : PySem.W.keepIn K (.ref fA) = true)
    (ml : mg "len" = none) : FnOk P w K mg base CX0 7 f fd ["plan", "filling", "kind"] (spSortL K) := by
  refine F.ok scSortLines (fun vs H Q E h => ?_) (fun cdv A outer s H vs Q E hr h => ?_)
  · obtain ⟨a, t, b, cs, vs, rfl, _⟩ := h
    rfl
  · obtain ⟨a, t, b, cs, vs, rfl, hp, gd, hl, ht, v9, q⟩ := h
    refine ⟨_, pss_cons (ps_expr (pe_call GC (hr.mono (by decide)) (by rfl) gC kC bC .nil pass0 (pa_cons (pv 0) pa_nil)))
      (pss_cons (ps_expr (pe_call GF (hr.mono (by decide)) (by rfl) gF kF bF .nil pass0 (pa_cons (pe_callB call_len_seq (by rfl) ml PySem.boot_len (pa_cons (pv 0) pa_nil)) (pa_cons (pv 1) pa_nil))))
      (pss_one (ps_ret (pe_call GA (hr.mono (by decide)) (by rfl) gA kA bA .nil pass0 (pa_cons (pe_call GL hr (by rfl) gL kL bL .nil pass0 (pa_cons (pv 0) (pa_cons (pv 2) pa_nil))) (pa_cons (pv 1) pa_nil)))))), ?_⟩
    obtain ⟨xs, hx, hc⟩ := id hp
    have hlen := Paired.length hc
    refine ⟨_, rfl, a, cs, rfl, hp, gd, hl, fun H1 s1 => ?_⟩
    refine ⟨_, rfl, a, xs, rfl, .inr (same_seqT s1 hx), _, rfl, xs.length, t, vs, rfl, same_seqT s1 ht, by rw [hlen]; exact v9, by omega, fun H2 s2 => ?_⟩
    have s12 := s1.trans s2
    refine ⟨_, rfl, _, rfl, a, b, cs, rfl, hp.kt (.of_same s12), gd, hl, fun H3 p ys s3 hp3 hy => ?_⟩
    refine ⟨_, rfl, p, t, ys, _, vs, rfl, hp3, hy, lns_ok hl v9.len, same_seqT (s12.trans s3) ht, fun H4 u s4 hu _ => ?_⟩
    exact q H4 u ((s12.trans s3).trans s4) hu
end
end KS
namespace KS
open PySem PySem.Spec PyProof.Rows L2 RZ
abbrev sIsSorted : Stmt := topS 41
theorem scIsSorted : FnScope ["plan", "filling", "kind"] ["plan", "filling", "kind"] (defScope sIsSorted) := ⟨rfl, rfl, rfl, by decide +kernel, rfl, by decide +kernel, by decide +kernel⟩
section
variable {P : Program} {w : World} {K : PySem.W.Frag} {mg : Str → Option Value} {base : Heap}
theorem ok_isSorted {f fS : Addr} {fd fdS : FuncData} (F : Fun K "is_sorted" "is_sorted" sIsSorted f fd)
    (GS : FnOk P w K mg base CX0 7 fS fdS ["plan", "filling", "kind"] (spSortL K)) (bS : Binds K fdS ["plan", "filling", "kind"] []) (gS : mg "sort_lines" = some (.ref fS)) (kS : PySem.W.keepIn K (.ref fS) = true) :
    FnOk P w K mg base CX0 8 f fd ["plan", "filling", "kind"] (spIsSorted K) := by
  refine F.ok scIsSorted (fun vs H Q E h => ?_) (fun cdv A outer s H vs Q E hr h => ?_)
  · obtain ⟨a, t, b, cs, vs, rfl, _⟩ := h
    rfl
  · obtain ⟨a, t, b, cs, vs, rfl, hp, gd, hl, ht, v9, q⟩ := h
    refine ⟨_, pss_one (ps_ret (pe_cmpR (op_eqD hr.units) (pe_call GS hr (by rfl) gS kS bS .nil pass0 (pa_cons (pv 0) (pa_cons (pv 1) (pa_cons (pv 2) pa_nil)))) (pv 1) (nomark _))), ?_⟩
    refine ⟨_, rfl, _, rfl, _, rfl, a, t, b, cs, vs, rfl, hp, gd, hl, ht, v9, fun H1 u s1 hu => ?_⟩
    refine ⟨_, rfl, _, _, .tup hu (dp_ints _), .tup (same_seqT s1 ht) (dp_ints _), line_shaped _, line_shaped _, ?_⟩
    rw [ints_eqvT, fix_rises v9.len]
    exact q H1 s1
end
end KS
namespace KS
open PySem PySem.Spec PyProof.Rows L2 RZ
abbrev sSettled : Stmt := topS 42
theorem scSettled : FnScope ["plan", "filling"] ["plan", "filling"] (defScope sSettled) := ⟨rfl, rfl, rfl, by decide +kernel, rfl, by decide +kernel, by decide +kernel⟩
section
variable {P : Program} {w : World} {K : PySem.W.Frag} {mg : Str → Option Value} {base : Heap}
theorem ok_settled {f fS : Addr} {fd fdS : FuncData} (F : Fun K "is_settled_table" "is_settled_table" sSettled f fd)
    (GS : FnOk P w K mg base CX0 8 fS fdS ["plan", "filling", "kind"] (spIsSorted K)) (bS : Binds K fdS ["plan", "filling", "kind"] []) (gS : mg "is_sorted" = some (.ref fS)) (kS : PySem.W.keepIn K (.ref fS) = true) :
    FnOk P w K mg base CX0 9 f fd ["plan", "filling"] (spSettled K) := by
  refine F.ok scSettled (fun vs H Q E h => ?_) (fun cdv A outer s H vs Q E hr h => ?_)
  · obtain ⟨a, t, cs, vs, rfl, _⟩ := h
    rfl
  · obtain ⟨a, t, cs, vs, rfl, hp, gd, hl, ht, v9, q⟩ := h
    refine ⟨_, pss_one (ps_ret (pe_and (pe_call GS hr (by rfl) gS kS bS .nil pass0 (pa_cons (pv 0) (pa_cons (pv 1) (pa_cons pe_str pa_nil)))) (pe_one (pe_call GS hr (by rfl) gS kS bS .nil pass0 (pa_cons (pv 0) (pa_cons (pv 1) (pa_cons pe_str pa_nil))))))), ?_⟩
    refine ⟨_, rfl, _, rfl, a, t, false, cs, vs, rfl, hp, gd, hl, ht, v9, fun H1 s1 => ⟨_, rfl, ?_⟩⟩
    refine ite2 (fun e => ?_) (fun e => ?_)
    · refine ⟨_, rfl, _, rfl, a, t, true, cs, vs, rfl, hp.kt (.of_same s1), gd, hl, same_seqT s1 ht, v9, fun H2 s2 => ?_⟩
      have z := q H2 (s1.trans s2)
      unfold settled at z
      rw [e, Bool.true_and] at z
      exact z
    · have z := q H1 s1
      have e' : rises false cs vs = false := by simpa using e
      unfold settled at z
      rw [e', Bool.false_and] at z
      exact z
end
end KS
/-! cells, values, edits: the program's defs -/
namespace KS
open PySem PySem.Spec PyProof.Rows L2
abbrev sIxCell : Stmt := topS 58
abbrev sWithV : Stmt := topS 59
abbrev sWithS : Stmt := topS 60
abbrev sEdited : Stmt := topS 61
theorem scIxCell : FnScope ["plan", "cell"] ["plan", "cell"] (defScope sIxCell) := ⟨rfl, rfl, rfl, by decide +kernel, rfl, by decide +kernel, by decide +kernel⟩
abbrev nWithV : List Str := ["plan", "filling", "cell", "value", "at"]
theorem scWithV : FnScope nWithV ["plan", "filling", "cell", "value"] (defScope sWithV) := ⟨rfl, rfl, rfl, by decide +kernel, rfl, by decide +kernel, by decide +kernel⟩
abbrev nWithS : List Str := ["plan", "filling", "cell", "other", "one", "two", "result"]
theorem scWithS : FnScope nWithS ["plan", "filling", "cell", "other"] (defScope sWithS) := ⟨rfl, rfl, rfl, by decide +kernel, rfl, by decide +kernel, by decide +kernel⟩
theorem scEdited : FnScope ["plan", "filling", "edit"] ["plan", "filling", "edit"] (defScope sEdited) := ⟨rfl, rfl, rfl, by decide +kernel, rfl, by decide +kernel, by decide +kernel⟩
def spIxCell (K : PySem.W.Frag) : Sp := fun xs H Q _ => ∃ (a : Addr) (x : V) (cs : List Cell) (c : Cell) (i : Nat), xs = [.ref a, x] ∧ PlanN H a cs ∧ Good cs ∧ CellT H x c ∧ cs[i]? = some c ∧ ∀ H', Same H H' → Q (.int (i : Nat)) H'
def spWithV (K : PySem.W.Frag) : Sp := fun xs H Q _ => ∃ (a t : Addr) (x : V) (v : Int) (cs : List Cell) (vs : List Int) (c : Cell) (i : Nat), xs = [.ref a, .ref t, x, .int v] ∧ PlanN H a cs ∧ Good cs ∧ cs.length ≤ 24 ∧ SqT K H t (vs.map V.int) ∧ Vals9 cs.length vs ∧
  CellT H x c ∧ cs[i]? = some c ∧ (Ed.set i v).ok cs.length vs ∧ ∀ H' u, Same H H' → SqT K H' u (((Ed.set i v).beh cs vs).map V.int) → Q (.ref u) H'
def spWithS (K : PySem.W.Frag) : Sp := fun xs H Q _ => ∃ (a t : Addr) (x y : V) (cs : List Cell) (vs : List Int) (c d : Cell) (i j : Nat), xs = [.ref a, .ref t, x, y] ∧ PlanN H a cs ∧ Good cs ∧ cs.length ≤ 24 ∧ SqT K H t (vs.map V.int) ∧ Vals9 cs.length vs ∧
  CellT H x c ∧ cs[i]? = some c ∧ CellT H y d ∧ cs[j]? = some d ∧ ∀ H' u, Same H H' → SqT K H' u (((Ed.swap i j).beh cs vs).map V.int) → Q (.ref u) H'
def spEdited (K : PySem.W.Frag) : Sp := fun xs H Q _ => ∃ (a t : Addr) (x : V) (cs : List Cell) (vs : List Int) (e : Ed), xs = [.ref a, .ref t, x] ∧ PlanN H a cs ∧ Good cs ∧ cs.length ≤ 24 ∧ SqT K H t (vs.map V.int) ∧ Vals9 cs.length vs ∧
  EdA K H cs x e ∧ e.ok cs.length vs ∧ ∀ H' u, Same H H' → SqT K H' u ((e.beh cs vs).map V.int) → Q (.ref u) H'
theorem cellT_at {K : PySem.W.Frag} {H : Hp} {x : V} {c : Cell} (h : CellT H x c) : ∃ t, x = .ref t ∧ SqT K H t [.int c.1, .int c.2] := by
  obtain ⟨t, e, q⟩ := h
  exact ⟨t, e, SqT.of q⟩
theorem inV_ints (x : Int) (is : List Int) : inV (.int x) (is.map V.int) = decide (x ∈ is) := by
  induction is with
  | nil => rfl
  | cons y is ih =>
    show (eqV (.int y) (.int x) || inV (.int x) (is.map V.int)) = _
    rw [ih]
    have : eqV (.int y) (.int x) = decide (x = y) := by
      show (y == x) = _
      by_cases e : x = y
      · subst e; simp
      · rw [decide_eq_false e]; exact beq_eq_false_iff_ne.mpr (fun z => e z.symm)
    rw [this, ← Bool.decide_or]
    simp
theorem PlanN.same {H H' : Hp} {a : Addr} {cs : List Cell} (s : Same H H') (h : PlanN H a cs) : PlanN H' a cs := h.kn (.of_same s)
theorem cellT_same {H H' : Hp} (s : Same H H') {x : V} {c : Cell} (h : CellT H x c) : CellT H' x c := cellT_kn (.of_same s) h
theorem good_at {cs : List Cell} (gd : Good cs) {i m : Nat} {c d : Cell} (h : cs[i]? = some c) (hm : cs[m]? = some d) (n : m ≠ i) : d ≠ c := fun e => by
  subst e
  have nd := nodup_of_asc gd.asc
  have hi := (List.getElem?_eq_some_iff.mp h)
  have hj := (List.getElem?_eq_some_iff.mp hm)
  obtain ⟨hi1, hi2⟩ := hi
  obtain ⟨hj1, hj2⟩ := hj
  exact n ((List.getElem_inj nd).mp (hj2.trans hi2.symm))
section
variable {P : Program} {w : World} {K : PySem.W.Frag} {mg : Str → Option Value} {base : Heap}
theorem ok_ixCell {f fC : Addr} {fd fdC : FuncData} (F : Fun K "index_of_cell" "index_of_cell" sIxCell f fd)
    (GC : FnOk P w K mg base CX0 4 fC fdC ["value"] (spIsCell K)) (bC : Binds K fdC ["value"] []) (gC : mg "is_cell" = some (.ref fC)) (kC : PySem.W.keepIn K (.ref fC) = true) :
    FnOk P w K mg base CX0 5 f fd ["plan", "cell"] (spIxCell K) := by
  refine F.ok scIxCell (fun vs H Q E h => ?_) (fun cdv A outer s H vs Q E hr h => ?_)
  · obtain ⟨a, x, cs, c, i, rfl, _⟩ := h
    rfl
  · obtain ⟨a, x, cs, c, i, rfl, hp, gd, hx, hc, q⟩ := h
    have hu : (A.deeper (envOfC "index_of_cell" (defScope sIxCell) s.heap.objs.size f cdv)).units + 65 < cLine := by
      have := hr.un
      omega
    refine ⟨_, pss_cons (ps_if (PW.pt (pw_or (pt_not (pt_val (pe_call GC hr (by rfl) gC kC bC .nil pass0 (pa_cons (pv 1) pa_nil)))) (pw_or1 (pt_cmpR (r := rNotInT K) (op_notInT hu) (pv 1) (pv 0) (by rfl))))) (pss_one ps_never) pss_nil)
      (pss_one (ps_ret (pe_bmT (r := rIndexD K) PySem.F.plainAttrs_tuple PySem.F.slot_tuple_index PySem.F.type_tuple_index (mt_indexD hu) (pv 0) (pa_cons (pv 1) pa_nil)))), ?_⟩
    obtain ⟨t, rfl, ht⟩ := cellT_at (K := K) hx
    have gc := gd.grid c (List.mem_of_getElem? hc)
    refine ⟨_, rfl, t, c, rfl, ht, gc, true, rfl, ?_⟩
    obtain ⟨xs, hN, hcs⟩ := id hp
    have dp : Dp K H (.ref a) (planD cs) := PlanAt.dp hp.t.at
    refine ⟨_, rfl, _, rfl, cellD c, cs.map cellD, dp_cell ht, dp, cell_shaped c, plan_shaped cs, ?_⟩
    rw [in_plan]
    refine ⟨false, by rw [decide_eq_true (List.mem_of_getElem? hc)]; rfl, ?_⟩
    refine ⟨_, rfl, ⟨a, xs, rfl, hN⟩, _, rfl, .ref t, cellD c, cs.map cellD, i, cellD c, rfl, dp_cell ht, dp, cell_shaped c, plan_shaped cs, ?_, ?_, ?_, q H (Same.refl _)⟩
    · rw [List.getElem?_map, hc]
      rfl
    · rw [cell_eqv]
      simp
    · intro m z hm hz
      rw [List.getElem?_map] at hz
      cases e : cs[m]? with
      | none =>
        rw [e] at hz
        cases hz
      | some d =>
        rw [e] at hz
        cases hz
        rw [cell_eqv]
        exact decide_eq_false (good_at gd hc e (by omega))
theorem ok_withV {f fI fB : Addr} {fd fdI fdB : FuncData} {tk : Tok} (F : Fun K "with_value" "with_value" sWithV f fd)
    (GI : FnOk P w K mg base CX0 5 fI fdI ["plan", "cell"] (spIxCell K)) (bI : Binds K fdI ["plan", "cell"] []) (gI : mg "index_of_cell" = some (.ref fI)) (kI : PySem.W.keepIn K (.ref fI) = true)
    (GB : FnOk P w K mg base CX0 2 fB fdB ["value", "least", "most"] spBetween) (bB : Binds K fdB ["value", "least", "most"] []) (gB : mg "is_between" = some (.ref fB)) (kB : PySem.W.keepIn K (.ref fB) = true)
    (mM : mg "MOST_VALUE" = some (.int 9999 tk)) : FnOk P w K mg base CX0 6 f fd ["plan", "filling", "cell", "value"] (spWithV K) := by
  refine F.ok scWithV (fun vs H Q E h => ?_) (fun cdv A outer s H vs Q E hr h => ?_)
  · obtain ⟨a, t, x, v, cs, vs, c, i, rfl, _⟩ := h
    rfl
  · obtain ⟨a, t, x, v, cs, vs, c, i, rfl, hp, gd, hl, ht, v9, hx, hc, ok, q⟩ := h
    have nd := scWithV.nd
    have hr5 : Room 5 _ := hr.mono (by omega)
    have hr2 : Room 2 _ := hr.mono (by omega)
    refine ⟨_, pss_cons (ps_set (i := 4) nd rfl (.inl rfl) (pe_call GI hr5 (by rfl) gI kI bI .nil pass0 (pa_cons (pv 0) (pa_cons (pv 2) pa_nil))))
      (pss_cons (ps_if (pt_not (pt_val (pe_call GB hr2 (by rfl) gB kB bB .nil pass0 (pa_cons (pv 3) (pa_cons pe_int (pa_cons (pe_glob (v := .int 9999) (by rfl) mM ⟨_, rfl⟩) pa_nil)))))) (pss_one ps_never) pss_nil)
      (pss_cons (ps_if (pt_cmpR op_in_seq (pv 3) (pe_op op_catA (pe_slice sl_tupA (pv 1) po_none (po_some (pv 4))) (pe_slice sl_tupA (pv 1) (po_some (pe_op op_add (pv 4) pe_int)) po_none)) (by rfl)) (pss_one ps_never) pss_nil)
      (pss_one (ps_ret (pe_op op_catA (pe_op op_catA (pe_slice sl_tupA (pv 1) po_none (po_some (pv 4))) (pe_tup (pa_cons (pv 3) pa_nil))) (pe_slice sl_tupA (pv 1) (po_some (pe_op op_add (pv 4) pe_int)) po_none)))))), ?_⟩
    obtain ⟨hi, v1, v2, vno⟩ := ok
    have hvl := v9.len
    have hml : (vs.map V.int).length = cs.length := by rw [List.length_map, hvl]
    refine ⟨_, rfl, _, rfl, a, x, cs, c, i, rfl, hp, gd, hx, hc, fun H1 s1 => ?_⟩
    refine ⟨_, rfl, v, 1, 9999, rfl, v1, v2, true, rfl, ?_⟩
    have ht1 := same_seqT s1 ht
    refine ⟨_, rfl, _, rfl, _, rfl, _, rfl, ?_⟩
    refine slTo_ok2 (n := i) ht1 (by omega) (fun B1 u1 b1 f1 => ?_)
    refine ⟨_, rfl, _, rfl, _, _, rfl, rfl, _, rfl, ?_⟩
    dsimp only [tNoPart]
    rw [show ((i : Int) + 1) = ((i + 1 : Nat) : Int) by simp]
    refine slFrom_ok2 (n := i + 1) (same_seqT b1 ht1) (by omega) (fun B2 u2 b2 f2 => ?_)
    refine catA_ok2 (same_seqT b2 f1) f2 (by rw [List.length_take, List.length_drop]; omega) (fun B3 u3 b3 f3 => ?_)
    have b13 := (b1.trans b2).trans b3
    have s13 := s1.trans b13
    refine ⟨u3, _, rfl, .inr f3, rfl, ?_, false, ?_, ?_⟩
    · rw [← List.map_take, ← List.map_drop, ← List.map_append]
      exact flat_ints _
    · rw [← List.map_take, ← List.map_drop, ← List.map_append]
      show V.bl (inV (.int v) _) = _
      rw [inV_ints]
      refine congrArg V.bl (decide_eq_false fun hm => ?_)
      rcases List.mem_append.mp hm with h | h
      · obtain ⟨j, hj, e⟩ := List.mem_take_iff_getElem.mp h
        refine vno j (by omega) (by omega) ?_
        rw [getD_mem (by omega)]
        exact e
      · obtain ⟨j, hj, e⟩ := List.mem_drop_iff_getElem.mp h
        refine vno (i + 1 + j) (by omega) (by omega) ?_
        rw [getD_mem (by omega)]
        exact e
    · have ht3 := same_seqT s13 ht
      refine ⟨_, rfl, _, rfl, _, rfl, ?_⟩
      refine slTo_ok2 (n := i) ht3 (by omega) (fun C1 w1 c1 g1 => ?_)
      refine ⟨_, rfl, by show 1 ≤ sizeLine; decide, fun t4 n4 => ?_⟩
      have c2 := same_new (o := .tup [.int v]) n4
      refine catA_ok2 (same_seqT c2 g1) (SqT.of upd_same) (by rw [List.length_take]; show _ + 1 ≤ 64; omega) (fun C3 w3 c3 g3 => ?_)
      have c13 := (c1.trans c2).trans c3
      refine ⟨_, rfl, _, rfl, _, _, rfl, rfl, _, rfl, ?_⟩
      dsimp only [tNoPart]
      rw [show ((i : Int) + 1) = ((i + 1 : Nat) : Int) by simp]
      refine slFrom_ok2 (n := i + 1) (same_seqT c13 ht3) (by omega) (fun C4 w4 c4 g4 => ?_)
      refine catA_ok2 (same_seqT c4 g3) g4 (by rw [List.length_append, List.length_take, List.length_drop]; show _ + 1 + _ ≤ 64; omega) (fun C5 w5 c5 g5 => ?_)
      refine q C5 w5 ((s13.trans (c13.trans c4)).trans c5) ?_
      have e : (vs.map V.int).take i ++ [V.int v] ++ (vs.map V.int).drop (i + 1) = ((Ed.set i v).beh cs vs).map V.int := by
        show _ = (vs.set i v).map V.int
        rw [List.set_eq_take_append_cons_drop, if_pos (by omega), List.map_append, List.map_cons, List.map_take, List.map_drop, List.append_assoc]
        rfl
      rw [← e]
      exact g5
theorem ok_withS {f fI : Addr} {fd fdI : FuncData} (F : Fun K "with_swap" "with_swap" sWithS f fd)
    (GI : FnOk P w K mg base CX0 5 fI fdI ["plan", "cell"] (spIxCell K)) (bI : Binds K fdI ["plan", "cell"] []) (gI : mg "index_of_cell" = some (.ref fI)) (kI : PySem.W.keepIn K (.ref fI) = true)
    (mL : mg "list" = none) (mT : mg "tuple" = none) : FnOk P w K mg base CX0 6 f fd ["plan", "filling", "cell", "other"] (spWithS K) := by
  refine F.ok scWithS (fun vs H Q E h => ?_) (fun cdv A outer s H vs Q E hr h => ?_)
  · obtain ⟨a, t, x, y, cs, vs, c, d, i, j, rfl, _⟩ := h
    rfl
  · obtain ⟨a, t, x, y, cs, vs, c, d, i, j, rfl, hp, gd, hl, ht, v9, hx, hc, hy, hd, q⟩ := h
    have nd := scWithS.nd
    have hr5 : Room 5 _ := hr.mono (by omega)
    refine ⟨_, pss_cons (ps_set (i := 4) nd rfl (.inl rfl) (pe_call GI hr5 (by rfl) gI kI bI .nil pass0 (pa_cons (pv 0) (pa_cons (pv 2) pa_nil))))
      (pss_cons (ps_set (i := 5) nd rfl (.inl rfl) (pe_call GI hr5 (by rfl) gI kI bI .nil pass0 (pa_cons (pv 0) (pa_cons (pv 3) pa_nil))))
      (pss_cons (ps_set (i := 6) nd rfl (.inl rfl) (pe_callTy call_list_of (by rfl) mL (by decide +kernel) (pa_cons (pv 1) pa_nil)))
      (pss_cons (ps_asg (pe_tup (pa_cons (pe_ix ix_tup (pv 1) (pv 5) (fun _ _ => rfl)) (pa_cons (pe_ix ix_tup (pv 1) (pv 4) (fun _ _ => rfl)) pa_nil))) (pg_tup (by rfl) (pgs_cons (pg_sub (pv 6) (pv 4) set_list) (pgs_cons (pg_sub (pv 6) (pv 5) set_list) pgs_nil))))
      (pss_one (ps_ret (pe_callTy call_tuple_of (by rfl) mT (by decide +kernel) (pa_cons (pv 6) pa_nil))))))), ?_⟩
    have hvl := v9.len
    have hi := (List.getElem?_eq_some_iff.mp hc).1
    have hj := (List.getElem?_eq_some_iff.mp hd).1
    refine ⟨_, rfl, _, rfl, a, x, cs, c, i, rfl, hp, gd, hx, hc, fun H1 s1 => ?_⟩
    refine ⟨_, rfl, _, rfl, a, y, cs, d, j, rfl, hp.same s1, gd, cellT_same s1 hy, hd, fun H2 s2 => ?_⟩
    have s12 := s1.trans s2
    have ht2 := same_seqT s12 ht
    refine ⟨_, rfl, t, _, rfl, .inr ht2, fun L nL => ?_⟩
    have sL := same_new (o := .lst (vs.map V.int)) nL
    have hL : upd H2 L (.lst (vs.map V.int)) L = some (.lst (vs.map V.int)) := upd_same
    have s13 := s12.trans sL
    have ht3 := same_seqT s13 ht
    generalize upd H2 L (.lst (vs.map V.int)) = H3 at sL hL s13 ht3 ⊢
    have gi : (vs.map V.int)[i]? = some (.int (vs.getD i 0)) := by rw [List.getElem?_map, List.getElem?_eq_getElem (by omega), getD_mem (by omega)]; rfl
    have gj : (vs.map V.int)[j]? = some (.int (vs.getD j 0)) := by rw [List.getElem?_map, List.getElem?_eq_getElem (by omega), getD_mem (by omega)]; rfl
    refine ⟨_, rfl, _, rfl, t, _, _, _, rfl, rfl, ht3, atI_nat gj, _, rfl, _, rfl, t, _, _, _, rfl, rfl, ht3, atI_nat gi, by show 2 ≤ sizeLine; decide, fun T nT => ?_⟩
    have sT := same_new (o := .tup [.int (vs.getD j 0), .int (vs.getD i 0)]) nT
    have hT : upd H3 T (.tup [.int (vs.getD j 0), .int (vs.getD i 0)]) T = some (.tup [.int (vs.getD j 0), .int (vs.getD i 0)]) := upd_same
    have hL4 := sT _ _ hL
    have s14 := s13.trans sT
    have nLT : L ≠ T := ne_of_none hL nT
    generalize upd H3 T (.tup [.int (vs.getD j 0), .int (vs.getD i 0)]) = H4 at hT hL4 s14 ⊢
    refine ⟨T, _, rfl, SqT.of hT, rfl, _, _, rfl, _, rfl, _, rfl, L, _, (i : Int), i, rfl, rfl, hL4, ixN_at (by rw [List.length_map]; omega), ?_⟩
    refine ⟨_, _, rfl, _, rfl, _, rfl, L, _, (j : Int), j, rfl, rfl, upd_same, ixN_at (by rw [List.length_set, List.length_map]; omega), rfl, ?_⟩
    rw [upd_upd]
    have eS : (((vs.map V.int).set i (.int (vs.getD j 0))).set j (.int (vs.getD i 0))) = ((Ed.swap i j).beh cs vs).map V.int := by
      show _ = ((vs.set i (vs.getD j 0)).set j (vs.getD i 0)).map V.int
      rw [List.map_set, List.map_set]
    rw [eS]
    refine ⟨_, rfl, L, _, rfl, .inl ⟨SqL.of upd_same, fun U nU => ?_⟩⟩
    have sU := same_new (o := .tup (((Ed.swap i j).beh cs vs).map V.int)) nU
    refine q _ U (fun b o e => sU _ _ ?_) (SqT.of upd_same)
    have n : b ≠ L := ne_of_none e (s12.free nL)
    rw [upd_ne n]
    exact s14 _ _ e
theorem ok_edited {f fR fV fS : Addr} {fd fdR fdV fdS : FuncData} (F : Fun K "edited" "edited" sEdited f fd)
    (GR : FnOk P w K mg base CX0 11 fR fdR ["plan", "filling", "program"] (spRun K)) (bR : Binds K fdR ["plan", "filling", "program"] []) (gR : mg "run" = some (.ref fR)) (kR : PySem.W.keepIn K (.ref fR) = true)
    (GV : FnOk P w K mg base CX0 6 fV fdV ["plan", "filling", "cell", "value"] (spWithV K)) (bV : Binds K fdV ["plan", "filling", "cell", "value"] []) (gV : mg "with_value" = some (.ref fV)) (kV : PySem.W.keepIn K (.ref fV) = true)
    (GS : FnOk P w K mg base CX0 6 fS fdS ["plan", "filling", "cell", "other"] (spWithS K)) (bS : Binds K fdS ["plan", "filling", "cell", "other"] []) (gS : mg "with_swap" = some (.ref fS)) (kS : PySem.W.keepIn K (.ref fS) = true) :
    FnOk P w K mg base CX0 12 f fd ["plan", "filling", "edit"] (spEdited K) := by
  refine F.ok scEdited (fun vs H Q E h => ?_) (fun cdv A outer s H vs Q E hr h => ?_)
  · obtain ⟨a, t, x, cs, vs, e, rfl, _⟩ := h
    rfl
  · obtain ⟨a, t, x, cs, vs, e, rfl, hp, gd, hl, ht, v9, he, ok, q⟩ := h
    have hr11 : Room 11 _ := hr.mono (by omega)
    have hr6 : Room 6 _ := hr.mono (by omega)
    refine ⟨_, pss_cons (ps_if (pt_cmpR op_eq (pe_ix ix_tup (pv 2) pe_int (fun _ _ => rfl)) pe_str (nomark _)) (pss_one (ps_ret (pe_call GR hr11 (by rfl) gR kR bR .nil pass0 (pa_cons (pv 0) (pa_cons (pv 1) (pa_cons (pe_ix ix_tup (pv 2) pe_int (fun _ _ => rfl)) pa_nil)))))) pss_nil)
      (pss_cons (ps_if (pt_cmpR op_eq (pe_ix ix_tup (pv 2) pe_int (fun _ _ => rfl)) pe_str (nomark _)) (pss_one (ps_ret (pe_call GV hr6 (by rfl) gV kV bV .nil pass0 (pa_cons (pv 0) (pa_cons (pv 1) (pa_cons (pe_ix ix_tup (pv 2) pe_int (fun _ _ => rfl)) (pa_cons (pe_ix ix_tup (pv 2) pe_int (fun _ _ => rfl)) pa_nil))))))) pss_nil)
      (pss_one (ps_ret (pe_call GS hr6 (by rfl) gS kS bS .nil pass0 (pa_cons (pv 0) (pa_cons (pv 1) (pa_cons (pe_ix ix_tup (pv 2) pe_int (fun _ _ => rfl)) (pa_cons (pe_ix ix_tup (pv 2) pe_int (fun _ _ => rfl)) pa_nil)))))))), ?_⟩
    have d1 : decide (V.str "set" = V.str "arrange") = false := by decide +kernel
    have d2 : decide (V.str "swap" = V.str "arrange") = false := by decide +kernel
    have d3 : decide (V.str "swap" = V.str "set") = false := by decide +kernel
    have d0 : decide (V.str "arrange" = V.str "arrange") = true := by decide +kernel
    have d4 : decide (V.str "set" = V.str "set") = true := by decide +kernel
    cases he with
    | @arr u g ss h1 h2 =>
      refine ⟨_, rfl, u, _, 0, .str "arrange", rfl, rfl, h1, rfl, rfl, true, congrArg V.bl d0, ?_⟩
      obtain ⟨o1, o2, o3⟩ := ok
      refine ⟨_, rfl, _, rfl, _, rfl, u, _, 1, .ref g, rfl, rfl, h1, rfl, a, t, g, cs, vs, ss, rfl, hp.t.at, gd, hl, ht, v9, h2, o1, o2, o3, fun H1 u1 s1 hu => ?_⟩
      exact q H1 u1 s1 hu
    | @set u y c i v h1 h2 h3 =>
      refine ⟨_, rfl, u, _, 0, .str "set", rfl, rfl, h1, rfl, rfl, false, congrArg V.bl d1, ?_⟩
      refine ⟨_, rfl, u, _, 0, .str "set", rfl, rfl, h1, rfl, rfl, true, congrArg V.bl d4, ?_⟩
      refine ⟨_, rfl, _, rfl, _, rfl, u, _, 1, y, rfl, rfl, h1, rfl, _, rfl, u, _, 2, .int v, rfl, rfl, h1, rfl, a, t, y, v, cs, vs, c, i, rfl, hp, gd, hl, ht, v9, h2, h3, ok, fun H1 u1 s1 hu => ?_⟩
      exact q H1 u1 s1 hu
    | @swap u y z c d i j h1 h2 h3 h4 h5 =>
      refine ⟨_, rfl, u, _, 0, .str "swap", rfl, rfl, h1, rfl, rfl, false, congrArg V.bl d2, ?_⟩
      refine ⟨_, rfl, u, _, 0, .str "swap", rfl, rfl, h1, rfl, rfl, false, congrArg V.bl d3, ?_⟩
      refine ⟨_, rfl, _, rfl, _, rfl, u, _, 1, y, rfl, rfl, h1, rfl, _, rfl, u, _, 2, z, rfl, rfl, h1, rfl, a, t, y, z, cs, vs, c, d, i, j, rfl, hp, gd, hl, ht, v9, h2, h4, h3, h5, fun H1 u1 s1 hu => ?_⟩
      exact q H1 u1 s1 hu
end
end KS
namespace PySem.W
open PySem PySem.Spec PySem.Calls PyProof.Rows
end PySem.W
namespace KS
open PySem PySem.Spec PyProof.Rows L2
end KS
namespace PySem
namespace HandSPX
open PySem.W PySem.Calls PyProof.Rows
/-! ### type.__call__ on such a class: BaseException.__new__, then the own __init__ -/
end HandSPX
end PySem
namespace PySem
namespace HandSPX
open Builtin Builtin.ObjectAttr
end HandSPX
end PySem
namespace KS
open PySem PySem.Spec PyProof.Rows L2
end KS
namespace KS
open PySem PySem.Spec PyProof.Rows L2
/-! ### repr of things -/
mutual
theorem dp_same {K : PySem.W.Frag} {H H' : Hp} (s : Same H H') : ∀ (d : PyData) (v : V), Dp K H v d → Dp K H' v d
  | .none, _, h => by cases h; exact .non
  | .bool b, _, h => by cases h; exact .bl b
  | .int i, _, h => by cases h; exact .int i
  | .str x, _, h => by cases h; exact .str x
  | .list ds, _, h => by
    cases h with
    | lst h1 h2 => exact .lst (s.seq h1) (dpAll_same s ds _ h2)
  | .tuple ds, _, h => by
    cases h with
    | tup h1 h2 => exact .tup (same_seqT s h1) (dpAll_same s ds _ h2)
  | .dict kvs, _, h => by cases h
theorem dpAll_same {K : PySem.W.Frag} {H H' : Hp} (s : Same H H') : ∀ (ds : List PyData) (vs : List V), DpAll K H vs ds → DpAll K H' vs ds
  | [], _, h => by cases h; exact .nil
  | d :: ds, _, h => by
    cases h with
    | cons h1 h2 => exact .cons (dp_same s d _ h1) (dpAll_same s ds _ h2)
end
end KS
namespace PySem
end PySem
namespace L2
open PySem PySem.Spec PyProof.Rows
end L2
namespace KS
open PySem PySem.Spec PyProof.Rows L2 RZ
/-! ### things of any kind, as a filling -/
/-! ### the promises -/
end KS
namespace KS
open PySem PySem.Spec PyProof.Rows L2 RZ
section
variable {P : Program} {w : World} {K : PySem.W.Frag} {mg : Str → Option Value} {base : Heap}
theorem ok_wholeG {f : Addr} {fd : FuncData} (F : Fun K "is_whole" "is_whole" sWhole f fd) (mi : mg "isinstance" = none) (mI : mg "int" = none) (mB : mg "bool" = none) : FnOk P w K mg base CX0 1 f fd ["value"] (spWholeG K) := by
  refine F.ok scWhole (fun vs H Q E h => ?_) (fun cdv A outer s H vs Q E hr h => ?_)
  · obtain ⟨v, t, rfl, _⟩ := h
    rfl
  · obtain ⟨v, t, rfl, ho, q⟩ := h
    refine ⟨_, pss_one (ps_ret (pe_and (pe_callB call_isi (by rfl) mi (by decide +kernel) (pa_cons (pv 0) (pa_cons (pe_bltn (v := .ty "int") (by rfl) mI (by decide +kernel) rfl) pa_nil)))
      (pe_one (pe_not (pe_callB call_isi (by rfl) mi (by decide +kernel) (pa_cons (pv 0) (pa_cons (pe_bltn (v := .ty "bool") (by rfl) mB (by decide +kernel) rfl) pa_nil))))))), ?_⟩
    refine ⟨_, rfl, v, _, _, _, _, rfl, .ty "int", ho.ty, kit_int ho, _, rfl, ite2 (fun e => ?_) (fun e => ?_)⟩
    · refine ⟨_, rfl, v, _, _, _, _, rfl, .ty "bool", ho.ty, kit_bool ho, _, rfl, ?_⟩
      have e' := of_decide_eq_true e
      have z : (!decide (t = "bool")) = decide (t = "int") := by
        rcases e' with e' | e' <;> subst e' <;> decide
      rw [z]
      exact q
    · have z : decide (t = "int") = false := decide_eq_false fun y => e (decide_eq_true (.inl y))
      rw [z] at q
      exact q
theorem ok_betweenG {f fW : Addr} {fd fdW : FuncData} (F : Fun K "is_between" "is_between" sBetween f fd) (GW : FnOk P w K mg base CX0 1 fW fdW ["value"] (spWholeG K)) (bW : Binds K fdW ["value"] []) (gW : mg "is_whole" = some (.ref fW)) (kW : PySem.W.keepIn K (.ref fW) = true) :
    FnOk P w K mg base CX0 2 f fd ["value", "least", "most"] (spBetweenG K) := by
  refine F.ok scBetween (fun vs H Q E h => ?_) (fun cdv A outer s H vs Q E hr h => ?_)
  · obtain ⟨v, lo, hi, b, rfl, _⟩ := h
    rfl
  · obtain ⟨v, lo, hi, b, rfl, hp, q⟩ := h
    refine ⟨_, pss_one (ps_ret (pe_and (pe_call GW hr (by rfl) gW kW bW .nil pass0 (pa_cons (pv 0) pa_nil)) (pe_one (pe_chain op_le op_le (pv 1) (pv 0) (pv 2))))), ?_⟩
    have go : ∀ i : Int, v = .int i → b = decide (lo ≤ i ∧ i ≤ hi) → tAndV (tCall (spWholeG K) [] E0 (tCons (tVar 0) tNil)) (tChain rLe rLe (tVar 1) (tVar 0) (tVar 2)) [some v, some (.int lo), some (.int hi)] H Q := fun i ei eb => by
      subst ei
      refine ⟨_, rfl, .int i, "int", rfl, .int i, true, rfl, ?_⟩
      refine ⟨_, rfl, _, rfl, _, _, rfl, rfl, _, rfl, ite2 (fun e => ?_) (fun e => ?_)⟩
      · have e' := of_decide_eq_true e
        refine ⟨_, rfl, _, _, rfl, rfl, ?_⟩
        have z : decide (i ≤ hi) = b := by
          rw [eb]
          by_cases y : i ≤ hi
          · rw [decide_eq_true y, decide_eq_true ⟨e', y⟩]
          · rw [decide_eq_false y, decide_eq_false fun x => y x.2]
        show Q (V.bl (decide (i ≤ hi))) H
        rw [z]
        exact q
      · have z : b = false := by
          rw [eb]
          exact decide_eq_false fun x => e (decide_eq_true x.1)
        rw [z] at q
        exact q
    cases b with
    | true =>
      obtain ⟨i, rfl, h0, h1⟩ := hp
      exact go i rfl (decide_eq_true ⟨h0, h1⟩).symm
    | false =>
      rcases hp with ⟨i, rfl, hn⟩ | ⟨ty, ho, hn⟩
      · exact go i rfl (decide_eq_false hn).symm
      · refine ⟨_, rfl, v, ty, rfl, ho, _, rfl, ?_⟩
        rw [decide_eq_false hn]
        exact q
end
end KS
/-! check_plan on anything, beside the one for good plans -/
namespace KS
open PySem PySem.Spec PyProof.Rows L2
section
variable {P : Program} {w : World} {K : PySem.W.Frag} {mg : Str → Option Value} {base : Heap}
theorem ok_placeG {f fB : Addr} {fd fdB : FuncData} {t : Tok} (F : Fun K "is_place" "is_place" sPlace f fd) (GB : FnOk P w K mg base CX0 2 fB fdB ["value", "least", "most"] (spBetweenG K)) (bB : Binds K fdB ["value", "least", "most"] []) (gB : mg "is_between" = some (.ref fB)) (kB : PySem.W.keepIn K (.ref fB) = true)
    (mM : mg "MOST_INDEX" = some (.int 7 t)) : FnOk P w K mg base CX0 3 f fd ["value"] (spPlaceG K) := by
  refine F.ok scPlace (fun vs H Q E h => ?_) (fun cdv A outer s H vs Q E hr h => ?_)
  · obtain ⟨v, b, rfl, _⟩ := h
    rfl
  · obtain ⟨v, b, rfl, hp, q⟩ := h
    refine ⟨_, pss_one (ps_ret (pe_call GB hr (by rfl) gB kB bB .nil pass0 (pa_cons (pv 0) (pa_cons pe_int (pa_cons (pe_glob (v := .int 7) (by rfl) mM ⟨_, rfl⟩) pa_nil))))), ?_⟩
    exact ⟨_, rfl, v, 0, 7, b, rfl, bw_of_pl hp, q⟩
theorem ok_isCellG {f fP : Addr} {fd fdP : FuncData} (F : Fun K "is_cell" "is_cell" sIsCell f fd) (GP : FnOk P w K mg base CX0 3 fP fdP ["value"] (spPlaceG K)) (bP : Binds K fdP ["value"] []) (gP : mg "is_place" = some (.ref fP)) (kP : PySem.W.keepIn K (.ref fP) = true)
    (mi : mg "isinstance" = none) (mT : mg "tuple" = none) (ml : mg "len" = none) : FnOk P w K mg base CX0 4 f fd ["value"] (spIsCellG K) := by
  refine F.ok scIsCell (fun vs H Q E h => ?_) (fun cdv A outer s H vs Q E hr h => ?_)
  · obtain ⟨a, c, rfl, _⟩ := h
    rfl
  · obtain ⟨v, o, rfl, he, q⟩ := h
    refine ⟨_, pss_one (ps_ret (pe_and (pe_callB call_isi (by rfl) mi (by decide +kernel) (pa_cons (pv 0) (pa_cons (pe_bltn (v := .ty "tuple") (by rfl) mT (by decide +kernel) rfl) pa_nil)))
      (pe_and (pe_cmpR op_eq (pe_callB call_len_seq (by rfl) ml PySem.boot_len (pa_cons (pv 0) pa_nil)) pe_int (nomark _))
      (pe_and (pe_call GP hr (by rfl) gP kP bP .nil pass0 (pa_cons (pe_ix ix_tup (pv 0) pe_int (fun _ _ => rfl)) pa_nil))
      (pe_one (pe_call GP hr (by rfl) gP kP bP .nil pass0 (pa_cons (pe_ix ix_tup (pv 0) pe_int (fun _ _ => rfl)) pa_nil))))))), ?_⟩
    have q0 := q H (Same.refl _)
    cases o with
    | some c =>
      obtain ⟨⟨a, rfl, ht⟩, hg⟩ := he
      refine ⟨_, rfl, _, _, _, _, true, rfl, .ty "tuple", tyx_tup ht, kit_ty (by decide +kernel), true, rfl, ?_⟩
      refine ⟨_, rfl, a, _, rfl, .inr ht, rfl, true, rfl, ?_⟩
      refine ⟨_, rfl, a, _, 0, .int c.1, rfl, rfl, ht, rfl, .int c.1, true, rfl, ⟨c.1, rfl, hg.1, hg.2.1⟩, true, rfl, ?_⟩
      exact ⟨_, rfl, a, _, 1, .int c.2, rfl, rfl, ht, rfl, .int c.2, true, rfl, ⟨c.2, rfl, hg.2.2.1, hg.2.2.2⟩, q0⟩
    | none =>
      rcases he with ⟨t, ho, n⟩ | ⟨t, ys, rfl, ht, n⟩ | ⟨t, y0, y1, b0, b1, rfl, ht, p0, p1, n⟩
      · refine ⟨_, rfl, v, _, _, _, _, rfl, .ty "tuple", ho.ty, kit_tuple ho, _, rfl, ?_⟩
        rw [decide_eq_false n]
        exact q0
      · refine ⟨_, rfl, _, _, _, _, true, rfl, .ty "tuple", tyx_tup ht, kit_ty (by decide +kernel), true, rfl, ?_⟩
        refine ⟨_, rfl, t, _, rfl, .inr ht, rfl, false, ?_, q0⟩
        have z : ¬ V.int (ys.length : Int) = V.int 2 := fun y => n (by
          have := V.int.inj y
          omega)
        exact bl_false z
      · refine ⟨_, rfl, _, _, _, _, true, rfl, .ty "tuple", tyx_tup ht, kit_ty (by decide +kernel), true, rfl, ?_⟩
        refine ⟨_, rfl, t, _, rfl, .inr ht, rfl, true, rfl, ?_⟩
        refine ⟨_, rfl, t, _, 0, y0, rfl, rfl, ht, rfl, y0, b0, rfl, p0, b0, rfl, ?_⟩
        cases b0 with
        | false => exact q0
        | true =>
          have n' : b1 = false := by simpa using n
          subst n'
          exact ⟨_, rfl, t, _, 1, y1, rfl, rfl, ht, rfl, y1, false, rfl, p1, q0⟩
end
end KS
/-! any statements; two promises of one def -/
namespace KS
open PySem PySem.Spec PyProof.Rows L2
section
variable {P : Program} {w : World} {K : PySem.W.Frag} {mg : Str → Option Value} {base : Heap}
/-- the promises of good and of bad ones together -/
theorem ok_both {CX : CXT} {f : Addr} {fd : FuncData} {ps : List Str} {j k : Nat} {sp1 sp2 : Sp} (G : FnOk P w K mg base CX0 j f fd ps sp1) (B : FnOk P w K mg base CX k f fd ps sp2) (h : j ≤ k) :
    FnOk P w K mg base CX k f fd ps (fun vs H Q E => sp1 vs H Q E0 ∨ sp2 vs H Q E) := by
  refine ⟨fun vs H Q E h => h.elim (fun z => G.len _ _ _ _ z) fun z => B.len _ _ _ _ z, fun A outer s H args us vs Q E hr e0 hb r hsp => ?_⟩
  rcases hsp with z | z
  · refine codeAny_mono (G.run A outer s H args us vs Q E0 (hr.mono h) e0 hb r z) fun r' s' hq => ?_
    cases r' with
    | error e => cases hq
    | ok fl => cases fl <;> exact hq
  · exact B.run A outer s H args us vs Q E hr e0 hb r z
end
end KS
/-! defs that check a plan, a filling, first -/
/-! lambdas with parameters, held as values, handed on from def to def and called there -/
namespace KS
open PySem PySem.Spec PyProof.Rows L2 LamX NdefX
/-! ### what a lambda promises -/
section
variable {CX : CXT} {P : Program} {w : World} {K : PySem.W.Frag} {mg : Str → Option Value} {base : Heap} {N ps fr : List Str} {F : NF} {eb : Expr} {f : Addr} {k j : Nat} {sp sp' : List (Option V) → Sp}
end
/-! ### defs that are handed a lambda: their promise of the very state's cells -/
end KS
/-! calls of lambdas that may raise -/
/-! doors: defs that take a plan, and a filling, of any worth -/
namespace KS
open PySem PySem.Spec PyProof.Rows L2 LamX NdefX
/-! ### things stay what they are when tables grow -/
section
variable {K : PySem.W.Frag} {H H' : Hp}
end
/-! ### promises of doors -/
/-! ### doors that are lambdas, what is made of them -/
section
variable {P : Program} {w : World} {K : PySem.W.Frag} {mg : Str → Option Value} {base : Heap} {k : Nat} {ps : List Str} {sp : Sp} {T : List (Addr × Str)} {H : Hp} {L : Addr}
end
end KS
namespace KS
open PySem PySem.Spec PyProof.Rows L2 TL
open PySem.W (AllAlike Sortable dataLe dataLt)
/-! ### pairs of a cell and its value, sorted -/
def le3 (a b : Cell × Int) : Prop := lt2 a.1 b.1 ∨ (a.1 = b.1 ∧ a.2 ≤ b.2)
instance (a b : Cell × Int) : Decidable (le3 a b) := by unfold le3; exact inferInstance
end KS
namespace KS
open PySem PySem.Spec PyProof.Rows L2
/-! ### programs as data, shown -/
mutual
def Stp.dat : Stp → PyData
  | .w l => .str (wS l)
  | .r n b => .tuple [.str "repeat", .int n, .tuple (datL b)]
def datL : List Stp → List PyData
  | [] => []
  | s :: b => s.dat :: datL b
end
mutual
theorem StA.dp {K : PySem.W.Frag} {H : Hp} : ∀ {v : V} {s : Stp}, StA K H v s → Dp K H v s.dat
  | _, _, .w l => by
    simp only [Stp.dat]
    exact .str _
  | _, _, .r h1 h2 h3 => by
    simp only [Stp.dat]
    exact .tup h1 (.cons (.str _) (.cons (.int _) (.cons (.tup h2 (StsA.dp h3)) .nil)))
theorem StsA.dp {K : PySem.W.Frag} {H : Hp} : ∀ {vs : List V} {ss : List Stp}, StsA K H vs ss → DpAll K H vs (datL ss)
  | _, _, .nil => by
    simp only [datL]
    exact .nil
  | _, _, .cons h1 h2 => by
    simp only [datL]
    exact .cons (StA.dp h1) (StsA.dp h2)
end
theorem wS_cps (l : List Bool) : ∀ c ∈ (wS l).cps.toList, c < 16 ^ 8 := by
  intro c hc
  have hc' : c ∈ (l.map ltr).toArray.toList := hc
  rw [List.toList_toArray] at hc'
  obtain ⟨b, _, rfl⟩ := List.mem_map.mp hc'
  cases b <;> decide
end KS
namespace KS
open PySem PySem.Spec PyProof.Rows L2 TL
/-! ### tables as pairs, data of them, grids of words as data -/
theorem cells_eqv : ∀ l m : List Cell, PyData.eqvAll (l.map cellD) (m.map cellD) = decide (l = m)
  | [], [] => by simp [PyData.eqvAll]
  | [], _ :: _ => by simp [PyData.eqvAll]
  | _ :: _, [] => by simp [PyData.eqvAll]
  | x :: l, y :: m => by
    have h : PyData.eqvAll ((x :: l).map cellD) ((y :: m).map cellD) = (PyData.eqv (cellD x) (cellD y) && PyData.eqvAll (l.map cellD) (m.map cellD)) := by
      simp only [List.map_cons, PyData.eqvAll]
    rw [h, cells_eqv l m, cell_eqv]
    by_cases e : x = y <;> by_cases e2 : l = m <;> simp [e, e2]
/-! grids -/
end KS
/-! the class Sheet: its methods -/
namespace KS
open PySem PySem.Spec PyProof.Rows L2
/-- what of the text the class must have -/
structure ShCls (K : PySem.W.Frag) (mg : Str → Option Value) (C : Addr) : Prop where
  cl : Cls K C
  nC : NoAttr K C "cells"
  nN : NoAttr K C "numbers"
  nP : NoAttr K C "past"
  nB : NoAttr K C "busy"
  gC : mg "Sheet" = some (.ref C)
  ca : PySem.W.findIn K (.ref C) "__class__" = some (some (.builtin "object.__class__"))
  cn : PySem.W.specialIn K (.builtin "object.__class__") "__get__" = some (some (.builtin "getset_descriptor.__get__"))
  ct : PySem.W.takesIn K (.builtin "object.__class__") = some true
  cm : PySem.W.mroIn K C (.type "object") = some true
  k1 : PySem.W.kitOne K (.type "NoneType") (.ref C) = some false
  k2 : PySem.W.kitOne K (.type "tuple") (.ref C) = some false
  k3 : PySem.W.kitOne K (.type "str") (.ref C) = some false
  k4 : PySem.W.kitOne K (.type "int") (.ref C) = some false
  k5 : PySem.W.kitOne K (.type "bool") (.ref C) = some false
  k6 : PySem.W.kitOne K (.type "list") (.ref C) = some false
theorem ShCls.self {K : PySem.W.Frag} {mg : Str → Option Value} {C : Addr} (T : ShCls K mg C) : PySem.W.kitOne K (.ref C) (.ref C) = some true := by
  unfold PySem.W.kitOne
  rw [if_pos (by simp)]
theorem ShCls.ty {K : PySem.W.Frag} {mg : Str → Option Value} {C : Addr} (T : ShCls K mg C) {H : Hp} {a dx : Addr} {fs : List (Str × V)} (h : H a = some (.ins C dx fs)) : TyX K H (.ref a) (.ref C) :=
  .base (.ins h T.cl T.ca T.cn T.ct T.cm)
abbrev sShInit : Stmt := inClass (topS 64) 0
abbrev sShPerf : Stmt := inClass (topS 64) 1
abbrev sShPlan : Stmt := inClass (topS 64) 7
abbrev sShFil : Stmt := inClass (topS 64) 8
abbrev sShLog : Stmt := inClass (topS 64) 9
abbrev sShVal : Stmt := inClass (topS 64) 10
abbrev sShSet9 : Stmt := inClass (topS 64) 11
abbrev sShLen : Stmt := inClass (topS 64) 12
abbrev sShEq : Stmt := inClass (topS 64) 13
abbrev sShStr : Stmt := inClass (topS 64) 14
abbrev sShRepr : Stmt := inClass (topS 64) 15
theorem scShInit : FnScope ["self", "plan", "filling"] ["self", "plan", "filling"] (defScope sShInit) := ⟨rfl, rfl, rfl, by decide +kernel, rfl, by decide +kernel, by decide +kernel⟩
theorem scShPerf : FnScope ["self", "edit", "numbers"] ["self", "edit"] (defScope sShPerf) := ⟨rfl, rfl, rfl, by decide +kernel, rfl, by decide +kernel, by decide +kernel⟩
theorem scShPlan : FnScope ["self"] ["self"] (defScope sShPlan) := ⟨rfl, rfl, rfl, by decide +kernel, rfl, by decide +kernel, by decide +kernel⟩
theorem scShFil : FnScope ["self"] ["self"] (defScope sShFil) := ⟨rfl, rfl, rfl, by decide +kernel, rfl, by decide +kernel, by decide +kernel⟩
abbrev nShLog : List Str := ["self", "edit", "numbers"]
theorem scShLog : FnScope nShLog ["self"] (defScope sShLog) := ⟨rfl, rfl, rfl, by decide +kernel, rfl, by decide +kernel, by decide +kernel⟩
theorem scShVal : FnScope ["self", "cell"] ["self", "cell"] (defScope sShVal) := ⟨rfl, rfl, rfl, by decide +kernel, rfl, by decide +kernel, by decide +kernel⟩
theorem scShSet9 : FnScope ["self"] ["self"] (defScope sShSet9) := ⟨rfl, rfl, rfl, by decide +kernel, rfl, by decide +kernel, by decide +kernel⟩
theorem scShLen : FnScope ["self"] ["self"] (defScope sShLen) := ⟨rfl, rfl, rfl, by decide +kernel, rfl, by decide +kernel, by decide +kernel⟩
theorem scShEq : FnScope ["self", "other"] ["self", "other"] (defScope sShEq) := ⟨rfl, rfl, rfl, by decide +kernel, rfl, by decide +kernel, by decide +kernel⟩
theorem scShStr : FnScope ["self"] ["self"] (defScope sShStr) := ⟨rfl, rfl, rfl, by decide +kernel, rfl, by decide +kernel, by decide +kernel⟩
theorem scShRepr : FnScope ["self"] ["self"] (defScope sShRepr) := ⟨rfl, rfl, rfl, by decide +kernel, rfl, by decide +kernel, by decide +kernel⟩
/-! ### the promises -/
def spShInit (K : PySem.W.Frag) (C : Addr) : Sp := fun xs H Q _ => ∃ (a p q dx : Addr) (cs : List Cell) (vs : List Int), xs = [.ref a, .ref p, .ref q] ∧ H a = some (.ins C dx []) ∧ PlanT K H p cs ∧ Good cs ∧ cs.length ≤ 24 ∧ SqT K H q (vs.map V.int) ∧ Vals9 cs.length vs ∧
  ∀ H' t, KeepX a H H' → ShP K C H' a p q t false cs vs [] → Q .non H'
/-- an edit is performed -/
def ShDone (K : PySem.W.Frag) (C : Addr) (H : Hp) (a p : Addr) (b : Bool) (cs : List Cell) (vs : List Int) (ps : List (Ed × List Int)) (e : Ed) (Q : VK) : Prop :=
  ∀ H' q' t', KeepX a H H' → ShP K C H' a p q' t' b cs (e.beh cs vs) (ps ++ [(e, vs)]) → Q .non H'
def spShPerf (K : PySem.W.Frag) (C : Addr) : Sp := fun xs H Q _ => ∃ (a p q t : Addr) (b : Bool) (x : V) (cs : List Cell) (vs : List Int) (ps : List (Ed × List Int)) (e : Ed), xs = [.ref a, x] ∧ ShP K C H a p q t b cs vs ps ∧ PlanN H p cs ∧ ps.length < 1000 ∧ EdA K H cs x e ∧ e.ok cs.length vs ∧
  ShDone K C H a p b cs vs ps e Q
def spShPlan (K : PySem.W.Frag) (C : Addr) : Sp := fun xs H Q _ => ∃ (a p q t : Addr) (b : Bool) (cs : List Cell) (vs : List Int) (ps : List (Ed × List Int)), xs = [.ref a] ∧ ShP K C H a p q t b cs vs ps ∧ Q (.ref p) H
def spShFil (K : PySem.W.Frag) (C : Addr) : Sp := fun xs H Q _ => ∃ (a p q t : Addr) (b : Bool) (cs : List Cell) (vs : List Int) (ps : List (Ed × List Int)), xs = [.ref a] ∧ ShP K C H a p q t b cs vs ps ∧ Q (.ref q) H
/-- edits, in a row -/
def EdsA (K : PySem.W.Frag) (H : Hp) (cs : List Cell) : List V → List Ed → Prop := Paired (EdA K H cs)
def spShLog (K : PySem.W.Frag) (C : Addr) : Sp := fun xs H Q _ => ∃ (a p q t : Addr) (b : Bool) (cs : List Cell) (vs : List Int) (ps : List (Ed × List Int)), xs = [.ref a] ∧ ShP K C H a p q t b cs vs ps ∧ ps.length ≤ 1000 ∧
  ∀ H' u ys, Same H H' → H' u = some (.tup ys) → EdsA K H' cs ys (ps.map (·.1)) → Q (.ref u) H'
def spShVal (K : PySem.W.Frag) (C : Addr) : Sp := fun xs H Q _ => ∃ (a p q t : Addr) (b : Bool) (x : V) (c : Cell) (i : Nat) (v : Int) (cs : List Cell) (vs : List Int) (ps : List (Ed × List Int)), xs = [.ref a, x] ∧ ShP K C H a p q t b cs vs ps ∧ PlanN H p cs ∧ CellT H x c ∧ cs[i]? = some c ∧ vs[i]? = some v ∧ ∀ H', Same H H' → Q (.int v) H'
def spShSet9 (K : PySem.W.Frag) (C : Addr) : Sp := fun xs H Q _ => ∃ (a p q t : Addr) (b : Bool) (cs : List Cell) (vs : List Int) (ps : List (Ed × List Int)), xs = [.ref a] ∧ ShP K C H a p q t b cs vs ps ∧ ∀ H', Same H H' → Q (.bl (settled cs vs)) H'
def spShLen (K : PySem.W.Frag) (C : Addr) : Sp := fun xs H Q _ => ∃ (a p q t : Addr) (b : Bool) (cs : List Cell) (vs : List Int) (ps : List (Ed × List Int)), xs = [.ref a] ∧ ShP K C H a p q t b cs vs ps ∧ Q (.int (cs.length : Nat)) H
def spShEq (K : PySem.W.Frag) (C : Addr) : Sp := fun xs H Q _ => ∃ (a p q t : Addr) (b : Bool) (y : V) (cs : List Cell) (vs : List Int) (ps : List (Ed × List Int)), xs = [.ref a, y] ∧ ShP K C H a p q t b cs vs ps ∧
  ((∃ (T : Value), TyX K H y T ∧ PySem.W.kitOne K T (.ref C) = some false ∧ Q (.bl false) H) ∨
   (∃ (a' p' q' t' : Addr) (b' : Bool) (cs' : List Cell) (vs' : List Int) (ps' : List (Ed × List Int)), y = .ref a' ∧ ShP K C H a' p' q' t' b' cs' vs' ps' ∧ Q (.bl (decide (cs = cs' ∧ vs = vs'))) H))
def spShStr (K : PySem.W.Frag) (C : Addr) : Sp := fun xs H Q _ => ∃ (a p q t : Addr) (b : Bool) (cs : List Cell) (vs : List Int) (ps : List (Ed × List Int)), xs = [.ref a] ∧ ShP K C H a p q t b cs vs ps ∧ ∀ H', Same H H' → Q (.str (page cs vs)) H'
def shRepr (n : Nat) : Str := ((Str.empty ++ ("Sheet(" : Str)) ++ (Str.ofString (toString (n : Int)))) ++ (")" : Str)
def spShRepr (K : PySem.W.Frag) (C : Addr) : Sp := fun xs H Q _ => ∃ (a p q t : Addr) (b : Bool) (cs : List Cell) (vs : List Int) (ps : List (Ed × List Int)), xs = [.ref a] ∧ ShP K C H a p q t b cs vs ps ∧ Q (.str (shRepr cs.length)) H
section
variable {P : Program} {w : World} {K : PySem.W.Frag} {mg : Str → Option Value} {base : Heap} {C : Addr}
/-! ### the readers -/
theorem ok_shPlan {f : Addr} {fd : FuncData} (F : Fun K "plan" "Sheet.plan" sShPlan f fd) (T : ShCls K mg C) : FnOk P w K mg base CX0 1 f fd ["self"] (spShPlan K C) := by
  refine F.ok scShPlan (fun vs H Q E h => ?_) (fun cdv A outer s H vs Q E hr h => ?_)
  · obtain ⟨a, p, q, t, b, cs, vs, ps, rfl, _⟩ := h
    rfl
  · obtain ⟨a, p, q, t, b, cs, vs, ps, rfl, S, k⟩ := h
    refine ⟨_, pss_one (ps_ret (pe_fld (pv 0) rfl)), ?_⟩
    obtain ⟨dx, ha⟩ := S.ob
    exact ⟨_, rfl, a, C, dx, _, _, rfl, ha, T.cl, T.nC, shF_cells, k⟩
theorem ok_shFil {f : Addr} {fd : FuncData} (F : Fun K "filling" "Sheet.filling" sShFil f fd) (T : ShCls K mg C) : FnOk P w K mg base CX0 1 f fd ["self"] (spShFil K C) := by
  refine F.ok scShFil (fun vs H Q E h => ?_) (fun cdv A outer s H vs Q E hr h => ?_)
  · obtain ⟨a, p, q, t, b, cs, vs, ps, rfl, _⟩ := h
    rfl
  · obtain ⟨a, p, q, t, b, cs, vs, ps, rfl, S, k⟩ := h
    refine ⟨_, pss_one (ps_ret (pe_fld (pv 0) rfl)), ?_⟩
    obtain ⟨dx, ha⟩ := S.ob
    exact ⟨_, rfl, a, C, dx, _, _, rfl, ha, T.cl, T.nN, shF_numbers, k⟩
theorem ok_shLen {f : Addr} {fd : FuncData} (F : Fun K "__len__" "Sheet.__len__" sShLen f fd) (T : ShCls K mg C) (ml : mg "len" = none) : FnOk P w K mg base CX0 1 f fd ["self"] (spShLen K C) := by
  refine F.ok scShLen (fun vs H Q E h => ?_) (fun cdv A outer s H vs Q E hr h => ?_)
  · obtain ⟨a, p, q, t, b, cs, vs, ps, rfl, _⟩ := h
    rfl
  · obtain ⟨a, p, q, t, b, cs, vs, ps, rfl, S, k⟩ := h
    refine ⟨_, pss_one (ps_ret (pe_callB call_len_seq (by rfl) ml PySem.boot_len (pa_cons (pe_fld (pv 0) rfl) pa_nil))), ?_⟩
    obtain ⟨dx, ha⟩ := S.ob
    obtain ⟨xs, hx, hc⟩ := S.pl
    refine ⟨_, rfl, a, C, dx, _, _, rfl, ha, T.cl, T.nC, shF_cells, p, xs, rfl, .inr hx, ?_⟩
    rw [Paired.length hc]
    exact k
theorem ok_shSet9 {f fS : Addr} {fd fdS : FuncData} (F : Fun K "is_settled" "Sheet.is_settled" sShSet9 f fd) (T : ShCls K mg C)
    (GS : FnOk P w K mg base CX0 9 fS fdS ["plan", "filling"] (spSettled K)) (bS : Binds K fdS ["plan", "filling"] []) (gS : mg "is_settled_table" = some (.ref fS)) (kS : PySem.W.keepIn K (.ref fS) = true) : FnOk P w K mg base CX0 10 f fd ["self"] (spShSet9 K C) := by
  refine F.ok scShSet9 (fun vs H Q E h => ?_) (fun cdv A outer s H vs Q E hr h => ?_)
  · obtain ⟨a, p, q, t, b, cs, vs, ps, rfl, _⟩ := h
    rfl
  · obtain ⟨a, p, q, t, b, cs, vs, ps, rfl, S, k⟩ := h
    refine ⟨_, pss_one (ps_ret (pe_call GS hr (by rfl) gS kS bS .nil pass0 (pa_cons (pe_fld (pv 0) rfl) (pa_cons (pe_fld (pv 0) rfl) pa_nil)))), ?_⟩
    obtain ⟨dx, ha⟩ := S.ob
    exact ⟨_, rfl, a, C, dx, _, _, rfl, ha, T.cl, T.nC, shF_cells, _, rfl, a, C, dx, _, _, rfl, ha, T.cl, T.nN, shF_numbers, p, q, cs, vs, rfl, S.pl.at, S.gd, S.l24, S.fl, S.v9, k⟩
theorem ok_shVal {f fI : Addr} {fd fdI : FuncData} (F : Fun K "value_at" "Sheet.value_at" sShVal f fd) (T : ShCls K mg C)
    (GI : FnOk P w K mg base CX0 5 fI fdI ["plan", "cell"] (spIxCell K)) (bI : Binds K fdI ["plan", "cell"] []) (gI : mg "index_of_cell" = some (.ref fI)) (kI : PySem.W.keepIn K (.ref fI) = true) : FnOk P w K mg base CX0 6 f fd ["self", "cell"] (spShVal K C) := by
  refine F.ok scShVal (fun vs H Q E h => ?_) (fun cdv A outer s H vs Q E hr h => ?_)
  · obtain ⟨a, p, q, t, b, x, c, i, v, cs, vs, ps, rfl, _⟩ := h
    rfl
  · obtain ⟨a, p, q, t, b, x, c, i, v, cs, vs, ps, rfl, S, hp, hx, hc, hv, k⟩ := h
    refine ⟨_, pss_one (ps_ret (pe_ix ix_tup (pe_fld (pv 0) rfl) (pe_call GI hr (by rfl) gI kI bI .nil pass0 (pa_cons (pe_fld (pv 0) rfl) (pa_cons (pv 1) pa_nil))) (fun _ _ => rfl))), ?_⟩
    obtain ⟨dx, ha⟩ := S.ob
    refine ⟨_, rfl, a, C, dx, _, _, rfl, ha, T.cl, T.nN, shF_numbers, _, rfl, a, C, dx, _, _, rfl, ha, T.cl, T.nC, shF_cells, _, rfl, p, x, cs, c, i, rfl, hp, S.gd, hx, hc, fun H1 s1 => ?_⟩
    exact ⟨q, _, _, _, rfl, rfl, same_seqT s1 S.fl, atI_nat (by rw [List.getElem?_map, hv]; rfl), k H1 s1⟩
theorem ok_shStr {f fF : Addr} {fd fdF : FuncData} (F : Fun K "__str__" "Sheet.__str__" sShStr f fd) (T : ShCls K mg C)
    (GF : FnOk P w K mg base CX0 6 fF fdF ["plan", "filling"] (spFmtT K)) (bF : Binds K fdF ["plan", "filling"] []) (gF : mg "format_table" = some (.ref fF)) (kF : PySem.W.keepIn K (.ref fF) = true) (mS : mg "str" = none) : FnOk P w K mg base CX0 7 f fd ["self"] (spShStr K C) := by
  refine F.ok scShStr (fun vs H Q E h => ?_) (fun cdv A outer s H vs Q E hr h => ?_)
  · obtain ⟨a, p, q, t, b, cs, vs, ps, rfl, _⟩ := h
    rfl
  · obtain ⟨a, p, q, t, b, cs, vs, ps, rfl, S, k⟩ := h
    refine ⟨_, pss_one (ps_ret (pe_callTy SkE.call_str_str (by rfl) mS (by decide +kernel) (pa_cons (pe_call GF hr (by rfl) gF kF bF .nil pass0 (pa_cons (pe_fld (pv 0) rfl) (pa_cons (pe_fld (pv 0) rfl) pa_nil))) pa_nil))), ?_⟩
    obtain ⟨dx, ha⟩ := S.ob
    exact ⟨_, rfl, a, C, dx, _, _, rfl, ha, T.cl, T.nC, shF_cells, _, rfl, a, C, dx, _, _, rfl, ha, T.cl, T.nN, shF_numbers, p, q, cs, vs, rfl, S.pl, S.gd, S.l24, S.fl, S.v9, fun H1 s1 => ⟨_, rfl, k H1 s1⟩⟩
theorem ok_shRepr {f : Addr} {fd : FuncData} (F : Fun K "__repr__" "Sheet.__repr__" sShRepr f fd) (T : ShCls K mg C) (ml : mg "len" = none) : FnOk P w K mg base CX0 1 f fd ["self"] (spShRepr K C) := by
  refine F.ok scShRepr (fun vs H Q E h => ?_) (fun cdv A outer s H vs Q E hr h => ?_)
  · obtain ⟨a, p, q, t, b, cs, vs, ps, rfl, _⟩ := h
    rfl
  · obtain ⟨a, p, q, t, b, cs, vs, ps, rfl, S, k⟩ := h
    refine ⟨_, pss_one (ps_ret (pe_joined (.cons pe_str (.cons (pe_fmt (pe_callB call_len_seq (by rfl) ml PySem.boot_len (pa_cons (pe_fld (pv 0) rfl) pa_nil))) (.cons pe_str .nil))))), ?_⟩
    obtain ⟨dx, ha⟩ := S.ob
    obtain ⟨xs, hx, hc⟩ := S.pl
    have hl := Paired.length hc
    have l24 := S.l24
    have hlog : ((cs.length : Int)).natAbs.log2 < 1920 := by
      rw [Int.natAbs_natCast]
      have : cs.length.log2 ≤ cs.length := by
        rcases Nat.eq_zero_or_pos cs.length with z | z
        · rw [z]; decide
        · exact Nat.le_of_lt ((Nat.log2_lt (by omega)).mpr Nat.lt_two_pow_self)
      omega
    have hsz : (Str.ofString (toString (cs.length : Int))).length ≤ 1000 := by
      have : ∀ n : Nat, n ≤ 24 → (Str.ofString (toString (n : Int))).length ≤ 1000 := by decide +kernel
      exact this _ l24
    have e1 : (("Sheet(" : Str)).length = 6 := by decide +kernel
    have e2 : ((")" : Str)).length = 1 := by decide +kernel
    have ap : ∀ x y : Str, (x ++ y).length = x.length + y.length := fun x y => by
      show (x.cps ++ y.cps).size = x.cps.size + y.cps.size
      rw [Array.size_append]
    refine ⟨_, rfl, by rw [ap, e1]; decide, ?_⟩
    refine ⟨_, rfl, a, C, dx, _, _, rfl, ha, T.cl, T.nC, shF_cells, p, xs, rfl, .inr hx, .inr ⟨_, rfl, by rw [hl]; exact hlog, _, rfl, ?_⟩⟩
    rw [hl]
    refine ⟨by rw [ap, ap, e1, sizeLine_eq]; show 0 + 6 + _ ≤ _; omega, ?_⟩
    refine ⟨_, rfl, by rw [ap, ap, ap, e1, e2, sizeLine_eq]; show 0 + 6 + _ + 1 ≤ _; omega, ?_⟩
    exact k
theorem ok_shEq {f : Addr} {fd : FuncData} (F : Fun K "__eq__" "Sheet.__eq__" sShEq f fd) (T : ShCls K mg C) (mi : mg "isinstance" = none) : FnOk P w K mg base CX0 1 f fd ["self", "other"] (spShEq K C) := by
  refine F.ok scShEq (fun vs H Q E h => ?_) (fun cdv A outer s H vs Q E hr h => ?_)
  · obtain ⟨a, p, q, t, b, y, cs, vs, ps, rfl, _⟩ := h
    rfl
  · obtain ⟨a, p, q, t, b, y, cs, vs, ps, rfl, S, k⟩ := h
    refine ⟨_, pss_one (ps_ret (pe_and (pe_callB call_isi (by rfl) mi (by decide +kernel) (pa_cons (pv 1) (pa_cons (pe_glob (v := .ref C) (by rfl) T.gC rfl) pa_nil)))
      (pe_and (pe_cmpR (op_eqD hr.units) (pe_fld (pv 0) rfl) (pe_fld (pv 1) rfl) (nomark _)) (pe_one (pe_cmpR (op_eqD hr.units) (pe_fld (pv 0) rfl) (pe_fld (pv 1) rfl) (nomark _)))))), ?_⟩
    obtain ⟨dx, ha⟩ := S.ob
    rcases k with ⟨U, ty, ki, k⟩ | ⟨a', p', q', t', b', cs', vs', ps', rfl, S', k⟩
    · exact ⟨_, rfl, _, _, _, _, false, rfl, .own C, ty, ki, _, rfl, k⟩
    · obtain ⟨dx', ha'⟩ := S'.ob
      refine ⟨_, rfl, _, _, _, _, true, rfl, .own C, T.ty ha', T.self, _, rfl, ?_⟩
      have e1 : PyData.eqv (planD cs) (planD cs') = decide (cs = cs') := by
        have h : PyData.eqv (planD cs) (planD cs') = PyData.eqvAll (cs.map cellD) (cs'.map cellD) := by
          unfold planD
          simp only [PyData.eqv]
        rw [h, cells_eqv]
      have e2 : PyData.eqv (lineD vs) (lineD vs') = decide (vs = vs') := ints_eqvT _ _
      refine ⟨_, rfl, a, C, dx, _, _, rfl, ha, T.cl, T.nC, shF_cells, _, rfl, a', C, dx', _, _, rfl, ha', T.cl, T.nC, shF_cells, planD cs, planD cs', PlanAt.dp S.pl.at, PlanAt.dp S'.pl.at, plan_shaped _, plan_shaped _, _, rfl, ?_⟩
      rw [e1]
      by_cases c1 : cs = cs'
      · rw [decide_eq_true c1]
        refine ⟨_, rfl, a, C, dx, _, _, rfl, ha, T.cl, T.nN, shF_numbers, _, rfl, a', C, dx', _, _, rfl, ha', T.cl, T.nN, shF_numbers, lineD vs, lineD vs', .tup S.fl (dp_ints _), .tup S'.fl (dp_ints _), line_shaped _, line_shaped _, ?_⟩
        rw [e2]
        simpa [c1] using k
      · rw [decide_eq_false c1]
        simpa [c1] using k
theorem ok_shInit {f fP fF : Addr} {fd fdP fdF : FuncData} (F : Fun K "__init__" "Sheet.__init__" sShInit f fd) (T : ShCls K mg C)
    (GP : FnOk P w K mg base CX0 5 fP fdP ["plan"] (spCheck K)) (bP : Binds K fdP ["plan"] []) (gP : mg "check_plan" = some (.ref fP)) (kP : PySem.W.keepIn K (.ref fP) = true)
    (GF : FnOk P w K mg base CX0 4 fF fdF ["size", "filling"] (spCheckF K)) (bF : Binds K fdF ["size", "filling"] []) (gF : mg "check_filling" = some (.ref fF)) (kF : PySem.W.keepIn K (.ref fF) = true)
    (ml : mg "len" = none) : FnOk P w K mg base CX0 6 f fd ["self", "plan", "filling"] (spShInit K C) := by
  refine F.ok scShInit (fun vs H Q E h => ?_) (fun cdv A outer s H vs Q E hr h => ?_)
  · obtain ⟨a, p, q, dx, cs, vs, rfl, _⟩ := h
    rfl
  · obtain ⟨a, p, q, dx, cs, vs, rfl, ha, hp, gd, l24, hq, v9, k⟩ := h
    have hr4 : Room 4 _ := hr.mono (by omega)
    refine ⟨_, pss_cons (ps_expr (pe_call GP hr (by rfl) gP kP bP .nil pass0 (pa_cons (pv 1) pa_nil)))
      (pss_cons (ps_expr (pe_call GF hr4 (by rfl) gF kF bF .nil pass0 (pa_cons (pe_callB call_len_seq (by rfl) ml PySem.boot_len (pa_cons (pv 1) pa_nil)) (pa_cons (pv 2) pa_nil))))
      (pss_cons (ps_fld (pv 0) (pv 1) rfl)
      (pss_cons (ps_fld (pv 0) (pv 2) rfl)
      (pss_cons (ps_fld (pv 0) (pe_tup pa_nil) rfl)
      (pss_one (ps_fld (pv 0) pe_bl rfl)))))), ?_⟩
    obtain ⟨xs, hx, hc⟩ := id hp
    have hlen := Paired.length hc
    refine ⟨_, rfl, p, cs, rfl, hp.at, gd, l24, fun H1 s1 => ?_⟩
    refine ⟨_, rfl, p, xs, rfl, .inr (same_seqT s1 hx), _, rfl, xs.length, q, vs, rfl, same_seqT s1 hq, by rw [hlen]; exact v9, by omega, fun H2 s2 => ?_⟩
    have s12 := s1.trans s2
    have ha2 := s12 _ _ ha
    refine ⟨_, rfl, _, rfl, a, C, dx, _, rfl, ha2, T.cl, T.nC, by show 0 < 1000; decide, ?_⟩
    refine ⟨_, rfl, _, rfl, a, C, dx, _, rfl, upd_same, T.cl, T.nN, by show 1 < 1000; decide, ?_⟩
    rw [upd_upd]
    refine ⟨by show 0 ≤ sizeLine; decide, fun t nt => ?_⟩
    have nat : a ≠ t := fun z => by
      subst z
      rw [upd_same] at nt
      cases nt
    have nt2 : H2 t = none := by rw [upd_ne (Ne.symm nat)] at nt; exact nt
    refine ⟨_, rfl, a, C, dx, _, rfl, by rw [upd_ne nat]; exact upd_same, T.cl, T.nP, by show 2 < 1000; decide, ?_⟩
    refine ⟨_, rfl, a, C, dx, _, rfl, upd_same, T.cl, T.nB, by show 3 < 1000; decide, ?_⟩
    rw [upd_upd]
    show Q V.non _
    rw [shF_new]
    have kx : KeepX a H (upd (upd (upd H2 a (.ins C dx (putF "numbers" (.ref q) (putF "cells" (.ref p) [])))) t (.tup [])) a (.ins C dx (shF p q t false))) := fun b o n e => by
      have e2 := s12 _ _ e
      rw [upd_ne n, upd_ne (ne_of_none e2 nt2), upd_ne n]
      exact e2
    have kn := KN.of_ins ha kx
    refine k _ t kx ⟨⟨dx, upd_same⟩, hp.kn kn, kn.sq hq, ⟨[], SqT.of ?_, .nil⟩, gd, l24, v9⟩
    rw [upd_ne (Ne.symm nat)]
    exact upd_same
theorem catA_okN {σ : L2.St} {H : Hp} {Q : VK} {a b : Addr} {xs ys : List V} (ha : SqT K H a xs) (hb : SqT K H b ys) (hl : xs.length + ys.length ≤ 2000)
    (k : ∀ H' u, Same H H' → SqT K H' u (xs ++ ys) → Q (.ref u) H') : rCatA K (.ref a) (.ref b) H Q := by
  refine ⟨a, b, xs, ys, rfl, rfl, ha, hb, by rw [sizeLine_eq]; omega, fun e => ?_, fun _ e => ?_, fun _ _ p np => ?_⟩
  · subst e
    exact k H b (Same.refl _) hb
  · subst e
    exact k H a (Same.refl _) (by rw [List.append_nil]; exact ha)
  · exact k _ p (same_new np) (SqT.of upd_same)
theorem ok_shPerf {f fE : Addr} {fd fdE : FuncData} {tk : Tok} (F : Fun K "perform" "Sheet.perform" sShPerf f fd) (T : ShCls K mg C)
    (GE : FnOk P w K mg base CX0 12 fE fdE ["plan", "filling", "edit"] (spEdited K)) (bE : Binds K fdE ["plan", "filling", "edit"] []) (gE : mg "edited" = some (.ref fE)) (kE : PySem.W.keepIn K (.ref fE) = true)
    (ml : mg "len" = none) (mM : mg "MOST_EDITS" = some (.int 1000 tk)) : FnOk P w K mg base CX0 13 f fd ["self", "edit"] (spShPerf K C) := by
  refine F.ok scShPerf (fun vs H Q E h => ?_) (fun cdv A outer s H vs Q E hr h => ?_)
  · obtain ⟨a, p, q, t, b, x, cs, vs, ps, e, rfl, _⟩ := h
    rfl
  · obtain ⟨a, p, q, t, b, x, cs, vs, ps, e, rfl, S, hp, hl, he, ok, k⟩ := h
    have nd := scShPerf.nd
    refine ⟨_, pss_cons (ps_set (i := 2) nd rfl (.inl rfl) (pe_call GE hr (by rfl) gE kE bE .nil pass0 (pa_cons (pe_fld (pv 0) rfl) (pa_cons (pe_fld (pv 0) rfl) (pa_cons (pv 1) pa_nil)))))
      (pss_cons (ps_if (pt_cmpR op_ge (pe_callB call_len_seq (by rfl) ml PySem.boot_len (pa_cons (pe_fld (pv 0) rfl) pa_nil)) (pe_glob (v := .int 1000) (by rfl) mM ⟨_, rfl⟩) (nomark _)) (pss_one ps_never) pss_nil)
      (pss_cons (ps_fld (pv 0) (pe_op op_catA (pe_fld (pv 0) rfl) (pe_tup (pa_cons (pe_tup (pa_cons (pv 1) (pa_cons (pe_fld (pv 0) rfl) pa_nil))) pa_nil))) rfl)
      (pss_one (ps_fld (pv 0) (pv 2) rfl)))), ?_⟩
    obtain ⟨dx, ha⟩ := S.ob
    obtain ⟨xs, hx, hpa⟩ := S.pt
    have hpl := Paired.length hpa
    refine ⟨_, rfl, a, C, dx, _, _, rfl, ha, T.cl, T.nC, shF_cells, _, rfl, a, C, dx, _, _, rfl, ha, T.cl, T.nN, shF_numbers, _, rfl, p, q, x, cs, vs, e, rfl, hp, S.gd, S.l24, S.fl, S.v9, he, ok, fun H1 u s1 hu => ?_⟩
    have ha1 := s1 _ _ ha
    refine ⟨_, rfl, a, C, dx, _, _, rfl, ha1, T.cl, T.nP, shF_past, t, xs, rfl, .inr (same_seqT s1 hx), _, _, rfl, rfl, false, bl_false (show ¬ ((xs.length : Int) ≥ 1000) by omega), ?_⟩
    refine ⟨_, rfl, a, C, dx, _, _, rfl, ha1, T.cl, T.nP, shF_past, _, rfl, _, rfl, a, C, dx, _, _, rfl, ha1, T.cl, T.nN, shF_numbers, by show 2 ≤ sizeLine; decide, fun u2 n2 => ?_⟩
    have s2 := same_new (o := .tup [x, .ref q]) n2
    have h2 : upd H1 u2 (.tup [x, .ref q]) u2 = some (.tup [x, .ref q]) := upd_same
    generalize upd H1 u2 (.tup [x, .ref q]) = H2 at s2 h2 ⊢
    refine ⟨by show 1 ≤ sizeLine; decide, fun u3 n3 => ?_⟩
    have s3 := same_new (o := .tup [V.ref u2]) n3
    have h3 : upd H2 u3 (.tup [V.ref u2]) u3 = some (.tup [V.ref u2]) := upd_same
    generalize upd H2 u3 (.tup [V.ref u2]) = H3 at s3 h3 ⊢
    have s13 := (s1.trans s2).trans s3
    refine catA_okN (σ := []) (same_seqT s13 hx) (SqT.of h3) (by show xs.length + 1 ≤ 2000; omega) (fun H4 t' s4 ht' => ?_)
    have s14 := s13.trans s4
    refine ⟨_, rfl, a, C, dx, _, rfl, s14 _ _ ha, T.cl, T.nP, shF_len, ?_⟩
    rw [shF_setP]
    refine ⟨_, rfl, _, rfl, a, C, dx, _, rfl, upd_same, T.cl, T.nN, shF_len, ?_⟩
    rw [shF_setN, upd_upd]
    have kx : KeepX a H (upd H4 a (.ins C dx (shF p u t' b))) := fun b' o n e' => by
      rw [upd_ne n]
      exact s14 _ _ e'
    have kx4 : KeepX a H4 (upd H4 a (.ins C dx (shF p u t' b))) := fun b' o n e' => by
      rw [upd_ne n]
      exact e'
    have kn := KN.of_ins ha kx
    have kn4 := KN.of_ins (s14 _ _ ha) kx4
    refine k _ u t' kx ⟨⟨dx, upd_same⟩, S.pl.kn kn, kn4.sq (same_seqT ((s2.trans s3).trans s4) hu), ⟨_, kn4.sq ht', ?_⟩, S.gd, S.l24, beh9 S.v9 ok⟩
    exact paired_append (hpa.kn kn) (.cons ⟨u2, x, q, rfl, kn4.sq (SqT.of ((s3.trans s4) _ _ h2)), he.kn kn, kn.sq S.fl⟩ .nil)
theorem ok_shLog {f : Addr} {fd : FuncData} (F : Fun K "log" "Sheet.log" sShLog f fd) (T : ShCls K mg C) (mT : mg "tuple" = none) : FnOk P w K mg base CX0 1 f fd ["self"] (spShLog K C) := by
  refine F.ok scShLog (fun vs H Q E h => ?_) (fun cdv A outer s H vs Q E hr h => ?_)
  · obtain ⟨a, p, q, t, b, cs, vs, ps, rfl, _⟩ := h
    rfl
  · obtain ⟨a, p, q, t, b, cs, vs, ps, rfl, S, hl, k⟩ := h
    have nd := scShLog.nd
    refine ⟨_, pss_one (ps_ret (pe_callTy call_tuple_of (by rfl) mT (by decide +kernel) (pa_cons
        (pe_lc (own := [("edit", 1), ("numbers", 2)]) (g := gTup K 2 (gCons (gName 1) (gCons (gName 2) gNil))) (tt := tYes) rfl nd (pi_tup (pe_fld (pv 0) rfl)) (blkOk_by (N := nShLog) (sc := defScope sShLog) (by decide +kernel))
          (fun _ _ _ _ _ => pg_tup (by rfl) (pgs_cons (pg_name (i := 1) nd rfl (Or.inl rfl)) (pgs_cons (pg_name (i := 2) nd rfl (Or.inl rfl)) pgs_nil))) (fun _ _ _ _ _ => pts_nil)
          (fun _ _ _ _ _ => pv 1)) pa_nil))), ?_⟩
    obtain ⟨dx, ha⟩ := S.ob
    obtain ⟨xs, hx, hpa⟩ := S.pt
    have hpl := Paired.length hpa
    refine ⟨_, rfl, a, C, dx, _, _, rfl, ha, T.cl, T.nP, shF_past, t, rfl, ⟨_, hx⟩, fun D nD => ?_⟩
    refine lc_tup (K := K) (a := t) (xs := xs) (fun j G => ∃ acc : List V, G D = some (.lst acc) ∧ EdsA K G cs acc ((ps.take j).map (·.1)) ∧ (∀ b o, b ≠ D → H b = some o → G b = some o)) ?_ ?_ ?_ ?_
    · exact ⟨[], upd_same, .nil, fun b o n e => by rw [upd_ne n]; exact e⟩
    · rintro j G _ ⟨acc, a1, a2, a3⟩
      exact same_seqT (fun b o e => a3 b o (ne_of_none e nD) e) hx
    · rintro j x G hj ⟨acc, a1, a2, a3⟩
      have sD : Same H G := fun b o e => a3 b o (ne_of_none e nD) e
      obtain ⟨pr, hpj, u, e, q', rfl, h1, h2, h3⟩ := paired_get hpa hj
      have hal := Paired.length a2
      rw [List.length_map, List.length_take] at hal
      refine ⟨u, _, rfl, same_seqT sD h1, rfl, _, _, rfl, _, _, rfl, rfl, rfl, _, rfl, acc, a1, by rw [sizeLine_eq]; omega, _, upd_same, ?_, fun b o n e => ?_⟩
      · rw [List.take_add_one, hpj, List.map_append]
        have kn : KN G (upd G D (.lst (acc ++ [e]))) := KN.upd a1 rfl
        exact paired_append (Paired.mono (fun _ _ z => z.kn kn) a2) (.cons ((h2.kn (.of_same sD)).kn kn) .nil)
      · rw [upd_ne n]
        exact a3 _ _ n e
    · rintro G ⟨acc, a1, a2, a3⟩
      have sD : Same H G := fun b o e => a3 b o (ne_of_none e nD) e
      rw [hpl, List.take_length] at a2
      refine ⟨D, acc, rfl, .inl ⟨SqL.of a1, fun u nu => ?_⟩⟩
      have su := same_new (o := .tup acc) nu
      exact k _ u acc (sD.trans su) upd_same (Paired.mono (fun _ _ z => z.kn (.of_same su)) a2)
end
end KS
/-! methods that may raise; a suite behind try whichever way it ends -/
namespace KS
open PySem PySem.Spec PyProof.Rows L2
section
variable {X : Cx} {CX : CXT} {k : Nat} {f C : Addr} {fd : FuncData} {ps : List Str} {sp : Sp} {E : L2.St → XK} {ds : List Value} {dvs : List V}
/-- run_fnS with defaults -/
theorem run_fnSD {pins : List (Addr × Obj)} {σ : L2.St} {H : Hp} {s : Shared} {Q : VK} {us : List Value} {vs : List V} (F : FnOk X.prog X.w X.K X.mg X.base CX k f fd ps sp) (hr : Room k X.A) (hb : Binds X.K fd ps ds) (hd : Vals dvs ds) (hx : PassesAt CX X σ (E σ))
    (I : Inv X pins σ H s) (r : Vals vs us) (h : sp (vs ++ dvs) H Q (E σ)) : wpAny (model X.prog X.w) X.A (call (.ref f) us) (EP X pins σ Q) X.xe s := by
  have r2 := r.append hd
  have hl : (us ++ ds).length = ps.length := by
    rw [← r2.length]
    exact F.len _ _ _ _ h
  refine wpAny_call (codeAny_mono (F.run X.A X.stack s H ⟨us, []⟩ (us ++ ds) (vs ++ dvs) Q (E σ) hr I.env0 (hb s us I.kIn hl) r2 h) fun z s' hq => ?_)
  cases z with
  | error e => exact hx pins H s e s' I hq
  | ok fl =>
    cases fl with
    | ret u => exact I.after hq
    | next => exact False.elim hq
    | brk => exact False.elim hq
    | cont => exact False.elim hq
def tMethX (C : Addr) (m : Str) (sp : Sp) (dvs : List V) (E : L2.St → XK) (ta : TE) (t : TA) : TE := fun σ H Q => ta σ H fun x H1 => ∃ a dx fs, x = .ref a ∧ H1 a = some (.ins C dx fs) ∧ fs.lookup m = none ∧ t σ H1 fun vs H2 => sp (x :: (vs ++ dvs)) H2 Q (E σ)
variable {pl : Sem Bool} {m : Str} {apos pos : Pos} {o e : Expr} {es : List Expr} {ta : TE} {t : TA}
theorem pe_methX (he : PE X o ta) (c : Cls X.K C) (hm : Meth X.K C m f) (F : FnOk X.prog X.w X.K X.mg X.base CX k f fd ps sp) (hr : Room k X.A) (hb : Binds X.K fd ps ds) (hd : Vals dvs ds) (hx : ∀ σ, PassesAt CX X σ (E σ)) (ha : PA X (e :: es) t)
    (hst : starEach (e :: es) X.env = (false, eval e X.env) :: starEach es X.env := by rfl) (hpl : (backTo pos (starEach es X.env)).any (·.1) = false := by rfl)
    (ht : eval (.Call (.Attribute o m apos) (e :: es) [] pos) X.env = (do
      let ov ← eval o X.env
      standAt apos.atName
      let (f, first) ← holding [ov] (getMethod ov m pl)
      callWith pos f first (backTo pos (starEach (e :: es) X.env)) (backToKw pos (keywordEach [] X.env))) := by rfl) :
    PE X (.Call (.Attribute o m apos) (e :: es) [] pos) (tMethX C m sp dvs E ta t) := by
  refine ⟨fun pins s σ H Q I h => ?_⟩
  refine PySem.W.methodCall_KW (pl := pl) (thn (he.run pins s σ H _ I h) fun u s1 z => ?_) ht
  obtain ⟨x, H1, I1, rx, a, dx, fs, ex, ea, l, q⟩ := z
  subst ex
  obtain rfl : u = Value.ref a := rx
  refine getmeth_ok I1 ea c hm l ?_
  refine PySem.W.callWith_K (first := [.ref a]) (h₀ := X.base) I.ok.mod.kin hm.kp (thn (ha.run pos pins s1 σ H1 _ I1 q) fun us s2 y => ?_) hst hpl
  obtain ⟨vs, H2, I2, r, q2⟩ := y
  exact ⟨I2.kIn, run_fnSD (us := .ref a :: us) (vs := .ref a :: vs) F hr hb hd (hx σ) I2 (.cons rfl r) q2⟩
end
/-! ### try: body finally: suite; the body runs through or raises, the suite does neither return nor raise -/
def tBehind (tb : WX → TS) (tf tfs : TS) (Wo : WX) : TS := fun D σ H => tb (wFin tfs Wo) { nx := tf D, rt := fun _ _ => False } σ H
end KS
/-! a, b = t and o.f, o.g = x, y while an exception is handled -/
namespace KS
open PySem PySem.Spec PyProof.Rows L2 HotX
section
variable {prog : Program} {w : World} {A : Around} {E : Value → Shared → Prop} {s : Shared}
theorem next_end_hot {it t x1 : Addr} {i : Nat} {items : Array Value} {Q : Option Value → Shared → Prop} (hot : HotAt A x1 s.heap) (hne : x1 ≠ it)
    (hit : IsTupIter s.heap it t i) (ht : IsTup s.heap t items) (hx : items[i]? = none)
    (hQ : ∀ h', Heap.ExtBut it s.heap h' → Q none { s with heap := h' }) : wpAny (model prog w) A (pyNext (.ref it)) Q E s := by
  obtain ⟨o, ho, hc, hd⟩ := id hit
  obtain ⟨ol, hol, _, nl, hdl⟩ := ht
  obtain ⟨hh, o1, vs1, h1, d1, c1⟩ := hot
  unfold pyNext
  refine wpAny_bind (wpAny_attempt (wpAny_callSpecial?_slot (name := Str.ofString "__next__") hit.typeIs slot_tupleiter_next
    (wpAny_call_entry slot_tupleiter_next hit.typeIs entry_tupleiter_next ?_ (args_tupleiter_next _))))
  show wpAny _ _ (field (.ref it) 0 >>= _) _ _ s
  refine wpAny_bind (wpAny_field ho hd (x := .ref t) rfl ?_)
  show wpAny _ _ (if (Value.ref t == Value.none) = true then _ else _) _ _ s
  rw [if_neg (show ¬ ((Value.ref t == Value.none) = true) from Bool.false_ne_true)]
  show wpAny _ _ (field (.ref it) 1 >>= _) _ _ s
  refine wpAny_bind (wpAny_field ho hd (x := .int i 0) rfl ?_)
  show wpAny _ _ (seqItems? (.ref t) >>= _) _ _ s
  refine wpAny_bind (wpAny_seqItems hol hdl ?_)
  simp only [Int.toNat_natCast, hx]
  refine wpAny_bind (wpAny_rule (wpAny_bind (wpAny_setField ho hd (by simp) ?_)))
  show wpAny _ _ (newExc (.type "StopIteration") [] >>= _) _ _ _
  refine wpAny_bind ?_
  simp only [newExc, newTuple]
  refine wpAny_bind (wpAny_newObj_type ?_ (by size_fits))
  refine wpAny_bind (m := firstArgMember _ _) (wpAny_of_eq (a := Value.none) (by first | rfl | (simp only [firstArgMember]; rfl)) ?_)
  refine wpAny_newObj_type ?_ (by size_fits)
  have u1 : ((s.heap.update it (Obj.mapFields (·.setIfInBounds 0 .none)))).get? x1 = some o1 := by
    rw [Heap.get?_update_other _ _ hne.symm]
    exact h1
  refine raiseNew_hot ⟨hh, o1, vs1, Heap.get?_push_of_some _ (Heap.get?_push_of_some _ u1), d1, c1⟩ (Nat.ne_of_lt (Heap.lt_size (Heap.get?_push_of_some _ u1))) (Heap.get?_push_size _ rfl) rfl (by first | (simp; done) | (simp; omega) | (simp only [Array.size_append]; simp; omega)) ?_
  refine wpAny_bind (wpAny_isInstance (T := "StopIteration") (b := true) ⟨_, Heap.get?_update_self _ (Heap.get?_push_size _ rfl) rfl, rfl⟩ isSubtype_stop ?_)
  refine wpAny_pure (hQ _ fun b o2 hb e => ?_)
  have e2 : ((s.heap.update it (Obj.mapFields (·.setIfInBounds 0 .none)))).get? b = some o2 := by
    rw [Heap.get?_update_other _ _ (Ne.symm hb)]
    exact e
  rw [Heap.get?_update_other _ _ (Nat.ne_of_gt (Heap.lt_size (Heap.get?_push_of_some _ e2)))]
  exact Heap.get?_push_of_some _ (Heap.get?_push_of_some _ e2)
theorem unpack_hot {t x1 : Addr} {items : Array Value} {targets : List (Bool × (Value → Sem Unit))} {Q : Unit → Shared → Prop} (hot : HotAt A x1 s.heap) (ht : IsTup s.heap t items)
    (hn : targets.length = items.size) (hstar : targets.findIdx? (·.1) = none)
    (hQ : ∀ h', Heap.ExtBut s.heap.objs.size s.heap h' → wpAny (model prog w) A (assignInOrder (targets.map (·.2)) items.toList) Q E { s with heap := h' }) : wpAny (model prog w) A (unpack (.ref t) targets) Q E s := by
  have hlt : t ≠ s.heap.objs.size := by obtain ⟨o, ho, _⟩ := ht; exact Nat.ne_of_lt (Heap.lt_size ho)
  obtain ⟨hh, o1, vs1, h1, d1, c1⟩ := hot
  have hl1 : x1 ≠ s.heap.objs.size := Nat.ne_of_lt (Heap.lt_size h1)
  unfold unpack
  rw [hn, hstar]
  refine wpAny_bind (wpAny_holding ?_)
  unfold unpackItems
  refine wpAny_bind ?_
  unfold notIterableAtAll
  refine wpAny_bind (wpAny_specialOf ht.typeIs slot_tuple_iter.lookup ?_)
  refine wpAny_pure ?_
  simp only [Bool.false_eq_true, if_false]
  refine wpAny_bind (wpAny_holding (iter_tuple ht ?_))
  refine wpAny_bind (wpAny_holding (draw_tuple hlt items.size 0 _ _ ⟨_, Heap.get?_push_size _ rfl, rfl, rfl⟩ (ht.push _) (by omega) fun h₁ hit₁ hs₁ => ?_))
  have hall : List.take items.size (List.drop 0 items.toList) = items.toList := by
    rw [List.drop_zero]
    exact List.take_of_length_le (by simp)
  rw [hall]
  rw [if_neg (by simp)]
  have ht₁ : IsTup h₁ t items := (ht.push _).extBut hs₁.extBut hlt
  refine wpAny_bind (wpAny_holding (next_end_hot (x1 := x1) ⟨hh, o1, vs1, hs₁.extBut _ _ hl1 (Heap.get?_push_of_some _ h1), d1, c1⟩ hl1 hit₁ ht₁ (by simp) fun h₂ he₂ => ?_))
  simp only [Option.isSome_none, Bool.false_eq_true, if_false]
  exact wpAny_pure (hQ h₂ fun b o hb e => he₂ b o hb (hs₁.extBut b o hb (Heap.get?_push_of_some _ e)))
end
section
variable {X : Cx} {pos : Pos}
theorem pg_tupH {es : List Expr} {k : Nat} {t : TGs} {n : Nat} (hc : L2H.HotC X) (h : PGs X es t)
    (hn : (assignEach es X.env).length = n := by rfl) (hst : (assignEach es X.env).findIdx? (·.1) = none := by rfl) : PG X (.Tuple es k pos) (gTup X.K n t) := by
  refine ⟨fun pins s σ H v u Q I r hw => ?_⟩
  obtain ⟨a, xs, e1, hq, hl, hw⟩ := hw
  subst e1
  cases r
  obtain ⟨its, rv, ht, hz⟩ := I.tuple hq
  obtain ⟨x1, hot⟩ := hc.at I
  rw [assign_Tuple]
  refine wpAny_bind (wpAny_standAt (unpack_hot hot ht (by simp [hn, ← hl, rv.length]) hst fun h' hx => ?_))
  have I1 : Inv X pins σ H { s with heap := h' } := I.kept (t' := s.toks) fun b o e => hx b o (Nat.ne_of_lt (Heap.lt_size e)) e
  exact h.run pins _ σ H xs _ Q I1 (by simpa using rv) hw
/-- o.f = .. -/
def gAtt (K : PySem.W.Frag) (ta : TE) (f : Str) : TG := fun y σ H Q => ta σ H fun x H2 => ∃ a C dx fs, x = .ref a ∧ H2 a = some (.ins C dx fs) ∧ Cls K C ∧ NoAttr K C f ∧ fs.length < 1000 ∧ Q σ (upd H2 a (.ins C dx (putF f y fs)))
theorem pg_att {o : Expr} {ta : TE} {f : Str} (ha : PE X o ta) : PG X (.Attribute o f pos) (gAtt X.K ta f) := by
  refine ⟨fun pins s σ H v u Q I r h => ?_⟩
  rw [assign_Attribute]
  refine wpAny_bind (wpAny_holding (thn (ha.run pins s σ H _ I h) fun ov s2 z => ?_))
  obtain ⟨x, H2, I2, rx, a, C, dx, fs, ex, ea, c, n, l, q2⟩ := z
  subst ex
  obtain rfl : ov = Value.ref a := rx
  refine wpAny_bind (wpAny_standAt ?_)
  refine wpAny_bind (wpAny_holding (setattr_ok I2 ea c n l r fun s3 I3 => ?_))
  exact wpAny_release ⟨σ, _, I3, q2⟩
end
end KS
/-! try: body finally: suite, where the suite knows that the error has no context -/
namespace KS
open PySem PySem.Spec PyProof.Rows L2
open L2N (Zn)
section
variable {X : Cx} {pins : List (Addr × Obj)} {σ : L2.St} {H : Hp} {s : Shared}
/-- one more record is known -/
theorem inv_more (I : Inv X pins σ H s) {T : Addr} {oT : Obj} {ts : Array Value} (hT : s.heap.get? T = some oT) (hd : oT.data = .fields ts) (nT : H T = none) (nL : T ≠ X.env.locals) (nF : T ∉ X.fs) : Inv X ((T, oT) :: pins) σ H s :=
  ⟨I.ok, I.os, I.bare, I.base, I.loc, I.cell, I.free, I.freeC, fun p hp => by
    rcases List.mem_append.mp hp with h | h
    · exact I.pin p (List.mem_append_left _ h)
    · rcases List.mem_cons.mp h with e | h
      · subst e
        refine ⟨hT, nT, nL, nF, fun v z => ?_⟩
        have z' : oT.data = .cell v := z
        rw [hd] at z'
        cases z'
      · exact I.pin p (List.mem_append_right _ h), I.hok, I.len⟩
theorem inv_fewer {q : Addr × Obj} (I : Inv X (q :: pins) σ H s) : Inv X pins σ H s :=
  ⟨I.ok, I.os, I.bare, I.base, I.loc, I.cell, I.free, I.freeC, fun p hp => I.pin p (by
    rcases List.mem_append.mp hp with h | h
    · exact List.mem_append_left _ h
    · exact List.mem_append_right _ (List.mem_cons_of_mem _ h)), I.hok, I.len⟩
end
section
variable {X : Cx} {body fs : List Stmt} {f₀ : Stmt} {pos : Pos} {tb : WX → TS} {tf tfs : TS} {Wo : WX} {pins : List (Addr × Obj)} {D : Ends}
/-- behind the suite the error goes on -/
theorem behind_on {a T : Addr} {oe oT : Obj} {vs ts : Array Value} {cls : Value} {d : Option Addr} {σ6 : L2.St} {H6 : Hp} {s6 : Shared} (hs : X.stack = X.env :: X.outer) (hf : X.env.frame = some X.env.locals) (hex : X.ex = []) (tk : L2N.Takes X Wo)
    (J : Inv X ((T, oT) :: pins) σ6 H6 s6) (ga : s6.heap.get? a = some oe) (na : H6 a = none) (hz : Zn cls d oe) (hd : oe.data = .fields vs) (hv : vs[1]? = some (.ref T)) (hTe : T ≠ a) (hdT : oT.data = .fields ts) (ht : ts[3]? = some .none)
    (far : ∀ b o, X.s_0.heap.get? b = some o → b ≠ a ∧ b ≠ T) (farP : ∀ p ∈ X.pn ++ pins, p.1 ≠ a ∧ p.1 ≠ T) (q : Wo cls d σ6 H6) :
    wpAny (model X.prog X.w) X.A (PySem.passOn "try.finally" (.ref a) X.env) (SP X pins D) X.xe s6 := by
  obtain ⟨gT, nT, _⟩ := J.pin (T, oT) (List.mem_append_right _ List.mem_cons_self)
  obtain ⟨G, g1, g2⟩ := restrict s6.heap fun b => !(decide (b = a) || decide (b = T))
  have gIn : ∀ b o, G.get? b = some o → s6.heap.get? b = some o ∧ b ≠ a ∧ b ≠ T := fun b o e => by
    cases c : (!(decide (b = a) || decide (b = T))) with
    | false =>
      rw [g2 b c] at e
      cases e
    | true =>
      rw [g1 b c] at e
      simp only [Bool.not_eq_true', Bool.or_eq_false_iff, decide_eq_false_iff_not] at c
      exact ⟨e, c.1, c.2⟩
  have gOf : ∀ b o, b ≠ a → b ≠ T → s6.heap.get? b = some o → G.get? b = some o := fun b o h1 h2 e => by
    rw [g1 b (by simp [h1, h2])]
    exact e
  have I6 : Inv X pins σ6 H6 { s6 with heap := G } := (inv_fewer J).less (fun b o e => (gIn b o e).1) gOf ⟨oe, vs, ga, hd⟩ ⟨oT, ts, gT, hdT⟩ na nT far farP
  have bIn : ∀ b o, (PySem.W.hideAll G (frs X.stack)).get? b = some o → s6.heap.get? b = some o := fun b o e => (gIn b o (PySem.W.of_hideAll _ e)).1
  have bNo : ∀ b, (b = a ∨ b = T) → (PySem.W.hideAll G (frs X.stack)).get? b = none := fun b hb => by
    cases c : (PySem.W.hideAll G (frs X.stack)).get? b with
    | none => rfl
    | some o =>
      obtain ⟨_, n1, n2⟩ := gIn b o (PySem.W.of_hideAll _ c)
      exact (hb.elim n1 n2).elim
  have fl : HandSPX.FlyingZ (PySem.W.hideAll G (frs X.stack)) (X.env :: X.outer) a (Zn cls d) s6.heap := by
    refine ⟨bIn, bNo a (.inl rfl), ?_, oe, vs, T, oT, ts, ga, hz, hd, hv, bNo T (.inr rfl), hTe, gT, hdT, ht⟩
    rw [← hs]
    exact funFrames_none (B := PySem.W.hideAll G (frs X.stack)) J.stack fun b hb => PySem.W.hideAll_none _ hb
  unfold PySem.passOn
  refine wpAny_bind (wpAny_field ga hd hv ?_)
  rw [if_neg (show ¬ ((Value.ref T == Value.none) = true) from by simp)]
  have on : wpAny (model X.prog X.w) X.A (setFlight (.ref a) X.env.frame) (fun _ s7 => wpAny (model X.prog X.w) X.A (throw (.ref a) : Sem Flow) (SP X pins D) X.xe s7) X.xe s6 := by
    rw [hf]
    refine HandSPX.setFlight_upZ fl fun h7 hh7 up7 => wpAny_throw (tk _ _ ?_)
    exact ⟨a, PySem.W.hideAll G (frs X.stack), { s6 with heap := G }, pins, σ6, H6, cls, d, rfl, I6, fun b o e hb => PySem.W.hideAll_get _ e hb,
      Heap.UpToSlots.trans (Heap.UpToSlots.of_keeps fun b o e => (gIn b o e).1) up7, .inr (.inr (by rw [← hs] at hh7; exact hh7)), na, rfl, J.bare, q⟩
  first
    | exact wpAny_bind (wpAny_pure (wpAny_bind on))
    | exact wpAny_bind on
theorem behind_exc {u : Value} {s' : Shared} (hs : X.stack = X.env :: X.outer) (hf : X.env.frame = some X.env.locals) (hex : X.ex = []) (ok : X.Ok) (tk : L2N.Takes X Wo)
    (hsu : ∀ (a : Addr) (oe : Obj) (cls : Value) (d : Option Addr) (pn : List (Addr × Obj)), Zn cls d oe → (∃ vs, oe.data = .fields vs) → PSs (X.suite a ((a, oe) :: pn)) (f₀ :: fs) tfs)
    (xx : L2N.XE (X.tr (X.pn ++ pins) (fun x s₁ => wpAny (model X.prog X.w) X.A (noteFrame x X.env) (fun _ s₂ => FinallyRaised X.prog X.w X.A X.xe X.env (f₀ :: fs) (SP X pins D) x s₂) (FinallyRaised X.prog X.w X.A X.xe X.env (f₀ :: fs) (SP X pins D)) s₁)) (wFin tfs Wo) u s') :
    wpAny (model X.prog X.w) X.A (noteFrame u X.env) (fun _ s₂ => FinallyRaised X.prog X.w X.A X.xe X.env (f₀ :: fs) (SP X pins D) u s₂) (FinallyRaised X.prog X.w X.A X.xe X.env (f₀ :: fs) (SP X pins D)) s' := by
  have hfr : X.A.frames = some (X.env :: X.outer) := by rw [ok.frames, hs]
  obtain ⟨a, B, sI, pins', σ', H', cls, d, rfl, J', nb, up, sky, na, os, ag, hw⟩ := xx
  have J : Inv X pins σ' H' sI := J'.ofTry ok
  have sky' : Sky B (X.env :: X.outer) a (Zn cls d) X.env.locals s'.heap := by rw [← hs]; exact sky
  have fin : ∀ h1, HandSPX.HeldZ B (X.env :: X.outer) a (Zn cls d) X.env.locals h1 → s'.heap.UpToSlots h1 → FinallyRaised X.prog X.w X.A X.xe X.env (f₀ :: fs) (SP X pins D) (.ref a) { s' with heap := h1 } := fun h1 hh1 up1 => by
    refine ⟨ref_ne_byPass a, HandSPX.againZ hf hh1.2.2.2 (HandSPX.landsZ hh1 fun h3 fl3 up3 => ?_)⟩
    have J3 : Inv X pins σ' H' { s' with heap := h3 } := J.landed nb fl3.1 ((up.trans up1).trans up3) os ag
    obtain ⟨k1, k2, k3, oe, vs, T, oT, ts, he3, hz, hd, hv1, hnT, hTe, hT, hdT, ht3⟩ := fl3
    have notFr : ∀ (b : Addr) (o : Obj) (fv : Array Value), h3.get? b = some o → o.data = .fields fv → b ∉ frs (X.env :: X.outer) := fun b o fv e dd hm => by
      obtain ⟨_, o', e', hnf⟩ := k3.mem hm
      rw [e] at e'
      cases e'
      exact hnf _ dd
    have locF : X.env.locals ∈ frs (X.env :: X.outer) := List.mem_filterMap.mpr ⟨X.env, List.mem_cons_self, hf⟩
    have fsF : ∀ b, b ∈ X.fs → b ∈ frs (X.env :: X.outer) := fun b hm => by
      obtain ⟨e, he, q⟩ := List.mem_filterMap.mp hm
      exact List.mem_filterMap.mpr ⟨e, List.mem_cons_of_mem _ he, q⟩
    have out : ∀ (b : Addr) (o : Obj) (fv : Array Value), h3.get? b = some o → o.data = .fields fv → b ≠ X.env.locals ∧ b ∉ X.fs := fun b o fv e dd =>
      ⟨fun z => notFr b o fv e dd (by rw [z]; exact locF), fun z => notFr b o fv e dd (fsF b z)⟩
    have nT : H' T = none := (J.inGround nb).gone hnT
    obtain ⟨oa1, oa2⟩ := out a oe vs he3 hd
    obtain ⟨ot1, ot2⟩ := out T oT ts hT hdT
    have S3 := (inv_more J3 hT hdT nT ot1 ot2).suite he3 hd na oa1 oa2
    -- what stood before is neither
    have far : ∀ b o, sI.heap.get? b = some o → b ≠ a ∧ b ≠ T := fun b o e => by
      by_cases hb : b ∈ frs X.stack
      · rw [hs] at hb
        exact ⟨fun z => notFr a oe vs he3 hd (by rw [← z]; exact hb), fun z => notFr T oT ts hT hdT (by rw [← z]; exact hb)⟩
      · have q := nb b o e hb
        refine ⟨fun z => ?_, fun z => ?_⟩
        · rw [z, k2] at q
          cases q
        · rw [z, hnT] at q
          cases q
    have far0 : ∀ b o, X.s_0.heap.get? b = some o → b ≠ a ∧ b ≠ T := fun b o e => by
      obtain ⟨o', q⟩ := J.base.there b o e (by rw [hex]; simp)
      exact far b o' q
    refine wpAny_mono ((hsu a oe cls d (X.pn ++ ((T, oT) :: pins)) hz ⟨_, hd⟩).run [] { s' with heap := h3 } σ' H' { nx := fun σ2 H2 => Wo cls d σ2 H2, rt := fun _ _ => False } S3 hw) (fun g s6 hsp => ?_) fun _ _ z => False.elim z
    cases g with
    | ret u =>
      obtain ⟨_, _, _, _, _, q⟩ := hsp
      exact False.elim q
    | brk =>
      obtain ⟨_, _, _, q⟩ := hsp
      exact False.elim q
    | cont =>
      obtain ⟨_, _, _, q⟩ := hsp
      exact False.elim q
    | next =>
      obtain ⟨σ6, H6, S6, q6⟩ := hsp
      obtain ⟨ga, na6, _⟩ := S6.pin (a, oe) (List.mem_append_left _ List.mem_cons_self)
      exact behind_on hs hf hex tk (S6.unsuite ok) ga na6 hz hd hv1 hTe hdT ht3 far0 (fun p hp => far p.1 p.2 (J.pin p hp).1) q6
  show wpAny (model X.prog X.w) X.A (noteFrame (.ref a) X.env) _ _ _
  rcases sky' with ⟨hB, hn, hl, oe, vs, he0, hz, hd, hv1⟩ | fl | hh
  · exact PXN.look_newZ Zn.steady hfr hl hf he0 hB hn hd hv1 hz fin
  · exact PXN.looks_onZ Zn.steady hfr hf fl fin
  · exact HandSPX.againZ hf hh.2.2.2 (fin s'.heap hh (Heap.UpToSlots.refl _))
theorem ps_behindN (hs : X.stack = X.env :: X.outer) (hf : X.env.frame = some X.env.locals) (hex : X.ex = []) (tk : L2N.Takes X Wo)
    (hb : ∀ (W : WX) (pn : List (Addr × Obj)) (xe : Value → Shared → Prop), L2N.Takes (X.tr pn xe) W → PassesOwn (model X.prog X.w) X.A X.env xe → PSs (X.tr pn xe) body (tb W))
    (hfin : PSs X.nox (f₀ :: fs) tf)
    (hsu : ∀ (a : Addr) (oe : Obj) (cls : Value) (d : Option Addr) (pn : List (Addr × Obj)), Zn cls d oe → (∃ vs, oe.data = .fields vs) → PSs (X.suite a ((a, oe) :: pn)) (f₀ :: fs) tfs) : PS X (.Try body [] [] (f₀ :: fs) pos) (tBehind tb tf tfs Wo) := by
  refine ⟨fun pins s σ H D I h => wpAny_Try_finally ?_⟩
  have B := hb (wFin tfs Wo) (X.pn ++ pins) (fun u s' => wpAny (model X.prog X.w) X.A (noteFrame u X.env) (fun _ s₂ => FinallyRaised X.prog X.w X.A X.xe X.env (f₀ :: fs) (SP X pins D) u s₂) (FinallyRaised X.prog X.w X.A X.xe X.env (f₀ :: fs) (SP X pins D)) s')
    (fun u s' z => behind_exc hs hf hex I.ok tk hsu z) PassesOwn.looking
  refine wpAny_mono (B.run [] s σ H { nx := tf D, rt := fun _ _ => False } (I.toTry _) h) (fun g s1 z => ?_) fun _ _ z => z
  cases g with
  | next =>
    obtain ⟨σ1, H1, J, q⟩ := z
    refine wpAny_execs_nil (wpAny_mono (hfin.run pins s1 σ1 H1 D ((J.ofTry I.ok).wish _) q) (fun g2 s2 q2 => ?_) fun _ _ e => False.elim e)
    have q3 : SP X pins D g2 s2 := q2.unwish
    cases g2 <;> exact q3
  | ret u =>
    obtain ⟨_, _, _, _, _, q⟩ := z
    exact False.elim q
  | brk =>
    obtain ⟨_, _, _, q⟩ := z
    exact False.elim q
  | cont =>
    obtain ⟨_, _, _, q⟩ := z
    exact False.elim q
/-- the handled error is known to have no context -/
theorem hotC {a : Addr} {oe : Obj} {cls : Value} {d : Option Addr} {pn : List (Addr × Obj)} (hz : Zn cls d oe) (hfl : ∃ vs, oe.data = .fields vs) : L2H.HotC (X.suite a ((a, oe) :: pn)) := by
  obtain ⟨vs, hd⟩ := hfl
  exact ⟨(a, oe), ⟨rfl, vs, hd, hz.2.2 vs hd⟩, List.mem_cons_self⟩
/-- what takes any error takes one without context -/
theorem takesN {W : WX} (tk : L2.Takes X W) : L2N.Takes X W := fun u s' ⟨a, B, sI, pins, σ, H, cls, d, e, I, nb, up, sky, na, os, ag, w⟩ =>
  tk u s' ⟨a, B, sI, pins, σ, H, cls, d, e, I, nb, up, by
    rcases sky with ⟨h1, h2, h3, oe, vs, h4, h5, h6, h7⟩ | ⟨h1, h2, h3, oe, vs, T, oT, ts, h4, h5, h6⟩ | ⟨h1, h2, h3, oe, vs, T, oT, ts, h4, h5, h6⟩
    · exact .inl ⟨h1, h2, h3, oe, vs, h4, h5.zc, h6, h7⟩
    · exact .inr (.inl ⟨h1, h2, h3, oe, vs, T, oT, ts, h4, h5.zc, h6⟩)
    · exact .inr (.inr ⟨h1, h2, h3, oe, vs, T, oT, ts, h4, h5.zc, h6⟩), na, os, ag, w⟩
end
section
variable {P : Program} {w : World} {K : PySem.W.Frag} {mg : Str → Option Value} {base : Heap}
/-- as Fun.ok, for a def that may raise, whatever it may let out -/
theorem okCX {CX : CXT} {x qual : Str} {st : Stmt} {f : Addr} {fd : FuncData} {N ps : List Str} {k : Nat} {sp : Sp} (F : Fun K x qual st f fd) (S : FnScope N ps (defScope st)) (len : ∀ vs H Q E, sp vs H Q E → vs.length = ps.length)
    (hbody : ∀ (cdv : Value) (A : Around) (outer : List Env) (s : Shared) (H : Hp) (vs : List V) (Q : VK) (E : XK), Room k (A.deeper (envOfC qual (defScope st) s.heap.objs.size f cdv)) → sp vs H Q E →
      ∃ t, PSs (cxOf CX P w K mg base N qual (defScope st) f cdv A outer s H E) (defBody st) t ∧ t { nx := fun _ H' => Q .non H', rt := Q } (L2.start N vs) H) : FnOk P w K mg base CX (k + 1) f fd ps sp := by
  obtain ⟨oc, od, kV, doc, pm, an, cdv, ct, osl, rfl, lk, hcd⟩ := F.ex
  exact fn_of lk hcd S len fun A outer s H vs Q E hr hsp => hbody cdv A outer s H vs Q E hr hsp
end
end KS
namespace PySem
namespace XInvalidCell
open PySem.W PySem.Calls PyProof.Rows PySem.HandSPX
/-! ### the text of __init__ -/
def iA (p1 p2 : Pos) : Arguments := { posonlyargs := [], args := [{ arg := "self", annotation := none, pos := p1 }, { arg := "cell", annotation := none, pos := p2 }], vararg := none, kwonlyargs := [], kw_defaults := [], kwarg := none, defaults := [] }
def iB (q1 q2 q3 q4 : Pos) : List Stmt := [.Assign [.Attribute (.Name "self" q1) "cell" q2] (.Name "cell" q3) q4]
def iS : Scope := { kind := .function, names := [(PySem.Str.ofString "self", .local), (PySem.Str.ofString "cell", .local)], isGenerator := false, isCoroutine := false, more := [] }
/-- what the written part says of Low, at C, and of its __init__, at fI -/
structure InvalidCellTxt (K : Frag) (mg : Str → Option Value) (C fI : Addr) : Prop where
  gC : mg "InvalidCell" = some (.ref C)
  cls : ∃ nm q N bs bm sn sub ab col dd k0 k1 k2 k3 k5, K.lookup C = some (excClassObj nm q C N bs bm true sn sub ab col dd k0 k1 k2 k3 k5 "ValueError.__new__") ∧ refsVE bm = true
  sa : findIn K (.ref C) "__setattr__" = some (some (.builtin "object.__setattr__"))
  ga : findIn K (.ref C) "__getattribute__" = some (some (.builtin "BaseException.__getattribute__"))
  gg : findIn K (.ref C) "__getattr__" = some none
  noN : findIn K (.ref C) "cell" = some none
  iC : findIn K (.ref C) "__init__" = some (some (.ref fI))
  tC : typeIn K (.ref fI) = some (.type "function")
  kC : keepIn K (.ref C) = true
  exC : subIn K (.ref C) (.type "BaseException") = some true
  tyC : typeIn K (.ref C) = some (.type "type")
  hdC : hasDictIn K C = true
  te : exmOne K (.ref C) (.ref C) = some true
  fn : ∃ (oc : Value) (od : Option Addr) (doc pm : Value) (an : Option Addr) (cdv ct : Value) (osl : Array (Option Value)) (p1 p2 q1 q2 q3 q4 : Pos),
    K.lookup fI = some ⟨oc, od, .func (fnOf "__init__" "InvalidCell.__init__" (iA p1 p2) (iB q1 q2 q3 q4) iS .none .none doc pm an cdv ct), osl⟩ ∧ codeIn K cdv "InvalidCell.__init__" = true
theorem one_size (v : Value) : [v].length ≤ sizeLine := by
  rw [sizeLine_eq]
  exact (by decide : 1 ≤ 16777216)
theorem ldC {M : Model} {s : Shared} {name : Str} {scope : Scope} {L a : Addr} {cd : Value} {m : Str → Option Value} {x : Str} {pos : Pos} {v : Value} {Q : Value → Shared → Prop} {A : Around} {E : Value → Shared → Prop} (hn : s.heap.Ns L m) (hv : m x = some v) (h : Q v s)
    (hk : scope.kind = .function := by rfl) (hl : (envOfC name scope L a cd).kindOf x = some .local := by rfl) (hd : (x == ("__debug__" : Str)) = false := by decide) :
    wpAny M A (eval (.Name x pos) (envOfC name scope L a cd)) Q E s := wpAny_Name (wpAny_loadName_local hk hl hn hv h) hd
/-- what __init__ leaves of a fresh exception at x -/
structure InitEnd (h h' : Heap) (x C dx t1 : Addr) (v : Value) : Prop where
  keep : ∀ b o, b ≠ x → h.get? b = some o → h'.get? b = some o
  obj : h'.get? x = some { cls := .ref C, dict := some dx, data := .fields #[.ref t1, .none, .none, .none, .bool false, .none] }
  dbig : h.objs.size ≤ dx
  dne : dx ≠ x
  ns : h'.Ns1 dx (fun y => if y = "cell" then some v else none)
/-- made -/
structure OwnMade (h h' : Heap) (e C d : Addr) (v : Value) : Prop where
  keep : ∀ b o, h.get? b = some o → h'.get? b = some o
  new : h.objs.size ≤ e
  obj : ∃ oe vs, h'.get? e = some oe ∧ oe.cls = .ref C ∧ oe.dict = some d ∧ oe.data = .fields vs ∧ vs[1]? = some .none ∧ vs[2]? = some .none
  dbig : h.objs.size ≤ d
  dne : d ≠ e
  ns : h'.Ns1 d (fun y => if y = "cell" then some v else none)
section
variable {prog : Program} {w : World} {A : Around} {E : Value → Shared → Prop} {R : Result → Shared → Prop} {s : Shared} {K : Frag} {mg : Str → Option Value} {C fI : Addr}
theorem _initInvalidCell (T : InvalidCellTxt K mg C fI) {x t0 : Addr} {v : Value} (X : K.In s.heap) (hlim : s.heap.NoLimit) (hx : s.heap.get? x = some (excO C t0)) (hnx : K.lookup x = none) (hroom : A.depth < recursionLimit)
    (hq : ∀ h' tk dx, InitEnd s.heap h' x C dx t0 v → R (.ok (.ret .none)) { s with heap := h', toks := tk }) :
    codeAny (model prog w) A (.call (.ref fI) ⟨[.ref x, v], []⟩) R s := by
  obtain ⟨oc, od, doc, pm, an, cdv, ct, osl, p1, p2, q1, q2, q3, q4, ho, hcd⟩ := T.fn
  obtain ⟨nm, q, N, bs, bm, sn, sub, ab, col, dd, k0, k1, k2, k3, k5, hC, hbm⟩ := T.cls
  have hcl : clsIn K C = some { name := nm, bases := bs, mro := .ref C :: bm, ns := N, qualname := q, hasDict := true, slotNames := sn, subclasses := sub, abstract := ab, collection := col, hasDel := false } := by unfold clsIn; rw [hC] <;> rfl
  refine Att.call_fn (binds := [("self", .ref x), ("cell", v)]) X hlim ho hcd hroom (BindsTo.of_eq (by first | rfl | with_unfolding_all rfl)) (by first | rfl | decide | with_unfolding_all rfl) (fun s₁ IC => ?_) rfl rfl rfl
  obtain ⟨h₁, tk₁, rfl⟩ := IC.toInCall.same
  have k : ∀ b o, s.heap.get? b = some o → h₁.get? b = some o := IC.toInCall.keep
  have hn := IC.toInCall.ns
  have hxL : s.heap.objs.size ≠ x := Nat.ne_of_gt (Heap.lt_size hx)
  have X₁ : K.In h₁ := X.keeps k
  have hx₁ := k _ _ hx
  -- self.f = f
  show wpAny _ _ (execs _ _) _ _ _
  refine wpAny_execs_cons (plainObj_wpAny_Assign_Attribute ?_)
  refine ldC (v := v) hn (by first | rfl | with_unfolding_all rfl | kernel_rfl) (ldC (v := .ref x) hn (by first | rfl | with_unfolding_all rfl | kernel_rfl) ?_)
  refine set_plain X₁ (ox := excO C t0) (od := none) ⟨hx₁, rfl, rfl, trivial⟩ T.sa ?_
  refine exc_osa X₁ hx₁ hcl (show refsVE (.ref C :: bm) = true from hbm) rfl T.noN (fun h₃ tk₃ dx k₃ dn dne hx₃ hn₃ => ?_)
  show wpAny _ _ (execs _ _) _ _ _
  have z : s.heap.objs.size < h₁.objs.size := hn.lt
  exact wpAny_execs_nil (hq h₃ tk₃ dx ⟨fun b o hb e => k₃ b o hb (k b o e), hx₃, Nat.le_of_lt (Nat.lt_of_lt_of_le z dn), dne, hn₃⟩)
theorem _madeInvalidCell (T : InvalidCellTxt K mg C fI) {v : Value} (X : K.In s.heap) (hlim : s.heap.NoLimit) (hroom : A.depth + 1 < recursionLimit)
    (hq : ∀ h' tk e d, OwnMade s.heap h' e C d v → R (.ok (.ret (.ref e))) { s with heap := h', toks := tk }) :
    codeAny (model prog w) A (.call (.ref C) ⟨[v], []⟩) R s := by
  obtain ⟨nm, q, N, bs, bm, sn, sub, ab, col, dd, k0, k1, k2, k3, k5, hC, hbm⟩ := T.cls
  obtain ⟨hp, g, dr, tk, os⟩ := s
  have k : ∀ b o, hp.get? b = some o → ((hp.push (kdv_tup [v])).push (excO C hp.objs.size)).get? b = some o := fun b o e => Heap.get?_push_of_some _ (Heap.get?_push_of_some _ e)
  have hget : ((hp.push (kdv_tup [v])).push (excO C hp.objs.size)).get? (hp.objs.size + 1) = some (excO C hp.objs.size) := by heap_get
  have hnx : K.lookup (hp.objs.size + 1) = none := by
    cases e : K.lookup (hp.objs.size + 1) with
    | none => rfl
    | some o =>
      have z : hp.get? (hp.objs.size + 1) = some o := X _ _ e
      exact absurd (Nat.lt_of_succ_lt (Heap.lt_size z)) (Nat.lt_irrefl _)
  refine call_own F.excBase_ValueError (fun X => refsVE_contains X bm hbm) (X _ _ hC) (looks_findIn X T.iC) (fun self => bind_fn X self T.tC) (one_size v) ?_
  refine _initInvalidCell (s := ⟨(hp.push (kdv_tup [v])).push (excO C hp.objs.size), g, dr, tk, os⟩) T (X.keeps k) (hlim.keeps k) hget hnx ?_ fun h' tk' dx ⟨k', hx, dn, dne, hns⟩ => ?_
  · show A.depth + 1 < recursionLimit
    exact hroom
  · have old : ∀ b o, hp.get? b = some o → h'.get? b = some o := fun b o e => k' b o (Nat.ne_of_lt (Nat.lt_succ_of_lt (Heap.lt_size e))) (k b o e)
    have z : hp.objs.size + 1 + 1 ≤ dx := by
      first
        | (simpa only [Heap.size_push] using dn)
        | exact dn
        | (have q := dn; rw [Heap.size_push, Heap.size_push] at q; exact q)
    exact ⟨rfl, hq h' tk' (hp.objs.size + 1) dx ⟨old, Nat.le_succ _, ⟨_, _, hx, rfl, rfl, rfl, rfl, rfl⟩, Nat.le_trans (Nat.le_trans (Nat.le_succ _) (Nat.le_succ _)) z, dne, hns⟩⟩
end
end XInvalidCell
end PySem
namespace L2
open PySem PySem.Spec PyProof.Rows
theorem relO_InvalidCell {v : V} {v' : Value} (r : RelV v v') (f : Str) : RelO (List.lookup f [(("cell" : Str), v)]) (if f = "cell" then some v' else none) := by
  by_cases hw : f = "cell"
  · subst hw
    rw [if_pos rfl]
    have q : List.lookup ("cell" : Str) [(("cell" : Str), v)] = some v := by simp [List.lookup]
    rw [q]
    exact r
  · rw [if_neg hw]
    have qw : (f == ("cell" : Str)) = false := by simpa using hw
    have q2 : List.lookup f [(("cell" : Str), v)] = none := by simp [List.lookup, qw]
    rw [q2]
    trivial
section
variable {X : Cx} {C fI : Addr}
/-- Low(e) -/
def tMkInvalidCell (C : Addr) (ta : TA) : St → Hp → XK → Prop := fun σ H Q => ta σ H fun vs H1 => ∃ v, vs = [v] ∧ ∀ d, H1 d = none → Q (.ref C) (some d) (upd H1 d (.xd [(("cell" : Str), v)]))
theorem pmk_InvalidCell {a : Expr} {ta : TA} {p pos : Pos} {k : Nat} (T : PySem.XInvalidCell.InvalidCellTxt X.K X.mg C fI) (hr : Room k X.A) (ha : PA X [a] ta) (hg : Gl X "InvalidCell" := by rfl)
    (he : starEach (a :: []) X.env = (false, eval a X.env) :: starEach [] X.env := by rfl) (hpl : (backTo pos (starEach [] X.env)).any (·.1) = false := by rfl) :
    L2N.PMk X (.Call (.Name "InvalidCell" p) [a] [] pos) (tMkInvalidCell C ta) := by
  intro pins s σ H Q I h
  refine wpAny_Call_Name_kw (ld_glob I hg T.gC ?_)
  refine PySem.W.callWith_K (h₀ := X.base) I.ok.mod.kin T.kC (thn (ha.run pos pins s σ H _ I h) fun us s1 hh => ?_) he hpl
  obtain ⟨vs, H1, I1, r1, v, ev, q1⟩ := hh
  subst ev
  refine ⟨I1.kIn, ?_⟩
  cases r1 with
  | cons rv rn =>
    rename_i v' us'
    cases rn
    show wpAny _ _ (call (.ref C) [v']) _ _ _
    have hlim := I1.nolimit
    obtain ⟨hp, g, dr, tk, os⟩ := s1
    refine wpAny_call (PySem.XInvalidCell._madeInvalidCell T I1.kIn hlim (by have := hr.dp; omega) fun h' tk' e d M => ?_)
    show L2N.MkP X pins σ Q (.ref e) ⟨h', g, dr, tk', os⟩
    obtain ⟨oe, fv, hoe, hc, hd, hdat, h1, h2⟩ := M.obj
    have hns := M.ns
    obtain ⟨G', g1, g2⟩ := restrict h' fun b => decide (b ≠ e)
    have gk : ∀ b, b ≠ e → G'.get? b = h'.get? b := fun b hb => g1 b (decide_eq_true hb)
    have ge : G'.get? e = none := g2 e (by simp)
    have old : ∀ b o, hp.get? b = some o → G'.get? b = some o := fun b o q => (gk b (Nat.ne_of_lt (Nat.lt_of_lt_of_le (Heap.lt_size q) M.new))).trans (M.keep b o q)
    have ob : ObjOk X.prog X.w (upd H1 d (.xd [(("cell" : Str), v)])) G' d (.xd [(("cell" : Str), v)]) :=
      ⟨_, hns.at (fun o q => (gk d M.dne).trans q), fun f => relO_InvalidCell rv f⟩
    have J : Inv X pins σ (upd H1 d (.xd [(("cell" : Str), v)])) ⟨G', g, dr, tk', os⟩ := I1.laid (t' := tk') old M.dbig ob
    refine ⟨e, oe, fv, ⟨G', g, dr, tk', os⟩, _, .ref C, some d, rfl, J, fun b o q => ?_, ge, hoe, ⟨hc, hd, fun vs e => by rw [hdat] at e; cases e; exact h2⟩, hdat, h1, ?_, rfl, I1.bare, raises_own T.exC T.tyC, q1 d (I1.hok.fresh M.dbig)⟩
    · by_cases hb : b = e
      · have q' : G'.get? b = some o := q
        rw [hb, ge] at q'; cases q'
      · exact (gk b hb).symm.trans q
    · rw [upd_ne (Ne.symm M.dne)]
      exact I1.hok.fresh M.new
/-- raise C(e) -/
def tRaiseInvalidCell (C : Addr) (W : WX) (ta : TA) : TS := fun _ σ H => tMkInvalidCell C ta σ H fun cls d H' => W cls d σ H'
theorem ps_raiseInvalidCell {a : Expr} {ta : TA} {W : WX} {p pos pos2 : Pos} {k : Nat} (hc : X.calm = true) (T : PySem.XInvalidCell.InvalidCellTxt X.K X.mg C fI) (hr : Room k X.A) (tk : L2N.Takes X W) (ha : PA X [a] ta) (hg : Gl X "InvalidCell" := by rfl)
    (he : starEach (a :: []) X.env = (false, eval a X.env) :: starEach [] X.env := by rfl) (hpl : (backTo pos (starEach [] X.env)).any (·.1) = false := by rfl) :
    PS X (.Raise (some (.Call (.Name "InvalidCell" p) [a] [] pos)) none pos2) (tRaiseInvalidCell C W ta)   := L2N.ps_raise hc tk (pmk_InvalidCell T hr ha hg he hpl)
end
end L2
/-! raise X(), X an own class of errors without an __init__ of its own -/
/-! the sheet: a swap with what is no cell -/
namespace KS
open PySem PySem.Spec PyProof.Rows L2
/-- None, or two numbers that are no cell's -/
def NoCell (K : PySem.W.Frag) (H : Hp) (x : V) : Prop := x = .non ∨ ∃ (t : Addr) (i j : Int), x = .ref t ∧ SqT K H t [.int i, .int j] ∧ ¬ ((0 ≤ i ∧ i ≤ 7) ∧ (0 ≤ j ∧ j ≤ 7))
theorem plR_int {K : PySem.W.Frag} {H : Hp} (i : Int) : PlR K H (.int i) (decide (0 ≤ i ∧ i ≤ 7)) := by
  by_cases c : 0 ≤ i ∧ i ≤ 7
  · rw [decide_eq_true c]
    exact ⟨i, rfl, c.1, c.2⟩
  · rw [decide_eq_false c]
    exact .inl ⟨i, rfl, c⟩
theorem NoCell.el {K : PySem.W.Frag} {H : Hp} {x : V} (h : NoCell K H x) : ElR K H x none := by
  rcases h with rfl | ⟨t, i, j, rfl, h1, h2⟩
  · exact .inl ⟨_, .non, by decide⟩
  · refine .inr (.inr ⟨t, _, _, _, _, rfl, h1, plR_int i, plR_int j, ?_⟩)
    by_cases c1 : 0 ≤ i ∧ i ≤ 7
    · rw [decide_eq_true c1, decide_eq_false (fun c2 => h2 ⟨c1, c2⟩)]
      rfl
    · rw [decide_eq_false c1]
      rfl
theorem NoCell.kn {K : PySem.W.Frag} {H H' : Hp} {x : V} (k : KN H H') (h : NoCell K H x) : NoCell K H' x := by
  rcases h with rfl | ⟨t, i, j, rfl, h1, h2⟩
  · exact .inl rfl
  · exact .inr ⟨t, i, j, rfl, k.sq h1, h2⟩
theorem NoCell.same {K : PySem.W.Frag} {H H' : Hp} {x : V} (s : Same H H') (h : NoCell K H x) : NoCell K H' x := h.kn (.of_same s)
/-- an edit whose swap fails: the first is no cell, or the second -/
def BadSw (K : PySem.W.Frag) (H : Hp) (cs : List Cell) (y z : V) : Prop := NoCell K H y ∨ (∃ (c : Cell) (i : Nat), CellT H y c ∧ cs[i]? = some c ∧ NoCell K H z) ∨ (∃ c : Cell, CellT H y c ∧ InGrid c ∧ c ∉ cs)
def BadE (K : PySem.W.Frag) (H : Hp) (cs : List Cell) (x : V) : Prop := ∃ u y z, x = .ref u ∧ SqT K H u [.str "swap", y, z] ∧ BadSw K H cs y z
def spIxB (K : PySem.W.Frag) (CI : Addr) : Sp := fun xs H _ E => ∃ (a x : V), xs = [a, x] ∧ (ElR K H x none ∨ ∃ (p : Addr) (cs : List Cell) (c : Cell), a = .ref p ∧ PlanN H p cs ∧ CellT H x c ∧ InGrid c ∧ c ∉ cs) ∧ ∀ H' d, Same H H' → E (.ref CI) (some d) H'
def spIxU (K : PySem.W.Frag) (CI : Addr) : Sp := fun vs H Q E => spIxCell K vs H Q E0 ∨ spIxB K CI vs H Q E
def spSwB (K : PySem.W.Frag) (CI : Addr) : Sp := fun xs H _ E => ∃ (a t : Addr) (y z : V) (cs : List Cell), xs = [.ref a, .ref t, y, z] ∧ PlanN H a cs ∧ Good cs ∧ BadSw K H cs y z ∧ ∀ H' d, Same H H' → E (.ref CI) (some d) H'
def spEdB (K : PySem.W.Frag) (CI : Addr) : Sp := fun xs H _ E => ∃ (a t : Addr) (x : V) (cs : List Cell), xs = [.ref a, .ref t, x] ∧ PlanN H a cs ∧ Good cs ∧ BadE K H cs x ∧ ∀ H' d, Same H H' → E (.ref CI) (some d) H'
def spPerfB (K : PySem.W.Frag) (C CI : Addr) : Sp := fun xs H _ E => ∃ (a p q t : Addr) (b : Bool) (x : V) (cs : List Cell) (vs : List Int) (ps : List (Ed × List Int)), xs = [.ref a, x] ∧ ShP K C H a p q t b cs vs ps ∧ PlanN H p cs ∧ BadE K H cs x ∧ ∀ H' d, Same H H' → E (.ref CI) (some d) H'
def spPerfU (K : PySem.W.Frag) (C CI : Addr) : Sp := fun vs H Q E => spShPerf K C vs H Q E0 ∨ spPerfB K C CI vs H Q E
section
variable {P : Program} {w : World} {K : PySem.W.Frag} {mg : Str → Option Value} {base : Heap} {C CI fX : Addr}
theorem ok_ixB {f fC : Addr} {fd fdC : FuncData} (F : Fun K "index_of_cell" "index_of_cell" sIxCell f fd) (TX : PySem.XInvalidCell.InvalidCellTxt K mg CI fX)
    (GC : FnOk P w K mg base CX0 4 fC fdC ["value"] (spIsCellG K)) (bC : Binds K fdC ["value"] []) (gC : mg "is_cell" = some (.ref fC)) (kC : PySem.W.keepIn K (.ref fC) = true) :
    FnOk P w K mg base (L2N.CX P w) 5 f fd ["plan", "cell"] (spIxB K CI) := by
  refine okCX F scIxCell (fun vs H Q E h => ?_) (fun cdv A outer s H vs Q E hr h => ?_)
  · obtain ⟨a, x, rfl, _⟩ := h
    rfl
  · obtain ⟨a, x, rfl, hx, k⟩ := h
    have hu : (A.deeper (envOfC "index_of_cell" (defScope sIxCell) s.heap.objs.size f cdv)).units + 65 < cLine := by
      have := hr.un
      omega
    refine ⟨_, pss_cons (ps_if (PW.pt (pw_or (pt_not (pt_val (pe_call GC hr (by rfl) gC kC bC .nil pass0 (pa_cons (pv 1) pa_nil)))) (pw_or1 (pt_cmpR (r := rNotInT K) (op_notInT hu) (pv 1) (pv 0) (by rfl))))) (pss_one (ps_raiseInvalidCell rfl TX hr (L2N.takes_of rfl rfl rfl rfl) (pa_cons (pv 1) pa_nil))) pss_nil)
      (pss_one ps_never), ?_⟩
    rcases hx with hx | ⟨p, cs, c, rfl, hp, hc, gc, hn⟩
    · refine ⟨_, rfl, x, none, rfl, hx, fun H1 s1 => ⟨false, rfl, ?_⟩⟩
      exact ⟨_, rfl, _, rfl, fun d nd => k _ d (s1.trans (same_new nd))⟩
    · obtain ⟨t, rfl, ht⟩ := cellT_at (K := K) hc
      refine ⟨_, rfl, .ref t, some c, rfl, ⟨⟨t, rfl, ht⟩, gc⟩, fun H1 s1 => ⟨true, rfl, ?_⟩⟩
      have dp : Dp K H1 (.ref p) (planD cs) := PlanAt.dp (hp.same s1).t.at
      refine ⟨_, rfl, _, rfl, cellD c, cs.map cellD, dp_cell (same_seqT s1 ht), dp, cell_shaped c, plan_shaped cs, ?_⟩
      rw [in_plan]
      refine ⟨true, by rw [decide_eq_false hn]; rfl, ?_⟩
      exact ⟨_, rfl, _, rfl, fun d nd => k _ d (s1.trans (same_new nd))⟩
theorem ok_swB {f fI : Addr} {fd fdI : FuncData} (F : Fun K "with_swap" "with_swap" sWithS f fd)
    (GI : FnOk P w K mg base (L2N.CX P w) 5 fI fdI ["plan", "cell"] (spIxU K CI)) (bI : Binds K fdI ["plan", "cell"] []) (gI : mg "index_of_cell" = some (.ref fI)) (kI : PySem.W.keepIn K (.ref fI) = true) :
    FnOk P w K mg base (L2N.CX P w) 6 f fd ["plan", "filling", "cell", "other"] (spSwB K CI) := by
  refine okCX F scWithS (fun vs H Q E h => ?_) (fun cdv A outer s H vs Q E hr h => ?_)
  · obtain ⟨a, t, y, z, cs, rfl, _⟩ := h
    rfl
  · obtain ⟨a, t, y, z, cs, rfl, hp, gd, hb, k⟩ := h
    have nd := scWithS.nd
    have hr5 : Room 5 _ := hr.mono (by omega)
    refine ⟨_, pss_cons (ps_set (i := 4) nd rfl (.inl rfl) (pe_callS GI hr5 (by rfl) gI kI bI (L2N.passAt (L2N.takes_of rfl rfl rfl rfl)) (pa_cons (pv 0) (pa_cons (pv 2) pa_nil))))
      (pss_cons (ps_set (i := 5) nd rfl (.inl rfl) (pe_callS GI hr5 (by rfl) gI kI bI (L2N.passAt (L2N.takes_of rfl rfl rfl rfl)) (pa_cons (pv 0) (pa_cons (pv 3) pa_nil))))
      (pss_cons ps_never (pss_cons ps_never (pss_one ps_never)))), ?_⟩
    rcases hb with hb | ⟨c, i, h1, h2, h3⟩ | ⟨c, h1, h2, h3⟩
    rotate_left 2
    · exact ⟨_, rfl, _, rfl, .inr ⟨.ref a, y, rfl, .inr ⟨a, cs, c, rfl, hp, h1, h2, h3⟩, fun H' d s' => k H' d s'⟩⟩
    · exact ⟨_, rfl, _, rfl, .inr ⟨.ref a, y, rfl, .inl hb.el, fun H' d s' => k H' d s'⟩⟩
    · refine ⟨_, rfl, _, rfl, .inl ⟨a, y, cs, c, i, rfl, hp, gd, h1, h2, fun H1 s1 => ?_⟩⟩
      exact ⟨_, rfl, _, rfl, .inr ⟨.ref a, z, rfl, (.inl (h3.same s1).el), fun H' d s' => k H' d (s1.trans s')⟩⟩
theorem ok_edB {f fS : Addr} {fd fdS : FuncData} (F : Fun K "edited" "edited" sEdited f fd)
    (GS : FnOk P w K mg base (L2N.CX P w) 6 fS fdS ["plan", "filling", "cell", "other"] (spSwB K CI)) (bS : Binds K fdS ["plan", "filling", "cell", "other"] []) (gS : mg "with_swap" = some (.ref fS)) (kS : PySem.W.keepIn K (.ref fS) = true) :
    FnOk P w K mg base (L2N.CX P w) 12 f fd ["plan", "filling", "edit"] (spEdB K CI) := by
  refine okCX F scEdited (fun vs H Q E h => ?_) (fun cdv A outer s H vs Q E hr h => ?_)
  · obtain ⟨a, t, x, cs, rfl, _⟩ := h
    rfl
  · obtain ⟨a, t, x, cs, rfl, hp, gd, ⟨u, y, z, rfl, h1, hb⟩, k⟩ := h
    have hr6 : Room 6 _ := hr.mono (by omega)
    refine ⟨_, pss_cons (ps_if (pt_cmpR op_eq (pe_ix ix_tup (pv 2) pe_int (fun _ _ => rfl)) pe_str (nomark _)) (pss_one ps_never) pss_nil)
      (pss_cons (ps_if (pt_cmpR op_eq (pe_ix ix_tup (pv 2) pe_int (fun _ _ => rfl)) pe_str (nomark _)) (pss_one ps_never) pss_nil)
      (pss_one (ps_ret (pe_callS GS hr6 (by rfl) gS kS bS (L2N.passAt (L2N.takes_of rfl rfl rfl rfl)) (pa_cons (pv 0) (pa_cons (pv 1) (pa_cons (pe_ix ix_tup (pv 2) pe_int (fun _ _ => rfl)) (pa_cons (pe_ix ix_tup (pv 2) pe_int (fun _ _ => rfl)) pa_nil)))))))), ?_⟩
    have d2 : decide (V.str "swap" = V.str "arrange") = false := by decide +kernel
    have d3 : decide (V.str "swap" = V.str "set") = false := by decide +kernel
    refine ⟨_, rfl, u, _, 0, .str "swap", rfl, rfl, h1, rfl, rfl, false, congrArg V.bl d2, ?_⟩
    refine ⟨_, rfl, u, _, 0, .str "swap", rfl, rfl, h1, rfl, rfl, false, congrArg V.bl d3, ?_⟩
    exact ⟨_, rfl, _, rfl, _, rfl, u, _, 1, y, rfl, rfl, h1, rfl, _, rfl, u, _, 2, z, rfl, rfl, h1, rfl, a, t, y, z, cs, rfl, hp, gd, hb, fun H' d s' => k H' d s'⟩
theorem ok_perfB {f fE : Addr} {fd fdE : FuncData} (F : Fun K "perform" "Sheet.perform" sShPerf f fd) (T : ShCls K mg C)
    (GE : FnOk P w K mg base (L2N.CX P w) 12 fE fdE ["plan", "filling", "edit"] (spEdB K CI)) (bE : Binds K fdE ["plan", "filling", "edit"] []) (gE : mg "edited" = some (.ref fE)) (kE : PySem.W.keepIn K (.ref fE) = true) :
    FnOk P w K mg base (L2N.CX P w) 13 f fd ["self", "edit"] (spPerfB K C CI) := by
  refine okCX F scShPerf (fun vs H Q E h => ?_) (fun cdv A outer s H vs Q E hr h => ?_)
  · obtain ⟨a, p, q, t, b, x, cs, vs, ps, rfl, _⟩ := h
    rfl
  · obtain ⟨a, p, q, t, b, x, cs, vs, ps, rfl, S, hp, hb, k⟩ := h
    have nd := scShPerf.nd
    refine ⟨_, pss_cons (ps_set (i := 2) nd rfl (.inl rfl) (pe_callS GE hr (by rfl) gE kE bE (L2N.passAt (L2N.takes_of rfl rfl rfl rfl)) (pa_cons (pe_fld (pv 0) rfl) (pa_cons (pe_fld (pv 0) rfl) (pa_cons (pv 1) pa_nil)))))
      (pss_cons ps_never (pss_cons ps_never (pss_one ps_never))), ?_⟩
    obtain ⟨dx, ha⟩ := S.ob
    exact ⟨_, rfl, a, C, dx, _, _, rfl, ha, T.cl, T.nC, shF_cells, _, rfl, a, C, dx, _, _, rfl, ha, T.cl, T.nN, shF_numbers, _, rfl, p, q, x, cs, rfl, hp, S.gd, hb, fun H' d s' => k H' d s'⟩
end
end KS
/-! what repr asks of its data -/
namespace KS
open PySem PySem.Spec PyProof.Rows L2
/-- what repr asks of its data -/
structure Rp (d : PyData) : Prop where
  s : d.showable = true
  n : d.hasDict = false
  l : d.shown.length ≤ sizeLine
  d : d.depth ≤ 64
def rReprK (K : PySem.W.Frag) : List V → Hp → VK → Prop := fun xs H Q => ∃ (a : Addr) (d : PyData), xs = [.ref a] ∧ Dp K H (.ref a) d ∧ Rp d ∧ Q (.str d.shown) H
theorem call_reprK {X : Cx} {K : PySem.W.Frag} (hK : X.K = K) (hgd : X.A.guards = some []) (hu : X.A.units + 100 < cLine) : CallR X (.builtin "repr") (rReprK K) := by
  subst hK
  intro pins s σ H xs us Q I r h
  obtain ⟨a, d, e, hd, rp, q⟩ := h
  exact call_reprD hgd hu pins s σ H xs us Q I r ⟨a, d, e, hd, rp.s, rp.n, rp.l, rp.d, q⟩
end KS
/-! programs of short words, edits: as data, shown -/
namespace KS
open PySem PySem.Spec PyProof.Rows L2
mutual
def Stp.w9 : Stp → Prop
  | .w l => l.length ≤ 9
  | .r _ b => w9L b
def w9L : List Stp → Prop
  | [] => True
  | s :: b => s.w9 ∧ w9L b
end
theorem w9L_app : ∀ {a b : List Stp}, w9L (a ++ b) ↔ w9L a ∧ w9L b
  | [], b => by rw [List.nil_append]; simp only [w9L]; exact ⟨fun h => ⟨trivial, h⟩, fun h => h.2⟩
  | s :: a, b => by
    rw [List.cons_append]
    simp only [w9L]
    rw [w9L_app (a := a)]
    exact ⟨fun ⟨x, y, z⟩ => ⟨⟨x, y⟩, z⟩, fun ⟨⟨x, y⟩, z⟩ => ⟨x, y, z⟩⟩
/-- what is shown is not long: weight, depth -/
structure ShE (d : PyData) (n m : Nat) : Prop where
  short : d.leavesShort 40 = true
  show_ : d.showable = true
  nod : d.hasDict = false
  wt : d.weight ≤ n
  dep : d.depth ≤ m
structure ShEA (ds : List PyData) (n m : Nat) : Prop where
  short : PyData.leavesShortAll 40 ds = true
  show_ : PyData.showableAll ds = true
  nod : PyData.hasDictAll ds = false
  wt : PyData.weightAll ds ≤ n
  dep : PyData.depthAll ds ≤ m
theorem ShE.mono {d : PyData} {n m n' m' : Nat} (h : ShE d n m) (h1 : n ≤ n') (h2 : m ≤ m') : ShE d n' m' := ⟨h.short, h.show_, h.nod, Nat.le_trans h.wt h1, Nat.le_trans h.dep h2⟩
theorem ShEA.nil {m : Nat} : ShEA [] 0 m := ⟨by simp only [PyData.leavesShortAll], by simp only [PyData.showableAll], by simp only [PyData.hasDictAll], by simp only [PyData.weightAll]; omega, by simp only [PyData.depthAll]; omega⟩
theorem ShEA.cons {d : PyData} {ds : List PyData} {n k m : Nat} (h : ShE d n m) (r : ShEA ds k m) : ShEA (d :: ds) (n + 1 + k) m := by
  refine ⟨?_, ?_, ?_, ?_, ?_⟩
  · simp only [PyData.leavesShortAll, h.short, r.short, Bool.and_self]
  · simp only [PyData.showableAll, h.show_, r.show_, Bool.and_self]
  · simp only [PyData.hasDictAll, h.nod, r.nod, Bool.or_self]
  · simp only [PyData.weightAll]
    have := h.wt
    have := r.wt
    omega
  · simp only [PyData.depthAll]
    have := h.dep
    have := r.dep
    omega
theorem ShEA.mono {ds : List PyData} {n m n' m' : Nat} (h : ShEA ds n m) (h1 : n ≤ n') (h2 : m ≤ m') : ShEA ds n' m' := ⟨h.short, h.show_, h.nod, Nat.le_trans h.wt h1, Nat.le_trans h.dep h2⟩
theorem ShEA.all {n m : Nat} : ∀ {ds : List PyData}, (∀ d ∈ ds, ShE d n m) → ShEA ds ((n + 1) * ds.length) m
  | [], _ => .nil
  | d :: ds, h => by
    have r := ShEA.all (n := n) (m := m) fun x hx => h x (List.mem_cons_of_mem _ hx)
    refine ((h d List.mem_cons_self).mono (Nat.le_refl _) (Nat.le_refl _) |> fun z => ShEA.cons z r).mono ?_ (Nat.le_refl _)
    rw [List.length_cons, Nat.mul_succ]
    omega
theorem ShEA.tup {ds : List PyData} {n m : Nat} (h : ShEA ds n m) : ShE (.tuple ds) n (m + 1) := by
  refine ⟨?_, ?_, ?_, ?_, ?_⟩
  · simp only [PyData.leavesShort]; exact h.short
  · simp only [PyData.showable]; exact h.show_
  · simp only [PyData.hasDict]; exact h.nod
  · simp only [PyData.weight]; exact h.wt
  · have := h.dep
    simp only [PyData.depth]
    omega
theorem ShEA.lst {ds : List PyData} {n m : Nat} (h : ShEA ds n m) : ShE (.list ds) n (m + 1) := by
  refine ⟨?_, ?_, ?_, ?_, ?_⟩
  · simp only [PyData.leavesShort]; exact h.short
  · simp only [PyData.showable]; exact h.show_
  · simp only [PyData.hasDict]; exact h.nod
  · simp only [PyData.weight]; exact h.wt
  · have := h.dep
    simp only [PyData.depth]
    omega
theorem ShE.rp {d : PyData} {n m : Nat} (h : ShE d n m) (hn : n ≤ 399000) (hm : m ≤ 64) : Rp d := by
  have := PyData.shown_le 40 (by decide) d h.short
  have h2 := h.wt
  refine ⟨h.show_, h.nod, ?_, Nat.le_trans h.dep hm⟩
  rw [sizeLine_eq]
  omega
theorem she_int {i : Int} (h0 : 0 ≤ i) (h1 : i ≤ 10 ^ 30) : ShE (.int i) 101 0 := by
  obtain ⟨k, rfl⟩ := Int.eq_ofNat_of_zero_le h0
  have hk : k ≤ 10 ^ 30 := by exact_mod_cast h1
  have lg : k.log2 < 100 := by
    rcases Nat.eq_zero_or_pos k with z | z
    · rw [z]; decide
    · refine (Nat.log2_lt (by omega)).mpr ?_
      have : (10 : Nat) ^ 30 < 2 ^ 100 := by decide +kernel
      omega
  refine ⟨?_, ?_, ?_, ?_, ?_⟩
  · simp only [PyData.leavesShort, PyData.shown]
    refine decide_eq_true (toString_length_le (k := 40) (by omega) (by decide) ?_)
    have : (10 : Int) ^ 30 < 10 ^ 40 := by decide +kernel
    omega
  · simp only [PyData.showable]
    exact decide_eq_true (by show k.log2 < 1920; omega)
  · simp only [PyData.hasDict]
  · simp only [PyData.weight]
    split
    · omega
    · show k.log2 + 1 ≤ 101
      omega
  · simp only [PyData.depth]; omega
theorem she_str {x : Str} {n : Nat} (h : ∀ c ∈ x.cps.toList, c < 16 ^ 8) (hl : x.length ≤ n) : ShE (.str x) n 0 := by
  refine ⟨?_, by simp only [PyData.showable], by simp only [PyData.hasDict], ?_, by simp only [PyData.depth]; omega⟩
  · simp only [PyData.leavesShort]
    rw [List.all_eq_true]
    exact fun c hc => decide_eq_true (h c hc)
  · simp only [PyData.weight]
    exact hl
theorem she_bool {b : Bool} : ShE (.bool b) 0 0 := ⟨by simp only [PyData.leavesShort], by simp only [PyData.showable], by simp only [PyData.hasDict], by simp only [PyData.weight]; omega, by simp only [PyData.depth]; omega⟩
theorem she_lit {s : String} {n : Nat} (h : ((Str.ofString s).cps.toList.all fun c => decide (c < 16 ^ 8)) = true) (hl : (Str.ofString s).length ≤ n) : ShE (.str (Str.ofString s)) n 0 :=
  she_str (fun c hc => of_decide_eq_true (List.all_eq_true.mp h c hc)) hl
theorem e30 : (10 : Int) ^ 30 = 1000000000000000000000000000000 := by decide +kernel
theorem she_small {i : Int} (h0 : 0 ≤ i) (h1 : i < 10000) : ShE (.int i) 101 0 := she_int h0 (by rw [e30]; omega)
theorem she_ints {l : List Int} (h : ∀ x ∈ l, 0 ≤ x ∧ x < 10000) : ShE (.tuple (l.map PyData.int)) (102 * l.length) 1 := by
  have := (ShEA.all (n := 101) (m := 0) (ds := l.map PyData.int) fun d hd => by
    obtain ⟨x, hx, rfl⟩ := List.mem_map.mp hd
    exact she_small (h x hx).1 (h x hx).2).tup
  rw [List.length_map] at this
  exact this
theorem she_intsL {l : List Int} (h : ∀ x ∈ l, 0 ≤ x ∧ x < 10000) : ShE (.list (l.map PyData.int)) (102 * l.length) 1 := by
  have := (ShEA.all (n := 101) (m := 0) (ds := l.map PyData.int) fun d hd => by
    obtain ⟨x, hx, rfl⟩ := List.mem_map.mp hd
    exact she_small (h x hx).1 (h x hx).2).lst
  rw [List.length_map] at this
  exact this
theorem she_cell {c : Cell} (h : InGrid c) : ShE (cellD c) 204 1 := by
  unfold InGrid at h
  have := (ShEA.cons (she_small (i := c.1) (by omega) (by omega)) (ShEA.cons (she_small (i := c.2) (by omega) (by omega)) .nil)).tup
  exact this.mono (by decide) (Nat.le_refl _)
theorem she_plan {cs : List Cell} (g : ∀ c ∈ cs, InGrid c) : ShE (planD cs) (205 * cs.length) 2 := by
  have := (ShEA.all (n := 204) (m := 1) (ds := cs.map cellD) fun d hd => by
    obtain ⟨c, hc, rfl⟩ := List.mem_map.mp hd
    exact she_cell (g c hc)).tup
  rw [List.length_map] at this
  exact this
theorem she_line {cs : List Cell} {vs : List Int} (v9 : Vals9 cs.length vs) : ShE (.tuple (vs.map PyData.int)) (102 * cs.length) 1 := by
  have := she_ints (l := vs) fun x hx => by
    have := v9.bd x hx
    omega
  rw [v9.len] at this
  exact this
mutual
theorem dat_she : ∀ s : Stp, s.ok → s.w9 → ShE s.dat (120 * s.steps - 1) (2 * s.nest)
  | .w l, h, k => by
    simp only [Stp.ok] at h
    simp only [Stp.w9] at k
    simp only [Stp.dat, Stp.steps, Stp.nest]
    have wl := wS_len l
    exact (she_str (wS_cps l) (n := 119) (by omega)).mono (by omega) (by omega)
  | .r n b, h, k => by
    simp only [Stp.ok] at h
    simp only [Stp.w9] at k
    have ih := datL_she b h.2.2 k
    simp only [Stp.dat, Stp.steps, Stp.nest]
    have r0 : ShE (.str "repeat") 6 (2 * nestL b + 1) := (she_lit (by decide +kernel) (by decide +kernel)).mono (Nat.le_refl _) (by omega)
    have r1 : ShE (.int n) 101 (2 * nestL b + 1) := (she_int (by omega) h.2.1).mono (Nat.le_refl _) (by omega)
    exact (ShEA.cons r0 (ShEA.cons r1 (ShEA.cons ih.tup .nil))).tup.mono (by omega) (by omega)
theorem datL_she : ∀ b : List Stp, okL b → w9L b → ShEA (datL b) (120 * stepsL b) (2 * nestL b)
  | [], _, _ => by
    simp only [datL, stepsL, nestL]
    exact .nil
  | s :: b, h, k => by
    simp only [okL] at h
    simp only [w9L] at k
    have i1 := dat_she s h.1 k.1
    have i2 := datL_she b h.2 k.2
    have sp := steps_pos s
    simp only [datL, stepsL, nestL]
    exact (ShEA.cons (i1.mono (Nat.le_refl _) (show _ ≤ 2 * max s.nest (nestL b) by omega)) (i2.mono (Nat.le_refl _) (show _ ≤ 2 * max s.nest (nestL b) by omega))).mono (by omega) (Nat.le_refl _)
end
/-! ### edits as data -/
def Ed.sm : Ed → Prop
  | .arr ss => w9L ss ∧ stepsL ss ≤ 39
  | _ => True
def Ed.dat (cs : List Cell) : Ed → PyData
  | .arr ss => .tuple [.str "arrange", .tuple (datL ss)]
  | .set i v => .tuple [.str "set", cellD (cs.getD i (0, 0)), .int v]
  | .swap i j => .tuple [.str "swap", cellD (cs.getD i (0, 0)), cellD (cs.getD j (0, 0))]
theorem getD_cell {cs : List Cell} {i : Nat} {c : Cell} (h : cs[i]? = some c) : cs.getD i (0, 0) = c := by
  rw [List.getD_eq_getElem?_getD, h]
  rfl
theorem EdA.dp {K : PySem.W.Frag} {H : Hp} {cs : List Cell} {x : V} {e : Ed} (h : EdA K H cs x e) : Dp K H x (e.dat cs) := by
  have cd : ∀ {x : V} {c : Cell}, CellT H x c → Dp K H x (cellD c) := fun ⟨t, e, q⟩ => by
    subst e
    exact dp_cell (SqT.of q)
  cases h with
  | arr h1 h2 =>
    obtain ⟨xs, h3, h4⟩ := h2
    exact .tup h1 (.cons (.str _) (.cons (.tup h3 h4.dp) .nil))
  | set h1 h2 h3 =>
    show Dp K H _ (.tuple [.str "set", cellD (cs.getD _ (0, 0)), .int _])
    rw [getD_cell h3]
    exact .tup h1 (.cons (.str _) (.cons (cd h2) (.cons (.int _) .nil)))
  | swap h1 h2 h3 h4 h5 =>
    show Dp K H _ (.tuple [.str "swap", cellD (cs.getD _ (0, 0)), cellD (cs.getD _ (0, 0))])
    rw [getD_cell h4, getD_cell h5]
    exact .tup h1 (.cons (.str _) (.cons (cd h2) (.cons (cd h3) .nil)))
theorem Ed.she {cs : List Cell} {vs : List Int} {e : Ed} (g : ∀ c ∈ cs, InGrid c) (ok : e.ok cs.length vs) (sm : e.sm) : ShE (e.dat cs) 4700 12 := by
  have cg : ∀ {i : Nat}, i < cs.length → ShE (cellD (cs.getD i (0, 0))) 204 1 := fun {i} hi => by
    rw [getD_cell (List.getElem?_eq_getElem hi)]
    exact she_cell (g _ (List.getElem_mem _))
  cases e with
  | arr ss =>
    obtain ⟨o1, o2, o3⟩ := ok
    obtain ⟨s1, s2⟩ := sm
    have h := (datL_she ss o1 s1).mono (Nat.le_refl _) (show _ ≤ 9 by omega)
    have r0 : ShE (.str "arrange") 7 10 := (she_lit (by decide +kernel) (by decide +kernel)).mono (Nat.le_refl _) (by omega)
    exact (ShEA.cons r0 (ShEA.cons h.tup .nil)).tup.mono (by omega) (by omega)
  | set i v =>
    obtain ⟨o1, o2, o3, _⟩ := ok
    have r0 : ShE (.str "set") 3 1 := (she_lit (by decide +kernel) (by decide +kernel)).mono (Nat.le_refl _) (by omega)
    exact (ShEA.cons r0 (ShEA.cons (cg o1) (ShEA.cons ((she_small (by omega) (by omega)).mono (Nat.le_refl _) (by omega)) .nil))).tup.mono (by omega) (by omega)
  | swap i j =>
    obtain ⟨o1, o2⟩ := ok
    have r0 : ShE (.str "swap") 4 1 := (she_lit (by decide +kernel) (by decide +kernel)).mono (Nat.le_refl _) (by omega)
    exact (ShEA.cons r0 (ShEA.cons (cg o1) (ShEA.cons (cg o2) .nil))).tup.mono (by omega) (by omega)
/-- edits that can be written out -/
def EdsSh (cs : List Cell) (es : List Ed) : Prop := ∀ e ∈ es, ShE (e.dat cs) 4700 12
theorem eds_she {cs : List Cell} {es : List Ed} (h : EdsSh cs es) : ShE (.tuple (es.map (Ed.dat cs))) (4701 * es.length) 13 := by
  have := (ShEA.all (n := 4700) (m := 12) (ds := es.map (Ed.dat cs)) fun d hd => by
    obtain ⟨e, he, rfl⟩ := List.mem_map.mp hd
    exact h e he).tup
  rw [List.length_map] at this
  exact this
end KS
namespace KS
open PySem PySem.Spec PyProof.Rows L2
abbrev sPlan : Stmt := topS 69
abbrev nPlan : List Str := ["_law_pool_here", "_law_most", "_law_mode", "_law_wide", "_law_high", "_law_top", "_law_left", "_law_every", "_law_step", "_law_low", "_law_far", "_law_side", "_law_spot"]
theorem scPlan : FnScope nPlan ["_law_pool_here", "_law_most"] (defScope sPlan) := ⟨rfl, rfl, rfl, by decide +kernel, rfl, by decide +kernel, by decide +kernel⟩
end KS
/-! drawn plans whose tuple's methods can be called -/
namespace KS
open PySem PySem.Spec PyProof.Rows L2
def spPlanN (K : PySem.W.Frag) : Sp := fun vs H Q _ => ∃ (p : Addr) (m : Int), vs = [.ref p, .int m] ∧ PoolO (H p) ∧ 1 ≤ m ∧ m ≤ 24 ∧
  ∀ H' a cs, KeepX p H H' → PoolO (H' p) → PlanN H' a cs → Good cs → (cs.length : Int) ≤ m → H a = none → Q (.ref a) H'
section
variable {P : Program} {w : World} {K : PySem.W.Frag} {mg : Str → Option Value} {base : Heap}
theorem ok_planN {f fD : Addr} {fd fdD : FuncData} (F : Fun K "_law_plan" "_law_plan" sPlan f fd) (GD : FnOk P w K mg base CX0 1 fD fdD ["_law_pool_here", "_law_most"] spDraw)
    (bD : Binds K fdD ["_law_pool_here", "_law_most"] []) (gD : mg "_law_draw" = some (.ref fD)) (kD : PySem.W.keepIn K (.ref fD) = true)
    (mn : mg "min" = none) (mr : mg "range" = none) (ml : mg "len" = none) (mt : mg "tuple" = none) (ms : mg "sum" = none) :
    FnOk P w K mg base CX0 2 f fd ["_law_pool_here", "_law_most"] (spPlanN K) := by
  refine F.ok scPlan (fun vs H Q E h => ?_) (fun cdv A outer s H vs Q E hr h => ?_)
  · obtain ⟨p, m, rfl, _⟩ := h
    rfl
  · obtain ⟨p, m, rfl, po, m0, m1, q⟩ := h
    have nd := scPlan.nd
    refine ⟨_, pss_cons (ps_par (i := 2) (j := 3) (by rfl) nd rfl rfl (by decide) rfl rfl
        (pa_cons (pe_call GD hr (by rfl) gD kD bD .nil pass0 (pa_cons (pv 0) (pa_cons pe_int pa_nil)))
          (pa_cons (pe_op op_add pe_int (pe_call GD hr (by rfl) gD kD bD .nil pass0 (pa_cons (pv 0) (pa_cons (pe_callB (call_min2 rfl) (by rfl) mn (by decide +kernel) (pa_cons pe_int (pa_cons (pv 1) pa_nil))) pa_nil)))) pa_nil)) (by rfl))
      (pss_cons (ps_set (i := 4) nd rfl (.inl rfl) (pe_op op_add pe_int (pe_call GD hr (by rfl) gD kD bD .nil pass0 (pa_cons (pv 0)
          (pa_cons (pe_callB (call_min2 rfl) (by rfl) mn (by decide +kernel) (pa_cons pe_int (pa_cons (pe_op op_fdiv (pv 1) (pv 3)) pa_nil))) pa_nil)))))
      (pss_cons (ps_if (pt_cmpR op_eq (pv 2) pe_int (nomark _)) (pss_one (ps_par (i := 4) (j := 3) (by rfl) nd rfl rfl (by decide) rfl rfl
          (pa_cons (pe_op op_add pe_int (pe_call GD hr (by rfl) gD kD bD .nil pass0 (pa_cons (pv 0) (pa_cons pe_int pa_nil))))
            (pa_cons (pe_op op_add pe_int (pe_call GD hr (by rfl) gD kD bD .nil pass0 (pa_cons (pv 0) (pa_cons pe_int pa_nil)))) pa_nil)) (by rfl))) pss_nil)
      (pss_cons (ps_asg (pe_tup (pa_cons (pe_call GD hr (by rfl) gD kD bD .nil pass0 (pa_cons (pv 0) (pa_cons (pe_op op_sub pe_int (pv 4)) pa_nil)))
            (pa_cons (pe_call GD hr (by rfl) gD kD bD .nil pass0 (pa_cons (pv 0) (pa_cons (pe_op op_sub pe_int (pv 3)) pa_nil))) (pa_cons (pe_lst pa_nil) pa_nil))))
          (pg_tup (by rfl) (pgs_cons (pg_name (i := 5) nd rfl (.inr rfl)) (pgs_cons (pg_name (i := 6) nd rfl (.inr rfl)) (pgs_cons (pg_name (i := 7) nd rfl (.inl rfl)) pgs_nil)))))
      (pss_cons (ps_for PassesOwn.never rfl (pi_range1 (by rfl) mr (pa_cons (pv 4) pa_nil)) (pg_name (i := 8) nd rfl (.inr rfl))
          (pss_one (ps_expr (pe_bm PySem.F.plainAttrs_list PySem.F.slot_list_extend PySem.F.type_list_extend mt_extend (pv 7)
            (pa_cons (pe_lc (own := [("_law_side", 11)]) (g := gName 11) (tt := tYes) rfl nd (pi_range1 (by rfl) mr (pa_cons (pv 3) pa_nil)) (blkOk_by (N := nPlan) (sc := defScope sPlan) (by decide +kernel))
              (fun _ _ _ _ _ => pg_name (i := 11) nd rfl (Or.inl rfl)) (fun _ _ _ _ _ => pts_nil) (fun _ _ _ _ _ => pe_tup (pa_cons (pe_op op_add (pv 5) (pv 8)) (pa_cons (pe_op op_add (pv 6) (pv 11)) pa_nil)))) pa_nil)))))
      (pss_cons (ps_if (pt_cmpR op_eq (pv 2) pe_int (nomark _)) (pss_one (ps_set (i := 7) nd rfl (.inl rfl) (pe_orT
          (pe_lc (own := [("_law_spot", 12)]) (g := gName 12) rfl nd (pi_list (pv 7)) (blkOk_by (N := nPlan) (sc := defScope sPlan) (by decide +kernel))
            (fun _ _ _ _ _ => pg_name (i := 12) nd rfl (Or.inl rfl)) (fun _ _ _ _ _ => pts_one (pt_cmpR op_gt (pe_call GD hr (by rfl) gD kD bD .nil pass0 (pa_cons (pv 0) (pa_cons pe_int pa_nil))) pe_int (nomark _))) (fun _ _ _ _ _ => pv 12)) (pe_one (pv 7))))) pss_nil)
      (pss_cons (ps_if (pt_cmpR op_eq (pv 2) pe_int (nomark _)) (pss_one (ps_set (i := 7) nd rfl (.inl rfl) (pe_orT
          (pe_lc (own := [("_law_spot", 12)]) (g := gName 12) rfl nd (pi_list (pv 7)) (blkOk_by (N := nPlan) (sc := defScope sPlan) (by decide +kernel))
            (fun _ _ _ _ _ => pg_name (i := 12) nd rfl (Or.inl rfl)) (fun _ _ _ _ _ => pts_one (pt_cmpR op_gt (pe_call GD hr (by rfl) gD kD bD .nil pass0 (pa_cons (pv 0) (pa_cons pe_int pa_nil))) pe_int (nomark _))) (fun _ _ _ _ _ => pv 12)) (pe_one (pv 7))))) pss_nil)
      (pss_cons (ps_if (pt_cmpR op_eq (pv 2) pe_int (nomark _)) (pss_cons (ps_set (i := 9) nd rfl (.inr rfl) (pe_op op_add (pe_op op_add (pv 5) (pv 6)) (pe_call GD hr (by rfl) gD kD bD .nil pass0 (pa_cons (pv 0) (pa_cons pe_int pa_nil)))))
          (pss_cons (ps_set (i := 10) nd rfl (.inr rfl) (pe_op op_sub (pe_op op_sub (pe_op op_add (pe_op op_add (pe_op op_add (pv 5) (pv 6)) (pv 4)) (pv 3)) pe_int) (pe_call GD hr (by rfl) gD kD bD .nil pass0 (pa_cons (pv 0) (pa_cons pe_int pa_nil)))))
          (pss_one (ps_set (i := 7) nd rfl (.inl rfl) (pe_orT
          (pe_lc (own := [("_law_spot", 12)]) (g := gName 12) rfl nd (pi_list (pv 7)) (blkOk_by (N := nPlan) (sc := defScope sPlan) (by decide +kernel))
            (fun _ _ _ _ _ => pg_name (i := 12) nd rfl (Or.inl rfl)) (fun _ _ _ _ _ => pts_one (pt_chain op_le op_le (pv 9) (pe_callB (id := "sum") (r := rSumT K) (cr_sumT rfl) (by rfl) ms (by decide +kernel) (pa_cons (pv 12) pa_nil)) (pv 10))) (fun _ _ _ _ _ => pv 12)) (pe_one (pv 7))))))) pss_nil)
      (pss_cons (ps_while PassesOwn.never (pt_cmpR op_gt (pe_callB call_len_seq (by rfl) ml PySem.boot_len (pa_cons (pv 7) pa_nil)) (pv 1) (nomark _))
          (pss_one (ps_expr (pe_bm PySem.F.plainAttrs_list PySem.F.slot_list_pop PySem.F.type_list_pop mt_popAt (pv 7)
            (pa_cons (pe_call GD hr (by rfl) gD kD bD .nil pass0 (pa_cons (pv 0) (pa_cons (pe_callB call_len_seq (by rfl) ml PySem.boot_len (pa_cons (pv 7) pa_nil)) pa_nil))) pa_nil)))))
      (pss_one (ps_ret (pe_callTy cr_tupFz (by rfl) mt (by decide +kernel) (pa_cons (pv 7) pa_nil)))))))))))), ?_⟩
    -- mode, wide
    refine ⟨_, rfl, p, 4, rfl, po, by decide, by decide, fun H1 mode k1 po1 _ _ => ?_⟩
    have mb : 0 < (if m < 8 then m else 8 : Int) ∧ (if m < 8 then m else 8 : Int) ≤ 8 ∧ (if m < 8 then m else 8 : Int) ≤ m := by
      by_cases c : m < 8
      · rw [if_pos c]
        omega
      · rw [if_neg c]
        omega
    refine ⟨_, rfl, _, rfl, 8, m, rfl, p, _, rfl, po1, mb.1, by omega, fun H2 w k2 po2 w0 w1 => ?_⟩
    refine ⟨_, _, rfl, rfl, _, _, rfl, ?_⟩
    -- high
    have qd : 1 ≤ m / (1 + w) := by
      have : (1 : Int) * (1 + w) ≤ m := by omega
      exact (Int.le_ediv_iff_mul_le (by omega)).mpr this
    have hb : 0 < (if m / (1 + w) < 8 then m / (1 + w) else 8 : Int) ∧ (if m / (1 + w) < 8 then m / (1 + w) else 8 : Int) ≤ 8 := by
      by_cases c : m / (1 + w) < 8
      · rw [if_pos c]
        omega
      · rw [if_neg c]
        omega
    refine ⟨_, rfl, _, rfl, _, rfl, _, _, rfl, rfl, ⟨by omega, by omega⟩, 8, _, rfl, p, _, rfl, po2, hb.1, by omega, fun H3 h k3 po3 h0 h1 => ?_⟩
    refine ⟨_, _, rfl, rfl, ?_⟩
    refine par_if (p := p) (m := m) (mode := mode) (wide := 1 + w) (high := 1 + h) po3 ⟨by omega, by omega⟩ ⟨by omega, by omega⟩ (fun wide high H4 k4 po4 hw hh => ?_)
    have kx4 : KeepX p H H4 := ((k1.trans k2).trans k3).trans k4
    -- top, left, every
    refine ⟨_, rfl, _, rfl, _, _, rfl, rfl, p, _, rfl, po4, by omega, by omega, fun H5 top k5 po5 t0 t1 => ?_⟩
    refine ⟨_, rfl, _, rfl, _, _, rfl, rfl, p, _, rfl, po5, by omega, by omega, fun H6 left k6 po6 l0 l1 => ?_⟩
    refine ⟨Nat.zero_le _, fun e ne => ⟨(by show 3 ≤ sizeLine; decide), fun T nT => ?_⟩⟩
    have kx6 : KeepX p H H6 := (kx4.trans k5).trans k6
    have s7 := same_new (o := .lst []) ne
    have s8 := same_new (o := .tup [.int top, .int left, .ref e]) nT
    have po8 := (po6.same s7).same s8
    have he8 := s8 _ _ (show upd H6 e (.lst []) e = _ from upd_same)
    refine ⟨T, _, rfl, SqT.of upd_same, rfl, _, _, rfl, _, _, rfl, _, _, rfl, rfl, ?_⟩
    have nep : e ≠ p := Ne.symm (po6.ne ne)
    have heH : H e = none := by
      cases z : H e with
      | none => rfl
      | some o =>
        have := kx6 e o nep z
        rw [ne] at this
        cases this
    -- the rows
    refine ⟨_, rfl, high, rfl, by omega, by omega, for_range (lo := 0) (n := high.toNat) (fun i σ H' => ∃ (y8 : Option V) (xs : List V) (cs : List Cell),
      σ = [some (.ref p), some (.int m), some (.int mode), some (.int wide), some (.int high), some (.int top), some (.int left), some (.ref e), y8, none, none, none, none] ∧
      KeepX p H H' ∧ PoolO (H' p) ∧ H' e = some (.lst xs) ∧ CellsT H' xs cs ∧ cs.Pairwise lt2 ∧ (∀ c ∈ cs, top ≤ c.1 ∧ c.1 < top + i ∧ left ≤ c.2 ∧ c.2 < left + wide) ∧ i ≤ cs.length ∧ cs.length ≤ 8 * i) ?_ ?_ ?_⟩
    · refine ⟨none, [], [], rfl, (kx6.trans (.of_same s7)).trans (.of_same s8), po8, he8, .nil, .nil, (fun c hc => nomatch hc), Nat.le_refl _, Nat.le_refl _⟩
    · rintro i σ H' hi ⟨y8, xs, cs, rfl, kx, po', he, hc, pw, bd, c0, c1⟩
      have hi' : (i : Int) < high := by omega
      have hlen := Paired.length hc
      refine ⟨_, rfl, .inl ⟨rfl, _, SqL.of he⟩, _, rfl, wide, rfl, by omega, by omega, fun d nd2 => ?_⟩
      have ned : e ≠ d := ne_of_none he nd2
      have npd : p ≠ d := po'.ne nd2
      refine lc_range (lo := 0) (n := wide.toNat) (fun j H2 => ∃ acc : List V, H2 d = some (.lst acc) ∧ CellsT H2 acc (rowCells (top + i) left j) ∧ (∀ b o, b ≠ d → H' b = some o → H2 b = some o)) ?_ ?_ ?_
      · exact ⟨[], upd_same, .nil, fun b o n z => by rw [upd_ne n]; exact z⟩
      · rintro j H2 hj ⟨acc, a1, a2, a3⟩
        refine ⟨rfl, _, rfl, _, rfl, _, _, rfl, rfl, _, rfl, _, rfl, _, _, rfl, rfl, (by show 2 ≤ sizeLine; decide), fun t nt => ?_⟩
        have ndt : d ≠ t := ne_of_none a1 nt
        have st := same_new (o := .tup [.int (top + (0 + (i : Int))), .int (left + (0 + (j : Int)))]) nt
        have hal : acc.length = j := by
          rw [Paired.length a2, rowCells_len]
        refine ⟨acc, st _ _ a1, small64 (by omega), acc ++ [.ref t], upd_same, ?_, fun b o n z => ?_⟩
        · rw [rowCells_succ]
          refine paired_append (cellsT_kt ((KTt.of_same st).trans (KTt.upd (st _ _ a1))) a2) (.cons ⟨t, rfl, ?_⟩ .nil)
          rw [upd_ne (Ne.symm ndt), upd_same, Int.zero_add, Int.zero_add]
        · rw [upd_ne n]
          exact st _ _ (a3 b o n z)
      · rintro H2 ⟨acc, a1, a2, a3⟩
        have hw' : (wide.toNat : Int) = wide := Int.toNat_of_nonneg (by omega)
        have hal : acc.length = wide.toNat := by
          rw [Paired.length a2, rowCells_len]
        have kt2 : KTt H' H2 := KTt.of_same fun b o z => a3 b o (ne_of_none z nd2) z
        have he2 := a3 _ _ ned he
        refine ⟨e, d, xs, acc, rfl, rfl, he2, a1, by
          rw [sizeLine_eq]
          omega, ?_⟩
        refine ⟨_, xs ++ acc, cs ++ rowCells (top + i) left wide.toNat, rfl, ?_, ?_, upd_same, ?_, ?_, ?_, ?_, ?_⟩
        · intro b o n z
          have nbe : b ≠ e := ne_of_none z heH
          rw [upd_ne nbe]
          have z' := kx b o n z
          exact a3 b o (ne_of_none z' nd2) z'
        · rw [upd_ne (Ne.symm nep)]
          obtain ⟨x1, x2, x3, x4, x5⟩ := po'
          exact ⟨x1, x2, x3, a3 _ _ npd x4, x5⟩
        · exact cellsT_kt (KTt.upd he2) (paired_append (cellsT_kt kt2 hc) a2)
        · rw [List.pairwise_append]
          refine ⟨pw, rowCells_asc _ _ _, fun x hx y hy => ?_⟩
          have b1 := bd x hx
          have b2 := rowCells_mem hy
          exact .inl (by omega)
        · intro c hc'
          rcases List.mem_append.mp hc' with z | z
          · have := bd c z
            omega
          · have := rowCells_mem z
            omega
        · rw [List.length_append, rowCells_len]
          omega
        · rw [List.length_append, rowCells_len]
          omega
    · rintro σ H' ⟨y8, xs, cs, rfl, kx, po', he, hc, pw, bd, c0, c1⟩
      have hh' : (high.toNat : Int) = high := Int.toNat_of_nonneg (by omega)
      have hst : PlStT K p H m mode wide high top left [some (.ref p), some (.int m), some (.int mode), some (.int wide), some (.int high), some (.int top), some (.int left), some (.ref e), y8, none, none, none, none] H' :=
        ⟨⟨e, xs, cs, y8, none, none, rfl, heH, nep, he, hc, ⟨pw, fun c z => by
          have := bd c z
          exact ⟨by omega, by omega, by omega, by omega⟩, fun z => by
          subst z
          have : high.toNat ≤ 0 := c0
          omega⟩, by omega⟩, kx, po'⟩
      refine filT_if hst (fun t c => drawT_test hst (by decide) (by decide) t c) (fun σ1 G1 h1' => ?_)
      refine filT_if h1' (fun t c => drawT_test h1' (by decide) (by decide) t c) (fun σ2 G2 h2' => ?_)
      refine filT3_if h2' (fun σ3 G3 h3' => ?_)
      -- while len(every) > most
      refine ⟨fun n σ G => ∃ (e : Addr) (xs : List V) (cs : List Cell) (y8 y9 y10 : Option V),
        σ = [some (.ref p), some (.int m), some (.int mode), some (.int wide), some (.int high), some (.int top), some (.int left), some (.ref e), y8, y9, y10, none, none] ∧
        H e = none ∧ e ≠ p ∧ G e = some (.lst xs) ∧ CellsT G xs cs ∧ Good cs ∧ cs.length ≤ 64 ∧ KeepX p H G ∧ PoolO (G p) ∧ n = xs.length, ?_, ?_⟩
      · obtain ⟨⟨e, xs, cs, y8, y9, y10, es, he0, hep, he, hc, gd, hl⟩, kx, po⟩ := h3'
        exact ⟨xs.length, e, xs, cs, y8, y9, y10, es, he0, hep, he, hc, gd, hl, kx, po, rfl⟩
      · rintro n σ4 G4 ⟨e4, xs4, cs4, y8, y9, y10, rfl, he0, hep, he4, hc4, gd4, hl4, kx4, po4', rfl⟩
        have hlen := Paired.length hc4
        refine ⟨_, rfl, e4, xs4, rfl, .inl (SqL.of he4), _, rfl, _, _, rfl, rfl, _, rfl, ite2 (fun c => ?_) (fun c => ?_)⟩
        · have c' : m < (xs4.length : Int) := of_decide_eq_true c
          refine ⟨fun σ' G' => ∃ n', n' < xs4.length ∧ ∃ (e : Addr) (xs : List V) (cs : List Cell) (y8 y9 y10 : Option V),
            σ' = [some (.ref p), some (.int m), some (.int mode), some (.int wide), some (.int high), some (.int top), some (.int left), some (.ref e), y8, y9, y10, none, none] ∧
            H e = none ∧ e ≠ p ∧ G' e = some (.lst xs) ∧ CellsT G' xs cs ∧ Good cs ∧ cs.length ≤ 64 ∧ KeepX p H G' ∧ PoolO (G' p) ∧ n' = xs.length, fun σ' G' z => z, ?_⟩
          refine ⟨_, rfl, .inl ⟨rfl, _, SqL.of he4⟩, _, rfl, _, rfl, e4, xs4, rfl, .inl (SqL.of he4), p, _, rfl, po4', by omega, by omega, fun G5 r k5 po5 r0 r1 => ?_⟩
          have hr' : ((r.toNat : Nat) : Int) = r := Int.toNat_of_nonneg r0
          have hlt : r.toNat < xs4.length := by omega
          have he5 := k5 _ _ hep he4
          refine ⟨e4, xs4, r, r.toNat, xs4[r.toNat], rfl, rfl, he5, by omega, by omega, ?_, List.getElem?_eq_getElem hlt, ?_⟩
          · unfold seqIndex?
            have e1 : ¬ r < 0 := by omega
            simp only [if_neg e1]
            rw [if_pos]
            simp only [Bool.and_eq_true, decide_eq_true_eq]
            exact ⟨r0, r1⟩
          · have hel : (xs4.eraseIdx r.toNat).length = xs4.length - 1 := List.length_eraseIdx_of_lt hlt
            have hpe := paired_erase r.toNat hc4
            have hsub := List.eraseIdx_sublist cs4 r.toNat
            refine ⟨(xs4.eraseIdx r.toNat).length, by omega, e4, _, cs4.eraseIdx r.toNat, y8, y9, y10, rfl, he0, hep, upd_same, cellsT_kt ((KTt.of_keepX po4' k5).trans (KTt.upd he5)) hpe,
              ⟨gd4.asc.sublist hsub, fun c hc => gd4.grid c (hsub.subset hc), fun z => ?_⟩, Nat.le_trans hsub.length_le hl4, ?_, ?_, rfl⟩
            · have q1 := Paired.length hpe
              rw [z, hel] at q1
              have : xs4.length - 1 = 0 := q1
              omega
            · intro b o n z
              rw [upd_ne (ne_of_none z he0)]
              exact k5 _ _ n (kx4 _ _ n z)
            · rw [upd_ne (Ne.symm hep)]
              exact po5
        · have c' : ¬ m < (xs4.length : Int) := fun z => c (decide_eq_true z)
          refine ⟨_, rfl, e4, xs4, rfl, SqL.of he4, fun l ob nl oc od => ?_⟩
          have sl := same_new (o := .frz ob (.tup xs4)) nl
          refine q _ l cs4 (kx4.trans (.of_same sl)) (po4'.same sl) ⟨xs4, ⟨ob, upd_same, oc, od⟩, cellsT_kt (.of_same sl) hc4⟩ gd4 (by omega) ?_
          cases z : H l with
          | none => rfl
          | some o =>
            have := kx4 l o (Ne.symm (po4'.ne nl)) z
            rw [nl] at this
            cases this
end
end KS
namespace KS
open PySem PySem.Spec PyProof.Rows L2 RZ
/-! ### list(zip(t1, t2)), both tuples of one length -/
theorem nolen_zip : typeLookup (.type "zip") "__len__" = pure none := by rw [typeLookup_type, builtinLookup_eq_fast]; kernel_rfl
theorem nohint_zip : typeLookup (.type "zip") "__length_hint__" = pure none := by rw [typeLookup_type, builtinLookup_eq_fast]; kernel_rfl
def pairO (x y : Value) : Obj := { cls := .type "tuple", data := .seq #[x, y] }
section
variable {prog : Program} {w : World} {E : Value → Shared → Prop} {s : Shared} {z TI TO i1 i2 l1 l2 d : Addr}
theorem nxtZ {A : Around} (D : ZipApart z TI TO i1 i2 l1 l2) {xs ys : Array Value} {n i : Nat} (hx : xs.size = n) (hy : ys.size = n) (hi : i < n) (st : ZTs z TI TO i1 i2 l1 l2 d xs ys i s.heap) (ds : d < s.heap.objs.size) {Q : Option Value → Shared → Prop}
    (hQ : ∀ h' x y, xs[i]? = some x → ys[i]? = some y → h'.get? s.heap.objs.size = some (pairO x y) → ZTs z TI TO i1 i2 l1 l2 d xs ys (i + 1) h' → (∀ b o, b ∉ [z, TO, i1, i2] → s.heap.get? b = some o → h'.get? b = some o) → Q (some (.ref s.heap.objs.size)) { s with heap := h' }) :
    wpAny (model prog w) A (pyNext (.ref z)) Q E s := by
  have ex := Array.getElem?_eq_getElem (xs := xs) (i := i) (by omega)
  have ey := Array.getElem?_eq_getElem (xs := ys) (i := i) (by omega)
  have lt : ∀ {c o}, s.heap.get? c = some o → s.heap.objs.size ≠ c := fun e => Nat.ne_of_gt (Heap.lt_size e)
  have n1 : s.heap.objs.size ≠ i1 := st.w1.elim fun _ e => lt e.1
  have n2 : s.heap.objs.size ≠ i2 := st.w2.elim fun _ e => lt e.1
  have memo : ∀ {c : Addr}, c ∉ [z, TO, i1, i2] → c ≠ z ∧ c ≠ TO ∧ c ≠ i1 ∧ c ≠ i2 := by
    intro c hc
    simpa only [List.mem_cons, List.not_mem_nil, or_false, not_or] using hc
  rcases st.zz with ⟨q, a, b, r⟩ | ⟨T, f, oT, q, hT, r1, r2, r3, r4⟩
  · refine pyNext_zipT_item D q st.hTI r st.w1 st.w2 st.t1 st.t2 ex ey fun h' a1 a2 a3 a4 a5 a6 k => ?_
    refine hQ h' _ _ ex ey a5 ?_ fun c o hc e => let ⟨c1, c2, c3, c4⟩ := memo hc; k c o c1 c2 c3 c4 e
    exact ⟨k _ _ D.TIz D.TITO D.TIi1 D.TIi2 st.hTI, a3, a4, st.t1.at fun o e => k _ o D.l1z D.l1TO D.l1i1 D.l1i2 e, st.t2.at fun o e => k _ o D.l2z D.l2TO D.l2i1 D.l2i2 e, Or.inr ⟨_, false, _, a1, a5, lt q, n1, n2, Nat.ne_of_gt ds⟩⟩
  · refine zn_py ⟨_, q, rfl⟩ (zn_two (Q := fun v s' => Q (some v) s') q hT st.hTI fun h₁ z₁ b₁ => ?_)
    refine nextOf_tuple_item (s := { s with heap := h₁ }) (st.w1.extBut b₁.extBut D.i1z) (st.t1.extBut b₁.extBut D.l1z) ex fun h₂ w₁ b₂ => ?_
    refine nextOf_tuple_item (s := { s with heap := h₂ }) ((st.w2.extBut b₁.extBut D.i2z).extBut b₂.extBut D.i12.symm) ((st.t2.extBut b₁.extBut D.l2z).extBut b₂.extBut D.l2i1) ey fun h₃ w₂ b₃ => ?_
    have k : ∀ c o, c ≠ z → c ≠ i1 → c ≠ i2 → s.heap.get? c = some o → (h₃.push { cls := .type "tuple", data := .seq #[xs[i], ys[i]] }).get? c = some o := fun c o c1 c2 c3 e => Heap.get?_push_of_some _ (b₃.extBut _ _ c3 (b₂.extBut _ _ c2 (b₁.extBut _ _ c1 e)))
    have sz : h₃.objs.size = s.heap.objs.size := (b₃.1.trans b₂.1).trans b₁.1
    show Q (some (.ref h₃.objs.size)) { s with heap := h₃.push { cls := .type "tuple", data := .seq #[xs[i], ys[i]] } }
    rw [sz]
    refine hQ _ _ _ ex ey (by rw [← sz]; exact Heap.get?_push_size _ rfl) ?_ fun c o hc e => let ⟨c1, _, c3, c4⟩ := memo hc; k c o c1 c3 c4 e
    refine ⟨k _ _ D.TIz D.TIi1 D.TIi2 st.hTI, (w₁.extBut b₃.extBut D.i12).at fun o e => Heap.get?_push_of_some _ e, w₂.at fun o e => Heap.get?_push_of_some _ e, st.t1.at fun o e => k _ o D.l1z D.l1i1 D.l1i2 e, st.t2.at fun o e => k _ o D.l2z D.l2i1 D.l2i2 e, Or.inr ⟨T, true, oT, ?_, k _ _ r1 r2 r3 hT, r1, r2, r3, r4⟩⟩
    exact Heap.get?_push_of_some _ (b₃.extBut _ _ D.i2z.symm (b₂.extBut _ _ D.i1z.symm z₁))
theorem finZ {A : Around} (hA : A.handled = none) (D : ZipApart z TI TO i1 i2 l1 l2) {xs ys : Array Value} {n : Nat} (hx : xs.size = n) (st : ZTs z TI TO i1 i2 l1 l2 d xs ys n s.heap) {Q : Option Value → Shared → Prop}
    (hQ : ∀ h', (∀ b o, b ∉ [z, TO, i1, i2] → s.heap.get? b = some o → h'.get? b = some o) → Q none { s with heap := h' }) : wpAny (model prog w) A (pyNext (.ref z)) Q E s := by
  have ex : xs[n]? = none := Array.getElem?_eq_none (by omega)
  have memo : ∀ {c : Addr}, c ∉ [z, TO, i1, i2] → c ≠ z ∧ c ≠ TO ∧ c ≠ i1 ∧ c ≠ i2 := by
    intro c hc
    simpa only [List.mem_cons, List.not_mem_nil, or_false, not_or] using hc
  rcases st.zz with ⟨q, a, b, r⟩ | ⟨T, f, oT, q, hT, r1, r2, r3, r4⟩
  · exact pyNext_zipT_end hA D q st.hTI r st.w1 st.w2 st.t1 st.t2 (Or.inl ex) fun h' k => hQ h' fun c o hc e => let ⟨c1, c2, c3, c4⟩ := memo hc; k c o c1 c2 c3 c4 e
  · refine zn_py ⟨_, q, rfl⟩ (zn_two (Q := fun v s' => Q (some v) s') q hT st.hTI fun h₁ z₁ b₁ => ?_)
    refine nextOf_tuple_end (s := { s with heap := h₁ }) (show A.in1.handled = none from hA) (st.w1.extBut b₁.extBut D.i1z) (st.t1.extBut b₁.extBut D.l1z) ex fun h₂ e b₂ ⟨o, ho, hc⟩ => ?_
    exact ⟨e, o, rfl, ho, hc, hQ h₂ fun c o hc e => let ⟨c1, _, c3, c4⟩ := memo hc; b₂ c o c3 (b₁.extBut c o c1 e)⟩
/-- the pairs that were made -/
structure PrMade (xs ys : Array Value) (lo : Nat) (h : Heap) (as : List Addr) : Prop where
  rise : as.Pairwise (· < ·)
  above : ∀ a ∈ as, lo ≤ a
  pairs : ∀ (j : Nat) (a : Addr), as[j]? = some a → ∃ x y, xs[j]? = some x ∧ ys[j]? = some y ∧ h.get? a = some (pairO x y)
theorem PrMade.there {xs ys : Array Value} {lo : Nat} {h : Heap} {as : List Addr} (g : PrMade xs ys lo h as) {a : Addr} (ha : a ∈ as) : a < h.objs.size := by
  obtain ⟨j, hj⟩ := List.mem_iff_getElem?.mp ha
  obtain ⟨_, _, _, _, e⟩ := g.pairs j a hj
  exact Heap.lt_size e
theorem loopZ {A : Around} {R : Result → Shared → Prop} (hh : A.handled = none) (D : ZipApart z TI TO i1 i2 l1 l2) {xs ys : Array Value} {n lo : Nat} (hx : xs.size = n) (hy : ys.size = n) (hn : n ≤ sizeLine)
    (off : d ∉ [z, TI, TO, i1, i2, l1, l2]) (hlo : d < lo ∧ z < lo ∧ TO < lo ∧ i1 < lo ∧ i2 < lo) (res : Value) {h₁ : Heap}
    (hR : ∀ h' tk acc c as, (∀ b o, b ∉ [z, TO, i1, i2] → b ≠ d → h₁.get? b = some o → h'.get? b = some o) → h'.get? d = some { cls := .type "list", dict := none, data := .seq acc c, slots := #[] } → as.length = n → PrMade xs ys lo h' as →
      acc.toList = as.map Value.ref → R (.ok (.ret res)) { s with heap := h', toks := tk }) :
    ∀ (k i : Nat) (h : Heap) (tk c : Nat) (acc : Array Value) (as : List Addr), n - i = k → i ≤ n → ZTs z TI TO i1 i2 l1 l2 d xs ys i h → (∀ b o, b ∉ [z, TO, i1, i2] → b ≠ d → h₁.get? b = some o → h.get? b = some o) →
      h.get? d = some { cls := .type "list", dict := none, data := .seq acc c, slots := #[] } → acc.toList = as.map Value.ref → as.length = i → PrMade xs ys lo h as → lo ≤ h.objs.size →
      codeAny (model prog w) A (.builtin "list.extend.loop" ⟨[.ref d, .ref z, res], []⟩) R { s with heap := h, toks := tk } := by
  simp only [List.mem_cons, List.not_mem_nil, or_false, not_or] at off
  obtain ⟨dz, dTI, dTO, di1, di2, dl1, dl2⟩ := off
  have dw : d ∉ [z, TO, i1, i2] := by
    simp only [List.mem_cons, List.not_mem_nil, or_false, not_or]
    exact ⟨dz, dTO, di1, di2⟩
  have hw : ∀ {a : Addr}, lo ≤ a → a ∉ [z, TO, i1, i2] ∧ a ≠ d := by
    intro a ha
    have h1 : d < lo := hlo.1
    have h2 : z < lo := hlo.2.1
    have h3 : TO < lo := hlo.2.2.1
    have h4 : i1 < lo := hlo.2.2.2.1
    have h5 : i2 < lo := hlo.2.2.2.2
    simp only [List.mem_cons, List.not_mem_nil, or_false, not_or]
    exact ⟨⟨Nat.ne_of_gt (Nat.lt_of_lt_of_le h2 ha), Nat.ne_of_gt (Nat.lt_of_lt_of_le h3 ha), Nat.ne_of_gt (Nat.lt_of_lt_of_le h4 ha), Nat.ne_of_gt (Nat.lt_of_lt_of_le h5 ha)⟩, Nat.ne_of_gt (Nat.lt_of_lt_of_le h1 ha)⟩
  have frame : ∀ i h h', ZTs z TI TO i1 i2 l1 l2 d xs ys i h → (∀ b o, b ≠ d → h.get? b = some o → h'.get? b = some o) → ZTs z TI TO i1 i2 l1 l2 d xs ys i h' := by
    intro i h h' st k
    refine ⟨k _ _ (Ne.symm dTI) st.hTI, st.w1.at fun o e => k _ o (Ne.symm di1) e, st.w2.at fun o e => k _ o (Ne.symm di2) e, st.t1.at fun o e => k _ o (Ne.symm dl1) e, st.t2.at fun o e => k _ o (Ne.symm dl2) e, ?_⟩
    refine st.zz.imp (fun ⟨q, a, b, r⟩ => ⟨k _ _ (Ne.symm dz) q, a, b, k _ _ (Ne.symm dTO) r⟩) ?_
    rintro ⟨T, f, oT, q, hT, r1, r2, r3, r4⟩
    exact ⟨T, f, oT, k _ _ (Ne.symm dz) q, k _ _ r4 hT, r1, r2, r3, r4⟩
  intro k
  induction k with
  | zero =>
    intro i h tk c acc as hk hi hst hkeep hS hacc hal hG hlz
    have ein : i = n := by omega
    subst ein
    refine codeAny_builtin PySem.F.entry_extend_loop ?_
    rw [Around.under_plainId PySem.F.plain_extend_loop _]
    show wpAny _ A.in1 (pyNext (.ref z) >>= _) _ _ _
    refine wpAny_bind (finZ (s := { s with heap := h, toks := tk }) (A := A.in1) hh D hx hst fun h' he => ?_)
    refine wpAny_pure (hR h' tk acc c as (fun b o h1 h2 e => he b o h1 (hkeep b o h1 h2 e)) (he d _ dw hS) hal ⟨hG.rise, hG.above, fun j a hj => ?_⟩ hacc)
    obtain ⟨x, y, e1, e2, e3⟩ := hG.pairs j a hj
    exact ⟨x, y, e1, e2, he a _ (hw (hG.above a (List.mem_of_getElem? hj))).1 e3⟩
  | succ k ih =>
    intro i h tk c acc as hk hi hst hkeep hS hacc hal hG hlz
    have hlt : i < n := by omega
    have hsz : acc.size = i := by rw [← Array.length_toList, hacc, List.length_map, hal]
    refine codeAny_builtin PySem.F.entry_extend_loop ?_
    rw [Around.under_plainId PySem.F.plain_extend_loop _]
    show wpAny _ A.in1 (pyNext (.ref z) >>= _) _ _ _
    refine wpAny_bind (nxtZ (s := { s with heap := h, toks := tk }) D hx hy hlt hst (Heap.lt_size hS) fun h' x y ex ey ht hz hkp => ?_)
    dsimp only at ht hz hkp ⊢
    have hS' := hkp d _ dw hS
    have up : ∀ b o, b ≠ d → h'.get? b = some o → (h'.update d (Obj.mapSeq (·.push (Value.ref h.objs.size)))).get? b = some o := fun b o hb e => (Heap.get?_update_other _ _ (Ne.symm hb)).trans e
    have hSl : d < h.objs.size := Heap.lt_size hS
    have e5 : (h'.update d (Obj.mapSeq (·.push (Value.ref h.objs.size)))).get? h.objs.size = some (pairO x y) := up _ _ (Nat.ne_of_gt hSl) ht
    show wpAny _ A.in1 (updateSeq d (·.push (Value.ref h.objs.size)) >>= _) _ _ _
    refine wpAny_bind ?_
    refine wpAny_updateSeq hS' rfl (wpAny_pure ⟨plainId_quiet PySem.F.plain_extend_loop _, ih (i + 1) _ tk _ (acc.push (Value.ref h.objs.size)) (as ++ [h.objs.size]) (by omega) hlt (frame _ _ _ hz up)
      (fun b o h1 h2 e => up b o h2 (hkp b o h1 (hkeep b o h1 h2 e))) (Heap.get?_update_self _ hS' rfl) (by rw [Array.toList_push, hacc, List.map_append]; rfl) (by rw [List.length_append, hal]; rfl) ⟨?_, ?_, ?_⟩ ?_⟩) (by rw [hsz]; omega) (by show (acc.push (Value.ref h.objs.size)).size ≤ sizeLine + 1; rw [Array.size_push, hsz]; omega)
    · refine List.pairwise_append.mpr ⟨hG.rise, List.pairwise_singleton _ _, fun a ha b hb => ?_⟩
      rw [List.mem_singleton.mp hb]
      exact hG.there ha
    · intro a ha
      rcases List.mem_append.mp ha with ha | ha
      · exact hG.above a ha
      · rw [List.mem_singleton.mp ha]; exact hlz
    · intro j b hj
      rcases Nat.lt_trichotomy j as.length with h1 | h1 | h1
      · rw [List.getElem?_append_left h1] at hj
        obtain ⟨x', y', e1, e2, e3⟩ := hG.pairs j b hj
        have hb := hw (hG.above b (List.mem_of_getElem? hj))
        exact ⟨x', y', e1, e2, up b _ hb.2 (hkp b _ hb.1 e3)⟩
      · subst h1
        have hb : h.objs.size = b := by simpa using hj
        subst hb
        rw [hal]
        exact ⟨x, y, ex, ey, e5⟩
      · have hnone : (as ++ [h.objs.size])[j]? = none := List.getElem?_eq_none (by rw [List.length_append, List.length_singleton]; omega)
        rw [hnone] at hj; cases hj
    · exact Nat.le_of_lt (Nat.lt_of_le_of_lt hlz (Heap.lt_size e5))
end
end KS
namespace KS
open PySem PySem.Spec PyProof.Rows L2 RZ
section
variable {prog : Program} {w : World} {A : Around} {E : Value → Shared → Prop} {s : Shared} {z TI TO i1 i2 l1 l2 d : Addr}
theorem ZTs.there {xs ys : Array Value} {h : Heap} {i : Nat} (st : ZTs z TI TO i1 i2 l1 l2 d xs ys i h) : (∃ o, h.get? z = some o) ∧ (∃ o, h.get? i1 = some o) ∧ ∃ o, h.get? i2 = some o := by
  refine ⟨?_, ?_, ?_⟩
  · rcases st.zz with ⟨q, _⟩ | ⟨T, f, oT, q, _⟩
    · exact ⟨_, q⟩
    · exact ⟨_, q⟩
  · obtain ⟨o, e, _⟩ := st.w1
    exact ⟨o, e⟩
  · obtain ⟨o, e, _⟩ := st.w2
    exact ⟨o, e⟩
theorem ZTs.isZip {xs ys : Array Value} {h : Heap} {i : Nat} (st : ZTs z TI TO i1 i2 l1 l2 d xs ys i h) : ∃ o, h.get? z = some o ∧ o.cls = .type "zip" := by
  rcases st.zz with ⟨q, _⟩ | ⟨T, f, oT, q, _⟩
  · exact ⟨_, q, rfl⟩
  · exact ⟨_, q, rfl⟩
theorem ZTs.frame {xs ys : Array Value} {h h' : Heap} {i : Nat} (off : d ∉ [z, TI, TO, i1, i2, l1, l2]) (st : ZTs z TI TO i1 i2 l1 l2 d xs ys i h) (k : ∀ b o, b ≠ d → h.get? b = some o → h'.get? b = some o) : ZTs z TI TO i1 i2 l1 l2 d xs ys i h' := by
  simp only [List.mem_cons, List.not_mem_nil, or_false, not_or] at off
  obtain ⟨dz, dTI, dTO, di1, di2, dl1, dl2⟩ := off
  refine ⟨k _ _ (Ne.symm dTI) st.hTI, st.w1.at fun o e => k _ o (Ne.symm di1) e, st.w2.at fun o e => k _ o (Ne.symm di2) e, st.t1.at fun o e => k _ o (Ne.symm dl1) e, st.t2.at fun o e => k _ o (Ne.symm dl2) e, ?_⟩
  refine st.zz.imp (fun ⟨q, a, b, r⟩ => ⟨k _ _ (Ne.symm dz) q, a, b, k _ _ (Ne.symm dTO) r⟩) ?_
  rintro ⟨T, f, oT, q, hT, r1, r2, r3, r4⟩
  exact ⟨T, f, oT, k _ _ (Ne.symm dz) q, k _ _ r4 hT, r1, r2, r3, r4⟩
theorem extZ {R : Result → Shared → Prop} (hh : A.handled = none) (D : ZipApart z TI TO i1 i2 l1 l2) {xs ys : Array Value} {n : Nat} (hx : xs.size = n) (hy : ys.size = n) (hn : n ≤ sizeLine)
    (off : d ∉ [z, TI, TO, i1, i2, l1, l2]) (fresh : IsZip s.heap z TI TO .none ∧ ∃ a b, IsPair s.heap TO a b) (st : ZTs z TI TO i1 i2 l1 l2 d xs ys 0 s.heap) (res : Value) (c₀ : Nat) (hS : s.heap.get? d = some { cls := .type "list", data := .seq #[] c₀ })
    (hR : ∀ h' tk acc c as, (∀ b o, b ∉ [z, TO, i1, i2] → b ≠ d → s.heap.get? b = some o → h'.get? b = some o) → h'.get? d = some { cls := .type "list", dict := none, data := .seq acc c, slots := #[] } → as.length = n → PrMade xs ys s.heap.objs.size h' as →
      acc.toList = as.map Value.ref → R (.ok (.ret res)) { s with heap := h', toks := tk }) :
    wpAny (model prog w) A.in1 (Builtin.List.listExtendWith (.ref d) (.ref z) res)
      (fun fin s' => match fin with | .done f => R (.ok f) s' | .again c' => c'.quiet = true ∧ codeAny (model prog w) A c' R s') (fun e s' => R (.error e) s') s := by
  have dz : d ≠ z := fun e => off (by rw [e]; exact List.mem_cons_self ..)
  obtain ⟨oz, hz, hzc⟩ := st.isZip
  obtain ⟨_, ⟨o1, e1⟩, ⟨o2, e2⟩⟩ := st.there
  obtain ⟨a0, b0, hTO⟩ := fresh.2
  have hTy : s.TypeIs (.ref z) "zip" := ⟨oz, hz, hzc⟩
  unfold Builtin.List.listExtendWith
  refine wpAny_bind (wpAny_typeOf hTy ?_)
  have h1 : Builtin.List.listSameRef (.ref d) (.ref z) = false := by simp [Builtin.List.listSameRef, dz]
  have h2 : (Value.type "zip" == Value.type "list") = false := by decide
  have h3 : (Value.type "zip" == Value.type "tuple") = false := by decide
  simp only [h1, h2, h3, Bool.or_false, Bool.false_eq_true, if_false]
  refine wpAny_bind (wpAny_pyIter_zip fresh.1 ?_)
  refine wpAny_bind (wpAny_holding ?_)
  unfold Builtin.List.listLengthHint
  refine wpAny_bind (wpAny_specialOf hTy nolen_zip ?_)
  show wpAny _ A.in1 (specialOf (Value.ref z) (Str.ofString "__length_hint__") >>= _) _ _ _
  refine wpAny_bind (wpAny_specialOf hTy nohint_zip ?_)
  refine wpAny_pure ?_
  show wpAny _ A.in1 (rule "list.extend.makes-room" >>= fun _ => Builtin.List.listTouch (.ref d) >>= fun _ =>
    again (.builtin "list.extend.loop" ⟨[.ref d, .ref z, res], []⟩)) _ _ _
  refine wpAny_bind (wpAny_rule ?_)
  refine wpAny_bind ?_
  show wpAny _ A.in1 (updateSeq d (·.push .none) >>= fun _ => updateSeq d (·.pop)) _ _ _
  refine wpAny_bind (wpAny_updateSeq hS rfl ?_)
  have hS₂ := Heap.get?_update_self (Obj.mapSeq (·.push Value.none)) hS rfl
  refine wpAny_updateSeq (hz := by seq_fits) hS₂ rfl ?_
  have hS₃ := Heap.get?_update_self (Obj.mapSeq (·.pop)) hS₂ rfl
  have oth : ∀ b o, b ≠ d → s.heap.get? b = some o → ((s.heap.update d (Obj.mapSeq (·.push Value.none))).update d (Obj.mapSeq (·.pop))).get? b = some o :=
    fun b o hb e => (Heap.get?_update_other _ _ (Ne.symm hb)).trans ((Heap.get?_update_other _ _ (Ne.symm hb)).trans e)
  have szu : ((s.heap.update d (Obj.mapSeq (·.push Value.none))).update d (Obj.mapSeq (·.pop))).objs.size = s.heap.objs.size := by simp
  refine wpAny_pure ⟨plainId_quiet PySem.F.plain_extend_loop _, loopZ (s := s) (h₁ := s.heap) (lo := s.heap.objs.size) hh D hx hy hn off ⟨Heap.lt_size hS, Heap.lt_size hz, Heap.lt_size hTO, Heap.lt_size e1, Heap.lt_size e2⟩ res
    (fun h' tk acc c as k1 k2 k3 k4 k5 => hR h' tk acc c as k1 k2 k3 k4 k5) n 0 _ _ _ #[] [] (Nat.sub_zero _) (Nat.zero_le _) (st.frame off oth) (fun b o _ hb e => oth b o hb e) hS₃ rfl rfl
    ⟨List.Pairwise.nil, (fun _ ha => nomatch ha), (fun j a hj => by simp at hj)⟩ (by rw [szu]; exact Nat.le_refl _)⟩
theorem initZ {R : Result → Shared → Prop} (hh : A.handled = none) (D : ZipApart z TI TO i1 i2 l1 l2) {xs ys : Array Value} {n : Nat} (hx : xs.size = n) (hy : ys.size = n) (hn : n ≤ sizeLine)
    (off : d ∉ [z, TI, TO, i1, i2, l1, l2]) (fresh : IsZip s.heap z TI TO .none ∧ ∃ a b, IsPair s.heap TO a b) (st : ZTs z TI TO i1 i2 l1 l2 d xs ys 0 s.heap) (hS : s.heap.get? d = some { cls := .type "list", data := .seq #[] })
    (hR : ∀ h' tk acc c as, (∀ b o, b ∉ [z, TO, i1, i2] → b ≠ d → s.heap.get? b = some o → h'.get? b = some o) → h'.get? d = some { cls := .type "list", dict := none, data := .seq acc c, slots := #[] } → as.length = n → PrMade xs ys s.heap.objs.size h' as →
      acc.toList = as.map Value.ref → R (.ok (.ret .none)) { s with heap := h', toks := tk }) :
    wpAny (model prog w) A.in1 (Builtin.«list.__init__» ⟨[.ref d, .ref z], []⟩)
      (fun fin s' => match fin with | .done f => R (.ok f) s' | .again c' => c'.quiet = true ∧ codeAny (model prog w) A c' R s') (fun e s' => R (.error e) s') s := by
  show wpAny _ A.in1 (do let old ← Builtin.List.listItems (.ref d); Builtin.List.listUpdate (.ref d) (fun _ => #[]); letGo old.toList.reverse; Builtin.List.listExtendWith (.ref d) (.ref z) .none) _ _ s
  refine wpAny_bind ?_
  unfold Builtin.List.listItems
  refine wpAny_bind (wpAny_seqItems hS rfl (wpAny_pure ?_))
  show wpAny _ A.in1 (updateSeq d (fun _ => #[]) >>= fun _ => letGo (#[] : Array Value).toList.reverse >>= fun _ => Builtin.List.listExtendWith (.ref d) (.ref z) .none) _ _ s
  refine wpAny_bind (wpAny_updateSeq hS rfl ?_)
  have hS₂ := Heap.get?_update_self (Obj.mapSeq (fun _ => (#[] : Array Value))) hS rfl
  have oth : ∀ b o, b ≠ d → s.heap.get? b = some o → (s.heap.update d (Obj.mapSeq (fun _ => (#[] : Array Value)))).get? b = some o :=
    fun b o hb e => (Heap.get?_update_other _ _ (Ne.symm hb)).trans e
  have szu : (s.heap.update d (Obj.mapSeq (fun _ => (#[] : Array Value)))).objs.size = s.heap.objs.size := by simp
  refine wpAny_bind (wpAny_letGo ?_)
  have dn := off
  simp only [List.mem_cons, List.not_mem_nil, or_false, not_or] at dn
  obtain ⟨dz, dTI, dTO, di1, di2, dl1, dl2⟩ := dn
  refine extZ (s := { s with heap := s.heap.update d (Obj.mapSeq (fun _ => (#[] : Array Value))) }) hh D hx hy hn off ?_ (st.frame off oth) .none _ hS₂ fun h' tk acc c as k1 k2 k3 k4 k5 => ?_
  · obtain ⟨q, a, b, r⟩ := fresh
    exact ⟨oth _ _ (Ne.symm dz) q, a, b, oth _ _ (Ne.symm dTO) r⟩
  · refine hR h' tk acc c as (fun b o h1 h2 e => k1 b o h1 h2 (oth b o h2 e)) k2 k3 ?_ k5
    have e : PrMade xs ys (s.heap.update d (Obj.mapSeq (fun _ => (#[] : Array Value)))).objs.size h' as := k4
    rw [szu] at e
    exact e
theorem call_listZ {Q : Value → Shared → Prop} (hh : A.handled = none) (D : ZipApart z TI TO i1 i2 l1 l2) {xs ys : Array Value} {n : Nat} (hx : xs.size = n) (hy : ys.size = n) (hn : n ≤ sizeLine)
    (lt : z < s.heap.objs.size ∧ TI < s.heap.objs.size ∧ TO < s.heap.objs.size ∧ i1 < s.heap.objs.size ∧ i2 < s.heap.objs.size ∧ l1 < s.heap.objs.size ∧ l2 < s.heap.objs.size)
    (fresh : IsZip s.heap z TI TO .none ∧ ∃ a b, IsPair s.heap TO a b) (hTI : IsPair s.heap TI (.ref i1) (.ref i2)) (w1 : s.heap.IsTupleIter i1 l1 0) (w2 : s.heap.IsTupleIter i2 l2 0) (t1 : s.heap.IsTuple l1 xs) (t2 : s.heap.IsTuple l2 ys)
    (hQ : ∀ h' tk acc c as, (∀ b o, b ∉ [z, TO, i1, i2] → s.heap.get? b = some o → h'.get? b = some o) → h'.get? s.heap.objs.size = some { cls := .type "list", dict := none, data := .seq acc c, slots := #[] } → as.length = n → PrMade xs ys (s.heap.objs.size + 1) h' as →
      acc.toList = as.map Value.ref → Q (.ref s.heap.objs.size) { s with heap := h', toks := tk }) : wpAny (model prog w) A (call (.type "list") [.ref z]) Q E s := by
  obtain ⟨g1, g2, g3, g4, g5, g6, g7⟩ := lt
  have off : s.heap.objs.size ∉ [z, TI, TO, i1, i2, l1, l2] := by
    simp only [List.mem_cons, List.not_mem_nil, or_false, not_or]
    exact ⟨Nat.ne_of_gt g1, Nat.ne_of_gt g2, Nat.ne_of_gt g3, Nat.ne_of_gt g4, Nat.ne_of_gt g5, Nat.ne_of_gt g6, Nat.ne_of_gt g7⟩
  have hk : ∀ b o, s.heap.get? b = some o → (s.heap.push { cls := .type "list", data := .seq #[] }).get? b = some o := fun b o e => Heap.get?_push_of_some _ e
  have fr : IsZip (s.heap.push { cls := .type "list", data := .seq #[] }) z TI TO .none ∧ ∃ a b, IsPair (s.heap.push { cls := .type "list", data := .seq #[] }) TO a b := by
    obtain ⟨q, a, b, r⟩ := fresh
    exact ⟨hk _ _ q, a, b, hk _ _ r⟩
  refine callType_codes (Q₁ := fun obj s₁ => obj = .ref s.heap.objs.size ∧ s₁ = { s with heap := s.heap.push { cls := .type "list", data := .seq #[] } }) PySem.F.called_list (PySem.F.typeCall_list_1 _) PySem.F.entry_list_init
    (code_list_new _ ⟨rfl, rfl⟩) fun obj s₁ h₁ => ?_
  obtain ⟨rfl, rfl⟩ := h₁
  have hS : (s.heap.push { cls := .type "list", data := .seq #[] }).get? s.heap.objs.size = some { cls := .type "list", data := .seq #[] } := Heap.get?_push_size _ rfl
  refine ⟨⟨_, hS, rfl⟩, PySem.F.args_list_init_2 _ _, initZ (s := { s with heap := s.heap.push { cls := .type "list", data := .seq #[] } }) (d := s.heap.objs.size) hh D hx hy hn off fr
    ⟨hk _ _ hTI, w1.at fun o e => hk _ o e, w2.at fun o e => hk _ o e, t1.at fun o e => hk _ o e, t2.at fun o e => hk _ o e, .inl fr⟩ hS fun h' tk acc c as k1 k2 k3 k4 k5 => ?_⟩
  refine ⟨rfl, hQ h' tk acc c as (fun b o h1 e => k1 b o h1 (Nat.ne_of_lt (Heap.lt_size e)) (hk b o e)) k2 k3 ?_ k5⟩
  have e : PrMade xs ys (s.heap.push { cls := .type "list", data := .seq #[] }).objs.size h' as := k4
  rw [Heap.size_push] at e
  exact e
end
end KS
namespace KS
open PySem PySem.Spec PyProof.Rows L2 RZ
def tListZip (K : PySem.W.Frag) (t : TA) : TE := fun σ H Q => t σ H fun vs H1 => ∃ (a b : Addr) (xs ys : List V), vs = [.ref a, .ref b] ∧ SqT K H1 a xs ∧ SqT K H1 b ys ∧ xs.length = ys.length ∧
  ∀ H2 (as : List Addr) D, Same H1 H2 → as.length = xs.length → (∀ p ∈ as, H1 p = none) → as.Nodup → (∀ (j : Nat) (p : Addr) (x y : V), as[j]? = some p → xs[j]? = some x → ys[j]? = some y → H2 p = some (.tup [x, y])) → H2 D = some (.lst (as.map V.ref)) → H1 D = none → Q (.ref D) H2
theorem vals_refs : ∀ as : List Addr, Vals (as.map V.ref) (as.map Value.ref)
  | [] => .nil
  | a :: as => .cons rfl (vals_refs as)
section
variable {X : Cx}
theorem pe_listZip {ea eb : Expr} {t : TA} {p1 p2 pos zpos : Pos} (hc : X.calm = true) (gd : Gl X "list") (md : X.mg "list" = none) (gz : Gl X "zip") (mz : X.mg "zip" = none) (ha : PA X [ea, eb] t)
    (hs : starEach [ea, eb] X.env = (false, eval ea X.env) :: starEach [eb] X.env := by rfl) (hpl : (backTo zpos (starEach [eb] X.env)).any (·.1) = false := by rfl)
    (hs' : starEach [.Call (.Name "zip" p2) [ea, eb] [] zpos] X.env = (false, eval (.Call (.Name "zip" p2) [ea, eb] [] zpos) X.env) :: [] := by rfl) :
    PE X (.Call (.Name "list" p1) [.Call (.Name "zip" p2) [ea, eb] [] zpos] [] pos) (tListZip X.K t) := by
  refine ⟨fun pins s σ H Q I h => ?_⟩
  refine wpAny_Call_Name_kw (ld_blt I gd md (show bootBuiltins "list" = some (.type "list") by decide +kernel) ?_ (by decide) (by decide))
  refine PyProof.Rows.callWith_type1 (T := "list") ?_ hs' rfl
  rw [hs']
  refine Calls.spliced_cons (?_ : wpAny _ _ (eval (.Call (.Name "zip" p2) [ea, eb] [] zpos) X.env) _ _ _)
  refine wpAny_Call_Name_kw (ld_blt I gz mz PyProof.Rows.boot_zip ?_ (by decide) (by decide))
  refine PyProof.Rows.callWith_type1 (thn (ha.run zpos pins s σ H _ I h) fun us s1 came => ?_) hs hpl
  obtain ⟨vs, H1, I1, r1, a, b, xs, ys, rfl, qa, qb, len, q⟩ := came
  obtain ⟨u1, u2, rfl, ru1, ru2⟩ : ∃ u1 u2, us = [u1, u2] ∧ RelV (.ref a) u1 ∧ RelV (.ref b) u2 := by
    cases r1 with
    | cons r rr =>
      cases rr with
      | cons r' rr =>
        cases rr
        exact ⟨_, _, rfl, r, r'⟩
  cases ru1
  cases ru2
  obtain ⟨its, rv, ta, small⟩ := I1.tuple qa
  obtain ⟨jts, rw', tb, _⟩ := I1.tuple qb
  have li := rv.length
  have lj := rw'.length
  obtain ⟨oa, ga, _⟩ := id ta
  obtain ⟨ob, gb, _⟩ := id tb
  have la := Heap.lt_size ga
  have lb := Heap.lt_size gb
  have D := PySem.W.ktu_apart s1.heap.objs.size a b la lb
  refine call_zipT (show s1.heap.IsTuple a its.toArray from ta) (show s1.heap.IsTuple b jts.toArray from tb) fun h' hz hTI hTO w1 w2 hsz hk => Calls.spliced_nil ?_
  refine call_listZ (s := { s1 with heap := h' }) (n := xs.length) (I.ok.hd hc) D (xs := its.toArray) (ys := jts.toArray) (by rw [List.size_toArray]; exact li.symm) (by rw [List.size_toArray]; omega) small
    ⟨by show _ < h'.objs.size; omega, by show _ < h'.objs.size; omega, by show _ < h'.objs.size; omega, by show _ < h'.objs.size; omega, by show _ < h'.objs.size; omega, by show _ < h'.objs.size; rw [hsz]; exact Nat.lt_of_lt_of_le la (Nat.le_add_right _ _), by show _ < h'.objs.size; rw [hsz]; exact Nat.lt_of_lt_of_le lb (Nat.le_add_right _ _)⟩
    ⟨hz, _, _, hTO⟩ hTI w1 w2 (Heap.IsTuple.at ta fun o e => hk _ o e) (Heap.IsTuple.at tb fun o e => hk _ o e) fun h'' tk acc c as k1 k2 k3 k4 k5 => ?_
  have kept : ∀ b o, s1.heap.get? b = some o → h''.get? b = some o := by
    intro b o e
    have lt := Heap.lt_size e
    refine k1 b o ?_ (hk b o e)
    simp only [List.mem_cons, List.not_mem_nil, or_false, not_or]
    have apart : ∀ j : Nat, b ≠ s1.heap.objs.size + j := fun j => Nat.ne_of_lt (Nat.lt_of_lt_of_le lt (Nat.le_add_right _ _))
    exact ⟨apart 4, apart 3, apart 0, apart 1⟩
  have I2 : Inv X pins σ H1 { s1 with heap := h'', toks := tk } := I1.kept (t' := tk) kept
  have nd : as.Nodup := List.Pairwise.imp (fun h => Nat.ne_of_lt h) k4.rise
  have ab : ∀ p ∈ as, s1.heap.objs.size ≤ p := fun p hp => by
    have := k4.above p hp
    have e : ({ s1 with heap := h' } : Shared).heap.objs.size = s1.heap.objs.size + 5 := hsz
    rw [e] at this
    exact Nat.le_trans (by omega) this
  have fr : ∀ p ∈ as, H1 p = none := fun p hp => I1.hok.fresh (ab p hp)
  have dz : s1.heap.objs.size ≤ h'.objs.size := by rw [hsz]; exact Nat.le_add_right _ _
  have dn : H1 h'.objs.size = none := I1.hok.fresh dz
  have dna : h'.objs.size ∉ as := fun hp => absurd (k4.above _ hp) (Nat.not_le_of_gt (Nat.lt_succ_self _))
  have acl : acc = (as.map Value.ref).toArray := by rw [← k5]
  subst acl
  have I4 : Inv X pins σ (upd H1 h'.objs.size (.lst (as.map V.ref))) { s1 with heap := h'', toks := tk } := I2.take (h' := h'') (t' := tk) (fun b ob _ e => e) (I1.fpOk dz dn) ⟨by rw [List.length_map, k3]; exact small, _, c, vals_refs as, k2⟩
  obtain ⟨H2, I3, keepH, got⟩ := L2.DX.takeT (P := fun p vs => ∃ (j : Nat) (x y : V), as[j]? = some p ∧ xs[j]? = some x ∧ ys[j]? = some y ∧ vs = [x, y]) I1 as (upd H1 h'.objs.size (.lst (as.map V.ref))) I4 nd fun p hp => by
    have np : p ≠ h'.objs.size := fun e => dna (by rw [← e]; exact hp)
    refine ⟨ab p hp, by rw [upd_ne np]; exact fr p hp, ?_⟩
    obtain ⟨j, hj⟩ := List.mem_iff_getElem?.mp hp
    obtain ⟨u, v, eu, ev, g⟩ := k4.pairs j p hj
    have eu : its[j]? = some u := by simpa using eu
    have ev : jts[j]? = some v := by simpa using ev
    have jl : j < xs.length := by
      rw [li]
      exact (List.getElem?_eq_some_iff.mp eu).1
    have ex := List.getElem?_eq_getElem jl
    have ey := List.getElem?_eq_getElem (show j < ys.length by omega)
    obtain ⟨u', eu', r1⟩ := rv.get ex
    obtain ⟨v', ev', r2⟩ := rw'.get ey
    rw [eu] at eu'
    rw [ev] at ev'
    cases eu'
    cases ev'
    exact ⟨_, ⟨j, _, _, hj, ex, ey, rfl⟩, fun H2 => ⟨by show 2 ≤ sizeLine; decide, [u, v], .cons r1 (.cons r2 .nil), ⟨pairO u v, g, rfl, 0, rfl⟩⟩⟩
  have sm : Same H1 H2 := fun b o e => keepH b o (by
    rw [upd_ne (ne_of_none e dn)]
    exact e)
  refine ⟨.ref h'.objs.size, _, I3, rfl, q _ as h'.objs.size sm k3 fr nd (fun j p x y hj hx hy => ?_) (keepH _ _ upd_same) dn⟩
  have hp := List.mem_of_getElem? hj
  obtain ⟨vs, ⟨j', x', y', ej, ex, ey, rfl⟩, g⟩ := got p hp
  have ejj : j' = j := by
    obtain ⟨l1, z1⟩ := List.getElem?_eq_some_iff.mp ej
    obtain ⟨l2, z2⟩ := List.getElem?_eq_some_iff.mp hj
    exact (List.getElem_inj nd).mp (z1.trans z2.symm)
  subst ejj
  rw [hx] at ex
  rw [hy] at ey
  cases ex
  cases ey
  exact g
end
end KS
/-! dict(l), l a list of pairs whose first parts are tuples -/
namespace KS
open PySem PySem.Spec PyProof.Rows L2 RZ
def rDictLT (K : PySem.W.Frag) : List V → Hp → VK → Prop := fun xs H Q => ∃ (a : Addr) (ts : List Addr) (pys : List (Addr × V)) (ks : List (List L2.Key)), xs = [.ref a] ∧ SqL K H a (ts.map V.ref) ∧ Paired (fun t py => SqT K H t [.ref py.1, py.2]) ts pys ∧
  Paired (fun (p : Addr) (k : List L2.Key) => H p = some (.tup (k.map kV))) (pys.map (·.1)) ks ∧ ∀ D, H D = none → Q (.ref D) (upd H D (.dT (mergeT [] (ks.zip (pys.map (·.2))))))
section
variable {X : Cx} {pins : List (Addr × Obj)} {σ : L2.St} {H : Hp} {s : Shared}
theorem lt_vals (I : Inv X pins σ H s) : ∀ {ts : List Addr} {pys : List (Addr × V)}, Paired (fun t py => SqT X.K H t [.ref py.1, py.2]) ts pys → ∃ us : List Value, Paired RelV (pys.map (·.2)) us ∧
    ∀ (j : Nat) (t : Addr), ts[j]? = some t → ∃ p u, (pys.map (·.1))[j]? = some p ∧ us[j]? = some u ∧ s.heap.IsTuple t #[.ref p, u]
  | _, _, .nil => ⟨[], .nil, fun j t h => by cases h⟩
  | _, _, @Paired.cons _ _ _ t0 py ts0 pys0 h r => by
    obtain ⟨us, h1, h2⟩ := lt_vals I r
    obtain ⟨its, rv, tp, _⟩ := I.tuple h
    obtain ⟨u1, u2, rfl, r1, r2⟩ := vals2 rv
    cases (show u1 = Value.ref py.1 from r1)
    refine ⟨u2 :: us, .cons r2 h1, fun j t e => ?_⟩
    cases j with
    | zero =>
      cases e
      exact ⟨py.1, u2, rfl, rfl, tp⟩
    | succ j => exact h2 j t e
theorem cr_dictLT (hu : X.A.units + 64 < cLine) (hcalm : X.calm = true) : CallR X (.type "dict") (rDictLT X.K) := by
  intro pins s σ H xs us0 Q I r h
  obtain ⟨a, ts, pys, ks, rfl, hq, hp, pk, q⟩ := h
  obtain ⟨u, rfl, rx⟩ := vals1 r
  cases rx
  obtain ⟨its, rv, pl, hz⟩ := I.list hq
  have ei := refs_arr rv
  subst ei
  rw [List.length_map] at hz
  obtain ⟨us, r1, r2⟩ := lt_vals I hp
  have hl := Paired.length hp
  have hul := Paired.length r1
  rw [List.length_map] at hul
  have tp := Trip.of (H := H) pk r1 (by rw [List.length_map, List.length_map])
  obtain ⟨l1, l2, l3⟩ := tp.len
  rw [List.length_map] at l1 l2 l3
  have key : ∀ x ∈ tri (pys.map (·.1)) ks us, (tupleKind (mixKind X.prog X.w)).is s.heap x.1 x.2.1 := fun x hx => key_of I.hok (tp.mem x hx)
  have zl : (((pys.map (·.1)).map Value.ref).zip us).length = pys.length := by
    rw [List.length_zip, List.length_map, List.length_map, ← hul, Nat.min_self]
  refine call_dict_pairsH (knd := tupleKind (mixKind X.prog X.w)) (ps := tri (pys.map (·.1)) ks us)
    (PairArg.list (prog := X.prog) (w := X.w) a (ts.map Value.ref).toArray (fun j => ts.getD j 0) (((pys.map (·.1)).map Value.ref).zip us)) (I.ok.hd hcalm) (show X.A.units + 1 + 1 < cLine by omega) ⟨pl, ?_, ?_⟩ ⟨by rw [l1, zl], ?_⟩ ?_ (by rw [zl, ← hl]; exact hz) ?_
  · rw [zl, List.size_toArray, List.length_map, hl]
  · intro j k v e
    obtain ⟨e1, e2⟩ := List.getElem?_zip_eq_some.mp e
    have jl : j < ts.length := by
      have := (List.getElem?_eq_some_iff.mp e2).1
      omega
    have et : ts[j]? = some ts[j] := List.getElem?_eq_getElem jl
    have eg : ts.getD j 0 = ts[j] := by rw [List.getD_eq_getElem?_getD, et]; rfl
    obtain ⟨p, u, f1, f2, f3⟩ := r2 j _ et
    rw [List.getElem?_map, f1] at e1
    cases e1
    rw [f2] at e2
    cases e2
    show _ = some (Value.ref (ts.getD j 0)) ∧ PairAt s.heap (ts.getD j 0) _ _
    rw [eg]
    refine ⟨?_, .inl f3⟩
    show (ts.map Value.ref).toArray[j]? = _
    rw [List.getElem?_toArray, List.getElem?_map, et]
    rfl
  · intro i k v e
    obtain ⟨e1, e2⟩ := List.getElem?_zip_eq_some.mp e
    rw [List.getElem?_map] at e1
    obtain ⟨p, ep, rfl⟩ := Option.map_eq_some_iff.mp e1
    obtain ⟨kk, ek⟩ := tp.at ep e2
    exact ⟨kk, p, ek, rfl⟩
  · intro h' keep x hx
    obtain ⟨o, its, n, g, rest⟩ := key x hx
    exact ⟨o, its, n, keep _ _ (Nat.ne_of_lt (Heap.lt_size g)) (by simp) g, rest⟩
  · intro h' tk dd keep
    have keep : ∀ b o, s.heap.get? b = some o → h'.get? b = some o := fun b o e => keep b o (by simp) e
    have none' : H s.heap.objs.size = none := I.hok.fresh (Nat.le_refl _)
    have few : (mergeT [] (ks.zip (pys.map (·.2)))).length ≤ sizeLine := by
      have := mergeT_len (ks.zip (pys.map (·.2))) []
      rw [l3, ← hl] at this
      simp only [List.length_nil, Nat.zero_add] at this
      exact Nat.le_trans this hz
    obtain ⟨oo, es, ep, hq, c2, c3, c4, _, c5⟩ := dd
    refine ⟨.ref s.heap.objs.size, upd H s.heap.objs.size (.dT (mergeT [] (ks.zip (pys.map (·.2))))), ?_, rfl, q _ none'⟩
    refine I.laid (t' := tk) keep (Nat.le_refl _) ⟨few, beq_eq_false_iff_ne.mpr (Nat.ne_of_gt I.big), _, (tp.kt .nil).keeps (fun c zs ec => ?_), oo, es, ep, hq, c2, c3, c4, c5⟩
    rw [upd_ne (ne_of_none ec none')]
    exact ec
end
end KS
namespace KS
open PySem PySem.Spec PyProof.Rows L2 RZ TL
/-! ### the promises -/
/-! ### the open levels -/
end KS
namespace KS
open PySem PySem.Spec PyProof.Rows L2 RZ TL
end KS
namespace KS
open PySem PySem.Spec PyProof.Rows L2 RZ TL
/-- str of a number or of a text -/
def rStrIS : List V → Hp → VK → Prop := fun xs H Q => (∃ i : Int, xs = [.int i] ∧ i.natAbs.log2 < 1920 ∧ Q (.str (toString i)) H) ∨ ∃ a : Str, xs = [.str a] ∧ Q (.str a) H
theorem call_strIS {X : Cx} : CallR X (.type "str") rStrIS := by
  intro pins s σ H xs us Q I r h
  rcases h with h | h
  · exact call_str_int pins s σ H xs us Q I r h
  · exact SkE.call_str_str pins s σ H xs us Q I r h
def spPage (K : PySem.W.Frag) : Sp := fun xs H Q _ => ∃ (a t : Addr) (cs : List Cell) (vs : List Int), xs = [.ref a, .ref t] ∧ PlanT K H a cs ∧ Good cs ∧ cs.length ≤ 24 ∧ SqT K H t (vs.map V.int) ∧ Vals9 cs.length vs ∧ ∀ H', Same H H' → Q (.str (page cs vs)) H'
theorem cells_refs {H : Hp} : ∀ {xs : List V} {cs : List Cell}, CellsT H xs cs → ∃ ps : List Addr, xs = ps.map V.ref ∧ Paired (fun (p : Addr) (k : List L2.Key) => H p = some (.tup (k.map kV))) ps (cs.map keyC) ∧ ps.length = cs.length
  | _, _, .nil => ⟨[], rfl, .nil, rfl⟩
  | _, _, .cons ⟨t, e, h⟩ r => by
    obtain ⟨ps, e1, e2, e3⟩ := cells_refs r
    subst e
    subst e1
    exact ⟨t :: ps, rfl, .cons h e2, congrArg (· + 1) e3⟩
theorem atI_last {xs : List V} {x : V} (h : xs.getLast? = some x) : atI xs (-1) = some x := by
  obtain ⟨ys, rfl⟩ := List.getLast?_eq_some_iff.mp h
  have hl : (ys ++ [x]).length = ys.length + 1 := by rw [List.length_append]; rfl
  unfold atI
  have e : ixN (ys ++ [x]).length (-1) = some ys.length := by
    unfold ixN
    rw [if_neg (by decide), hl]
    rw [if_pos (by omega)]
    congr 1
    omega
  rw [e]
  show (ys ++ [x])[ys.length]? = some x
  rw [List.getElem?_append_right (Nat.le_refl _), Nat.sub_self]
  rfl
theorem dict_all {cs : List Cell} {vs : List Int} (gd : Good cs) : DictT V.int (cs.zip vs) (mergeT [] ((cs.map keyC).zip (vs.map V.int))) := by
  have := dictT_merge (f := V.int) cs vs [] [] DictT.nil (nodup_of_asc gd.asc) (fun z hz => nomatch hz)
  rw [List.nil_append] at this
  exact this
end KS
/-! the law's written table -/
namespace KS
open PySem PySem.Spec PyProof.Rows L2 RZ TL
abbrev sLWrt : Stmt := topS 82
abbrev nLWrt : List Str := ["_law_spots", "_law_some_here", "_law_high", "_law_wide", "_law_found", "_law_by", "_law_row_here", "_law_spot", "_law_side"]
theorem scLWrt : FnScope nLWrt ["_law_spots", "_law_some_here"] (defScope sLWrt) := ⟨rfl, rfl, rfl, by decide +kernel, rfl, by decide +kernel, by decide +kernel⟩
theorem paired_ofE {α β : Type} {R : α → β → Prop} : ∀ {l : List α} {m : List β}, l.length = m.length → (∀ (j : Nat) (x : α) (y : β), l[j]? = some x → m[j]? = some y → R x y) → Paired R l m
  | [], [], _, _ => .nil
  | x :: l, y :: m, h, k => .cons (k 0 x y rfl rfl) (paired_ofE (Nat.succ.inj h) fun j a b e1 e2 => k (j + 1) a b e1 e2)
  | [], _ :: _, h, _ => by cases h
  | _ :: _, [], h, _ => by cases h
section
variable {P : Program} {w : World} {K : PySem.W.Frag} {mg : Str → Option Value} {base : Heap}
theorem ok_lwrt {f : Addr} {fd : FuncData} (F : Fun K "_law_written" "_law_written" sLWrt f fd) (mD : mg "dict" = none) (mL : mg "list" = none) (mz : mg "zip" = none) (mx : mg "max" = none) (mr : mg "range" = none) (mS : mg "str" = none) :
    FnOk P w K mg base CX0 1 f fd ["_law_spots", "_law_some_here"] (spPage K) := by
  refine F.ok scLWrt (fun vs H Q E h => ?_) (fun cdv A outer s H vs Q E hr h => ?_)
  · obtain ⟨a, t, cs, vs, rfl, _⟩ := h
    rfl
  · obtain ⟨a, t, cs, vs, rfl, hp, gd, h24, ht, v9, q⟩ := h
    have nd := scLWrt.nd
    refine ⟨_, pss_cons (ps_par (i := 2) (j := 3) (by rfl) nd rfl rfl (by decide) rfl rfl
        (pa_cons (pe_op op_add (pe_callB (id := "max") (r := rMax K) (cr_maxK rfl rfl) (by rfl) mx (by decide +kernel) (pa_cons
          (pe_lc (own := [("_law_spot", 7)]) (g := gName 7) (tt := tYes) rfl nd (pi_tup (pv 0)) (blkOk_by (N := nLWrt) (sc := defScope sLWrt) (by decide +kernel))
            (fun _ _ _ _ _ => pg_name (i := 7) nd rfl (Or.inl rfl)) (fun _ _ _ _ _ => pts_nil)
            (fun _ _ _ _ _ => pe_ix (r := rIxT K) ix_tup (pv 7) pe_int (fun _ _ => rfl))) pa_nil)) pe_int)
        (pa_cons (pe_op op_add (pe_callB (id := "max") (r := rMax K) (cr_maxK rfl rfl) (by rfl) mx (by decide +kernel) (pa_cons
          (pe_lc (own := [("_law_spot", 7)]) (g := gName 7) (tt := tYes) rfl nd (pi_tup (pv 0)) (blkOk_by (N := nLWrt) (sc := defScope sLWrt) (by decide +kernel))
            (fun _ _ _ _ _ => pg_name (i := 7) nd rfl (Or.inl rfl)) (fun _ _ _ _ _ => pts_nil)
            (fun _ _ _ _ _ => pe_ix (r := rIxT K) ix_tup (pv 7) pe_int (fun _ _ => rfl))) pa_nil)) pe_int) pa_nil)) (by rfl))
      (pss_cons (ps_asg (pe_tup (pa_cons (pe_lst pa_nil) (pa_cons (pe_callTy (cr_dictLT hr.units rfl) (by rfl) mD (by decide +kernel) (pa_cons (pe_listZip rfl (by rfl) mL (by rfl) mz (pa_cons (pv 0) (pa_cons (pv 1) pa_nil))) pa_nil)) pa_nil))) (pg_tup (by rfl) (pgs_cons (pg_name (i := 4) nd rfl (.inl rfl)) (pgs_cons (pg_name (i := 5) nd rfl (.inr rfl)) pgs_nil))))
      (pss_cons (ps_for PassesOwn.never rfl (pi_range1 (by rfl) mr (pa_cons (pv 2) pa_nil)) (pg_name (i := 6) nd rfl (.inr rfl))
        (pss_one (ps_expr (pe_bm PySem.F.plainAttrs_list PySem.F.slot_list_append PySem.F.type_list_append mt_append (pv 4) (pa_cons
          (pe_m1 PySem.F.slot_str_join PySem.F.type_str_join mt_join pe_str
            (pe_lc (own := [("_law_side", 8)]) (g := gName 8) (tt := tYes) rfl nd (pi_range1 (by rfl) mr (pa_cons (pv 3) pa_nil)) (blkOk_by (N := nLWrt) (sc := defScope sLWrt) (by decide +kernel))
              (fun _ _ _ _ _ => pg_name (i := 8) nd rfl (Or.inl rfl)) (fun _ _ _ _ _ => pts_nil)
              (fun _ _ _ _ _ => pe_callTy call_strIS (by rfl) mS (by decide +kernel) (pa_cons (pe_dget2 (Nat.lt_of_le_of_lt (Nat.add_le_add_left (by decide) _) hr.units) (pv 5) (pe_tup (pa_cons (pv 6) (pa_cons (pv 8) pa_nil))) pe_str ⟨rfl, rfl, rfl, rfl⟩) pa_nil)))) pa_nil)))))
      (pss_one (ps_ret (pe_m1 PySem.F.slot_str_join PySem.F.type_str_join mt_join pe_str (pv 4)))))), ?_⟩
    obtain ⟨xs, hx, hc⟩ := hp
    have hxl : xs.length = cs.length := Paired.length hc
    have hvl := v9.len
    have zl : (cs.zip vs).length = cs.length := by rw [List.length_zip, hvl, Nat.min_self]
    have hw := wiN_le gd
    have hh := hiN_le gd
    obtain ⟨ps, ex, pk, pl⟩ := cells_refs hc
    have dt := dict_all (vs := vs) gd
    refine ⟨_, rfl, a, rfl, ⟨_, hx⟩, fun D1 nD1 => ?_⟩
    refine lc_tup (K := K) (a := a) (xs := xs) (fun j G' => G' D1 = some (.lst (((cs.take j).map (·.1)).map V.int)) ∧ (∀ b o, b ≠ D1 → H b = some o → G' b = some o)) ?_ ?_ ?_ ?_
    · exact ⟨upd_same, fun b o n e => by rw [upd_ne n]; exact e⟩
    · rintro j G' _ ⟨b1, b2⟩
      exact same_seqT (fun b o e => b2 b o (ne_of_none e nD1) e) hx
    · rintro j x G' hj ⟨b1, b2⟩
      have sG' : Same H G' := fun b o e => b2 b o (ne_of_none e nD1) e
      obtain ⟨c, ec, b, rfl, hb⟩ := paired_get hc hj
      have jl := (List.getElem?_eq_some_iff.mp ec).1
      refine ⟨rfl, _, rfl, b, _, 0, .int c.1, rfl, rfl, SqT.of (sG' _ _ hb), rfl, ?_⟩
      refine ⟨_, b1, ?_, ?_, fun b o n e => ?_⟩
      · rw [List.length_map, List.length_map, List.length_take]
        exact small64 (by omega)
      · rw [upd_same, List.take_add_one, ec, List.map_append, List.map_append]
        rfl
      · rw [upd_ne n]
        exact b2 b o n e
    rintro G1 ⟨b1, b2⟩
    have sG1 : Same H G1 := fun b o e => b2 b o (ne_of_none e nD1) e
    rw [hxl, List.take_length] at b1
    refine ⟨D1, cs.map (·.1), rfl, SqL.of b1, ?_, fun m1 hm hle => ?_⟩
    · rw [List.length_map]
      exact List.length_pos_iff.mpr gd.ne
    have m10 : 0 ≤ m1 := by
      obtain ⟨c, hc', rfl⟩ := List.mem_map.mp hm
      have := gd.grid c hc'
      unfold InGrid at this
      show 0 ≤ c.1
      omega
    have em1 : m1 + 1 = ((hiN cs : Nat) : Int) := by
      have := topI_is hm m10 hle
      unfold hiN
      rw [this]
      omega
    clear b1 b2
    refine ⟨_, _, rfl, rfl, ?_⟩
    dsimp only []
    rw [em1]
    have hxA := same_seqT sG1 hx
    have hcA := cellsT_kt (.of_same sG1) hc
    refine ⟨_, rfl, a, rfl, ⟨_, hxA⟩, fun D2 nD2 => ?_⟩
    refine lc_tup (K := K) (a := a) (xs := xs) (fun j G' => G' D2 = some (.lst (((cs.take j).map (·.2)).map V.int)) ∧ (∀ b o, b ≠ D2 → G1 b = some o → G' b = some o)) ?_ ?_ ?_ ?_
    · exact ⟨upd_same, fun b o n e => by rw [upd_ne n]; exact e⟩
    · rintro j G' _ ⟨b1, b2⟩
      exact same_seqT (fun b o e => b2 b o (ne_of_none e nD2) e) hxA
    · rintro j x G' hj ⟨b1, b2⟩
      have sG' : Same G1 G' := fun b o e => b2 b o (ne_of_none e nD2) e
      obtain ⟨c, ec, b, rfl, hb⟩ := paired_get hcA hj
      have jl := (List.getElem?_eq_some_iff.mp ec).1
      refine ⟨rfl, _, rfl, b, _, 1, .int c.2, rfl, rfl, SqT.of (sG' _ _ hb), rfl, ?_⟩
      refine ⟨_, b1, ?_, ?_, fun b o n e => ?_⟩
      · rw [List.length_map, List.length_map, List.length_take]
        exact small64 (by omega)
      · rw [upd_same, List.take_add_one, ec, List.map_append, List.map_append]
        rfl
      · rw [upd_ne n]
        exact b2 b o n e
    rintro G2 ⟨b1, b2⟩
    have sG2 : Same G1 G2 := fun b o e => b2 b o (ne_of_none e nD2) e
    rw [hxl, List.take_length] at b1
    refine ⟨D2, cs.map (·.2), rfl, SqL.of b1, ?_, fun m2 hm hle => ?_⟩
    · rw [List.length_map]
      exact List.length_pos_iff.mpr gd.ne
    have m20 : 0 ≤ m2 := by
      obtain ⟨c, hc', rfl⟩ := List.mem_map.mp hm
      have := gd.grid c hc'
      unfold InGrid at this
      show 0 ≤ c.2
      omega
    have em2 : m2 + 1 = ((wiN cs : Nat) : Int) := by
      have := topI_is hm m20 hle
      unfold wiN
      rw [this]
      omega
    clear b1 b2
    refine ⟨_, _, rfl, rfl, ?_⟩
    dsimp only []
    rw [em2]
    have sB := sG1.trans sG2
    have hxB := same_seqT sB hx
    have htB := same_seqT sB ht
    refine ⟨_, _, rfl, ?_⟩
    -- found, by
    refine ⟨by show 0 ≤ sizeLine; decide, fun R nR => ?_⟩
    have sR := same_new (o := .lst []) nR
    have hR : upd G2 R (.lst []) R = some (.lst []) := upd_same
    have nRH : H R = none := sB.free nR
    generalize upd G2 R (.lst []) = H1 at hR sR ⊢
    have s1 := sB.trans sR
    refine ⟨_, rfl, _, rfl, a, t, ps.map V.ref, vs.map V.int, rfl, by rw [← ex]; exact same_seqT s1 hx, same_seqT s1 ht, by rw [List.length_map, List.length_map]; omega, fun H2 as L s2 al an _ ap hL nL => ?_⟩
    have s02 := s1.trans s2
    rw [List.length_map] at al
    have pys : ∃ pys : List (Addr × V), pys.map (·.1) = ps ∧ pys.map (·.2) = vs.map V.int ∧ Paired (fun t py => SqT K H2 t [.ref py.1, py.2]) as pys := by
      refine ⟨ps.zip (vs.map V.int), List.map_fst_zip (by rw [List.length_map]; omega), List.map_snd_zip (by rw [List.length_map]; omega), ?_⟩
      refine paired_ofE (by rw [List.length_zip, List.length_map]; omega) fun j p py e1 e2 => ?_
      obtain ⟨f1, f2⟩ := List.getElem?_zip_eq_some.mp e2
      exact SqT.of (ap j p _ _ e1 (by rw [List.getElem?_map, f1]; rfl) f2)
    obtain ⟨pys, y1, y2, y3⟩ := pys
    refine ⟨L, as, pys, cs.map keyC, rfl, SqL.of hL, y3, by rw [y1]; exact Paired.mono (fun _ _ z => s02 _ _ z) pk, fun D nD => ?_⟩
    rw [y2]
    generalize mergeT [] ((cs.map keyC).zip (vs.map V.int)) = kvs at dt ⊢
    have sD := same_new (o := .dT kvs) nD
    have hD : upd H2 D (.dT kvs) D = some (.dT kvs) := upd_same
    have hR := (s2.trans sD) _ _ hR
    generalize upd H2 D (.dT kvs) = H3 at hR hD sD ⊢
    refine ⟨by show 2 ≤ sizeLine; decide, fun T nT => ?_⟩
    have sT := same_new (o := .tup [.ref R, .ref D]) nT
    have hR := sT _ _ hR
    have hD := sT _ _ hD
    have sA := ((s02.trans sD).trans sT)
    refine ⟨T, _, rfl, SqT.of upd_same, rfl, _, _, rfl, _, _, rfl, rfl, ?_⟩
    generalize upd H3 T (.tup [.ref R, .ref D]) = J1 at hR hD sA ⊢
    refine ⟨_, rfl, ?_⟩
    refine ⟨((hiN cs : Nat) : Int), rfl, by omega, by omega, for_range (lo := 0) (n := hiN cs) (fun i σ G => ∃ y5 : Option V, σ = [some (.ref a), some (.ref t), some (.int ((hiN cs : Nat) : Int)), some (.int ((wiN cs : Nat) : Int)), some (.ref R), some (.ref D), y5, none, none] ∧
      (∀ b o, b ≠ R → J1 b = some o → G b = some o) ∧ G R = some (.lst (((List.range i).map fun r => jn (rowW cs vs r)).map V.str))) ?_ ?_ ?_⟩
    · exact ⟨none, rfl, fun b o _ e => e, hR⟩
    · rintro i σ G hi ⟨y5, rfl, kG, hRG⟩
      have neDR : D ≠ R := fun e => by
        rw [e, hR] at hD
        cases hD
      have hDG := kG _ _ neDR hD
      refine ⟨_, rfl, .inl ⟨rfl, _, SqL.of hRG⟩, ⟨_, rfl⟩, _, rfl, ((wiN cs : Nat) : Int), rfl, by omega, by omega, fun D3 nD3 => ?_⟩
      refine lc_range (lo := 0) (n := wiN cs) (fun k J3 => J3 D3 = some (.lst (((List.range k).map fun z => wdAt (cs.zip vs) ((i : Int), ((z : Nat) : Int))).map V.str)) ∧ (∀ b o, b ≠ D3 → G b = some o → J3 b = some o)) ?_ ?_ ?_
      · exact ⟨upd_same, fun b o n e => by rw [upd_ne n]; exact e⟩
      · rintro k J3 hk ⟨d1, d2⟩
        have sJ3 : Same G J3 := fun b o e => d2 b o (ne_of_none e nD3) e
        have dD := sJ3 _ _ hDG
        refine ⟨rfl, _, rfl, D, rfl, .inr ⟨kvs, .inl dD⟩, _, rfl, _, rfl, by show 2 ≤ sizeLine; decide, fun T nT => ?_⟩
        have sT := same_new (o := .tup [.int (0 + (i : Int)), .int (0 + (k : Int))]) nT
        refine ⟨_, DGet.t (k := keyC ((i : Int), (k : Int))) (sT _ _ dD) (by
          rw [upd_same, Int.zero_add, Int.zero_add]
          rfl), ?_⟩
        rw [dt.2]
        have fin : ∀ ws, ws = wdAt (cs.zip vs) ((i : Int), (k : Int)) → ∃ acc : List V, upd J3 T (.tup [.int (0 + (i : Int)), .int (0 + (k : Int))]) D3 = some (.lst acc) ∧ acc.length < sizeLine ∧
            (upd (upd J3 T (.tup [.int (0 + (i : Int)), .int (0 + (k : Int))])) D3 (.lst (acc ++ [.str ws])) D3 = some (.lst (((List.range (k + 1)).map fun z => wdAt (cs.zip vs) ((i : Int), ((z : Nat) : Int))).map V.str)) ∧ (∀ b o, b ≠ D3 → G b = some o → upd (upd J3 T (.tup [.int (0 + (i : Int)), .int (0 + (k : Int))])) D3 (.lst (acc ++ [.str ws])) b = some o)) := by
          intro ws e
          refine ⟨_, sT _ _ d1, ?_, ?_, fun b o n e => ?_⟩
          · rw [List.length_map, List.length_map, List.length_range]
            exact small64 (by omega)
          · rw [upd_same, List.range_succ, List.map_append, List.map_append, e]
            rfl
          · rw [upd_ne n]
            exact sT _ _ (d2 b o n e)
        cases e : atC (cs.zip vs) ((i : Int), (k : Int)) with
        | none => exact .inr ⟨_, rfl, fin _ (by unfold wdAt; rw [e]; rfl)⟩
        | some v =>
          have bd := zip_vals v9 _ (atC_mem e)
          exact .inl ⟨v, rfl, log4 bd.1 bd.2, fin _ (by unfold wdAt; rw [e]; rfl)⟩
      · rintro J3 ⟨d1, d2⟩
        have sJ3 : Same G J3 := fun b o e => d2 b o (ne_of_none e nD3) e
        have wt := row_wt gd v9 i
        refine ⟨_, D3, rowW cs vs i, rfl, rfl, .inl (SqL.of d1), ?_, ?_⟩
        · have e6 : (" " : Str).length = 1 := by decide +kernel
          rw [e6, Nat.mul_one]
          exact Nat.le_trans wt (by decide)
        refine ⟨R, _, _, rfl, rfl, sJ3 _ _ hRG, ?_, ?_⟩
        · rw [List.length_map, List.length_map, List.length_range]
          exact small64 (by omega)
        refine ⟨_, rfl, fun b o n e => ?_, ?_⟩
        · rw [upd_ne n]
          exact sJ3 _ _ (kG b o n e)
        · rw [upd_same, List.range_succ, List.map_append, List.map_append]
          rfl
    · rintro σ G ⟨y5, rfl, kG, hRG⟩
      refine ⟨⟨_, rfl⟩, _, rfl, _, R, pgR cs vs, rfl, rfl, .inl (SqL.of hRG), ?_, ?_⟩
      · have e6 : ("\n" : Str).length = 1 := by decide +kernel
        rw [e6, Nat.mul_one]
        have w1 : wtS (pgR cs vs) ≤ 41 * hiN cs := pg_wt gd v9 (hiN cs)
        exact Nat.le_trans w1 (by omega)
      · exact q _ fun b o e => kG b o (ne_of_none e nRH) (sA b o e)
end
end KS
namespace KS
open PySem PySem.Spec PyProof.Rows L2
theorem call_divmodX {X : Cx} : CallR X (.builtin "divmod") (fun xs H Q => ∃ i j, xs = [.int i, .int j] ∧ (0 < j ∧ j < 10 ^ 31) ∧ ∀ p, H p = none → Q (.ref p) (upd H p (.tup [.int (i / j), .int (i % j)]))) := by
  intro pins s σ H xs us Q I r h
  obtain ⟨i, j, rfl, ⟨h1, h2⟩, q⟩ := h
  obtain ⟨u, w', rfl, ⟨t, rfl⟩, ⟨t', rfl⟩⟩ := vals2 r
  have hl : j.natAbs.log2 < 9000 := by
    have e : (10 : Int) ^ 31 = 10000000000000000000000000000000 := by decide +kernel
    have e2 : (10000000000000000000000000000000 : Nat) < 2 ^ 110 := by decide +kernel
    have : j.natAbs.log2 < 110 := (Nat.log2_lt (by omega)).mpr (by omega)
    omega
  refine divmod_int (by omega) ?_ (.inl (PyProof.noPylong_of_log2 hl))
  rw [Int.fdiv_eq_ediv_of_nonneg i (by omega), Int.fmod_eq_emod_of_nonneg i (by omega)]
  have hn : H s.heap.objs.size = none := I.hok.fresh (Nat.le_refl _)
  refine ⟨.ref s.heap.objs.size, _, ?_, rfl, q _ hn⟩
  refine I.laid (fun b o e => Heap.get?_push_of_some _ e) (Nat.le_refl _) ⟨by simp only [List.length_cons, List.length_nil]; rw [sizeLine_eq]; decide, [.int (i / j) s.toks, .int (i % j) (s.toks + 1)], .cons ⟨_, rfl⟩ (.cons ⟨_, rfl⟩ .nil), ?_⟩
  exact ⟨_, Heap.get?_push_size s.heap rfl, rfl, 0, rfl⟩
def spDrawX : Sp := fun vs H Q _ => ∃ (p : Addr) (m : Int), vs = [.ref p, .int m] ∧ PoolO (H p) ∧ 0 < m ∧ m < 10 ^ 31 ∧ ∀ H' r, KeepX p H H' → PoolO (H' p) → 0 ≤ r → r < m → Q (.int r) H'
section
variable {P : Program} {w : World} {K : PySem.W.Frag} {mg : Str → Option Value} {base : Heap}
theorem ok_drawX {f : Addr} {fd : FuncData} (F : Fun K "_law_draw" "_law_draw" sDraw f fd) (md : mg "divmod" = none) : FnOk P w K mg base CX0 1 f fd ["_law_pool_here", "_law_most"] spDrawX := by
  refine F.ok scDraw (fun vs H Q E h => ?_) (fun cdv A outer s H vs Q E hr h => ?_)
  · obtain ⟨p, m, rfl, _⟩ := h
    rfl
  · obtain ⟨p, m, rfl, ⟨a, b, c, hp, a0, a1, b0⟩, m0, m1, q⟩ := h
    refine ⟨_, pss_cons (ps_asg (pe_op op_add (pe_ix ix_list (pv 0) pe_int (fun _ _ => rfl)) pe_int) (pg_sub (pv 0) pe_int set_list))
      (pss_cons (ps_set (i := 2) scDraw.nd rfl (.inl rfl) (pe_ix ix_list (pv 0) pe_int (fun _ _ => rfl)))
      (pss_cons (ps_asg (pe_op op_mod (pe_op op_add (pe_op op_mul (pv 2) (pe_op op_add (pe_op op_mod (pv 2) pe_int) pe_int)) (pe_op op_mul pe_int (pe_ix ix_list (pv 0) pe_int (fun _ _ => rfl)))) pe_int) (pg_sub (pv 0) pe_int set_list))
      (pss_cons (ps_if (pt_cmpR op_gt (pe_ix ix_list (pv 0) pe_int (fun _ _ => rfl)) pe_int (nomark _))
        (pss_cons (ps_asg (pe_callB call_divmodX (by rfl) md (by decide +kernel) (pa_cons (pe_ix ix_list (pv 0) pe_int (fun _ _ => rfl)) (pa_cons (pv 1) pa_nil)))
            (pg_tup (by rfl) (pgs_cons (pg_sub (pv 0) pe_int set_list) (pgs_cons (pg_name (i := 3) scDraw.nd rfl (.inl rfl)) pgs_nil))))
          (pss_one (ps_ret (pv 3)))) pss_nil)
      (pss_one (ps_ret (pe_op op_mod (pe_op op_fdiv (pe_ix ix_list (pv 0) pe_int (fun _ _ => rfl)) pe_int) (pv 1))))))), ?_⟩
    -- pool[2] = pool[2] + 1
    refine ⟨_, rfl, p, _, 2, .int c, rfl, rfl, SqL.of hp, rfl, _, _, rfl, rfl, _, rfl, p, _, 2, 2, rfl, rfl, hp, rfl, ?_⟩
    refine ⟨_, rfl, p, _, 0, .int a, rfl, rfl, SqL.of upd_same, rfl, ?_⟩
    have bm := int_mod_bd a (m := 50021) (by decide)
    refine ⟨_, rfl, _, rfl, _, _, rfl, rfl, by show (0 : Int) < 50021; decide, _, _, rfl, rfl, _, _, rfl, rfl, .inl ⟨by omega, by omega⟩, _, rfl, p, _, 2, .int (c + 1), rfl, rfl, SqL.of upd_same, rfl, _, _, rfl, rfl, .inl ⟨by decide, by decide⟩, _, _, rfl, rfl, _, _, rfl, rfl, by show (0 : Int) < 2147483249; decide, ?_⟩
    refine ⟨_, rfl, p, _, 0, 0, rfl, rfl, upd_same, rfl, ?_⟩
    have bz := int_mod_bd (a * (a % 50021 + 30011) + 80021 * (c + 1)) (m := 2147483249) (by decide)
    rw [upd_upd]
    show _
    refine ⟨_, rfl, p, _, 1, .int b, rfl, rfl, SqL.of upd_same, rfl, _, _, rfl, rfl, _, rfl, ite2 (fun e => ?_) (fun e => ?_)⟩
    · refine ⟨_, rfl, p, _, 1, .int b, rfl, rfl, SqL.of upd_same, rfl, _, rfl, b, m, rfl, ⟨m0, m1⟩, fun t nt => ?_⟩
      have npt : p ≠ t := ne_of_none upd_same nt
      refine ⟨t, _, rfl, SqT.of upd_same, rfl, _, _, rfl, ?_⟩
      refine ⟨_, rfl, p, _, 1, 1, rfl, rfl, by rw [upd_ne npt]; exact upd_same, rfl, _, [], rfl, rfl, ?_⟩
      have br := int_mod_bd b m0
      refine ⟨_, rfl, q _ _ (fun x o n e => ?_) ⟨_, _, _, upd_same, bz.1, bz.2, Int.ediv_nonneg b0 (by omega)⟩ br.1 br.2⟩
      rw [upd_ne n, upd_ne, upd_ne n]
      · exact e
      · intro z
        rw [z] at e
        rw [upd_ne (Ne.symm npt)] at nt
        rw [nt] at e
        cases e
    · refine ⟨_, rfl, p, _, 0, .int ((a * (a % 50021 + 30011) + 80021 * (c + 1)) % 2147483249), rfl, rfl, SqL.of upd_same, rfl, _, _, rfl, rfl, ⟨by decide, by decide⟩, _, rfl, _, _, rfl, rfl, m0, ?_⟩
      have br := int_mod_bd ((a * (a % 50021 + 30011) + 80021 * (c + 1)) % 2147483249 / 64) m0
      exact q _ _ keepX_upd ⟨_, _, _, upd_same, bz.1, bz.2, b0⟩ br.1 br.2
end
end KS
-- topS
namespace KS
open PySem PySem.Spec PyProof.Rows L2
/-! ### words said again and again come to rest -/
theorem aft_dn {cs : List Cell} : ∀ (w : List Bool) {vs : List Int}, vs.length = cs.length → Dn vs (aft cs w vs)
  | [], _, _ => .inl rfl
  | b :: w, vs, h => (srt_dn h).trans (aft_dn w (vs := srt b cs vs) (by rw [← h]; exact aft_len cs [b] vs))
def itA (cs : List Cell) (w : List Bool) : Nat → List Int → List Int
  | 0, vs => vs
  | n + 1, vs => itA cs w n (aft cs w vs)
theorem aft_rep (cs : List Cell) (w : List Bool) : ∀ (n : Nat) (vs : List Int), aft cs (List.replicate n w).flatten vs = itA cs w n vs
  | 0, _ => rfl
  | n + 1, vs => by
    rw [List.replicate_succ, List.flatten_cons, aft_app, aft_rep cs w n]
    rfl
theorem itA_fix {cs : List Cell} {w : List Bool} {vs : List Int} (e : aft cs w vs = vs) : ∀ n, itA cs w n vs = vs
  | 0 => rfl
  | n + 1 => by
    show itA cs w n (aft cs w vs) = vs
    rw [e]
    exact itA_fix e n
/-! ### the letters of a word, each at its first place -/
end KS
/-! the law's tables, programs, edits -/
namespace KS
open PySem PySem.Spec PyProof.Rows L2 RZ
def spTabN (K : PySem.W.Frag) : Sp := fun xs H Q _ => ∃ p : Addr, xs = [.ref p] ∧ PoolO (H p) ∧ ∀ H' T a t cs vs, KeepX p H H' → PoolO (H' p) → SqT K H' T [.ref a, .ref t] → PlanN H' a cs → Good cs → cs.length ≤ 24 → SqT K H' t (vs.map V.int) → Vals9 cs.length vs → Q (.ref T) H'
def stB : Nat → Nat
  | 0 => 0
  | d + 1 => 3 * (1 + stB d)
def spLStp (K : PySem.W.Frag) (m : Nat) : Sp := fun xs H Q _ => ∃ (p : Addr) (many d : Nat), xs = [.ref p, .int (many : Nat), .int (d : Nat)] ∧ PoolO (H p) ∧ many ≤ 3 ∧ 1 ≤ d ∧ d ≤ m + 1 ∧
  ∀ H' t ss, KeepX p H H' → PoolO (H' p) → PgA K H' t ss → okL ss → nestL ss ≤ d - 1 → stepsL ss ≤ stB d → w9L ss → Q (.ref t) H'
def spLGone (K : PySem.W.Frag) (m : Nat) : Sp := fun xs H Q _ => ∃ (a t g : Addr) (cs : List Cell) (vs : List Int) (ss : List Stp), xs = [.ref a, .ref t, .ref g] ∧ PlanAt K H a cs ∧ 1 ≤ cs.length ∧ cs.length ≤ 24 ∧ SqT K H t (vs.map V.int) ∧ vs.length = cs.length ∧ PgA K H g ss ∧ okL ss ∧ nestL ss ≤ m ∧
  ∀ H' u, Same H H' → SqT K H' u ((aft cs (spellL ss) vs).map V.int) → Q (.ref u) H'
def spLFree (K : PySem.W.Frag) : Sp := fun xs H Q _ => ∃ (p t : Addr) (vs : List Int), xs = [.ref p, .ref t] ∧ PoolO (H p) ∧ SqT K H t (vs.map V.int) ∧ vs.length ≤ 24 ∧ ∀ H' v, KeepX p H H' → PoolO (H' p) → 1 ≤ v → v ≤ 9999 → v ∉ vs → Q (.int v) H'
abbrev sTable : Stmt := topS 76
abbrev nTable : List Str := ["_law_pool_here", "_law_spots"]
theorem scTable : FnScope nTable ["_law_pool_here"] (defScope sTable) := ⟨rfl, rfl, rfl, by decide +kernel, rfl, by decide +kernel, by decide +kernel⟩
abbrev sLStp65 : Stmt := topS 77
abbrev nLStp : List Str := ["_law_pool_here", "_law_many", "_law_deep", "_law_found", "_law_turn", "_law_times", "_law_letters"]
theorem scLStp65 : FnScope nLStp ["_law_pool_here", "_law_many", "_law_deep"] (defScope sLStp65) := ⟨rfl, rfl, rfl, by decide +kernel, rfl, by decide +kernel, by decide +kernel⟩
abbrev sLGone : Stmt := topS 78
abbrev nLGone : List Str := ["_law_spots", "_law_some_here", "_law_steps_here", "_law_step", "_law_turn", "_law_ahead"]
theorem scLGone : FnScope nLGone ["_law_spots", "_law_some_here", "_law_steps_here"] (defScope sLGone) := ⟨rfl, rfl, rfl, by decide +kernel, rfl, by decide +kernel, by decide +kernel⟩
abbrev sLFree : Stmt := topS 79
abbrev nLFree : List Str := ["_law_pool_here", "_law_some_here", "_law_base", "_law_k"]
theorem scLFree : FnScope nLFree ["_law_pool_here", "_law_some_here"] (defScope sLFree) := ⟨rfl, rfl, rfl, by decide +kernel, rfl, by decide +kernel, by decide +kernel⟩
theorem sts_kxS {K : PySem.W.Frag} {p : Addr} {H H' : Hp} (po : PoolO (H p)) (k : KeepX p H H') {xs : List V} {ss : List Stp} (h : StsA K H xs ss) : StsA K H' xs ss := h.kt (.of_keepX po k)
section
variable {P : Program} {w : World} {K : PySem.W.Frag} {mg : Str → Option Value} {base : Heap}
theorem ok_tabN {f fD fP fV : Addr} {fd fdD fdP fdV : FuncData} (F : Fun K "_law_table" "_law_table" sTable f fd)
    (GD : FnOk P w K mg base CX0 1 fD fdD ["_law_pool_here", "_law_most"] spDraw) (bD : Binds K fdD ["_law_pool_here", "_law_most"] []) (gD : mg "_law_draw" = some (.ref fD)) (kD : PySem.W.keepIn K (.ref fD) = true)
    (GP : FnOk P w K mg base CX0 2 fP fdP ["_law_pool_here", "_law_most"] (spPlanN K)) (bP : Binds K fdP ["_law_pool_here", "_law_most"] []) (gP : mg "_law_plan" = some (.ref fP)) (kP : PySem.W.keepIn K (.ref fP) = true)
    (GV : FnOk P w K mg base CX0 2 fV fdV ["_law_pool_here", "_law_size"] (spValues K)) (bV : Binds K fdV ["_law_pool_here", "_law_size"] []) (gV : mg "_law_values" = some (.ref fV)) (kV : PySem.W.keepIn K (.ref fV) = true)
    (ml : mg "len" = none) (mI : mg "int" = none) : FnOk P w K mg base CX0 3 f fd ["_law_pool_here"] (spTabN K) := by
  refine F.ok scTable (fun vs H Q E h => ?_) (fun cdv A outer s H vs Q E hr h => ?_)
  · obtain ⟨p, rfl, _⟩ := h
    rfl
  · obtain ⟨p, rfl, po, q⟩ := h
    have nd := scTable.nd
    have hr1 : Room 1 _ := hr.mono (by omega)
    refine ⟨_, pss_cons (ps_set (i := 1) nd rfl (.inl rfl) (pe_call GP hr (by rfl) gP kP bP .nil pass0 (pa_cons (pv 0) (pa_cons (pe_ix ix_list (pe_lst (pa_cons pe_int (pa_cons pe_int pa_nil)))
        (pe_callTy call_int1 (by rfl) mI (by decide +kernel) (pa_cons (pe_cmpR op_eq (pe_call GD hr1 (by rfl) gD kD bD .nil pass0 (pa_cons (pv 0) (pa_cons pe_int pa_nil))) pe_int (nomark _)) pa_nil)) (fun _ _ => rfl)) pa_nil))))
      (pss_one (ps_ret (pe_tup (pa_cons (pv 1) (pa_cons (pe_call GV hr (by rfl) gV kV bV .nil pass0 (pa_cons (pv 0) (pa_cons (pe_callB call_len_seq (by rfl) ml PySem.boot_len (pa_cons (pv 1) pa_nil)) pa_nil))) pa_nil))))), ?_⟩
    refine ⟨_, rfl, by show 2 ≤ sizeLine; decide, fun L nL => ?_⟩
    have sL := same_new (o := .lst [.int 10, .int 24]) nL
    have hL : upd H L (.lst [.int 10, .int 24]) L = some (.lst [.int 10, .int 24]) := upd_same
    have nLp : L ≠ p := Ne.symm (po.ne nL)
    generalize upd H L (.lst [.int 10, .int 24]) = H0 at sL hL ⊢
    refine ⟨_, rfl, p, 8, rfl, po.same sL, by decide, by decide, fun H1 r k1 po1 r0 r1 => ⟨rfl, ?_⟩⟩
    have hL1 := k1 _ _ nLp hL
    refine .inr ⟨_, rfl, ?_⟩
    obtain ⟨m, m1, m2, hm⟩ : ∃ m : Int, 1 ≤ m ∧ m ≤ 24 ∧ atI ([.int 10, .int 24] : List V) (if decide (V.int r = V.int 3) then 1 else 0) = some (.int m) := by
      by_cases e : V.int r = V.int 3
      · rw [decide_eq_true e]
        exact ⟨24, by decide, by decide, rfl⟩
      · rw [decide_eq_false e]
        exact ⟨10, by decide, by decide, rfl⟩
    refine ⟨L, _, _, _, rfl, rfl, SqL.of hL1, hm, p, m, rfl, po1, m1, m2, fun H2 a cs k2 po2 hpl gd hcl _ => ?_⟩
    obtain ⟨xs, hx, hc⟩ := (hpl.t (K := K))
    have hlen := Paired.length hc
    have gz : 1 ≤ cs.length := by
      cases cs with
      | nil => exact absurd rfl gd.ne
      | cons c cs => exact Nat.succ_le_succ (Nat.zero_le _)
    have hl24 : cs.length ≤ 24 := by omega
    refine ⟨_, rfl, _, rfl, _, rfl, a, xs, rfl, .inr hx, p, xs.length, rfl, po2, by omega, by omega, fun H3 t vs k3 po3 hvt v9 _ => ?_⟩
    rw [hlen] at v9
    refine ⟨by show 2 ≤ sizeLine; decide, fun T nT => ?_⟩
    have sT := same_new (o := .tup [.ref a, .ref t]) nT
    exact q _ T a t cs vs ((((KeepX.of_same sL).trans k1).trans (k2.trans k3)).trans (.of_same sT)) (po3.same sT) (SqT.of upd_same) ((hpl.kn (.of_pool po2 k3)).same sT) gd hl24 (same_seqT sT hvt) v9
theorem ok_lstp {f fD fW : Addr} {fd fdD fdW : FuncData} (F : Fun K "_law_steps" "_law_steps" sLStp65 f fd) (bS : Binds K fd ["_law_pool_here", "_law_many", "_law_deep"] []) (gS : mg "_law_steps" = some (.ref f)) (kS : PySem.W.keepIn K (.ref f) = true)
    (GD : FnOk P w K mg base CX0 1 fD fdD ["_law_pool_here", "_law_most"] spDraw) (bD : Binds K fdD ["_law_pool_here", "_law_most"] []) (gD : mg "_law_draw" = some (.ref fD)) (kD : PySem.W.keepIn K (.ref fD) = true)
    (GX : FnOk P w K mg base CX0 1 fD fdD ["_law_pool_here", "_law_most"] spDrawX)
    (GW : FnOk P w K mg base CX0 2 fW fdW ["_law_pool_here", "_law_most"] (spLWord K)) (bW : Binds K fdW ["_law_pool_here", "_law_most"] []) (gW : mg "_law_word" = some (.ref fW)) (kW : PySem.W.keepIn K (.ref fW) = true)
    (mr : mg "range" = none) (mT : mg "tuple" = none) : ∀ m, FnOk P w K mg base CX0 (m + 3) f fd ["_law_pool_here", "_law_many", "_law_deep"] (spLStp K m) := by
  intro m
  induction m with
  | zero =>
    refine F.ok scLStp65 (fun vs H Q E h => ?_) (fun cdv A outer s H vs Q E hr h => ?_)
    · obtain ⟨p, many, d, rfl, _⟩ := h
      rfl
    · obtain ⟨p, many, d, rfl, po, m3, d1, dm, q⟩ := h
      have nd := scLStp65.nd
      have hr1 : Room 1 _ := hr.mono (by omega)
      have hr2 : Room 2 _ := hr.mono (by omega)
      refine ⟨_, pss_cons (ps_set (i := 3) nd rfl (.inl rfl) (pe_lst pa_nil))
        (pss_cons (ps_for PassesOwn.never rfl (pi_range1 (by rfl) mr (pa_cons (pe_call GD hr1 (by rfl) gD kD bD .nil pass0 (pa_cons (pv 0) (pa_cons (pe_op op_add (pv 1) pe_int) pa_nil))) pa_nil)) (pg_name (i := 4) nd rfl (.inl rfl))
          (pss_one (ps_if (PW.pt (pw_and (pt_cmpR op_eq (pe_call GD hr1 (by rfl) gD kD bD .nil pass0 (pa_cons (pv 0) (pa_cons pe_int pa_nil))) pe_int (nomark _)) (pw_and1 (pt_cmpR op_gt (pv 2) pe_int (nomark _)))))
            (pss_cons ps_never (pss_one ps_never))
            (pss_cons (ps_set (i := 6) nd rfl (.inl rfl) (pe_call GW hr2 (by rfl) gW kW bW .nil pass0 (pa_cons (pv 0) (pa_cons pe_int pa_nil))))
              (pss_one (ps_expr (pe_bm PySem.F.plainAttrs_list PySem.F.slot_list_append PySem.F.type_list_append mt_append (pv 3) (pa_cons (pe_ifExp (pt_cmpR op_ne (pv 6) pe_str (nomark _)) (pv 6) pe_str) pa_nil))))))))
        (pss_one (ps_ret (pe_callTy call_tuple_of (by rfl) mT (by decide +kernel) (pa_cons (pv 3) pa_nil))))), ?_⟩
      refine ⟨by show 0 ≤ sizeLine; decide, fun L nL => ?_⟩
      have sL := same_new (o := .lst []) nL
      have hL0 : upd H L (.lst []) L = some (.lst []) := upd_same
      have nLp : L ≠ p := Ne.symm (po.ne nL)
      generalize upd H L (.lst []) = H0 at sL hL0 ⊢
      refine ⟨_, rfl, _, rfl, _, _, rfl, rfl, p, (many : Int) + 1, rfl, po.same sL, by omega, by omega, fun H2 r k2 po2 r0 r1 => ?_⟩
      obtain ⟨rn, rfl⟩ := Int.eq_ofNat_of_zero_le r0
      have hL2 := k2 _ _ nLp hL0
      refine ⟨(rn : Int), rfl, by omega, by omega, for_range (lo := 0) (n := rn) (fun i σ G => ∃ (y4 y5 y6 : Option V) (xs : List V) (ss : List Stp), σ = [some (.ref p), some (.int (many : Nat)), some (.int (d : Nat)), some (.ref L), y4, y5, y6] ∧
        PoolO (G p) ∧ G L = some (.lst xs) ∧ StsA K G xs ss ∧ okL ss ∧ nestL ss ≤ d - 1 ∧ ss.length = i ∧ stepsL ss ≤ i * (1 + stB (d - 1)) ∧ w9L ss ∧ (∀ b o, b ≠ p → b ≠ L → H b = some o → G b = some o)) ?_ ?_ ?_⟩
      · exact ⟨none, none, none, [], [], rfl, po2, hL2, .nil, trivial, by simp only [nestL]; omega, rfl, by simp only [stepsL]; omega, trivial, fun b o n1 n2 e => k2 b o n1 (sL _ _ e)⟩
      · rintro i σ G hi ⟨y4, y5, y6, xs, ss, rfl, pog, hL, hs, ok, hn, hl, hst, hw, kG⟩
        have hxl := hs.len
        -- one more
        have fin : ∀ (G' : Hp) (x : V) (s1 : Stp) (y5 y6 : Option V), KeepX p G G' → PoolO (G' p) → StA K G' x s1 → s1.ok → s1.nest ≤ d - 1 → s1.steps ≤ 1 + stB (d - 1) → s1.w9 →
            ∃ (z4 z5 z6 : Option V) (xs' : List V) (ss' : List Stp), [some (V.ref p), some (.int (many : Nat)), some (.int (d : Nat)), some (.ref L), some (.int (0 + (i : Int))), y5, y6] = [some (V.ref p), some (.int (many : Nat)), some (.int (d : Nat)), some (.ref L), z4, z5, z6] ∧
              PoolO (upd G' L (.lst (xs ++ [x])) p) ∧ upd G' L (.lst (xs ++ [x])) L = some (.lst xs') ∧ StsA K (upd G' L (.lst (xs ++ [x]))) xs' ss' ∧ okL ss' ∧ nestL ss' ≤ d - 1 ∧ ss'.length = i + 1 ∧ stepsL ss' ≤ (i + 1) * (1 + stB (d - 1)) ∧ w9L ss' ∧ (∀ b o, b ≠ p → b ≠ L → H b = some o → upd G' L (.lst (xs ++ [x])) b = some o) := by
          intro G' x s1 y5 y6 k po' hx o1 n1 t1 w1
          have hL' := k _ _ nLp hL
          have kt : KT K G' (upd G' L (.lst (xs ++ [x]))) := KT.upd hL'
          refine ⟨_, _, _, xs ++ [x], ss ++ [s1], rfl, ?_, upd_same, ((sts_kxS pog k hs).kt kt).app (.cons (hx.kt kt) .nil), ?_, ?_, by rw [List.length_append, hl]; rfl, ?_, by rw [w9L_app]; exact ⟨hw, w1, trivial⟩, fun b o n1 n2 e => ?_⟩
          · rw [upd_ne (Ne.symm nLp)]
            exact po'
          · rw [okL_app]
            exact ⟨ok, o1, trivial⟩
          · rw [nestL_app]
            simp only [nestL]
            omega
          · rw [stepsL_app, Nat.succ_mul]
            simp only [stepsL]
            omega
          · rw [upd_ne n2]
            exact k b o n1 (kG b o n1 n2 e)
        refine ⟨_, rfl, p, 3, rfl, pog, by decide, by decide, fun G1 r1 k1 po1 r10 r11 => ?_⟩
        refine ⟨rfl, _, rfl, ite2 (fun e => ?_) (fun e => ?_)⟩
        · refine ⟨_, rfl, _, _, rfl, rfl, false, bl_false (show ¬ (d : Int) > 1 by omega), ?_⟩
          refine ⟨_, rfl, p, 9, rfl, po1, by decide, fun G2 l k2 po2 ll => ?_⟩
          have k12 := k1.trans k2
          refine ⟨_, rfl, .inl ⟨rfl, _, SqL.of (k12 _ _ nLp hL)⟩, ?_⟩
          refine ⟨_, rfl, rfl, _, rfl, ite2 (fun e => ?_) (fun e => ?_)⟩
          · have l0 : l ≠ [] := fun z => by
              subst z
              rw [wS_nil] at e
              simp at e
            refine ⟨_, rfl, L, _, _, rfl, rfl, k12 _ _ nLp hL, small64 (by omega), ?_⟩
            exact fin G2 (.str (wS l)) (.w l) y5 _ k12 po2 (.w l) ⟨l0, by omega⟩ (by simp only [Stp.nest]; omega) (by simp only [Stp.steps]; omega) (by simp only [Stp.w9]; first | omega | decide)
          · refine ⟨L, _, _, rfl, rfl, k12 _ _ nLp hL, small64 (by omega), ?_⟩
            exact fin G2 (.str (wS [true])) (.w [true]) y5 _ k12 po2 (.w [true]) ⟨by simp, by decide⟩ (by simp only [Stp.nest]; omega) (by simp only [Stp.steps]; omega) (by simp only [Stp.w9]; first | omega | decide)
        · skip
          refine ⟨_, rfl, p, 9, rfl, po1, by decide, fun G2 l k2 po2 ll => ?_⟩
          have k12 := k1.trans k2
          refine ⟨_, rfl, .inl ⟨rfl, _, SqL.of (k12 _ _ nLp hL)⟩, ?_⟩
          refine ⟨_, rfl, rfl, _, rfl, ite2 (fun e => ?_) (fun e => ?_)⟩
          · have l0 : l ≠ [] := fun z => by
              subst z
              rw [wS_nil] at e
              simp at e
            refine ⟨_, rfl, L, _, _, rfl, rfl, k12 _ _ nLp hL, small64 (by omega), ?_⟩
            exact fin G2 (.str (wS l)) (.w l) y5 _ k12 po2 (.w l) ⟨l0, by omega⟩ (by simp only [Stp.nest]; omega) (by simp only [Stp.steps]; omega) (by simp only [Stp.w9]; first | omega | decide)
          · refine ⟨L, _, _, rfl, rfl, k12 _ _ nLp hL, small64 (by omega), ?_⟩
            exact fin G2 (.str (wS [true])) (.w [true]) y5 _ k12 po2 (.w [true]) ⟨by simp, by decide⟩ (by simp only [Stp.nest]; omega) (by simp only [Stp.steps]; omega) (by simp only [Stp.w9]; first | omega | decide)
      · rintro σ G ⟨y4, y5, y6, xs, ss, rfl, pog, hL, hs, ok, hn, hl, hst, hw, kG⟩
        refine ⟨_, rfl, L, xs, rfl, .inl ⟨SqL.of hL, fun t nt => ?_⟩⟩
        have st := same_new (o := .tup xs) nt
        refine q _ t ss (fun b o n e => st _ _ (kG b o n (ne_of_none e nL) e)) (pog.same st) ⟨xs, SqT.of upd_same, hs.kt (.of_same st)⟩ ok hn ?_ ?_
        · obtain ⟨d', rfl⟩ : ∃ d', d = d' + 1 := ⟨d - 1, by omega⟩
          show stepsL ss ≤ 3 * (1 + stB d')
          have : rn * (1 + stB d') ≤ 3 * (1 + stB d') := Nat.mul_le_mul_right _ (by omega)
          exact Nat.le_trans hst this
        · exact hw
  | succ m GS =>
    refine F.ok scLStp65 (fun vs H Q E h => ?_) (fun cdv A outer s H vs Q E hr h => ?_)
    · obtain ⟨p, many, d, rfl, _⟩ := h
      rfl
    · obtain ⟨p, many, d, rfl, po, m3, d1, dm, q⟩ := h
      have nd := scLStp65.nd
      have hr1 : Room 1 _ := hr.mono (by omega)
      have hr2 : Room 2 _ := hr.mono (by omega)
      refine ⟨_, pss_cons (ps_set (i := 3) nd rfl (.inl rfl) (pe_lst pa_nil))
        (pss_cons (ps_for PassesOwn.never rfl (pi_range1 (by rfl) mr (pa_cons (pe_call GD hr1 (by rfl) gD kD bD .nil pass0 (pa_cons (pv 0) (pa_cons (pe_op op_add (pv 1) pe_int) pa_nil))) pa_nil)) (pg_name (i := 4) nd rfl (.inl rfl))
          (pss_one (ps_if (PW.pt (pw_and (pt_cmpR op_eq (pe_call GD hr1 (by rfl) gD kD bD .nil pass0 (pa_cons (pv 0) (pa_cons pe_int pa_nil))) pe_int (nomark _)) (pw_and1 (pt_cmpR op_gt (pv 2) pe_int (nomark _)))))
            (pss_cons (ps_set (i := 5) nd rfl (.inl rfl) (pe_ix ix_list (pe_lst (pa_cons pe_int (pa_cons pe_int (pa_cons pe_int (pa_cons pe_int (pa_cons (pe_op op_pow pe_int pe_int) (pa_cons (pe_op op_add pe_int (pe_call GX hr1 (by rfl) gD kD bD .nil pass0 (pa_cons (pv 0) (pa_cons (pe_op op_pow pe_int pe_int) pa_nil)))) pa_nil))))))) (pe_call GD hr1 (by rfl) gD kD bD .nil pass0 (pa_cons (pv 0) (pa_cons pe_int pa_nil))) (fun _ _ => rfl)))
            (pss_one (ps_expr (pe_bm PySem.F.plainAttrs_list PySem.F.slot_list_append PySem.F.type_list_append mt_append (pv 3) (pa_cons (pe_tup (pa_cons pe_str (pa_cons (pv 5) (pa_cons (pe_call GS hr (by rfl) gS kS bS .nil pass0 (pa_cons (pv 0) (pa_cons (pv 1) (pa_cons (pe_op op_sub (pv 2) pe_int) pa_nil)))) pa_nil)))) pa_nil)))))
            (pss_cons (ps_set (i := 6) nd rfl (.inl rfl) (pe_call GW hr2 (by rfl) gW kW bW .nil pass0 (pa_cons (pv 0) (pa_cons pe_int pa_nil))))
              (pss_one (ps_expr (pe_bm PySem.F.plainAttrs_list PySem.F.slot_list_append PySem.F.type_list_append mt_append (pv 3) (pa_cons (pe_ifExp (pt_cmpR op_ne (pv 6) pe_str (nomark _)) (pv 6) pe_str) pa_nil))))))))
        (pss_one (ps_ret (pe_callTy call_tuple_of (by rfl) mT (by decide +kernel) (pa_cons (pv 3) pa_nil))))), ?_⟩
      refine ⟨by show 0 ≤ sizeLine; decide, fun L nL => ?_⟩
      have sL := same_new (o := .lst []) nL
      have hL0 : upd H L (.lst []) L = some (.lst []) := upd_same
      have nLp : L ≠ p := Ne.symm (po.ne nL)
      generalize upd H L (.lst []) = H0 at sL hL0 ⊢
      refine ⟨_, rfl, _, rfl, _, _, rfl, rfl, p, (many : Int) + 1, rfl, po.same sL, by omega, by omega, fun H2 r k2 po2 r0 r1 => ?_⟩
      obtain ⟨rn, rfl⟩ := Int.eq_ofNat_of_zero_le r0
      have hL2 := k2 _ _ nLp hL0
      refine ⟨(rn : Int), rfl, by omega, by omega, for_range (lo := 0) (n := rn) (fun i σ G => ∃ (y4 y5 y6 : Option V) (xs : List V) (ss : List Stp), σ = [some (.ref p), some (.int (many : Nat)), some (.int (d : Nat)), some (.ref L), y4, y5, y6] ∧
        PoolO (G p) ∧ G L = some (.lst xs) ∧ StsA K G xs ss ∧ okL ss ∧ nestL ss ≤ d - 1 ∧ ss.length = i ∧ stepsL ss ≤ i * (1 + stB (d - 1)) ∧ w9L ss ∧ (∀ b o, b ≠ p → b ≠ L → H b = some o → G b = some o)) ?_ ?_ ?_⟩
      · exact ⟨none, none, none, [], [], rfl, po2, hL2, .nil, trivial, by simp only [nestL]; omega, rfl, by simp only [stepsL]; omega, trivial, fun b o n1 n2 e => k2 b o n1 (sL _ _ e)⟩
      · rintro i σ G hi ⟨y4, y5, y6, xs, ss, rfl, pog, hL, hs, ok, hn, hl, hst, hw, kG⟩
        have hxl := hs.len
        -- one more
        have fin : ∀ (G' : Hp) (x : V) (s1 : Stp) (y5 y6 : Option V), KeepX p G G' → PoolO (G' p) → StA K G' x s1 → s1.ok → s1.nest ≤ d - 1 → s1.steps ≤ 1 + stB (d - 1) → s1.w9 →
            ∃ (z4 z5 z6 : Option V) (xs' : List V) (ss' : List Stp), [some (V.ref p), some (.int (many : Nat)), some (.int (d : Nat)), some (.ref L), some (.int (0 + (i : Int))), y5, y6] = [some (V.ref p), some (.int (many : Nat)), some (.int (d : Nat)), some (.ref L), z4, z5, z6] ∧
              PoolO (upd G' L (.lst (xs ++ [x])) p) ∧ upd G' L (.lst (xs ++ [x])) L = some (.lst xs') ∧ StsA K (upd G' L (.lst (xs ++ [x]))) xs' ss' ∧ okL ss' ∧ nestL ss' ≤ d - 1 ∧ ss'.length = i + 1 ∧ stepsL ss' ≤ (i + 1) * (1 + stB (d - 1)) ∧ w9L ss' ∧ (∀ b o, b ≠ p → b ≠ L → H b = some o → upd G' L (.lst (xs ++ [x])) b = some o) := by
          intro G' x s1 y5 y6 k po' hx o1 n1 t1 w1
          have hL' := k _ _ nLp hL
          have kt : KT K G' (upd G' L (.lst (xs ++ [x]))) := KT.upd hL'
          refine ⟨_, _, _, xs ++ [x], ss ++ [s1], rfl, ?_, upd_same, ((sts_kxS pog k hs).kt kt).app (.cons (hx.kt kt) .nil), ?_, ?_, by rw [List.length_append, hl]; rfl, ?_, by rw [w9L_app]; exact ⟨hw, w1, trivial⟩, fun b o n1 n2 e => ?_⟩
          · rw [upd_ne (Ne.symm nLp)]
            exact po'
          · rw [okL_app]
            exact ⟨ok, o1, trivial⟩
          · rw [nestL_app]
            simp only [nestL]
            omega
          · rw [stepsL_app, Nat.succ_mul]
            simp only [stepsL]
            omega
          · rw [upd_ne n2]
            exact k b o n1 (kG b o n1 n2 e)
        refine ⟨_, rfl, p, 3, rfl, pog, by decide, by decide, fun G1 r1 k1 po1 r10 r11 => ?_⟩
        refine ⟨rfl, _, rfl, ite2 (fun e => ?_) (fun e => ?_)⟩
        · by_cases c0 : 1 < d
          · refine ⟨_, rfl, _, _, rfl, rfl, true, bl_true (show (d : Int) > 1 by omega), ?_⟩
            refine ⟨_, _, rfl, rfl, ⟨by decide, by decide, by decide⟩, ?_⟩
            refine ⟨_, rfl, _, _, rfl, rfl, ⟨by decide, by decide, by decide⟩, p, 10 ^ (30 : Int).toNat, rfl, po1, by decide, by decide, fun G2 r2 k2 po2 r20 r21 => ?_⟩
            refine ⟨_, _, rfl, rfl, ?_⟩
            refine ⟨by show 6 ≤ sizeLine; decide, fun M nM => ?_⟩
            have sM := same_new (o := .lst [.int 1, .int 2, .int 3, .int 7, .int (10 ^ (30 : Int).toNat), .int (1 + r2)]) nM
            have hM : upd G2 M (.lst [.int 1, .int 2, .int 3, .int 7, .int (10 ^ (30 : Int).toNat), .int (1 + r2)]) M = some (.lst [.int 1, .int 2, .int 3, .int 7, .int (10 ^ (30 : Int).toNat), .int (1 + r2)]) := upd_same
            have nMp : M ≠ p := Ne.symm (po2.ne nM)
            generalize upd G2 M (.lst [.int 1, .int 2, .int 3, .int 7, .int (10 ^ (30 : Int).toNat), .int (1 + r2)]) = G3 at sM hM ⊢
            refine ⟨_, rfl, p, 6, rfl, po2.same sM, by decide, by decide, fun G4 r4 k4 po4 r40 r41 => ?_⟩
            have e30 : (10 : Int) ^ (30 : Int).toNat = 10 ^ 30 := rfl
            obtain ⟨n, n1, n2, hn6⟩ : ∃ n : Int, 1 ≤ n ∧ n ≤ 10 ^ 30 ∧ atI ([.int 1, .int 2, .int 3, .int 7, .int (10 ^ (30 : Int).toNat), .int (1 + r2)] : List V) r4 = some (.int n) := by
              have : r4 = 0 ∨ r4 = 1 ∨ r4 = 2 ∨ r4 = 3 ∨ r4 = 4 ∨ r4 = 5 := by omega
              rcases this with rfl | rfl | rfl | rfl | rfl | rfl
              · exact ⟨1, by decide, by decide, rfl⟩
              · exact ⟨2, by decide, by decide, rfl⟩
              · exact ⟨3, by decide, by decide, rfl⟩
              · exact ⟨7, by decide, by decide, rfl⟩
              · exact ⟨10 ^ 30, by decide, by decide, rfl⟩
              · exact ⟨1 + r2, by omega, by rw [e30] at r21; omega, rfl⟩
            have k14 := ((k1.trans k2).trans (.of_same sM)).trans k4
            refine ⟨M, _, _, _, rfl, rfl, SqL.of (k4 _ _ nMp hM), hn6, ?_⟩
            -- the inner program
            obtain ⟨d', rfl⟩ : ∃ d', d = d' + 2 := ⟨d - 2, by omega⟩
            refine ⟨_, rfl, .inl ⟨rfl, _, SqL.of (k14 _ _ nLp hL)⟩, ?_⟩
            refine ⟨_, rfl, _, rfl, _, rfl, _, rfl, _, _, rfl, rfl, p, many, d' + 1, ?_, po4, m3, by omega, by omega, fun G5 b sb k5 po5 hsb okb nb tb wb => ?_⟩
            · have : ((d' + 2 : Nat) : Int) - 1 = ((d' + 1 : Nat) : Int) := by omega
              show [V.ref p, V.int (many : Nat), V.int (((d' + 2 : Nat) : Int) - 1)] ++ [] = _
              rw [this]
              rfl
            refine ⟨by show 3 ≤ sizeLine; decide, fun T nT => ?_⟩
            have sT := same_new (o := .tup [.str "repeat", .int n, .ref b]) nT
            have hT : upd G5 T (.tup [.str "repeat", .int n, .ref b]) T = some (.tup [.str "repeat", .int n, .ref b]) := upd_same
            generalize upd G5 T (.tup [.str "repeat", .int n, .ref b]) = G6 at sT hT ⊢
            have k16 := (k14.trans k5).trans (.of_same sT)
            have po6 := po5.same sT
            obtain ⟨bx, hb1, hb2⟩ := hsb
            refine ⟨L, _, _, rfl, rfl, k16 _ _ nLp hL, small64 (by omega), ?_⟩
            refine fin G6 (.ref T) (.r n sb) _ y6 k16 po6 (.r (SqT.of hT) (same_seqT sT hb1) (hb2.kt (.of_same sT))) ?_ ?_ ?_ (by simp only [Stp.w9]; exact wb)
            · simp only [Stp.ok]
              exact ⟨n1, n2, okb⟩
            · simp only [Stp.nest]
              omega
            · simp only [Stp.steps]
              show 1 + stepsL sb ≤ 1 + stB (d' + 1)
              omega
          · refine ⟨_, rfl, _, _, rfl, rfl, false, bl_false (show ¬ (d : Int) > 1 by omega), ?_⟩
            refine ⟨_, rfl, p, 9, rfl, po1, by decide, fun G2 l k2 po2 ll => ?_⟩
            have k12 := k1.trans k2
            refine ⟨_, rfl, .inl ⟨rfl, _, SqL.of (k12 _ _ nLp hL)⟩, ?_⟩
            refine ⟨_, rfl, rfl, _, rfl, ite2 (fun e => ?_) (fun e => ?_)⟩
            · have l0 : l ≠ [] := fun z => by
                subst z
                rw [wS_nil] at e
                simp at e
              refine ⟨_, rfl, L, _, _, rfl, rfl, k12 _ _ nLp hL, small64 (by omega), ?_⟩
              exact fin G2 (.str (wS l)) (.w l) y5 _ k12 po2 (.w l) ⟨l0, by omega⟩ (by simp only [Stp.nest]; omega) (by simp only [Stp.steps]; omega) (by simp only [Stp.w9]; first | omega | decide)
            · refine ⟨L, _, _, rfl, rfl, k12 _ _ nLp hL, small64 (by omega), ?_⟩
              exact fin G2 (.str (wS [true])) (.w [true]) y5 _ k12 po2 (.w [true]) ⟨by simp, by decide⟩ (by simp only [Stp.nest]; omega) (by simp only [Stp.steps]; omega) (by simp only [Stp.w9]; first | omega | decide)
        · skip
          refine ⟨_, rfl, p, 9, rfl, po1, by decide, fun G2 l k2 po2 ll => ?_⟩
          have k12 := k1.trans k2
          refine ⟨_, rfl, .inl ⟨rfl, _, SqL.of (k12 _ _ nLp hL)⟩, ?_⟩
          refine ⟨_, rfl, rfl, _, rfl, ite2 (fun e => ?_) (fun e => ?_)⟩
          · have l0 : l ≠ [] := fun z => by
              subst z
              rw [wS_nil] at e
              simp at e
            refine ⟨_, rfl, L, _, _, rfl, rfl, k12 _ _ nLp hL, small64 (by omega), ?_⟩
            exact fin G2 (.str (wS l)) (.w l) y5 _ k12 po2 (.w l) ⟨l0, by omega⟩ (by simp only [Stp.nest]; omega) (by simp only [Stp.steps]; omega) (by simp only [Stp.w9]; first | omega | decide)
          · refine ⟨L, _, _, rfl, rfl, k12 _ _ nLp hL, small64 (by omega), ?_⟩
            exact fin G2 (.str (wS [true])) (.w [true]) y5 _ k12 po2 (.w [true]) ⟨by simp, by decide⟩ (by simp only [Stp.nest]; omega) (by simp only [Stp.steps]; omega) (by simp only [Stp.w9]; first | omega | decide)
      · rintro σ G ⟨y4, y5, y6, xs, ss, rfl, pog, hL, hs, ok, hn, hl, hst, hw, kG⟩
        refine ⟨_, rfl, L, xs, rfl, .inl ⟨SqL.of hL, fun t nt => ?_⟩⟩
        have st := same_new (o := .tup xs) nt
        refine q _ t ss (fun b o n e => st _ _ (kG b o n (ne_of_none e nL) e)) (pog.same st) ⟨xs, SqT.of upd_same, hs.kt (.of_same st)⟩ ok hn ?_ ?_
        · obtain ⟨d', rfl⟩ : ∃ d', d = d' + 1 := ⟨d - 1, by omega⟩
          show stepsL ss ≤ 3 * (1 + stB d')
          have : rn * (1 + stB d') ≤ 3 * (1 + stB d') := Nat.mul_le_mul_right _ (by omega)
          exact Nat.le_trans hst this
        · exact hw
theorem ok_lgone {f fA : Addr} {fd fdA : FuncData} (F : Fun K "_law_gone" "_law_gone" sLGone f fd) (bS : Binds K fd ["_law_spots", "_law_some_here", "_law_steps_here"] []) (gS : mg "_law_gone" = some (.ref f)) (kS : PySem.W.keepIn K (.ref f) = true)
    (GA : FnOk P w K mg base CX0 3 fA fdA ["_law_spots", "_law_some_here", "_law_letters"] (spLAfter K)) (bA : Binds K fdA ["_law_spots", "_law_some_here", "_law_letters"] []) (gA : mg "_law_after" = some (.ref fA)) (kA : PySem.W.keepIn K (.ref fA) = true)
    (mi : mg "isinstance" = none) (mS : mg "str" = none) : ∀ m, FnOk P w K mg base CX0 (m + 4) f fd ["_law_spots", "_law_some_here", "_law_steps_here"] (spLGone K m) := by
  intro m
  induction m with
  | zero =>
    refine F.ok scLGone (fun vs H Q E h => ?_) (fun cdv A outer s H vs Q E hr h => ?_)
    · obtain ⟨a, t, g, cs, vs, ss, rfl, _⟩ := h
      rfl
    · obtain ⟨a, t, g, cs, vs, ss, rfl, hp, hl1, hl, ht, hv, ⟨xs, hx, hs⟩, ok, hn, q⟩ := h
      have nd := scLGone.nd
      have hr3 : Room 3 _ := hr.mono (by omega)
      refine ⟨_, pss_cons (ps_for PassesOwn.never rfl (pi_tup (pv 2)) (pg_name (i := 3) nd rfl (.inl rfl))
        (pss_one (ps_if (pt_val (pe_callB call_isi (by rfl) mi (by decide +kernel) (pa_cons (pv 3) (pa_cons (pe_bltn (v := .ty "str") (by rfl) mS (by decide +kernel) rfl) pa_nil))))
          (pss_one (ps_set (i := 1) nd rfl (.inl rfl) (pe_call GA hr3 (by rfl) gA kA bA .nil pass0 (pa_cons (pv 0) (pa_cons (pv 1) (pa_cons (pv 3) pa_nil))))))
          (pss_cons ps_never (pss_one ps_never)))))
      (pss_one (ps_ret (pv 1))), ?_⟩
      refine ⟨_, rfl, g, rfl, ⟨_, hx⟩, ?_⟩
      refine for_it (walk_tup (K := K) (a := g) (xs := xs)) (fun i σ G => ∃ (u : Addr) (y3 y4 y5 : Option V), σ = [some (.ref a), some (.ref u), some (.ref g), y3, y4, y5] ∧ Same H G ∧ SqT K G u ((aft cs (spellL (ss.take i)) vs).map V.int)) ?_ ?_ ?_ ?_
      · refine ⟨t, none, none, none, rfl, Same.refl _, ?_⟩
        rw [List.take_zero]
        simp only [spellL]
        exact ht
      · rintro i σ G _ ⟨_, _, _, _, _, sg, _⟩
        exact same_seqT sg hx
      · rintro i x σ G G' hi ⟨u, y3, y4, y5, rfl, sg, hu⟩ ⟨rfl, hx'⟩
        have hx' : xs[i]? = some x := hx'
        obtain ⟨s1, e1, a1⟩ := hs.get hx'
        have m1 := List.mem_of_getElem? e1
        have n1 := nest_mem m1
        have o1 := ok_mem ok m1
        cases a1 with
        | w l =>
          refine ⟨_, rfl, _, _, _, _, true, rfl, .ty "str", .base (.str _), kit_ty (by decide +kernel), true, rfl, ?_⟩
          refine ⟨_, rfl, _, rfl, _, rfl, a, u, l, cs, _, rfl, hp.kt (.of_same sg), hl, hu, by rw [aft_len, hv], fun G1 u1 s1 hu1 => ?_⟩
          refine ⟨u1, _, _, _, rfl, sg.trans s1, ?_⟩
          rw [spellL_take e1, aft_app]
          simp only [Stp.spell]
          exact hu1
        | r h1 h2 h3 =>
          simp only [Stp.nest] at n1
          omega
      · rintro σ G ⟨u, y3, y4, y5, rfl, sg, hu⟩
        rw [hs.len, List.take_length] at hu
        exact ⟨_, rfl, q G u sg hu⟩
  | succ m GS =>
    refine F.ok scLGone (fun vs H Q E h => ?_) (fun cdv A outer s H vs Q E hr h => ?_)
    · obtain ⟨a, t, g, cs, vs, ss, rfl, _⟩ := h
      rfl
    · obtain ⟨a, t, g, cs, vs, ss, rfl, hp, hl1, hl, ht, hv, ⟨xs, hx, hs⟩, ok, hn, q⟩ := h
      have nd := scLGone.nd
      have hr3 : Room 3 _ := hr.mono (by omega)
      refine ⟨_, pss_cons (ps_for PassesOwn.never rfl (pi_tup (pv 2)) (pg_name (i := 3) nd rfl (.inl rfl))
        (pss_one (ps_if (pt_val (pe_callB call_isi (by rfl) mi (by decide +kernel) (pa_cons (pv 3) (pa_cons (pe_bltn (v := .ty "str") (by rfl) mS (by decide +kernel) rfl) pa_nil))))
          (pss_one (ps_set (i := 1) nd rfl (.inl rfl) (pe_call GA hr3 (by rfl) gA kA bA .nil pass0 (pa_cons (pv 0) (pa_cons (pv 1) (pa_cons (pv 3) pa_nil))))))
          (pss_cons (ps_asg (pe_tup (pa_cons pe_int (pa_cons (pe_tup pa_nil) pa_nil))) (pg_tup (by rfl) (pgs_cons (pg_name (i := 4) nd rfl (.inl rfl)) (pgs_cons (pg_name (i := 5) nd rfl (.inl rfl)) pgs_nil))))
            (pss_one (ps_while PassesOwn.never (PW.pt (pw_and (pt_cmpR op_lt (pv 4) (pe_ix ix_tup (pv 3) pe_int (fun _ _ => rfl)) (nomark _)) (pw_and1 (pt_cmpR (op_neD hr.units) (pv 1) (pv 5) (nomark _)))))
              (pss_one (ps_par3 (i := 4) (j := 5) (l := 1) (by rfl) nd rfl rfl rfl (by decide) (by decide) (by decide) rfl rfl rfl (pa_cons (pe_op op_add (pv 4) pe_int) (pa_cons (pv 1) (pa_cons (pe_call GS hr (by rfl) gS kS bS .nil pass0 (pa_cons (pv 0) (pa_cons (pv 1) (pa_cons (pe_ix ix_tup (pv 3) pe_int (fun _ _ => rfl)) pa_nil)))) pa_nil))) (by rfl)))))))))
      (pss_one (ps_ret (pv 1))), ?_⟩
      refine ⟨_, rfl, g, rfl, ⟨_, hx⟩, ?_⟩
      refine for_it (walk_tup (K := K) (a := g) (xs := xs)) (fun i σ G => ∃ (u : Addr) (y3 y4 y5 : Option V), σ = [some (.ref a), some (.ref u), some (.ref g), y3, y4, y5] ∧ Same H G ∧ SqT K G u ((aft cs (spellL (ss.take i)) vs).map V.int)) ?_ ?_ ?_ ?_
      · refine ⟨t, none, none, none, rfl, Same.refl _, ?_⟩
        rw [List.take_zero]
        simp only [spellL]
        exact ht
      · rintro i σ G _ ⟨_, _, _, _, _, sg, _⟩
        exact same_seqT sg hx
      · rintro i x σ G G' hi ⟨u, y3, y4, y5, rfl, sg, hu⟩ ⟨rfl, hx'⟩
        have hx' : xs[i]? = some x := hx'
        obtain ⟨s1, e1, a1⟩ := hs.get hx'
        have m1 := List.mem_of_getElem? e1
        have n1 := nest_mem m1
        have o1 := ok_mem ok m1
        cases a1 with
        | w l =>
          refine ⟨_, rfl, _, _, _, _, true, rfl, .ty "str", .base (.str _), kit_ty (by decide +kernel), true, rfl, ?_⟩
          refine ⟨_, rfl, _, rfl, _, rfl, a, u, l, cs, _, rfl, hp.kt (.of_same sg), hl, hu, by rw [aft_len, hv], fun G1 u1 s1 hu1 => ?_⟩
          refine ⟨u1, _, _, _, rfl, sg.trans s1, ?_⟩
          rw [spellL_take e1, aft_app]
          simp only [Stp.spell]
          exact hu1
        | @r t' b n0 ys sb h1g h2 h3 =>
          simp only [Stp.nest] at n1
          simp only [Stp.ok] at o1
          have tgt : itA cs (spellL sb) n0.toNat (aft cs (spellL (ss.take i)) vs) = aft cs (spellL (ss.take (i + 1))) vs := by
            rw [spellL_take e1, aft_app]
            simp only [Stp.spell]
            exact (aft_rep _ _ _ _).symm
          have h1 := same_seqT sg h1g
          refine ⟨_, rfl, _, _, _, _, false, rfl, .ty "str", tyx_tup h1, kit_ty (by decide +kernel), false, rfl, ?_⟩
          refine ⟨by show 0 ≤ sizeLine; decide, fun U nU => ?_⟩
          have sU := same_new (o := .tup []) nU
          have hU : upd G' U (.tup []) U = some (.tup []) := upd_same
          generalize upd G' U (.tup []) = G1 at sU hU ⊢
          refine ⟨by show 2 ≤ sizeLine; decide, fun T nT => ?_⟩
          have sT := same_new (o := .tup [.int 0, .ref U]) nT
          have hT : upd G1 T (.tup [.int 0, .ref U]) T = some (.tup [.int 0, .ref U]) := upd_same
          generalize upd G1 T (.tup [.int 0, .ref U]) = G2 at sT hT ⊢
          refine ⟨T, _, rfl, SqT.of hT, rfl, _, _, rfl, _, _, rfl, rfl, ?_⟩
          have sg2 := (sg.trans sU).trans sT
          refine ⟨fun n σ' G' => ∃ (turn : Nat) (u w : Addr) (x y : List Int), n = (if x = y then 0 else inv x + 1) ∧ σ' = [some (.ref a), some (.ref u), some (.ref g), some (.ref t'), some (.int (turn : Nat)), some (.ref w)] ∧ turn ≤ n0.toNat ∧ Same H G' ∧ SqT K G' u (x.map V.int) ∧ SqT K G' w (y.map V.int) ∧ x.length = cs.length ∧ (x = y → aft cs (spellL sb) x = x) ∧ itA cs (spellL sb) (n0.toNat - turn) x = aft cs (spellL (ss.take (i + 1))) vs, ?_, ?_⟩
          · exact ⟨_, 0, u, U, _, [], rfl, rfl, Nat.zero_le _, sg2, same_seqT (sU.trans sT) hu, SqT.of (sT _ _ hU), by rw [aft_len, hv], fun z => by
              have l0 : (aft cs (spellL (ss.take i)) vs).length = cs.length := by rw [aft_len, hv]
              rw [z] at l0
              have : cs.length = 0 := l0.symm
              omega, tgt⟩
          · rintro n σ' G' ⟨turn, u, w, x, y, rfl, rfl, lt, sg', hu, hw, hxl, hfx, ht⟩
            have h1' := same_seqT sg' h1g
            refine ⟨_, rfl, _, rfl, t', _, 1, .int n0, rfl, rfl, h1', rfl, _, _, rfl, rfl, ?_⟩
            have eqv : PyData.eqv (lineD x) (lineD y) = decide (x = y) := ints_eqvT _ _
            by_cases c0 : (turn : Int) < n0
            rotate_left
            · refine ⟨false, bl_false c0, ?_⟩
              have z : n0.toNat - turn = 0 := by omega
              rw [z] at ht
              have ht : x = _ := ht
              subst ht
              exact ⟨u, _, _, _, rfl, sg', hu⟩
            refine ⟨true, bl_true c0, ?_⟩
            refine ⟨_, rfl, _, rfl, lineD x, lineD y, .tup hu (dp_ints _), .tup hw (dp_ints _), line_shaped _, line_shaped _, ?_⟩
            rw [eqv]
            by_cases e : x = y
            · rw [decide_eq_true e]
              refine ⟨false, rfl, ?_⟩
              have fx := hfx e
              rw [itA_fix fx] at ht
              subst ht
              exact ⟨u, _, _, _, rfl, sg', hu⟩
            rw [decide_eq_false e]
            refine ⟨true, rfl, fun σ'' G'' => ∃ n', n' < (if x = y then 0 else inv x + 1) ∧ ∃ (turn : Nat) (u w : Addr) (x y : List Int), n' = (if x = y then 0 else inv x + 1) ∧ σ'' = [some (.ref a), some (.ref u), some (.ref g), some (.ref t'), some (.int (turn : Nat)), some (.ref w)] ∧ turn ≤ n0.toNat ∧ Same H G'' ∧ SqT K G'' u (x.map V.int) ∧ SqT K G'' w (y.map V.int) ∧ x.length = cs.length ∧ (x = y → aft cs (spellL sb) x = x) ∧ itA cs (spellL sb) (n0.toNat - turn) x = aft cs (spellL (ss.take (i + 1))) vs, fun _ _ z => z, ?_⟩
            rw [if_neg e]
            refine ⟨_, rfl, _, _, rfl, rfl, _, rfl, _, rfl, _, rfl, _, rfl, t', _, 2, .ref b, rfl, rfl, h1', rfl, a, u, b, cs, x, sb, rfl, hp.kt (.of_same sg'), hl1, hl, hu, hxl, ⟨ys, same_seqT sg' h2, h3.kt (.of_same sg')⟩, o1.2.2, by omega, fun G1 u1 s1 hu1 => ?_⟩
            refine ⟨_, _, _, rfl, ?_⟩
            have l1 : (aft cs (spellL sb) x).length = cs.length := by rw [aft_len, hxl]
            have lt1 : n0.toNat - turn = (n0.toNat - (turn + 1)) + 1 := by omega
            rw [lt1] at ht
            have ht : itA cs (spellL sb) (n0.toNat - (turn + 1)) (aft cs (spellL sb) x) = _ := ht
            refine ⟨(if aft cs (spellL sb) x = x then 0 else inv (aft cs (spellL sb) x) + 1), ?_, turn + 1, u1, u, aft cs (spellL sb) x, x, rfl, rfl, by omega, sg'.trans s1, hu1, same_seqT s1 hu, l1, fun z => by rw [z, z], ht⟩
            by_cases z : aft cs (spellL sb) x = x
            · rw [if_pos z]
              omega
            · rw [if_neg z]
              rcases aft_dn (spellL sb) hxl with z2 | z2
              · exact absurd z2 z
              · omega
      · rintro σ G ⟨u, y3, y4, y5, rfl, sg, hu⟩
        rw [hs.len, List.take_length] at hu
        exact ⟨_, rfl, q G u sg hu⟩
theorem free_ne {b : Int} {vs : List Int} (h : vs.length ≤ 24) : (((List.range 30).map fun (k : Nat) => b + (k : Int)).filter fun x => decide (x ∉ vs)) ≠ [] := by
  intro e
  have all : ∀ k : Nat, k < 30 → b + (k : Int) ∈ vs := by
    intro k hk
    by_cases c : b + (k : Int) ∈ vs
    · exact c
    · exfalso
      have : b + (k : Int) ∈ (((List.range 30).map fun (k : Nat) => b + (k : Int)).filter fun x => decide (x ∉ vs)) := List.mem_filter.mpr ⟨List.mem_map.mpr ⟨k, List.mem_range.mpr hk, rfl⟩, decide_eq_true c⟩
      rw [e] at this
      cases this
  have h2 := nodup_len_le (l := List.range 30) (m := vs.map fun x => (x - b).toNat) List.nodup_range fun k hk => by
    refine List.mem_map.mpr ⟨_, all k (List.mem_range.mp hk), ?_⟩
    omega
  rw [List.length_range, List.length_map] at h2
  omega
theorem ok_lfree {f fD : Addr} {fd fdD : FuncData} (F : Fun K "_law_free" "_law_free" sLFree f fd)
    (GD : FnOk P w K mg base CX0 1 fD fdD ["_law_pool_here", "_law_most"] spDraw) (bD : Binds K fdD ["_law_pool_here", "_law_most"] []) (gD : mg "_law_draw" = some (.ref fD)) (kD : PySem.W.keepIn K (.ref fD) = true)
    (mr : mg "range" = none) : FnOk P w K mg base CX0 2 f fd ["_law_pool_here", "_law_some_here"] (spLFree K) := by
  refine F.ok scLFree (fun vs H Q E h => ?_) (fun cdv A outer s H vs Q E hr h => ?_)
  · obtain ⟨p, t, vs, rfl, _⟩ := h
    rfl
  · obtain ⟨p, t, vs, rfl, po, ht, hl, q⟩ := h
    have nd := scLFree.nd
    refine ⟨_, pss_cons (ps_set (i := 2) nd rfl (.inr rfl) (pe_op op_add pe_int (pe_call GD hr (by rfl) gD kD bD .nil pass0 (pa_cons (pv 0) (pa_cons pe_int pa_nil)))))
      (pss_one (ps_ret (pe_ix ix_list (pe_lc (own := [("_law_k", 3)]) (g := gName 3) rfl nd (pi_range1 (by rfl) mr (pa_cons pe_int pa_nil)) (blkOk_by (N := nLFree) (sc := defScope sLFree) (by decide +kernel))
        (fun _ _ _ _ _ => pg_name (i := 3) nd rfl (Or.inl rfl)) (fun _ _ _ _ _ => pts_one (pt_cmpR (r := rIn K true) op_notIn_seq (pe_op op_add (pv 2) (pv 3)) (pv 1) (by rfl))) (fun _ _ _ _ _ => pe_op op_add (pv 2) (pv 3))) pe_int (fun _ _ => rfl)))), ?_⟩
    refine ⟨_, rfl, p, 9960, rfl, po, by decide, by decide, fun H1 r k1 po1 r0 r1 => ?_⟩
    refine ⟨_, _, rfl, rfl, ?_⟩
    have ht1 := keepX_seqT po k1 ht
    refine ⟨30, rfl, by decide, by decide, fun D nD => ?_⟩
    refine lc_range (lo := 0) (n := 30) (fun j G => G D = some (.lst ((((List.range j).map fun (k : Nat) => (1 + r) + (k : Int)).filter fun x => decide (x ∉ vs)).map V.int)) ∧ (∀ b o, b ≠ D → H1 b = some o → G b = some o)) ?_ ?_ ?_
    · exact ⟨upd_same, fun b o n e => by rw [upd_ne n]; exact e⟩
    · rintro j G hj ⟨a1, a2⟩
      have sD : Same H1 G := fun b o e => a2 b o (ne_of_none e nD) e
      refine ⟨rfl, _, rfl, _, rfl, _, _, rfl, rfl, _, rfl, t, _, rfl, .inr (same_seqT sD ht1), rfl, flat_ints _, ?_⟩
      have el : (((List.range (j + 1)).map fun (k : Nat) => (1 + r) + (k : Int)).filter fun x => decide (x ∉ vs)) = (((List.range j).map fun (k : Nat) => (1 + r) + (k : Int)).filter fun x => decide (x ∉ vs)) ++ (if (1 + r) + (j : Int) ∈ vs then [] else [(1 + r) + (j : Int)]) := by
        rw [List.range_succ, List.map_append, List.filter_append]
        congr 1
        by_cases c : (1 + r) + (j : Int) ∈ vs
        · rw [if_pos c]
          simp [c]
        · rw [if_neg c]
          simp [c]
      have e0 : (0 : Int) + (j : Int) = (j : Int) := by omega
      rw [inV_ints, e0]
      by_cases c : (1 + r) + (j : Int) ∈ vs
      · rw [decide_eq_true c]
        refine ⟨false, rfl, ?_, a2⟩
        rw [el, if_pos c, List.append_nil]
        exact a1
      · rw [decide_eq_false c]
        refine ⟨true, rfl, _, rfl, _, rfl, _, _, rfl, rfl, _, a1, ?_, ?_, fun b o n e => ?_⟩
        · rw [List.length_map]
          refine small64 ?_
          have := List.length_filter_le (fun x => decide (x ∉ vs)) ((List.range j).map fun (k : Nat) => (1 + r) + (k : Int))
          rw [List.length_map, List.length_range] at this
          omega
        · rw [upd_same, el, if_neg c, List.map_append]
          rfl
        · rw [upd_ne n]
          exact a2 b o n e
    · rintro G ⟨a1, a2⟩
      have sD : Same H1 G := fun b o e => a2 b o (ne_of_none e nD) e
      have ne := free_ne (b := 1 + r) hl
      generalize hL : (((List.range 30).map fun (k : Nat) => (1 + r) + (k : Int)).filter fun x => decide (x ∉ vs)) = L at a1 ne
      cases L with
      | nil => exact absurd rfl ne
      | cons v L =>
        have hv : v ∈ (((List.range 30).map fun (k : Nat) => (1 + r) + (k : Int)).filter fun x => decide (x ∉ vs)) := by rw [hL]; exact List.mem_cons_self
        obtain ⟨m1, m2⟩ := List.mem_filter.mp hv
        obtain ⟨k, hk, e⟩ := List.mem_map.mp m1
        have hk := List.mem_range.mp hk
        refine ⟨D, _, 0, .int v, rfl, rfl, SqL.of a1, (show atI _ ((0 : Nat) : Int) = _ from atI_nat rfl), ?_⟩
        exact q G v (k1.trans (.of_same sD)) (po1.same sD) (by omega) (by omega) (of_decide_eq_true m2)
end
end KS
/-! the law's edits: drawn, what is behind them, done -/
namespace KS
open PySem PySem.Spec PyProof.Rows L2 RZ
def spLEdit (K : PySem.W.Frag) : Sp := fun xs H Q _ => ∃ (p a t : Addr) (cs : List Cell) (vs : List Int), xs = [.ref p, .ref a, .ref t] ∧ PoolO (H p) ∧ PlanN H a cs ∧ Good cs ∧ cs.length ≤ 24 ∧ SqT K H t (vs.map V.int) ∧ Vals9 cs.length vs ∧
  ∀ H' u e, KeepX p H H' → PoolO (H' p) → EdA K H' cs (.ref u) e → e.ok cs.length vs → e.sm → Q (.ref u) H'
def spLBeh (K : PySem.W.Frag) : Sp := fun xs H Q _ => ∃ (a t : Addr) (x : V) (cs : List Cell) (vs : List Int) (e : Ed), xs = [.ref a, .ref t, x] ∧ PlanN H a cs ∧ Good cs ∧ cs.length ≤ 24 ∧ SqT K H t (vs.map V.int) ∧ Vals9 cs.length vs ∧ EdA K H cs x e ∧ e.ok cs.length vs ∧
  ∀ H' u, Same H H' → SqT K H' u ((e.beh cs vs).map V.int) → Q (.ref u) H'
abbrev sLEdit : Stmt := topS 80
abbrev nLEdit : List Str := ["_law_pool_here", "_law_spots", "_law_some_here", "_law_way", "_law_at", "_law_mate"]
theorem scLEdit : FnScope nLEdit ["_law_pool_here", "_law_spots", "_law_some_here"] (defScope sLEdit) := ⟨rfl, rfl, rfl, by decide +kernel, rfl, by decide +kernel, by decide +kernel⟩
abbrev sLBeh : Stmt := topS 81
abbrev nLBeh : List Str := ["_law_spots", "_law_some_here", "_law_edit_here", "_law_found", "_law_at", "_law_mate"]
theorem scLBeh : FnScope nLBeh ["_law_spots", "_law_some_here", "_law_edit_here"] (defScope sLBeh) := ⟨rfl, rfl, rfl, by decide +kernel, rfl, by decide +kernel, by decide +kernel⟩
theorem index_facts {cs : List Cell} (gd : Good cs) {c : Cell} {i : Nat} (hc : cs[i]? = some c) : (cs.map cellD)[i]? = some (cellD c) ∧ PyData.eqv (cellD c) (cellD c) = true ∧ (∀ (m : Nat) (z' : PyData), m < i → (cs.map cellD)[m]? = some z' → PyData.eqv z' (cellD c) = false) := by
  refine ⟨?_, ?_, ?_⟩
  · rw [List.getElem?_map, hc]
    rfl
  · rw [cell_eqv]
    simp
  · intro m z hm hz
    rw [List.getElem?_map] at hz
    cases e : cs[m]? with
    | none =>
      rw [e] at hz
      cases hz
    | some d =>
      rw [e] at hz
      cases hz
      rw [cell_eqv]
      exact decide_eq_false (good_at gd hc e (by omega))
theorem cellT_dp {K : PySem.W.Frag} {H : Hp} {x : V} {c : Cell} (h : CellT H x c) : Dp K H x (cellD c) := by
  obtain ⟨t, rfl, ht⟩ := cellT_at (K := K) h
  exact dp_cell ht
section
variable {P : Program} {w : World} {K : PySem.W.Frag} {mg : Str → Option Value} {base : Heap} {C : Addr}
theorem ok_ledit {f fD fF fS : Addr} {fd fdD fdF fdS : FuncData} (F : Fun K "_law_edit" "_law_edit" sLEdit f fd)
    (GD : FnOk P w K mg base CX0 1 fD fdD ["_law_pool_here", "_law_most"] spDraw) (bD : Binds K fdD ["_law_pool_here", "_law_most"] []) (gD : mg "_law_draw" = some (.ref fD)) (kD : PySem.W.keepIn K (.ref fD) = true)
    (GF : FnOk P w K mg base CX0 2 fF fdF ["_law_pool_here", "_law_some_here"] (spLFree K)) (bF : Binds K fdF ["_law_pool_here", "_law_some_here"] []) (gF : mg "_law_free" = some (.ref fF)) (kF : PySem.W.keepIn K (.ref fF) = true)
    (GS : FnOk P w K mg base CX0 5 fS fdS ["_law_pool_here", "_law_many", "_law_deep"] (spLStp K 2)) (bS : Binds K fdS ["_law_pool_here", "_law_many", "_law_deep"] []) (gS : mg "_law_steps" = some (.ref fS)) (kS : PySem.W.keepIn K (.ref fS) = true)
    (ml : mg "len" = none) : FnOk P w K mg base CX0 6 f fd ["_law_pool_here", "_law_spots", "_law_some_here"] (spLEdit K) := by
  refine F.ok scLEdit (fun vs H Q E h => ?_) (fun cdv A outer s H vs Q E hr h => ?_)
  · obtain ⟨p, a, t, cs, vs, rfl, _⟩ := h
    rfl
  · obtain ⟨p, a, t, cs, vs, rfl, po, hp, gd, hl, ht, v9, q⟩ := h
    have nd := scLEdit.nd
    have hr1 : Room 1 _ := hr.mono (by omega)
    have hr2 : Room 2 _ := hr.mono (by omega)
    refine ⟨_, pss_cons (ps_par3 (i := 3) (j := 4) (l := 5) (by rfl) nd rfl rfl rfl (by decide) (by decide) (by decide) rfl rfl rfl (pa_cons (pe_call GD hr1 (by rfl) gD kD bD .nil pass0 (pa_cons (pv 0) (pa_cons pe_int pa_nil))) (pa_cons (pe_call GD hr1 (by rfl) gD kD bD .nil pass0 (pa_cons (pv 0) (pa_cons (pe_callB call_len_seq (by rfl) ml PySem.boot_len (pa_cons (pv 1) pa_nil)) pa_nil))) (pa_cons (pe_call GD hr1 (by rfl) gD kD bD .nil pass0 (pa_cons (pv 0) (pa_cons (pe_callB call_len_seq (by rfl) ml PySem.boot_len (pa_cons (pv 1) pa_nil)) pa_nil))) pa_nil))) (by rfl))
      (pss_cons (ps_if (pt_cmpR op_eq (pv 3) pe_int (nomark _)) (pss_one (ps_ret (pe_tup (pa_cons pe_str (pa_cons (pe_ix ix_tup (pv 1) (pv 4) (fun _ _ => rfl)) (pa_cons (pe_ifExp (pt_cmpR op_eq (pe_call GD hr1 (by rfl) gD kD bD .nil pass0 (pa_cons (pv 0) (pa_cons pe_int pa_nil))) pe_int (nomark _)) (pe_ix ix_tup (pv 2) (pv 4) (fun _ _ => rfl)) (pe_call GF hr2 (by rfl) gF kF bF .nil pass0 (pa_cons (pv 0) (pa_cons (pv 2) pa_nil)))) pa_nil)))))) pss_nil)
      (pss_cons (ps_if (pt_cmpR op_eq (pv 3) pe_int (nomark _)) (pss_one (ps_ret (pe_tup (pa_cons pe_str (pa_cons (pe_ix ix_tup (pv 1) (pv 4) (fun _ _ => rfl)) (pa_cons (pe_ix ix_tup (pv 1) (pv 5) (fun _ _ => rfl)) pa_nil)))))) pss_nil)
      (pss_one (ps_ret (pe_tup (pa_cons pe_str (pa_cons (pe_call GS hr (by rfl) gS kS bS .nil pass0 (pa_cons (pv 0) (pa_cons pe_int (pa_cons pe_int pa_nil)))) pa_nil))))))), ?_⟩
    have hvl := v9.len
    have n0 : 1 ≤ cs.length := by
      have := gd.ne
      cases cs with
      | nil => exact absurd rfl this
      | cons _ _ => simp
    refine ⟨_, rfl, p, 4, rfl, po, by decide, by decide, fun H1 r1 k1 po1 r10 r11 => ?_⟩
    obtain ⟨xs, hN, hcs⟩ := id hp
    have hxl := Paired.length hcs
    have hp1 := hp.kn (.of_pool po k1)
    obtain ⟨xs1, hN1, hcs1⟩ := id hp1
    have hxl1 := Paired.length hcs1
    refine ⟨_, rfl, _, rfl, a, xs1, rfl, .inr hN1.sq, p, _, rfl, po1, by omega, by omega, fun H2 r2 k2 po2 r20 r21 => ?_⟩
    have hp2 := hp1.kn (.of_pool po1 k2)
    obtain ⟨xs2, hN2, hcs2⟩ := id hp2
    have hxl2 := Paired.length hcs2
    refine ⟨_, rfl, _, rfl, a, xs2, rfl, .inr hN2.sq, p, _, rfl, po2, by omega, by omega, fun H3 r3 k3 po3 r30 r31 => ?_⟩
    have hp3 := hp2.kn (.of_pool po2 k3)
    obtain ⟨i, rfl⟩ := Int.eq_ofNat_of_zero_le r20
    obtain ⟨j, rfl⟩ := Int.eq_ofNat_of_zero_le r30
    have hi : i < cs.length := by omega
    have hj : j < cs.length := by omega
    refine ⟨_, _, _, rfl, ?_⟩
    have kx := (k1.trans k2).trans k3
    have ht3 : SqT K H3 t (vs.map V.int) := keepX_seqT po kx ht
    clear hp1 hN1 hcs1 hxl1 hp2 hN2 hcs2 hxl2
    obtain ⟨xs, hN, hcs⟩ := id hp3
    have hxl := Paired.length hcs
    have ci : cs[i]? = some cs[i] := List.getElem?_eq_getElem hi
    have cj : cs[j]? = some cs[j] := List.getElem?_eq_getElem hj
    have xi : xs[i]? = some xs[i] := List.getElem?_eq_getElem (by omega)
    have xj : xs[j]? = some xs[j] := List.getElem?_eq_getElem (by omega)
    have cti : CellT H3 xs[i] cs[i] := by
      obtain ⟨c, e1, e2⟩ := paired_get hcs xi
      rw [ci] at e1
      cases e1
      exact e2
    have ctj : CellT H3 xs[j] cs[j] := by
      obtain ⟨c, e1, e2⟩ := paired_get hcs xj
      rw [cj] at e1
      cases e1
      exact e2
    have vi : vs[i]? = some (vs.getD i 0) := by rw [List.getElem?_eq_getElem (by omega), getD_mem (by omega)]
    refine ⟨_, rfl, rfl, _, rfl, ite2 (fun e => ?_) (fun e => ?_)⟩
    · -- set
      have fin : ∀ (G : Hp) (v : Int), KeepX p H3 G → PoolO (G p) → (Ed.set i v).ok cs.length vs → ∀ u, G u = none → Q (.ref u) (upd G u (.tup [.str "set", xs[i], .int v])) := by
        intro G v k po ok u nu
        have su := same_new (o := .tup [.str "set", xs[i], .int v]) nu
        exact q _ u (.set i v) ((kx.trans k).trans (.of_same su)) (po.same su) (.set (SqT.of upd_same) (cellT_same su (cellT_kn (.of_pool po3 k) cti)) ci) ok trivial
      refine ⟨_, rfl, _, rfl, a, _, _, _, rfl, rfl, hN.sq, atI_nat xi, ?_⟩
      refine ⟨_, rfl, p, 4, rfl, po3, by decide, by decide, fun H4 r4 k4 po4 r40 r41 => ?_⟩
      refine ⟨rfl, _, rfl, ite2 (fun e4 => ?_) (fun e4 => ?_)⟩
      · refine ⟨_, rfl, _, rfl, t, _, _, _, rfl, rfl, keepX_seqT po3 k4 ht3, atI_nat (by rw [List.getElem?_map, vi]; rfl), by show 3 ≤ sizeLine; decide, ?_⟩
        refine fin H4 _ k4 po4 ⟨hi, ?_, ?_, fun m hm n z => ?_⟩
        · exact (v9.bd _ (List.mem_of_getElem? vi)).1
        · exact (v9.bd _ (List.mem_of_getElem? vi)).2
        · rw [getD_mem (by omega), getD_mem (by omega)] at z
          exact n ((List.getElem_inj v9.nd).mp z)
      · refine ⟨_, rfl, _, rfl, p, t, vs, rfl, po4, keepX_seqT po3 k4 ht3, by omega, fun H5 v k5 po5 v1 v2 vn => ⟨by show 3 ≤ sizeLine; decide, ?_⟩⟩
        refine fin H5 v (k4.trans k5) po5 ⟨hi, v1, v2, fun m hm _ z => ?_⟩
        rw [getD_mem (by omega)] at z
        exact vn (by rw [← z]; exact List.getElem_mem _)
    refine ⟨_, rfl, rfl, _, rfl, ite2 (fun e => ?_) (fun e => ?_)⟩
    · refine ⟨_, rfl, _, rfl, a, _, _, _, rfl, rfl, hN.sq, atI_nat xi, _, rfl, _, rfl, a, _, _, _, rfl, rfl, hN.sq, atI_nat xj, by show 3 ≤ sizeLine; decide, fun u nu => ?_⟩
      have su := same_new (o := .tup [.str "swap", xs[i], xs[j]]) nu
      exact q _ u (.swap i j) (kx.trans (.of_same su)) (po3.same su) (.swap (SqT.of upd_same) (cellT_same su cti) (cellT_same su ctj) ci cj) ⟨hi, hj⟩ trivial
    · refine ⟨_, rfl, p, 3, 3, rfl, po3, by decide, by decide, by decide, fun H4 g ss k4 po4 hg ok hn hst hw => ⟨by show 2 ≤ sizeLine; decide, fun u nu => ?_⟩⟩
      have su := same_new (o := .tup [.str "arrange", .ref g]) nu
      exact q _ u (.arr ss) ((kx.trans k4).trans (.of_same su)) (po4.same su) (.arr (SqT.of upd_same) (hg.kt (.of_same su))) ⟨ok, by omega, Nat.le_trans hst (by decide)⟩ ⟨hw, hst⟩
theorem ok_lbeh {f fG : Addr} {fd fdG : FuncData} (F : Fun K "_law_behind" "_law_behind" sLBeh f fd)
    (GG : FnOk P w K mg base CX0 8 fG fdG ["_law_spots", "_law_some_here", "_law_steps_here"] (spLGone K 4)) (bG : Binds K fdG ["_law_spots", "_law_some_here", "_law_steps_here"] []) (gG : mg "_law_gone" = some (.ref fG)) (kG : PySem.W.keepIn K (.ref fG) = true)
    (mL : mg "list" = none) (mT : mg "tuple" = none) : FnOk P w K mg base CX0 9 f fd ["_law_spots", "_law_some_here", "_law_edit_here"] (spLBeh K) := by
  refine F.ok scLBeh (fun vs H Q E h => ?_) (fun cdv A outer s H vs Q E hr h => ?_)
  · obtain ⟨a, t, x, cs, vs, e, rfl, _⟩ := h
    rfl
  · obtain ⟨a, t, x, cs, vs, e, rfl, hp, gd, hl, ht, v9, he, ok, q⟩ := h
    have nd := scLBeh.nd
    have hu : (A.deeper (envOfC "_law_behind" (defScope sLBeh) s.heap.objs.size f cdv)).units + 65 < cLine := by
      have := hr.un
      omega
    refine ⟨_, pss_cons (ps_if (pt_cmpR op_eq (pe_ix ix_tup (pv 2) pe_int (fun _ _ => rfl)) pe_str (nomark _)) (pss_one (ps_ret (pe_call GG hr (by rfl) gG kG bG .nil pass0 (pa_cons (pv 0) (pa_cons (pv 1) (pa_cons (pe_ix ix_tup (pv 2) pe_int (fun _ _ => rfl)) pa_nil)))))) pss_nil)
      (pss_cons (ps_par (i := 3) (j := 4) (by rfl) nd rfl rfl (by decide) rfl rfl (pa_cons (pe_callTy call_list_of (by rfl) mL (by decide +kernel) (pa_cons (pv 1) pa_nil)) (pa_cons (pe_bmT (r := rIndexD K) PySem.F.plainAttrs_tuple PySem.F.slot_tuple_index PySem.F.type_tuple_index (mt_indexD hu) (pv 0) (pa_cons (pe_ix ix_tup (pv 2) pe_int (fun _ _ => rfl)) pa_nil)) pa_nil)) (by rfl))
      (pss_cons (ps_if (pt_cmpR op_eq (pe_ix ix_tup (pv 2) pe_int (fun _ _ => rfl)) pe_str (nomark _)) (pss_one (ps_asg (pe_ix ix_tup (pv 2) pe_int (fun _ _ => rfl)) (pg_sub (pv 3) (pv 4) set_list)))
        (pss_cons (ps_set (i := 5) nd rfl (.inl rfl) (pe_bmT (r := rIndexD K) PySem.F.plainAttrs_tuple PySem.F.slot_tuple_index PySem.F.type_tuple_index (mt_indexD hu) (pv 0) (pa_cons (pe_ix ix_tup (pv 2) pe_int (fun _ _ => rfl)) pa_nil)))
          (pss_one (ps_asg (pe_tup (pa_cons (pe_ix ix_tup (pv 1) (pv 5) (fun _ _ => rfl)) (pa_cons (pe_ix ix_tup (pv 1) (pv 4) (fun _ _ => rfl)) pa_nil))) (pg_tup (by rfl) (pgs_cons (pg_sub (pv 3) (pv 4) set_list) (pgs_cons (pg_sub (pv 3) (pv 5) set_list) pgs_nil)))))))
      (pss_one (ps_ret (pe_callTy call_tuple_of (by rfl) mT (by decide +kernel) (pa_cons (pv 3) pa_nil)))))), ?_⟩
    have hvl := v9.len
    have n0 : 1 ≤ cs.length := by
      have := gd.ne
      cases cs with
      | nil => exact absurd rfl this
      | cons _ _ => simp
    have d1 : decide (V.str "set" = V.str "arrange") = false := by decide +kernel
    have d2 : decide (V.str "swap" = V.str "arrange") = false := by decide +kernel
    have d3 : decide (V.str "swap" = V.str "set") = false := by decide +kernel
    have d0 : decide (V.str "arrange" = V.str "arrange") = true := by decide +kernel
    have d4 : decide (V.str "set" = V.str "set") = true := by decide +kernel
    cases he with
    | @arr u g ss h1 h2 =>
      obtain ⟨o1, o2, o3⟩ := ok
      refine ⟨_, rfl, u, _, 0, .str "arrange", rfl, rfl, h1, rfl, rfl, true, congrArg V.bl d0, ?_⟩
      exact ⟨_, rfl, _, rfl, _, rfl, u, _, 1, .ref g, rfl, rfl, h1, rfl, a, t, g, cs, vs, ss, rfl, hp.t.at, n0, hl, ht, hvl, h2, o1, o2, fun H1 u1 s1 hu1 => q H1 u1 s1 hu1⟩
    | @set u y c i v h1 h2 h3 =>
      have hi := (List.getElem?_eq_some_iff.mp h3).1
      refine ⟨_, rfl, u, _, 0, .str "set", rfl, rfl, h1, rfl, rfl, false, congrArg V.bl d1, ?_⟩
      refine ⟨_, rfl, t, _, rfl, .inr ht, fun L nL => ?_⟩
      have sL := same_new (o := .lst (vs.map V.int)) nL
      have hL : upd H L (.lst (vs.map V.int)) L = some (.lst (vs.map V.int)) := upd_same
      generalize upd H L (.lst (vs.map V.int)) = H1 at sL hL ⊢
      have h1' := same_seqT sL h1
      have hp1 := hp.same sL
      obtain ⟨xs, hN, _⟩ := id hp1
      refine ⟨_, rfl, ⟨a, xs, rfl, hN⟩, _, rfl, u, _, 1, y, rfl, rfl, h1', rfl, ?_⟩
      obtain ⟨fy1, fy2, fy3⟩ := index_facts gd h3
      refine ⟨y, _, _, _, _, rfl, cellT_dp (cellT_same sL h2), PlanAt.dp hp1.t.at, cell_shaped _, plan_shaped _, fy1, fy2, fy3, ?_⟩
      refine ⟨_, _, rfl, ?_⟩
      refine ⟨_, rfl, u, _, 0, .str "set", rfl, rfl, h1', rfl, rfl, true, congrArg V.bl d4, ?_⟩
      refine ⟨_, rfl, u, _, 2, .int v, rfl, rfl, h1', rfl, _, rfl, _, rfl, L, _, (i : Int), i, rfl, rfl, hL, ixN_at (by rw [List.length_map]; omega), ?_⟩
      have e9 : (vs.map V.int).set i (.int v) = ((Ed.set i v).beh cs vs).map V.int := by
        show _ = (vs.set i v).map V.int
        rw [List.map_set]
      rw [e9]
      refine ⟨_, rfl, L, _, rfl, .inl ⟨SqL.of upd_same, fun U nU => ?_⟩⟩
      have sU := same_new (o := .tup (((Ed.set i v).beh cs vs).map V.int)) nU
      refine q _ U (fun b o e => sU _ _ ?_) (SqT.of upd_same)
      rw [upd_ne (ne_of_none e nL)]
      exact sL _ _ e
    | @swap u y z c d i j h1 h2 h3 h4 h5 =>
      have hi := (List.getElem?_eq_some_iff.mp h4).1
      have hj := (List.getElem?_eq_some_iff.mp h5).1
      refine ⟨_, rfl, u, _, 0, .str "swap", rfl, rfl, h1, rfl, rfl, false, congrArg V.bl d2, ?_⟩
      refine ⟨_, rfl, t, _, rfl, .inr ht, fun L nL => ?_⟩
      have sL := same_new (o := .lst (vs.map V.int)) nL
      have hL : upd H L (.lst (vs.map V.int)) L = some (.lst (vs.map V.int)) := upd_same
      generalize upd H L (.lst (vs.map V.int)) = H1 at sL hL ⊢
      have h1' := same_seqT sL h1
      have hp1 := hp.same sL
      have ht1 := same_seqT sL ht
      obtain ⟨xs, hN, _⟩ := id hp1
      refine ⟨_, rfl, ⟨a, xs, rfl, hN⟩, _, rfl, u, _, 1, y, rfl, rfl, h1', rfl, ?_⟩
      obtain ⟨fy1, fy2, fy3⟩ := index_facts gd h4
      refine ⟨y, _, _, _, _, rfl, cellT_dp (cellT_same sL h2), PlanAt.dp hp1.t.at, cell_shaped _, plan_shaped _, fy1, fy2, fy3, ?_⟩
      refine ⟨_, _, rfl, ?_⟩
      refine ⟨_, rfl, u, _, 0, .str "swap", rfl, rfl, h1', rfl, rfl, false, congrArg V.bl d3, ?_⟩
      refine ⟨_, rfl, ⟨a, xs, rfl, hN⟩, _, rfl, u, _, 2, z, rfl, rfl, h1', rfl, ?_⟩
      obtain ⟨fz1, fz2, fz3⟩ := index_facts gd h5
      refine ⟨z, _, _, _, _, rfl, cellT_dp (cellT_same sL h3), PlanAt.dp hp1.t.at, cell_shaped _, plan_shaped _, fz1, fz2, fz3, ?_⟩
      have gi : (vs.map V.int)[i]? = some (.int (vs.getD i 0)) := by rw [List.getElem?_map, List.getElem?_eq_getElem (by omega), getD_mem (by omega)]; rfl
      have gj : (vs.map V.int)[j]? = some (.int (vs.getD j 0)) := by rw [List.getElem?_map, List.getElem?_eq_getElem (by omega), getD_mem (by omega)]; rfl
      refine ⟨_, rfl, _, rfl, t, _, _, _, rfl, rfl, ht1, atI_nat gj, _, rfl, _, rfl, t, _, _, _, rfl, rfl, ht1, atI_nat gi, by show 2 ≤ sizeLine; decide, fun T nT => ?_⟩
      have sT := same_new (o := .tup [.int (vs.getD j 0), .int (vs.getD i 0)]) nT
      have hT : upd H1 T (.tup [.int (vs.getD j 0), .int (vs.getD i 0)]) T = some (.tup [.int (vs.getD j 0), .int (vs.getD i 0)]) := upd_same
      have hL4 := sT _ _ hL
      have s14 := sL.trans sT
      generalize upd H1 T (.tup [.int (vs.getD j 0), .int (vs.getD i 0)]) = H4 at hT hL4 s14 ⊢
      refine ⟨T, _, rfl, SqT.of hT, rfl, _, _, rfl, _, rfl, _, rfl, L, _, (i : Int), i, rfl, rfl, hL4, ixN_at (by rw [List.length_map]; omega), ?_⟩
      refine ⟨_, _, rfl, _, rfl, _, rfl, L, _, (j : Int), j, rfl, rfl, upd_same, ixN_at (by rw [List.length_set, List.length_map]; omega), rfl, ?_⟩
      rw [upd_upd]
      have eS : (((vs.map V.int).set i (.int (vs.getD j 0))).set j (.int (vs.getD i 0))) = ((Ed.swap i j).beh cs vs).map V.int := by
        show _ = ((vs.set i (vs.getD j 0)).set j (vs.getD i 0)).map V.int
        rw [List.map_set, List.map_set]
      rw [eS]
      refine ⟨_, rfl, L, _, rfl, .inl ⟨SqL.of upd_same, fun U nU => ?_⟩⟩
      have sU := same_new (o := .tup (((Ed.swap i j).beh cs vs).map V.int)) nU
      refine q _ U (fun b o e => sU _ _ ?_) (SqT.of upd_same)
      rw [upd_ne (ne_of_none e nL)]
      exact s14 _ _ e
end
end KS
/-! what a sheet shows -/
namespace KS
open PySem PySem.Spec PyProof.Rows L2 RZ
def MOk (P : Program) (w : World) (K : PySem.W.Frag) (mg : Str → Option Value) (base : Heap) (C : Addr) (m : Str) (n : Nat) (ps : List Str) (sp : Sp) : Prop := ∃ f fd, FnOk P w K mg base CX0 n f fd ps sp ∧ Binds K fd ps [] ∧ Meth K C m f
/-- the methods that read a sheet -/
structure ShRd (P : Program) (w : World) (K : PySem.W.Frag) (mg : Str → Option Value) (base : Heap) (C : Addr) : Prop where
  plan : MOk P w K mg base C "plan" 1 ["self"] (spShPlan K C)
  fil : MOk P w K mg base C "filling" 1 ["self"] (spShFil K C)
  log : MOk P w K mg base C "log" 1 ["self"] (spShLog K C)
  val : MOk P w K mg base C "value_at" 6 ["self", "cell"] (spShVal K C)
  set9 : MOk P w K mg base C "is_settled" 10 ["self"] (spShSet9 K C)
  len : MOk P w K mg base C "__len__" 1 ["self"] (spShLen K C)
  str : MOk P w K mg base C "__str__" 7 ["self"] (spShStr K C)
  repr : MOk P w K mg base C "__repr__" 1 ["self"] (spShRepr K C)
  eq : MOk P w K mg base C "__eq__" 1 ["self", "other"] (spShEq K C)
  ne : PySem.W.findIn K (.ref C) "__ne__" = some (some (.builtin "object.__ne__"))
def spShows (K : PySem.W.Frag) (C : Addr) : Sp := fun xs H Q _ => ∃ (a p q t p' t' d : Addr) (cs : List Cell) (vs : List Int) (ps : List (Ed × List Int)) (ys : List V), xs = [.ref a, .ref p', .ref t', .ref d] ∧ ShP K C H a p q t false cs vs ps ∧ PlanN H p cs ∧ PlanT K H p' cs ∧ SqT K H t' (vs.map V.int) ∧
  H d = some (.lst ys) ∧ EdsA K H cs ys (ps.map (·.1)) ∧ EdsSh cs (ps.map (·.1)) ∧ ps.length ≤ 70 ∧ ∀ H', Same H H' → Q (.bl true) H'
abbrev sLShows : Stmt := topS 83
abbrev nLShows : List Str := ["_law_board", "_law_spots", "_law_some_here", "_law_done", "_law_settled_here", "_law_told", "_law_due", "_law_spot", "_law_sort"]
theorem scLShows : FnScope nLShows ["_law_board", "_law_spots", "_law_some_here", "_law_done"] (defScope sLShows) := ⟨rfl, rfl, rfl, by decide +kernel, rfl, by decide +kernel, by decide +kernel⟩
theorem EdsA.dp {K : PySem.W.Frag} {H : Hp} {cs : List Cell} : ∀ {ys : List V} {es : List Ed}, EdsA K H cs ys es → DpAll K H ys (es.map (Ed.dat cs))
  | _, _, .nil => .nil
  | _, _, .cons h r => .cons h.dp (EdsA.dp r)
theorem EdsA.kn {K : PySem.W.Frag} {H H' : Hp} (k : KN H H') {cs : List Cell} {ys : List V} {es : List Ed} (h : EdsA K H cs ys es) : EdsA K H' cs ys es := Paired.mono (fun _ _ z => z.kn k) h
theorem page_she {cs : List Cell} {vs : List Int} (gd : Good cs) (v9 : Vals9 cs.length vs) : ShE (.str (page cs vs)) 400 0 := (she_str (page_sm v9) (page_len gd v9)).mono (by decide) (Nat.le_refl _)
theorem repr_eq : ∀ n : Nat, n ≤ 24 → (("Sheet(" : Str) ++ (Str.ofString (toString (n : Int)))) ++ (")" : Str) = shRepr n := by decide +kernel
theorem num_len : ∀ n : Nat, n ≤ 24 → (Str.ofString (toString (n : Int))).length ≤ 2 := by decide +kernel
theorem repr_she (n : Nat) (h : n ≤ 24) : ShE (.str (shRepr n)) 20 0 := by
  have z : ∀ n : Nat, n ≤ 24 → ((shRepr n).cps.toList.all fun c => decide (c < 16 ^ 8)) = true ∧ (shRepr n).length ≤ 20 := by decide +kernel
  obtain ⟨z1, z2⟩ := z n h
  exact she_str (fun c hc => of_decide_eq_true (List.all_eq_true.mp z1 c hc)) z2
section
variable {P : Program} {w : World} {K : PySem.W.Frag} {mg : Str → Option Value} {base : Heap} {C : Addr}
theorem ok_lshows {f fU fW : Addr} {fd fdU fdW : FuncData} (F : Fun K "_law_shows" "_law_shows" sLShows f fd) (T : ShCls K mg C) (B : ShRd P w K mg base C)
    (GU : FnOk P w K mg base CX0 2 fU fdU ["_law_spots", "_law_some_here", "_law_sort"] (spLRises K)) (bU : Binds K fdU ["_law_spots", "_law_some_here", "_law_sort"] []) (gU : mg "_law_rises" = some (.ref fU)) (kU : PySem.W.keepIn K (.ref fU) = true)
    (GW : FnOk P w K mg base CX0 1 fW fdW ["_law_spots", "_law_some_here"] (spPage K)) (bW : Binds K fdW ["_law_spots", "_law_some_here"] []) (gW : mg "_law_written" = some (.ref fW)) (kW : PySem.W.keepIn K (.ref fW) = true)
    (mR : mg "repr" = none) (mT : mg "tuple" = none) (mL : mg "list" = none) (ma : mg "all" = none) (ml : mg "len" = none) (mS : mg "str" = none) : FnG P w K mg base 12 f fd ["_law_board", "_law_spots", "_law_some_here", "_law_done"] (spShows K C) := by
  obtain ⟨f1, d1, G1, b1, m1⟩ := B.plan
  obtain ⟨f2, d2, G2, b2, m2⟩ := B.fil
  obtain ⟨f3, d3, G3, b3, m3⟩ := B.log
  obtain ⟨f4, d4, G4, b4, m4⟩ := B.val
  obtain ⟨f5, d5, G5, b5, m5⟩ := B.set9
  obtain ⟨f6, d6, G6, b6, m6⟩ := B.len
  obtain ⟨f7, d7, G7, b7, m7⟩ := B.str
  obtain ⟨f8, d8, G8, b8, m8⟩ := B.repr
  refine okG F scLShows (fun vs H Q E h => ?_) (fun cdv A outer s H vs Q E hr hgd h => ?_)
  · obtain ⟨a, p, q, t, p', t', d, cs, vs, ps, ys, rfl, _⟩ := h
    rfl
  · obtain ⟨a, p, q, t, p', t', d, cs, vs, ps, ys, rfl, S, hp, hp', ht', hd, hys, hsh, h70, k⟩ := h
    have nd := scLShows.nd
    have hr1 : Room 1 _ := hr.mono (by omega)
    have hr2 : Room 2 _ := hr.mono (by omega)
    have hr6 : Room 6 _ := hr.mono (by omega)
    have hr10 : Room 10 _ := hr.mono (by omega)
    have hu : (A.deeper (envOfC "_law_shows" (defScope sLShows) s.heap.objs.size f cdv)).units + 100 < cLine := by
      have := hr.un
      omega
    refine ⟨_, pss_cons (ps_if (pt_cmpR op_ne (pe_callB (call_reprK (K := K) rfl hgd hu) (by rfl) mR (by decide +kernel) (pa_cons (pe_lst (pa_cons (pe_meth0 (pv 0) T.cl m1 G1 hr1 b1 .nil pass0) (pa_cons (pe_meth0 (pv 0) T.cl m2 G2 hr1 b2 .nil pass0) (pa_cons (pe_meth0 (pv 0) T.cl m3 G3 hr1 b3 .nil pass0) pa_nil)))) pa_nil)) (pe_callB (call_reprK (K := K) rfl hgd hu) (by rfl) mR (by decide +kernel) (pa_cons (pe_lst (pa_cons (pv 1) (pa_cons (pv 2) (pa_cons (pe_callTy call_tuple_of (by rfl) mT (by decide +kernel) (pa_cons (pv 3) pa_nil)) pa_nil)))) pa_nil)) (nomark _)) (pss_one (ps_ret pe_bl)) pss_nil)
      (pss_cons (ps_if (pt_cmpR op_ne (pe_callB (call_reprK (K := K) rfl hgd hu) (by rfl) mR (by decide +kernel) (pa_cons (pe_lc (own := [("_law_spot", 7)]) (g := gName 7) (tt := tYes) rfl nd (pi_tup (pv 1)) (blkOk_by (N := nLShows) (sc := defScope sLShows) (by decide +kernel))
          (fun _ _ _ _ _ => pg_name (i := 7) nd rfl (Or.inl rfl)) (fun _ _ _ _ _ => pts_nil) (fun _ _ _ _ _ => pe_meth (pv 0) T.cl m4 G4 hr6 b4 .nil pass0 (pa_cons (pv 7) pa_nil))) pa_nil)) (pe_callB (call_reprK (K := K) rfl hgd hu) (by rfl) mR (by decide +kernel) (pa_cons (pe_callTy call_list_of (by rfl) mL (by decide +kernel) (pa_cons (pv 2) pa_nil)) pa_nil)) (nomark _)) (pss_one (ps_ret pe_bl)) pss_nil)
      (pss_cons (ps_set (i := 4) nd rfl (.inl rfl) (pe_callB (cr_all rfl) (by rfl) ma (by decide +kernel) (pa_cons
        (pe_lc (own := [("_law_sort", 8)]) (g := gName 8) (tt := tYes) rfl nd (pi_str pe_str) (blkOk_by (N := nLShows) (sc := defScope sLShows) (by decide +kernel))
          (fun _ _ _ _ _ => pg_name (i := 8) nd rfl (Or.inl rfl)) (fun _ _ _ _ _ => pts_nil)
          (fun _ _ _ _ _ => (pe_call GU hr2 (by rfl) gU kU bU .nil pass0 (pa_cons (pv 1) (pa_cons (pv 2) (pa_cons (pv 8) pa_nil)))))) pa_nil)))
      (pss_cons (ps_set (i := 5) nd rfl (.inl rfl) (pe_lst (pa_cons (pe_callB (call_lenO m6.at_ m6.fn G6 b6 hr2 pass0) (by rfl) ml PySem.boot_len (pa_cons (pv 0) pa_nil)) (pa_cons (pe_callTy (call_strO m7.at_ m7.fn G7 b7 (hr.mono (by omega)) pass0) (by rfl) mS (by decide +kernel) (pa_cons (pv 0) pa_nil)) (pa_cons (pe_callB (call_reprO m8.at_ m8.fn G8 b8 hr2 pass0) (by rfl) mR (by decide +kernel) (pa_cons (pv 0) pa_nil)) (pa_cons (pe_fld (pv 0) rfl) (pa_cons (pe_meth0 (pv 0) T.cl m5 G5 hr10 b5 .nil pass0) pa_nil)))))))
      (pss_cons (ps_set (i := 6) nd rfl (.inl rfl) (pe_lst (pa_cons (pe_callB call_len_seq (by rfl) ml PySem.boot_len (pa_cons (pv 1) pa_nil)) (pa_cons (pe_call GW hr1 (by rfl) gW kW bW .nil pass0 (pa_cons (pv 1) (pa_cons (pv 2) pa_nil))) (pa_cons (pe_op op_add_str (pe_op op_add_str pe_str (pe_callTy call_str_int (by rfl) mS (by decide +kernel) (pa_cons (pe_callB call_len_seq (by rfl) ml PySem.boot_len (pa_cons (pv 1) pa_nil)) pa_nil))) pe_str) (pa_cons pe_bl (pa_cons (pv 4) pa_nil)))))))
      (pss_one (ps_ret (pe_cmpR op_eq (pe_callB (call_reprK (K := K) rfl hgd hu) (by rfl) mR (by decide +kernel) (pa_cons (pv 5) pa_nil)) (pe_callB (call_reprK (K := K) rfl hgd hu) (by rfl) mR (by decide +kernel) (pa_cons (pv 6) pa_nil)) (nomark _)))))))), ?_⟩
    obtain ⟨dx, ha⟩ := S.ob
    have no : ∀ {m : Str}, (m == "cells") = false → (m == "numbers") = false → (m == "past") = false → (m == "busy") = false → (shF p q t false).lookup m = none := fun h1 h2 h3 h4 => shF_no h1 h2 h3 h4
    -- plan, filling, log
    refine ⟨_, rfl, a, dx, _, rfl, ha, no (by decide +kernel) (by decide +kernel) (by decide +kernel) (by decide +kernel), a, p, q, t, false, cs, vs, ps, rfl, S, ?_⟩
    refine ⟨_, rfl, a, dx, _, rfl, ha, no (by decide +kernel) (by decide +kernel) (by decide +kernel) (by decide +kernel), a, p, q, t, false, cs, vs, ps, rfl, S, ?_⟩
    refine ⟨_, rfl, a, dx, _, rfl, ha, no (by decide +kernel) (by decide +kernel) (by decide +kernel) (by decide +kernel), a, p, q, t, false, cs, vs, ps, rfl, S, by omega, fun H1 u us s1 hu1 he1 => ?_⟩
    refine ⟨by show 3 ≤ sizeLine; decide, fun L nL => ?_⟩
    have sL := same_new (o := .lst [.ref p, .ref q, .ref u]) nL
    have s2 := s1.trans sL
    have rp1 : Rp (.list [planD cs, lineD vs, .tuple ((ps.map (·.1)).map (Ed.dat cs))]) := by
      have l24 := S.l24
      have w1 : ShE (planD cs) (205 * cs.length) 13 := (she_plan S.gd.grid).mono (Nat.le_refl _) (by omega)
      have w2 : ShE (lineD vs) (102 * cs.length) 13 := (she_line S.v9).mono (Nat.le_refl _) (by omega)
      have w3 := eds_she hsh
      rw [List.length_map] at w3
      exact (ShEA.cons w1 (ShEA.cons w2 (ShEA.cons w3 .nil))).lst.rp (by omega) (by omega)
    refine ⟨L, _, rfl, .lst (SqL.of upd_same) (.cons (PlanAt.dp (S.pl.same s2).at) (.cons (.tup (same_seqT s2 S.fl) (dp_ints _)) (.cons (.tup (SqT.of (sL _ _ hu1)) (he1.kn (.of_same sL)).dp) .nil))), rp1, ?_⟩
    generalize upd H1 L (.lst [.ref p, .ref q, .ref u]) = H2 at s2 ⊢
    refine ⟨_, rfl, _, rfl, _, rfl, d, ys, rfl, .inl ⟨SqL.of (s2 _ _ hd), fun u2 nu2 => ?_⟩⟩
    have su2 := same_new (o := .tup ys) nu2
    have hu2 : upd H2 u2 (.tup ys) u2 = some (.tup ys) := upd_same
    generalize upd H2 u2 (.tup ys) = H3 at su2 hu2 ⊢
    refine ⟨by show 3 ≤ sizeLine; decide, fun L2 nL2 => ?_⟩
    have sL2 := same_new (o := .lst [.ref p', .ref t', .ref u2]) nL2
    have s4 := (s2.trans su2).trans sL2
    refine ⟨L2, _, rfl, .lst (SqL.of upd_same) (.cons (PlanAt.dp (hp'.same s4).at) (.cons (.tup (same_seqT s4 ht') (dp_ints _)) (.cons (.tup (SqT.of (sL2 _ _ hu2)) (hys.kn (.of_same s4)).dp) .nil))), rp1, ?_⟩
    generalize upd H3 L2 (.lst [.ref p', .ref t', .ref u2]) = H4 at s4 ⊢
    refine ⟨rfl, _, by rw [decide_eq_true rfl], ?_⟩
    clear sL sL2 su2 hu2 hu1 he1 s1
    -- the values, cell by cell
    obtain ⟨xs', hx', hc'⟩ := id hp'
    have hxl' := Paired.length hc'
    have hvl := S.v9.len
    refine ⟨_, rfl, p', rfl, ⟨_, same_seqT s4 hx'⟩, fun D nD => ?_⟩
    refine lc_tup (K := K) (a := p') (xs := xs') (fun j G => G D = some (.lst ((vs.take j).map V.int)) ∧ (∀ b o, b ≠ D → H4 b = some o → G b = some o)) ?_ ?_ ?_ ?_
    · exact ⟨upd_same, fun b o n e => by rw [upd_ne n]; exact e⟩
    · rintro j G _ ⟨a1, a2⟩
      exact same_seqT (s4.trans fun b o e => a2 b o (ne_of_none e nD) e) hx'
    · rintro j x G hj ⟨a1, a2⟩
      have sD : Same H4 G := fun b o e => a2 b o (ne_of_none e nD) e
      obtain ⟨c, ec, hx⟩ := paired_get hc' hj
      have jl := (List.getElem?_eq_some_iff.mp ec).1
      have ev : vs[j]? = some vs[j] := List.getElem?_eq_getElem (by omega)
      have s5 := s4.trans sD
      refine ⟨rfl, _, rfl, a, dx, _, rfl, s5 _ _ ha, no (by decide +kernel) (by decide +kernel) (by decide +kernel) (by decide +kernel), _, rfl, a, p, q, t, false, x, c, j, vs[j], cs, vs, ps, rfl, S.same s5, hp.same s5, cellT_same s5 hx, ec, ev, fun H5 s5' => ?_⟩
      refine ⟨_, s5' _ _ a1, ?_, ?_, fun b o n e => ?_⟩
      · rw [List.length_map, List.length_take]
        exact small64 (by have := S.l24; omega)
      · rw [upd_same, List.take_add_one, ev, List.map_append]
        rfl
      · rw [upd_ne n]
        exact s5' _ _ (a2 b o n e)
    rintro G ⟨a1, a2⟩
    have sG : Same H4 G := fun b o e => a2 b o (ne_of_none e nD) e
    have s5 := s4.trans sG
    have etk : vs.take xs'.length = vs := List.take_of_length_le (by omega)
    rw [etk] at a1
    have rp2 : Rp (.list (vs.map PyData.int)) := by
      have l24 := S.l24
      refine (she_intsL (l := vs) fun x hx => by have := S.v9.bd x hx; omega).rp (by omega) (by omega)
    refine ⟨D, _, rfl, .lst (SqL.of a1) (dp_ints _), rp2, ?_⟩
    refine ⟨_, rfl, t', _, rfl, .inr (same_seqT s5 ht'), fun L3 nL3 => ?_⟩
    have sL3 := same_new (o := .lst (vs.map V.int)) nL3
    refine ⟨L3, _, rfl, .lst (SqL.of upd_same) (dp_ints _), rp2, ?_⟩
    refine ⟨rfl, _, by rw [decide_eq_true rfl], ?_⟩
    generalize upd G L3 (.lst (vs.map V.int)) = G2 at sL3 ⊢
    have s6 := s5.trans sL3
    clear a1 a2 sG sL3 s4 s5
    -- settled
    refine ⟨_, rfl, fun D2 nD2 => ?_⟩
    refine lc_it walk_str (fun j G' => G' D2 = some (.lst ((([rises false cs vs, rises true cs vs] : List Bool).take j).map V.bl)) ∧ (∀ b o, b ≠ D2 → G2 b = some o → G' b = some o)) ?_ ?_ ?_ ?_
    · exact ⟨upd_same, fun b o n e => by rw [upd_ne n]; exact e⟩
    · intros
      trivial
    · rintro j x' G9 G9' hj ⟨a1, a2⟩ ⟨rfl, c', hc', rfl⟩
      have sD : Same G2 G9' := fun b o e => a2 b o (ne_of_none e nD2) e
      have s7 := s6.trans sD
      have hRC : ("RC" : Str) = wS [false, true] := by decide +kernel
      have hc'' : (wS [false, true]).cps[j]? = some c' := by rw [← hRC]; exact hc'
      obtain ⟨b', hb, rfl⟩ := wS_at hc''
      rw [ltr_str]
      refine ⟨rfl, _, rfl, _, rfl, _, rfl, p', t', b', cs, vs, rfl, (hp'.same s7).at, S.l24, same_seqT s7 ht', S.v9.len, fun G10 s10' => ?_⟩
      refine ⟨_, s10' _ _ a1, ?_, ?_, fun b o n e => ?_⟩
      · rw [List.length_map, List.length_take]
        exact small64 (by show min j 2 ≤ 64; omega)
      · rw [upd_same, List.take_add_one, List.map_append]
        have : ([rises false cs vs, rises true cs vs] : List Bool)[j]? = some (rises b' cs vs) := by
          match j, hb with
          | 0, hb => cases hb; rfl
          | 1, hb => cases hb; rfl
        rw [this]
        rfl
      · rw [upd_ne n]
        exact s10' _ _ (a2 b o n e)
    rintro G3 ⟨a1, a2⟩
    have s7 := s6.trans (fun b o e => a2 b o (ne_of_none e nD2) e : Same G2 G3)
    refine ⟨D2, [rises false cs vs, rises true cs vs], rfl, SqL.of a1, ?_⟩
    have est : ([rises false cs vs, rises true cs vs] : List Bool).all id = settled cs vs := by
      show (rises false cs vs && (rises true cs vs && true)) = _
      rw [Bool.and_true]
      rfl
    rw [est]
    clear a1 a2
    -- told
    have l24 := S.l24
    have hlog : ((cs.length : Int)).natAbs.log2 < 1920 := by
      rw [Int.natAbs_natCast]
      have : cs.length.log2 ≤ cs.length := by
        rcases Nat.eq_zero_or_pos cs.length with z | z
        · rw [z]; decide
        · exact Nat.le_of_lt ((Nat.log2_lt (by omega)).mpr Nat.lt_two_pow_self)
      omega
    have hnl := num_len cs.length l24
    have e1 : (("Sheet(" : Str)).length = 6 := by decide +kernel
    have e2 : ((")" : Str)).length = 1 := by decide +kernel
    have ap : ∀ x y : Str, (x ++ y).length = x.length + y.length := fun x y => by
      show (x.cps ++ y.cps).size = x.cps.size + y.cps.size
      rw [Array.size_append]
    refine ⟨_, rfl, a, dx, _, rfl, s7 _ _ ha, a, p, q, t, false, cs, vs, ps, rfl, S.same s7, cs.length, rfl, by omega, ?_⟩
    refine ⟨_, rfl, a, dx, _, rfl, s7 _ _ ha, a, p, q, t, false, cs, vs, ps, rfl, S.same s7, fun G4 s8' => ⟨_, rfl, ?_⟩⟩
    have s8 := s7.trans s8'
    refine ⟨_, rfl, a, dx, _, rfl, s8 _ _ ha, a, p, q, t, false, cs, vs, ps, rfl, S.same s8, _, rfl, ?_⟩
    refine ⟨_, rfl, a, C, dx, _, _, rfl, s8 _ _ ha, T.cl, T.nB, shF_busy, ?_⟩
    refine ⟨_, rfl, a, dx, _, rfl, s8 _ _ ha, no (by decide +kernel) (by decide +kernel) (by decide +kernel) (by decide +kernel), a, p, q, t, false, cs, vs, ps, rfl, S.same s8, fun G5 s9' => ?_⟩
    have s9 := s8.trans s9'
    refine ⟨by show 5 ≤ sizeLine; decide, fun M nM => ?_⟩
    have sM := same_new (o := .lst [.int (cs.length : Nat), .str (page cs vs), .str (shRepr cs.length), .bl false, .bl (settled cs vs)]) nM
    have hM : upd G5 M (.lst [.int (cs.length : Nat), .str (page cs vs), .str (shRepr cs.length), .bl false, .bl (settled cs vs)]) M = some (.lst [.int (cs.length : Nat), .str (page cs vs), .str (shRepr cs.length), .bl false, .bl (settled cs vs)]) := upd_same
    generalize upd G5 M (.lst [.int (cs.length : Nat), .str (page cs vs), .str (shRepr cs.length), .bl false, .bl (settled cs vs)]) = G6 at sM hM ⊢
    have s10 := s9.trans sM
    refine ⟨_, rfl, p', xs', rfl, .inr (same_seqT s10 hx'), ?_⟩
    rw [hxl']
    refine ⟨_, rfl, _, rfl, p', t', cs, vs, rfl, hp'.same s10, S.gd, l24, same_seqT s10 ht', S.v9, fun G7 s11' => ?_⟩
    have s11 := s10.trans s11'
    refine ⟨_, rfl, p', xs', rfl, .inr (same_seqT s11 hx'), ?_⟩
    rw [hxl']
    refine ⟨_, rfl, hlog, _, _, rfl, rfl, by rw [e1, sizeLine_eq]; omega, _, _, rfl, rfl, by rw [ap, e1, e2, sizeLine_eq]; omega, ?_⟩
    rw [repr_eq cs.length l24]
    refine ⟨_, rfl, by show 5 ≤ sizeLine; decide, fun N nN => ?_⟩
    have sN := same_new (o := .lst [.int (cs.length : Nat), .str (page cs vs), .str (shRepr cs.length), .bl false, .bl (settled cs vs)]) nN
    have hN : upd G7 N (.lst [.int (cs.length : Nat), .str (page cs vs), .str (shRepr cs.length), .bl false, .bl (settled cs vs)]) N = some (.lst [.int (cs.length : Nat), .str (page cs vs), .str (shRepr cs.length), .bl false, .bl (settled cs vs)]) := upd_same
    have hM2 := (s11'.trans sN) _ _ hM
    generalize upd G7 N (.lst [.int (cs.length : Nat), .str (page cs vs), .str (shRepr cs.length), .bl false, .bl (settled cs vs)]) = G8 at sN hN hM2 ⊢
    have rp3 : Rp (.list [.int (cs.length : Nat), .str (page cs vs), .str (shRepr cs.length), .bool false, .bool (settled cs vs)]) :=
      (ShEA.cons (she_small (i := (cs.length : Nat)) (by omega) (by omega)) (ShEA.cons (page_she S.gd S.v9) (ShEA.cons (repr_she _ l24) (ShEA.cons she_bool (ShEA.cons she_bool .nil))))).lst.rp (by decide) (by decide)
    refine ⟨_, rfl, M, _, rfl, .lst (SqL.of hM2) (.cons (.int _) (.cons (.str _) (.cons (.str _) (.cons (.bl _) (.cons (.bl _) .nil))))), rp3, ?_⟩
    refine ⟨_, rfl, N, _, rfl, .lst (SqL.of hN) (.cons (.int _) (.cons (.str _) (.cons (.str _) (.cons (.bl _) (.cons (.bl _) .nil))))), rp3, ?_⟩
    refine ⟨rfl, ?_⟩
    rw [decide_eq_true rfl]
    exact k _ (s11.trans sN)
end
end KS
/-! what a sheet is not equal to -/
namespace KS
open PySem PySem.Spec PyProof.Rows L2 RZ
theorem nf_self {K : PySem.W.Frag} {C : Addr} : PySem.W.notFirst K C (.ref C) = true := by
  unfold PySem.W.notFirst
  rw [beq_self_eq_true]
  rfl
theorem slInit_ok2 {K : PySem.W.Frag} {H : Hp} {Q : VK} {a : Addr} {xs : List V} (ha : SqT K H a xs) (h1 : 1 ≤ xs.length) (k : ∀ H' u, Same H H' → SqT K H' u (xs.take (xs.length - 1)) → Q (.ref u) H') : rSlA K (.ref a) none (some (-1)) H Q := by
  refine ⟨a, xs, rfl, ha, fun z => ?_, fun _ p np => ?_⟩
  · obtain ⟨_, z2⟩ := z
    have e : HT.sIx xs.length xs.length (some (-1)) = xs.length - 1 := by
      show (if (-1 : Int) < 0 then ((-1 : Int) + (xs.length : Int)).toNat else min (-1 : Int).toNat xs.length) = xs.length - 1
      rw [if_pos (by decide)]
      omega
    rw [e] at z2
    omega
  · refine k _ p (same_new np) (SqT.of ?_)
    have e : HT.sIx xs.length xs.length (some (-1)) = xs.length - 1 := by
      show (if (-1 : Int) < 0 then ((-1 : Int) + (xs.length : Int)).toNat else min (-1 : Int).toNat xs.length) = xs.length - 1
      rw [if_pos (by decide)]
      omega
    rw [upd_same]
    unfold cutV
    rw [e, HT.sIx_none]
    rfl
/-! ### the other tables -/
end KS
/-! the sheet: forms of edits; undo -/
namespace KS
open PySem PySem.Spec PyProof.Rows L2 RZ
abbrev sHasEF : Stmt := topS 62
theorem scHasEF : FnScope ["value"] ["value"] (defScope sHasEF) := ⟨rfl, rfl, rfl, by decide +kernel, rfl, by decide +kernel, by decide +kernel⟩
abbrev sChkE : Stmt := topS 63
theorem scChkE : FnScope ["edits", "index", "edit"] ["edits"] (defScope sChkE) := ⟨rfl, rfl, rfl, by decide +kernel, rfl, by decide +kernel, by decide +kernel⟩
abbrev sShUndo : Stmt := inClass (topS 64) 6
theorem scShUndo : FnScope ["self"] ["self"] (defScope sShUndo) := ⟨rfl, rfl, rfl, by decide +kernel, rfl, by decide +kernel, by decide +kernel⟩
/-- the constant of the module: which edits there are -/
structure FormsT (K : PySem.W.Frag) (mg : Str → Option Value) (ef e1 e2 e3 : Addr) : Prop where
  g : mg "EDIT_FORMS" = some (.ref ef)
  h : ∀ H, SqT K H ef [.ref e1, .ref e2, .ref e3]
  h1 : ∀ H, SqT K H e1 [.str "arrange", .int 2]
  h2 : ∀ H, SqT K H e2 [.str "set", .int 3]
  h3 : ∀ H, SqT K H e3 [.str "swap", .int 3]
def FormT (K : PySem.W.Frag) (H : Hp) (x : V) : Prop := ∃ (u : Addr) (k : Str) (ys : List V), x = .ref u ∧ SqT K H u (.str k :: ys) ∧ ((k = "arrange" ∧ ys.length = 1) ∨ (k = "set" ∧ ys.length = 2) ∨ (k = "swap" ∧ ys.length = 2))
theorem FormT.same {K : PySem.W.Frag} {H H' : Hp} {x : V} (s : Same H H') (h : FormT K H x) : FormT K H' x := by
  obtain ⟨u, k, ys, e, h1, h2⟩ := h
  exact ⟨u, k, ys, e, same_seqT s h1, h2⟩
theorem FormT.of_ed {K : PySem.W.Frag} {H : Hp} {cs : List Cell} {x : V} {e : Ed} (h : EdA K H cs x e) : FormT K H x := by
  cases h with
  | arr h1 _ => exact ⟨_, _, _, rfl, h1, .inl ⟨rfl, rfl⟩⟩
  | set h1 _ _ => exact ⟨_, _, _, rfl, h1, .inr (.inl ⟨rfl, rfl⟩)⟩
  | swap h1 _ _ _ _ => exact ⟨_, _, _, rfl, h1, .inr (.inr ⟨rfl, rfl⟩)⟩
theorem FormT.of_bad {K : PySem.W.Frag} {H : Hp} {cs : List Cell} {x : V} (h : BadE K H cs x) : FormT K H x := by
  obtain ⟨u, y, z, rfl, h1, _⟩ := h
  exact ⟨_, _, _, rfl, h1, .inr (.inr ⟨rfl, rfl⟩)⟩
theorem paired_init {α β : Type} {R : α → β → Prop} : ∀ {ps : List β} {xs : List α} {p : β}, Paired R xs (ps ++ [p]) → ∃ ys y, xs = ys ++ [y] ∧ Paired R ys ps ∧ R y p
  | [], xs, p, h => by
    cases h with
    | cons r h =>
      cases h
      exact ⟨[], _, rfl, .nil, r⟩
  | q :: ps, xs, p, h => by
    cases h with
    | cons r h =>
      obtain ⟨ys, y, rfl, h1, h2⟩ := paired_init h
      exact ⟨_ :: ys, y, rfl, .cons r h1, h2⟩
def spForm (K : PySem.W.Frag) : Sp := fun xs H Q _ => ∃ x, xs = [x] ∧ FormT K H x ∧ ∀ H', Same H H' → Q (.bl true) H'
def spChkE (K : PySem.W.Frag) : Sp := fun xs H Q _ => ∃ (g : Addr) (ws : List V), xs = [.ref g] ∧ SqT K H g ws ∧ (∀ x ∈ ws, FormT K H x) ∧ ∀ H', Same H H' → Q .non H'
def spUndo (K : PySem.W.Frag) (C : Addr) : Sp := fun xs H Q _ => ∃ (a p q t : Addr) (b : Bool) (cs : List Cell) (vs v0 : List Int) (ps : List (Ed × List Int)) (e : Ed), xs = [.ref a] ∧ ShP K C H a p q t b cs vs (ps ++ [(e, v0)]) ∧ Vals9 cs.length v0 ∧
  ∀ H' q' t', KeepX a H H' → ShP K C H' a p q' t' b cs v0 ps → Q .non H'
section
variable {P : Program} {w : World} {K : PySem.W.Frag} {mg : Str → Option Value} {base : Heap} {C CI CN fX : Addr}
theorem ok_hasEF {f ef e1 e2 e3 : Addr} {fd : FuncData} (F : Fun K "has_edit_form" "has_edit_form" sHasEF f fd) (W : FormsT K mg ef e1 e2 e3) (mi : mg "isinstance" = none) (mT : mg "tuple" = none) (ml : mg "len" = none) :
    FnOk P w K mg base CX0 1 f fd ["value"] (spForm K) := by
  refine F.ok scHasEF (fun vs H Q E h => ?_) (fun cdv A outer s H vs Q E hr h => ?_)
  · obtain ⟨x, rfl, _⟩ := h
    rfl
  · obtain ⟨x, rfl, ⟨u, k, ys, rfl, hx, hk⟩, q⟩ := h
    have hu : (A.deeper (envOfC "has_edit_form" (defScope sHasEF) s.heap.objs.size f cdv)).units + 65 < cLine := by
      have := hr.un
      omega
    refine ⟨_, pss_one (ps_ret (pe_and (pe_callB call_isi (by rfl) mi (by decide +kernel) (pa_cons (pv 0) (pa_cons (pe_bltn (v := .ty "tuple") (by rfl) mT (by decide +kernel) rfl) pa_nil)))
      (pe_and (pe_cmpR op_gt (pe_callB call_len_seq (by rfl) ml PySem.boot_len (pa_cons (pv 0) pa_nil)) pe_int (nomark _))
      (pe_one (pe_cmpR (r := rInT K) (op_inT hu) (pe_tup (pa_cons (pe_ix ix_tup (pv 0) pe_int (fun _ _ => rfl)) (pa_cons (pe_callB call_len_seq (by rfl) ml PySem.boot_len (pa_cons (pv 0) pa_nil)) pa_nil))) (pe_glob (v := .ref ef) (by rfl) W.g rfl) (by rfl)))))), ?_⟩
    refine ⟨_, rfl, _, _, _, _, true, rfl, .ty "tuple", tyx_tup hx, kit_ty (by decide +kernel), true, rfl, ?_⟩
    refine ⟨_, rfl, u, _, rfl, .inr hx, _, _, rfl, rfl, true, bl_true (show ((ys.length + 1 : Nat) : Int) > 0 by omega), ?_⟩
    refine ⟨_, rfl, u, _, 0, .str k, rfl, rfl, hx, atI_nat (xs := V.str k :: ys) (j := 0) rfl, _, rfl, u, _, rfl, .inr hx, by show 2 ≤ sizeLine; decide, fun t nt => ?_⟩
    have s1 := same_new (o := .tup [.str k, .int ((ys.length + 1 : Nat) : Int)]) nt
    have go : ∀ (k0 : Str) (n0 : Nat), k = k0 → ys.length = n0 → SeqAt.shaped (.tuple [.str k0, .int ((n0 + 1 : Nat) : Int)]) = true → ([PyData.tuple [.str "arrange", .int 2], .tuple [.str "set", .int 3], .tuple [.str "swap", .int 3]].any fun z => PyData.eqv z (.tuple [.str k0, .int ((n0 + 1 : Nat) : Int)])) = true →
        rInT K (.ref t) (.ref ef) (upd H t (.tup [.str k, .int ((ys.length + 1 : Nat) : Int)])) Q := by
      rintro k0 n0 rfl rfl g1 g2
      refine ⟨.tuple [.str k, .int ((ys.length + 1 : Nat) : Int)], [.tuple [.str "arrange", .int 2], .tuple [.str "set", .int 3], .tuple [.str "swap", .int 3]], .tup (SqT.of upd_same) (.cons (.str _) (.cons (.int _) .nil)),
        .tup (W.h _) (.cons (.tup (W.h1 _) (.cons (.str _) (.cons (.int _) .nil))) (.cons (.tup (W.h2 _) (.cons (.str _) (.cons (.int _) .nil))) (.cons (.tup (W.h3 _) (.cons (.str _) (.cons (.int _) .nil))) .nil))), g1, by decide +kernel, ?_⟩
      rw [g2]
      exact q _ s1
    rcases hk with ⟨e1, e2⟩ | ⟨e1, e2⟩ | ⟨e1, e2⟩
    · exact go _ _ e1 e2 (by decide +kernel) (by decide +kernel)
    · exact go _ _ e1 e2 (by decide +kernel) (by decide +kernel)
    · exact go _ _ e1 e2 (by decide +kernel) (by decide +kernel)
theorem ok_chkE {f fH : Addr} {fd fdH : FuncData} (F : Fun K "check_edits" "check_edits" sChkE f fd)
    (GH : FnOk P w K mg base CX0 1 fH fdH ["value"] (spForm K)) (bH : Binds K fdH ["value"] []) (gH : mg "has_edit_form" = some (.ref fH)) (kH : PySem.W.keepIn K (.ref fH) = true)
    (mi : mg "isinstance" = none) (mT : mg "tuple" = none) (me : mg "enumerate" = none) : FnOk P w K mg base CX0 2 f fd ["edits"] (spChkE K) := by
  refine F.ok scChkE (fun vs H Q E h => ?_) (fun cdv A outer s H vs Q E hr h => ?_)
  · obtain ⟨g, ws, rfl, _⟩ := h
    rfl
  · obtain ⟨g, ws, rfl, hx, hf, q⟩ := h
    have nd := scChkE.nd
    refine ⟨_, pss_cons (ps_if (pt_not (pt_val (pe_callB call_isi (by rfl) mi (by decide +kernel) (pa_cons (pv 0) (pa_cons (pe_bltn (v := .ty "tuple") (by rfl) mT (by decide +kernel) rfl) pa_nil))))) (pss_one ps_never) pss_nil)
      (pss_one (ps_for PassesOwn.never rfl (pi_enumT (by rfl) me (pa_cons (pv 0) pa_nil)) (pg_tup (by rfl) (pgs_cons (pg_name (i := 1) nd rfl (.inl rfl)) (pgs_cons (pg_name (i := 2) nd rfl (.inl rfl)) pgs_nil)))
        (pss_one (ps_if (pt_not (pt_val (pe_call GH hr (by rfl) gH kH bH .nil pass0 (pa_cons (pv 2) pa_nil)))) (pss_one ps_never) pss_nil)))), ?_⟩
    refine ⟨_, rfl, _, _, _, _, true, rfl, .ty "tuple", tyx_tup hx, kit_ty (by decide +kernel), true, rfl, ?_⟩
    refine ⟨_, rfl, g, ws, rfl, hx, for_enumT (K := K) (a := g) (xs := ws) (fun i σ H' => Same H H' ∧ ∃ y1 y2, σ = [some (.ref g), y1, y2]) ?_ ?_ ?_ ?_⟩
    · exact ⟨Same.refl _, none, none, rfl⟩
    · rintro i σ H' _ ⟨sm, _⟩
      exact same_seqT sm hx
    · rintro i x σ H' Tp hi ⟨sm, y1, y2, rfl⟩ nT
      have sT := same_new (o := .tup [.int (i : Nat), x]) nT
      have s2 := sm.trans sT
      refine ⟨Tp, _, rfl, SqT.of upd_same, rfl, _, _, rfl, _, _, rfl, rfl, ?_⟩
      refine ⟨_, rfl, x, rfl, (hf x (List.mem_of_getElem? hi)).same s2, fun H3 s3 => ⟨true, rfl, ?_⟩⟩
      exact ⟨s2.trans s3, _, _, rfl⟩
    · rintro σ H' ⟨sm, y1, y2, rfl⟩
      exact q H' sm
theorem ok_undo {f : Addr} {fd : FuncData} (F : Fun K "undo" "Sheet.undo" sShUndo f fd) (T : ShCls K mg C) (ml : mg "len" = none) : FnOk P w K mg base CX0 1 f fd ["self"] (spUndo K C) := by
  refine F.ok scShUndo (fun vs H Q E h => ?_) (fun cdv A outer s H vs Q E hr h => ?_)
  · obtain ⟨a, p, q, t, b, cs, vs, v0, ps, e, rfl, _⟩ := h
    rfl
  · obtain ⟨a, p, q, t, b, cs, vs, v0, ps, e, rfl, S, v9, k⟩ := h
    refine ⟨_, pss_cons (ps_if (pt_cmpR op_eq (pe_callB call_len_seq (by rfl) ml PySem.boot_len (pa_cons (pe_fld (pv 0) rfl) pa_nil)) pe_int (nomark _)) (pss_one ps_never) pss_nil)
      (pss_cons (ps_fld (pv 0) (pe_ix ix_tup (pe_ix ix_tup (pe_fld (pv 0) rfl) (pe_un un_neg pe_int) (fun _ _ => rfl)) pe_int (fun _ _ => rfl)) rfl)
      (pss_one (ps_fld (pv 0) (pe_slice sl_tupA (pe_fld (pv 0) rfl) po_none (po_some (pe_un un_neg pe_int))) rfl))), ?_⟩
    obtain ⟨dx, ha⟩ := S.ob
    obtain ⟨xs, hx, hpa⟩ := S.pt
    have hpl := Paired.length hpa
    rw [List.length_append] at hpl
    have hpl1 : xs.length = ps.length + 1 := hpl
    obtain ⟨n, hn⟩ : ∃ n, n = xs.length - 1 := ⟨_, rfl⟩
    have il : n < xs.length := by omega
    have xi : xs[n]? = some xs[n] := List.getElem?_eq_getElem il
    have xlast : xs.getLast? = some xs[n] := by
      rw [List.getLast?_eq_getElem?, show xs.length - 1 = n by omega]
      exact xi
    obtain ⟨pr, e1, u, ee, q0, eu, h1, h2, h3⟩ := paired_get hpa xi
    rw [List.getElem?_append_right (by omega), show n - ps.length = 0 by omega] at e1
    cases e1
    refine ⟨_, rfl, a, C, dx, _, _, rfl, ha, T.cl, T.nP, shF_past, t, xs, rfl, .inr hx, rfl, false, bl_false (fun z => by have := V.int.inj z; omega), ?_⟩
    refine ⟨_, rfl, a, C, dx, _, _, rfl, ha, T.cl, T.nP, shF_past, _, rfl, t, xs, -1, xs[n], rfl, rfl, hx, atI_last xlast, u, _, 1, _, eu, rfl, h1, rfl, ?_⟩
    refine ⟨_, rfl, a, C, dx, _, rfl, ha, T.cl, T.nN, shF_len, ?_⟩
    rw [shF_setN]
    have kx : KeepX a H (upd H a (.ins C dx (shF p q0 t b))) := fun b' o n e' => by
      rw [upd_ne n]
      exact e'
    have kn := KN.of_ins ha kx
    have hx1 := kn.sq hx
    have hpa1 := hpa.kn kn
    have hpl0 := S.pl.kn kn
    have h31 := kn.sq h3
    have ha1 : upd H a (.ins C dx (shF p q0 t b)) a = some (.ins C dx (shF p q0 t b)) := upd_same
    generalize upd H a (.ins C dx (shF p q0 t b)) = H1 at kx kn hx1 hpa1 hpl0 h31 ha1 ⊢
    refine ⟨_, rfl, a, C, dx, _, _, rfl, ha1, T.cl, T.nP, shF_past, ?_⟩
    refine ⟨_, rfl, _, rfl, ?_⟩
    refine slInit_ok2 hx1 (by omega) (fun H2 t' s2 ht' => ?_)
    refine ⟨_, rfl, a, C, dx, _, rfl, s2 _ _ ha1, T.cl, T.nP, shF_len, ?_⟩
    rw [shF_setP]
    have kx2 : KeepX a H2 (upd H2 a (.ins C dx (shF p q0 t' b))) := fun b' o n e' => by
      rw [upd_ne n]
      exact e'
    have kn2 := KN.of_ins (s2 _ _ ha1) kx2
    have k13 : KN H1 (upd H2 a (.ins C dx (shF p q0 t' b))) := (KN.of_same s2).trans kn2
    refine k _ q0 t' (fun b' o n e' => kx2 _ _ n (s2 _ _ (kx _ _ n e'))) ⟨⟨dx, upd_same⟩, hpl0.kn k13, k13.sq h31, ⟨_, kn2.sq ht', ?_⟩, S.gd, S.l24, v9⟩
    obtain ⟨ys, y, rfl, hys, _⟩ := paired_init (PastA.kn k13 hpa1)
    rw [List.length_append]
    show PastA K _ cs ((ys ++ [y]).take (ys.length + 1 - 1)) ps
    rw [Nat.add_sub_cancel, List.take_left]
    exact hys
end
end KS
/-! the sheet: do_all without a watch -/
namespace KS
open PySem PySem.Spec PyProof.Rows L2 RZ
open L2N (Zn)
theorem BadE.kn {K : PySem.W.Frag} {H H' : Hp} {cs : List Cell} {x : V} (k : KN H H') (h : BadE K H cs x) : BadE K H' cs x := by
  obtain ⟨u, y, z, rfl, h1, h2⟩ := h
  refine ⟨u, y, z, rfl, k.sq h1, ?_⟩
  rcases h2 with h | ⟨c, i, g1, g2, g3⟩ | ⟨c, g1, g2, g3⟩
  · exact .inl (h.kn k)
  · exact .inr (.inl ⟨c, i, cellT_kn k g1, g2, g3.kn k⟩)
  · exact .inr (.inr ⟨c, cellT_kn k g1, g2, g3⟩)
def behs (cs : List Cell) (vs : List Int) (es : List Ed) : List Int := es.foldl (fun v e => e.beh cs v) vs
def hist (cs : List Cell) : List Int → List Ed → List (Ed × List Int)
  | _, [] => []
  | vs, e :: es => (e, vs) :: hist cs (e.beh cs vs) es
def EdsOk (cs : List Cell) : List Int → List Ed → Prop
  | _, [] => True
  | vs, e :: es => e.ok cs.length vs ∧ EdsOk cs (e.beh cs vs) es
theorem behs_succ {cs : List Cell} : ∀ {es : List Ed} {vs : List Int} {i : Nat} {e : Ed}, es[i]? = some e → behs cs vs (es.take (i + 1)) = e.beh cs (behs cs vs (es.take i))
  | [], vs, i, e, h => by simp at h
  | e0 :: es, vs, 0, e, h => by
    cases Option.some.inj h
    rfl
  | e0 :: es, vs, i + 1, e, h => behs_succ (es := es) (vs := e0.beh cs vs) (i := i) h
theorem hist_succ {cs : List Cell} : ∀ {es : List Ed} {vs : List Int} {i : Nat} {e : Ed}, es[i]? = some e → hist cs vs (es.take (i + 1)) = hist cs vs (es.take i) ++ [(e, behs cs vs (es.take i))]
  | [], vs, i, e, h => by simp at h
  | e0 :: es, vs, 0, e, h => by
    cases Option.some.inj h
    rfl
  | e0 :: es, vs, i + 1, e, h => congrArg ((e0, vs) :: ·) (hist_succ (es := es) (vs := e0.beh cs vs) (i := i) h)
theorem edsOk_at {cs : List Cell} : ∀ {es : List Ed} {vs : List Int} {i : Nat} {e : Ed}, EdsOk cs vs es → es[i]? = some e → e.ok cs.length (behs cs vs (es.take i))
  | [], vs, i, e, _, h => by simp at h
  | e0 :: es, vs, 0, e, k, h => by
    cases Option.some.inj h
    exact k.1
  | e0 :: es, vs, i + 1, e, k, h => edsOk_at (es := es) (vs := e0.beh cs vs) (i := i) k.2 h
theorem hist_len {cs : List Cell} : ∀ {es : List Ed} {vs : List Int}, (hist cs vs es).length = es.length
  | [], _ => rfl
  | _ :: es, vs => congrArg Nat.succ (hist_len (es := es))
theorem hist_map {cs : List Cell} : ∀ {es : List Ed} {vs : List Int}, (hist cs vs es).map (·.1) = es
  | [], _ => rfl
  | e :: es, vs => congrArg (e :: ·) (hist_map (es := es))
abbrev sShDoAll : Stmt := inClass (topS 64) 5
abbrev nShAll : List Str := ["self", "edits", "watch", "numbers", "past", "was_busy", "finished", "index", "edit"]
theorem scShAll : FnScope nShAll ["self", "edits", "watch"] (defScope sShDoAll) := ⟨rfl, rfl, rfl, by decide +kernel, rfl, by decide +kernel, by decide +kernel⟩
/-- edits that go well, one that fails behind them or none -/
def spAll (K : PySem.W.Frag) (C CI : Addr) : Sp := fun xs H Q E => ∃ (a p q t g : Addr) (b : Bool) (cs : List Cell) (vs : List Int) (ps : List (Ed × List Int)) (ws : List V) (es : List Ed) (bad : Option V), xs = [.ref a, .ref g, .non] ∧ ShP K C H a p q t b cs vs ps ∧ PlanN H p cs ∧
  SqT K H g (ws ++ bad.toList) ∧ EdsA K H cs ws es ∧ EdsOk cs vs es ∧ ps.length + es.length ≤ 1000 ∧ (∀ x, bad = some x → BadE K H cs x) ∧
  (bad = none → ∀ H' q' t', KeepX a H H' → ShP K C H' a p q' t' b cs (behs cs vs es) (ps ++ hist cs vs es) → Q .non H') ∧
  (∀ x, bad = some x → ∀ H' d, KeepX a H H' → ShP K C H' a p q t b cs vs ps → E (.ref CI) (some d) H')
theorem swapT {X : Cx} {l : List Stmt} {t t' : TS} (h : PSs X l t) (e : t = t') : PSs X l t' := by
  subst e
  exact h
section
variable {P : Program} {w : World} {K : PySem.W.Frag} {mg : Str → Option Value} {base : Heap} {C CI : Addr}
theorem ok_all {f fC fP : Addr} {fd fdC fdP : FuncData} (F : FunD K "do_all" "Sheet.do_all" (defArgs sShDoAll) (defBody sShDoAll) (defScope sShDoAll) [] [("watch", .non)] f fd) (T : ShCls K mg C)
    (GC : FnOk P w K mg base CX0 2 fC fdC ["edits"] (spChkE K)) (bC : Binds K fdC ["edits"] []) (gC : mg "check_edits" = some (.ref fC)) (kC : PySem.W.keepIn K (.ref fC) = true)
    (GP : FnOk P w K mg base (L2N.CX P w) 13 fP fdP ["self", "edit"] (spPerfU K C CI)) (bP : Binds K fdP ["self", "edit"] []) (mP : Meth K C "perform" fP)
    (me : mg "enumerate" = none) : FnOk P w K mg base (L2N.CX P w) 14 f fd ["self", "edits", "watch"] (spAll K C CI) := by
  refine F.ok scShAll (fun vs H Q E h => ?_) (fun cdv A outer s H vs Q E hr h => ?_)
  · obtain ⟨a, p, q, t, g, b, cs, vs, ps, ws, es, bad, rfl, _⟩ := h
    rfl
  · obtain ⟨a, p, q, t, g, b, cs, vs, ps, ws, es, bad, rfl, S, hp, hg, hes, hok, hlen, hbad, kQ, kE⟩ := h
    have nd := scShAll.nd
    have hr2 : Room 2 _ := hr.mono (by omega)
    refine ⟨_, pss_cons (ps_expr (pe_call GC hr2 (by rfl) gC kC bC .nil pass0 (pa_cons (pv 1) pa_nil)))
      (pss_cons (ps_set (i := 3) nd rfl (.inl rfl) (pe_fld (pv 0) rfl))
      (pss_cons (ps_set (i := 4) nd rfl (.inl rfl) (pe_fld (pv 0) rfl))
      (pss_cons (ps_set (i := 5) nd rfl (.inl rfl) (pe_fld (pv 0) rfl))
      (pss_cons (ps_set (i := 6) nd rfl (.inl rfl) pe_non)
      (pss_cons (ps_fld (pv 0) pe_bl rfl)
      (pss_one (ps_behindN (tb := fun W => tSeq (tFor (iEnumT K (tCons (tVar 1) tNil)) (gTup K 2 (gCons (gName 7) (gCons (gName 8) gNil))) (tSeq (tDrop (tMethX C "perform" (spPerfU K C CI) [] (WE W) (tVar 0) (tCons (tVar 8) tNil))) (tIfS (tTest (tOp (fun x y H Q => y = V.non ∧ Q (V.bl (!decide (x = V.non))) H) (tVar 2) (tC V.non))) tNever tNext))) (tAsg (tC (.bl true)) (gName 6))) (tfs := tSeq (sFld K (tVar 0) (tVar 5) "busy") (tIfS (tTest (tOp (fun x y H Q => y = V.non ∧ Q (V.bl (decide (x = V.non))) H) (tVar 6) (tC V.non))) (tAsg (tTup (tCons (tVar 3) (tCons (tVar 4) tNil))) (gTup K 2 (gCons (gAtt K (tVar 0) "numbers") (gCons (gAtt K (tVar 0) "past") gNil)))) tNext)) rfl rfl rfl (L2N.takes_of rfl rfl rfl rfl)
        (fun W pn xe tk po => swapT (pss_cons (ps_for po rfl (pi_enumT (by rfl) me (pa_cons (pv 1) pa_nil)) (pg_tup (by rfl) (pgs_cons (pg_name (i := 7) nd rfl (.inl rfl)) (pgs_cons (pg_name (i := 8) nd rfl (.inl rfl)) pgs_nil)))
            (pss_cons (ps_expr (pe_methX (pv 0) T.cl mP GP hr bP .nil (fun σ => L2N.passAt tk σ) (pa_cons (pv 8) pa_nil)))
            (pss_one (ps_if (pt_cmpR op_notN (pv 2) pe_non (nomark _)) (pss_one ps_never) pss_nil))))
          (pss_one (ps_set (i := 6) nd rfl (.inl rfl) pe_bl))) rfl)
        (pss_cons (ps_fld (pv 0) (pv 5) rfl) (pss_one (ps_if (pt_cmpR op_isN (pv 6) pe_non (nomark _)) (pss_one ps_never) pss_nil)))
        (fun z oe cls d pn hz hfl => swapT (pss_cons (ps_fld (pv 0) (pv 5) rfl) (pss_one (ps_if (pt_cmpR op_isN (pv 6) pe_non (nomark _))
          (pss_one (ps_asg (pe_tup (pa_cons (pv 3) (pa_cons (pv 4) pa_nil))) (pg_tupH (hotC hz hfl) (pgs_cons (pg_att (pv 0)) (pgs_cons (pg_att (pv 0)) pgs_nil))))) pss_nil))) rfl)))))))), ?_⟩
    obtain ⟨dx, ha⟩ := S.ob
    have hwl := Paired.length hes
    refine ⟨_, rfl, g, _, rfl, hg, fun x hx => ?_, fun H1 s1 => ?_⟩
    · rcases List.mem_append.mp hx with h | h
      · obtain ⟨i, hi⟩ := List.mem_iff_getElem?.mp h
        obtain ⟨e, _, he⟩ := paired_get hes hi
        exact .of_ed he
      · cases bad with
        | none => cases h
        | some y =>
          have : x = y := List.mem_singleton.mp h
          subst this
          exact .of_bad (hbad _ rfl)
    have ha1 := s1 _ _ ha
    refine ⟨_, rfl, a, C, dx, _, _, rfl, ha1, T.cl, T.nN, shF_numbers, _, rfl, a, C, dx, _, _, rfl, ha1, T.cl, T.nP, shF_past, _, rfl, a, C, dx, _, _, rfl, ha1, T.cl, T.nB, shF_busy, ?_⟩
    refine ⟨_, rfl, a, C, dx, _, rfl, ha1, T.cl, T.nB, shF_len, ?_⟩
    rw [shF_setB]
    have kx0 : KeepX a H (upd H1 a (.ins C dx (shF p q t true))) := fun b' o n e' => by
      rw [upd_ne n]
      exact s1 _ _ e'
    have kn0 := KN.of_ins ha kx0
    have S0 : ShP K C (upd H1 a (.ins C dx (shF p q t true))) a p q t true cs vs ps := by
      obtain ⟨xs, hx, hpa⟩ := S.pt
      exact ⟨⟨dx, upd_same⟩, S.pl.kn kn0, kn0.sq S.fl, ⟨xs, kn0.sq hx, hpa.kn kn0⟩, S.gd, S.l24, S.v9⟩
    generalize upd H1 a (.ins C dx (shF p q t true)) = H2 at kx0 kn0 S0 ⊢
    refine ⟨_, rfl, g, ws ++ bad.toList, rfl, kn0.sq hg, for_enumT (K := K) (a := g) (xs := ws ++ bad.toList) (fun i σ H' => ∃ (q' t' : Addr) (y7 y8 : Option V), σ = [some (.ref a), some (.ref g), some .non, some (.ref q), some (.ref t), some (.bl b), some .non, y7, y8] ∧ KeepX a H H' ∧ i ≤ es.length ∧
      ShP K C H' a p q' t' true cs (behs cs vs (es.take i)) (ps ++ hist cs vs (es.take i))) ?_ ?_ ?_ ?_⟩
    · refine ⟨q, t, none, none, rfl, kx0, Nat.zero_le _, ?_⟩
      rw [show ps ++ hist cs vs (es.take 0) = ps from List.append_nil _]
      exact S0
    · rintro i σ H' _ ⟨q', t', y7, y8, rfl, kx, _⟩
      exact (KN.of_ins ha kx).sq hg
    · rintro i x σ H' Tp hi ⟨q', t', y7, y8, rfl, kx, il, Si⟩ nT
      have sT := same_new (o := .tup [.int (i : Nat), x]) nT
      have kx2 : KeepX a H (upd H' Tp (.tup [.int (i : Nat), x])) := fun b' o n e' => sT _ _ (kx _ _ n e')
      have S2 := Si.same sT
      have kn2 := KN.of_ins ha kx2
      refine ⟨Tp, _, rfl, SqT.of upd_same, rfl, _, _, rfl, _, _, rfl, rfl, ?_⟩
      generalize upd H' Tp (.tup [.int (i : Nat), x]) = H3 at sT kx2 S2 kn2 ⊢
      obtain ⟨dx3, ha3⟩ := S2.ob
      refine ⟨_, rfl, a, dx3, _, rfl, ha3, shF_no (by decide +kernel) (by decide +kernel) (by decide +kernel) (by decide +kernel), _, rfl, ?_⟩
      by_cases c : i < ws.length
      · rw [List.getElem?_append_left c] at hi
        obtain ⟨e, he, hx⟩ := paired_get hes hi
        refine .inl ⟨a, p, q', t', true, x, cs, _, _, e, rfl, S2, hp.kn kn2, ?_, hx.kn kn2, edsOk_at hok he, fun H4 q4 t4 k4 S4 => ?_⟩
        · rw [List.length_append, hist_len, List.length_take]
          omega
        · refine ⟨_, rfl, rfl, false, rfl, ?_⟩
          refine ⟨q4, t4, _, _, rfl, fun b' o n e' => k4 _ _ n (kx2 _ _ n e'), by omega, ?_⟩
          rw [behs_succ he, hist_succ he, ← List.append_assoc]
          exact S4
      · have hbl : bad.toList.length ≤ 1 := by cases bad <;> simp
        have hil := (List.getElem?_eq_some_iff.mp hi).1
        rw [List.length_append] at hil
        have ie : i = ws.length := by omega
        subst ie
        cases bad with
        | none =>
          rw [List.getElem?_append_right (Nat.le_refl _)] at hi
          simp at hi
        | some y =>
          rw [List.getElem?_append_right (Nat.le_refl _), Nat.sub_self] at hi
          have hxy : y = x := Option.some.inj hi
          subst hxy
          refine .inr ⟨a, p, q', t', true, y, cs, _, _, rfl, S2, hp.kn kn2, (hbad _ rfl).kn kn2, fun H4 d s4 => ?_⟩
          have S4 := S2.same s4
          obtain ⟨dx4, ha4⟩ := S4.ob
          refine ⟨_, rfl, _, rfl, a, C, dx4, _, rfl, ha4, T.cl, T.nB, shF_len, ?_⟩
          rw [shF_setB]
          refine ⟨_, rfl, rfl, true, rfl, ?_⟩
          refine ⟨_, rfl, _, rfl, by show 2 ≤ sizeLine; decide, fun u nu => ?_⟩
          have nua : u ≠ a := fun z => by
            rw [z, upd_same] at nu
            cases nu
          refine ⟨u, _, rfl, SqT.of upd_same, rfl, _, _, rfl, _, rfl, a, C, dx4, shF p q' t' b, rfl, ?_, T.cl, T.nN, shF_len, ?_⟩
          · rw [upd_ne (Ne.symm nua)]
            exact upd_same
          rw [shF_setN]
          refine ⟨_, _, rfl, _, rfl, a, C, dx4, _, rfl, upd_same, T.cl, T.nP, shF_len, rfl, ?_⟩
          rw [shF_setP]
          have kx5 : KeepX a H (upd (upd (upd (upd H4 a (.ins C dx4 (shF p q' t' b))) u (.tup [.ref q, .ref t])) a (.ins C dx4 (shF p q t' b))) a (.ins C dx4 (shF p q t b))) := fun b' o n e' => by
            have e4 := s4 _ _ (kx2 _ _ n e')
            have nu' : b' ≠ u := ne_of_none (by rw [upd_ne n]; exact e4) nu
            rw [upd_ne n, upd_ne n, upd_ne nu', upd_ne n]
            exact e4
          have kn5 := KN.of_ins ha kx5
          obtain ⟨xs, hx, hpa⟩ := S.pt
          exact kE _ rfl _ d kx5 ⟨⟨dx4, upd_same⟩, S.pl.kn kn5, kn5.sq S.fl, ⟨xs, kn5.sq hx, hpa.kn kn5⟩, S.gd, S.l24, S.v9⟩
    · rintro σ H' ⟨q', t', y7, y8, rfl, kx, il, Si⟩
      rw [List.length_append] at il
      cases bad with
      | some y =>
        have : (Option.some y).toList.length = 1 := rfl
        omega
      | none =>
        obtain ⟨dx4, ha4⟩ := Si.ob
        refine ⟨_, rfl, _, rfl, a, C, dx4, _, rfl, ha4, T.cl, T.nB, shF_len, ?_⟩
        rw [shF_setB]
        refine ⟨_, rfl, rfl, false, rfl, ?_⟩
        have e0 : ws.length + (Option.none : Option V).toList.length = es.length := by
          show ws.length + 0 = es.length
          omega
        rw [List.length_append, e0, List.take_length] at Si
        have kx5 : KeepX a H' (upd H' a (.ins C dx4 (shF p q' t' b))) := fun b' o n e' => by
          rw [upd_ne n]
          exact e'
        have kn5 := KN.of_ins ha4 kx5
        obtain ⟨xs, hx, hpa⟩ := Si.pt
        exact kQ rfl _ q' t' (fun b' o n e' => kx5 _ _ n (kx _ _ n e')) ⟨⟨dx4, upd_same⟩, Si.pl.kn kn5, kn5.sq Si.fl, ⟨xs, kn5.sq hx, hpa.kn kn5⟩, Si.gd, Si.l24, Si.v9⟩
end
end KS
/-! defs that make a lambda: their code object is known -/
namespace KS
open PySem PySem.Spec PyProof.Rows L2 LamX NdefX
/-- a def whose code object stands at c -/
structure FunC (K : PySem.W.Frag) (x qual : Str) (st : Stmt) (f c : Addr) (fd : FuncData) : Prop where
  ex : ∃ (oc : Value) (od : Option Addr) (kV doc pm : Value) (an : Option Addr) (ct : Value) (osl : Array (Option Value)),
    fd = PySem.W.fnOf x qual (defArgs st) (defBody st) (defScope st) .none kV doc pm an (.ref c) ct ∧ K.lookup f = some ⟨oc, od, .func fd, osl⟩ ∧ PySem.W.codeIn K (.ref c) qual = true
end KS
/-! closures: a def that a def made and answered, called when that def is over; its cells lie in the picture -/
namespace KS
open PySem PySem.Spec PyProof.Rows L2 LamX NdefX
/-- the cell at c holds the object at a -/
def CellO (c a : Addr) : HO := .ext fun h => h.IsCell c (some (.ref a))
theorem cellO_at {P : Program} {w : World} {H : Hp} {h : Heap} {c a : Addr} (ok : HOk P w H h) (e : H c = some (CellO c a)) : h.IsCell c (some (.ref a)) := by
  obtain ⟨z, _, _⟩ := ok c _ e
  exact z
abbrev Cl := List (Str × Addr)
def hid (cl : Cl) (H : Hp) : Hp := fun b => if b ∈ cl.map Prod.snd then none else H b
def unh (cl : Cl) (H H1 : Hp) : Hp := fun b => if b ∈ cl.map Prod.snd then H b else H1 b
def AllC (cl : Cl) (H : Hp) : Prop := ∀ b ∈ cl.map Prod.snd, ∃ a, H b = some (CellO b a)
section
variable {cl : Cl} {H H1 : Hp} {b : Addr} {o : HO} {P : Program} {w : World} {K : PySem.W.Frag} {mg : Str → Option Value} {base : Heap}
theorem hid_in (h : b ∈ cl.map Prod.snd) : hid cl H b = none := if_pos h
theorem hid_out (h : b ∉ cl.map Prod.snd) : hid cl H b = H b := if_neg h
theorem unh_in (h : b ∈ cl.map Prod.snd) : unh cl H H1 b = H b := if_pos h
theorem unh_out (h : b ∉ cl.map Prod.snd) : unh cl H H1 b = H1 b := if_neg h
theorem hid_some (e : hid cl H b = some o) : b ∉ cl.map Prod.snd ∧ H b = some o := by
  by_cases c : b ∈ cl.map Prod.snd
  · rw [hid_in c] at e
    cases e
  · rw [hid_out c] at e
    exact ⟨c, e⟩
/-- what is no cell is not hidden -/
theorem hid_get (A : AllC cl H) (e : H b = some o) (n : ∀ a, o ≠ CellO b a) : hid cl H b = some o := by
  rw [hid_out]
  · exact e
  · intro z
    obtain ⟨a, q⟩ := A b z
    rw [e] at q
    exact n a (Option.some.inj q)
theorem hid_none (e : H b = none) : hid cl H b = none := by
  by_cases c : b ∈ cl.map Prod.snd
  · exact hid_in c
  · rw [hid_out c]
    exact e
theorem hid_hok {h : Heap} (A : AllC cl H) (x : HOk P w H h) : HOk P w (hid cl H) h := fun b o e => by
  obtain ⟨nb, e1⟩ := hid_some e
  refine (x b o e1).stay (fun _ _ _ q => q) (fun c q => hid_get A q fun a z => ?_) (fun c xs q => hid_get A q fun a z => ?_)
  · cases z
  · cases z
theorem hid_env0 {A : Around} {outer : List Env} {s : Shared} (C : AllC cl H) (e : Env0 P w K mg base A outer s H) : Env0 P w K mg base A outer s (hid cl H) :=
  ⟨e.frames, e.mod, fun b o q => ⟨(e.bs b o q).1, hid_none (e.bs b o q).2⟩, e.bsz, e.funs, fun b q => hid_none (e.frf b q), hid_hok C e.hok, e.bare⟩
/-- behind the call: the cells are seen again -/
theorem unh_same (h : ∀ b ∈ cl.map Prod.snd, H1 b = none) : Same H1 (unh cl H H1) := fun b o e => by
  rw [unh_out]
  · exact e
  · intro z
    rw [h b z] at e
    cases e
theorem ce_unh {outer : List Env} {s s' : Shared} {Q Q' : VK} {u : Value} (C : AllC cl H) (x : HOk P w H s.heap) (k : ∀ v H1, (∀ b ∈ cl.map Prod.snd, H1 b = none) → Q' v H1 → Q v (unh cl H H1)) (h : CE outer P w (hid cl H) s Q' u s') : CE outer P w H s Q u s' := by
  obtain ⟨v, H1, os, bare, U, ok, rv, q⟩ := h
  have nx : ∀ c : Addr, c ∉ ([] : List Addr) := fun c => by simp
  have at0 : ∀ b ∈ cl.map Prod.snd, ∃ a ob, H b = some (CellO b a) ∧ s.heap.get? b = some ob ∧ ob.data = .cell (some (.ref a)) := fun b hb => by
    obtain ⟨a, e⟩ := C b hb
    obtain ⟨ob, g1, g2⟩ := cellO_at x e
    exact ⟨a, ob, e, g1, g2⟩
  have n1 : ∀ b ∈ cl.map Prod.snd, H1 b = none := fun b hb => by
    obtain ⟨a, ob, _, g1, _⟩ := at0 b hb
    exact U.free b ob g1 (hid_in hb) (nx b)
  have sm : Same H1 (unh cl H H1) := unh_same n1
  have far : ∀ {b o}, H b = some o → (∀ a, o ≠ CellO b a) → b ∉ cl.map Prod.snd := fun {b o} e n z => by
    obtain ⟨a, q⟩ := C b z
    rw [e] at q
    exact n a (Option.some.inj q)
  refine ⟨v, unh cl H H1, os, bare, ⟨fun b ob e n f g => U.keep b ob e (hid_none n) f g, fun b ob e n f g => U.slot b ob e (hid_none n) f g, fun b ob e n g => ?_, U.there, fun b xs e => ?_, fun b ob e' e => ?_, fun b ps e => ?_⟩, fun b ob e => ?_, rv, k v H1 n1 q⟩
  · by_cases c : b ∈ cl.map Prod.snd
    · obtain ⟨a, _, e2, _⟩ := at0 b c
      rw [n] at e2
      cases e2
    · rw [unh_out c]
      exact U.free b ob e (hid_none n) g
  · exact sm _ _ (U.tups b xs (hid_get C e fun a z => by cases z))
  · exact sm _ _ (U.frzs b _ _ (hid_get C e fun a z => by cases z))
  · obtain ⟨more, e2⟩ := U.tbls b ps (hid_get C e fun a z => by cases z)
    exact ⟨more, sm _ _ e2⟩
  · by_cases c : b ∈ cl.map Prod.snd
    · obtain ⟨a, o1, e1, g1, g2⟩ := at0 b c
      rw [unh_in c, e1] at e
      cases e
      obtain ⟨sl, g3⟩ := U.any g1 (hid_in c) (nx b)
      have z : s'.heap.IsCell b (some (.ref a)) := ⟨_, g3, g2⟩
      exact ⟨z, ⟨_, g3⟩, fun h1 h2 ⟨o2, q1, q2⟩ st => ⟨o2, st _ q1, q2⟩⟩
    · rw [unh_out c] at e
      exact (ok b ob e).stay (fun _ _ _ q => q) (fun c q => sm _ _ q) fun c xs q => sm _ _ q
end
/-! ### the closure in the picture -/
/-- the function F stands at f, the names of fr that it captured hold the objects at as -/
structure CloAt (H : Hp) (f : Addr) (F : NF) (fr : List Str) (as : List Addr) : Prop where
  fn : H f = some (FnO f F)
  cd : H F.c = some (CodeO F.c F.qual)
  len : as.length = fr.length
  all : AllC F.cl H
  inj : ∀ x y c, F.cl.lookup x = some c → F.cl.lookup y = some c → x = y
  has : ∀ (i : Nat) (y : Str), fr[i]? = some y → ∃ c a, F.cl.lookup y = some c ∧ as[i]? = some a ∧ H c = some (CellO c a)
theorem lookup_snd {cl : Cl} {y : Str} {c : Addr} (e : cl.lookup y = some c) : c ∈ cl.map Prod.snd := List.mem_map.mpr ⟨(y, c), PySem.mem_of_lookup e, rfl⟩
section
variable {H H' : Hp} {f : Addr} {F : NF} {fr : List Str} {as : List Addr}
/-- what keeps its objects keeps it -/
theorem CloAt.keep (C : CloAt H f F fr as) (k : ∀ b o, (b = f ∨ b = F.c ∨ b ∈ F.cl.map Prod.snd) → H b = some o → H' b = some o) : CloAt H' f F fr as :=
  ⟨k _ _ (.inl rfl) C.fn, k _ _ (.inr (.inl rfl)) C.cd, C.len, fun b hb => by
    obtain ⟨a, e⟩ := C.all b hb
    exact ⟨a, k _ _ (.inr (.inr hb)) e⟩, C.inj, fun i y e => by
    obtain ⟨c, a, e1, e2, e3⟩ := C.has i y e
    exact ⟨c, a, e1, e2, k _ _ (.inr (.inr (lookup_snd e1))) e3⟩⟩
theorem CloAt.cells {P : Program} {w : World} {h : Heap} (C : CloAt H f F fr as) (ok : HOk P w H h) : NdefX.CellsAt F.cl fr (as.map fun a => some (.ref a)) h (hid F.cl H) := by
  refine ⟨by rw [List.length_map]; exact C.len, fun y c e => ⟨hid_in (lookup_snd e), ?_⟩, C.inj, fun i y e => ?_⟩
  · obtain ⟨a, q⟩ := C.all c (lookup_snd e)
    exact ⟨_, cellO_at ok q⟩
  · obtain ⟨c, a, e1, e2, e3⟩ := C.has i y e
    refine ⟨c, e1, fun v ev => ?_⟩
    rw [List.getElem?_map, e2] at ev
    have ev : some (V.ref a) = some v := Option.some.inj ev
    cases ev
    exact ⟨.ref a, rfl, cellO_at ok e3⟩
end
/-- a closure's promise, told of the picture with its cells -/
structure WOk (P : Program) (w : World) (K : PySem.W.Frag) (mg : Str → Option Value) (base : Heap) (CX : CXT) (k : Nat) (f : Addr) (sp : Sp) : Prop where
  run : ∀ (A : Around) (outer : List Env) (s : Shared) (H : Hp) (us : List Value) (vs : List V) (Q : VK) (E : XK), Room k A → Env0 P w K mg base A outer s H → Vals vs us → sp vs H Q E → PySem.W.FnAt f s.heap ∧ codeAny (model P w) A (.call (.ref f) ⟨us, []⟩) (CR CX outer P w H s Q E) s
/-- a promise of the body, with the cells hidden, is one of the closure -/
theorem wok_of {P : Program} {w : World} {K : PySem.W.Frag} {mg : Str → Option Value} {base : Heap} {k : Nat} {f : Addr} {sp : Sp}
    (h : ∀ vs H Q E, sp vs H Q E → ∃ (F : NF) (ps fr : List Str) (as : List Addr) (spn : List (Option V) → Sp), CloAt H f F fr as ∧ NOk P w K mg base CX0 k f F ps fr spn ∧
      spn (as.map fun a => some (.ref a)) vs (hid F.cl H) (fun v H1 => (∀ b ∈ F.cl.map Prod.snd, H1 b = none) → Q v (unh F.cl H H1)) E) : WOk P w K mg base CX0 k f sp := by
  refine ⟨fun A outer s H us vs Q E hr e0 r q => ?_⟩
  obtain ⟨F, ps, fr, as, spn, C, N, q⟩ := h _ _ _ _ q
  obtain ⟨od, sl, doc, pm, ctv, ho⟩ := fnO_at e0.hok C.fn
  have nf : f ∉ F.cl.map Prod.snd := fun z => by
    obtain ⟨a, e⟩ := C.all f z
    obtain ⟨o1, g1, g2⟩ := cellO_at e0.hok e
    rw [ho] at g1
    cases g1
    cases g2
  have nc : F.c ∉ F.cl.map Prod.snd := fun z => by
    obtain ⟨a, e⟩ := C.all _ z
    obtain ⟨o1, g1, g2⟩ := cellO_at e0.hok e
    obtain ⟨c, oc, xs, t, e1, e2, e3, _⟩ := NdefX.codeO_at e0.hok C.cd
    cases e1
    rw [g1] at e2
    cases e2
    rw [g2] at e3
    cases e3
  refine ⟨⟨_, od, _, sl, ho⟩, codeAny_mono (N.run A outer s (hid F.cl H) us vs _ _ E hr (hid_env0 C.all e0) ((hid_out nf).trans C.fn) ((hid_out nc).trans C.cd) (C.cells e0.hok) r q) fun res s' hq => ?_⟩
  · cases res with
    | error e => exact False.elim hq
    | ok fl =>
      cases fl with
      | ret u => exact ce_unh C.all e0.hok (fun v H1 n z => z n) hq
      | next => exact hq
      | brk => exact hq
      | cont => exact hq
end KS
/-! closures: called by the name that holds them; the def that makes one -/
namespace KS
open PySem PySem.Spec PyProof.Rows L2 LamX NdefX
def LiveF (H : Hp) (f : Addr) : Prop := ∃ F, H f = some (FnO f F)
def tCallW (i : Nat) (sp : Addr → Sp) (E : XK) (t : TA) : TE := fun σ H Q => ∃ f, σ[i]? = some (some (.ref f)) ∧ LiveF H f ∧ t σ H fun vs H1 => LiveF H1 f ∧ sp f vs H1 Q E
section
variable {X : Cx} {k j i : Nat} {x : Str} {sp : Addr → Sp} {E : XK} {t : TA} {e : Expr} {es : List Expr} {p pos : Pos}
/-- name(..), the name holds a closure -/
theorem pe_callW (Fn : ∀ f, WOk X.prog X.w X.K X.mg X.base CX0 k f (sp f)) (hr : Room j X.A) (hk : k ≤ j) (hN : X.N[i]? = some x) (hv : Vis X.env.scope x) (ha : PA X (e :: es) t)
    (hd : (x == ("__debug__" : Str)) = false := by decide) (hcd : (x == ("__classdict__" : Str)) = false := by decide)
    (he : starEach (e :: es) X.env = (false, eval e X.env) :: starEach es X.env := by rfl) (hpl : (backTo pos (starEach es X.env)).any (·.1) = false := by rfl) :
    PE X (.Call (.Name x p) (e :: es) [] pos) (tCallW i sp E t) := by
  refine ⟨fun pins s σ H Q I h => ?_⟩
  obtain ⟨f, hs, ⟨F, hf⟩, ht⟩ := h
  refine wpAny_Call_Name_kw (thn ((pe_var (pos := p) hN hv hd hcd).run pins s σ H (fun v H1 => v = .ref f ∧ H1 = H) I ⟨.ref f, hs, rfl, rfl⟩) fun u s1 ⟨v, H1, I1, r1, ev, eH⟩ => ?_)
  subst ev
  rw [eH] at I1
  obtain rfl : u = Value.ref f := r1
  refine PySem.W.callWith_F (first := []) (fnAt_of I1 hf) (thn (ha.run pos pins s1 σ H _ I1 ht) fun us s2 ⟨vs, H2, I2, r, h1, q⟩ => ?_) he hpl
  obtain ⟨F2, hf2⟩ := h1
  refine ⟨fnAt_of I2 hf2, ?_⟩
  show wpAny _ _ (call (.ref f) us) _ _ _
  refine wpAny_call (codeAny_mono ((Fn f).run X.A X.stack s2 H2 us vs Q E (hr.mono hk) I2.env0 r q).2 fun res s' hq => ?_)
  cases res with
  | error z => exact False.elim hq
  | ok fl =>
    cases fl with
    | ret u => exact I2.after hq
    | next => exact False.elim hq
    | brk => exact False.elim hq
    | cont => exact False.elim hq
end
/-! ### the def that makes a closure and answers it -/
def addC (cl : Cl) (g : Addr → Addr) (H : Hp) : Hp := fun b => if b ∈ cl.map Prod.snd then some (CellO b (g b)) else H b
theorem addC_in {cl : Cl} {g : Addr → Addr} {H : Hp} {b : Addr} (h : b ∈ cl.map Prod.snd) : addC cl g H b = some (CellO b (g b)) := if_pos h
theorem addC_out {cl : Cl} {g : Addr → Addr} {H : Hp} {b : Addr} (h : b ∉ cl.map Prod.snd) : addC cl g H b = H b := if_neg h
theorem isCell_one {h : Heap} {c : Addr} {v u : Option Value} (a : h.IsCell c v) (b : h.IsCell c u) : v = u := by
  obtain ⟨o, g1, g2⟩ := a
  obtain ⟨o', k1, k2⟩ := b
  rw [g1] at k1
  cases k1
  rw [g2] at k2
  cases k2
  rfl
def spMk (T : List (Addr × Str)) (mkF : Cl → Addr → NF) (fr : List Str) : Sp := fun xs H Q _ => ∃ as : List Addr, xs = as.map V.ref ∧ as.length = fr.length ∧ Tabs T H ∧
  ∀ (f : Addr) (F : NF) (H' : Hp), (∃ cl c', F = mkF cl c') → ExtN H H' → Tabs T H' → H f = none → CloAt H' f F fr as → Q (.ref f) H'
def tabsN (T : List (Addr × Str)) : List NTab := T.map fun p => (p.1, fun _ _ => p.2)
theorem tabsN_of {T : List (Addr × Str)} {H : Hp} (h : Tabs T H) : TabsN (tabsN T) H := fun p hp => by
  obtain ⟨q, hq, rfl⟩ := List.mem_map.mp hp
  exact TabN.of (h q hq)
theorem tabsN_to {T : List (Addr × Str)} {H : Hp} (h : TabsN (tabsN T) H) : Tabs T H := fun p hp => TabN.to (h _ (List.mem_map.mpr ⟨p, hp, rfl⟩))
section
variable {P : Program} {w : World} {K : PySem.W.Frag} {mg : Str → Option Value} {base : Heap}
theorem ok_mk {x qual name : Str} {st nd : Stmt} {f c Pt : Addr} {fd : FuncData} {ps : List Str} {T : List (Addr × Str)} {p0 p1 p2 : Pos} (F : FunC K x qual st f c fd) (S : FnScope (ps ++ [name]) ps (defScope st)) (hbody : defBody st = [nd, .Return (some (.Name name p1)) p2])
    (hst : nd = .FunctionDef name (C8.fnArgs nd) (C8.fnBody nd) [] none [] (C8.fnScope nd) none name p0) (TB : TabB base mg c Pt) (hm : (Pt, qual ++ ".<locals>." ++ name) ∈ T) (hu : ∀ p ∈ T, p.1 = Pt → p.2 = qual ++ ".<locals>." ++ name)
    (hq : ∀ a b, (envOfC qual (defScope st) a f b).qual ++ name = qual ++ ".<locals>." ++ name)
    (hfree : ∀ y ∈ (C8.fnScope nd).names, y.2 = .free → (defScope st).names.lookup y.1 = some .cell ∨ (defScope st).names.lookup y.1 = some .free) (hin : ∀ y ∈ (C8.fnScope nd).names, y.2 = .free → y.1 ∈ ps) (hfr : ∀ y ∈ ps, (y, NameKind.free) ∈ (C8.fnScope nd).names)
    (hd0 : (C8.fnArgs nd).defaults = []) (hk0 : (C8.fnArgs nd).kw_defaults = []) (ha : ∀ env, annTrees (C8.fnArgs nd) none env = []) (hx : (defScope st).names.lookup name = some .local) (hv1 : (name == ("__debug__" : Str)) = false) (hv2 : (name == ("__classdict__" : Str)) = false) :
    FnOk P w K mg base CX0 1 f fd ps (spMk T (NF.of nd name (qual ++ ".<locals>." ++ name)) ps) := by
  obtain ⟨oc, od, kV, doc, pm, an, ct, osl, rfl, lk, hcd⟩ := F.ex
  refine ⟨fun vs H Q E ⟨as, e, l, _⟩ => by rw [e, List.length_map, l], fun A outer s H args us vs Q E hr e0 hb r hsp => ?_⟩
  obtain ⟨as, rfl, hl, hT, hk⟩ := hsp
  have hl' : (as.map V.ref).length = ps.length := by rw [List.length_map, hl]
  have KX : K.In s.heap := e0.mod.kin.keeps fun b o e => (e0.bs b o e).1
  have lim : s.heap.NoLimit := e0.mod.nolimit.keeps fun b o e => (e0.bs b o e).1
  refine codeAny_call_function hr.depth (KX _ _ lk) rfl S.co S.gen rfl (PySem.W.codeRec_of KX hcd) (hb _ _ _ _ ?_)
  refine wpAny_newFunctionEnv_cells S.kind (fun ⟨n, v⟩ hy => ?_) fun env he s1 xc => ?_
  · rcases S.par n (List.of_mem_zip hy).1 with q | q
    · exact .inl q
    · exact .inr ⟨q, PySem.W.cellsFrom_some _ _ _ (.inl q)⟩
  subst he
  refine ⟨lim.keeps xc.toInCall.keep, codeAny_func ?_⟩
  have I : Inv (cxOf CX0 P w K mg base (ps ++ [name]) qual (defScope st) f (.ref c) A outer s H E) [] (L2.start (ps ++ [name]) (as.map V.ref)) H s1 := inv_start S hr.hd e0 hl' r xc
  have hN : (ps ++ [name])[ps.length]? = some name := by simp
  have hst0 : L2.start (ps ++ [name]) (as.map V.ref) = (as.map fun a => some (V.ref a)) ++ [none] := by
    unfold L2.start
    rw [List.map_map, List.length_append, List.length_map, hl]
    simp
  show wpAny _ _ (execs (defBody st) _) _ _ _
  rw [hbody]
  refine wpAny_execs_cons (wpAny_mono ((ps_ndefS (T := tabsN T) (nm := fun _ _ => qual ++ ".<locals>." ++ name) (i := ps.length) hst TB rfl (List.mem_map.mpr ⟨_, hm, rfl⟩) (hq _ _).symm (fun p hp e => ?_) hfree hd0 hk0 (ha _) S.nd hN (.inl hx) (.inl rfl)).run [] s1 _ H
    { nx := fun σ H' => ∃ g c', σ = (as.map fun a => some (V.ref a)) ++ [some (.ref g)] ∧ ExtN H H' ∧ TabsN (tabsN T) H' ∧ H g = none ∧ H' g = some (FnO g (NF.of nd name (qual ++ ".<locals>." ++ name) (cloFrom (envOfC qual (defScope st) s.heap.objs.size f (.ref c)).cells (C8.fnScope nd).names []) c')) ∧ H' c' = some (CodeO c' (qual ++ ".<locals>." ++ name)), rt := fun _ _ => False } I ⟨tabsN_of hT, fun g c' H1 x1 x2 x3 x4 x5 => ?_⟩) (fun fl s' q => ?_) ?_)
  · obtain ⟨q, hq', rfl⟩ := List.mem_map.mp hp
    show (fun _ _ => q.2) = _
    rw [hu q hq' e]
  · refine ⟨g, c', ?_, x1, x2, x3, x4, x5⟩
    rw [hst0, ← hl]
    conv => lhs; rw [show as.length = (as.map fun a => some (V.ref a)).length from (List.length_map _).symm]
    rw [List.set_append_right _ _ (Nat.le_refl _), Nat.sub_self]
    rfl
  · cases fl with
    | next =>
      obtain ⟨σ', H', J, g, c', eσ, x1, x2, x3, x4, x5⟩ := q
      show wpAny _ _ (execs [Stmt.Return (some (Expr.Name name p1)) p2] _) _ _ _
      have hg : σ'[ps.length]? = some (some (V.ref g)) := by
        rw [eσ, ← hl, List.getElem?_append_right (by rw [List.length_map]; exact Nat.le_refl _), List.length_map, Nat.sub_self]
        rfl
      refine wpAny_execs_cons (wpAny_Return_some (wpAny_mono ((pe_var (pos := p1) hN (.inl hx) hv1 hv2).run [] s' σ' H' (fun v H1 => v = .ref g ∧ H1 = H') J ⟨.ref g, hg, rfl, rfl⟩) (fun u s2 z => ?_) fun e s2 hs => hs))
      obtain ⟨v, H1, J1, rv, ev, eH⟩ := z
      subst ev
      subst eH
      have caps := NdefX.Caps.made (X := cxOf CX0 P w K mg base (ps ++ [name]) qual (defScope st) f (.ref c) A outer s H E) (scope := C8.fnScope nd) (fr := ps) (js := List.range ps.length) J1.ok hfree hfr (by
        refine List.ext_getElem (by simp) fun i h1 h2 => ?_
        have hi : i < ps.length := by simpa using h2
        rw [List.getElem_map, List.getElem_map, List.getElem_range]
        show (ps ++ [name])[i]? = _
        rw [List.getElem?_append_left hi, List.getElem?_eq_getElem hi])
      have CA := cells_of J1 caps
      generalize hcl : cloFrom (envOfC qual (defScope st) s.heap.objs.size f (.ref c)).cells (C8.fnScope nd).names [] = cl at x4
      have CA : NdefX.CellsAt cl ps ((List.range ps.length).map (slotAt σ')) s2.heap H1 := by
        rw [← hcl]
        exact CA
      have subC : ∀ y b, cl.lookup y = some b → (envOfC qual (defScope st) s.heap.objs.size f (.ref c)).cells.lookup y = some b := fun y b e => caps.sub y b (by rw [← hcl] at e; exact e)
      have key : ∀ b ∈ cl.map Prod.snd, ∃ (y : Str) (i : Nat), ps[i]? = some y ∧ cl.lookup y = some b := fun b hb => by
        obtain ⟨⟨y, b'⟩, hm', rfl⟩ := List.mem_map.mp hb
        rw [← hcl] at hm'
        rcases cloFrom_mem hm' with z | ⟨h1, h2⟩
        · cases z
        · obtain ⟨i, hi⟩ := List.mem_iff_getElem?.mp (hin _ h1 rfl)
          obtain ⟨c2, hc2, _⟩ := CA.has i y hi
          have e3 := subC y c2 hc2
          have e4 : b' = c2 := by
            rw [h2, e3] <;> rfl
          exact ⟨y, i, hi, by rw [e4]; exact hc2⟩
      have atI : ∀ {i : Nat} {y : Str}, ps[i]? = some y → ∃ a, as[i]? = some a ∧ ((List.range ps.length).map (slotAt σ'))[i]? = some (some (V.ref a)) := fun {i y} hi => by
        have hi2 : i < ps.length := (List.getElem?_eq_some_iff.mp hi).1
        have hi3 : i < as.length := by rw [hl]; exact hi2
        refine ⟨as[i], List.getElem?_eq_getElem hi3, ?_⟩
        rw [List.getElem?_map, List.getElem?_range hi2]
        show some (slotAt σ' i) = _
        rw [eσ, slotAt_of (v := V.ref as[i])]
        rw [List.getElem?_append_left (by rw [List.length_map]; exact hi3), List.getElem?_map, List.getElem?_eq_getElem hi3]
        rfl
      have isC : ∀ {i : Nat} {y : Str} {b : Addr}, ps[i]? = some y → cl.lookup y = some b → ∃ a, as[i]? = some a ∧ s2.heap.IsCell b (some (.ref a)) := fun {i y b} hi hb => by
        obtain ⟨a, ha1, ha2⟩ := atI hi
        obtain ⟨c2, hc2, hv⟩ := CA.has i y hi
        rw [hb] at hc2
        cases hc2
        obtain ⟨u2, ru, z⟩ := hv _ ha2
        obtain rfl : u2 = Value.ref a := ru
        exact ⟨a, ha1, z⟩
      have ex : ∀ b, ∃ a, b ∈ cl.map Prod.snd → s2.heap.IsCell b (some (.ref a)) := fun b => by
        by_cases hb : b ∈ cl.map Prod.snd
        · obtain ⟨y, i, hi, hb2⟩ := key b hb
          obtain ⟨a, _, z⟩ := isC hi hb2
          exact ⟨a, fun _ => z⟩
        · exact ⟨0, fun z => absurd z hb⟩
      obtain ⟨gg, hgg⟩ := Classical.axiomOfChoice ex
      have n1 : ∀ b ∈ cl.map Prod.snd, H1 b = none := fun b hb => by
        obtain ⟨y, i, hi, hb2⟩ := key b hb
        exact (CA.all y b hb2).1
      have far : ∀ b ∈ cl.map Prod.snd, s.heap.objs.size ≤ b := fun b hb => by
        obtain ⟨y, i, hi, hb2⟩ := key b hb
        exact J1.ok.cab y b rfl (subC y b hb2)
      have sm : Same H1 (addC cl gg H1) := fun b o e => by
        rw [addC_out fun z => by rw [n1 b z] at e; cases e]
        exact e
      have U : Un (frs outer) [] H H1 s.heap s2.heap := J1.base
      refine ⟨.ref g, addC cl gg H1, J1.os, J1.bare, ⟨U.keep, U.slot, fun b ob e n hx => ?_, U.there, fun b xs e => sm _ _ (U.tups b xs e), fun b o' u' e => sm _ _ (U.frzs b o' u' e), fun b qs e => ?_⟩, fun b ob e => ?_, rv, ?_⟩
      · rw [addC_out fun z => absurd (Heap.lt_size e) (Nat.not_lt.mpr (far b z))]
        exact U.free b ob e n hx
      · obtain ⟨more, e2⟩ := U.tbls b qs e
        exact ⟨more, sm _ _ e2⟩
      · by_cases hb : b ∈ cl.map Prod.snd
        · rw [addC_in hb] at e
          cases e
          obtain ⟨o1, q1, q2⟩ := hgg b hb
          have z : s2.heap.IsCell b (some (.ref (gg b))) := ⟨o1, q1, q2⟩
          exact ⟨z, ⟨o1, q1⟩, fun h1 h2 ⟨o2, r1, r2⟩ st => ⟨o2, st _ r1, r2⟩⟩
        · rw [addC_out hb] at e
          exact (J1.hok b ob e).stay (fun _ _ _ q => q) (fun b2 q => sm _ _ q) fun b2 ys q => sm _ _ q
      · refine hk g (NF.of nd name (qual ++ ".<locals>." ++ name) cl c') _ ⟨cl, c', rfl⟩ (fun b o e n => sm _ _ (x1 b o e n)) (fun p hp => (tabsN_to x2 p hp).ext fun b o e => sm _ _ e) x3 ⟨sm _ _ x4, sm _ _ x5, hl, fun b hb => ⟨gg b, addC_in hb⟩, CA.inj, fun i y e => ?_⟩
        obtain ⟨c2, hc2, _⟩ := CA.has i y e
        obtain ⟨a, ha1, z⟩ := isC e hc2
        have mem := lookup_snd hc2
        have z2 := isCell_one z (hgg c2 mem)
        cases z2
        exact ⟨c2, _, hc2, ha1, addC_in mem⟩
    | ret v => 
      obtain ⟨_, _, _, _, _, z⟩ := q
      exact z.elim
    | brk => 
      obtain ⟨_, _, _, z⟩ := q
      exact z.elim
    | cont => 
      obtain ⟨_, _, _, z⟩ := q
      exact z.elim
  · intro e s1 hs
    exact hs
end
end KS
/-! the sheet: do_all with a watch -/
namespace KS
open PySem PySem.Spec PyProof.Rows L2 RZ
open L2N (Zn)
/-- edits that go well, the closure fw called behind each; J i is what holds behind i of them -/
def spAllW (K : PySem.W.Frag) (C : Addr) (spW : Addr → Sp) : Sp := fun xs H Q E => ∃ (a p q t g fw : Addr) (b : Bool) (cs : List Cell) (vs : List Int) (ps : List (Ed × List Int)) (ws : List V) (es : List Ed) (J : Nat → Hp → Prop), xs = [.ref a, .ref g, .ref fw] ∧ ShP K C H a p q t b cs vs ps ∧ PlanN H p cs ∧
  SqT K H g ws ∧ EdsA K H cs ws es ∧ EdsOk cs vs es ∧ ps.length + es.length ≤ 1000 ∧ (∀ H', KeepX a H H' → ShP K C H' a p q t true cs vs ps → J 0 H') ∧
  (∀ i H1 H2, (∃ dx q' t' b', H1 a = some (.ins C dx (shF p q' t' b'))) → J i H1 → KeepX a H1 H2 → J i H2) ∧ (∀ i H1, J i H1 → LiveF H1 fw ∧ PlanN H1 p cs ∧ SqT K H1 g ws ∧ EdsA K H1 cs ws es) ∧
  (∀ i q' t' H1, i < es.length → J i H1 → ShP K C H1 a p q' t' true cs (behs cs vs (es.take (i + 1))) (ps ++ hist cs vs (es.take (i + 1))) → ∀ Q' : VK,
    (∀ H2, J (i + 1) H2 → ShP K C H2 a p q' t' true cs (behs cs vs (es.take (i + 1))) (ps ++ hist cs vs (es.take (i + 1))) → ∀ v, Q' v H2) → spW fw [.ref a, .int (i : Nat)] H1 Q' E0) ∧
  (∀ H' q' t', J es.length H' → ShP K C H' a p q' t' b cs (behs cs vs es) (ps ++ hist cs vs es) → Q .non H')
section
variable {P : Program} {w : World} {K : PySem.W.Frag} {mg : Str → Option Value} {base : Heap} {C CI : Addr}
theorem ok_allW {f fC fP : Addr} {fd fdC fdP : FuncData} {spW : Addr → Sp} {kw k0 : Nat} (F : FunD K "do_all" "Sheet.do_all" (defArgs sShDoAll) (defBody sShDoAll) (defScope sShDoAll) [] [("watch", .non)] f fd) (T : ShCls K mg C)
    (GC : FnOk P w K mg base CX0 2 fC fdC ["edits"] (spChkE K)) (bC : Binds K fdC ["edits"] []) (gC : mg "check_edits" = some (.ref fC)) (kC : PySem.W.keepIn K (.ref fC) = true)
    (GP : FnOk P w K mg base (L2N.CX P w) 13 fP fdP ["self", "edit"] (spPerfU K C CI)) (bP : Binds K fdP ["self", "edit"] []) (mP : Meth K C "perform" fP)
    (me : mg "enumerate" = none) (hW : ∀ f, WOk P w K mg base CX0 kw f (spW f)) (h13 : 13 ≤ k0) (hkw : kw ≤ k0) : FnOk P w K mg base (L2N.CX P w) (k0 + 1) f fd ["self", "edits", "watch"] (spAllW K C spW) := by
  refine F.ok scShAll (fun vs H Q E h => ?_) (fun cdv A outer s H vs Q E hr h => ?_)
  · obtain ⟨a, p, q, t, g, fw, b, cs, vs, ps, ws, es, J, rfl, _⟩ := h
    rfl
  · obtain ⟨a, p, q, t, g, fw, b, cs, vs, ps, ws, es, J, rfl, S, hp, hg, hes, hok, hlen, j0, jS, jL, jW, kQ⟩ := h
    have nd := scShAll.nd
    have hr2 : Room 2 _ := hr.mono (by omega)
    have hr13 : Room 13 _ := hr.mono h13
    refine ⟨_, pss_cons (ps_expr (pe_call GC hr2 (by rfl) gC kC bC .nil pass0 (pa_cons (pv 1) pa_nil)))
      (pss_cons (ps_set (i := 3) nd rfl (.inl rfl) (pe_fld (pv 0) rfl))
      (pss_cons (ps_set (i := 4) nd rfl (.inl rfl) (pe_fld (pv 0) rfl))
      (pss_cons (ps_set (i := 5) nd rfl (.inl rfl) (pe_fld (pv 0) rfl))
      (pss_cons (ps_set (i := 6) nd rfl (.inl rfl) pe_non)
      (pss_cons (ps_fld (pv 0) pe_bl rfl)
      (pss_one (ps_behindN (tb := fun W => tSeq (tFor (iEnumT K (tCons (tVar 1) tNil)) (gTup K 2 (gCons (gName 7) (gCons (gName 8) gNil))) (tSeq (tDrop (tMethX C "perform" (spPerfU K C CI) [] (WE W) (tVar 0) (tCons (tVar 8) tNil))) (tIfS (tTest (tOp (fun x y H Q => y = V.non ∧ Q (V.bl (!decide (x = V.non))) H) (tVar 2) (tC V.non))) (tDrop (tCallW 2 spW E0 (tCons (tVar 0) (tCons (tVar 7) tNil)))) tNext))) (tAsg (tC (.bl true)) (gName 6))) (tfs := tSeq (sFld K (tVar 0) (tVar 5) "busy") (tIfS (tTest (tOp (fun x y H Q => y = V.non ∧ Q (V.bl (decide (x = V.non))) H) (tVar 6) (tC V.non))) (tAsg (tTup (tCons (tVar 3) (tCons (tVar 4) tNil))) (gTup K 2 (gCons (gAtt K (tVar 0) "numbers") (gCons (gAtt K (tVar 0) "past") gNil)))) tNext)) rfl rfl rfl (L2N.takes_of rfl rfl rfl rfl)
        (fun W pn xe tk po => swapT (pss_cons (ps_for po rfl (pi_enumT (by rfl) me (pa_cons (pv 1) pa_nil)) (pg_tup (by rfl) (pgs_cons (pg_name (i := 7) nd rfl (.inl rfl)) (pgs_cons (pg_name (i := 8) nd rfl (.inl rfl)) pgs_nil)))
            (pss_cons (ps_expr (pe_methX (pv 0) T.cl mP GP hr13 bP .nil (fun σ => L2N.passAt tk σ) (pa_cons (pv 8) pa_nil)))
            (pss_one (ps_if (pt_cmpR op_notN (pv 2) pe_non (nomark _)) (pss_one (ps_expr (pe_callW (i := 2) hW hr hkw rfl (.inl rfl) (pa_cons (pv 0) (pa_cons (pv 7) pa_nil))))) pss_nil))))
          (pss_one (ps_set (i := 6) nd rfl (.inl rfl) pe_bl))) rfl)
        (pss_cons (ps_fld (pv 0) (pv 5) rfl) (pss_one (ps_if (pt_cmpR op_isN (pv 6) pe_non (nomark _)) (pss_one ps_never) pss_nil)))
        (fun z oe cls d pn hz hfl => swapT (pss_cons (ps_fld (pv 0) (pv 5) rfl) (pss_one (ps_if (pt_cmpR op_isN (pv 6) pe_non (nomark _))
          (pss_one (ps_asg (pe_tup (pa_cons (pv 3) (pa_cons (pv 4) pa_nil))) (pg_tupH (hotC hz hfl) (pgs_cons (pg_att (pv 0)) (pgs_cons (pg_att (pv 0)) pgs_nil))))) pss_nil))) rfl)))))))), ?_⟩
    obtain ⟨dx, ha⟩ := S.ob
    have hwl := Paired.length hes
    refine ⟨_, rfl, g, _, rfl, hg, fun x hx => ?_, fun H1 s1 => ?_⟩
    · obtain ⟨i, hi⟩ := List.mem_iff_getElem?.mp hx
      obtain ⟨e, _, he⟩ := paired_get hes hi
      exact .of_ed he
    have ha1 := s1 _ _ ha
    refine ⟨_, rfl, a, C, dx, _, _, rfl, ha1, T.cl, T.nN, shF_numbers, _, rfl, a, C, dx, _, _, rfl, ha1, T.cl, T.nP, shF_past, _, rfl, a, C, dx, _, _, rfl, ha1, T.cl, T.nB, shF_busy, ?_⟩
    refine ⟨_, rfl, a, C, dx, _, rfl, ha1, T.cl, T.nB, shF_len, ?_⟩
    rw [shF_setB]
    have kx0 : KeepX a H (upd H1 a (.ins C dx (shF p q t true))) := fun b' o n e' => by
      rw [upd_ne n]
      exact s1 _ _ e'
    have kn0 := KN.of_ins ha kx0
    have S0 : ShP K C (upd H1 a (.ins C dx (shF p q t true))) a p q t true cs vs ps := by
      obtain ⟨xs, hx, hpa⟩ := S.pt
      exact ⟨⟨dx, upd_same⟩, S.pl.kn kn0, kn0.sq S.fl, ⟨xs, kn0.sq hx, hpa.kn kn0⟩, S.gd, S.l24, S.v9⟩
    generalize upd H1 a (.ins C dx (shF p q t true)) = H2 at kx0 kn0 S0 ⊢
    have J0 := j0 _ kx0 S0
    refine ⟨_, rfl, g, ws, rfl, kn0.sq hg, for_enumT (K := K) (a := g) (xs := ws) (fun i σ H' => ∃ (q' t' : Addr) (y7 y8 : Option V), σ = [some (.ref a), some (.ref g), some (.ref fw), some (.ref q), some (.ref t), some (.bl b), some .non, y7, y8] ∧ i ≤ es.length ∧
      ShP K C H' a p q' t' true cs (behs cs vs (es.take i)) (ps ++ hist cs vs (es.take i)) ∧ J i H') ?_ ?_ ?_ ?_⟩
    · refine ⟨q, t, none, none, rfl, Nat.zero_le _, ?_, J0⟩
      rw [show ps ++ hist cs vs (es.take 0) = ps from List.append_nil _]
      exact S0
    · rintro i σ H' _ ⟨q', t', y7, y8, rfl, _, _, Ji⟩
      exact (jL _ _ Ji).2.2.1
    · rintro i x σ H' Tp hi ⟨q', t', y7, y8, rfl, il, Si, Ji⟩ nT
      have sT := same_new (o := .tup [.int (i : Nat), x]) nT
      have S2 := Si.same sT
      have J2 := jS _ _ _ (by obtain ⟨dx, h⟩ := Si.ob; exact ⟨dx, _, _, _, h⟩) Ji (fun b' o _ e' => sT _ _ e')
      refine ⟨Tp, _, rfl, SqT.of upd_same, rfl, _, _, rfl, _, _, rfl, rfl, ?_⟩
      generalize upd H' Tp (.tup [.int (i : Nat), x]) = H3 at sT S2 J2 ⊢
      obtain ⟨dx3, ha3⟩ := S2.ob
      refine ⟨_, rfl, a, dx3, _, rfl, ha3, shF_no (by decide +kernel) (by decide +kernel) (by decide +kernel) (by decide +kernel), _, rfl, ?_⟩
      obtain ⟨hLF, hPl, hSq, hEd⟩ := jL _ _ J2
      obtain ⟨e, he, hx⟩ := paired_get hEd hi
      have il2 : i < es.length := (List.getElem?_eq_some_iff.mp he).1
      refine .inl ⟨a, p, q', t', true, x, cs, _, _, e, rfl, S2, hPl, ?_, hx, edsOk_at hok he, fun H4 q4 t4 k4 S4 => ?_⟩
      · rw [List.length_append, hist_len, List.length_take]
        omega
      have J4 := jS _ _ _ (by obtain ⟨dx, h⟩ := S2.ob; exact ⟨dx, _, _, _, h⟩) J2 k4
      rw [← behs_succ he, List.append_assoc, ← hist_succ he] at S4
      obtain ⟨hLF4, _⟩ := jL _ _ J4
      refine ⟨_, rfl, rfl, true, rfl, fw, rfl, hLF4, _, rfl, _, rfl, hLF4, ?_⟩
      refine jW i q4 t4 H4 il2 J4 S4 _ fun H5 J5 S5 v => ?_
      exact ⟨q4, t4, _, _, rfl, by omega, S5, J5⟩
    · rintro σ H' ⟨q', t', y7, y8, rfl, il, Si, Ji⟩
      obtain ⟨dx4, ha4⟩ := Si.ob
      refine ⟨_, rfl, _, rfl, a, C, dx4, _, rfl, ha4, T.cl, T.nB, shF_len, ?_⟩
      rw [shF_setB]
      refine ⟨_, rfl, rfl, false, rfl, ?_⟩
      rw [hwl, List.take_length] at Si
      rw [hwl] at Ji
      have kx5 : KeepX a H' (upd H' a (.ins C dx4 (shF p q' t' b))) := fun b' o n e' => by
        rw [upd_ne n]
        exact e'
      have kn5 := KN.of_ins ha4 kx5
      obtain ⟨xs, hx, hpa⟩ := Si.pt
      exact kQ _ q' t' (jS _ _ _ (by obtain ⟨dx, h⟩ := Si.ob; exact ⟨dx, _, _, _, h⟩) Ji kx5) ⟨⟨dx4, upd_same⟩, Si.pl.kn kn5, kn5.sq Si.fl, ⟨xs, kn5.sq hx, hpa.kn kn5⟩, Si.gd, Si.l24, Si.v9⟩
end
end KS
/-! the law of do_all and watch: what a watch reads -/
namespace KS
open PySem PySem.Spec PyProof.Rows L2 RZ
/-- a list against the empty list -/
def rNeNil : R2 := fun x y H Q => ∃ (a b : Addr) (xs : List V), x = .ref a ∧ y = .ref b ∧ H a = some (.lst xs) ∧ H b = some (.lst []) ∧ Q (.bl (!xs.isEmpty)) H
theorem op_neNil {X : Cx} (hu : X.A.units < cLine) : OpR X (compareOp .NotEq) rNeNil := by
  intro pins s σ H x y v u Q I rx ry h
  obtain ⟨a, b, xs, rfl, rfl, ea, eb, q⟩ := h
  cases rx
  cases ry
  obtain ⟨its, r, ⟨o1, n1, ho1, hc1, _, hd1⟩, _⟩ := I.list (SqL.of ea)
  obtain ⟨its2, r2, ⟨o2, n2, ho2, hc2, _, hd2⟩, _⟩ := I.list (SqL.of eb)
  have la : s.heap.IsList a its.toArray := ⟨o1, ho1, hc1, n1, hd1⟩
  have lb : s.heap.IsList b its2.toArray := ⟨o2, ho2, hc2, n2, hd2⟩
  cases r2
  cases r with
  | nil => exact SeqAt.RcNeAt.lists (e := fun _ => true) la lb rfl hu (fun j h1 _ => absurd h1 (Nat.not_lt_zero j)) _ _ _ _ ⟨.bl false, H, I, rfl, q⟩
  | cons r0 rs => exact SeqAt.RcNeAt.lists_lengths la lb (by simp) hu _ _ _ _ ⟨.bl true, H, I, rfl, q⟩
/-- what a sheet's reading tells, as it lies there and as data -/
def lastV (cs : List Cell) (vs : List Int) : Int := vs.getD (cs.length - 1) 0
def rdV (i : Nat) (p q u : Addr) (b : Bool) (cs : List Cell) (vs : List Int) : List V := [.int i, .ref p, .ref q, .ref u, .bl b, .int (cs.length : Nat), .str (page cs vs), .str (shRepr cs.length), .int (lastV cs vs), .bl (settled cs vs), .bl true]
def rdD (i : Nat) (b : Bool) (cs : List Cell) (vs : List Int) (es : List Ed) : List PyData := [.int i, planD cs, lineD vs, .tuple (es.map (Ed.dat cs)), .bool b, .int (cs.length : Nat), .str (page cs vs), .str (shRepr cs.length), .int (lastV cs vs), .bool (settled cs vs), .bool true]
structure RdF (K : PySem.W.Frag) (H : Hp) (p q u : Addr) (cs : List Cell) (vs : List Int) (es : List Ed) : Prop where
  pl : PlanT K H p cs
  fl : SqT K H q (vs.map V.int)
  ed : ∃ us, SqT K H u us ∧ EdsA K H cs us es
theorem RdF.kn {K : PySem.W.Frag} {H H' : Hp} {p q u : Addr} {cs : List Cell} {vs : List Int} {es : List Ed} (k : KN H H') (h : RdF K H p q u cs vs es) : RdF K H' p q u cs vs es := by
  obtain ⟨h1, h2, us, h3, h4⟩ := h
  exact ⟨h1.kn k, k.sq h2, us, k.sq h3, EdsA.kn k h4⟩
theorem RdF.dp {K : PySem.W.Frag} {H : Hp} {p q u : Addr} {cs : List Cell} {vs : List Int} {es : List Ed} {i : Nat} {b : Bool} (h : RdF K H p q u cs vs es) : DpAll K H (rdV i p q u b cs vs) (rdD i b cs vs es) := by
  obtain ⟨h1, h2, us, h3, h4⟩ := h
  exact .cons (.int _) (.cons (PlanAt.dp h1.at) (.cons (.tup h2 (dp_ints _)) (.cons (.tup h3 h4.dp) (.cons (.bl _) (.cons (.int _) (.cons (.str _) (.cons (.str _) (.cons (.int _) (.cons (.bl _) (.cons (.bl _) .nil))))))))))
theorem DpAll.app {K : PySem.W.Frag} {H : Hp} : ∀ {xs ys : List V} {ds es : List PyData}, DpAll K H xs ds → DpAll K H ys es → DpAll K H (xs ++ ys) (ds ++ es)
  | _, _, _, _, .nil, h => h
  | _, _, _, _, .cons a r, h => .cons a (DpAll.app r h)
abbrev sLRead67 : Stmt := topS 85
theorem scLRead67 : FnScope ["_law_board", "_law_at", "_law_told"] ["_law_board", "_law_at"] (defScope sLRead67) := ⟨rfl, rfl, rfl, by decide +kernel, rfl, by decide +kernel, by decide +kernel⟩
def spRead67 (K : PySem.W.Frag) (C : Addr) : Sp := fun xs H Q _ => ∃ (a p q t : Addr) (b : Bool) (i : Nat) (cs : List Cell) (vs : List Int) (ps : List (Ed × List Int)), xs = [.ref a, .int i] ∧ ShP K C H a p q t b cs vs ps ∧ PlanN H p cs ∧ ps.length ≤ 1000 ∧
  ∀ H' L u, Same H H' → H L = none → H' L = some (.lst (rdV i p q u b cs vs)) → RdF K H' p q u cs vs (ps.map (·.1)) → Q (.ref L) H'
section
variable {P : Program} {w : World} {K : PySem.W.Frag} {mg : Str → Option Value} {base : Heap} {C CI fX : Addr}
theorem ok_read67 {f : Addr} {fd : FuncData} (F : Fun K "_law_read" "_law_read" sLRead67 f fd) (T : ShCls K mg C) (B : ShRd P w K mg base C)
    (mR : mg "repr" = none) (ml : mg "len" = none) (mS : mg "str" = none) (mi : mg "isinstance" = none) : FnOk P w K mg base CX0 11 f fd ["_law_board", "_law_at"] (spRead67 K C) := by
  obtain ⟨f1, d1, G1, b1, m1⟩ := B.plan
  obtain ⟨f2, d2, G2, b2, m2⟩ := B.fil
  obtain ⟨f3, d3, G3, b3, m3⟩ := B.log
  obtain ⟨f4, d4, G4, b4, m4⟩ := B.val
  obtain ⟨f5, d5, G5, b5, m5⟩ := B.set9
  obtain ⟨f6, d6, G6, b6, m6⟩ := B.len
  obtain ⟨f7, d7, G7, b7, m7⟩ := B.str
  obtain ⟨f8, d8, G8, b8, m8⟩ := B.repr
  refine F.ok scLRead67 (fun vs H Q E h => ?_) (fun cdv A outer s H vs Q E hr h => ?_)
  · obtain ⟨a, p, q, t, b, i, cs, vs, ps, rfl, _⟩ := h
    rfl
  · obtain ⟨a, p, q, t, b, i, cs, vs, ps, rfl, S, hp, h1k, k⟩ := h
    have nd := scLRead67.nd
    have hr1 : Room 1 _ := hr.mono (by omega)
    have hr2 : Room 2 _ := hr.mono (by omega)
    have hr6 : Room 6 _ := hr.mono (by omega)
    have hr10 : Room 10 _ := hr.mono (by omega)
    refine ⟨_, pss_cons (ps_set (i := 2) nd rfl (.inl rfl) (pe_lst (pa_cons (pv 1) (pa_cons (pe_meth0 (pv 0) T.cl m1 G1 hr1 b1 .nil pass0) (pa_cons (pe_meth0 (pv 0) T.cl m2 G2 hr1 b2 .nil pass0) (pa_cons (pe_meth0 (pv 0) T.cl m3 G3 hr1 b3 .nil pass0) (pa_cons (pe_fld (pv 0) rfl)
        (pa_cons (pe_callB (call_lenO m6.at_ m6.fn G6 b6 hr2 pass0) (by rfl) ml PySem.boot_len (pa_cons (pv 0) pa_nil)) (pa_cons (pe_callTy (call_strO m7.at_ m7.fn G7 b7 (hr.mono (by omega)) pass0) (by rfl) mS (by decide +kernel) (pa_cons (pv 0) pa_nil)) (pa_cons (pe_callB (call_reprO m8.at_ m8.fn G8 b8 hr2 pass0) (by rfl) mR (by decide +kernel) (pa_cons (pv 0) pa_nil)) pa_nil))))))))))
      (pss_one (ps_ret (pe_op op_cat (pv 2) (pe_lst (pa_cons (pe_meth (pv 0) T.cl m4 G4 hr6 b4 .nil pass0 (pa_cons (pe_ix ix_tup (pe_meth0 (pv 0) T.cl m1 G1 hr1 b1 .nil pass0) (pe_un un_neg pe_int) (fun _ _ => rfl)) pa_nil)) (pa_cons (pe_meth0 (pv 0) T.cl m5 G5 hr10 b5 .nil pass0) (pa_cons (pe_callB call_isi (by rfl) mi (by decide +kernel) (pa_cons (pv 0) (pa_cons (pe_glob (v := .ref C) (by rfl) T.gC rfl) pa_nil))) pa_nil))))))), ?_⟩
    obtain ⟨dx, ha⟩ := S.ob
    have no : ∀ {m : Str}, (m == "cells") = false → (m == "numbers") = false → (m == "past") = false → (m == "busy") = false → (shF p q t b).lookup m = none := fun h1 h2 h3 h4 => shF_no h1 h2 h3 h4
    refine ⟨_, rfl, _, rfl, a, dx, _, rfl, ha, no (by decide +kernel) (by decide +kernel) (by decide +kernel) (by decide +kernel), a, p, q, t, b, cs, vs, ps, rfl, S, ?_⟩
    refine ⟨_, rfl, a, dx, _, rfl, ha, no (by decide +kernel) (by decide +kernel) (by decide +kernel) (by decide +kernel), a, p, q, t, b, cs, vs, ps, rfl, S, ?_⟩
    refine ⟨_, rfl, a, dx, _, rfl, ha, no (by decide +kernel) (by decide +kernel) (by decide +kernel) (by decide +kernel), a, p, q, t, b, cs, vs, ps, rfl, S, h1k, fun H1 u us s1 hu1 he1 => ?_⟩
    have l24 := S.l24
    refine ⟨_, rfl, a, C, dx, _, _, rfl, s1 _ _ ha, T.cl, T.nB, shF_busy, ?_⟩
    refine ⟨_, rfl, a, dx, _, rfl, s1 _ _ ha, a, p, q, t, b, cs, vs, ps, rfl, S.same s1, cs.length, rfl, by omega, ?_⟩
    refine ⟨_, rfl, a, dx, _, rfl, s1 _ _ ha, a, p, q, t, b, cs, vs, ps, rfl, S.same s1, fun H2 s2 => ⟨_, rfl, ?_⟩⟩
    have s02 := s1.trans s2
    refine ⟨_, rfl, a, dx, _, rfl, s02 _ _ ha, a, p, q, t, b, cs, vs, ps, rfl, S.same s02, _, rfl, ?_⟩
    refine ⟨by show 8 ≤ sizeLine; decide, fun L nL => ?_⟩
    have sL := same_new (o := .lst [.int i, .ref p, .ref q, .ref u, .bl b, .int (cs.length : Nat), .str (page cs vs), .str (shRepr cs.length)]) nL
    have hL : upd H2 L (.lst [.int i, .ref p, .ref q, .ref u, .bl b, .int (cs.length : Nat), .str (page cs vs), .str (shRepr cs.length)]) L = some (.lst [.int i, .ref p, .ref q, .ref u, .bl b, .int (cs.length : Nat), .str (page cs vs), .str (shRepr cs.length)]) := upd_same
    generalize upd H2 L (.lst [.int i, .ref p, .ref q, .ref u, .bl b, .int (cs.length : Nat), .str (page cs vs), .str (shRepr cs.length)]) = H3 at sL hL ⊢
    have s03 := s02.trans sL
    obtain ⟨xs, hx, hc⟩ := id hp
    have hxl := Paired.length hc
    have hvl := S.v9.len
    have n0 : 0 < cs.length := by
      have := S.gd.ne
      cases cs with
      | nil => exact absurd rfl this
      | cons _ _ => simp
    obtain ⟨x, ex⟩ : ∃ x, xs[cs.length - 1]? = some x := ⟨_, List.getElem?_eq_getElem (by omega)⟩
    obtain ⟨c, ec, hxc⟩ := paired_get hc ex
    have ev : vs[cs.length - 1]? = some (lastV cs vs) := by
      unfold lastV
      rw [List.getD_eq_getElem?_getD, List.getElem?_eq_getElem (by omega)]
      rfl
    refine ⟨_, rfl, ?_⟩
    refine ⟨_, rfl, a, dx, _, rfl, s03 _ _ ha, no (by decide +kernel) (by decide +kernel) (by decide +kernel) (by decide +kernel), ?_⟩
    refine ⟨_, rfl, a, dx, _, rfl, s03 _ _ ha, no (by decide +kernel) (by decide +kernel) (by decide +kernel) (by decide +kernel), a, p, q, t, b, cs, vs, ps, rfl, S.same s03, ?_⟩
    refine ⟨_, rfl, p, xs, -1, x, rfl, rfl, same_seqT s03 hx.sq, atI_last (by rw [List.getLast?_eq_getElem?, hxl]; exact ex), a, p, q, t, b, x, c, cs.length - 1, lastV cs vs, cs, vs, ps, rfl, S.same s03, hp.same s03, cellT_same s03 hxc, ec, ev, fun H4 s4 => ?_⟩
    have s04 := s03.trans s4
    refine ⟨_, rfl, a, dx, _, rfl, s04 _ _ ha, no (by decide +kernel) (by decide +kernel) (by decide +kernel) (by decide +kernel), a, p, q, t, b, cs, vs, ps, rfl, S.same s04, fun H5 s5 => ?_⟩
    have s05 := s04.trans s5
    refine ⟨_, rfl, _, _, _, _, true, rfl, .own C, T.ty (s05 _ _ ha), T.self, ?_⟩
    refine ⟨by show 3 ≤ sizeLine; decide, fun M nM => ?_⟩
    have sM := same_new (o := .lst [.int (lastV cs vs), .bl (settled cs vs), .bl true]) nM
    have hM : upd H5 M (.lst [.int (lastV cs vs), .bl (settled cs vs), .bl true]) M = some (.lst [.int (lastV cs vs), .bl (settled cs vs), .bl true]) := upd_same
    generalize upd H5 M (.lst [.int (lastV cs vs), .bl (settled cs vs), .bl true]) = H6 at sM hM ⊢
    have s36 := (s4.trans s5).trans sM
    have s06 := s03.trans s36
    have hL6 := s36 _ _ hL
    refine ⟨L, M, _, _, rfl, rfl, hL6, hM, by rw [sizeLine_eq]; show 8 + 3 ≤ _; omega, fun N nN => ?_⟩
    have sN := same_new (o := .lst (rdV i p q u b cs vs)) nN
    have s07 := s06.trans sN
    refine k _ N u s07 (s06.free nN) upd_same ⟨S.pl.same s07, same_seqT s07 S.fl, us, SqT.of (((s2.trans sL).trans s36).trans sN _ _ hu1), EdsA.kn (.of_same (((s2.trans sL).trans s36).trans sN)) he1⟩
end
end KS
/-! do_all called without a watch -/
namespace KS
open PySem PySem.Spec PyProof.Rows L2
theorem all_binds {K : PySem.W.Frag} {f : Addr} {fd : FuncData} (F : FunD K "do_all" "Sheet.do_all" (defArgs sShDoAll) (defBody sShDoAll) (defScope sShDoAll) [] [("watch", .non)] f fd) : ∃ ds, Vals [.non] ds ∧ Binds K fd ["self", "edits", "watch"] ds :=
  F.binds0 2 (by simp) rfl fun D doc pm an cdv ct us ks h1 h2 => by
    match us, ks, h1, h2 with
    | [a, b], [c], _, _ => exact ⟨_, _, _, _, _, _, rfl, rfl, rfl⟩
end KS
/-! the law of two sheets: what fails, what is empty -/
/-! the law of two sheets: one turn -/
namespace KS
open PySem PySem.Spec PyProof.Rows L2 RZ
/-! ### edits as data that can be compared -/
theorem wS_ok (l : List Bool) : PyData.strOk (wS l) = true := by
  unfold PyData.strOk wS
  rw [Array.all_eq_true]
  intro i hi
  rw [List.getElem_toArray, List.getElem_map]
  cases l[i]'(by simpa using hi) <;> decide
mutual
theorem stp_lay : ∀ s : Stp, s.dat.canLay0 = true
  | .w l => wS_ok l
  | .r n b => by
    show (PyData.strOk "repeat" && (true && (PyData.canLayAll0 (datL b) && true))) = true
    rw [stps_lay b]
    decide +kernel
theorem stps_lay : ∀ b : List Stp, PyData.canLayAll0 (datL b) = true
  | [] => rfl
  | s :: b => by
    show (s.dat.canLay0 && PyData.canLayAll0 (datL b)) = true
    rw [stp_lay s, stps_lay b]
    rfl
end
theorem ed_lay (cs : List Cell) (e : Ed) : (e.dat cs).canLay0 = true := by
  cases e with
  | arr ss =>
    show (PyData.strOk "arrange" && (PyData.canLayAll0 (datL ss) && true)) = true
    rw [stps_lay ss]
    decide +kernel
  | set i v =>
    show (PyData.strOk "set" && ((cellD _).canLay0 && (true && true))) = true
    rw [(cell_lay _).1]
    decide +kernel
  | swap i j =>
    show (PyData.strOk "swap" && ((cellD _).canLay0 && ((cellD _).canLay0 && true))) = true
    rw [(cell_lay _).1, (cell_lay _).1]
    decide +kernel
theorem eds_lay (cs : List Cell) : ∀ es : List Ed, PyData.canLayAll0 (es.map (Ed.dat cs)) = true
  | [] => rfl
  | e :: es => by
    show ((e.dat cs).canLay0 && PyData.canLayAll0 (es.map (Ed.dat cs))) = true
    rw [ed_lay, eds_lay cs es]
    rfl
theorem eds_depL {cs : List Cell} : ∀ {es : List Ed}, EdsSh cs es → PyData.depthAll (es.map (Ed.dat cs)) ≤ 12
  | [], _ => Nat.zero_le _
  | e :: es, h => by
    have h1 := (h e List.mem_cons_self).dep
    have h2 := eds_depL fun x hx => h x (List.mem_cons_of_mem _ hx)
    show max (e.dat cs).depth (PyData.depthAll (es.map (Ed.dat cs))) ≤ 12
    omega
/-! ### a sheet, the tables it had, the edits that were done -/
def TabsA (K : PySem.W.Frag) (H : Hp) : List V → List (List Int) → Prop := Paired fun x v => ∃ u, x = .ref u ∧ SqT K H u (v.map V.int)
theorem TabsA.kn {K : PySem.W.Frag} {H H' : Hp} (k : KN H H') {xs : List V} {ts : List (List Int)} (h : TabsA K H xs ts) : TabsA K H' xs ts := Paired.mono (fun _ _ ⟨u, e, q⟩ => ⟨u, e, k.sq q⟩) h
def KD (zs : List Addr) (H H' : Hp) : Prop := ∀ b o, b ∉ zs → H b = some o → H' b = some o
end KS
/-! the law of do_all and watch: another sheet beside -/
namespace KS
open PySem PySem.Spec PyProof.Rows L2 RZ
theorem slLast_ok {K : PySem.W.Frag} {H : Hp} {Q : VK} {a : Addr} {xs : List V} (ha : SqT K H a xs) (k : ∀ H' u, Same H H' → SqT K H' u (xs.drop (xs.length - 1)) → Q (.ref u) H') : rSlA K (.ref a) (some (-1)) none H Q := by
  have e : HT.sIx xs.length 0 (some (-1)) = xs.length - 1 := by
    show (if (-1 : Int) < 0 then ((-1 : Int) + (xs.length : Int)).toNat else min (-1 : Int).toNat xs.length) = xs.length - 1
    rw [if_pos (by decide)]
    omega
  refine ⟨a, xs, rfl, ha, fun z => ?_, fun _ p np => ?_⟩
  · obtain ⟨z1, _⟩ := z
    rw [e] at z1
    refine k H a (Same.refl _) ?_
    rw [z1]
    exact ha
  · refine k _ p (same_new np) (SqT.of ?_)
    rw [upd_same]
    unfold cutV
    rw [e, HT.sIx_none]
    congr 2
    exact List.take_of_length_le (by rw [List.length_drop]; exact Nat.le_refl _)
theorem pass67 {X : Cx} {σ : L2.St} : PassesAt (L2N.CX X.prog X.w) X σ E0 := fun _ _ _ _ _ _ h => by
  obtain ⟨_, _, _, _, _, _, _, _, _, _, _, _, z⟩ := h
  exact z.elim
theorem eRC67 : ("RC" : Str) = wS [false, true] := by decide +kernel
theorem eds_shapedT {cs : List Cell} {es : List Ed} (h : EdsSh cs es) : SeqAt.shaped (.tuple (es.map (Ed.dat cs))) = true := by
  unfold SeqAt.shaped
  have h2 := eds_depL h
  have h3 : (PyData.tuple (es.map (Ed.dat cs))).depth ≤ 64 := by
    have : (PyData.tuple (es.map (Ed.dat cs))).depth = PyData.depthAll (es.map (Ed.dat cs)) + 1 := by simp only [PyData.depth]
    omega
  rw [show (PyData.tuple (es.map (Ed.dat cs))).canLay0 = true from eds_lay cs es, decide_eq_true h3]
  rfl
theorem eqv_shaped {d : PyData} (h : SeqAt.shaped d = true) : PyData.eqv d d = true := SeqAt.eqv_refl _ (SeqAt.canLay_of_shaped h)
abbrev sLBeside : Stmt := topS 86
abbrev nLBeside : List Str := ["_law_here", "_law_mate", "_law_edit_here", "_law_failed"]
theorem scLBeside : FnScope nLBeside ["_law_here", "_law_mate", "_law_edit_here"] (defScope sLBeside) := ⟨rfl, rfl, rfl, by decide +kernel, rfl, by decide +kernel, by decide +kernel⟩
def besV (b : Bool) : List V := [.bl true, .bl true, .bl true, .bl false, .bl b]
def spBeside (K : PySem.W.Frag) (C : Addr) : Sp := fun xs H Q _ => ∃ (a m p q t q2 t2 : Addr) (b : Bool) (x : V) (cs : List Cell) (vs : List Int) (ps psm : List (Ed × List Int)) (e : Ed), xs = [.ref a, .ref m, x] ∧ a ≠ m ∧ ShP K C H a p q t b cs (e.beh cs vs) ps ∧ ShP K C H m p q2 t2 false cs vs psm ∧ PlanN H p cs ∧
  EdA K H cs x e ∧ e.ok cs.length vs ∧ ShE (e.dat cs) 4700 12 ∧ psm.length + 2 ≤ 1000 ∧ ∀ H' L q3 t3, KeepX m H H' → H L = none → H' L = some (.lst (besV b)) → ShP K C H' m p q3 t3 false cs (e.beh cs vs) (psm ++ [(e, vs)]) → Q (.ref L) H'
section
variable {P : Program} {w : World} {K : PySem.W.Frag} {mg : Str → Option Value} {base : Heap} {C CI fX : Addr}
theorem ok_beside {f fA : Addr} {fd fdA : FuncData} {ds : List Value} (F : Fun K "_law_beside" "_law_beside" sLBeside f fd) (T : ShCls K mg C) (B : ShRd P w K mg base C) (TX : PySem.XInvalidCell.InvalidCellTxt K mg CI fX)
    (GA : FnOk P w K mg base (L2N.CX P w) 14 fA fdA ["self", "edits", "watch"] (spAll K C CI)) (bA : Binds K fdA ["self", "edits", "watch"] ds) (dA : Vals [.non] ds) (mA : Meth K C "do_all" fA) : FnOk P w K mg base CX0 15 f fd ["_law_here", "_law_mate", "_law_edit_here"] (spBeside K C) := by
  obtain ⟨f2, d2, G2, b2, m2⟩ := B.fil
  obtain ⟨f3, d3, G3, b3, m3⟩ := B.log
  refine F.ok scLBeside (fun vs H Q E h => ?_) (fun cdv A outer s H vs Q E hr h => ?_)
  · obtain ⟨a, m, p, q, t, q2, t2, b, x, cs, vs, ps, psm, e, rfl, _⟩ := h
    rfl
  · obtain ⟨a, m, p, q, t, q2, t2, b, x, cs, vs, ps, psm, e, rfl, nam, Sa, Sm, hp, he, hok, hsh, hl, k⟩ := h
    have nd := scLBeside.nd
    have hr1 : Room 1 _ := hr.mono (by omega)
    refine ⟨_, pss_cons (ps_expr (pe_methX (E := fun _ => E0) (pv 1) T.cl mA GA hr bA dA (fun _ => pass67) (pa_cons (pe_tup (pa_cons (pv 2) pa_nil)) pa_nil)))
      (pss_cons (ps_set (i := 3) nd rfl (.inl rfl) pe_bl)
      (pss_cons (ps_try_only (tb := fun W => tSeq (tDrop (tMethX C "do_all" (spAll K C CI) [.non] (WE W) (tVar 1) (tCons (tTup (tCons (tTup (tCons (tC (.str "arrange")) (tCons (tTup (tCons (tC (.str "RC")) tNil)) tNil))) (tCons (tTup (tCons (tC (.str "swap")) (tCons (tTup (tCons (tC (.int 0)) (tCons (tC (.int 0)) tNil))) (tCons (tC .non) tNil)))) tNil))) tNil))) tNext) rfl rfl ⟨by rfl, by decide, .inl TX.gC⟩ takes0
        (fun W pn xe tk po => pss_one (ps_expr (pe_methX (pv 1) T.cl mA GA hr bA dA (fun σ => L2N.passAt (takesN tk) σ)
          (pa_cons (pe_tup (pa_cons (pe_tup (pa_cons pe_str (pa_cons (pe_tup (pa_cons pe_str pa_nil)) pa_nil))) (pa_cons (pe_tup (pa_cons pe_str (pa_cons (pe_tup (pa_cons pe_int (pa_cons pe_int pa_nil))) (pa_cons pe_non pa_nil)))) pa_nil))) pa_nil))))
        (fun a oe cls d pn hz hfl => pss_one (ps_set (i := 3) nd rfl (.inl rfl) pe_bl)))
      (pss_one (ps_ret (pe_lst (pa_cons (pv 3) (pa_cons (pe_cmpR (op_eqD hr.units) (pe_meth0 (pv 1) T.cl m2 G2 hr1 b2 .nil pass0) (pe_meth0 (pv 0) T.cl m2 G2 hr1 b2 .nil pass0) (nomark _))
        (pa_cons (pe_cmpR (op_eqD hr.units) (pe_slice sl_tupA (pe_meth0 (pv 1) T.cl m3 G3 hr1 b3 .nil pass0) (po_some (pe_un un_neg pe_int)) po_none) (pe_tup (pa_cons (pv 2) pa_nil)) (nomark _)) (pa_cons (pe_fld (pv 1) rfl) (pa_cons (pe_fld (pv 0) rfl) pa_nil)))))))))), ?_⟩
    obtain ⟨dx, ha⟩ := Sa.ob
    obtain ⟨dm, hm⟩ := Sm.ob
    refine ⟨_, rfl, m, dm, _, rfl, hm, shF_no (by decide +kernel) (by decide +kernel) (by decide +kernel) (by decide +kernel), _, rfl, by show 1 ≤ sizeLine; decide, fun g ng => ?_⟩
    have s1 := same_new (o := .tup [x]) ng
    have hg : upd H g (.tup [x]) g = some (.tup [x]) := upd_same
    generalize upd H g (.tup [x]) = H1 at s1 hg ⊢
    refine ⟨m, p, q2, t2, g, false, cs, vs, psm, [x], [e], none, rfl, Sm.same s1, hp.same s1, SqT.of hg, .cons (he.kn (.of_same s1)) .nil, ⟨hok, trivial⟩, by show psm.length + 1 ≤ 1000; omega, fun _ z => (nomatch z), fun _ H2 q3 t3 kx2 S2 => ?_, fun _ z => (nomatch z)⟩
    have kx02 : KeepX m H H2 := fun b o n e => kx2 _ _ n (s1 _ _ e)
    have kn2 := KN.of_ins hm kx02
    have S2 : ShP K C H2 m p q3 t3 false cs (e.beh cs vs) (psm ++ [(e, vs)]) := S2
    have ha2 := kx02 _ _ nam ha
    have hp2 := hp.kn kn2
    have he2 := he.kn kn2
    have Sa2 := Sa.keep kn2 fun o z => kx02 _ _ nam z
    clear kx2 hg s1 ng
    obtain ⟨dm2, hm2⟩ := S2.ob
    refine ⟨_, rfl, m, dm2, _, rfl, hm2, shF_no (by decide +kernel) (by decide +kernel) (by decide +kernel) (by decide +kernel), ?_⟩
    refine ⟨by show 1 ≤ sizeLine; decide, fun u1 n1 => ?_⟩
    have s1 := same_new (o := .tup [V.str "RC"]) n1
    have h1 : upd H2 u1 (.tup [V.str "RC"]) u1 = some (.tup [V.str "RC"]) := upd_same
    generalize upd H2 u1 (.tup [V.str "RC"]) = G1 at s1 h1 ⊢
    refine ⟨by show 2 ≤ sizeLine; decide, fun u2 n2 => ?_⟩
    have s2 := same_new (o := .tup [V.str "arrange", .ref u1]) n2
    have h2 : upd G1 u2 (.tup [V.str "arrange", .ref u1]) u2 = some (.tup [V.str "arrange", .ref u1]) := upd_same
    generalize upd G1 u2 (.tup [V.str "arrange", .ref u1]) = G2 at s2 h2 ⊢
    refine ⟨by show 2 ≤ sizeLine; decide, fun u3 n3 => ?_⟩
    have s3 := same_new (o := .tup [V.int 0, .int 0]) n3
    have h3 : upd G2 u3 (.tup [V.int 0, .int 0]) u3 = some (.tup [V.int 0, .int 0]) := upd_same
    generalize upd G2 u3 (.tup [V.int 0, .int 0]) = G3 at s3 h3 ⊢
    refine ⟨by show 3 ≤ sizeLine; decide, fun u4 n4 => ?_⟩
    have s4 := same_new (o := .tup [V.str "swap", .ref u3, .non]) n4
    have h4 : upd G3 u4 (.tup [V.str "swap", .ref u3, .non]) u4 = some (.tup [V.str "swap", .ref u3, .non]) := upd_same
    generalize upd G3 u4 (.tup [V.str "swap", .ref u3, .non]) = G4 at s4 h4 ⊢
    refine ⟨by show 2 ≤ sizeLine; decide, fun u5 n5 => ?_⟩
    have s5 := same_new (o := .tup [V.ref u2, .ref u4]) n5
    have h5 : upd G4 u5 (.tup [V.ref u2, .ref u4]) u5 = some (.tup [V.ref u2, .ref u4]) := upd_same
    generalize upd G4 u5 (.tup [V.ref u2, .ref u4]) = G5 at s5 h5 ⊢
    have s35 := s4.trans s5
    have s25 := s3.trans s35
    have s15 := s2.trans s25
    have s05 := s1.trans s15
    have a1 : PgA K G5 u1 [.w [false, true]] := ⟨_, SqT.of (s15 _ _ h1), by
      rw [eRC67]
      exact .cons (.w _) .nil⟩
    refine ⟨m, p, q3, t3, u5, false, cs, e.beh cs vs, psm ++ [(e, vs)], [.ref u2], [.arr [.w [false, true]]], some (.ref u4), rfl, S2.same s05, hp2.same s05, SqT.of h5, .cons (.arr (SqT.of (s25 _ _ h2)) a1) .nil, ⟨⟨⟨⟨by simp, by decide⟩, trivial⟩, by decide, by decide⟩, trivial⟩, by rw [List.length_append]; show psm.length + 1 + 1 ≤ 1000; omega, fun z ez => ?_, fun z => (nomatch z), fun z ez H6 d kx S6 => ?_⟩
    · cases ez
      refine ⟨u4, _, _, rfl, SqT.of (s5 _ _ h4), ?_⟩
      have hc : CellT G5 (.ref u3) (0, 0) := ⟨u3, rfl, s35 _ _ h3⟩
      by_cases c0 : ((0, 0) : Cell) ∈ cs
      · obtain ⟨i, hi⟩ := List.mem_iff_getElem?.mp c0
        exact .inr (.inl ⟨(0, 0), i, hc, hi, .inl rfl⟩)
      · exact .inr (.inr ⟨(0, 0), hc, by unfold InGrid; decide, c0⟩)
    · refine ⟨true, TX.te, fun _ _ _ => ?_, fun z => (nomatch z)⟩
      have kx26 : KeepX m H2 H6 := fun b o n e' => kx _ _ n (s05 _ _ e')
      have kn6 := KN.of_ins hm2 kx26
      have ha6 := kx26 _ _ nam ha2
      have Sa6 := Sa2.keep kn6 fun o z => kx26 _ _ nam z
      have hp6 := hp2.kn kn6
      have he6 := he2.kn kn6
      have k06 : KeepX m H H6 := fun b o n z => kx26 _ _ n (kx02 _ _ n z)
      obtain ⟨dm6, hm6⟩ := S6.ob
      refine ⟨_, rfl, ?_⟩
      refine ⟨_, rfl, m, dm6, _, rfl, hm6, shF_no (by decide +kernel) (by decide +kernel) (by decide +kernel) (by decide +kernel), m, p, q3, t3, false, cs, _, _, rfl, S6, ?_⟩
      refine ⟨_, rfl, a, dx, _, rfl, ha6, shF_no (by decide +kernel) (by decide +kernel) (by decide +kernel) (by decide +kernel), a, p, q, t, b, cs, _, ps, rfl, Sa6, ?_⟩
      refine ⟨lineD (e.beh cs vs), lineD (e.beh cs vs), .tup S6.fl (dp_ints _), .tup Sa6.fl (dp_ints _), line_shaped _, line_shaped _, ?_⟩
      rw [eqv_shaped (line_shaped _)]
      refine ⟨_, rfl, m, dm6, _, rfl, hm6, shF_no (by decide +kernel) (by decide +kernel) (by decide +kernel) (by decide +kernel), m, p, q3, t3, false, cs, _, _, rfl, S6, by rw [List.length_append]; show psm.length + 1 ≤ 1000; omega, fun H7 u ys s7 hu hys => ?_⟩
      refine ⟨_, rfl, _, rfl, ?_⟩
      dsimp only [tNoPart]
      refine slLast_ok (SqT.of hu) (fun H8 u8 s8 hu8 => ?_)
      have s78 := s7.trans s8
      refine ⟨_, rfl, by show 1 ≤ sizeLine; decide, fun u9 n9 => ?_⟩
      have s9 := same_new (o := .tup [x]) n9
      have h9 : upd H8 u9 (.tup [x]) u9 = some (.tup [x]) := upd_same
      generalize upd H8 u9 (.tup [x]) = H9 at s9 h9 ⊢
      have s79 := s78.trans s9
      rw [List.map_append] at hys
      obtain ⟨ys0, y, rfl, _, hy⟩ := paired_init hys
      have ey : (ys0 ++ [y]).drop ((ys0 ++ [y]).length - 1) = [y] := by
        rw [List.length_append]
        show (ys0 ++ [y]).drop (ys0.length + 1 - 1) = [y]
        rw [Nat.add_sub_cancel, List.drop_left]
      rw [ey] at hu8
      have hsT : SeqAt.shaped (.tuple [e.dat cs]) = true := eds_shapedT (es := [e]) fun e' h' => by
        rw [List.mem_singleton.mp h']
        exact hsh
      refine ⟨.tuple [e.dat cs], .tuple [e.dat cs], .tup (same_seqT s9 hu8) (.cons (hy.kn (.of_same (s8.trans s9))).dp .nil), .tup (SqT.of h9) (.cons (he6.kn (.of_same s79)).dp .nil), hsT, hsT, ?_⟩
      rw [eqv_shaped hsT]
      refine ⟨_, rfl, m, C, dm6, _, _, rfl, s79 _ _ hm6, T.cl, T.nB, shF_busy, ?_⟩
      refine ⟨_, rfl, a, C, dx, _, _, rfl, s79 _ _ ha6, T.cl, T.nB, shF_busy, ?_⟩
      refine ⟨by show 5 ≤ sizeLine; decide, fun L nL => ?_⟩
      have sL := same_new (o := .lst (besV b)) nL
      have n0 : H L = none := by
        cases eL : H L with
        | none => rfl
        | some o =>
          have nLm : L ≠ m := ne_of_none (s79 _ _ hm6) nL |> Ne.symm
          have := s79 _ _ (k06 _ _ nLm eL)
          rw [nL] at this
          cases this
      exact k _ L q3 t3 (fun b' o n z => sL _ _ (s79 _ _ (k06 _ _ n z))) n0 upd_same (S6.same (s79.trans sL))
end
end KS
/-! what is shown is not long: counted by signs and things -/
namespace KS
open PySem PySem.Spec PyProof.Rows L2
mutual
theorem bulk_le : ∀ d : PyData, d.bulk ≤ d.weight
  | .none => by simp only [PyData.bulk]; omega
  | .bool b => by simp only [PyData.bulk]; omega
  | .int i => by simp only [PyData.bulk]; omega
  | .str x => by simp only [PyData.bulk, PyData.weight]; first | omega | exact Nat.le_refl _
  | .list xs => by simp only [PyData.bulk, PyData.weight]; exact bulks_le xs
  | .tuple xs => by simp only [PyData.bulk, PyData.weight]; exact bulks_le xs
  | .dict kvs => by simp only [PyData.bulk, PyData.weight]; exact bulkk_le kvs
theorem bulks_le : ∀ ds : List PyData, PyData.bulkAll ds ≤ PyData.weightAll ds
  | [] => by simp only [PyData.bulkAll]; omega
  | d :: ds => by
    have := bulk_le d
    have := bulks_le ds
    simp only [PyData.bulkAll, PyData.weightAll]
    omega
theorem bulkk_le : ∀ ds : List (PyData × PyData), PyData.bulkKv ds ≤ PyData.weightKv ds
  | [] => by simp only [PyData.bulkKv]; omega
  | (a, b) :: ds => by
    have := bulk_le a
    have := bulk_le b
    have := bulkk_le ds
    simp only [PyData.bulkKv, PyData.weightKv]
    omega
end
structure ShB (d : PyData) (n m : Nat) : Prop where
  short : d.leavesShort 40 = true
  show_ : d.showable = true
  nod : d.hasDict = false
  bk : d.bulk ≤ n
  dep : d.depth ≤ m
structure ShBA (ds : List PyData) (n m : Nat) : Prop where
  short : PyData.leavesShortAll 40 ds = true
  show_ : PyData.showableAll ds = true
  nod : PyData.hasDictAll ds = false
  bk : PyData.bulkAll ds ≤ n
  dep : PyData.depthAll ds ≤ m
theorem ShE.b {d : PyData} {n m : Nat} (h : ShE d n m) : ShB d n m := ⟨h.short, h.show_, h.nod, Nat.le_trans (bulk_le d) h.wt, h.dep⟩
theorem ShE.bk {d : PyData} {n m k : Nat} (h : ShE d n m) (e : d.bulk ≤ k) : ShB d k m := ⟨h.short, h.show_, h.nod, e, h.dep⟩
theorem ShB.mono {d : PyData} {n m n' m' : Nat} (h : ShB d n m) (h1 : n ≤ n') (h2 : m ≤ m') : ShB d n' m' := ⟨h.short, h.show_, h.nod, Nat.le_trans h.bk h1, Nat.le_trans h.dep h2⟩
theorem ShBA.nil {m : Nat} : ShBA [] 0 m := ⟨by simp only [PyData.leavesShortAll], by simp only [PyData.showableAll], by simp only [PyData.hasDictAll], by simp only [PyData.bulkAll]; omega, by simp only [PyData.depthAll]; omega⟩
theorem ShBA.cons {d : PyData} {ds : List PyData} {n k m : Nat} (h : ShB d n m) (r : ShBA ds k m) : ShBA (d :: ds) (n + 1 + k) m := by
  refine ⟨?_, ?_, ?_, ?_, ?_⟩
  · simp only [PyData.leavesShortAll, h.short, r.short, Bool.and_self]
  · simp only [PyData.showableAll, h.show_, r.show_, Bool.and_self]
  · simp only [PyData.hasDictAll, h.nod, r.nod, Bool.or_self]
  · simp only [PyData.bulkAll]
    have := h.bk
    have := r.bk
    omega
  · simp only [PyData.depthAll]
    have := h.dep
    have := r.dep
    omega
theorem ShBA.mono {ds : List PyData} {n m n' m' : Nat} (h : ShBA ds n m) (h1 : n ≤ n') (h2 : m ≤ m') : ShBA ds n' m' := ⟨h.short, h.show_, h.nod, Nat.le_trans h.bk h1, Nat.le_trans h.dep h2⟩
theorem ShBA.app {n k m : Nat} : ∀ {ds es : List PyData}, ShBA ds n m → ShBA es k m → ShBA (ds ++ es) (n + k) m
  | [], es, _, r => by
    rw [List.nil_append]
    exact r.mono (Nat.le_add_left _ _) (Nat.le_refl _)
  | d :: ds, es, h, r => by
    have a1 : d.leavesShort 40 = true ∧ PyData.leavesShortAll 40 ds = true := by have := h.short; simpa only [PyData.leavesShortAll, Bool.and_eq_true] using this
    have a2 : d.showable = true ∧ PyData.showableAll ds = true := by have := h.show_; simpa only [PyData.showableAll, Bool.and_eq_true] using this
    have a3 : d.hasDict = false ∧ PyData.hasDictAll ds = false := by have := h.nod; simpa only [PyData.hasDictAll, Bool.or_eq_false_iff] using this
    have a4 : d.bulk + 1 + PyData.bulkAll ds ≤ n := by have := h.bk; simpa only [PyData.bulkAll] using this
    have a5 : max d.depth (PyData.depthAll ds) ≤ m := by have := h.dep; simpa only [PyData.depthAll] using this
    have ih := ShBA.app (ds := ds) (es := es) (n := PyData.bulkAll ds) (m := m) ⟨a1.2, a2.2, a3.2, Nat.le_refl _, by omega⟩ r
    exact (ShBA.cons (n := d.bulk) (m := m) ⟨a1.1, a2.1, a3.1, Nat.le_refl _, by omega⟩ ih).mono (by omega) (Nat.le_refl _)
theorem ShBA.all {n m : Nat} : ∀ {ds : List PyData}, (∀ d ∈ ds, ShB d n m) → ShBA ds ((n + 1) * ds.length) m
  | [], _ => .nil
  | d :: ds, h => by
    have r := ShBA.all (n := n) (m := m) fun x hx => h x (List.mem_cons_of_mem _ hx)
    refine ((h d List.mem_cons_self).mono (Nat.le_refl _) (Nat.le_refl _) |> fun z => ShBA.cons z r).mono ?_ (Nat.le_refl _)
    rw [List.length_cons, Nat.mul_succ]
    omega
theorem ShBA.tup {ds : List PyData} {n m : Nat} (h : ShBA ds n m) : ShB (.tuple ds) n (m + 1) := by
  refine ⟨?_, ?_, ?_, ?_, ?_⟩
  · simp only [PyData.leavesShort]; exact h.short
  · simp only [PyData.showable]; exact h.show_
  · simp only [PyData.hasDict]; exact h.nod
  · simp only [PyData.bulk]; exact h.bk
  · have := h.dep
    simp only [PyData.depth]
    omega
theorem ShBA.lst {ds : List PyData} {n m : Nat} (h : ShBA ds n m) : ShB (.list ds) n (m + 1) := by
  refine ⟨?_, ?_, ?_, ?_, ?_⟩
  · simp only [PyData.leavesShort]; exact h.short
  · simp only [PyData.showable]; exact h.show_
  · simp only [PyData.hasDict]; exact h.nod
  · simp only [PyData.bulk]; exact h.bk
  · have := h.dep
    simp only [PyData.depth]
    omega
theorem ShB.rp {d : PyData} {n m : Nat} (h : ShB d n m) (hn : n ≤ 399000) (hm : m ≤ 64) : Rp d := by
  have := PyData.shown_le_bulk 40 (by decide) d h.short
  have h2 := h.bk
  refine ⟨h.show_, h.nod, ?_, Nat.le_trans h.dep hm⟩
  rw [sizeLine_eq]
  omega
/-! ### edits -/
mutual
theorem dat_bulk : ∀ s : Stp, s.w9 → s.dat.bulk + 1 ≤ 10 * s.steps
  | .w l, k => by
    simp only [Stp.w9] at k
    have wl := wS_len l
    have e : (Stp.w l).dat.bulk = (wS l).length := by
      simp only [Stp.dat, PyData.bulk]
      rfl
    rw [e]
    simp only [Stp.steps]
    omega
  | .r n b, k => by
    simp only [Stp.w9] at k
    have ih := datL_bulk b k
    have e : (Stp.r n b).dat.bulk = PyData.bulk (.str "repeat") + 1 + (0 + 1 + (PyData.bulkAll (datL b) + 1 + 0)) := by
      simp only [Stp.dat, PyData.bulk, PyData.bulkAll]
    have e2 : PyData.bulk (.str "repeat") = 6 := by decide +kernel
    simp only [Stp.steps]
    omega
theorem datL_bulk : ∀ b : List Stp, w9L b → PyData.bulkAll (datL b) ≤ 10 * stepsL b
  | [], _ => by
    simp only [datL, PyData.bulkAll]
    omega
  | s :: b, k => by
    simp only [w9L] at k
    have i1 := dat_bulk s k.1
    have i2 := datL_bulk b k.2
    simp only [datL, PyData.bulkAll, stepsL]
    omega
end
theorem cell_bulk (c : Cell) : (cellD c).bulk = 2 := by
  unfold cellD
  simp only [PyData.bulk, PyData.bulkAll]
theorem ed_bulk {cs : List Cell} {e : Ed} (sm : e.sm) : (e.dat cs).bulk ≤ 410 := by
  cases e with
  | arr ss =>
    obtain ⟨s1, s2⟩ := sm
    have h := datL_bulk ss s1
    have e : (Ed.dat cs (.arr ss)).bulk = PyData.bulk (.str "arrange") + 1 + (PyData.bulkAll (datL ss) + 1 + 0) := by
      simp only [Ed.dat, PyData.bulk, PyData.bulkAll]
    have e2 : PyData.bulk (.str "arrange") = 7 := by decide +kernel
    omega
  | set i v =>
    have e : (Ed.dat cs (.set i v)).bulk = PyData.bulk (.str "set") + 1 + ((cellD (cs.getD i (0, 0))).bulk + 1 + (0 + 1 + 0)) := by
      simp only [Ed.dat, PyData.bulk, PyData.bulkAll]
    have e2 : PyData.bulk (.str "set") = 3 := by decide +kernel
    rw [cell_bulk] at e
    omega
  | swap i j =>
    have e : (Ed.dat cs (.swap i j)).bulk = PyData.bulk (.str "swap") + 1 + ((cellD (cs.getD i (0, 0))).bulk + 1 + ((cellD (cs.getD j (0, 0))).bulk + 1 + 0)) := by
      simp only [Ed.dat, PyData.bulk, PyData.bulkAll]
    have e2 : PyData.bulk (.str "swap") = 4 := by decide +kernel
    rw [cell_bulk, cell_bulk] at e
    omega
/-- edits that can be written out, often -/
def EdsB (cs : List Cell) (es : List Ed) : Prop := ∀ e ∈ es, ShE (e.dat cs) 4700 12 ∧ (e.dat cs).bulk ≤ 410
theorem EdsB.sh {cs : List Cell} {es : List Ed} (h : EdsB cs es) : EdsSh cs es := fun e he => (h e he).1
theorem EdsB.app {cs : List Cell} {es fs : List Ed} (h : EdsB cs es) (k : EdsB cs fs) : EdsB cs (es ++ fs) := fun e he => (List.mem_append.mp he).elim (h e) (k e)
theorem EdsB.take {cs : List Cell} {es : List Ed} (h : EdsB cs es) (n : Nat) : EdsB cs (es.take n) := fun e he => h e (List.mem_of_mem_take he)
theorem eds_shb {cs : List Cell} {es : List Ed} (h : EdsB cs es) : ShB (.tuple (es.map (Ed.dat cs))) (411 * es.length) 13 := by
  have := (ShBA.all (n := 410) (m := 12) (ds := es.map (Ed.dat cs)) fun d hd => by
    obtain ⟨e, he, rfl⟩ := List.mem_map.mp hd
    exact (h e he).1.bk (h e he).2).tup
  rw [List.length_map] at this
  exact this
end KS
/-! the law of do_all and watch: edits in a row, what is seen behind each -/
namespace KS
open PySem PySem.Spec PyProof.Rows L2 RZ
def tabl (cs : List Cell) (vs : List Int) (es : List Ed) : List (List Int) := (List.range es.length).map fun k => behs cs vs (es.take (k + 1))
theorem behs_snoc {cs : List Cell} {vs : List Int} {es : List Ed} {e : Ed} : behs cs vs (es ++ [e]) = e.beh cs (behs cs vs es) := by
  unfold behs
  rw [List.foldl_append]
  rfl
theorem tabl_snoc {cs : List Cell} {vs : List Int} {es : List Ed} {e : Ed} : tabl cs vs (es ++ [e]) = tabl cs vs es ++ [behs cs vs (es ++ [e])] := by
  unfold tabl
  rw [List.length_append, List.length_singleton, List.range_succ, List.map_append]
  congr 1
  · refine List.map_congr_left fun k hk => ?_
    have := List.mem_range.mp hk
    rw [List.take_append_of_le_length (by omega)]
  · show [behs cs vs ((es ++ [e]).take (es.length + 1))] = _
    rw [List.take_of_length_le (by simp)]
theorem tabl_at {cs : List Cell} {vs : List Int} {es : List Ed} {k : Nat} (h : k < es.length) : (tabl cs vs es)[k]? = some (behs cs vs (es.take (k + 1))) := by
  unfold tabl
  rw [List.getElem?_map, List.getElem?_range h]
  rfl
theorem tabl_len {cs : List Cell} {vs : List Int} {es : List Ed} : (tabl cs vs es).length = es.length := by
  unfold tabl
  rw [List.length_map, List.length_range]
theorem edsOk_snoc {cs : List Cell} : ∀ {es : List Ed} {vs : List Int} {e : Ed}, EdsOk cs vs es → e.ok cs.length (behs cs vs es) → EdsOk cs vs (es ++ [e])
  | [], _, _, _, h => ⟨h, trivial⟩
  | _ :: es, vs, _, h, k => ⟨h.1, edsOk_snoc (es := es) h.2 k⟩
theorem behs9 {cs : List Cell} : ∀ {es : List Ed} {vs : List Int}, Vals9 cs.length vs → EdsOk cs vs es → Vals9 cs.length (behs cs vs es)
  | [], _, v, _ => v
  | e :: es, vs, v, h => behs9 (es := es) (beh9 v h.1) h.2
theorem edsOk_take {cs : List Cell} : ∀ {es : List Ed} {vs : List Int} (n : Nat), EdsOk cs vs es → EdsOk cs vs (es.take n)
  | [], _, n, _ => by
    rw [List.take_nil]
    trivial
  | _ :: _, _, 0, _ => trivial
  | e :: es, vs, n + 1, h => ⟨h.1, edsOk_take (es := es) n h.2⟩
/-! ### what was seen -/
def seenD (cs : List Cell) (vs : List Int) (dn es : List Ed) (k : Nat) : PyData :=
  .list ((rdD k true cs (behs cs vs (es.take (k + 1))) (dn ++ es.take (k + 1)) ++ rdD k true cs (behs cs vs (es.take (k + 1))) (dn ++ es.take (k + 1))) ++ [.bool true, .bool true, .bool true, .bool false, .bool true])
def SeenEl (K : PySem.W.Frag) (H : Hp) (x : V) (cs : List Cell) (vs : List Int) (dn es : List Ed) (k : Nat) : Prop := ∃ (E p q u p2 q2 u2 : Addr), x = .ref E ∧
  H E = some (.lst ((rdV k p q u true cs (behs cs vs (es.take (k + 1))) ++ rdV k p2 q2 u2 true cs (behs cs vs (es.take (k + 1)))) ++ besV true)) ∧
  RdF K H p q u cs (behs cs vs (es.take (k + 1))) (dn ++ es.take (k + 1)) ∧ RdF K H p2 q2 u2 cs (behs cs vs (es.take (k + 1))) (dn ++ es.take (k + 1))
section
variable {K : PySem.W.Frag} {H H' : Hp} {x : V} {cs : List Cell} {vs : List Int} {dn es : List Ed} {k n : Nat} {F : Addr} {Es : List V}
theorem SeenEl.dp (h : SeenEl K H x cs vs dn es k) : Dp K H x (seenD cs vs dn es k) := by
  obtain ⟨E, p, q, u, p2, q2, u2, rfl, h1, h2, h3⟩ := h
  exact .lst (SqL.of h1) (DpAll.app (DpAll.app h2.dp h3.dp) (.cons (.bl _) (.cons (.bl _) (.cons (.bl _) (.cons (.bl _) (.cons (.bl _) .nil))))))
theorem SeenEl.same (s : Same H H') (h : SeenEl K H x cs vs dn es k) : SeenEl K H' x cs vs dn es k := by
  obtain ⟨E, p, q, u, p2, q2, u2, rfl, h1, h2, h3⟩ := h
  exact ⟨E, p, q, u, p2, q2, u2, rfl, s _ _ h1, h2.kn (.of_same s), h3.kn (.of_same s)⟩
/-- the first n -/
def SeenL (K : PySem.W.Frag) (H : Hp) (Es : List V) (cs : List Cell) (vs : List Int) (dn es : List Ed) (n : Nat) : Prop := Es.length = n ∧ ∀ k x, Es[k]? = some x → SeenEl K H x cs vs dn es k
theorem dpAll_of : ∀ {xs : List V} {ds : List PyData}, xs.length = ds.length → (∀ (k : Nat) (x : V) (d : PyData), xs[k]? = some x → ds[k]? = some d → Dp K H x d) → DpAll K H xs ds
  | [], [], _, _ => .nil
  | [], _ :: _, h, _ => by cases h
  | _ :: _, [], h, _ => by cases h
  | x :: xs, d :: ds, h, k => .cons (k 0 x d rfl rfl) (dpAll_of (Nat.succ.inj h) fun j y e h1 h2 => k (j + 1) y e h1 h2)
theorem SeenL.dp (h : SeenL K H Es cs vs dn es n) (hF : H F = some (.lst Es)) : Dp K H (.ref F) (.list ((List.range n).map (seenD cs vs dn es))) := by
  refine .lst (SqL.of hF) (dpAll_of (by rw [List.length_map, List.length_range]; exact h.1) fun k x d h1 h2 => ?_)
  have hk : k < n := by
    have := (List.getElem?_eq_some_iff.mp h1).1
    rw [h.1] at this
    exact this
  rw [List.getElem?_map, List.getElem?_range hk] at h2
  cases h2
  exact (h.2 k x h1).dp
theorem SeenL.snoc (h : SeenL K H Es cs vs dn es n) (hx : SeenEl K H x cs vs dn es n) : SeenL K H (Es ++ [x]) cs vs dn es (n + 1) := by
  refine ⟨by rw [List.length_append, h.1]; rfl, fun k y e => ?_⟩
  by_cases c : k < Es.length
  · rw [List.getElem?_append_left c] at e
    exact h.2 k y e
  · rw [List.getElem?_append_right (by omega)] at e
    have hk : k - Es.length = 0 := by
      have := (List.getElem?_eq_some_iff.mp e).1
      simp at this
      omega
    rw [hk] at e
    cases e
    have : k = n := by have := h.1; omega
    rw [this]
    exact hx
end
theorem rd_shb {cs : List Cell} {vs : List Int} {es : List Ed} {i : Nat} {b : Bool} (gd : Good cs) (l24 : cs.length ≤ 24) (v9 : Vals9 cs.length vs) (h : EdsB cs es) (hi : i < 10000) (hl : es.length ≤ 32) : ShBA (rdD i b cs vs es) 21500 13 := by
  have n0 : 0 < cs.length := by
    have := gd.ne
    cases cs with
    | nil => exact absurd rfl this
    | cons _ _ => simp
  have hlv := v9.len
  have el : lastV cs vs = vs[cs.length - 1] := by
    unfold lastV
    exact getD_mem (by omega)
  have hm : lastV cs vs ∈ vs := by
    rw [el]
    exact List.getElem_mem _
  have b9 := v9.bd _ hm
  have w0 : ShB (.int i) 101 13 := (she_small (i := (i : Nat)) (by omega) (by omega)).b.mono (Nat.le_refl _) (by omega)
  have w1 : ShB (planD cs) 4920 13 := (she_plan gd.grid).b.mono (by omega) (by omega)
  have w2 : ShB (lineD vs) 2448 13 := (she_line v9).b.mono (by omega) (by omega)
  have w3 : ShB (.tuple (es.map (Ed.dat cs))) 13152 13 := (eds_shb h).mono (by omega) (by omega)
  have w4 : ∀ b : Bool, ShB (.bool b) 0 13 := fun b => (she_bool (b := b)).b.mono (Nat.le_refl _) (by omega)
  have w5 : ShB (.int (cs.length : Nat)) 101 13 := (she_small (i := (cs.length : Nat)) (by omega) (by omega)).b.mono (Nat.le_refl _) (by omega)
  have w6 : ShB (.str (page cs vs)) 400 13 := (page_she gd v9).b.mono (Nat.le_refl _) (by omega)
  have w7 : ShB (.str (shRepr cs.length)) 20 13 := (repr_she _ l24).b.mono (Nat.le_refl _) (by omega)
  have w8 : ShB (.int (lastV cs vs)) 101 13 := (she_small (by omega) (by omega)).b.mono (Nat.le_refl _) (by omega)
  exact (ShBA.cons w0 (ShBA.cons w1 (ShBA.cons w2 (ShBA.cons w3 (ShBA.cons (w4 _) (ShBA.cons w5 (ShBA.cons w6 (ShBA.cons w7 (ShBA.cons w8 (ShBA.cons (w4 _) (ShBA.cons (w4 _) .nil))))))))))).mono (by omega) (Nat.le_refl _)
theorem seen_rp {cs : List Cell} {vs : List Int} {dn es : List Ed} (gd : Good cs) (l24 : cs.length ≤ 24) (v9 : Vals9 cs.length vs) (ok : EdsOk cs vs es) (h1 : EdsB cs dn) (h2 : EdsB cs es) (hl : dn.length + es.length ≤ 32) (h8 : es.length ≤ 8) :
    Rp (.list ((List.range es.length).map (seenD cs vs dn es))) := by
  have one : ∀ k, k < es.length → ShB (seenD cs vs dn es k) 43005 14 := fun k hk => by
    have w4 : ∀ b : Bool, ShB (.bool b) 0 13 := fun b => (she_bool (b := b)).b.mono (Nat.le_refl _) (by omega)
    have r := rd_shb (i := k) (b := true) gd l24 (behs9 v9 (edsOk_take (k + 1) ok)) (h1.app (h2.take (k + 1))) (by omega) (by rw [List.length_append, List.length_take]; omega)
    exact (ShBA.app (ShBA.app r r) (ShBA.cons (w4 _) (ShBA.cons (w4 _) (ShBA.cons (w4 _) (ShBA.cons (w4 _) (ShBA.cons (w4 _) .nil)))))).lst.mono (by omega) (Nat.le_refl _)
  have all := (ShBA.all (n := 43005) (m := 14) (ds := (List.range es.length).map (seenD cs vs dn es)) fun d hd => by
    obtain ⟨k, hk, rfl⟩ := List.mem_map.mp hd
    exact one k (List.mem_range.mp hk)).lst
  rw [List.length_map, List.length_range] at all
  exact all.rp (by omega) (by omega)
/-! ### edits in a row -/
abbrev sLSome67 : Stmt := topS 84
abbrev nLSome67 : List Str := ["_law_pool_here", "_law_spots", "_law_some_here", "_law_most", "_law_found", "_law_tables", "_law_turn"]
theorem scLSome67 : FnScope nLSome67 ["_law_pool_here", "_law_spots", "_law_some_here", "_law_most"] (defScope sLSome67) := ⟨rfl, rfl, rfl, by decide +kernel, rfl, by decide +kernel, by decide +kernel⟩
def spSome67 (K : PySem.W.Frag) : Sp := fun xs H Q _ => ∃ (pl p q : Addr) (cs : List Cell) (vs : List Int), xs = [.ref pl, .ref p, .ref q, .int 8] ∧ PoolO (H pl) ∧ PlanN H p cs ∧ Good cs ∧ cs.length ≤ 24 ∧ SqT K H q (vs.map V.int) ∧ Vals9 cs.length vs ∧
  ∀ (H' : Hp) (TT wk tb : Addr) (ws ts : List V) (es : List Ed), KeepX pl H H' → PoolO (H' pl) → SqT K H' TT [.ref wk, .ref tb] → H' wk = some (.tup ws) → EdsA K H' cs ws es → EdsOk cs vs es → EdsB cs es → es.length ≤ 8 → H' tb = some (.lst ts) → H tb = none → TabsA K H' ts (tabl cs vs es) → Q (.ref TT) H'
section
variable {P : Program} {w : World} {K : PySem.W.Frag} {mg : Str → Option Value} {base : Heap} {C CI fX : Addr}
theorem ok_some67 {f fD fG fB : Addr} {fd fdD fdG fdB : FuncData} (F : Fun K "_law_some" "_law_some" sLSome67 f fd)
    (GD : FnOk P w K mg base CX0 1 fD fdD ["_law_pool_here", "_law_most"] spDraw) (bD : Binds K fdD ["_law_pool_here", "_law_most"] []) (gD : mg "_law_draw" = some (.ref fD)) (kD : PySem.W.keepIn K (.ref fD) = true)
    (GG : FnOk P w K mg base CX0 6 fG fdG ["_law_pool_here", "_law_spots", "_law_some_here"] (spLEdit K)) (bG : Binds K fdG ["_law_pool_here", "_law_spots", "_law_some_here"] []) (gG : mg "_law_edit" = some (.ref fG)) (kG : PySem.W.keepIn K (.ref fG) = true)
    (GB : FnOk P w K mg base CX0 9 fB fdB ["_law_spots", "_law_some_here", "_law_edit_here"] (spLBeh K)) (bB : Binds K fdB ["_law_spots", "_law_some_here", "_law_edit_here"] []) (gB : mg "_law_behind" = some (.ref fB)) (kB : PySem.W.keepIn K (.ref fB) = true)
    (mr : mg "range" = none) (mT : mg "tuple" = none) : FnOk P w K mg base CX0 10 f fd ["_law_pool_here", "_law_spots", "_law_some_here", "_law_most"] (spSome67 K) := by
  refine F.ok scLSome67 (fun vs H Q E h => ?_) (fun cdv A outer s H vs Q E hr h => ?_)
  · obtain ⟨pl, p, q, cs, vs, rfl, _⟩ := h
    rfl
  · obtain ⟨pl, p, q, cs, vs, rfl, po, hp, gd, l24, hq, v9, k⟩ := h
    have nd := scLSome67.nd
    have hr1 : Room 1 _ := hr.mono (by omega)
    have hr6 : Room 6 _ := hr.mono (by omega)
    refine ⟨_, pss_cons (ps_par (i := 4) (j := 5) (by rfl) nd rfl rfl (by decide) rfl rfl (pa_cons (pe_lst pa_nil) (pa_cons (pe_lst pa_nil) pa_nil)) (by rfl))
      (pss_cons (ps_for PassesOwn.never rfl (pi_range1 (by rfl) mr (pa_cons (pe_call GD hr1 (by rfl) gD kD bD .nil pass0 (pa_cons (pv 0) (pa_cons (pe_op op_add (pv 3) pe_int) pa_nil))) pa_nil)) (pg_name (i := 6) nd rfl (.inl rfl))
        (pss_cons (ps_expr (pe_bm PySem.F.plainAttrs_list PySem.F.slot_list_append PySem.F.type_list_append mt_append (pv 4) (pa_cons (pe_call GG hr6 (by rfl) gG kG bG .nil pass0 (pa_cons (pv 0) (pa_cons (pv 1) (pa_cons (pv 2) pa_nil)))) pa_nil)))
        (pss_cons (ps_set (i := 2) nd rfl (.inl rfl) (pe_call GB hr (by rfl) gB kB bB .nil pass0 (pa_cons (pv 1) (pa_cons (pv 2) (pa_cons (pe_ix ix_list (pv 4) (pe_un un_neg pe_int) (fun _ _ => rfl)) pa_nil)))))
        (pss_one (ps_expr (pe_bm PySem.F.plainAttrs_list PySem.F.slot_list_append PySem.F.type_list_append mt_append (pv 5) (pa_cons (pv 2) pa_nil)))))))
      (pss_one (ps_ret (pe_tup (pa_cons (pe_callTy call_tuple_of (by rfl) mT (by decide +kernel) (pa_cons (pv 4) pa_nil)) (pa_cons (pv 5) pa_nil)))))), ?_⟩
    refine ⟨by show 0 ≤ sizeLine; decide, fun fo nfo => ?_⟩
    have s1 := same_new (o := .lst []) nfo
    have hfo : upd H fo (.lst []) fo = some (.lst []) := upd_same
    generalize upd H fo (.lst []) = H1 at s1 hfo ⊢
    refine ⟨by show 0 ≤ sizeLine; decide, fun tb ntb => ⟨_, _, rfl, ?_⟩⟩
    have s2 := same_new (o := .lst []) ntb
    have htb : upd H1 tb (.lst []) tb = some (.lst []) := upd_same
    have nft : fo ≠ tb := ne_of_none hfo ntb
    have hfo2 := s2 _ _ hfo
    generalize upd H1 tb (.lst []) = H2 at s2 htb hfo2 ⊢
    have s02 := s1.trans s2
    have po2 := po.same s02
    have npf : pl ≠ fo := fun e => by
      obtain ⟨_, _, _, ep, _⟩ := po
      rw [e, nfo] at ep
      cases ep
    have ntb0 : H tb = none := s1.free ntb
    have npt : pl ≠ tb := fun e => by
      obtain ⟨_, _, _, ep, _⟩ := po
      rw [e, ntb0] at ep
      cases ep
    refine ⟨_, rfl, _, rfl, _, _, rfl, rfl, pl, 9, rfl, po2, by decide, by decide, fun H3 r k3 po3 r0 r1 => ?_⟩
    refine ⟨r, rfl, by omega, by omega, for_range (lo := 0) (n := r.toNat) (fun i σ G => ∃ (m : Addr) (y6 : Option V) (ws ts : List V) (es : List Ed), σ = [some (.ref pl), some (.ref p), some (.ref m), some (.int 8), some (.ref fo), some (.ref tb), y6] ∧ KeepX pl H G ∧ PoolO (G pl) ∧
      G fo = some (.lst ws) ∧ EdsA K G cs ws es ∧ EdsOk cs vs es ∧ EdsB cs es ∧ es.length = i ∧ G tb = some (.lst ts) ∧ TabsA K G ts (tabl cs vs es) ∧ SqT K G m ((behs cs vs es).map V.int)) ?_ ?_ ?_⟩
    · have kn3 : KN H2 H3 := .of_pool po2 k3
      exact ⟨q, none, [], [], [], rfl, fun b o n e => k3 _ _ n (s02 _ _ e), po3, k3 _ _ (Ne.symm npf) hfo2, .nil, trivial, (fun _ h => by cases h), rfl, k3 _ _ (Ne.symm npt) htb, .nil, kn3.sq (same_seqT s02 hq)⟩
    · rintro i σ G hi ⟨m, y6, ws, ts, es, rfl, kG, poG, hf, hws, hok, heb, hel, ht, hts, hm⟩
      have hi8 : i < 9 := by omega
      have v9' := behs9 v9 hok
      have hpG := hp.kn (.of_pool po kG)
      refine ⟨_, rfl, .inl ⟨rfl, _, SqL.of hf⟩, _, rfl, _, rfl, _, rfl, pl, p, m, cs, _, rfl, poG, hpG, gd, l24, hm, v9', fun G1 u e k1 po1 he hok1 hsm => ?_⟩
      have kn1 : KN G G1 := .of_pool poG k1
      have hf1 := k1 _ _ (Ne.symm npf) hf
      have ht1 := k1 _ _ (Ne.symm npt) ht
      have hwl := Paired.length hws
      have htl := Paired.length hts
      rw [tabl_len] at htl
      refine ⟨fo, ws, _, rfl, rfl, hf1, by rw [sizeLine_eq]; omega, ?_⟩
      have kn2 : KN G1 (upd G1 fo (.lst (ws ++ [.ref u]))) := KN.upd hf1 rfl
      have hf2 : upd G1 fo (.lst (ws ++ [.ref u])) fo = some (.lst (ws ++ [.ref u])) := upd_same
      have o2 : ∀ b o, b ≠ fo → G1 b = some o → upd G1 fo (.lst (ws ++ [.ref u])) b = some o := fun b o n e => by
        rw [upd_ne n]
        exact e
      generalize upd G1 fo (.lst (ws ++ [.ref u])) = G2 at kn2 hf2 o2 ⊢
      have kn02 := kn1.trans kn2
      have ht2 := o2 _ _ (Ne.symm nft) ht1
      refine ⟨_, rfl, _, rfl, _, rfl, _, rfl, fo, _, -1, _, rfl, rfl, SqL.of hf2, atI_last (by simp), p, m, .ref u, cs, _, e, rfl, hpG.kn kn02, gd, l24, kn02.sq hm, v9', he.kn kn2, hok1, fun G3 w s3 hw => ?_⟩
      have ht3 := s3 _ _ ht2
      have hf3 := s3 _ _ hf2
      refine ⟨_, rfl, .inl ⟨rfl, _, SqL.of ht3⟩, _, rfl, tb, ts, _, rfl, rfl, ht3, by rw [sizeLine_eq]; omega, ?_⟩
      have kn4 : KN G3 (upd G3 tb (.lst (ts ++ [.ref w]))) := KN.upd ht3 rfl
      have hf4 : upd G3 tb (.lst (ts ++ [.ref w])) fo = some (.lst (ws ++ [.ref u])) := by rw [upd_ne nft]; exact hf3
      have ht4 : upd G3 tb (.lst (ts ++ [.ref w])) tb = some (.lst (ts ++ [.ref w])) := upd_same
      have o4 : ∀ b o, b ≠ tb → G3 b = some o → upd G3 tb (.lst (ts ++ [.ref w])) b = some o := fun b o n e => by
        rw [upd_ne n]
        exact e
      generalize upd G3 tb (.lst (ts ++ [.ref w])) = G4 at kn4 hf4 ht4 o4 ⊢
      have kn24 := (KN.of_same s3).trans kn4
      have kn04 := kn02.trans kn24
      have po4 : PoolO (G4 pl) := by
        obtain ⟨x, y, z, g1, g2⟩ := po1
        exact ⟨x, y, z, o4 _ _ npt (s3 _ _ (o2 _ _ npf g1)), g2⟩
      have fresh : ∀ {b o}, H b = some o → b ≠ fo ∧ b ≠ tb := fun {b o} z => ⟨ne_of_none z nfo, ne_of_none z ntb0⟩
      refine ⟨w, _, ws ++ [.ref u], ts ++ [.ref w], es ++ [e], rfl, fun b o n z => ?_, po4, hf4, paired_append (EdsA.kn kn04 hws) (.cons (he.kn (kn2.trans kn24)) .nil), edsOk_snoc hok hok1, heb.app (fun e' h' => ?_), by rw [List.length_append]; show es.length + 1 = i + 1; omega, ht4, ?_, ?_⟩
      · exact o4 _ _ (fresh z).2 (s3 _ _ (o2 _ _ (fresh z).1 (k1 _ _ n (kG _ _ n z))))
      · rw [List.mem_singleton.mp h']
        exact ⟨Ed.she gd.grid hok1 hsm, ed_bulk hsm⟩
      · rw [tabl_snoc]
        refine paired_append (TabsA.kn kn04 hts) (.cons ⟨w, rfl, ?_⟩ .nil)
        rw [behs_snoc]
        exact kn4.sq hw
      · rw [behs_snoc]
        exact kn4.sq hw
    · rintro σ G ⟨m, y6, ws, ts, es, rfl, kG, poG, hf, hws, hok, heb, hel, ht, hts, hm⟩
      refine ⟨_, rfl, fo, ws, rfl, .inl ⟨SqL.of hf, fun wk nwk => ?_⟩⟩
      have s5 := same_new (o := .tup ws) nwk
      have hwk : upd G wk (.tup ws) wk = some (.tup ws) := upd_same
      generalize upd G wk (.tup ws) = G5 at s5 hwk ⊢
      refine ⟨_, rfl, by show 2 ≤ sizeLine; decide, fun TT nTT => ?_⟩
      have s6 := same_new (o := .tup [.ref wk, .ref tb]) nTT
      have hTT : upd G5 TT (.tup [.ref wk, .ref tb]) TT = some (.tup [.ref wk, .ref tb]) := upd_same
      generalize upd G5 TT (.tup [.ref wk, .ref tb]) = G6 at s6 hTT ⊢
      have s56 := s5.trans s6
      exact k G6 TT wk tb ws ts es (fun b o n z => s56 _ _ (kG _ _ n z)) (poG.same s56) (SqT.of hTT) (s6 _ _ hwk) (EdsA.kn (.of_same s56) hws) hok heb (by omega) (s56 _ _ ht) ntb0 (TabsA.kn (.of_same s56) hts)
end
end KS
/-! the law of do_all and watch: what is due to be seen -/
namespace KS
open PySem PySem.Spec PyProof.Rows L2 RZ
theorem slTake_ok {K : PySem.W.Frag} {H : Hp} {Q : VK} {a : Addr} {xs : List V} {z : Int} {k : Nat} (hz : z = (k : Int)) (ha : SqT K H a xs) (q : ∀ H' u, Same H H' → SqT K H' u (xs.take k) → Q (.ref u) H') : rSlA K (.ref a) none (some z) H Q := by
  subst hz
  have e : HT.sIx xs.length xs.length (some (k : Int)) = min k xs.length := HT.sIx_nat _ _ _
  refine ⟨a, xs, rfl, ha, fun z => ?_, fun _ p np => ?_⟩
  · obtain ⟨_, z2⟩ := z
    rw [e] at z2
    refine q H a (Same.refl _) ?_
    rw [List.take_of_length_le (by omega)]
    exact ha
  · refine q _ p (same_new np) (SqT.of ?_)
    rw [upd_same]
    unfold cutV
    rw [e, HT.sIx_none]
    congr 2
    rw [List.drop_zero, Nat.sub_zero]
    by_cases c : k ≤ xs.length
    · rw [Nat.min_eq_left c]
    · rw [Nat.min_eq_right (by omega), List.take_of_length_le (Nat.le_refl _), List.take_of_length_le (by omega)]
theorem rises_take {cs : List Cell} {w : List Int} {j : Nat} {b' : Bool} (hb : [false, true][j]? = some b') : (([rises false cs w, rises true cs w] : List Bool).take (j + 1)).map V.bl = (([rises false cs w, rises true cs w] : List Bool).take j).map V.bl ++ [V.bl (rises b' cs w)] := by
  match j, hb with
  | 0, hb => cases hb; rfl
  | 1, hb => cases hb; rfl
theorem paired_getR {α β : Type} {F : α → β → Prop} {l₁ : List α} {l₂ : List β} {i : Nat} {y : β} (h : Paired F l₁ l₂) (e : l₂[i]? = some y) : ∃ x, l₁[i]? = some x ∧ F x y := by
  have hl := Paired.length h
  have hi := (List.getElem?_eq_some_iff.mp e).1
  have e2 : l₁[i]? = some l₁[i] := List.getElem?_eq_getElem (by omega)
  obtain ⟨y2, e3, r⟩ := paired_get h e2
  rw [e] at e3
  cases e3
  exact ⟨_, e2, r⟩
abbrev sLSeenDue : Stmt := topS 88
abbrev nLSeenDue : List Str := ["_law_spots", "_law_tables", "_law_done", "_law_work", "_law_found", "_law_at", "_law_some_here", "_law_text", "_law_one", "_law_sort"]
theorem scLSeenDue : FnScope nLSeenDue ["_law_spots", "_law_tables", "_law_done", "_law_work"] (defScope sLSeenDue) := ⟨rfl, rfl, rfl, by decide +kernel, rfl, by decide +kernel, by decide +kernel⟩
def spSeenDue (K : PySem.W.Frag) : Sp := fun xs H Q _ => ∃ (p tb dn wk : Addr) (cs : List Cell) (vs : List Int) (ds es : List Ed) (ts ys ws : List V), xs = [.ref p, .ref tb, .ref dn, .ref wk] ∧ PlanN H p cs ∧ Good cs ∧ cs.length ≤ 24 ∧ Vals9 cs.length vs ∧ EdsOk cs vs es ∧
  H tb = some (.lst ts) ∧ TabsA K H ts (tabl cs vs es) ∧ H dn = some (.lst ys) ∧ EdsA K H cs ys ds ∧ SqT K H wk ws ∧ EdsA K H cs ws es ∧ es.length ≤ 8 ∧ ds.length ≤ 24 ∧
  ∀ H' F Es, Same H H' → H' F = some (.lst Es) → SeenL K H' Es cs vs ds es es.length → Q (.ref F) H'
section
variable {P : Program} {w : World} {K : PySem.W.Frag} {mg : Str → Option Value} {base : Heap}
theorem ok_seenDue {f fU fW : Addr} {fd fdU fdW : FuncData} (F : Fun K "_law_seen_due" "_law_seen_due" sLSeenDue f fd)
    (GU : FnOk P w K mg base CX0 2 fU fdU ["_law_spots", "_law_some_here", "_law_sort"] (spLRises K)) (bU : Binds K fdU ["_law_spots", "_law_some_here", "_law_sort"] []) (gU : mg "_law_rises" = some (.ref fU)) (kU : PySem.W.keepIn K (.ref fU) = true)
    (GW : FnOk P w K mg base CX0 1 fW fdW ["_law_spots", "_law_some_here"] (spPage K)) (bW : Binds K fdW ["_law_spots", "_law_some_here"] []) (gW : mg "_law_written" = some (.ref fW)) (kW : PySem.W.keepIn K (.ref fW) = true)
    (mr : mg "range" = none) (mT : mg "tuple" = none) (ma : mg "all" = none) (ml : mg "len" = none) (mS : mg "str" = none) : FnOk P w K mg base CX0 3 f fd ["_law_spots", "_law_tables", "_law_done", "_law_work"] (spSeenDue K) := by
  refine F.ok scLSeenDue (fun vs H Q E h => ?_) (fun cdv A outer s H vs Q E hr h => ?_)
  · obtain ⟨p, tb, dn, wk, cs, vs, ds, es, ts, ys, ws, rfl, _⟩ := h
    rfl
  · obtain ⟨p, tb, dn, wk, cs, vs, ds, es, ts, ys, ws, rfl, hp, gd, l24, v9, hok, htb, hts, hdn, hys, hwk, hws, h8, h24, k⟩ := h
    have nd := scLSeenDue.nd
    have hr1 : Room 1 _ := hr.mono (by omega)
    have hr2 : Room 2 _ := hr.mono (by omega)
    refine ⟨_, pss_cons (ps_set (i := 4) nd rfl (.inl rfl) (pe_lst pa_nil))
      (pss_cons (ps_for PassesOwn.never rfl (pi_range1 (by rfl) mr (pa_cons (pe_callB call_len_seq (by rfl) ml PySem.boot_len (pa_cons (pv 1) pa_nil)) pa_nil)) (pg_name (i := 5) nd rfl (.inl rfl))
        (pss_cons (ps_asg (pe_tup (pa_cons (pe_ix ix_list (pv 1) (pv 5) (fun _ _ => rfl)) (pa_cons (pe_op op_add_str (pe_op op_add_str pe_str (pe_callTy call_str_int (by rfl) mS (by decide +kernel) (pa_cons (pe_callB call_len_seq (by rfl) ml PySem.boot_len (pa_cons (pv 0) pa_nil)) pa_nil))) pe_str) pa_nil))) (pg_tup (by rfl) (pgs_cons (pg_name (i := 6) nd rfl (.inr rfl)) (pgs_cons (pg_name (i := 7) nd rfl (.inl rfl)) pgs_nil))))
        (pss_cons (ps_set (i := 8) nd rfl (.inl rfl) (pe_lst (pa_cons (pv 5) (pa_cons (pv 0) (pa_cons (pv 6) (pa_cons (pe_op op_catA (pe_callTy call_tuple_of (by rfl) mT (by decide +kernel) (pa_cons (pv 2) pa_nil)) (pe_slice sl_tupA (pv 3) po_none (po_some (pe_op op_add (pv 5) pe_int)))) (pa_cons pe_bl (pa_cons (pe_callB call_len_seq (by rfl) ml PySem.boot_len (pa_cons (pv 0) pa_nil)) (pa_cons (pe_call GW hr1 (by rfl) gW kW bW .nil pass0 (pa_cons (pv 0) (pa_cons (pv 6) pa_nil))) (pa_cons (pv 7) pa_nil))))))))))
        (pss_cons (ps_set (i := 8) nd rfl (.inl rfl) (pe_op op_cat (pv 8) (pe_lst (pa_cons (pe_ix ix_tup (pv 6) (pe_un un_neg pe_int) (fun _ _ => rfl)) (pa_cons (pe_callB (cr_all rfl) (by rfl) ma (by decide +kernel) (pa_cons
            (pe_lc (own := [("_law_sort", 9)]) (g := gName 9) (tt := tYes) rfl nd (pi_str pe_str) (blkOk_by (N := nLSeenDue) (sc := defScope sLSeenDue) (by decide +kernel))
              (fun _ _ _ _ _ => pg_name (i := 9) nd rfl (Or.inl rfl)) (fun _ _ _ _ _ => pts_nil)
              (fun _ _ _ _ _ => (pe_call GU hr (by rfl) gU kU bU .nil pass0 (pa_cons (pv 0) (pa_cons (pv 6) (pa_cons (pv 9) pa_nil)))))) pa_nil)) (pa_cons pe_bl pa_nil))))))
        (pss_one (ps_expr (pe_bm PySem.F.plainAttrs_list PySem.F.slot_list_append PySem.F.type_list_append mt_append (pv 4) (pa_cons (pe_op op_cat (pe_op op_cat (pv 8) (pv 8)) (pe_lst (pa_cons pe_bl (pa_cons pe_bl (pa_cons pe_bl (pa_cons pe_bl (pa_cons pe_bl pa_nil))))))) pa_nil))))))))
      (pss_one (ps_ret (pv 4)))), ?_⟩
    obtain ⟨xs', hx', hc'⟩ := id hp
    have hxl' := Paired.length hc'
    have htl := Paired.length hts
    rw [tabl_len] at htl
    have hyl := Paired.length hys
    have hwl := Paired.length hws
    have hlog : ((cs.length : Int)).natAbs.log2 < 1920 := by
      rw [Int.natAbs_natCast]
      have : cs.length.log2 ≤ cs.length := by
        rcases Nat.eq_zero_or_pos cs.length with z | z
        · rw [z]; decide
        · exact Nat.le_of_lt ((Nat.log2_lt (by omega)).mpr Nat.lt_two_pow_self)
      omega
    have hnl := num_len cs.length l24
    have e1 : (("Sheet(" : Str)).length = 6 := by decide +kernel
    have e2 : ((")" : Str)).length = 1 := by decide +kernel
    have ap : ∀ x y : Str, (x ++ y).length = x.length + y.length := fun x y => by
      show (x.cps ++ y.cps).size = x.cps.size + y.cps.size
      rw [Array.size_append]
    refine ⟨by show 0 ≤ sizeLine; decide, fun Fd nFd => ?_⟩
    have s1 := same_new (o := .lst []) nFd
    have hFd : upd H Fd (.lst []) Fd = some (.lst []) := upd_same
    generalize upd H Fd (.lst []) = H1 at s1 hFd ⊢
    refine ⟨_, rfl, tb, ts, rfl, .inl (SqL.of (s1 _ _ htb)), ?_⟩
    refine ⟨_, rfl, by omega, by omega, for_range (lo := 0) (n := ((ts.length : Nat) : Int).toNat) (fun i σ G => ∃ (y5 y6 y7 y8 : Option V) (Es : List V), σ = [some (.ref p), some (.ref tb), some (.ref dn), some (.ref wk), some (.ref Fd), y5, y6, y7, y8, none] ∧ Same H G ∧ G Fd = some (.lst Es) ∧ SeenL K G Es cs vs ds es i ∧ (∀ (j : Nat) (x : V), Es[j]? = some x → x ≠ .ref Fd)) ?_ ?_ ?_⟩
    · exact ⟨none, none, none, none, [], rfl, s1, hFd, ⟨rfl, fun k x e => by cases e⟩, fun j x e => by cases e⟩
    · rintro i σ G hi ⟨y5, y6, y7, y8, Es, rfl, sG, hF, hE, hne⟩
      have hi2 : i < es.length := by omega
      have ei : (tabl cs vs es)[i]? = some (behs cs vs (es.take (i + 1))) := tabl_at hi2
      obtain ⟨x0, hx0, u0, rfl, hu0⟩ := paired_getR hts ei
      have v9' := behs9 v9 (edsOk_take (i + 1) hok)
      refine ⟨_, rfl, _, rfl, tb, ts, _, .ref u0, rfl, rfl, SqL.of (sG _ _ htb), by rw [Int.zero_add]; exact atI_nat hx0, ?_⟩
      refine ⟨_, rfl, p, xs', rfl, .inr (same_seqT sG hx'.sq), ?_⟩
      rw [hxl']
      refine ⟨_, rfl, hlog, _, _, rfl, rfl, by rw [e1, sizeLine_eq]; omega, _, _, rfl, rfl, by rw [ap, e1, e2, sizeLine_eq]; omega, ?_⟩
      rw [repr_eq cs.length l24]
      refine ⟨by show 2 ≤ sizeLine; decide, fun T nT => ?_⟩
      have sT := same_new (o := .tup [.ref u0, .str (shRepr cs.length)]) nT
      refine ⟨T, _, rfl, SqT.of upd_same, rfl, _, _, rfl, _, _, rfl, rfl, ?_⟩
      generalize upd G T (.tup [.ref u0, .str (shRepr cs.length)]) = G1 at sT ⊢
      have s01 := sG.trans sT
      refine ⟨_, rfl, _, rfl, _, rfl, _, rfl, dn, ys, rfl, .inl ⟨SqL.of (s01 _ _ hdn), fun u1 nu1 => ?_⟩⟩
      have su1 := same_new (o := .tup ys) nu1
      have hu1 : upd G1 u1 (.tup ys) u1 = some (.tup ys) := upd_same
      generalize upd G1 u1 (.tup ys) = G2 at su1 hu1 ⊢
      have s02 := s01.trans su1
      refine ⟨_, rfl, _, rfl, _, _, rfl, rfl, _, rfl, ?_⟩
      dsimp only [tNoPart]
      refine slTake_ok (k := i + 1) (by omega) (same_seqT s02 hwk) (fun G3 u3 s3 hu3 => ?_)
      have s03 := s02.trans s3
      refine catA_ok2 (SqT.of (s3 _ _ hu1)) hu3 (by rw [List.length_take]; omega) (fun G4 u4 s4 hu4 => ?_)
      have s04 := s03.trans s4
      refine ⟨_, rfl, p, xs', rfl, .inr (same_seqT s04 hx'.sq), ?_⟩
      rw [hxl']
      refine ⟨_, rfl, _, rfl, p, u0, cs, behs cs vs (es.take (i + 1)), rfl, (hp.same s04).t, gd, l24, same_seqT s04 hu0, v9', fun G5 s5 => ?_⟩
      have s05 := s04.trans s5
      refine ⟨_, rfl, by show 8 ≤ sizeLine; decide, fun L nL => ?_⟩
      rw [Int.zero_add]
      have sL := same_new (o := .lst [.int i, .ref p, .ref u0, .ref u4, .bl true, .int (cs.length : Nat), .str (page cs (behs cs vs (es.take (i + 1)))), .str (shRepr cs.length)]) nL
      have hL : upd G5 L (.lst [.int i, .ref p, .ref u0, .ref u4, .bl true, .int (cs.length : Nat), .str (page cs (behs cs vs (es.take (i + 1)))), .str (shRepr cs.length)]) L = some (.lst [.int i, .ref p, .ref u0, .ref u4, .bl true, .int (cs.length : Nat), .str (page cs (behs cs vs (es.take (i + 1)))), .str (shRepr cs.length)]) := upd_same
      generalize upd G5 L (.lst [.int i, .ref p, .ref u0, .ref u4, .bl true, .int (cs.length : Nat), .str (page cs (behs cs vs (es.take (i + 1)))), .str (shRepr cs.length)]) = G6 at sL hL ⊢
      have s06 := s05.trans sL
      have n0 : 0 < cs.length := by
        have := gd.ne
        cases cs with
        | nil => exact absurd rfl this
        | cons _ _ => simp
      have hvl := v9'.len
      have ev : ((behs cs vs (es.take (i + 1))).map V.int).getLast? = some (.int (lastV cs (behs cs vs (es.take (i + 1))))) := by
        rw [List.getLast?_eq_getElem?, List.length_map, hvl, List.getElem?_map, List.getElem?_eq_getElem (by omega)]
        unfold lastV
        rw [getD_mem (by omega)]
        rfl
      refine ⟨_, rfl, _, rfl, _, rfl, u0, _, -1, .int (lastV cs (behs cs vs (es.take (i + 1)))), rfl, rfl, same_seqT s06 hu0, atI_last ev, ?_⟩
      refine ⟨_, rfl, fun D2 nD2 => ?_⟩
      refine lc_it walk_str (fun j G' => G' D2 = some (.lst ((([rises false cs (behs cs vs (es.take (i + 1))), rises true cs (behs cs vs (es.take (i + 1)))] : List Bool).take j).map V.bl)) ∧ (∀ b o, b ≠ D2 → G6 b = some o → G' b = some o)) ?_ ?_ ?_ ?_
      · exact ⟨upd_same, fun b o n e => by rw [upd_ne n]; exact e⟩
      · intros
        trivial
      · rintro j x' G9 G9' hj ⟨a1, a2⟩ ⟨rfl, c', hc', rfl⟩
        have sD : Same G6 G9' := fun b o e => a2 b o (ne_of_none e nD2) e
        have s7 := s06.trans sD
        have hRC : ("RC" : Str) = wS [false, true] := by decide +kernel
        have hc'' : (wS [false, true]).cps[j]? = some c' := by rw [← hRC]; exact hc'
        obtain ⟨b', hb, rfl⟩ := wS_at hc''
        rw [ltr_str]
        refine ⟨rfl, _, rfl, _, rfl, _, rfl, p, u0, b', cs, behs cs vs (es.take (i + 1)), rfl, (hp.same s7).t.at, l24, same_seqT s7 hu0, v9'.len, fun G10 s10' => ?_⟩
        refine ⟨_, s10' _ _ a1, ?_, ?_, fun b o n e => ?_⟩
        · rw [List.length_map, List.length_take]
          exact small64 (by show min j 2 ≤ 64; omega)
        · rw [upd_same, rises_take hb]
        · rw [upd_ne n]
          exact s10' _ _ (a2 b o n e)
      rintro G7 ⟨a1, a2⟩
      have s67 : Same G6 G7 := fun b o e => a2 b o (ne_of_none e nD2) e
      have s07 := s06.trans s67
      refine ⟨D2, [rises false cs (behs cs vs (es.take (i + 1))), rises true cs (behs cs vs (es.take (i + 1)))], rfl, SqL.of a1, ?_⟩
      have est : ([rises false cs (behs cs vs (es.take (i + 1))), rises true cs (behs cs vs (es.take (i + 1)))] : List Bool).all id = settled cs (behs cs vs (es.take (i + 1))) := by
        show (rises false cs _ && (rises true cs _ && true)) = _
        rw [Bool.and_true]
        rfl
      rw [est]
      refine ⟨by show 3 ≤ sizeLine; decide, fun M nM => ?_⟩
      have sM := same_new (o := .lst [.int (lastV cs (behs cs vs (es.take (i + 1)))), .bl (settled cs (behs cs vs (es.take (i + 1)))), .bl true]) nM
      have hM : upd G7 M (.lst [.int (lastV cs (behs cs vs (es.take (i + 1)))), .bl (settled cs (behs cs vs (es.take (i + 1)))), .bl true]) M = some (.lst [.int (lastV cs (behs cs vs (es.take (i + 1)))), .bl (settled cs (behs cs vs (es.take (i + 1)))), .bl true]) := upd_same
      generalize upd G7 M (.lst [.int (lastV cs (behs cs vs (es.take (i + 1)))), .bl (settled cs (behs cs vs (es.take (i + 1)))), .bl true]) = G8 at sM hM ⊢
      have s68 := s67.trans sM
      have s08 := s07.trans sM
      refine ⟨L, M, _, _, rfl, rfl, s68 _ _ hL, hM, by rw [sizeLine_eq]; show 8 + 3 ≤ _; omega, fun N nN => ?_⟩
      have sN := same_new (o := .lst (rdV i p u0 u4 true cs (behs cs vs (es.take (i + 1))))) nN
      have hN : upd G8 N (.lst (rdV i p u0 u4 true cs (behs cs vs (es.take (i + 1))))) N = some (.lst (rdV i p u0 u4 true cs (behs cs vs (es.take (i + 1))))) := upd_same
      generalize hG9 : upd G8 N (.lst (rdV i p u0 u4 true cs (behs cs vs (es.take (i + 1))))) = G9 at sN hN
      have hG9' : upd G8 N (.lst ([.int i, .ref p, .ref u0, .ref u4, .bl true, .int (cs.length : Nat), .str (page cs (behs cs vs (es.take (i + 1)))), .str (shRepr cs.length)] ++ [.int (lastV cs (behs cs vs (es.take (i + 1)))), .bl (settled cs (behs cs vs (es.take (i + 1)))), .bl true])) = G9 := hG9
      rw [hG9']
      have s09 := s08.trans sN
      have s49 : Same G4 G9 := ((s5.trans sL).trans s68).trans sN
      have hF9 : G9 Fd = some (.lst Es) := (((((((((sT.trans su1).trans s3).trans s4).trans s5).trans sL).trans s68).trans sN)) _ _ hF)
      refine ⟨_, rfl, .inl ⟨rfl, _, SqL.of hF9⟩, _, rfl, _, rfl, N, N, _, _, rfl, rfl, hN, hN, by rw [sizeLine_eq]; show 11 + 11 ≤ _; omega, fun N2 nN2 => ?_⟩
      have sN2 := same_new (o := .lst ((rdV i p u0 u4 true cs (behs cs vs (es.take (i + 1)))) ++ (rdV i p u0 u4 true cs (behs cs vs (es.take (i + 1)))))) nN2
      have hN2 : upd G9 N2 (.lst ((rdV i p u0 u4 true cs (behs cs vs (es.take (i + 1)))) ++ (rdV i p u0 u4 true cs (behs cs vs (es.take (i + 1)))))) N2 = some (.lst ((rdV i p u0 u4 true cs (behs cs vs (es.take (i + 1)))) ++ (rdV i p u0 u4 true cs (behs cs vs (es.take (i + 1)))))) := upd_same
      generalize upd G9 N2 (.lst ((rdV i p u0 u4 true cs (behs cs vs (es.take (i + 1)))) ++ (rdV i p u0 u4 true cs (behs cs vs (es.take (i + 1)))))) = GA at sN2 hN2 ⊢
      refine ⟨by show 5 ≤ sizeLine; decide, fun B nB => ?_⟩
      have sB := same_new (o := .lst (besV true)) nB
      have hB : upd GA B (.lst (besV true)) B = some (.lst (besV true)) := upd_same
      generalize hGB : upd GA B (.lst (besV true)) = GB at sB hB
      have hGB' : upd GA B (.lst [.bl true, .bl true, .bl true, .bl false, .bl true]) = GB := hGB
      rw [hGB']
      refine ⟨N2, B, _, _, rfl, rfl, sB _ _ hN2, hB, by rw [sizeLine_eq]; show 22 + 5 ≤ _; omega, fun X nX => ?_⟩
      have sX := same_new (o := .lst (((rdV i p u0 u4 true cs (behs cs vs (es.take (i + 1)))) ++ (rdV i p u0 u4 true cs (behs cs vs (es.take (i + 1))))) ++ besV true)) nX
      have hX : upd GB X (.lst (((rdV i p u0 u4 true cs (behs cs vs (es.take (i + 1)))) ++ (rdV i p u0 u4 true cs (behs cs vs (es.take (i + 1))))) ++ besV true)) X = some (.lst (((rdV i p u0 u4 true cs (behs cs vs (es.take (i + 1)))) ++ (rdV i p u0 u4 true cs (behs cs vs (es.take (i + 1))))) ++ besV true)) := upd_same
      generalize upd GB X (.lst (((rdV i p u0 u4 true cs (behs cs vs (es.take (i + 1)))) ++ (rdV i p u0 u4 true cs (behs cs vs (es.take (i + 1))))) ++ besV true)) = GC at sX hX ⊢
      have s9C := (sN2.trans sB).trans sX
      have s0C := s09.trans s9C
      have hFC := s9C _ _ hF9
      have nXF : X ≠ Fd := fun z => by
        have := (sN2.trans sB) _ _ hF9
        rw [← z, nX] at this
        cases this
      have hEl := hE.1
      refine ⟨Fd, Es, _, rfl, rfl, hFC, by rw [sizeLine_eq]; omega, ?_⟩
      have oF : ∀ b o, b ≠ Fd → GC b = some o → upd GC Fd (.lst (Es ++ [.ref X])) b = some o := fun b o n e => by
        rw [upd_ne n]
        exact e
      have knF : KN GC (upd GC Fd (.lst (Es ++ [.ref X]))) := KN.upd hFC rfl
      have hF' : upd GC Fd (.lst (Es ++ [.ref X])) Fd = some (.lst (Es ++ [.ref X])) := upd_same
      generalize upd GC Fd (.lst (Es ++ [.ref X])) = GD at oF knF hF' ⊢
      have nF0 : ∀ {b o}, H b = some o → b ≠ Fd := fun {b o} z => ne_of_none z nFd
      have kn4D : KN G4 GD := ((KN.of_same s49).trans (.of_same s9C)).trans knF
      have rd : RdF K GD p u0 u4 cs (behs cs vs (es.take (i + 1))) (ds ++ es.take (i + 1)) := by
        refine ⟨((hp.same s0C).kn knF).t, knF.sq (same_seqT s0C hu0), _, kn4D.sq hu4, EdsA.kn ((KN.of_same s0C).trans knF) ?_⟩
        exact paired_append hys (paired_take _ hws)
      refine ⟨_, _, _, _, Es ++ [.ref X], rfl, fun b o z => oF _ _ (nF0 z) (s0C _ _ z), hF', ?_, ?_⟩
      · have hE' : SeenL K GD Es cs vs ds es i := ⟨hEl, fun j x e => by
          obtain ⟨E, p1, q1, u1, p2, q2, u2, rfl, h1, h2, h3⟩ := hE.2 j x e
          have hn : E ≠ Fd := fun z => hne j _ e (by rw [z])
          have sGC : Same G GC := ((((((((sT.trans su1).trans s3).trans s4).trans s5).trans sL).trans s68).trans sN)).trans s9C
          have knG := (KN.of_same sGC).trans knF
          exact ⟨E, p1, q1, u1, p2, q2, u2, rfl, oF _ _ hn (sGC _ _ h1), h2.kn knG, h3.kn knG⟩⟩
        exact hE'.snoc ⟨X, p, u0, u4, p, u0, u4, rfl, oF _ _ nXF hX, rd, rd⟩
      · intro j x e
        by_cases c : j < Es.length
        · rw [List.getElem?_append_left c] at e
          exact hne j x e
        · rw [List.getElem?_append_right (by omega)] at e
          have hx : x ∈ [V.ref X] := List.mem_of_getElem? e
          rw [List.mem_singleton.mp hx]
          intro z
          cases z
          exact nXF rfl
    · rintro σ G ⟨y5, y6, y7, y8, Es, rfl, sG, hF, hE, hne⟩
      refine ⟨_, rfl, k G Fd Es sG hF ?_⟩
      have : ((ts.length : Nat) : Int).toNat = es.length := by omega
      rw [← this]
      exact hE
end
end KS
/-! the law of do_all and watch: the watch -/
namespace KS
open PySem PySem.Spec PyProof.Rows L2 RZ LamX NdefX
abbrev sLLooker : Stmt := topS 87
abbrev pLLooker : List Str := ["_law_board", "_law_mate", "_law_work", "_law_seen", "_law_handed"]
theorem scLLooker : FnScope (pLLooker ++ [("_law_look" : Str)]) pLLooker (defScope sLLooker) := ⟨rfl, rfl, rfl, by decide +kernel, rfl, by decide +kernel, by decide +kernel⟩
def hdS : List Stmt → Stmt
  | s :: _ => s
  | [] => .Pass ⟨0, 0, 0, 0⟩
abbrev sLook67 : Stmt := hdS (defBody sLLooker)
def lamLook : Str := (("_law_looker" : Str) ++ (".<locals>." : Str)) ++ ("_law_look" : Str)
abbrev mkLook (cl : Cl) (c : Addr) : NF := NF.of sLook67 "_law_look" lamLook cl c
abbrev nLook67 : List Str := ["_law_here", "_law_at", "_law_board", "_law_mate", "_law_work", "_law_seen", "_law_handed"]
theorem scLook67 (cl : Cl) (c : Addr) : NScope nLook67 ["_law_here", "_law_at"] pLLooker (mkLook cl c).scope := nscope_by (by show nscB nLook67 ["_law_here", "_law_at"] pLLooker (C8.fnScope sLook67) = true; decide +kernel)
/-- how things lie when the watch is called behind the edit i -/
structure WatF (K : PySem.W.Frag) (C : Addr) (H : Hp) (a m p q t q2 t2 wk sn hn : Addr) (i : Nat) (cs : List Cell) (vs : List Int) (ps : List (Ed × List Int)) (es : List Ed) (ws Es : List V) : Prop where
  ne : a ≠ m
  sa : ShP K C H a p q t true cs (behs cs vs (es.take (i + 1))) (ps ++ hist cs vs (es.take (i + 1)))
  sm : ShP K C H m p q2 t2 false cs (behs cs vs (es.take i)) (ps ++ hist cs vs (es.take i))
  pl : PlanN H p cs
  hwk : SqT K H wk ws
  ed : EdsA K H cs ws es
  lt : i < es.length
  l8 : es.length ≤ 8
  l24 : ps.length ≤ 24
  ok : EdsOk cs vs es
  eb : EdsB cs es
  hsn : H sn = some (.lst Es)
  se : SeenL K H Es cs vs (ps.map (·.1)) es i
  sx : ∀ (j : Nat) (x : V), Es[j]? = some x → x ≠ .ref sn ∧ x ≠ .ref hn
  hhn : H hn = some (.lst (List.replicate i (.ref a)))
  nn : sn ≠ hn
/-- .. and behind it -/
structure WatR (K : PySem.W.Frag) (C : Addr) (H H' : Hp) (a m p sn hn : Addr) (i : Nat) (cs : List Cell) (vs : List Int) (ps : List (Ed × List Int)) (es : List Ed) : Prop where
  far : ∀ b o, b ∉ [m, sn, hn] → H b = some o → H' b = some o
  kn : KN H H'
  sm : ∃ q3 t3, ShP K C H' m p q3 t3 false cs (behs cs vs (es.take (i + 1))) (ps ++ hist cs vs (es.take (i + 1)))
  hsn : ∃ Es, H' sn = some (.lst Es) ∧ SeenL K H' Es cs vs (ps.map (·.1)) es (i + 1) ∧ ∀ (j : Nat) (x : V), Es[j]? = some x → x ≠ .ref sn ∧ x ≠ .ref hn
  hhn : H' hn = some (.lst (List.replicate (i + 1) (.ref a)))
def spLook (K : PySem.W.Frag) (C : Addr) : List (Option V) → Sp := fun cw xs H Q _ => ∃ (a m p q t q2 t2 wk sn hn : Addr) (i : Nat) (cs : List Cell) (vs : List Int) (ps : List (Ed × List Int)) (es : List Ed) (ws Es : List V), cw = [a, m, wk, sn, hn].map (fun a => some (.ref a)) ∧ xs = [.ref a, .int (i : Nat)] ∧
  WatF K C H a m p q t q2 t2 wk sn hn i cs vs ps es ws Es ∧ ∀ H', WatR K C H H' a m p sn hn i cs vs ps es → ∀ v, Q v H'
def spWat (K : PySem.W.Frag) (C fw : Addr) : Sp := fun xs H Q _ => ∃ (cl : Cl) (c a m p q t q2 t2 wk sn hn : Addr) (i : Nat) (cs : List Cell) (vs : List Int) (ps : List (Ed × List Int)) (es : List Ed) (ws Es : List V), CloAt H fw (mkLook cl c) pLLooker [a, m, wk, sn, hn] ∧ xs = [.ref a, .int (i : Nat)] ∧
  WatF K C H a m p q t q2 t2 wk sn hn i cs vs ps es ws Es ∧ ∀ H', WatR K C H H' a m p sn hn i cs vs ps es → ∀ v, Q v H'
section
variable {K : PySem.W.Frag} {C : Addr} {H H' : Hp} {a m p q t q2 t2 wk sn hn : Addr} {i : Nat} {cs : List Cell} {vs : List Int} {ps : List (Ed × List Int)} {es : List Ed} {ws Es : List V}
theorem hid_kn {cl : Cl} (A : AllC cl H) : KN H (hid cl H) := fun b o e tp => hid_get A e fun a z => by
  rw [z] at tp
  cases tp
theorem WatF.hid {cl : Cl} (A : AllC cl H) (h : WatF K C H a m p q t q2 t2 wk sn hn i cs vs ps es ws Es) : WatF K C (KS.hid cl H) a m p q t q2 t2 wk sn hn i cs vs ps es ws Es := by
  have kn := hid_kn A
  obtain ⟨dx, ha⟩ := h.sa.ob
  obtain ⟨dm, hm⟩ := h.sm.ob
  have li : ∀ {b xs}, H b = some (.lst xs) → KS.hid cl H b = some (.lst xs) := fun e => hid_get A e fun a z => by cases z
  refine ⟨h.ne, h.sa.keep kn fun o e => ?_, h.sm.keep kn fun o e => ?_, h.pl.kn kn, kn.sq h.hwk, EdsA.kn kn h.ed, h.lt, h.l8, h.l24, h.ok, h.eb, li h.hsn, ⟨h.se.1, fun k x e => ?_⟩, h.sx, li h.hhn, h.nn⟩
  · rw [ha] at e
    cases e
    exact hid_get A ha fun a z => by cases z
  · rw [hm] at e
    cases e
    exact hid_get A hm fun a z => by cases z
  · obtain ⟨E, p1, q1, u1, p2, q2, u2, rfl, h1, h2, h3⟩ := h.se.2 k x e
    exact ⟨E, p1, q1, u1, p2, q2, u2, rfl, li h1, h2.kn kn, h3.kn kn⟩
theorem WatR.unh {cl : Cl} {H1 : Hp} (A : AllC cl H) (n : ∀ b ∈ cl.map Prod.snd, H1 b = none) (h : WatR K C (KS.hid cl H) H1 a m p sn hn i cs vs ps es) : WatR K C H (KS.unh cl H H1) a m p sn hn i cs vs ps es := by
  have sm : Same H1 (KS.unh cl H H1) := unh_same n
  obtain ⟨q3, t3, h3⟩ := h.sm
  obtain ⟨Es, e1, e2, e3⟩ := h.hsn
  refine ⟨fun b o nb e => ?_, fun b o e tp => ?_, ⟨q3, t3, h3.same sm⟩, ⟨Es, sm _ _ e1, ⟨e2.1, fun k x e => (e2.2 k x e).same sm⟩, e3⟩, sm _ _ h.hhn⟩
  · by_cases c : b ∈ cl.map Prod.snd
    · rw [unh_in c]
      exact e
    · rw [unh_out c]
      exact h.far b o nb ((hid_out c).trans e)
  · exact sm _ _ (h.kn b o (hid_kn A b o e tp) tp)
end
section
variable {P : Program} {w : World} {K : PySem.W.Frag} {mg : Str → Option Value} {base : Heap} {C : Addr}
theorem wok_look {fw : Addr} {k : Nat} (N : ∀ cl c, NOk P w K mg base CX0 k fw (mkLook cl c) ["_law_here", "_law_at"] pLLooker (spLook K C)) : WOk P w K mg base CX0 k fw (spWat K C fw) :=
  wok_of fun vs H Q E h => by
    obtain ⟨cl, c, a, m, p, q, t, q2, t2, wk, sn, hn, i, cs, ws', ps, es, ws, Es, hC, hx, hW, hk⟩ := h
    exact ⟨mkLook cl c, _, _, _, spLook K C, hC, N cl c, a, m, p, q, t, q2, t2, wk, sn, hn, i, cs, ws', ps, es, ws, Es, rfl, hx, hW.hid hC.all, fun H1 hR v n => hk _ (hR.unh hC.all n) v⟩
theorem ok_look {fw fR fB : Addr} {fdR fdB : FuncData} (GR : FnOk P w K mg base CX0 11 fR fdR ["_law_board", "_law_at"] (spRead67 K C)) (bR : Binds K fdR ["_law_board", "_law_at"] []) (gR : mg "_law_read" = some (.ref fR)) (kR : PySem.W.keepIn K (.ref fR) = true)
    (GB : FnOk P w K mg base CX0 15 fB fdB ["_law_here", "_law_mate", "_law_edit_here"] (spBeside K C)) (bB : Binds K fdB ["_law_here", "_law_mate", "_law_edit_here"] []) (gB : mg "_law_beside" = some (.ref fB)) (kB : PySem.W.keepIn K (.ref fB) = true) (cl : Cl) (c : Addr) :
    NOk P w K mg base CX0 16 fw (mkLook cl c) ["_law_here", "_law_at"] pLLooker (spLook K C) := by
  refine nok_of (scLook67 cl c) (fun doc pm ctv us h => ?_) (fun cw xs H Q E h => ?_) (fun A outer s H xs cw Q E hr hf hc hl h => ?_)
  · match us, h with
    | [u1, u2], _ => rfl
  · obtain ⟨a, m, p, q, t, q2, t2, wk, sn, hn, i, cs, ws', ps, es, ws, Es, _, rfl, _⟩ := h
    rfl
  · obtain ⟨a, m, p, q, t, q2, t2, wk, sn, hn, i, cs, vs, ps, es, ws, Es, rfl, rfl, W, k⟩ := h
    have nd : nLook67.Nodup := (scLook67 cl c).nd
    have hr11 : Room 11 _ := hr.mono (by omega)
    refine ⟨_, pss_cons (ps_expr (pe_bm PySem.F.plainAttrs_list PySem.F.slot_list_append PySem.F.type_list_append mt_append (pv 6) (pa_cons (pv 0) pa_nil)))
      (pss_cons (ps_expr (pe_bm PySem.F.plainAttrs_list PySem.F.slot_list_append PySem.F.type_list_append mt_append (pv 5) (pa_cons (pe_op op_cat (pe_op op_cat (pe_call GR hr11 (by rfl) gR kR bR .nil pass0 (pa_cons (pv 0) (pa_cons (pv 1) pa_nil))) (pe_call GR hr11 (by rfl) gR kR bR .nil pass0 (pa_cons (pv 2) (pa_cons (pv 1) pa_nil))))
        (pe_call GB hr (by rfl) gB kB bB .nil pass0 (pa_cons (pv 0) (pa_cons (pv 3) (pa_cons (pe_ix ix_tup (pv 4) (pv 1) (fun _ _ => rfl)) pa_nil))))) pa_nil)))
      (pss_one (ps_ret pe_str))), ?_⟩
    obtain ⟨dx, ha⟩ := W.sa.ob
    obtain ⟨dm, hm⟩ := W.sm.ob
    have hwl := Paired.length W.ed
    have il := W.lt
    have i8 := W.l8
    have p24 := W.l24
    have nha : hn ≠ a := fun z => by
      have := W.hhn
      rw [z, ha] at this
      cases this
    have nhm : hn ≠ m := fun z => by
      have := W.hhn
      rw [z, hm] at this
      cases this
    have nsa : sn ≠ a := fun z => by
      have := W.hsn
      rw [z, ha] at this
      cases this
    have nsm : sn ≠ m := fun z => by
      have := W.hsn
      rw [z, hm] at this
      cases this
    obtain ⟨e, he, hx0⟩ : ∃ e, es[i]? = some e ∧ ∃ x, ws[i]? = some x ∧ EdA K H cs x e := by
      have : es[i]? = some es[i] := List.getElem?_eq_getElem il
      obtain ⟨x, hx, r⟩ := paired_getR W.ed this
      exact ⟨_, this, x, hx, r⟩
    obtain ⟨x, hx, hxe⟩ := hx0
    have hb := behs_succ (cs := cs) (vs := vs) he
    have hhi := hist_succ (cs := cs) (vs := vs) he
    refine ⟨_, rfl, .inl ⟨rfl, _, SqL.of W.hhn⟩, _, rfl, hn, _, _, rfl, rfl, W.hhn, by rw [sizeLine_eq, List.length_replicate]; omega, ?_⟩
    have kn1 : KN H (upd H hn (.lst (List.replicate i (.ref a) ++ [.ref a]))) := KN.upd W.hhn rfl
    have hh1 : upd H hn (.lst (List.replicate i (.ref a) ++ [.ref a])) hn = some (.lst (List.replicate (i + 1) (.ref a))) := by
      rw [upd_same, List.replicate_succ']
    have o1 : ∀ b o, b ≠ hn → H b = some o → upd H hn (.lst (List.replicate i (.ref a) ++ [.ref a])) b = some o := fun b o n e => by
      rw [upd_ne n]
      exact e
    generalize upd H hn (.lst (List.replicate i (.ref a) ++ [.ref a])) = G1 at kn1 hh1 o1 ⊢
    have hs1 := o1 _ _ W.nn W.hsn
    have Sa1 := W.sa.keep kn1 fun o z => o1 _ _ (Ne.symm nha) z
    have Sm1 := W.sm.keep kn1 fun o z => o1 _ _ (Ne.symm nhm) z
    have hp1 := W.pl.kn kn1
    have hlen : (ps ++ hist cs vs (es.take (i + 1))).length ≤ 1000 := by
      rw [List.length_append, hist_len, List.length_take]
      omega
    refine ⟨_, rfl, .inl ⟨rfl, _, SqL.of hs1⟩, _, rfl, _, rfl, a, p, q, t, true, i, cs, _, _, rfl, Sa1, hp1, hlen, fun G2 L u s2 nL hL rd => ?_⟩
    refine ⟨_, rfl, _, rfl, a, p, q, t, true, i, cs, _, _, rfl, Sa1.same s2, hp1.same s2, hlen, fun G3 L2 u2 s3 nL2 hL2 rd2 => ?_⟩
    have s13 := s2.trans s3
    refine ⟨L, L2, _, _, rfl, rfl, s3 _ _ hL, hL2, by rw [sizeLine_eq]; show 11 + 11 ≤ _; omega, fun N nN => ?_⟩
    have sN := same_new (o := .lst (rdV i p q u true cs (behs cs vs (es.take (i + 1))) ++ rdV i p q u2 true cs (behs cs vs (es.take (i + 1))))) nN
    have hN : upd G3 N (.lst (rdV i p q u true cs (behs cs vs (es.take (i + 1))) ++ rdV i p q u2 true cs (behs cs vs (es.take (i + 1))))) N = some (.lst (rdV i p q u true cs (behs cs vs (es.take (i + 1))) ++ rdV i p q u2 true cs (behs cs vs (es.take (i + 1))))) := upd_same
    generalize upd G3 N (.lst (rdV i p q u true cs (behs cs vs (es.take (i + 1))) ++ rdV i p q u2 true cs (behs cs vs (es.take (i + 1))))) = G4 at sN hN ⊢
    have s14 := s13.trans sN
    have Sa4 := Sa1.same s14
    rw [hb] at Sa4
    refine ⟨_, rfl, _, rfl, _, rfl, _, rfl, wk, ws, _, x, rfl, rfl, same_seqT s14 (kn1.sq W.hwk), atI_nat hx, a, m, p, q, t, q2, t2, true, x, cs, behs cs vs (es.take i), _, _, e, rfl, W.ne, Sa4, Sm1.same s14, hp1.same s14, (hxe.kn kn1).kn (.of_same s14), edsOk_at W.ok he, (W.eb e (List.mem_of_getElem? he)).1, ?_, fun G5 B q3 t3 kx5 nB hB Sm5 => ?_⟩
    · rw [List.length_append, hist_len, List.length_take]
      omega
    rw [← hb, List.append_assoc, ← hhi] at Sm5
    have hm4 := s14 _ _ (o1 _ _ (Ne.symm nhm) hm)
    have kn5 : KN G4 G5 := KN.of_ins hm4 kx5
    have hN5 : G5 N = some (.lst (rdV i p q u true cs (behs cs vs (es.take (i + 1))) ++ rdV i p q u2 true cs (behs cs vs (es.take (i + 1))))) := kx5 _ _ (fun z => by rw [z, hm4] at hN; cases hN) hN
    refine ⟨N, B, _, _, rfl, rfl, hN5, hB, by rw [sizeLine_eq]; show 22 + 5 ≤ _; omega, fun X nX => ?_⟩
    have sX := same_new (o := .lst ((rdV i p q u true cs (behs cs vs (es.take (i + 1))) ++ rdV i p q u2 true cs (behs cs vs (es.take (i + 1)))) ++ besV true)) nX
    have hX : upd G5 X (.lst ((rdV i p q u true cs (behs cs vs (es.take (i + 1))) ++ rdV i p q u2 true cs (behs cs vs (es.take (i + 1)))) ++ besV true)) X = some (.lst ((rdV i p q u true cs (behs cs vs (es.take (i + 1))) ++ rdV i p q u2 true cs (behs cs vs (es.take (i + 1)))) ++ besV true)) := upd_same
    generalize upd G5 X (.lst ((rdV i p q u true cs (behs cs vs (es.take (i + 1))) ++ rdV i p q u2 true cs (behs cs vs (es.take (i + 1)))) ++ besV true)) = G6 at sX hX ⊢
    have hs6 := sX _ _ (kx5 _ _ nsm (s14 _ _ hs1))
    have hh6 := sX _ _ (kx5 _ _ nhm (s14 _ _ hh1))
    have nXs : X ≠ sn := fun z => by
      have := kx5 _ _ nsm (s14 _ _ hs1)
      rw [← z, nX] at this
      cases this
    have nXh : X ≠ hn := fun z => by
      have := kx5 _ _ nhm (s14 _ _ hh1)
      rw [← z, nX] at this
      cases this
    have hEl := W.se.1
    refine ⟨sn, Es, _, rfl, rfl, hs6, by rw [sizeLine_eq]; omega, ?_⟩
    have oF : ∀ b o, b ≠ sn → G6 b = some o → upd G6 sn (.lst (Es ++ [.ref X])) b = some o := fun b o n e => by
      rw [upd_ne n]
      exact e
    have knF : KN G6 (upd G6 sn (.lst (Es ++ [.ref X]))) := KN.upd hs6 rfl
    have hF' : upd G6 sn (.lst (Es ++ [.ref X])) sn = some (.lst (Es ++ [.ref X])) := upd_same
    generalize upd G6 sn (.lst (Es ++ [.ref X])) = G7 at oF knF hF' ⊢
    have kn57 := (KN.of_same sX).trans knF
    have kn47 := kn5.trans kn57
    have kn07 := (kn1.trans (.of_same s14)).trans kn47
    refine k G7 ⟨fun b o nb e => ?_, kn07, ⟨q3, t3, ?_⟩, ⟨Es ++ [.ref X], hF', ?_, ?_⟩, oF _ _ (Ne.symm W.nn) hh6⟩ _
    · have nb' : b ≠ m ∧ b ≠ sn ∧ b ≠ hn := by simpa [not_or] using nb
      exact oF _ _ nb'.2.1 (sX _ _ (kx5 _ _ nb'.1 (s14 _ _ (o1 _ _ nb'.2.2 e))))
    · refine Sm5.keep kn57 fun o z => oF _ _ (Ne.symm nsm) (sX _ _ z)
    · have hE' : SeenL K G7 Es cs vs (ps.map (·.1)) es i := ⟨hEl, fun j y ej => by
        obtain ⟨E, p1, q1, u1, p2, q2', u2', rfl, h1, h2, h3⟩ := W.se.2 j y ej
        have hn1 : E ≠ sn := fun z => (W.sx j _ ej).1 (by rw [z])
        have hn2 : E ≠ hn := fun z => (W.sx j _ ej).2 (by rw [z])
        have hn3 : E ≠ m := fun z => by
          rw [z, hm] at h1
          cases h1
        exact ⟨E, p1, q1, u1, p2, q2', u2', rfl, oF _ _ hn1 (sX _ _ (kx5 _ _ hn3 (s14 _ _ (o1 _ _ hn2 h1)))), h2.kn kn07, h3.kn kn07⟩⟩
      have rdA : RdF K G7 p q u cs (behs cs vs (es.take (i + 1))) (ps.map (·.1) ++ es.take (i + 1)) := by
        have := rd.kn ((KN.of_same (s3.trans sN)).trans kn47)
        rw [List.map_append, hist_map] at this
        exact this
      have rdB : RdF K G7 p q u2 cs (behs cs vs (es.take (i + 1))) (ps.map (·.1) ++ es.take (i + 1)) := by
        have := rd2.kn ((KN.of_same sN).trans kn47)
        rw [List.map_append, hist_map] at this
        exact this
      exact hE'.snoc ⟨X, p, q, u, p, q, u2, rfl, oF _ _ nXs hX, rdA, rdB⟩
    · intro j y ej
      by_cases c : j < Es.length
      · rw [List.getElem?_append_left c] at ej
        exact W.sx j y ej
      · rw [List.getElem?_append_right (by omega)] at ej
        have hy : y ∈ [V.ref X] := List.mem_of_getElem? ej
        rw [List.mem_singleton.mp hy]
        exact ⟨fun z => by cases z; exact nXs rfl, fun z => by cases z; exact nXh rfl⟩
theorem ok_looker {T : List (Addr × Str)} {f c Pt : Addr} {fd : FuncData} (F : FunC K "_law_looker" "_law_looker" sLLooker f c fd) (TB : TabB base mg c Pt) (hm : (Pt, lamLook) ∈ T) (hu : ∀ p ∈ T, p.1 = Pt → p.2 = lamLook) : FnOk P w K mg base CX0 1 f fd pLLooker (spMk T mkLook pLLooker) := by
  have hB : ndefB (defScope sLLooker) (C8.fnScope sLook67) pLLooker = true := by decide +kernel
  exact ok_mk F scLLooker rfl rfl TB hm hu (fun _ _ => rfl) (ndef_free hB) (fun y hy e => (scLook67 [] 0).free y hy e) (ndef_fr hB) rfl rfl (fun _ => rfl) rfl (by decide +kernel) (by decide +kernel)
end
end KS
/-! the law of do_all and watch: the sheet that was handed is the sheet itself -/
namespace KS
open PySem PySem.Spec PyProof.Rows L2 RZ
abbrev sLHanded : Stmt := topS 89
abbrev nLHanded : List Str := ["_law_board", "_law_here", "_law_before", "_law_done"]
theorem scLHanded : FnScope nLHanded nLHanded (defScope sLHanded) := ⟨rfl, rfl, rfl, by decide +kernel, rfl, by decide +kernel, by decide +kernel⟩
def spHanded (K : PySem.W.Frag) (C : Addr) : Sp := fun xs H Q _ => ∃ (a p q t bf dn : Addr) (cs : List Cell) (v0 : List Int) (ps : List (Ed × List Int)) (e : Ed) (ys : List V), xs = [.ref a, .ref a, .ref bf, .ref dn] ∧ ShP K C H a p q t false cs (e.beh cs v0) (ps ++ [(e, v0)]) ∧ PlanN H p cs ∧ Vals9 cs.length v0 ∧ e.ok cs.length v0 ∧
  SqT K H bf (v0.map V.int) ∧ H dn = some (.lst ys) ∧ EdsA K H cs ys ((ps ++ [(e, v0)]).map (·.1)) ∧ EdsSh cs ((ps ++ [(e, v0)]).map (·.1)) ∧ ps.length ≤ 64 ∧ ∀ H' q' t', KeepX a H H' → ShP K C H' a p q' t' false cs (e.beh cs v0) (ps ++ [(e, v0)]) → Q (.bl true) H'
section
variable {P : Program} {w : World} {K : PySem.W.Frag} {mg : Str → Option Value} {base : Heap} {C CI : Addr}
theorem ok_handed {f fA fU : Addr} {fd fdA fdU : FuncData} {ds : List Value} (F : Fun K "_law_handed_right" "_law_handed_right" sLHanded f fd) (T : ShCls K mg C) (B : ShRd P w K mg base C)
    (GA : FnOk P w K mg base (L2N.CX P w) 14 fA fdA ["self", "edits", "watch"] (spAll K C CI)) (bA : Binds K fdA ["self", "edits", "watch"] ds) (dA : Vals [.non] ds) (mA : Meth K C "do_all" fA)
    (GU : FnOk P w K mg base CX0 1 fU fdU ["self"] (spUndo K C)) (bU : Binds K fdU ["self"] []) (mU : Meth K C "undo" fU)
    (ml : mg "len" = none) (mT : mg "tuple" = none) : FnOk P w K mg base CX0 15 f fd nLHanded (spHanded K C) := by
  obtain ⟨f2, d2, G2, b2, m2⟩ := B.fil
  obtain ⟨f3, d3, G3, b3, m3⟩ := B.log
  obtain ⟨f9, d9, G9, b9, m9⟩ := B.eq
  refine F.ok scLHanded (fun vs H Q E h => ?_) (fun cdv A outer s H vs Q E hr h => ?_)
  · obtain ⟨a, p, q, t, bf, dn, cs, v0, ps, e, ys, rfl, _⟩ := h
    rfl
  · obtain ⟨a, p, q, t, bf, dn, cs, v0, ps, e, ys, rfl, S, hp, v9, hok, hbf, hdn, hys, hsh, hl, k⟩ := h
    have nd := scLHanded.nd
    have hr1 : Room 1 _ := hr.mono (by omega)
    refine ⟨_, pss_cons (ps_expr (pe_meth0 (pv 1) T.cl mU GU hr1 bU .nil pass0))
      (pss_cons (ps_if (PW.pt (pw_or (pt_cmpR (op_neD hr.units) (pe_meth0 (pv 0) T.cl m2 G2 hr1 b2 .nil pass0) (pv 2) (nomark _)) (pw_or1 (pt_cmpR op_ne (pe_callB call_len_seq (by rfl) ml PySem.boot_len (pa_cons (pe_meth0 (pv 0) T.cl m3 G3 hr1 b3 .nil pass0) pa_nil)) (pe_op op_sub (pe_callB call_len_seq (by rfl) ml PySem.boot_len (pa_cons (pv 3) pa_nil)) pe_int) (nomark _))))) (pss_one (ps_ret pe_bl)) pss_nil)
      (pss_cons (ps_expr (pe_methX (E := fun _ => E0) (pv 0) T.cl mA GA hr bA dA (fun _ => pass67) (pa_cons (pe_tup (pa_cons (pe_ix ix_list (pv 3) (pe_un un_neg pe_int) (fun _ _ => rfl)) pa_nil)) pa_nil)))
      (pss_one (ps_ret (pe_and (pe_cmpR (op_eqD hr.units) (pe_meth0 (pv 1) T.cl m2 G2 hr1 b2 .nil pass0) (pe_meth0 (pv 0) T.cl m2 G2 hr1 b2 .nil pass0) (nomark _)) (pe_and (pe_cmpR (op_eqD hr.units) (pe_meth0 (pv 1) T.cl m3 G3 hr1 b3 .nil pass0) (pe_callTy call_tuple_of (by rfl) mT (by decide +kernel) (pa_cons (pv 3) pa_nil)) (nomark _)) (pe_one (pe_cmpR (op_eqO m9.at_ m9.fn G9 b9 hr1 pass0) (pv 0) (pv 1) (nomark _))))))))), ?_⟩
    obtain ⟨dx, ha⟩ := S.ob
    have nda : dn ≠ a := fun z => by
      rw [z, ha] at hdn
      cases hdn
    have hyl := Paired.length hys
    rw [List.length_map, List.length_append] at hyl
    have hyl : ys.length = ps.length + 1 := hyl
    refine ⟨_, rfl, a, dx, _, rfl, ha, shF_no (by decide +kernel) (by decide +kernel) (by decide +kernel) (by decide +kernel), a, p, q, t, false, cs, _, v0, ps, e, rfl, S, v9, fun H1 q1 t1 k1 S1 => ?_⟩
    have kn1 := KN.of_ins ha k1
    obtain ⟨dx1, ha1⟩ := S1.ob
    have hdn1 := k1 _ _ nda hdn
    refine ⟨_, rfl, a, dx1, _, rfl, ha1, shF_no (by decide +kernel) (by decide +kernel) (by decide +kernel) (by decide +kernel), a, p, q1, t1, false, cs, v0, ps, rfl, S1, ?_⟩
    refine ⟨_, rfl, lineD v0, lineD v0, .tup S1.fl (dp_ints _), .tup (kn1.sq hbf) (dp_ints _), line_shaped _, line_shaped _, ?_⟩
    rw [eqv_shaped (line_shaped _)]
    refine ⟨false, rfl, ?_⟩
    refine ⟨_, rfl, a, dx1, _, rfl, ha1, shF_no (by decide +kernel) (by decide +kernel) (by decide +kernel) (by decide +kernel), a, p, q1, t1, false, cs, v0, ps, rfl, S1, by omega, fun H2 u us s2 hu hus => ?_⟩
    have hul := Paired.length hus
    rw [List.length_map] at hul
    refine ⟨u, us, rfl, .inr (SqT.of hu), ?_⟩
    refine ⟨_, rfl, dn, ys, rfl, .inl (SqL.of (s2 _ _ hdn1)), _, _, rfl, rfl, rfl, ?_⟩
    rw [show V.int (us.length : Nat) = V.int ((ys.length : Nat) - 1 : Int) from congrArg V.int (by omega)]
    refine ⟨false, by rw [decide_eq_true rfl]; rfl, ?_⟩
    have ha2 := s2 _ _ ha1
    have hdn2 := s2 _ _ hdn1
    have kn2 := kn1.trans (.of_same s2)
    have hys2 := EdsA.kn kn2 hys
    have hyi := hys2
    rw [List.map_append] at hyi
    obtain ⟨ys0, y, rfl, hy0, hy⟩ := paired_init hyi
    refine ⟨_, rfl, a, dx1, _, rfl, ha2, shF_no (by decide +kernel) (by decide +kernel) (by decide +kernel) (by decide +kernel), ?_⟩
    refine ⟨_, rfl, _, rfl, dn, _, -1, y, rfl, rfl, SqL.of hdn2, atI_last (by simp), by show 1 ≤ sizeLine; decide, fun g ng => ?_⟩
    have s3 := same_new (o := .tup [y]) ng
    have hg : upd H2 g (.tup [y]) g = some (.tup [y]) := upd_same
    generalize upd H2 g (.tup [y]) = H3 at s3 hg ⊢
    refine ⟨a, p, q1, t1, g, false, cs, v0, ps, [y], [e], none, rfl, S1.same (s2.trans s3), hp.kn (kn2.trans (.of_same s3)), SqT.of hg, .cons (hy.kn (.of_same s3)) .nil, ⟨hok, trivial⟩, by show ps.length + 1 ≤ 1000; omega, fun _ z => (nomatch z), fun _ H4 q4 t4 kx4 S4 => ?_, fun _ z => (nomatch z)⟩
    have k04 : KeepX a H H4 := fun b o n z => kx4 _ _ n (s3 _ _ (s2 _ _ (k1 _ _ n z)))
    have kn4 := KN.of_ins ha k04
    have S4 : ShP K C H4 a p q4 t4 false cs (e.beh cs v0) (ps ++ [(e, v0)]) := S4
    obtain ⟨dx4, ha4⟩ := S4.ob
    have hdn4 := k04 _ _ nda hdn
    have no : ∀ {m : Str}, (m == "cells") = false → (m == "numbers") = false → (m == "past") = false → (m == "busy") = false → (shF p q4 t4 false).lookup m = none := fun h1 h2 h3 h4 => shF_no h1 h2 h3 h4
    refine ⟨_, rfl, a, dx4, _, rfl, ha4, no (by decide +kernel) (by decide +kernel) (by decide +kernel) (by decide +kernel), a, p, q4, t4, false, cs, _, _, rfl, S4, ?_⟩
    refine ⟨_, rfl, a, dx4, _, rfl, ha4, no (by decide +kernel) (by decide +kernel) (by decide +kernel) (by decide +kernel), a, p, q4, t4, false, cs, _, _, rfl, S4, ?_⟩
    refine ⟨lineD (e.beh cs v0), lineD (e.beh cs v0), .tup S4.fl (dp_ints _), .tup S4.fl (dp_ints _), line_shaped _, line_shaped _, ?_⟩
    rw [eqv_shaped (line_shaped _)]
    refine ⟨_, rfl, ?_⟩
    refine ⟨_, rfl, a, dx4, _, rfl, ha4, no (by decide +kernel) (by decide +kernel) (by decide +kernel) (by decide +kernel), a, p, q4, t4, false, cs, _, _, rfl, S4, by rw [List.length_append]; show ps.length + 1 ≤ 1000; omega, fun H5 w5 ws5 s5 hw5 hws5 => ?_⟩
    refine ⟨_, rfl, dn, _, rfl, .inl ⟨SqL.of (s5 _ _ hdn4), fun u6 nu6 => ?_⟩⟩
    have s6 := same_new (o := .tup (ys0 ++ [y])) nu6
    have hu6 : upd H5 u6 (.tup (ys0 ++ [y])) u6 = some (.tup (ys0 ++ [y])) := upd_same
    generalize upd H5 u6 (.tup (ys0 ++ [y])) = H6 at s6 hu6 ⊢
    have s46 := s5.trans s6
    have kn6 := kn4.trans (.of_same s46)
    refine ⟨_, _, .tup (SqT.of (s6 _ _ hw5)) (EdsA.kn (.of_same s6) hws5).dp, .tup (SqT.of hu6) (EdsA.kn kn6 hys).dp, eds_shapedT hsh, eds_shapedT hsh, ?_⟩
    rw [eqv_shaped (eds_shapedT hsh)]
    refine ⟨_, rfl, ?_⟩
    have S6 := S4.same s46
    refine ⟨_, rfl, _, rfl, a, dx4, _, _, rfl, s46 _ _ ha4, T.ty (s46 _ _ ha4), nf_self, a, p, q4, t4, false, .ref a, cs, _, _, rfl, S6, .inr ⟨a, p, q4, t4, false, cs, _, _, rfl, S6, ?_⟩⟩
    refine ⟨_, rfl, ?_⟩
    rw [decide_eq_true ⟨rfl, rfl⟩]
    exact k H6 q4 t4 (fun b o n z => s46 _ _ (k04 _ _ n z)) S6
end
end KS
/-! methods called by position and by keywords; do_all by keywords -/
namespace KS
open PySem PySem.Spec PyProof.Rows L2
def tMethN (C : Addr) (m : Str) (n k : Nat) (sp : Sp) (gV : List V → List V → List V) (E : XK) (ta : TE) (t tk : TA) : TE := fun σ H Q => ta σ H fun x H1 => ∃ a dx fs, x = .ref a ∧ H1 a = some (.ins C dx fs) ∧ fs.lookup m = none ∧ t σ H1 fun vs H2 => tk σ H2 fun zs H3 => vs.length + 1 = n ∧ zs.length = k ∧ sp (gV (x :: vs) zs) H3 Q E
section
variable {X : Cx} {CX : CXT} {n k : Nat} {C : Addr} {fd : FuncData} {ps ks : List Str} {sp : Sp} {E : XK} {e : Expr} {es : List Expr} {pl : Sem Bool} {o : Expr} {m : Str} {kws : List Keyword} {pos apos : Pos} {ta : TE} {t tk : TA} {f : Addr} {gg : List Value → List Value → List Value} {gV : List V → List V → List V}
theorem run_methN {pins : List (Addr × Obj)} {σ : L2.St} {H : Hp} {s : Shared} {Q : VK} {a : Addr} {us ws : List Value} {vs zs : List V} (F : FnOk X.prog X.w X.K X.mg X.base CX k f fd ps sp) (hr : Room k X.A) (hb : KBn X.K fd ps n ks gg gV) (hx : PassesAt CX X σ E)
    (I : Inv X pins σ H s) (r : Vals vs us) (rz : Vals zs ws) (l1 : vs.length + 1 = n) (l2 : zs.length = ks.length) (q : sp (gV (.ref a :: vs) zs) H Q E) : wpAny (model X.prog X.w) X.A (call (.ref f) (.ref a :: us) (ks.zip ws)) (EP X pins σ Q) X.xe s := by
  have r1 : Vals (V.ref a :: vs) (Value.ref a :: us) := .cons rfl r
  refine wpAny_call (codeAny_mono (F.run X.A X.stack s H ⟨.ref a :: us, ks.zip ws⟩ (gg (.ref a :: us) ws) (gV (.ref a :: vs) zs) Q E hr I.env0 (hb.to s _ _ I.kIn (by rw [← r1.length]; exact l1) (by rw [← rz.length]; exact l2)) (hb.rel r1 rz) q) fun z s' hq => ?_)
  cases z with
  | error e => exact hx pins H s e s' I hq
  | ok fl =>
    cases fl with
    | ret u => exact I.after hq
    | next => cases hq
    | brk => cases hq
    | cont => cases hq
/-- o.m(e, .., k = v, ..) -/
theorem pe_methN (he : PE X o ta) (c : Cls X.K C) (hm : Meth X.K C m f) (F : FnOk X.prog X.w X.K X.mg X.base CX k f fd ps sp) (hr : Room k X.A) (hb : KBn X.K fd ps n ks gg gV) (hx : ∀ σ, PassesAt CX X σ E) (ha : PA X (e :: es) t) (hkw : PK X kws tk)
    (hall : (backToKw pos (keywordEach kws X.env)).all (·.1.isSome) = true := by rfl) (hks : (backToKw pos (keywordEach kws X.env)).filterMap (·.1) = ks := by rfl)
    (hse : starEach (e :: es) X.env = (false, eval e X.env) :: starEach es X.env := by rfl)
    (hpl : ((backTo pos (starEach (e :: es) X.env)).any (·.1) || (backToKw pos (keywordEach kws X.env)).any (·.1.isNone)) = false := by rfl)
    (ht : eval (.Call (.Attribute o m apos) (e :: es) kws pos) X.env = (do
      let ov ← eval o X.env
      standAt apos.atName
      let (f, first) ← holding [ov] (getMethod ov m pl)
      callWith pos f first (backTo pos (starEach (e :: es) X.env)) (backToKw pos (keywordEach kws X.env))) := by rfl) :
    PE X (.Call (.Attribute o m apos) (e :: es) kws pos) (tMethN C m n ks.length sp gV E ta t tk) := by
  refine ⟨fun pins s σ H Q I h => ?_⟩
  refine PySem.W.methodCall_KW (pl := pl) (thn (he.run pins s σ H _ I h) fun u s1 ⟨x, H1, I1, rx, a, dx, fs, ex, ea, l, q⟩ => ?_) ht
  subst ex
  obtain rfl : u = Value.ref a := rx
  refine getmeth_ok I1 ea c hm l ?_
  refine PySem.W.callWith_KW (first := [.ref a]) (h₀ := X.base) I.ok.mod.kin hm.kp hall ?_ hpl hse
  refine thn (ha.run pos pins s1 σ H1 _ I1 q) fun us s2 ⟨vs, H2, I2, r, q2⟩ => ?_
  refine thn (hkw.run pos pins s2 σ H2 _ I2 q2) fun ws s3 ⟨zs, H3, I3, rz, l1, l2, q3⟩ => ⟨I3.kIn, ?_⟩
  rw [hks]
  exact run_methN F hr hb (hx σ) I3 r rz l1 l2 q3
/-- o.m(k = v, ..) -/
theorem pe_methN0 (he : PE X o ta) (c : Cls X.K C) (hm : Meth X.K C m f) (F : FnOk X.prog X.w X.K X.mg X.base CX k f fd ps sp) (hr : Room k X.A) (hb : KBn X.K fd ps n ks gg gV) (hx : ∀ σ, PassesAt CX X σ E) (hkw : PK X kws tk)
    (hall : (backToKw pos (keywordEach kws X.env)).all (·.1.isSome) = true := by rfl) (hks : (backToKw pos (keywordEach kws X.env)).filterMap (·.1) = ks := by rfl)
    (hpl : ((backTo pos (starEach [] X.env)).any (·.1) || (backToKw pos (keywordEach kws X.env)).any (·.1.isNone)) = false := by rfl)
    (ht : eval (.Call (.Attribute o m apos) [] kws pos) X.env = (do
      let ov ← eval o X.env
      standAt apos.atName
      let (f, first) ← holding [ov] (getMethod ov m pl)
      callWith pos f first (backTo pos (starEach [] X.env)) (backToKw pos (keywordEach kws X.env))) := by rfl) :
    PE X (.Call (.Attribute o m apos) [] kws pos) (tMethN C m n ks.length sp gV E ta tNil tk) := by
  refine ⟨fun pins s σ H Q I h => ?_⟩
  refine PySem.W.methodCall_KW (pl := pl) (thn (he.run pins s σ H _ I h) fun u s1 ⟨x, H1, I1, rx, a, dx, fs, ex, ea, l, q⟩ => ?_) ht
  subst ex
  obtain rfl : u = Value.ref a := rx
  refine getmeth_ok I1 ea c hm l ?_
  refine PySem.W.callWith_KW0 (first := [.ref a]) (h₀ := X.base) I.ok.mod.kin hm.kp hall ?_ hpl
  refine thn (hkw.run pos pins s1 σ H1 _ I1 q) fun ws s3 ⟨zs, H3, I3, rz, l1, l2, q3⟩ => ⟨I3.kIn, ?_⟩
  rw [hks]
  exact run_methN F hr hb (hx σ) I3 .nil rz l1 l2 q3
end
/-! ### do_all by keywords -/
section
variable {K : PySem.W.Frag} {f : Addr} {fd : FuncData}
theorem all_kb1 (F : FunD K "do_all" "Sheet.do_all" (defArgs sShDoAll) (defBody sShDoAll) (defScope sShDoAll) [] [("watch", .non)] f fd) : KBn K fd ["self", "edits", "watch"] 2 ["watch"] (fun us ws => us ++ ws) (fun vs zs => vs ++ zs) := by
  obtain ⟨oc, od, dV, kV, doc, pm, an, cdv, ct, osl, rfl, lk, hcd, hD, hK⟩ := F.ex
  rcases hD with ⟨_, rfl⟩ | ⟨e, _⟩
  · exact ⟨fun s us ws _ h1 h2 => match us, ws, h1, h2 with | [_, _], [_], _, _ => .of_eq rfl, fun r q => r.append q⟩
  · exact absurd rfl e
theorem all_kb2 (F : FunD K "do_all" "Sheet.do_all" (defArgs sShDoAll) (defBody sShDoAll) (defScope sShDoAll) [] [("watch", .non)] f fd) : KBn K fd ["self", "edits", "watch"] 1 ["watch", "edits"] (fun us ws => us ++ swap2 ws) (fun vs zs => vs ++ swap2 zs) := by
  obtain ⟨oc, od, dV, kV, doc, pm, an, cdv, ct, osl, rfl, lk, hcd, hD, hK⟩ := F.ex
  rcases hD with ⟨_, rfl⟩ | ⟨e, _⟩
  · exact ⟨fun s us ws _ h1 h2 => match us, ws, h1, h2 with | [_], [_, _], _, _ => .of_eq rfl, fun r q => r.append (swap2_rel q)⟩
  · exact absurd rfl e
theorem all_kb3 (F : FunD K "do_all" "Sheet.do_all" (defArgs sShDoAll) (defBody sShDoAll) (defScope sShDoAll) [] [("watch", .non)] f fd) : ∃ ds : List Value, KBn K fd ["self", "edits", "watch"] 1 ["edits"] (fun us ws => us ++ (ws ++ ds)) (fun vs zs => vs ++ (zs ++ [.non])) := by
  obtain ⟨oc, od, dV, kV, doc, pm, an, cdv, ct, osl, rfl, lk, hcd, hD, hK⟩ := F.ex
  rcases hD with ⟨_, rfl⟩ | ⟨e, _⟩
  · rcases hK with e | ⟨D, rfl, hq⟩
    · cases e
    · obtain ⟨mv, hl, rk, hks⟩ := kwd_vals hq
      refine ⟨mv, ⟨fun s us ws X h1 h2 => BindsTo.of_looks fun M => KwChain.looks X hks ?_, fun r q => r.append (q.append rk)⟩⟩
      match us, ws, mv, h1, h2, hl with
      | [_], [_], [_], _, _, _ => exact ⟨_, _, _, _, _, _, rfl, rfl, rfl⟩
  · exact absurd rfl e
end
end KS
/-! the law of do_all and watch: all edits with the watch -/
namespace KS
open PySem PySem.Spec PyProof.Rows L2 RZ LamX NdefX
theorem KD.trans {zs : List Addr} {H H1 H2 : Hp} (a : KD zs H H1) (b : KD zs H1 H2) : KD zs H H2 := fun c o n e => b c o n (a c o n e)
theorem KD.mono {zs ys : List Addr} {H H1 : Hp} (a : KD zs H H1) (h : ∀ z ∈ zs, z ∈ ys) : KD ys H H1 := fun c o n e => a c o (fun m => n (h c m)) e
theorem KD.ofX {z : Addr} {H H1 : Hp} (k : KeepX z H H1) : KD [z] H H1 := fun c o n e => k c o (fun m => n (by rw [m]; exact List.mem_cons_self)) e
section
variable {K : PySem.W.Frag} {C : Addr} {G : Hp} {a p q t bm q2 t2 wk sn hn fw : Addr} {cl : Cl} {c : Addr} {cs : List Cell} {vs : List Int} {ps : List (Ed × List Int)} {es : List Ed} {ws : List V} {Q : VK} {E : XK}
theorem watch_all (S : ShP K C G a p q t false cs vs ps) (Sm : ShP K C G bm p q2 t2 false cs vs ps) (hp : PlanN G p cs) (hwk : SqT K G wk ws) (hes : EdsA K G cs ws es) (hok : EdsOk cs vs es) (heb : EdsB cs es) (l8 : es.length ≤ 8) (l24 : ps.length ≤ 24) (ne : a ≠ bm)
    (hsn : G sn = some (.lst [])) (hhn : G hn = some (.lst [])) (nn : sn ≠ hn) (hC : CloAt G fw (mkLook cl c) pLLooker [a, bm, wk, sn, hn])
    (k : ∀ (G' : Hp) (q' t' q2' t2' : Addr) (Es : List V), KD [a, bm, sn, hn] G G' → KN G G' → ShP K C G' a p q' t' false cs (behs cs vs es) (ps ++ hist cs vs es) → ShP K C G' bm p q2' t2' false cs (behs cs vs es) (ps ++ hist cs vs es) →
      G' sn = some (.lst Es) → SeenL K G' Es cs vs (ps.map (·.1)) es es.length → G' hn = some (.lst (List.replicate es.length (.ref a))) → Q .non G') : spAllW K C (spWat K C) [.ref a, .ref wk, .ref fw] G Q E := by
  obtain ⟨dx, ha⟩ := S.ob
  obtain ⟨dm, hm⟩ := Sm.ob
  have nsa : sn ≠ a := fun z => by
    rw [z, ha] at hsn
    cases hsn
  have nha : hn ≠ a := fun z => by
    rw [z, ha] at hhn
    cases hhn
  have nsm : sn ≠ bm := fun z => by
    rw [z, hm] at hsn
    cases hsn
  have nhm : hn ≠ bm := fun z => by
    rw [z, hm] at hhn
    cases hhn
  -- what is no sheet and no list is not touched
  have out : ∀ {b o}, G b = some o → (∀ C' d' fs, o ≠ .ins C' d' fs) → (∀ xs, o ≠ .lst xs) → b ∉ [a, bm, sn, hn] := fun {b o} e n1 n2 hb => by
    have hb : b = a ∨ b = bm ∨ b = sn ∨ b = hn := by simpa using hb
    rcases hb with z | z | z | z
    · rw [z, ha] at e
      exact n1 _ _ _ (Option.some.inj e).symm
    · rw [z, hm] at e
      exact n1 _ _ _ (Option.some.inj e).symm
    · rw [z, hsn] at e
      exact n2 _ (Option.some.inj e).symm
    · rw [z, hhn] at e
      exact n2 _ (Option.some.inj e).symm
  have clo : ∀ {H1 : Hp}, KD [a, bm, sn, hn] G H1 → CloAt H1 fw (mkLook cl c) pLLooker [a, bm, wk, sn, hn] := fun {H1} kd => hC.keep fun b o hb e => by
    refine kd _ _ (out e (fun C' d' fs z => ?_) (fun xs z => ?_)) e
    · subst z
      rcases hb with z | z | z
      · rw [z, hC.fn] at e
        cases e
      · rw [z, hC.cd] at e
        cases e
      · obtain ⟨a', e2⟩ := hC.all b z
        rw [e2] at e
        cases e
    · subst z
      rcases hb with z | z | z
      · rw [z, hC.fn] at e
        cases e
      · rw [z, hC.cd] at e
        cases e
      · obtain ⟨a', e2⟩ := hC.all b z
        rw [e2] at e
        cases e
  refine ⟨a, p, q, t, wk, fw, false, cs, vs, ps, ws, es, fun i H1 => KD [a, bm, sn, hn] G H1 ∧ KN G H1 ∧ (∃ q2 t2, ShP K C H1 bm p q2 t2 false cs (behs cs vs (es.take i)) (ps ++ hist cs vs (es.take i))) ∧
    (∃ Es, H1 sn = some (.lst Es) ∧ SeenL K H1 Es cs vs (ps.map (·.1)) es i ∧ ∀ (j : Nat) (x : V), Es[j]? = some x → x ≠ .ref sn ∧ x ≠ .ref hn) ∧ H1 hn = some (.lst (List.replicate i (.ref a))),
    rfl, S, hp, hwk, hes, hok, by omega, fun H1 kx S1 => ?_, fun i H1 H2 ⟨dx1, q1, t1, b1, ha1⟩ ⟨j1, j2, ⟨q3, t3, j3⟩, ⟨Es, e1, e2, e3⟩, j5⟩ kx => ?_, fun i H1 ⟨j1, j2, j3, j4, j5⟩ => ?_, fun i q1 t1 H1 hi ⟨j1, j2, ⟨q3, t3, j3⟩, ⟨Es, e1, e2, e3⟩, j5⟩ S1 Q' hQ => ?_, fun H1 q1 t1 ⟨j1, j2, ⟨q3, t3, j3⟩, ⟨Es, e1, e2, e3⟩, j5⟩ S1 => ?_⟩
  · have kn := KN.of_ins ha kx
    refine ⟨(KD.ofX kx).mono (by simp), kn, ⟨q2, t2, ?_⟩, ⟨[], kx _ _ nsa hsn, ⟨rfl, fun k x e => by cases e⟩, fun j x e => by cases e⟩, kx _ _ nha hhn⟩
    rw [show ps ++ hist cs vs (es.take 0) = ps from List.append_nil _]
    exact Sm.keep kn fun o e => kx _ _ (Ne.symm ne) e
  · have kn := KN.of_ins ha1 kx
    refine ⟨j1.trans ((KD.ofX kx).mono (by simp)), j2.trans kn, ⟨q3, t3, j3.keep kn fun o e => kx _ _ (Ne.symm ne) e⟩, ⟨Es, kx _ _ nsa e1, ⟨e2.1, fun k x e => ?_⟩, e3⟩, kx _ _ nha j5⟩
    obtain ⟨E, p1, q1, u1, p2, q2', u2', rfl, h1, h2, h3⟩ := e2.2 k x e
    have hn1 : E ≠ a := fun z => by
      rw [z, ha1] at h1
      cases h1
    exact ⟨E, p1, q1, u1, p2, q2', u2', rfl, kx _ _ hn1 h1, h2.kn kn, h3.kn kn⟩
  · exact ⟨⟨_, (clo j1).fn⟩, hp.kn j2, j2.sq hwk, EdsA.kn j2 hes⟩
  · refine ⟨cl, c, a, bm, p, q1, t1, q3, t3, wk, sn, hn, i, cs, vs, ps, es, ws, Es, clo j1, rfl, ⟨ne, S1, j3, hp.kn j2, j2.sq hwk, EdsA.kn j2 hes, hi, l8, l24, hok, heb, e1, e2, e3, j5, nn⟩, fun H2 R v => ?_⟩
    obtain ⟨q4, t4, r3⟩ := R.sm
    obtain ⟨Es', f1, f2, f3⟩ := R.hsn
    obtain ⟨dx1, ha1⟩ := S1.ob
    have hna : a ∉ [bm, sn, hn] := by simp [ne, Ne.symm nsa, Ne.symm nha]
    refine hQ H2 ⟨j1.trans ?_, j2.trans R.kn, ⟨q4, t4, r3⟩, ⟨Es', f1, f2, f3⟩, R.hhn⟩ (S1.keep R.kn fun o e => R.far _ _ hna e) v
    exact KD.mono (zs := [bm, sn, hn]) (fun b o n e => R.far b o n e) (by simp)
  · rw [List.take_length] at j3
    exact k H1 q1 t1 q3 t3 Es j1 j2 S1 j3 e1 e2 j5
end
end KS
/-! texts of signs that there are; the promise of a law whose program makes lambdas -/
namespace KS
open PySem PySem.Spec PyProof.Rows L2
open LamX
def spLawT (T : List (Addr × Str)) (K : PySem.W.Frag) : Sp := fun vs H Q _ => ∃ (a : Addr) (ns : List Int), vs = [.ref a] ∧ SqL K H a (ns.map V.int) ∧ ns.length ≤ 63 ∧ Tabs T H ∧ ∀ H', Q (.bl true) H'
theorem SqL.ext {K : PySem.W.Frag} {H H' : Hp} {a : Addr} {xs : List V} (h : SqL K H a xs) (e : ExtN H H') : SqL K H' a xs := by
  rcases h with (h | ⟨ob, h⟩) | h
  · exact .inl (.inl (e _ _ h fun ps z => nomatch z))
  · exact .inl (.inr ⟨ob, e _ _ h fun ps z => nomatch z⟩)
  · exact .inr h
/-- what stood, but at p and in the tables, stands -/
def KeepN (p : Addr) (H H' : Hp) : Prop := ∀ b o, b ≠ p → H b = some o → (∀ ps, o ≠ .tbl ps) → H' b = some o
theorem KeepN.trans {p : Addr} {H H1 H2 : Hp} (a : KeepN p H H1) (b : KeepN p H1 H2) : KeepN p H H2 := fun c o n e z => b c o n (a c o n e z) z
theorem KeepN.of {p : Addr} {H H1 : Hp} (a : KeepX p H H1) : KeepN p H H1 := fun b o n e _ => a b o n e
theorem KeepN.ext {p : Addr} {H H1 : Hp} (a : ExtN H H1) : KeepN p H H1 := fun b o _ e z => a b o e z
theorem Tabs.keepX {T : List (Addr × Str)} {p : Addr} {H H' : Hp} (t : Tabs T H) (po : PoolO (H p)) (k : KeepX p H H') : Tabs T H' := fun q hq => by
  obtain ⟨ps, a1, a2, a3⟩ := t q hq
  obtain ⟨x, y, z, e, _⟩ := po
  refine ⟨ps, k _ _ (fun z => by rw [z, e] at a1; cases a1) a1, a2, fun pos cv hcv => ?_⟩
  obtain ⟨c0, w1, w2⟩ := a3 pos cv hcv
  exact ⟨c0, w1, k _ _ (fun z => by rw [z, e] at w2; cases w2) w2⟩
theorem PoolO.ext {p : Addr} {H H' : Hp} (po : PoolO (H p)) (k : ExtN H H') : PoolO (H' p) := by
  obtain ⟨x, y, z, e, h⟩ := po
  exact ⟨x, y, z, k _ _ e (fun ps q => nomatch q), h⟩
def spRightT (T : List (Addr × Str)) : Sp := fun vs H Q _ => ∃ p : Addr, vs = [.ref p] ∧ PoolO (H p) ∧ Tabs T H ∧ ∀ H', KeepN p H H' → Tabs T H' → Q (.bl true) H'
end KS
/-! the law of do_all and watch: one table -/
namespace KS
open PySem PySem.Spec PyProof.Rows L2 RZ LamX NdefX
abbrev sRight67 : Stmt := topS 90
abbrev nRight67 : List Str := ["_law_pool_here", "_law_spots", "_law_some_here", "_law_board", "_law_mate", "_law_done", "_law_turn", "_law_work", "_law_tables", "_law_seen", "_law_handed", "_law_way", "_law_shown", "_law_look_here", "_law_told", "_law_before"]
theorem scRight67 : FnScope nRight67 ["_law_pool_here"] (defScope sRight67) := ⟨rfl, rfl, rfl, by decide +kernel, rfl, by decide +kernel, by decide +kernel⟩
theorem same_mk67 {C x dx : Addr} {H H' : Hp} (nx : H x = none) (ndx : H dx = none) (k : KeepX x (upd (upd H dx (.own x)) x (.ins C dx [])) H') : Same H H' := fun b o e => k _ _ (ne_of_none e nx) (by
  rw [upd_ne (ne_of_none e nx), upd_ne (ne_of_none e ndx)]
  exact e)
theorem same_mk67a {C x dx : Addr} {H : Hp} (nx : H x = none) (ndx : H dx = none) : Same H (upd (upd H dx (.own x)) x (.ins C dx [])) := fun b o e => by
  rw [upd_ne (ne_of_none e nx), upd_ne (ne_of_none e ndx)]
  exact e
/-- pool, plan, the two sheets between two turns -/
structure Dk67 (K : PySem.W.Frag) (C : Addr) (T : List (Addr × Str)) (H0 G : Hp) (pl p a bm : Addr) (cs : List Cell) (vs : List Int) (ps : List (Ed × List Int)) : Prop where
  kp : KeepN pl H0 G
  tb : Tabs T G
  po : PoolO (G pl)
  pn : PlanN G p cs
  sa : ∃ q t, ShP K C G a p q t false cs vs ps
  sm : ∃ q t, ShP K C G bm p q t false cs vs ps
  ne : a ≠ bm
  fa : H0 a = none
  fb : H0 bm = none
theorem KeepN.kn {pl : Addr} {H H' : Hp} (po : PoolO (H pl)) (k : KeepN pl H H') : KN H H' := fun b o e tp => by
  obtain ⟨x, y, z, ep, _⟩ := po
  refine k b o (fun n => ?_) e fun ps z => ?_
  · rw [n, ep] at e
    cases e
    cases tp
  · rw [z] at tp
    cases tp
section
variable {K : PySem.W.Frag} {C : Addr} {T : List (Addr × Str)} {H0 G G' : Hp} {pl p a bm : Addr} {cs : List Cell} {vs : List Int} {ps : List (Ed × List Int)}
theorem Dk67.npa (h : Dk67 K C T H0 G pl p a bm cs vs ps) : a ≠ pl ∧ bm ≠ pl := by
  obtain ⟨q, t, S⟩ := h.sa
  obtain ⟨q2, t2, S2⟩ := h.sm
  obtain ⟨dx, ha⟩ := S.ob
  obtain ⟨dm, hm⟩ := S2.ob
  obtain ⟨x, y, z, ep, _⟩ := h.po
  refine ⟨fun n => ?_, fun n => ?_⟩
  · rw [n, ep] at ha
    cases ha
  · rw [n, ep] at hm
    cases hm
theorem Dk67.step (h : Dk67 K C T H0 G pl p a bm cs vs ps) (k : KeepN pl G G') (tb : Tabs T G') (po : PoolO (G' pl)) : Dk67 K C T H0 G' pl p a bm cs vs ps := by
  obtain ⟨n1, n2⟩ := h.npa
  have kn := k.kn h.po
  obtain ⟨q, t, S⟩ := h.sa
  obtain ⟨q2, t2, S2⟩ := h.sm
  obtain ⟨dx, ha⟩ := S.ob
  obtain ⟨dm, hm⟩ := S2.ob
  refine ⟨h.kp.trans k, tb, po, h.pn.kn kn, ⟨q, t, S.keep kn fun o e => ?_⟩, ⟨q2, t2, S2.keep kn fun o e => ?_⟩, h.ne, h.fa, h.fb⟩
  · exact k _ _ n1 e fun ps z => by
      rw [ha] at e
      cases e
      cases z
  · exact k _ _ n2 e fun ps z => by
      rw [hm] at e
      cases e
      cases z
theorem Dk67.same (h : Dk67 K C T H0 G pl p a bm cs vs ps) (s : Same G G') : Dk67 K C T H0 G' pl p a bm cs vs ps := h.step (.of fun b o _ e => s b o e) (Tabs.ext h.tb s) (h.po.same s)
theorem Dk67.pool (h : Dk67 K C T H0 G pl p a bm cs vs ps) (k : KeepX pl G G') (po : PoolO (G' pl)) : Dk67 K C T H0 G' pl p a bm cs vs ps := h.step (.of k) (Tabs.keepX h.tb h.po k) po
theorem Dk67.ext (h : Dk67 K C T H0 G pl p a bm cs vs ps) (e : ExtN G G') (tb : Tabs T G') : Dk67 K C T H0 G' pl p a bm cs vs ps := h.step (.ext e) tb (h.po.ext e)
end
def isIL : HO → Bool
  | .ins _ _ _ => true
  | .lst _ => true
  | _ => false
theorem Tabs.kd {T : List (Addr × Str)} {zs : List Addr} {G G' : Hp} (t : Tabs T G) (hz : ∀ z ∈ zs, ∃ o, G z = some o ∧ isIL o = true) (k : KD zs G G') : Tabs T G' := fun q hq => by
  obtain ⟨ps, a1, a2, a3⟩ := t q hq
  have out : ∀ {b o}, G b = some o → isIL o = false → b ∉ zs := fun {b o} e n hb => by
    obtain ⟨o', e1, e2⟩ := hz b hb
    rw [e] at e1
    cases e1
    rw [n] at e2
    cases e2
  refine ⟨ps, k _ _ (out a1 rfl) a1, a2, fun pos cv hcv => ?_⟩
  obtain ⟨c0, w1, w2⟩ := a3 pos cv hcv
  exact ⟨c0, w1, k _ _ (out w2 rfl) w2⟩
theorem Dk67.edit {K : PySem.W.Frag} {C : Addr} {T : List (Addr × Str)} {H0 G G' : Hp} {pl p a bm : Addr} {cs : List Cell} {vs vs' : List Int} {ps ps' : List (Ed × List Int)} {zs : List Addr} (h : Dk67 K C T H0 G pl p a bm cs vs ps) (kd : KD zs G G') (kn : KN G G')
    (hp : pl ∉ zs) (hz : ∀ z ∈ zs, ∃ o, G z = some o ∧ isIL o = true) (h0 : ∀ z ∈ zs, ∀ o, H0 z = some o → ∃ ps, o = .tbl ps) (sa : ∃ q t, ShP K C G' a p q t false cs vs' ps') (sm : ∃ q t, ShP K C G' bm p q t false cs vs' ps') : Dk67 K C T H0 G' pl p a bm cs vs' ps' := by
  refine ⟨fun b o nb e nt => ?_, Tabs.kd h.tb hz kd, ?_, h.pn.kn kn, sa, sm, h.ne, h.fa, h.fb⟩
  · by_cases c : b ∈ zs
    · obtain ⟨ps, z⟩ := h0 b c o e
      exact absurd z (nt ps)
    · exact kd b o c (h.kp b o nb e nt)
  · obtain ⟨x, y, z, e1, e2⟩ := h.po
    exact ⟨x, y, z, kd _ _ hp e1, e2⟩
theorem cut67 {R : L2.St → Hp → Prop} {Pm : L2.St → Hp → Prop} {goal : Prop} (main : (∀ σ' H', Pm σ' H' → R σ' H') → goal) (fin : ∀ σ' H', Pm σ' H' → R σ' H') : goal := main fin
theorem cut_two {xs : List V} (h : xs ≠ []) : (cutV xs (some (-2)) none)[0]? = xs[xs.length - 2]? := by
  have hl := List.length_pos_iff.mpr h
  have e : HT.sIx xs.length 0 (some (-2)) = xs.length - 2 := by
    show (if (-2 : Int) < 0 then ((-2 : Int) + (xs.length : Int)).toNat else min (-2 : Int).toNat xs.length) = xs.length - 2
    rw [if_pos (by decide)]
    omega
  unfold cutV
  rw [e, HT.sIx_none]
  rw [List.getElem?_take_of_lt (by omega), List.getElem?_drop, Nat.add_zero]
theorem hist_snoc67 {cs : List Cell} {e : Ed} : ∀ {es : List Ed} {vs : List Int}, hist cs vs (es ++ [e]) = hist cs vs es ++ [(e, behs cs vs es)]
  | [], vs => rfl
  | e0 :: es, vs => congrArg ((e0, vs) :: ·) (hist_snoc67 (es := es) (vs := e0.beh cs vs))
theorem edsOk_last {cs : List Cell} {e : Ed} : ∀ {es : List Ed} {vs : List Int}, EdsOk cs vs (es ++ [e]) → EdsOk cs vs es ∧ e.ok cs.length (behs cs vs es)
  | [], vs, h => ⟨trivial, h.1⟩
  | e0 :: es, vs, h => by
    obtain ⟨h1, h2⟩ := edsOk_last (es := es) (vs := e0.beh cs vs) h.2
    exact ⟨⟨h.1, h1⟩, h2⟩
theorem tabs_at {K : PySem.W.Frag} {G : Hp} {cs : List Cell} {vs : List Int} {es : List Ed} {m : Addr} {ts : List V} (hm : SqT K G m (vs.map V.int)) (hts : TabsA K G ts (tabl cs vs es)) {j : Nat} (hj : j ≤ es.length) : ∃ u, ([V.ref m] ++ ts)[j]? = some (.ref u) ∧ SqT K G u ((behs cs vs (es.take j)).map V.int) := by
  cases j with
  | zero => exact ⟨m, rfl, hm⟩
  | succ j =>
    obtain ⟨x, hx, u, rfl, hu⟩ := paired_getR hts (tabl_at (cs := cs) (vs := vs) (es := es) (k := j) (by omega))
    exact ⟨u, hx, hu⟩
section
variable {P : Program} {w : World} {K : PySem.W.Frag} {mg : Str → Option Value} {base : Heap} {C CI : Addr}
theorem ok_right67 {T : List (Addr × Str)} {f fI fD fT fS fL fA fSh fDu fH : Addr} {fd fdI fdD fdT fdS fdL fdA fdSh fdDu fdH : FuncData} {ds dk : List Value} (F : Fun K "_law_right" "_law_right" sRight67 f fd) (TC : ShCls K mg C)
    (M : Mk K C fI) (GI : FnOk P w K mg base CX0 6 fI fdI ["self", "plan", "filling"] (spShInit K C)) (bI : Binds K fdI ["self", "plan", "filling"] [])
    (GA : FnOk P w K mg base (L2N.CX P w) 14 fA fdA ["self", "edits", "watch"] (spAll K C CI)) (GW : FnOk P w K mg base (L2N.CX P w) 17 fA fdA ["self", "edits", "watch"] (spAllW K C (spWat K C))) (bA : Binds K fdA ["self", "edits", "watch"] ds) (dA : Vals [.non] ds) (mA : Meth K C "do_all" fA)
    (k1 : KBn K fdA ["self", "edits", "watch"] 2 ["watch"] (fun us ws => us ++ ws) (fun vs zs => vs ++ zs)) (k2 : KBn K fdA ["self", "edits", "watch"] 1 ["watch", "edits"] (fun us ws => us ++ swap2 ws) (fun vs zs => vs ++ swap2 zs)) (k3 : KBn K fdA ["self", "edits", "watch"] 1 ["edits"] (fun us ws => us ++ (ws ++ dk)) (fun vs zs => vs ++ (zs ++ [.non])))
    (GD : FnOk P w K mg base CX0 1 fD fdD ["_law_pool_here", "_law_most"] spDraw) (bD : Binds K fdD ["_law_pool_here", "_law_most"] []) (gD : mg "_law_draw" = some (.ref fD)) (kD : PySem.W.keepIn K (.ref fD) = true)
    (GT : FnOk P w K mg base CX0 3 fT fdT ["_law_pool_here"] (spTabN K)) (bT : Binds K fdT ["_law_pool_here"] []) (gT : mg "_law_table" = some (.ref fT)) (kT : PySem.W.keepIn K (.ref fT) = true)
    (GS : FnOk P w K mg base CX0 10 fS fdS ["_law_pool_here", "_law_spots", "_law_some_here", "_law_most"] (spSome67 K)) (bS : Binds K fdS ["_law_pool_here", "_law_spots", "_law_some_here", "_law_most"] []) (gS : mg "_law_some" = some (.ref fS)) (kS : PySem.W.keepIn K (.ref fS) = true)
    (GL : FnOk P w K mg base CX0 1 fL fdL pLLooker (spMk T mkLook pLLooker)) (bL : Binds K fdL pLLooker []) (gL : mg "_law_looker" = some (.ref fL)) (kL : PySem.W.keepIn K (.ref fL) = true)
    (GSh : FnG P w K mg base 12 fSh fdSh ["_law_board", "_law_spots", "_law_some_here", "_law_done"] (spShows K C)) (bSh : Binds K fdSh ["_law_board", "_law_spots", "_law_some_here", "_law_done"] []) (gSh : mg "_law_shows" = some (.ref fSh)) (kSh : PySem.W.keepIn K (.ref fSh) = true)
    (GDu : FnOk P w K mg base CX0 3 fDu fdDu ["_law_spots", "_law_tables", "_law_done", "_law_work"] (spSeenDue K)) (bDu : Binds K fdDu ["_law_spots", "_law_tables", "_law_done", "_law_work"] []) (gDu : mg "_law_seen_due" = some (.ref fDu)) (kDu : PySem.W.keepIn K (.ref fDu) = true)
    (GH : FnOk P w K mg base CX0 15 fH fdH nLHanded (spHanded K C)) (bH : Binds K fdH nLHanded []) (gH : mg "_law_handed_right" = some (.ref fH)) (kH : PySem.W.keepIn K (.ref fH) = true)
    (mr : mg "range" = none) (mR : mg "repr" = none) (mL : mg "list" = none) : FnG P w K mg base 18 f fd ["_law_pool_here"] (spRightT T) := by
  refine okG F scRight67 (fun vs H Q E h => ?_) (fun cdv A outer s H vs Q E hr hgd h => ?_)
  · obtain ⟨p, rfl, _⟩ := h
    rfl
  · obtain ⟨pl, rfl, po, tb, k⟩ := h
    have nd := scRight67.nd
    have hr1 : Room 1 _ := hr.mono (by omega)
    have hr3 : Room 3 _ := hr.mono (by omega)
    have hr7 : Room 7 _ := hr.mono (by omega)
    have hr10 : Room 10 _ := hr.mono (by omega)
    have hr12 : Room 12 _ := hr.mono (by omega)
    have hr14 : Room 14 _ := hr.mono (by omega)
    have hr15 : Room 15 _ := hr.mono (by omega)
    have hu : (A.deeper (envOfC "_law_right" (defScope sRight67) s.heap.objs.size f cdv)).units + 100 < cLine := by
      have := hr.un
      omega
    have hu0 : (A.deeper (envOfC "_law_right" (defScope sRight67) s.heap.objs.size f cdv)).units < cLine := by omega
    refine ⟨_, (pss_cons (ps_asg (pe_call GT hr3 (by rfl) gT kT bT .nil pass0 (pa_cons (pv 0) pa_nil)) (pg_tup (by rfl) (pgs_cons (pg_name (i := 1) nd rfl (.inl rfl)) (pgs_cons (pg_name (i := 2) nd rfl (.inl rfl)) pgs_nil)))) (pss_cons (ps_par3 (i := 3) (j := 4) (l := 5) (by rfl) nd rfl rfl rfl (by decide) (by decide) (by decide) rfl rfl rfl (pa_cons (pe_make M GI hr7 (by rfl) TC.gC bI .nil pass0 (pa_cons (pv 1) (pa_cons (pv 2) pa_nil))) (pa_cons (pe_make M GI hr7 (by rfl) TC.gC bI .nil pass0 (pa_cons (pv 1) (pa_cons (pv 2) pa_nil))) (pa_cons (pe_lst pa_nil) pa_nil))) (by rfl)) (pss_cons (ps_for PassesOwn.never rfl (pi_range1 (by rfl) mr (pa_cons (pe_op op_add pe_int (pe_call GD hr1 (by rfl) gD kD bD .nil pass0 (pa_cons (pv 0) (pa_cons pe_int pa_nil)))) pa_nil)) (pg_name (i := 6) nd rfl (.inl rfl)) (pss_cons (ps_asg (pe_call GS hr10 (by rfl) gS kS bS .nil pass0 (pa_cons (pv 0) (pa_cons (pv 1) (pa_cons (pv 2) (pa_cons pe_int pa_nil))))) (pg_tup (by rfl) (pgs_cons (pg_name (i := 7) nd rfl (.inl rfl)) (pgs_cons (pg_name (i := 8) nd rfl (.inl rfl)) pgs_nil)))) (pss_cons (ps_asg (pe_tup (pa_cons (pe_lst pa_nil) (pa_cons (pe_lst pa_nil) (pa_cons (pe_call GD hr1 (by rfl) gD kD bD .nil pass0 (pa_cons (pv 0) (pa_cons pe_int pa_nil))) (pa_cons (pe_callB (call_reprK (K := K) rfl hgd hu) (by rfl) mR (by decide +kernel) (pa_cons (pv 7) pa_nil)) pa_nil))))) (pg_tup (by rfl) (pgs_cons (pg_name (i := 9) nd rfl (.inl rfl)) (pgs_cons (pg_name (i := 10) nd rfl (.inl rfl)) (pgs_cons (pg_name (i := 11) nd rfl (.inl rfl)) (pgs_cons (pg_name (i := 12) nd rfl (.inl rfl)) pgs_nil)))))) (pss_cons (ps_set (i := 13) nd rfl (.inl rfl) (pe_call GL hr1 (by rfl) gL kL bL .nil pass0 (pa_cons (pv 3) (pa_cons (pv 4) (pa_cons (pv 7) (pa_cons (pv 9) (pa_cons (pv 10) pa_nil))))))) (pss_cons (ps_if (pt_cmpR op_lt (pv 11) pe_int (nomark _)) (pss_cons (ps_set (i := 14) nd rfl (.inl rfl) (pe_ifExp (pt_cmpR op_eq (pv 11) pe_int (nomark _)) (pe_methX (E := fun _ => E0) (pv 3) TC.cl mA GA hr14 bA dA (fun _ => pass67) (pa_cons (pv 7) pa_nil)) (pe_methN (E := E0) (pv 3) TC.cl mA GA hr14 k1 (fun _ => pass67) (pa_cons (pv 7) pa_nil) (pk_cons pe_non pk_nil)))) (pss_one (ps_expr (pe_methX (E := fun _ => E0) (pv 4) TC.cl mA GA hr14 bA dA (fun _ => pass67) (pa_cons (pv 7) pa_nil))))) (pss_one (ps_set (i := 14) nd rfl (.inl rfl) (pe_ifExp (pt_cmpR op_eq (pv 11) pe_int (nomark _)) (pe_methN0 (E := E0) (pv 3) TC.cl mA GW hr k2 (fun _ => pass67) (pk_cons (pv 13) (pk_cons (pv 7) pk_nil))) (pe_methN (E := E0) (pv 3) TC.cl mA GW hr k1 (fun _ => pass67) (pa_cons (pv 7) pa_nil) (pk_cons (pv 13) pk_nil)))))) (pss_cons (ps_if (PW.pt (pw_and (pt_cmpR op_gt (pv 11) pe_int (nomark _)) (pw_and1 (pt_cmpR op_ne (pe_callB (call_reprK (K := K) rfl hgd hu) (by rfl) mR (by decide +kernel) (pa_cons (pv 9) pa_nil)) (pe_callB (call_reprK (K := K) rfl hgd hu) (by rfl) mR (by decide +kernel) (pa_cons (pe_call GDu hr3 (by rfl) gDu kDu bDu .nil pass0 (pa_cons (pv 1) (pa_cons (pv 8) (pa_cons (pv 5) (pa_cons (pv 7) pa_nil))))) pa_nil)) (nomark _))))) (pss_one (ps_ret pe_bl)) pss_nil) (pss_cons (ps_set (i := 15) nd rfl (.inl rfl) (pe_ix ix_list (pe_slice sl_list (pe_op op_cat (pe_lst (pa_cons (pv 2) pa_nil)) (pv 8)) (po_some (pe_un un_neg pe_int)) po_none) pe_int (fun _ _ => rfl))) (pss_cons (ps_par (i := 2) (j := 5) (by rfl) nd rfl rfl (by decide) rfl rfl (pa_cons (pe_ix ix_list (pe_op op_cat (pe_lst (pa_cons (pv 2) pa_nil)) (pv 8)) (pe_un un_neg pe_int) (fun _ _ => rfl)) (pa_cons (pe_op op_cat (pv 5) (pe_callTy call_list_of (by rfl) mL (by decide +kernel) (pa_cons (pv 7) pa_nil))) pa_nil)) (by rfl)) (pss_cons (ps_if (PW.pt (pw_or (pt_cmpR op_notN (pv 14) pe_non (nomark _)) (pw_or (pt_cmpR op_ne (pe_callB (call_reprK (K := K) rfl hgd hu) (by rfl) mR (by decide +kernel) (pa_cons (pv 7) pa_nil)) (pv 12) (nomark _)) (pw_or1 (pt_not (pt_val (pe_callG GSh hr12 hgd (by rfl) gSh kSh bSh (pa_cons (pv 3) (pa_cons (pv 1) (pa_cons (pv 2) (pa_cons (pv 5) pa_nil))))))))))) (pss_one (ps_ret pe_bl)) pss_nil) (pss_cons (ps_if (PW.pt (pw_and (pt_cmpR (r := rNeNil) (op_neNil hu0) (pv 10) (pe_lst pa_nil) (nomark _)) (pw_and1 (pt_not (pt_val (pe_call GH hr15 (by rfl) gH kH bH .nil pass0 (pa_cons (pv 3) (pa_cons (pe_ix ix_list (pv 10) (pe_un un_neg pe_int) (fun _ _ => rfl)) (pa_cons (pv 15) (pa_cons (pv 5) pa_nil)))))))))) (pss_one (ps_ret pe_bl)) pss_nil) (pss_one (ps_if (PW.pt (pw_or (pt_not (pt_val (pe_callG GSh hr12 hgd (by rfl) gSh kSh bSh (pa_cons (pv 3) (pa_cons (pv 1) (pa_cons (pv 2) (pa_cons (pv 5) pa_nil))))))) (pw_or1 (pt_not (pt_val (pe_callG GSh hr12 hgd (by rfl) gSh kSh bSh (pa_cons (pv 4) (pa_cons (pv 1) (pa_cons (pv 2) (pa_cons (pv 5) pa_nil)))))))))) (pss_one (ps_ret pe_bl)) pss_nil)))))))))))) (pss_one (ps_ret (pe_and (pe_cmpR op_isN (pe_methX (E := fun _ => E0) (pv 3) TC.cl mA GA hr14 bA dA (fun _ => pass67) (pa_cons (pe_tup pa_nil) pa_nil)) pe_non (nomark _)) (pe_and (pe_cmpR op_isN (pe_methN0 (E := E0) (pv 3) TC.cl mA GA hr14 k3 (fun _ => pass67) (pk_cons (pe_tup pa_nil) pk_nil)) pe_non (nomark _)) (pe_one (pe_callG GSh hr12 hgd (by rfl) gSh kSh bSh (pa_cons (pv 3) (pa_cons (pv 1) (pa_cons (pv 2) (pa_cons (pv 5) pa_nil))))))))))))), ?_⟩
    refine ⟨_, rfl, pl, rfl, po, fun H1 TT p m cs vs k1 po1 hTT hp gd l24 hm v9 => ?_⟩
    refine ⟨TT, _, rfl, hTT, rfl, _, _, rfl, _, _, rfl, rfl, ?_⟩
    have tb1 := Tabs.keepX tb po k1
    refine ⟨_, rfl, _, rfl, fun a da na nda nea => ?_⟩
    refine ⟨a, p, m, da, cs, vs, rfl, upd_same, hp.t.same (same_mk67a na nda), gd, l24, same_seqT (same_mk67a na nda) hm, v9, fun H2 t ka S => ⟨rfl, ?_⟩⟩
    have s2 := same_mk67 na nda ka
    refine ⟨_, rfl, _, rfl, fun bm db nb ndb neb => ?_⟩
    refine ⟨bm, p, m, db, cs, vs, rfl, upd_same, (hp.same s2).t.same (same_mk67a nb ndb), gd, l24, same_seqT (same_mk67a nb ndb) (same_seqT s2 hm), v9, fun H3 t2 kb S2 => ⟨rfl, ?_⟩⟩
    have s3 := same_mk67 nb ndb kb
    obtain ⟨dx2, ha2⟩ := S.ob
    have nab : a ≠ bm := ne_of_none ha2 nb
    refine ⟨by show 0 ≤ sizeLine; decide, fun d nd' => ⟨_, _, _, rfl, ?_⟩⟩
    have sd := same_new (o := .lst []) nd'
    have hd : upd H3 d (.lst []) d = some (.lst []) := upd_same
    generalize upd H3 d (.lst []) = H4 at sd hd ⊢
    try dsimp only []
    have s34 := s3.trans sd
    have s14 := s2.trans s34
    have fr : ∀ {b : Addr}, H1 b = none → b ≠ pl ∧ H b = none := fun {b} n => by
      have np : b ≠ pl := fun z => by
        obtain ⟨x, y, zz, e, _⟩ := po1
        rw [z, e] at n
        cases n
      refine ⟨np, ?_⟩
      cases e : H b with
      | none => rfl
      | some o =>
        have := k1 _ _ np e
        rw [n] at this
        cases this
    have fbm := fr (s2.free nb)
    have fdd := fr ((s2.trans s3).free nd')
    have D0 : Dk67 K C T H H4 pl p a bm cs vs [] := ⟨(KeepN.of k1).trans (.of fun b o _ e => s14 _ _ e), Tabs.ext tb1 s14, po1.same s14, hp.same s14, ⟨m, t, S.same s34⟩, ⟨m, t2, S2.same sd⟩, nab, (fr na).2, fbm.2⟩
    refine ⟨_, rfl, pl, 4, rfl, D0.po, by decide, by decide, fun H6 r k6 po6 r0 r1 => ?_⟩
    refine ⟨_, _, rfl, rfl, ?_⟩
    have D6 := D0.pool k6 po6
    have hd6 := k6 _ _ fdd.1 hd
    have hm6 : SqT K H6 m (vs.map V.int) := (KN.of_pool D0.po k6).sq (same_seqT s14 hm)
    clear D0 S S2 s2 s3 sd s34 s14 ka kb k1 hp hm hTT
    refine ⟨1 + r, rfl, by omega, by omega, for_range (lo := 0) (n := (1 + r).toNat) (fun i σ G => ∃ (m d : Addr) (y6 y7 y8 y9 y10 y11 y12 y13 y14 y15 : Option V) (vs : List Int) (ps : List (Ed × List Int)) (ys : List V), σ = [some (.ref pl), some (.ref p), some (.ref m), some (.ref a), some (.ref bm), some (.ref d), y6, y7, y8, y9, y10, y11, y12, y13, y14, y15] ∧
      Dk67 K C T H G pl p a bm cs vs ps ∧ SqT K G m (vs.map V.int) ∧ d ≠ pl ∧ G d = some (.lst ys) ∧ EdsA K G cs ys (ps.map (·.1)) ∧ EdsB cs (ps.map (·.1)) ∧ Vals9 cs.length vs ∧ ps.length ≤ 8 * i) ?_ ?_ ?_⟩
    · exact ⟨m, d, none, none, none, none, none, none, none, none, none, none, vs, [], [], rfl, D6, hm6, fdd.1, hd6, .nil, (fun _ h => by cases h), v9, Nat.zero_le _⟩
    · rintro i σ G hi ⟨m, d, y6, y7, y8, y9, y10, y11, y12, y13, y14, y15, vs, ps, ys, rfl, D, hm, ndp, hd, hys, heb, v9, hl⟩
      have hi4 : i < 4 := by omega
      refine ⟨_, rfl, _, rfl, _, rfl, pl, p, m, cs, vs, rfl, D.po, D.pn, gd, l24, hm, v9, fun G1 TT wk tb ws ts es k1 po1 hTT hwk hws hok hee hel htb ntb hts => ?_⟩
      refine ⟨TT, _, rfl, hTT, rfl, _, _, rfl, _, _, rfl, rfl, ?_⟩
      have D1 := D.pool k1 po1
      have kn1 := KN.of_pool D.po k1
      have hd1 := k1 _ _ ndp hd
      have nbt : tb ≠ pl := fun z => by
        obtain ⟨x, y, zz, e, _⟩ := D.po
        rw [← z, ntb] at e
        cases e
      refine ⟨by show 0 ≤ sizeLine; decide, fun sn nsn => ?_⟩
      have s2 := same_new (o := .lst []) nsn
      have hsn : upd G1 sn (.lst []) sn = some (.lst []) := upd_same
      generalize upd G1 sn (.lst []) = G2 at s2 hsn ⊢
      refine ⟨by show 0 ≤ sizeLine; decide, fun hn nhn => ?_⟩
      have s3 := same_new (o := .lst []) nhn
      have hhn : upd G2 hn (.lst []) hn = some (.lst []) := upd_same
      have nn : sn ≠ hn := ne_of_none hsn nhn
      have hsn3 := s3 _ _ hsn
      generalize upd G2 hn (.lst []) = G3 at s3 hhn hsn3 ⊢
      have s13 := s2.trans s3
      have D3 := D1.same s13
      have npl : ∀ {b : Addr}, G1 b = none → b ≠ pl := fun {b} n z => by
        obtain ⟨x, y, zz, e, _⟩ := po1
        rw [← z, n] at e
        cases e
      have nsp := npl nsn
      have nhp := npl (s2.free nhn)
      refine ⟨_, rfl, pl, 5, rfl, D3.po, by decide, by decide, fun G4 wy k4 po4 r40 r41 => ?_⟩
      have D4 := D3.pool k4 po4
      have kn4 := KN.of_pool D3.po k4
      have kn14 := (KN.of_same s13).trans kn4
      have hws4 := EdsA.kn kn14 hws
      have hwk4 : G4 wk = some (.tup ws) := kn14 _ _ hwk rfl
      have rpW : Rp (.tuple (es.map (Ed.dat cs))) := (eds_she hee.sh).rp (by omega) (by omega)
      refine ⟨_, rfl, wk, _, rfl, .tup (SqT.of hwk4) hws4.dp, rpW, ?_⟩
      generalize hsh : (PyData.tuple (es.map (Ed.dat cs))).shown = shn
      refine ⟨by show 4 ≤ sizeLine; decide, fun T4 nT4 => ?_⟩
      have s5 := same_new (o := .tup [.ref sn, .ref hn, .int wy, .str shn]) nT4
      refine ⟨T4, _, rfl, SqT.of upd_same, rfl, _, _, rfl, _, _, rfl, _, _, rfl, _, _, rfl, rfl, ?_⟩
      generalize upd G4 T4 (.tup [.ref sn, .ref hn, .int wy, .str shn]) = G5 at s5 ⊢
      have D5 := D4.same s5
      refine ⟨_, rfl, _, rfl, _, rfl, _, rfl, _, rfl, [a, bm, wk, sn, hn], rfl, rfl, D5.tb, fun fw Fn G6 ⟨cl, c, eF⟩ eN tb6 nfw hC => ?_⟩
      subst eF
      have D6 := D5.ext eN tb6
      have kn56 : KN G5 G6 := fun b o e tp => eN b o e fun ps z => by
        rw [z] at tp
        cases tp
      have kn16 := (kn14.trans (.of_same s5)).trans kn56
      have kn06 := kn1.trans kn16
      have l6 : ∀ {b xs}, b ≠ pl → G3 b = some (.lst xs) → G6 b = some (.lst xs) := fun nb e => eN _ _ (s5 _ _ (k4 _ _ nb e)) fun ps z => by cases z
      have hsn6 := l6 nsp hsn3
      have hhn6 := l6 nhp hhn
      have htb6 := l6 nbt (s13 _ _ htb)
      have hd6 := l6 ndp (s13 _ _ hd1)
      have hwk6 : G6 wk = some (.tup ws) := kn56 _ _ (s5 _ _ hwk4) rfl
      have hws6 := EdsA.kn kn16 hws
      have hys6 := EdsA.kn kn06 hys
      have hts6 := TabsA.kn kn16 hts
      have hm6 := kn06.sq hm
      have ft : ∀ {b}, G1 b = none → ∀ o, H b = some o → ∃ ps, o = .tbl ps := fun {b} n o e => by
        cases o
        case tbl ps => exact ⟨ps, rfl⟩
        all_goals
          have := D1.kp _ _ (npl n) e (fun ps z => by cases z)
          rw [n] at this
          cases this
      have fsn := ft nsn
      have fhn := ft (s2.free nhn)
      obtain ⟨q, t, Sa⟩ := D6.sa
      obtain ⟨q2, t2, Sm⟩ := D6.sm
      obtain ⟨dx, ha⟩ := Sa.ob
      obtain ⟨dm, hbm⟩ := Sm.ob
      obtain ⟨nap, nbp⟩ := D6.npa
      have gl : ps.length ≤ 24 := by omega
      have far : ∀ z ∈ [a, bm, sn, hn], ∃ o, G6 z = some o ∧ isIL o = true := fun z hz => by
        have hz : z = a ∨ z = bm ∨ z = sn ∨ z = hn := by simpa using hz
        rcases hz with e | e | e | e
        · exact ⟨_, by rw [e]; exact ha, rfl⟩
        · exact ⟨_, by rw [e]; exact hbm, rfl⟩
        · exact ⟨_, by rw [e]; exact hsn6, rfl⟩
        · exact ⟨_, by rw [e]; exact hhn6, rfl⟩
      have far0 : ∀ z ∈ [a, bm, sn, hn], ∀ o, H z = some o → ∃ ps, o = .tbl ps := fun z hz o e => by
        have hz : z = a ∨ z = bm ∨ z = sn ∨ z = hn := by simpa using hz
        rcases hz with z' | z' | z' | z'
        · rw [z', D6.fa] at e
          cases e
        · rw [z', D6.fb] at e
          cases e
        · rw [z'] at e
          exact fsn o e
        · rw [z'] at e
          exact fhn o e
      have farp : pl ∉ [a, bm, sn, hn] := by simp [Ne.symm nap, Ne.symm nbp, Ne.symm nsp, Ne.symm nhp]
      have nsa : sn ≠ a := fun z => by
        rw [z, ha] at hsn6
        cases hsn6
      have nha : hn ≠ a := fun z => by
        rw [z, ha] at hhn6
        cases hhn6
      have nsm : sn ≠ bm := fun z => by
        rw [z, hbm] at hsn6
        cases hsn6
      have nhm : hn ≠ bm := fun z => by
        rw [z, hbm] at hhn6
        cases hhn6
      refine' cut67 (Pm := fun σ' G7 => ∃ (n : Nat) (Es : List V), σ' = [some (.ref pl), some (.ref p), some (.ref m), some (.ref a), some (.ref bm), some (.ref d), some (.int (0 + (i : Int))), some (.ref wk), some (.ref tb), some (.ref sn), some (.ref hn), some (.int wy), some (.str shn), some (.ref fw), some .non, y15] ∧ KD [a, bm, sn, hn] G6 G7 ∧ KN G6 G7 ∧ (∃ q t, ShP K C G7 a p q t false cs (behs cs vs es) (ps ++ hist cs vs es)) ∧ (∃ q t, ShP K C G7 bm p q t false cs (behs cs vs es) (ps ++ hist cs vs es)) ∧
        G7 sn = some (.lst Es) ∧ (1 < wy → SeenL K G7 Es cs vs (ps.map (·.1)) es es.length) ∧ G7 hn = some (.lst (List.replicate n (.ref a))) ∧ (n = 0 ∨ n = es.length)) (fun fin => ?_) ?_
      rotate_left
      · have hwk6' : SqT K G6 wk (ws ++ (none : Option V).toList) := by
          rw [show (none : Option V).toList = [] from rfl, List.append_nil]
          exact SqT.of hwk6
        refine ⟨_, rfl, _, _, rfl, rfl, _, rfl, ite2 (fun e0 => ?_) (fun e0 => ?_)⟩
        · -- without a watch
          refine ⟨_, rfl, rfl, _, rfl, ite2 (fun e1 => ?_) (fun e1 => ?_)⟩
          · refine ⟨_, rfl, a, dx, _, rfl, ha, shF_no (by decide +kernel) (by decide +kernel) (by decide +kernel) (by decide +kernel), _, rfl, a, p, q, t, wk, false, cs, vs, ps, ws, es, none, rfl, Sa, D6.pn, hwk6', hws6, hok, by omega, (fun _ z => nomatch z), (fun _ G7 q' t' kx S7 => ?_), (fun _ z => nomatch z)⟩
            have kn7 := KN.of_ins ha kx
            have hbm7 := kx _ _ (Ne.symm D6.ne) hbm
            have Sm7 := Sm.keep kn7 fun o e => kx _ _ (Ne.symm D6.ne) e
            refine ⟨_, rfl, bm, dm, _, rfl, hbm7, shF_no (by decide +kernel) (by decide +kernel) (by decide +kernel) (by decide +kernel), _, rfl, bm, p, q2, t2, wk, false, cs, vs, ps, ws, es, none, rfl, Sm7, D6.pn.kn kn7, kn7.sq hwk6', EdsA.kn kn7 hws6, hok, by omega, (fun _ z => nomatch z), (fun _ G8 q8 t8 kx8 S8 => ?_), (fun _ z => nomatch z)⟩
            have kn8 := KN.of_ins hbm7 kx8
            try dsimp only []
            refine fin _ _ ⟨0, [], rfl, (KD.mono (KD.ofX kx) (by simp)).trans (KD.mono (KD.ofX kx8) (by simp)), kn7.trans kn8, ⟨q', t', S7.keep kn8 fun o e => kx8 _ _ D6.ne e⟩, ⟨q8, t8, S8⟩, kx8 _ _ nsm (kx _ _ nsa hsn6), fun z => ?_, kx8 _ _ nhm (kx _ _ nha hhn6), .inl rfl⟩
            have := of_decide_eq_true e0
            omega
          · refine ⟨_, rfl, a, dx, _, rfl, ha, shF_no (by decide +kernel) (by decide +kernel) (by decide +kernel) (by decide +kernel), _, rfl, rfl, rfl, a, p, q, t, wk, false, cs, vs, ps, ws, es, none, rfl, Sa, D6.pn, hwk6', hws6, hok, by omega, (fun _ z => nomatch z), (fun _ G7 q' t' kx S7 => ?_), (fun _ z => nomatch z)⟩
            have kn7 := KN.of_ins ha kx
            have hbm7 := kx _ _ (Ne.symm D6.ne) hbm
            have Sm7 := Sm.keep kn7 fun o e => kx _ _ (Ne.symm D6.ne) e
            refine ⟨_, rfl, bm, dm, _, rfl, hbm7, shF_no (by decide +kernel) (by decide +kernel) (by decide +kernel) (by decide +kernel), _, rfl, bm, p, q2, t2, wk, false, cs, vs, ps, ws, es, none, rfl, Sm7, D6.pn.kn kn7, kn7.sq hwk6', EdsA.kn kn7 hws6, hok, by omega, (fun _ z => nomatch z), (fun _ G8 q8 t8 kx8 S8 => ?_), (fun _ z => nomatch z)⟩
            have kn8 := KN.of_ins hbm7 kx8
            try dsimp only []
            refine fin _ _ ⟨0, [], rfl, (KD.mono (KD.ofX kx) (by simp)).trans (KD.mono (KD.ofX kx8) (by simp)), kn7.trans kn8, ⟨q', t', S7.keep kn8 fun o e => kx8 _ _ D6.ne e⟩, ⟨q8, t8, S8⟩, kx8 _ _ nsm (kx _ _ nsa hsn6), fun z => ?_, kx8 _ _ nhm (kx _ _ nha hhn6), .inl rfl⟩
            have := of_decide_eq_true e0
            omega
        · -- with the watch
          refine ⟨_, rfl, rfl, _, rfl, ite2 (fun e1 => ?_) (fun e1 => ?_)⟩
          · exact ⟨_, rfl, a, dx, _, rfl, ha, shF_no (by decide +kernel) (by decide +kernel) (by decide +kernel) (by decide +kernel), _, rfl, _, rfl, rfl, rfl, watch_all Sa Sm D6.pn (SqT.of hwk6) hws6 hok hee hel gl D6.ne hsn6 hhn6 nn hC fun G7 q' t' q2' t2' Es kd kn S7 Sm7 h1 h2 h3 => fin _ _ ⟨es.length, Es, rfl, kd, kn, ⟨q', t', S7⟩, ⟨q2', t2', Sm7⟩, h1, fun _ => h2, h3, .inr rfl⟩⟩
          · exact ⟨_, rfl, a, dx, _, rfl, ha, shF_no (by decide +kernel) (by decide +kernel) (by decide +kernel) (by decide +kernel), _, rfl, _, rfl, rfl, rfl, watch_all Sa Sm D6.pn (SqT.of hwk6) hws6 hok hee hel gl D6.ne hsn6 hhn6 nn hC fun G7 q' t' q2' t2' Es kd kn S7 Sm7 h1 h2 h3 => fin _ _ ⟨es.length, Es, rfl, kd, kn, ⟨q', t', S7⟩, ⟨q2', t2', Sm7⟩, h1, fun _ => h2, h3, .inr rfl⟩⟩
      rintro σ' G7 ⟨n, Es, rfl, kd7, kn7, sa7, sm7, hsn7, hse7, hhn7, hn7⟩
      have D7 := D6.edit kd7 kn7 farp far far0 sa7 sm7
      have notin : ∀ {b : Addr} {o : HO} {xs : List V}, G1 b = some o → G6 b = some (.lst xs) → b ∉ [a, bm, sn, hn] := fun {b o xs} e1 e6 hb => by
        have hb : b = a ∨ b = bm ∨ b = sn ∨ b = hn := by simpa using hb
        rcases hb with z | z | z | z
        · rw [z, ha] at e6
          cases e6
        · rw [z, hbm] at e6
          cases e6
        · rw [z, nsn] at e1
          cases e1
        · rw [z, s2.free nhn] at e1
          cases e1
      have hd7 := kd7 _ _ (notin hd1 hd6) hd6
      have htb7 := kd7 _ _ (notin htb htb6) htb6
      have hm7 := kn7.sq hm6
      have hys7 := EdsA.kn kn7 hys6
      have hwk7 : G7 wk = some (.tup ws) := kn7 _ _ hwk6 rfl
      have hws7 := EdsA.kn kn7 hws6
      have hts7 := TabsA.kn kn7 hts6
      have gl2 : (ps.map (·.1)).length ≤ 24 := by
        rw [List.length_map]
        exact gl
      refine' cut67 (Pm := fun σ' G8 => σ' = [some (.ref pl), some (.ref p), some (.ref m), some (.ref a), some (.ref bm), some (.ref d), some (.int (0 + (i : Int))), some (.ref wk), some (.ref tb), some (.ref sn), some (.ref hn), some (.int wy), some (.str shn), some (.ref fw), some .non, y15] ∧ Same G7 G8) (fun fin => ?_) ?_
      rotate_left
      · refine ⟨_, rfl, _, _, rfl, rfl, _, rfl, ite2 (fun e0 => ?_) (fun e0 => ?_)⟩
        · have rp := seen_rp gd l24 v9 hok heb hee (by omega) hel
          refine ⟨_, rfl, sn, _, rfl, (hse7 (of_decide_eq_true e0)).dp hsn7, rp, _, rfl, _, rfl, _, rfl, _, rfl, p, tb, d, wk, cs, vs, ps.map (·.1), es, ts, ys, ws, rfl, D7.pn, gd, l24, v9, hok, htb7, hts7, hd7, hys7, SqT.of hwk7, hws7, hel, gl2, fun G8 F8 Es8 s8 hF8 hS8 => ?_⟩
          refine ⟨F8, _, rfl, hS8.dp hF8, rp, rfl, false, by rw [decide_eq_true rfl]; rfl, ?_⟩
          show tNext _ _ _
          unfold tNext
          exact fin _ _ ⟨rfl, s8⟩
        · show tNext _ _ _
          unfold tNext
          exact fin _ _ ⟨rfl, Same.refl _⟩
      rintro σ' G8 ⟨rfl, s8⟩
      have D8 := D7.same s8
      refine ⟨_, rfl, by show 1 ≤ sizeLine; decide, fun L nL => ?_⟩
      have sL := same_new (o := .lst [.ref m]) nL
      have hL : upd G8 L (.lst [.ref m]) L = some (.lst [.ref m]) := upd_same
      generalize upd G8 L (.lst [.ref m]) = G9 at sL hL ⊢
      have s79 := s8.trans sL
      have htl := Paired.length hts
      rw [tabl_len] at htl
      refine ⟨_, rfl, L, tb, _, _, rfl, rfl, hL, s79 _ _ htb7, by rw [sizeLine_eq]; show 1 + ts.length ≤ _; omega, fun L2 nL2 => ?_⟩
      have sL2 := same_new (o := .lst ([.ref m] ++ ts)) nL2
      have hL2 : upd G9 L2 (.lst ([.ref m] ++ ts)) L2 = some (.lst ([.ref m] ++ ts)) := upd_same
      generalize upd G9 L2 (.lst ([.ref m] ++ ts)) = GA at sL2 hL2 ⊢
      have s7A := s79.trans sL2
      refine ⟨_, rfl, _, rfl, ?_⟩
      dsimp only [tNoPart]
      refine ⟨L2, _, rfl, SqL.of hL2, fun p2 np2 => ?_⟩
      have sP := same_new (o := .lst (cutV ([.ref m] ++ ts) (some (-2)) none)) np2
      have hP : upd GA p2 (.lst (cutV ([.ref m] ++ ts) (some (-2)) none)) p2 = some (.lst (cutV ([.ref m] ++ ts) (some (-2)) none)) := upd_same
      generalize upd GA p2 (.lst (cutV ([.ref m] ++ ts) (some (-2)) none)) = GB at sP hP ⊢
      have s7B := s7A.trans sP
      obtain ⟨u0, hu0, sq0⟩ := tabs_at hm7 hts7 (j := es.length - 1) (by omega)
      obtain ⟨u1, hu1, sq1⟩ := tabs_at hm7 hts7 (j := es.length) (by omega)
      have hc0 : (cutV ([V.ref m] ++ ts) (some (-2)) none)[0]? = some (.ref u0) := by
        rw [cut_two (by simp), List.length_append]
        rw [show [V.ref m].length + ts.length - 2 = es.length - 1 by show 1 + ts.length - 2 = _; omega]
        exact hu0
      refine ⟨p2, _, 0, .ref u0, rfl, rfl, SqL.of hP, atI_nat (j := 0) hc0, ?_⟩
      refine ⟨_, rfl, by show 1 ≤ sizeLine; decide, fun L3 nL3 => ?_⟩
      have sL3 := same_new (o := .lst [.ref m]) nL3
      have hL3 : upd GB L3 (.lst [.ref m]) L3 = some (.lst [.ref m]) := upd_same
      generalize upd GB L3 (.lst [.ref m]) = GC at sL3 hL3 ⊢
      have s7C := s7B.trans sL3
      refine ⟨_, rfl, L3, tb, _, _, rfl, rfl, hL3, s7C _ _ htb7, by rw [sizeLine_eq]; show 1 + ts.length ≤ _; omega, fun L4 nL4 => ?_⟩
      have sL4 := same_new (o := .lst ([.ref m] ++ ts)) nL4
      have hL4 : upd GC L4 (.lst ([.ref m] ++ ts)) L4 = some (.lst ([.ref m] ++ ts)) := upd_same
      generalize upd GC L4 (.lst ([.ref m] ++ ts)) = GD' at sL4 hL4 ⊢
      have s7D := s7C.trans sL4
      have hla : ([V.ref m] ++ ts).getLast? = some (.ref u1) := by
        rw [List.getLast?_eq_getElem?, List.length_append]
        rw [show [V.ref m].length + ts.length - 1 = es.length by show 1 + ts.length - 1 = _; omega]
        exact hu1
      rw [List.take_length] at sq1
      refine ⟨_, rfl, L4, _, -1, .ref u1, rfl, rfl, SqL.of hL4, atI_last hla, ?_⟩
      refine ⟨_, rfl, _, rfl, wk, ws, rfl, .inr (SqT.of (s7D _ _ hwk7)), fun L5 nL5 => ?_⟩
      have sL5 := same_new (o := .lst ws) nL5
      have hL5 : upd GD' L5 (.lst ws) L5 = some (.lst ws) := upd_same
      generalize upd GD' L5 (.lst ws) = GE at sL5 hL5 ⊢
      have s7E := s7D.trans sL5
      have hyl := Paired.length hys
      have hwl := Paired.length hws
      rw [List.length_map] at hyl
      refine ⟨d, L5, _, _, rfl, rfl, s7E _ _ hd7, hL5, by rw [sizeLine_eq]; omega, fun d2 nd2 => ⟨_, _, rfl, ?_⟩⟩
      have sd2 := same_new (o := .lst (ys ++ ws)) nd2
      have hd2 : upd GE d2 (.lst (ys ++ ws)) d2 = some (.lst (ys ++ ws)) := upd_same
      have nd2p : d2 ≠ pl := fun z => by
        obtain ⟨x, y, zz, e1, _⟩ := D7.po.same s7E
        rw [z, e1] at nd2
        cases nd2
      have nd2a : d2 ≠ a := fun z => by
        obtain ⟨q, t, S⟩ := D7.sa
        obtain ⟨dx, e1⟩ := (S.same s7E).ob
        rw [z, e1] at nd2
        cases nd2
      generalize upd GE d2 (.lst (ys ++ ws)) = GF at sd2 hd2 ⊢
      try dsimp only []
      have s7F := s7E.trans sd2
      have DF := D7.same s7F
      have hmap : (ps ++ hist cs vs es).map (·.1) = ps.map (·.1) ++ es := by rw [List.map_append, hist_map]
      have hysF : EdsA K GF cs (ys ++ ws) ((ps ++ hist cs vs es).map (·.1)) := by
        rw [hmap]
        exact paired_append (EdsA.kn (.of_same s7F) hys7) (EdsA.kn (.of_same s7F) hws7)
      have hebF : EdsB cs ((ps ++ hist cs vs es).map (·.1)) := by
        rw [hmap]
        exact heb.app hee
      have hlF : (ps ++ hist cs vs es).length ≤ 32 := by
        rw [List.length_append, hist_len]
        omega
      refine ⟨_, rfl, rfl, false, rfl, ?_⟩
      obtain ⟨qF, tF, SF⟩ := DF.sa
      obtain ⟨q2F, t2F, SmF⟩ := DF.sm
      have v9F := behs9 v9 hok
      have hwkF : GF wk = some (.tup ws) := s7F _ _ hwk7
      refine ⟨_, rfl, wk, _, rfl, .tup (SqT.of hwkF) (EdsA.kn (.of_same s7F) hws7).dp, rpW, _, rfl, rfl, false, by rw [hsh, decide_eq_true rfl]; rfl, ?_⟩
      refine ⟨_, rfl, _, rfl, _, rfl, _, rfl, a, p, qF, tF, p, u1, d2, cs, behs cs vs es, ps ++ hist cs vs es, ys ++ ws, rfl, SF, DF.pn, DF.pn.t, same_seqT s7F sq1, hd2, hysF, hebF.sh, by omega, fun GG sG => ⟨true, rfl, ?_⟩⟩
      have s7G := s7F.trans sG
      have DG := DF.same sG
      have SG := SF.same sG
      have hhnG := s7G _ _ hhn7
      obtain ⟨dxG, haG⟩ := SG.ob
      refine' cut67 (Pm := fun σ' GJ => σ' = [some (.ref pl), some (.ref p), some (.ref u1), some (.ref a), some (.ref bm), some (.ref d2), some (.int (0 + (i : Int))), some (.ref wk), some (.ref tb), some (.ref sn), some (.ref hn), some (.int wy), some (.str shn), some (.ref fw), some .non, some (.ref u0)] ∧ KeepX a GG GJ ∧ ∃ q t, ShP K C GJ a p q t false cs (behs cs vs es) (ps ++ hist cs vs es)) (fun fin => ?_) ?_
      rotate_left
      · refine ⟨_, rfl, by show 0 ≤ sizeLine; decide, fun L6 nL6 => ?_⟩
        have s6' := same_new (o := .lst []) nL6
        have hL6 : upd GG L6 (.lst []) L6 = some (.lst []) := upd_same
        generalize upd GG L6 (.lst []) = GH at s6' hL6 ⊢
        refine ⟨hn, L6, _, rfl, rfl, s6' _ _ hhnG, hL6, ?_⟩
        rcases Nat.eq_zero_or_pos n with z | z
        · subst z
          refine ⟨false, rfl, ?_⟩
          show tNext _ _ _
          unfold tNext
          exact fin _ _ ⟨rfl, fun b o _ e => s6' _ _ e, qF, tF, SG.same s6'⟩
        · have en : n = es.length := by
            rcases hn7 with y | y
            · omega
            · exact y
          have hne : es ≠ [] := fun y => by
            rw [en, y] at z
            exact absurd z (Nat.lt_irrefl 0)
          obtain ⟨es0, e, he⟩ : ∃ es0 e, es = es0 ++ [e] := ⟨es.dropLast, es.getLast hne, (List.dropLast_concat_getLast hne).symm⟩
          have hb : behs cs vs es = e.beh cs (behs cs vs es0) := by rw [he, behs_snoc]
          have hh : ps ++ hist cs vs es = (ps ++ hist cs vs es0) ++ [(e, behs cs vs es0)] := by rw [he, hist_snoc67, List.append_assoc]
          have ok0 : EdsOk cs vs es0 ∧ e.ok cs.length (behs cs vs es0) := edsOk_last (by rw [← he]; exact hok)
          have tk0 : es.take (es.length - 1) = es0 := by
            rw [he, List.length_append]
            show (es0 ++ [e]).take (es0.length + 1 - 1) = es0
            rw [Nat.add_sub_cancel, List.take_left]
          have sq0' : SqT K GH u0 ((behs cs vs es0).map V.int) := by
            rw [← tk0]
            exact same_seqT (s7G.trans s6') sq0
          have SG' : ShP K C GH a p qF tF false cs (e.beh cs (behs cs vs es0)) ((ps ++ hist cs vs es0) ++ [(e, behs cs vs es0)]) := by
            rw [← hb, ← hh]
            exact SG.same s6'
          have hysG : EdsA K GH cs (ys ++ ws) (((ps ++ hist cs vs es0) ++ [(e, behs cs vs es0)]).map (·.1)) := by
            rw [← hh]
            exact EdsA.kn (.of_same (sG.trans s6')) hysF
          have hshG : EdsSh cs (((ps ++ hist cs vs es0) ++ [(e, behs cs vs es0)]).map (·.1)) := by
            rw [← hh]
            exact hebF.sh
          have hlG : (ps ++ hist cs vs es0).length ≤ 64 := by
            have := hlF
            rw [hh, List.length_append] at this
            omega
          have hla2 : (List.replicate n (V.ref a)).getLast? = some (.ref a) := by
            rw [List.getLast?_replicate, if_neg (by omega)]
          refine ⟨true, ?_, ?_⟩
          · rw [show (List.replicate n (V.ref a)).isEmpty = false by rw [List.isEmpty_replicate]; exact decide_eq_false (by omega)]
            rfl
          refine ⟨_, rfl, _, rfl, _, rfl, hn, _, -1, .ref a, rfl, rfl, SqL.of (s6' _ _ hhnG), atI_last hla2, _, rfl, _, rfl, a, p, qF, tF, u0, d2, cs, behs cs vs es0, ps ++ hist cs vs es0, e, ys ++ ws, rfl, SG', DG.pn.same s6', behs9 v9 ok0.1, ok0.2, sq0', (sG.trans s6') _ _ hd2, hysG, hshG, hlG, fun GJ qJ tJ kxJ SJ => ⟨true, rfl, ?_⟩⟩
          rw [← hb, ← hh] at SJ
          show tNext _ _ _
          unfold tNext
          exact fin _ _ ⟨rfl, fun b o n e => kxJ _ _ n (s6' _ _ e), qJ, tJ, SJ⟩
      rintro σ' GJ ⟨rfl, kxJ, qJ, tJ, SJ⟩
      have knJ := KN.of_ins haG kxJ
      obtain ⟨q2G, t2G, SmG⟩ := DG.sm
      have SmJ := SmG.keep knJ fun o e => kxJ _ _ (Ne.symm DG.ne) e
      have DJ := DG.edit (KD.ofX kxJ) knJ (by simp [Ne.symm nap]) (fun z hz => by rw [List.mem_singleton.mp hz]; exact ⟨_, haG, rfl⟩) (fun z hz o e => by rw [List.mem_singleton.mp hz, DG.fa] at e; cases e) ⟨qJ, tJ, SJ⟩ ⟨q2G, t2G, SmJ⟩
      have hd2J := kxJ _ _ nd2a (sG _ _ hd2)
      have hysJ := EdsA.kn ((KN.of_same sG).trans knJ) hysF
      have sqJ := knJ.sq (same_seqT s7G sq1)
      refine ⟨_, rfl, _, rfl, _, rfl, _, rfl, a, p, qJ, tJ, p, u1, d2, cs, behs cs vs es, ps ++ hist cs vs es, ys ++ ws, rfl, SJ, DJ.pn, DJ.pn.t, sqJ, hd2J, hysJ, hebF.sh, by omega, fun GK sK => ⟨true, rfl, ?_⟩⟩
      refine ⟨_, rfl, _, rfl, _, rfl, _, rfl, bm, p, q2G, t2G, p, u1, d2, cs, behs cs vs es, ps ++ hist cs vs es, ys ++ ws, rfl, SmJ.same sK, DJ.pn.same sK, (DJ.pn.same sK).t, same_seqT sK sqJ, sK _ _ hd2J, EdsA.kn (.of_same sK) hysJ, hebF.sh, by omega, fun GM sM => ⟨true, rfl, ?_⟩⟩
      have sKM := sK.trans sM
      refine ⟨u1, d2, _, _, _, _, _, _, _, _, _, _, behs cs vs es, ps ++ hist cs vs es, ys ++ ws, rfl, DJ.same sKM, same_seqT sKM sqJ, nd2p, sKM _ _ hd2J, EdsA.kn (.of_same sKM) hysJ, hebF, v9F, ?_⟩
      rw [List.length_append, hist_len]
      omega
    · rintro σ G ⟨m, d, y6, y7, y8, y9, y10, y11, y12, y13, y14, y15, vs, ps, ys, rfl, D, hm, ndp, hd, hys, heb, v9, hl⟩
      obtain ⟨q, t, S⟩ := D.sa
      obtain ⟨dx, ha⟩ := S.ob
      have hl2 : ps.length ≤ 32 := by omega
      refine ⟨_, rfl, a, dx, _, rfl, ha, shF_no (by decide +kernel) (by decide +kernel) (by decide +kernel) (by decide +kernel), by show 0 ≤ sizeLine; decide, fun g ng => ?_⟩
      have s1 := same_new (o := .tup []) ng
      have hg : upd G g (.tup []) g = some (.tup []) := upd_same
      generalize upd G g (.tup []) = G1 at s1 hg ⊢
      refine ⟨a, p, q, t, g, false, cs, vs, ps, [], [], none, rfl, S.same s1, D.pn.same s1, SqT.of hg, .nil, trivial, by show ps.length + 0 ≤ 1000; omega, fun _ z => (nomatch z), fun _ G2 q2 t2 kx2 S2 => ?_, fun _ z => (nomatch z)⟩
      have S2 : ShP K C G2 a p q2 t2 false cs vs ps := by
        have : ShP K C G2 a p q2 t2 false cs vs (ps ++ []) := S2
        rw [List.append_nil] at this
        exact this
      obtain ⟨dx2, ha2⟩ := S2.ob
      refine ⟨rfl, true, rfl, ?_⟩
      refine ⟨_, rfl, a, dx2, _, rfl, ha2, shF_no (by decide +kernel) (by decide +kernel) (by decide +kernel) (by decide +kernel), by show 0 ≤ sizeLine; decide, fun g3 ng3 => ?_⟩
      have s3 := same_new (o := .tup []) ng3
      have hg3 : upd G2 g3 (.tup []) g3 = some (.tup []) := upd_same
      generalize upd G2 g3 (.tup []) = G3 at s3 hg3 ⊢
      have k02 : KeepX a G G2 := fun b o n e => kx2 _ _ n (s1 _ _ e)
      have kn02 := KN.of_ins ha k02
      refine ⟨rfl, rfl, a, p, q2, t2, g3, false, cs, vs, ps, [], [], none, rfl, S2.same s3, (D.pn.kn kn02).same s3, SqT.of hg3, .nil, trivial, by show ps.length + 0 ≤ 1000; omega, fun _ z => (nomatch z), fun _ G4 q4 t4 kx4 S4 => ?_, fun _ z => (nomatch z)⟩
      have S4 : ShP K C G4 a p q4 t4 false cs vs ps := by
        have : ShP K C G4 a p q4 t4 false cs vs (ps ++ []) := S4
        rw [List.append_nil] at this
        exact this
      refine ⟨rfl, true, rfl, ?_⟩
      have k04 : KeepX a G G4 := fun b o n e => kx4 _ _ n (s3 _ _ (k02 _ _ n e))
      have kn04 := KN.of_ins ha k04
      obtain ⟨qm, tm, Sm⟩ := D.sm
      have nda : d ≠ a := fun z => by
        rw [z, ha] at hd
        cases hd
      have D4 := D.edit (KD.ofX k04) kn04 (by simp [Ne.symm D.npa.1]) (fun z hz => by rw [List.mem_singleton.mp hz]; exact ⟨_, ha, rfl⟩) (fun z hz o e => by rw [List.mem_singleton.mp hz, D.fa] at e; cases e) ⟨q4, t4, S4⟩ ⟨qm, tm, Sm.keep kn04 fun o e => k04 _ _ (Ne.symm D.ne) e⟩
      refine ⟨_, rfl, _, rfl, _, rfl, _, rfl, a, p, q4, t4, p, m, d, cs, vs, ps, ys, rfl, S4, D4.pn, D4.pn.t, kn04.sq hm, k04 _ _ nda hd, EdsA.kn kn04 hys, heb.sh, by omega, fun G5 s5 => ?_⟩
      have D5 := D4.same s5
      exact k G5 D5.kp D5.tb
end
end KS
namespace KS
open PySem PySem.Spec PyProof.Rows L2 LamX
abbrev sLaw : Stmt := topS 91
abbrev nLaw : List Str := ["_law_script", "_law_k"]
theorem scLaw : FnScope nLaw ["_law_script"] (defScope sLaw) := ⟨rfl, rfl, rfl, by decide +kernel, rfl, by decide +kernel, by decide +kernel⟩
section
variable {P : Program} {w : World} {K : PySem.W.Frag} {mg : Str → Option Value} {base : Heap}
theorem ok_law6T {T : List (Addr × Str)} {f fC fP fR : Addr} {fd fdC fdP fdR : FuncData} (F : Fun K "law" "law" sLaw f fd)
    (GC : FnOk P w K mg base CX0 1 fC fdC ["_law_script", "_law_k"] (spCell K)) (bC : Binds K fdC ["_law_script", "_law_k"] []) (gC : mg "_law_cell" = some (.ref fC)) (kC : PySem.W.keepIn K (.ref fC) = true)
    (GP : FnOk P w K mg base CX0 1 fP fdP ["_law_number"] spPool) (bP : Binds K fdP ["_law_number"] []) (gP : mg "_law_pool" = some (.ref fP)) (kP : PySem.W.keepIn K (.ref fP) = true)
    {nR : Nat} (GR : FnG P w K mg base (nR + 1) fR fdR ["_law_pool_here"] (spRightT T)) (bR : Binds K fdR ["_law_pool_here"] []) (gR : mg "_law_right" = some (.ref fR)) (kR : PySem.W.keepIn K (.ref fR) = true)
    (ma : mg "all" = none) (mr : mg "range" = none) (mx : mg "max" = none) (mn : mg "min" = none) (ml : mg "len" = none) : FnG P w K mg base (nR + 2) f fd ["_law_script"] (spLawT T K) := by
  refine okG F scLaw (fun vs H Q E h => ?_) (fun cdv A outer s H vs Q E hr hgd h => ?_)
  · obtain ⟨a, ns, rfl, _⟩ := h
    rfl
  · obtain ⟨a, ns, rfl, hS, hl, tG, q⟩ := h
    have nd := scLaw.nd
    have hr1 : Room 1 _ := hr.mono (by omega)
    refine ⟨_, pss_one (ps_ret (pe_callB (cr_all rfl) (by rfl) ma (by decide +kernel) (pa_cons
      (pe_lc (own := [("_law_k", 1)]) (g := gName 1) (tt := tYes) rfl nd (pi_range1 (by rfl) mr (pa_cons (pe_callB (call_max2 rfl) (by rfl) mx (by decide +kernel) (pa_cons pe_int (pa_cons (pe_callB (call_min2 rfl) (by rfl) mn (by decide +kernel)
          (pa_cons (pe_callB call_len_seq (by rfl) ml PySem.boot_len (pa_cons (pv 0) pa_nil)) (pa_cons pe_int pa_nil))) pa_nil))) pa_nil)) (blkOk_by (N := nLaw) (sc := defScope sLaw) (by decide +kernel))
        (fun _ _ _ _ _ => pg_name (i := 1) nd rfl (Or.inl rfl)) (fun _ _ _ _ _ => pts_nil)
        (fun _ _ _ _ _ => pe_callG GR hr hgd (by rfl) gR kR bR (pa_cons (pe_call GP hr1 (by rfl) gP kP bP .nil pass0 (pa_cons (pe_call GC hr1 (by rfl) gC kC bC .nil pass0 (pa_cons (pv 0) (pa_cons (pv 1) pa_nil))) pa_nil)) pa_nil))) pa_nil))), ?_⟩
    refine ⟨_, rfl, a, _, rfl, .inl hS, _, _, rfl, _, _, rfl, _, rfl, ?_, ?_, fun D nD => ?_⟩
    · split <;> split <;> omega
    · split <;> split <;> omega
    generalize hN : (if (if (6 : Int) < ((ns.map V.int).length : Int) then (6 : Int) else ((ns.map V.int).length : Int)) > 2 then (if (6 : Int) < ((ns.map V.int).length : Int) then (6 : Int) else ((ns.map V.int).length : Int)) else 2) = N
    have hNb : 0 ≤ N ∧ N ≤ 6 := by
      rw [← hN]
      split <;> split <;> omega
    refine lc_range (lo := 0) (n := N.toNat) (fun i H' => H' D = some (.lst ((List.replicate i true).map V.bl)) ∧ (∀ b o, b ≠ D → H b = some o → (∀ ps, o ≠ .tbl ps) → H' b = some o) ∧ Tabs T H') ?_ ?_ ?_
    · exact ⟨upd_same, fun b o n e _ => by rw [upd_ne n]; exact e, Tabs.ext tG (same_new nD)⟩
    · rintro i H' hi ⟨a1, a2, tH⟩
      have eD : ExtN H H' := fun b o e n => a2 b o (ne_of_none e nD) e n
      refine ⟨rfl, _, rfl, _, rfl, a, ns, i, by
        show [V.ref a, V.int (0 + (i : Int))] = _
        rw [Int.zero_add], SqL.ext hS eD, by omega, fun J1 n s1 => ⟨n, rfl, fun J2 p s2 np po => ⟨p, rfl, po, Tabs.ext tH (s1.trans s2), fun J3 kx t3 => ?_⟩⟩⟩
      have nDp : D ≠ p := ne_of_none (s1 _ _ a1) np
      have s12 := s1.trans s2
      have a3 := kx _ _ nDp (s12 _ _ a1) fun ps z => nomatch z
      refine ⟨_, a3, ?_, ?_, fun b o n e z => ?_, fun r hr => ?_⟩
      · rw [List.length_map, List.length_replicate]
        exact small64 (by omega)
      · rw [upd_same, List.replicate_succ', List.map_append]
        rfl
      · rw [upd_ne n]
        have e1 := a2 b o n e z
        exact kx _ _ (ne_of_none (s1 _ _ e1) np) (s12 _ _ e1) z
      · obtain ⟨ps, w1, w2, w3⟩ := t3 r hr
        refine ⟨ps, by rw [upd_ne (fun z => by rw [z, a3] at w1; cases w1)]; exact w1, w2, fun pos cv hcv => ?_⟩
        obtain ⟨c0, v1, v2⟩ := w3 pos cv hcv
        exact ⟨c0, v1, by rw [upd_ne (fun z => by rw [z, a3] at v2; cases v2)]; exact v2⟩
    · rintro H' ⟨a1, a2, tH⟩
      refine ⟨D, _, rfl, SqL.of a1, ?_⟩
      rw [show (List.replicate N.toNat true).all id = true by simp]
      exact q H'
end
end KS
/-! the end of a row whose law's promise knows of guards and of tables of code objects -/
namespace KS
open PySem PySem.Spec PyProof.Rows L2 LamX
/-- what the head knows of the makers: their tables stand there empty, apart from what is pinned -/
structure Makers (K : PySem.W.Frag) (h : Heap) (ms : List (Addr × Addr)) : Prop where
  emp : ∀ m ∈ ms, h.get? m.2 = some (PySem.W.tabObj #[])
  out : ∀ m ∈ ms, K.lookup m.2 = none
  hd : ∀ m ∈ ms, PySem.W.CodeHd h m.1 m.2
/-- the picture at the entry: the script's list, if it is not pinned, and the tables -/
def pic0 (ms : List (Addr × Addr)) (a : Addr) (pin : Bool) (us : List Value) (ns : List Int) : Hp := fun b =>
  if b ∈ ms.map (·.2) then some (.tbl #[]) else if b = a ∧ pin = false then some (.frz { cls := .type "list", data := .seq us.toArray } (.lst (ns.map V.int))) else none
theorem pic0_tab {ms : List (Addr × Addr)} {a : Addr} {pin : Bool} {us : List Value} {ns : List Int} {m : Addr × Addr} (h : m ∈ ms) : pic0 ms a pin us ns m.2 = some (.tbl #[]) := if_pos (List.mem_map.mpr ⟨m, h, rfl⟩)
theorem pic0_cases (ms : List (Addr × Addr)) (a : Addr) (pin : Bool) (us : List Value) (ns : List Int) (b : Addr) :
    (b ∈ ms.map (·.2) ∧ pic0 ms a pin us ns b = some (.tbl #[])) ∨ (b ∉ ms.map (·.2) ∧ b = a ∧ pin = false ∧ pic0 ms a pin us ns b = some (.frz { cls := .type "list", data := .seq us.toArray } (.lst (ns.map V.int)))) ∨ (b ∉ ms.map (·.2) ∧ pic0 ms a pin us ns b = none) := by
  by_cases h1 : b ∈ ms.map (·.2)
  · exact .inl ⟨h1, if_pos h1⟩
  · by_cases h2 : b = a ∧ pin = false
    · exact .inr (.inl ⟨h1, h2.1, h2.2, (if_neg h1).trans (if_pos h2)⟩)
    · exact .inr (.inr ⟨h1, (if_neg h1).trans (if_neg h2)⟩)
section
variable {P : Program} {w : World} {K : PySem.W.Frag} {mg mb : Str → Option Value} {k : Nat} {fa a : Addr} {fd : FuncData} {x : Str} {sp : Sp} {s1 : Shared} {us : List Value} {ns : List Int} {ms : List (Addr × Addr)}
/-- the law is called; what it promises is told over a picture that holds the tables -/
theorem law_callGT (kin : K.In s1.heap) (nsm : s1.heap.Ns mainGlobals mg) (nsb : s1.heap.Ns builtinsNs mb) (boot : ∀ y : Str, y ≠ "__name__" → mb y = bootBuiltins y) (nolim : s1.heap.NoLimit) (nogen : s1.gens = #[]) (M : Makers K s1.heap ms)
    (bmod : ∃ (bm : Addr) (ob : Obj), mg "__builtins__" = some (.ref bm) ∧ bm ≠ builtinsNs ∧ s1.heap.get? bm = some ob ∧ ob.cls = .type "module" ∧ ob.dict = some builtinsNs ∧ ob.data = .plain)
    (at_a : s1.heap.get? a = some { cls := .type "list", data := .seq us.toArray }) (hints : IntsAre us ns) (few : ns.length ≤ sizeLine) (room : Room k callerA)
    (F : ∀ base : Heap, K.In base → base.Ns mainGlobals mg → (∀ m ∈ ms, TabB base mg m.1 m.2) → FnG P w K mg base k fa fd [x] sp) (binds : ∀ (s : Shared) (u : Value), BindsTo s fd ⟨[u], []⟩ [(x, u)])
    (prom : ∀ H : Hp, (∀ m ∈ ms, H m.2 = some (.tbl #[])) → SqL K H a (ns.map V.int) → sp [.ref a] H (fun v _ => v = .bl true) fun _ _ _ => False) :
    codeAny (model P w) callerA (.call (.ref fa) ⟨[.ref a], []⟩) (fun r s' => r = .ok (.ret (.bool true)) ∧ OldK s1.heap s'.heap ∧ s'.os = s1.os ∧ AllBare s'.gens) s1 := by
  have vals := vals_ints hints
  have ulen := hints.length
  have tabAt : ∀ b : Addr, b ∈ ms.map (·.2) → s1.heap.get? b = some (PySem.W.tabObj #[]) ∧ K.lookup b = none := fun b hb => by
    obtain ⟨m, hm, rfl⟩ := List.mem_map.mp hb
    exact ⟨M.emp m hm, M.out m hm⟩
  have aNot : a ∉ ms.map (·.2) := fun z => by
    have e := (tabAt a z).1
    rw [at_a] at e
    cases congrArg Obj.data (Option.some.inj e)
  -- with or without the script in the picture
  obtain ⟨pin, hpin, sq⟩ : ∃ pin : Bool, (pin = false → K.lookup a = none) ∧ SqL K (pic0 ms a pin us ns) a (ns.map V.int) := by
    cases hk : K.lookup a with
    | some o =>
      have e := kin a o hk
      rw [at_a] at e
      cases e
      exact ⟨true, (fun z => by cases z), .inr ⟨_, us.toArray, _, hk, rfl, rfl, rfl, by rw [List.size_toArray, ulen]; exact few, by simpa using vals⟩⟩
    | none => exact ⟨false, fun _ => rfl, .inl (.inr ⟨_, (if_neg aNot).trans (if_pos ⟨rfl, rfl⟩)⟩)⟩
  have cases3 := pic0_cases ms a pin us ns
  have tabs0 : ∀ m ∈ ms, pic0 ms a pin us ns m.2 = some (.tbl #[]) := fun m hm => pic0_tab hm
  generalize hH : pic0 ms a pin us ns = H at sq cases3 tabs0
  have ok0 : HOk P w H s1.heap := fun b u e => by
    rcases cases3 b with ⟨h1, h2⟩ | ⟨_, rfl, _, h2⟩ | ⟨_, h2⟩
    · cases e.symm.trans h2
      exact (tabAt b h1).1
    · cases e.symm.trans h2
      exact ⟨at_a, by rw [List.length_map]; exact few, us, _, vals, at_a⟩
    · cases e.symm.trans h2
  -- what is no table and no list is not in the picture
  have plain : ∀ {b : Addr} {o : Obj}, s1.heap.get? b = some o → (∀ xs m, o.data ≠ .seq xs m) → (∀ ps : Array Value, ps.size = 0 → o.data ≠ .fields ps) → H b = none := fun {b o} e n1 n2 => by
    rcases cases3 b with ⟨h1, _⟩ | ⟨_, rfl, _, _⟩ | ⟨_, h2⟩
    · rw [(tabAt b h1).1] at e
      cases e
      exact absurd rfl (n2 #[] rfl)
    · rw [at_a] at e
      cases e
      exact absurd rfl (n1 _ _)
    · exact h2
  have seen : ∀ {b : Addr} {o : Obj}, s1.heap.get? b = some o → H b = none → (hidT s1.heap H).get? b = some o := fun e n => hidT_get e n
  have dicts : ∀ {b : Addr} {m : Str → Option Value}, s1.heap.Ns b m → (hidT s1.heap H).Ns b m := by
    rintro b m ⟨o, es, ep, e, d, r⟩
    exact ⟨o, es, ep, seen e (plain e (fun xs m z => by rw [d] at z; cases z) fun ps _ z => by rw [d] at z; cases z), d, r⟩
  have kinB : K.In (hidT s1.heap H) := fun b o e => seen (kin b o e) (by
    rcases cases3 b with ⟨h1, _⟩ | ⟨_, rfl, h3, _⟩ | ⟨_, h2⟩
    · rw [(tabAt b h1).2] at e
      cases e
    · rw [hpin h3] at e
      cases e
    · exact h2)
  have mods : Mod K mg (hidT s1.heap H) := by
    obtain ⟨mc, l1, l2⟩ := nolim
    exact ⟨kinB, dicts nsm, ⟨mb, dicts nsb, boot⟩, mc, dicts l1, l2⟩
  obtain ⟨og, eg, pg, hog, dog, _⟩ := id nsm
  have makers : ∀ m ∈ ms, TabB (hidT s1.heap H) mg m.1 m.2 := fun m hm => by
    refine ⟨?_, ?_, fun z => ?_⟩
    · obtain ⟨o, fs, file, tf, fl, tg, inF, text, tt, e1, r1, r2, r3, rr⟩ := M.hd m hm
      exact ⟨o, fs, file, tf, fl, tg, inF, text, tt, seen e1 (plain e1 (fun xs q z => by rw [r2] at z; cases z) fun ps hp z => by
        rw [r2] at z
        cases z
        rw [Array.getElem?_eq_none (by omega)] at r3
        cases r3), r1, r2, r3, rr⟩
    · obtain ⟨bm, ob, q1, q2, q3, q4, q5, q6⟩ := bmod
      refine ⟨bm, ob, q1, q2, fun z => ?_, fun z => ?_, seen q3 (plain q3 (fun xs q z => by rw [q6] at z; cases z) fun ps _ z => by rw [q6] at z; cases z), q4, q5, q6⟩
      · rw [z, hog] at q3
        cases q3
        rw [dog] at q6
        cases q6
      · rw [z, M.emp m hm] at q3
        cases q3
        cases q6
    · have e := M.emp m hm
      rw [← z, hog] at e
      cases e
      cases dog
  have env : Env0 P w K mg (hidT s1.heap H) callerA [] s1 H :=
    ⟨rfl, mods, fun _ _ e => of_hidT e, Nat.le_of_eq (hidT_size _ _), trivial, (fun b hb => by cases hb), ok0, .of_eq nogen⟩
  refine codeAny_mono ((F _ kinB (dicts nsm) makers).run callerA [] s1 H ⟨[.ref a], []⟩ [.ref a] [.ref a] _ _ room rfl env (binds s1 (.ref a)) (.cons rfl .nil) (prom H tabs0 sq)) fun r s' got => ?_
  match r, got with
  | .ok (.ret u), got =>
    obtain ⟨v, H', os, bare, un, okE, rv, rfl⟩ := got
    obtain rfl : u = Value.bool true := rv
    have stays : ∀ b o, b ∉ ms.map (·.2) → s1.heap.get? b = some o → s'.heap.get? b = some o := fun b o nb e => by
      rcases cases3 b with ⟨h1, _⟩ | ⟨_, rfl, _, h2⟩ | ⟨_, h2⟩
      · exact absurd h1 nb
      · have e2 := (okE b _ (un.frzs b _ _ h2)).1
        rw [at_a] at e
        cases e
        exact e2
      · exact un.keep b o e h2 (fun z => by cases z) (fun z => by cases z)
    have grew : ∀ m ∈ ms, ∃ ps : Array Value, s'.heap.get? m.2 = some (PySem.W.tabObj ps) := fun m hm => by
      obtain ⟨ps, z⟩ := un.tbls m.2 #[] (tabs0 m hm)
      exact ⟨_, okE m.2 _ z⟩
    refine ⟨rfl, ⟨fun b o e => ?_, fun b o e => ?_⟩, os, bare⟩
    · by_cases hb : b ∈ ms.map (·.2)
      · obtain ⟨m, hm, rfl⟩ := List.mem_map.mp hb
        obtain ⟨ps, hps⟩ := grew m hm
        rw [M.emp m hm] at e
        cases e
        refine .inr (.inl ⟨((M.hd m hm).tab (M.emp m hm)).isCodeTable, rfl, #[], ps, rfl, ?_⟩)
        rw [Array.empty_append]
        exact hps
      · exact .inl (stays b o hb e)
    · by_cases hb : b ∈ ms.map (·.2)
      · obtain ⟨m, hm, rfl⟩ := List.mem_map.mp hb
        obtain ⟨ps, hps⟩ := grew m hm
        exact ⟨_, hps⟩
      · exact ⟨o, stays b o hb e⟩
  | .ok .next, got => cases got
  | .ok .brk, got => cases got
  | .ok .cont, got => cases got
  | .error e, got => cases got
end
/-- what the head must show of the law -/
def LawHas (l : PySem.W.OpenLaw) (w : World) (K : PySem.W.Frag) (k n : Nat) (x : Str) (mg : Str → Option Value) (fa : Addr) (h : Heap) : Prop :=
  ∃ (fd : FuncData) (ms : List (Addr × Addr)) (sp : Sp), Makers K h ms ∧ (∀ (s : Shared) (u : Value), BindsTo s fd ⟨[u], []⟩ [(x, u)]) ∧
    (∀ (H : Hp) (a : Addr) (ns : List Int), ns.length ≤ n → (∀ m ∈ ms, H m.2 = some (.tbl #[])) → SqL K H a (ns.map V.int) → sp [.ref a] H (fun v _ => v = .bl true) fun _ _ _ => False) ∧
    ∀ base : Heap, K.In base → base.Ns mainGlobals mg → (∀ m ∈ ms, TabB base mg m.1 m.2) → FnG l.prog w K mg base k fa fd [x] sp
/-- THE END -/
theorem walk_ofGT {l : PySem.W.OpenLaw} {n k : Nat} {q : Program} {loose : List Str} {XP : (Str → Option Value) → Heap → Prop} {YP : World → Heap → Prop} {d : DefRec} {K : Params → PySem.W.Frag} {x : Str}
    (hn : l.most = some n) (hn2 : n ≤ sizeLine) (hdf : d.params.defaults = []) (hr : Room k callerA) (hY : ∀ (w : World) (h : Heap), YP w h → (K w.params).In h)
    (F : ∀ (w : World) (mg : Str → Option Value) (fa : Addr) (h : Heap), YP w h → h.Ns mainGlobals mg → mg d.name = some (.ref fa) → LawHas l w (K w.params) k n x mg fa h) :
    PySem.W.WalkO q loose XP YP l.row.toRowW d [] (fun f vs => PySem.call f vs) := by
  refine Att.attach_call hn hdf fun w s0 s1 mg mb fa o pm cd doc a us ns G Y ho hd hcd hmg hobj hints hlen hg => ?_
  obtain ⟨fd, ms, sp, hM, hb, hs, hF⟩ := F w mg fa _ Y G.T.g hmg
  exact law_callGT (hY w _ Y) G.T.g G.T.b G.T.builtins G.T.nolimit hg hM G.T.bmain hobj hints (Nat.le_trans hlen hn2) hr hF hb (fun H hT hS => hs H a ns hlen hT hS)
/-- the table of the code object at c, as its own record tells it -/
def tabOf (K : PySem.W.Frag) (c : Addr) : Addr := match K.lookup c with
  | some ⟨_, _, .fields vs, _⟩ => (match (vs[11]? : Option Value) with | some (.ref P) => P | _ => 0)
  | _ => 0
theorem tab_there {ts : List Addr} {h : Heap} {P : Addr} (hT : ∀ P ∈ ts, h.get? P = some (PySem.W.tabObj #[])) (e : ts.contains P = true) : h.get? P = some (PySem.W.tabObj #[]) := hT P (by simpa using e)
theorem out_of {K : PySem.W.Frag} {P : Addr} (e : (K.lookup P).isNone = true) : K.lookup P = none := by simpa using e
end KS
namespace KS
open PySem PySem.Spec PyProof.Rows L2
abbrev sValues : Stmt := topS 70
abbrev nValues : List Str := ["_law_pool_here", "_law_size", "_law_mode", "_law_left", "_law_step", "_law_found", "_law_turn", "_law_one"]
theorem scValues : FnScope nValues ["_law_pool_here", "_law_size"] (defScope sValues) := ⟨rfl, rfl, rfl, by decide +kernel, rfl, by decide +kernel, by decide +kernel⟩
section
variable {P : Program} {w : World} {K : PySem.W.Frag} {mg : Str → Option Value} {base : Heap}
theorem ok_values {f fD : Addr} {fd fdD : FuncData} (F : Fun K "_law_values" "_law_values" sValues f fd) (GD : FnOk P w K mg base CX0 1 fD fdD ["_law_pool_here", "_law_most"] spDraw)
    (bD : Binds K fdD ["_law_pool_here", "_law_most"] []) (gD : mg "_law_draw" = some (.ref fD)) (kD : PySem.W.keepIn K (.ref fD) = true)
    (mL : mg "list" = none) (mr : mg "range" = none) (ml : mg "len" = none) (mt : mg "tuple" = none) :
    FnOk P w K mg base CX0 2 f fd ["_law_pool_here", "_law_size"] (spValues K) := by
  refine F.ok scValues (fun vs H Q E h => ?_) (fun cdv A outer s H vs Q E hr h => ?_)
  · obtain ⟨p, m, rfl, _⟩ := h
    rfl
  · obtain ⟨p, n, rfl, po, n0, n1, q⟩ := h
    have nd := scValues.nd
    refine ⟨_, pss_cons (ps_par (i := 2) (j := 3) (by rfl) nd rfl rfl (by decide) rfl rfl
        (pa_cons (pe_call GD hr (by rfl) gD kD bD .nil pass0 (pa_cons (pv 0) (pa_cons pe_int pa_nil)))
          (pa_cons (pe_listRg rfl (by rfl) mL (prg_2 (by rfl) mr pe_int (pe_op op_add (pv 1) pe_int))) pa_nil)) (by rfl))
      (pss_cons (ps_if (pt_cmpR op_eq (pv 2) pe_int (nomark _)) (pss_one (ps_set (i := 3) nd rfl (.inl rfl) (pe_listRg rfl (by rfl) mL (prg_2 (by rfl) mr (pe_op op_sub pe_int (pv 1)) pe_int)))) pss_nil)
      (pss_cons (ps_if (pt_cmpR op_gt (pv 2) pe_int (nomark _)) (pss_cons (ps_set (i := 4) nd rfl (.inr rfl) (pe_op op_add pe_int (pe_call GD hr (by rfl) gD kD bD .nil pass0 (pa_cons (pv 0) (pa_cons (pe_op op_fdiv pe_int (pv 1)) pa_nil)))))
          (pss_one (ps_setLc (i := 3) (own := [("_law_one", 7)]) (g := gName 7) rfl nd rfl rfl (sw_true rfl rfl rfl (by decide +kernel))
            (pi_list (pv 3)) (blkOk_by (N := nValues) (sc := defScope sValues) (by decide +kernel))
            (fun _ _ _ _ _ => pg_name (i := 7) nd rfl (Or.inl rfl)) (fun _ _ _ _ _ => pts_nil) (fun _ _ _ _ _ => pe_op op_mul (pv 4) (pv 7))))) pss_nil)
      (pss_cons (ps_set (i := 5) nd rfl (.inl rfl) (pe_lst pa_nil))
      (pss_cons (ps_for PassesOwn.never rfl (pi_range1 (by rfl) mr (pa_cons (pv 1) pa_nil)) (pg_name (i := 6) nd rfl (.inl rfl))
        (pss_one (ps_expr (pe_bm PySem.F.plainAttrs_list PySem.F.slot_list_append PySem.F.type_list_append mt_append (pv 5)
          (pa_cons (pe_bm PySem.F.plainAttrs_list PySem.F.slot_list_pop PySem.F.type_list_pop mt_popAt (pv 3)
            (pa_cons (pe_call GD hr (by rfl) gD kD bD .nil pass0 (pa_cons (pv 0) (pa_cons (pe_callB call_len_seq (by rfl) ml PySem.boot_len (pa_cons (pv 3) pa_nil)) pa_nil))) pa_nil)) pa_nil)))))
      (pss_one (ps_ret (pe_callTy call_tuple_of (by rfl) mt (by decide +kernel) (pa_cons (pv 5) pa_nil)))))))), ?_⟩
    refine ⟨_, rfl, p, 4, rfl, po, by decide, by decide, fun H1 mode k1 po1 _ _ => ?_⟩
    refine ⟨_, rfl, _, _, rfl, rfl, _, _, rfl, rfl, ⟨by omega, by omega, by omega, by omega, by omega⟩, fun e ne => ?_⟩
    have s2 := same_new (o := .lst (rgV 1 ((n : Int) + 1))) ne
    refine ⟨_, _, rfl, vals_ifs (K := K) (p := p) (e := e) n0 n1 (k1.free po1 ne) (Ne.symm (po1.ne ne)) upd_same (k1.trans (.of_same s2)) (po1.same s2) ?_⟩
    rintro σ G ⟨e, y4, ls, rfl, he0, hep, he, v9, kx, po'⟩
    refine ⟨Nat.zero_le _, fun o no => ?_⟩
    have so := same_new (o := .lst []) no
    have neo : e ≠ o := ne_of_none he no
    have npo : p ≠ o := po'.ne no
    have ho0 : H o = none := kx.free po' no
    refine ⟨_, rfl, (n : Int), rfl, by omega, by omega, for_range (lo := 0) (n := n) (fun i σ G' => ∃ (y6 : Option V) (ls fs : List Int),
      σ = [some (.ref p), some (.int n), some (.int mode), some (.ref e), y4, some (.ref o), y6, none] ∧ KeepX p H G' ∧ PoolO (G' p) ∧ G' e = some (.lst (ls.map V.int)) ∧ G' o = some (.lst (fs.map V.int)) ∧
      fs.length = i ∧ Vals9 n (fs ++ ls)) ?_ ?_ ?_⟩
    · exact ⟨none, ls, [], rfl, kx.trans (.of_same so), po'.same so, so _ _ he, upd_same, rfl, v9⟩
    · rintro i σ G' hi ⟨y6, ls, fs, rfl, kx', po2, he', ho', fl, v9'⟩
      have hlen := v9'.len
      rw [List.length_append] at hlen
      have hll : (ls.map V.int).length = ls.length := List.length_map ..
      refine ⟨_, rfl, .inl ⟨rfl, _, SqL.of ho'⟩, _, rfl, .inl ⟨rfl, _, SqL.of he'⟩, _, rfl, _, rfl, e, _, rfl, .inl (SqL.of he'), p, _, rfl, po2, by omega, by omega, fun G5 r k5 po5 r0 r1 => ?_⟩
      have hlt : r.toNat < ls.length := by omega
      have he5 := k5 _ _ hep he'
      have ho5 := k5 _ _ (Ne.symm npo) ho'
      refine ⟨e, ls.map V.int, r, r.toNat, .int ls[r.toNat], rfl, rfl, he5, by omega, by omega, ?_, ?_, ?_⟩
      · unfold seqIndex?
        have e1 : ¬ r < 0 := by omega
        simp only [if_neg e1]
        rw [if_pos]
        simp only [Bool.and_eq_true, decide_eq_true_eq]
        exact ⟨r0, r1⟩
      · rw [List.getElem?_map, List.getElem?_eq_getElem hlt]
        rfl
      · refine ⟨o, fs.map V.int, _, rfl, rfl, by rw [upd_ne (Ne.symm neo)]; exact ho5, ?_, ?_⟩
        · rw [List.length_map]
          exact small64 (by omega)
        · refine ⟨_, ls.eraseIdx r.toNat, fs ++ [ls[r.toNat]], rfl, ?_, ?_, ?_, ?_, ?_, ?_⟩
          · intro b u nb z
            rw [upd_ne (ne_of_none z ho0), upd_ne (ne_of_none z he0)]
            exact k5 _ _ nb (kx' _ _ nb z)
          · rw [upd_ne npo, upd_ne (Ne.symm hep)]
            exact po5
          · rw [upd_ne neo, upd_same, map_eraseIdx]
          · rw [upd_same, List.map_append]
            rfl
          · rw [List.length_append, fl]
            rfl
          · exact v9'.perm (pick_perm hlt)
    · rintro σ G' ⟨y6, ls, fs, rfl, kx', po2, he', ho', fl, v9'⟩
      have hlen := v9'.len
      rw [List.length_append] at hlen
      have e0 : ls = [] := List.eq_nil_of_length_eq_zero (by omega)
      subst e0
      rw [List.append_nil] at v9'
      refine ⟨_, rfl, o, _, rfl, .inl ⟨SqL.of ho', fun l nl => ?_⟩⟩
      have sl := same_new (o := .tup (fs.map V.int)) nl
      exact q _ l fs (kx'.trans (.of_same sl)) (po2.same sl) (SqT.of upd_same) v9' (kx'.free po2 nl)
end
end KS
namespace KS
open PySem PySem.Spec PyProof.Rows L2
def LstN (H H' : Hp) (x : V) (l : List Int) : Prop := ∃ t, x = .ref t ∧ H' t = some (.lst (l.map V.int)) ∧ H t = none
/-- the law's own lines: new lists -/
def spLawLinesN (K : PySem.W.Frag) : Sp := fun vs H Q _ => ∃ (a : Addr) (b : Bool) (cs : List Cell), vs = [.ref a, .str (if b = true then "C" else "R")] ∧ PlanAt K H a cs ∧ cs.length ≤ 24 ∧
  ∀ H' p xs, Same H H' → H' p = some (.lst xs) → H p = none → Paired (LstN H H') xs (lnsOf b cs) → Q (.ref p) H'
abbrev sLawLines : Stmt := topS 72
abbrev nLawLines : List Str := ["_law_spots", "_law_sort", "_law_at", "_law_found", "_law_side", "_law_strip", "_law_k"]
theorem scLawLines : FnScope nLawLines ["_law_spots", "_law_sort"] (defScope sLawLines) := ⟨rfl, rfl, rfl, by decide +kernel, rfl, by decide +kernel, by decide +kernel⟩
section
variable {P : Program} {w : World} {K : PySem.W.Frag} {mg : Str → Option Value} {base : Heap}
theorem ok_lawLinesN {f : Addr} {fd : FuncData} (F : Fun K "_law_lines" "_law_lines" sLawLines f fd) (mI : mg "int" = none) (mr : mg "range" = none) (ml : mg "len" = none) : FnOk P w K mg base CX0 1 f fd ["_law_spots", "_law_sort"] (spLawLinesN K) := by
  refine F.ok scLawLines (fun vs H Q E h => ?_) (fun cdv A outer s H vs Q E hr h => ?_)
  · obtain ⟨a, b, cs, rfl, _⟩ := h
    rfl
  · obtain ⟨a, b, cs, rfl, ⟨xs, hx, hc⟩, hl, q⟩ := h
    have nd := scLawLines.nd
    refine ⟨_, pss_cons (ps_set (i := 2) nd rfl (.inr rfl) (pe_callTy call_int1 (by rfl) mI (by decide +kernel) (pa_cons (pe_cmpR op_eq (pv 1) pe_str (nomark _)) pa_nil)))
      (pss_cons (ps_set (i := 3) nd rfl (.inl rfl) (pe_lst pa_nil))
      (pss_cons (ps_for PassesOwn.never rfl (pi_range1 (by rfl) mr (pa_cons pe_int pa_nil)) (pg_name (i := 4) nd rfl (.inr rfl))
        (pss_cons (ps_setLc (i := 5) (own := [("_law_k", 6)]) (g := gName 6) rfl nd rfl rfl (sw_true rfl rfl rfl (by decide +kernel))
            (pi_range1 (by rfl) mr (pa_cons (pe_callB call_len_seq (by rfl) ml PySem.boot_len (pa_cons (pv 0) pa_nil)) pa_nil)) (blkOk_by (N := nLawLines) (sc := defScope sLawLines) (by decide +kernel))
            (fun _ _ _ _ _ => pg_name (i := 6) nd rfl (Or.inl rfl))
            (fun _ _ _ _ _ => pts_one (pt_cmpR op_eq (pe_ix (r := rIxT K) ix_tup (pe_ix (r := rIxT K) ix_tup (pv 0) (pv 6) (fun _ _ => rfl)) (pv 2) (fun _ _ => rfl)) (pv 4) (nomark _))) (fun _ _ _ _ _ => pv 6))
        (pss_one (ps_if (pt_cmpR (op_neD hr.units) (pv 5) (pe_lst pa_nil) (nomark _))
          (pss_one (ps_expr (pe_bm PySem.F.plainAttrs_list PySem.F.slot_list_append PySem.F.type_list_append mt_append (pv 3) (pa_cons (pv 5) pa_nil)))) pss_nil))))
      (pss_one (ps_ret (pv 3))))), ?_⟩
    refine ⟨_, rfl, by cases b <;> rfl, .inr ⟨_, rfl, ?_⟩⟩
    rw [kind_test]
    refine ⟨Nat.zero_le _, fun o no => ?_⟩
    have s1 := same_new (o := .lst []) no
    have hlen := Paired.length hc
    refine ⟨8, rfl, by decide, by decide, for_range (lo := 0) (n := 8) (fun i σ H' => ∃ (y4 y5 : Option V) (fs : List V),
      σ = [some (.ref a), some (.str (if b = true then "C" else "R")), some (.int (if b = true then 1 else 0)), some (.ref o), y4, y5, none] ∧ Same H H' ∧ H' o = some (.lst fs) ∧
      Paired (fun x l => ∃ t, x = .ref t ∧ H' t = some (.lst (l.map V.int)) ∧ t ≠ o ∧ H t = none) fs (lnsTo b cs i)) ?_ ?_ ?_⟩
    · exact ⟨none, none, [], rfl, s1, upd_same, .nil⟩
    · rintro i σ H' hi ⟨y4, y5, fs, rfl, sm, ho, hp⟩
      refine ⟨_, rfl, a, xs, rfl, .inr (same_seqT sm hx), _, rfl, by omega, by omega, fun D nD => ?_⟩
      have noD : o ≠ D := ne_of_none ho nD
      refine lc_range (lo := 0) (n := xs.length) (fun j H2 => H2 D = some (.lst ((idxs b cs j (i : Int)).map V.int)) ∧ (∀ q u, q ≠ D → H' q = some u → H2 q = some u)) ?_ ?_ ?_
      · exact ⟨upd_same, fun q u n e => by rw [upd_ne n]; exact e⟩
      · rintro j H2 hj ⟨a1, a2⟩
        have sD : Same H' H2 := fun q u e => a2 q u (ne_of_none e nD) e
        obtain ⟨c, hcj, tt, ett, ht⟩ := paired_get hc (List.getElem?_eq_getElem hj)
        have gx : xs[j]? = some (.ref tt) := by rw [List.getElem?_eq_getElem hj, ett]
        have hal : ((idxs b cs j (i : Int)).map V.int).length < sizeLine := by
          rw [List.length_map]
          have := idxs_len b cs j (i : Int)
          exact small64 (by omega)
        refine ⟨rfl, _, rfl, _, rfl, a, xs, _, .ref tt, rfl, rfl, same_seqT (sm.trans sD) hx, ?_, _, rfl, tt, _, _, _, rfl, rfl, same_seqT (sm.trans sD) ht, at_pick, _, rfl, rfl, _, rfl, ite2 (fun e => ?_) (fun e => ?_)⟩
        · show atI xs (0 + (j : Int)) = _
          rw [Int.zero_add]
          exact atI_nat gx
        · have e' : pick b c = 0 + (i : Int) := V.int.inj (of_decide_eq_true e)
          rw [Int.zero_add] at e'
          refine ⟨_, rfl, _, a1, hal, ?_, fun q u n z => ?_⟩
          · rw [upd_same, ← e', idxs_hit hcj, List.map_append, Int.zero_add]
            rfl
          · rw [upd_ne n]
            exact a2 q u n z
        · have e' : pick b c ≠ (i : Int) := fun z => e (decide_eq_true (by rw [z, Int.zero_add]))
          refine ⟨?_, a2⟩
          rw [idxs_miss hcj e']
          exact a1
      · rintro H2 ⟨a1, a2⟩
        have sD : Same H' H2 := fun q u e => a2 q u (ne_of_none e nD) e
        rw [hlen] at a1
        have hp2 : Paired (fun x l => ∃ t, x = .ref t ∧ H2 t = some (.lst (l.map V.int)) ∧ t ≠ o ∧ H t = none) fs (lnsTo b cs i) := Paired.mono (fun _ _ ⟨t, e1, e2, e3⟩ => ⟨t, e1, sD _ _ e2, e3⟩) hp
        refine ⟨_, rfl, Nat.zero_le _, fun z nz => ?_⟩
        have sz := same_new (o := .lst []) nz
        have hp3 : Paired (fun x l => ∃ t, x = .ref t ∧ upd H2 z (.lst []) t = some (.lst (l.map V.int)) ∧ t ≠ o ∧ H t = none) fs (lnsTo b cs i) := Paired.mono (fun _ _ ⟨t, e1, e2, e3⟩ => ⟨t, e1, sz _ _ e2, e3⟩) hp2
        have ho3 := sz _ _ (sD _ _ ho)
        have a1' := sz _ _ a1
        refine ⟨_, _, .lst (SqL.of a1') (dp_ints _), .lst (SqL.of upd_same) .nil, ints_shaped _, by decide, _, rfl, ?_⟩
        rw [ints_eqv_nil]
        have hfl : fs.length ≤ 8 := by
          rw [Paired.length hp]
          have := lnsTo_len b cs i
          omega
        have sall := (sm.trans sD).trans sz
        cases el : idxs b cs cs.length (i : Int) with
        | nil =>
          refine ⟨_, _, fs, rfl, sall, ho3, ?_⟩
          rw [lnsTo_miss el]
          exact hp3
        | cons y l =>
          have hne : idxs b cs cs.length (i : Int) ≠ [] := by
            rw [el]
            simp
          refine ⟨_, rfl, .inl ⟨rfl, _, SqL.of ho3⟩, _, rfl, o, fs, _, rfl, rfl, ho3, small64 (by omega), ?_⟩
          refine ⟨_, _, fs ++ [.ref D], rfl, fun q u e => ?_, upd_same, ?_⟩
          · rw [upd_ne (ne_of_none e no)]
            exact sall _ _ e
          · rw [lnsTo_hit hne]
            refine paired_append (Paired.mono (fun _ _ ⟨t, e1, e2, e3⟩ => ⟨t, e1, by rw [upd_ne e3.1]; exact e2, e3⟩) hp3) (.cons ⟨D, rfl, ?_, Ne.symm noD, sm.free nD⟩ .nil)
            rw [upd_ne (Ne.symm noD)]
            exact a1'
    · rintro σ H' ⟨y4, y5, fs, rfl, sm, ho, hp⟩
      refine ⟨_, rfl, q H' o fs sm ho no ?_⟩
      exact Paired.mono (fun _ _ ⟨t, e1, e2, e3, e4⟩ => ⟨t, e1, e2, e4⟩) hp
end
end KS
namespace KS
open PySem PySem.Spec PyProof.Rows L2 RZ
abbrev sSorted : Stmt := topS 73
abbrev nSorted : List Str := ["_law_spots", "_law_some_here", "_law_sort", "_law_found", "_law_strip", "_law_at", "_law_one", "_law_k"]
theorem scSorted : FnScope nSorted ["_law_spots", "_law_some_here", "_law_sort"] (defScope sSorted) := ⟨rfl, rfl, rfl, by decide +kernel, rfl, by decide +kernel, by decide +kernel⟩
section
variable {P : Program} {w : World} {K : PySem.W.Frag} {mg : Str → Option Value} {base : Heap}
theorem ok_lsorted {f fL : Addr} {fd fdL : FuncData} (F : Fun K "_law_sorted" "_law_sorted" sSorted f fd) (GL : FnOk P w K mg base CX0 1 fL fdL ["_law_spots", "_law_sort"] (spLawLinesN K))
    (bL : Binds K fdL ["_law_spots", "_law_sort"] []) (gL : mg "_law_lines" = some (.ref fL)) (kL : PySem.W.keepIn K (.ref fL) = true)
    (mL : mg "list" = none) (mz : mg "zip" = none) (ms : mg "sorted" = none) (mt : mg "tuple" = none) :
    FnOk P w K mg base CX0 2 f fd ["_law_spots", "_law_some_here", "_law_sort"] (spLSorted K) := by
  refine F.ok scSorted (fun vs H Q E h => ?_) (fun cdv A outer s H vs Q E hr h => ?_)
  · obtain ⟨a, t, b, cs, vs, rfl, _⟩ := h
    rfl
  · obtain ⟨a, t, b, cs, vs, rfl, hp, hl, ht, hv, q⟩ := h
    have nd := scSorted.nd
    refine ⟨_, pss_cons (ps_set (i := 3) nd rfl (.inl rfl) (pe_callTy call_list_of (by rfl) mL (by decide +kernel) (pa_cons (pv 1) pa_nil)))
      (pss_cons (ps_for PassesOwn.never rfl (pi_list (pe_call GL hr (by rfl) gL kL bL .nil pass0 (pa_cons (pv 0) (pa_cons (pv 2) pa_nil)))) (pg_name (i := 4) nd rfl (.inl rfl))
        (pss_one (ps_for PassesOwn.never rfl (pi_zip (by rfl) mz (pa_cons (pv 4) (pa_cons (pe_callB cr_sortedI (by rfl) ms (by decide +kernel) (pa_cons
            (pe_lc (own := [("_law_k", 7)]) (g := gName 7) (tt := tYes) rfl nd (pi_list (pv 4)) (blkOk_by (N := nSorted) (sc := defScope sSorted) (by decide +kernel))
              (fun _ _ _ _ _ => pg_name (i := 7) nd rfl (Or.inl rfl)) (fun _ _ _ _ _ => pts_nil) (fun _ _ _ _ _ => pe_ix (r := rIxT K) ix_tup (pv 1) (pv 7) (fun _ _ => rfl))) pa_nil)) pa_nil)))
          (pg_tup (by rfl) (pgs_cons (pg_name (i := 5) nd rfl (.inl rfl)) (pgs_cons (pg_name (i := 6) nd rfl (.inl rfl)) pgs_nil)))
          (pss_one (ps_asg (pv 6) (pg_sub (pv 3) (pv 5) set_list))))))
      (pss_one (ps_ret (pe_callTy call_tuple_of (by rfl) mt (by decide +kernel) (pa_cons (pv 3) pa_nil))))), ?_⟩
    refine ⟨_, rfl, t, _, rfl, .inr ht, fun o no => ?_⟩
    have so := same_new (o := .lst (vs.map V.int)) no
    refine ⟨_, rfl, _, rfl, a, b, cs, rfl, hp.kt (.of_same so), hl, fun H1 p xs s1 hp1 np hx => ?_⟩
    have npo : p ≠ o := Ne.symm (ne_of_none (H := upd H o (.lst (vs.map V.int))) upd_same np)
    refine ⟨p, rfl, ⟨_, SqL.of hp1⟩, for_list (K := K) (a := p) (xs := xs) (fun i σ H' => ∃ (y4 y5 y6 : Option V), σ = [some (.ref a), some (.ref t), some (.str (if b = true then "C" else "R")), some (.ref o), y4, y5, y6, none] ∧
      (∀ c u, c ≠ o → H1 c = some u → H' c = some u) ∧ H' o = some (.lst ((srtTo vs ((lnsOf b cs).take i)).map V.int))) ?_ ?_ ?_ ?_⟩
    · exact ⟨none, none, none, rfl, fun c u _ e => e, s1 _ _ upd_same⟩
    · rintro i σ H' _ ⟨y4, y5, y6, rfl, k', ho⟩
      exact SqL.of (k' _ _ npo hp1)
    · rintro i x σ H' hi ⟨y4, y5, y6, rfl, k', ho⟩
      obtain ⟨l, hli, t', rfl, hl', hn'⟩ := paired_get hx hi
      have nto : t' ≠ o := Ne.symm (ne_of_none (H := upd H o (.lst (vs.map V.int))) upd_same hn')
      have sm : Same H H' := fun c u e => k' c u (ne_of_none e no) (s1 c u (so c u e))
      have hlt := k' _ _ nto hl'
      have hm := lns_mem (List.mem_of_getElem? hli)
      refine ⟨_, rfl, _, rfl, t', rfl, ⟨_, SqL.of hlt⟩, fun D nD => ?_⟩
      have ntD : t' ≠ D := ne_of_none hlt nD
      have noD : o ≠ D := ne_of_none ho nD
      refine lc_list (K := K) (a := t') (xs := l.map V.int) (fun j G => G = upd H' D (.lst (((l.take j).map (getI vs)).map V.int))) ?_ ?_ ?_ ?_
      · rfl
      · rintro j G _ rfl
        exact SqL.of (by rw [upd_ne ntD]; exact hlt)
      · rintro j x G hj rfl
        rw [List.getElem?_map] at hj
        cases ev : l[j]? with
        | none =>
          rw [ev] at hj
          cases hj
        | some k =>
          rw [ev] at hj
          cases hj
          obtain ⟨j', rfl, hj'⟩ := hm.1 k (List.mem_of_getElem? ev)
          refine ⟨rfl, _, rfl, _, rfl, t, _, _, .int (getI vs (j' : Int)), rfl, rfl, same_seqT (sm.trans (same_new nD)) ht, atI_nat (getI_at (by omega)), _, upd_same, ?_, ?_⟩
          · rw [List.length_map, List.length_map, List.length_take]
            exact small64 (by omega)
          · rw [upd_upd, List.take_add_one, ev, List.map_append, List.map_append]
            rfl
      · rintro G rfl
        rw [List.length_map, List.take_length]
        refine ⟨D, _, rfl, SqL.of upd_same, fun ys P' perm asc nP => ?_⟩
        have ey := sortI_eq perm asc
        have yl : ys.length = l.length := by
          rw [perm.length_eq, List.length_map]
        have ntP : t' ≠ P' := fun e => by
          rw [← e, upd_ne ntD, hlt] at nP
          cases nP
        have noP : o ≠ P' := fun e => by
          rw [← e, upd_ne noD, ho] at nP
          cases nP
        have sP := (same_new (o := .lst ((l.map (getI vs)).map V.int)) nD).trans (same_new (o := .lst (ys.map V.int)) nP)
        generalize hG : upd (upd H' D (.lst ((l.map (getI vs)).map V.int))) P' (.lst (ys.map V.int)) = G0 at sP
        have hP0 : G0 P' = some (.lst (ys.map V.int)) := by rw [← hG, upd_same]
        refine ⟨t', P', _, _, rfl, SqL.of (sP _ _ hlt), SqL.of hP0, for_zipL (K := K) (a := t') (b := P') (xs := l.map V.int) (ys := ys.map V.int) (by rw [List.length_map, List.length_map, yl])
          (fun j σ G => ∃ (y5 y6 : Option V), σ = [some (.ref a), some (.ref t), some (.str (if b = true then "C" else "R")), some (.ref o), some (.ref t'), y5, y6, none] ∧
            (∀ c u, c ≠ o → G0 c = some u → G c = some u) ∧ G o = some (.lst ((putZ (srtTo vs ((lnsOf b cs).take i)) ((l.zip ys).take j)).map V.int))) ?_ ?_ ?_ ?_⟩
        · exact ⟨y5, y6, rfl, fun c u _ e => e, sP _ _ ho⟩
        · rintro j σ G ⟨y5, y6, rfl, kG, hoG⟩
          exact ⟨SqL.of (kG _ _ nto (sP _ _ hlt)), SqL.of (kG _ _ (Ne.symm noP) hP0)⟩
        · rintro j x y T σ G hx' hy' ⟨y5, y6, rfl, kG, hoG⟩ nT
          rw [List.getElem?_map] at hx' hy'
          cases ex : l[j]? with
          | none =>
            rw [ex] at hx'
            cases hx'
          | some k =>
            cases ey' : ys[j]? with
            | none =>
              rw [ey'] at hy'
              cases hy'
            | some v =>
              rw [ex] at hx'
              rw [ey'] at hy'
              cases hx'
              cases hy'
              obtain ⟨j', rfl, hj'⟩ := hm.1 k (List.mem_of_getElem? ex)
              have noT : o ≠ T := ne_of_none hoG nT
              refine ⟨T, _, rfl, SqT.of upd_same, rfl, _, _, rfl, _, _, rfl, rfl, ?_⟩
              refine ⟨_, rfl, _, rfl, _, rfl, o, _, (j' : Int), j', rfl, rfl, by rw [upd_ne noT]; exact hoG, ixN_at ?_, ?_⟩
              · rw [List.length_map, putZ_len, srtTo_len]
                omega
              · refine ⟨_, _, rfl, fun c u nc e => ?_, ?_⟩
                · rw [upd_ne nc, upd_ne (ne_of_none (kG c u nc e) nT)]
                  exact kG c u nc e
                · have ez : (l.zip ys)[j]? = some ((j' : Int), v) := by
                    rw [List.getElem?_zip_eq_some]
                    exact ⟨ex, ey'⟩
                  rw [upd_same, List.take_add_one, ez]
                  show _ = some (HO.lst ((putZ _ (List.take j (l.zip ys) ++ [((j' : Int), v)])).map V.int))
                  rw [putZ_more, List.map_set]
                  rfl
        · rintro σ G ⟨y5, y6, rfl, kG, hoG⟩
          refine ⟨_, _, _, rfl, fun c u nc e => kG c u nc (sP c u (k' c u nc e)), ?_⟩
          have et : List.take (List.map V.int l).length (l.zip ys) = l.zip ys := List.take_of_length_le (by rw [List.length_zip, List.length_map]; omega)
          rw [hoG, et, List.take_add_one, hli, ey]
          show _ = some (HO.lst ((srtTo vs (List.take i (lnsOf b cs) ++ [l])).map V.int))
          rw [srtTo_more]
          rfl
    · rintro σ H' ⟨y4, y5, y6, rfl, k', ho⟩
      rw [Paired.length hx, List.take_length] at ho
      refine ⟨_, rfl, o, _, rfl, .inl ⟨SqL.of ho, fun u nu => ?_⟩⟩
      have sm : Same H H' := fun c u e => k' c u (ne_of_none e no) (s1 c u (so c u e))
      exact q _ u (sm.trans (same_new nu)) (SqT.of upd_same) (sm.free nu)
end
end KS
namespace KS
open PySem PySem.Spec PyProof.Rows L2
abbrev sAfter : Stmt := topS 74
abbrev nAfter : List Str := ["_law_spots", "_law_some_here", "_law_letters", "_law_sort"]
theorem scAfter : FnScope nAfter ["_law_spots", "_law_some_here", "_law_letters"] (defScope sAfter) := ⟨rfl, rfl, rfl, by decide +kernel, rfl, by decide +kernel, by decide +kernel⟩
section
variable {P : Program} {w : World} {K : PySem.W.Frag} {mg : Str → Option Value} {base : Heap}
theorem ok_lafter {f fS : Addr} {fd fdS : FuncData} (F : Fun K "_law_after" "_law_after" sAfter f fd) (GS : FnOk P w K mg base CX0 2 fS fdS ["_law_spots", "_law_some_here", "_law_sort"] (spLSorted K))
    (bS : Binds K fdS ["_law_spots", "_law_some_here", "_law_sort"] []) (gS : mg "_law_sorted" = some (.ref fS)) (kS : PySem.W.keepIn K (.ref fS) = true) :
    FnOk P w K mg base CX0 3 f fd ["_law_spots", "_law_some_here", "_law_letters"] (spLAfter K) := by
  refine F.ok scAfter (fun vs H Q E h => ?_) (fun cdv A outer s H vs Q E hr h => ?_)
  · obtain ⟨a, t, b, cs, vs, rfl, _⟩ := h
    rfl
  · obtain ⟨a, t, wd, cs, vs, rfl, hp, hl, ht, hv, q⟩ := h
    have nd := scAfter.nd
    refine ⟨_, pss_cons (ps_for PassesOwn.never rfl (pi_str (pv 2)) (pg_name (i := 3) nd rfl (.inl rfl))
        (pss_one (ps_set (i := 1) nd rfl (.inl rfl) (pe_call GS hr (by rfl) gS kS bS .nil pass0 (pa_cons (pv 0) (pa_cons (pv 1) (pa_cons (pv 3) pa_nil)))))))
      (pss_one (ps_ret (pv 1))), ?_⟩
    refine ⟨_, rfl, _, rfl, for_it walk_str (fun i σ H' => ∃ (u : Addr) (y3 : Option V), σ = [some (.ref a), some (.ref u), some (.str (wS wd)), y3] ∧ Same H H' ∧ SqT K H' u ((aft cs (wd.take i) vs).map V.int)) ?_ ?_ ?_ ?_⟩
    · exact ⟨t, none, rfl, Same.refl _, ht⟩
    · intros
      trivial
    · rintro i x σ H' H'' hi ⟨u, y3, rfl, sm, hu⟩ ⟨rfl, c, hc, rfl⟩
      obtain ⟨b, hb, rfl⟩ := wS_at hc
      rw [ltr_str]
      refine ⟨_, rfl, _, rfl, _, rfl, a, u, b, cs, _, rfl, hp.kt (.of_same sm), hl, hu, by rw [aft_len, hv], fun G u' sG hu' _ => ?_⟩
      refine ⟨u', _, rfl, sm.trans sG, ?_⟩
      rw [List.take_add_one, hb]
      show SqT K G u' ((aft cs (wd.take i ++ [b]) vs).map V.int)
      rw [aft_more]
      exact hu'
    · rintro σ H' ⟨u, y3, rfl, sm, hu⟩
      have e : wd.take (wS wd).cps.size = wd := List.take_of_length_le (by
        have := wS_len wd
        show wd.length ≤ (wS wd).length
        omega)
      rw [e] at hu
      exact ⟨_, rfl, q H' u sm hu⟩
end
end KS
namespace KS
open PySem PySem.Spec PyProof.Rows L2
abbrev sWord : Stmt := topS 71
abbrev nWord : List Str := ["_law_pool_here", "_law_most", "_law_many", "_law_stretch", "_law_found"]
theorem scWord : FnScope nWord ["_law_pool_here", "_law_most"] (defScope sWord) := ⟨rfl, rfl, rfl, by decide +kernel, rfl, by decide +kernel, by decide +kernel⟩
section
variable {P : Program} {w : World} {K : PySem.W.Frag} {mg : Str → Option Value} {base : Heap}
theorem ok_lword {f fD : Addr} {fd fdD : FuncData} (F : Fun K "_law_word" "_law_word" sWord f fd) (GD : FnOk P w K mg base CX0 1 fD fdD ["_law_pool_here", "_law_most"] spDraw)
    (bD : Binds K fdD ["_law_pool_here", "_law_most"] []) (gD : mg "_law_draw" = some (.ref fD)) (kD : PySem.W.keepIn K (.ref fD) = true) (ml : mg "len" = none) :
    FnOk P w K mg base CX0 2 f fd ["_law_pool_here", "_law_most"] (spLWord K) := by
  refine F.ok scWord (fun vs H Q E h => ?_) (fun cdv A outer s H vs Q E hr h => ?_)
  · obtain ⟨p, m, rfl, _⟩ := h
    rfl
  · obtain ⟨p, m, rfl, po, m1, q⟩ := h
    have nd := scWord.nd
    refine ⟨_, pss_cons (ps_par3 (i := 2) (j := 3) (l := 4) (by rfl) nd rfl rfl rfl (by decide) (by decide) (by decide) rfl rfl rfl
        (pa_cons (pe_call GD hr (by rfl) gD kD bD .nil pass0 (pa_cons (pv 0) (pa_cons (pe_op op_add (pv 1) pe_int) pa_nil)))
          (pa_cons (pe_op op_add pe_int (pe_call GD hr (by rfl) gD kD bD .nil pass0 (pa_cons (pv 0) (pa_cons pe_int pa_nil)))) (pa_cons pe_str pa_nil))) (by rfl))
      (pss_cons (ps_while PassesOwn.never (pt_cmpR op_lt (pe_callB call_len_str (by rfl) ml PySem.boot_len (pa_cons (pv 4) pa_nil)) (pv 2) (nomark _))
        (pss_one (ps_set (i := 4) nd rfl (.inl rfl) (pe_op op_add_str (pv 4) (pe_op op_repC (pe_ix ix_str pe_str (pe_call GD hr (by rfl) gD kD bD .nil pass0 (pa_cons (pv 0) (pa_cons pe_int pa_nil))) (fun _ _ => rfl))
          (pe_op op_add pe_int (pe_call GD hr (by rfl) gD kD bD .nil pass0 (pa_cons (pv 0) (pa_cons (pv 3) pa_nil)))))))))
      (pss_one (ps_ret (pe_slice sl_str (pv 4) po_none (po_some (pv 2)))))), ?_⟩
    refine ⟨_, rfl, _, rfl, _, _, rfl, rfl, p, _, rfl, po, by omega, by omega, fun H1 many k1 po1 a0 a1 => ?_⟩
    refine ⟨_, rfl, p, _, rfl, po1, by decide, by decide, fun H2 st k2 po2 b0 b1 => ?_⟩
    refine ⟨_, _, rfl, rfl, _, _, _, rfl, ?_⟩
    refine ⟨fun n σ G => ∃ ws : List Bool, σ = [some (.ref p), some (.int m), some (.int many), some (.int (1 + st)), some (.str (wS ws))] ∧ KeepX p H G ∧ PoolO (G p) ∧ ws.length ≤ 500 ∧ n = (many - ws.length).toNat, ?_, ?_⟩
    · exact ⟨_, [], rfl, k1.trans k2, po2, Nat.zero_le _, rfl⟩
    · rintro n σ G ⟨ws, rfl, kx, po3, wl, rfl⟩
      have hwl := wS_len ws
      have hz : (wS ws).length ≤ sizeLine := by
        rw [hwl, sizeLine_eq]
        omega
      refine ⟨_, rfl, _, rfl, hz, _, rfl, _, _, rfl, rfl, _, rfl, ite2 (fun c => ?_) (fun c => ?_)⟩
      · have c' : ((wS ws).length : Int) < many := of_decide_eq_true c
        rw [hwl] at c'
        refine ⟨fun σ' G' => ∃ n', n' < (many - ws.length).toNat ∧ ∃ ws' : List Bool, σ' = [some (.ref p), some (.int m), some (.int many), some (.int (1 + st)), some (.str (wS ws'))] ∧ KeepX p H G' ∧ PoolO (G' p) ∧ ws'.length ≤ 500 ∧ n' = (many - ws'.length).toNat, fun σ' G' z => z, ?_⟩
        refine ⟨_, rfl, _, rfl, p, 2, rfl, po3, by decide, by decide, fun G1 r k3 po4 r0 r1 => ?_⟩
        obtain ⟨b, hb⟩ : ∃ b : Bool, atI ("RC" : Str).cps.toList r = some (ltr b) := by
          have : r = 0 ∨ r = 1 := by omega
          rcases this with rfl | rfl
          · exact ⟨false, by decide +kernel⟩
          · exact ⟨true, by decide +kernel⟩
        refine ⟨_, r, ltr b, rfl, rfl, by decide, hb, ?_⟩
        refine ⟨_, rfl, _, rfl, p, _, rfl, po4, by omega, by omega, fun G2 t k4 po5 t0 t1 => ?_⟩
        obtain ⟨t', rfl⟩ := Int.eq_ofNat_of_zero_le t0
        refine ⟨_, _, rfl, rfl, ltr b, 1 + t', rfl, by rw [Int.natCast_add]; rfl, by omega, by omega, ?_⟩
        rw [wS_rep]
        have e2 := wS_len (List.replicate (1 + t') b)
        rw [List.length_replicate] at e2
        refine ⟨_, _, rfl, rfl, ?_, ?_⟩
        · rw [hwl, e2, sizeLine_eq]
          omega
        · rw [wS_app]
          have e3 : (ws ++ List.replicate (1 + t') b).length = ws.length + (1 + t') := by
            rw [List.length_append, List.length_replicate]
          exact ⟨_, by omega, ws ++ List.replicate (1 + t') b, rfl, (kx.trans k3).trans k4, po5, by omega, rfl⟩
      · have c' : ¬ ((wS ws).length : Int) < many := fun z => c (decide_eq_true z)
        rw [hwl] at c'
        obtain ⟨mm, rfl⟩ := Int.eq_ofNat_of_zero_le a0
        refine ⟨_, rfl, _, rfl, _, rfl, _, rfl, hz, ?_⟩
        rw [wS_cut _ _ (by omega)]
        refine q G _ kx po3 ?_
        rw [List.length_take]
        omega
end
end KS
namespace KS
open PySem PySem.Spec PyProof.Rows L2
abbrev sRises : Stmt := topS 75
abbrev nRises : List Str := ["_law_spots", "_law_some_here", "_law_sort", "_law_strip", "_law_k"]
theorem scRises : FnScope nRises ["_law_spots", "_law_some_here", "_law_sort"] (defScope sRises) := ⟨rfl, rfl, rfl, by decide +kernel, rfl, by decide +kernel, by decide +kernel⟩
section
variable {P : Program} {w : World} {K : PySem.W.Frag} {mg : Str → Option Value} {base : Heap}
theorem ok_lrises {f fL : Addr} {fd fdL : FuncData} (F : Fun K "_law_rises" "_law_rises" sRises f fd) (GL : FnOk P w K mg base CX0 1 fL fdL ["_law_spots", "_law_sort"] (spLawLinesN K))
    (bL : Binds K fdL ["_law_spots", "_law_sort"] []) (gL : mg "_law_lines" = some (.ref fL)) (kL : PySem.W.keepIn K (.ref fL) = true) (ms : mg "sorted" = none) :
    FnOk P w K mg base CX0 2 f fd ["_law_spots", "_law_some_here", "_law_sort"] (spLRises K) := by
  refine F.ok scRises (fun vs H Q E h => ?_) (fun cdv A outer s H vs Q E hr h => ?_)
  · obtain ⟨a, t, b, cs, vs, rfl, _⟩ := h
    rfl
  · obtain ⟨a, t, b, cs, vs, rfl, hp, hl, ht, hv, q⟩ := h
    have nd := scRises.nd
    refine ⟨_, pss_cons (ps_for PassesOwn.never rfl (pi_list (pe_call GL hr (by rfl) gL kL bL .nil pass0 (pa_cons (pv 0) (pa_cons (pv 2) pa_nil)))) (pg_name (i := 3) nd rfl (.inl rfl))
        (pss_one (ps_if (pt_cmpR (op_neD hr.units)
            (pe_lc (own := [("_law_k", 4)]) (g := gName 4) (tt := tYes) rfl nd (pi_list (pv 3)) (blkOk_by (N := nRises) (sc := defScope sRises) (by decide +kernel))
              (fun _ _ _ _ _ => pg_name (i := 4) nd rfl (Or.inl rfl)) (fun _ _ _ _ _ => pts_nil) (fun _ _ _ _ _ => pe_ix (r := rIxT K) ix_tup (pv 1) (pv 4) (fun _ _ => rfl)))
            (pe_callB cr_sortedI (by rfl) ms (by decide +kernel) (pa_cons
              (pe_lc (own := [("_law_k", 4)]) (g := gName 4) (tt := tYes) rfl nd (pi_list (pv 3)) (blkOk_by (N := nRises) (sc := defScope sRises) (by decide +kernel))
                (fun _ _ _ _ _ => pg_name (i := 4) nd rfl (Or.inl rfl)) (fun _ _ _ _ _ => pts_nil) (fun _ _ _ _ _ => pe_ix (r := rIxT K) ix_tup (pv 1) (pv 4) (fun _ _ => rfl))) pa_nil)) (nomark _))
          (pss_one (ps_ret pe_bl)) pss_nil)))
      (pss_one (ps_ret pe_bl)), ?_⟩
    refine ⟨_, rfl, _, rfl, a, b, cs, rfl, hp, hl, fun H1 p xs s1 hp1 np hx => ?_⟩
    refine ⟨p, rfl, ⟨_, SqL.of hp1⟩, for_list (K := K) (a := p) (xs := xs) (fun i σ H' => ∃ (y3 : Option V), σ = [some (.ref a), some (.ref t), some (.str (if b = true then "C" else "R")), y3, none] ∧
      Same H1 H' ∧ ((lnsOf b cs).take i).all (upL vs) = true) ?_ ?_ ?_ ?_⟩
    · exact ⟨none, rfl, Same.refl _, rfl⟩
    · rintro i σ H' _ ⟨y3, rfl, k', ho⟩
      exact SqL.of (k' _ _ hp1)
    · rintro i x σ H' hi ⟨y3, rfl, k', ho⟩
      obtain ⟨l, hli, t', rfl, hl', hn'⟩ := paired_get hx hi
      have sm : Same H H' := s1.trans k'
      have hlt := k' _ _ hl'
      have hm := lns_mem (List.mem_of_getElem? hli)
      show tIfS _ _ _ _ [some (.ref a), some (.ref t), some (.str (if b = true then "C" else "R")), some (.ref t'), none] H'
      refine up_if (K := K) (vs := vs) (l := l) (i1 := 3) (i2 := 1) (i3 := 4) rfl rfl hlt (same_seqT sm ht) (fun k z => by rw [hv]; exact hm.1 k z) (by omega) (by show 4 < 5; decide) (by decide) (fun G sG u => ?_) (fun G sG u => ?_)
      · refine ⟨_, rfl, k'.trans sG, ?_⟩
        rw [List.take_add_one, hli]
        show (List.take i (lnsOf b cs) ++ [l]).all (upL vs) = true
        rw [List.all_append, ho]
        show (true && (upL vs l && true)) = true
        rw [u]
        rfl
      · have z := q G (sm.trans sG)
        have e : rises b cs vs = false := by
          unfold rises
          rw [List.all_eq_false]
          exact ⟨l, List.mem_of_getElem? hli, by rw [u]; decide⟩
        rw [e] at z
        exact z
    · rintro σ H' ⟨y3, rfl, k', ho⟩
      rw [Paired.length hx, List.take_length] at ho
      have z := q H' (s1.trans k')
      unfold rises at z
      rw [ho] at z
      exact z
end
end KS
namespace KS
open PySem PySem.Spec PyProof.Rows L2
-- topS
theorem all_mk {l : PySem.W.OpenLaw} {w : World} {K : PySem.W.Frag} {h : Heap} {mg : Str → Option Value} {fa f0 f1 f2 f3 f4 f5 f6 f7 f8 f9 f10 f11 f12 f13 f14 f15 f16 f17 f18 f19 f20 f21 f22 f23 f24 f25 f26 f27 f28 f29 f30 f31 f32 f33 f34 f35 f36 f37 f38 f39 f40 f41 f42 f43 f44 f45 f46 f47 f48 f49 f50 f51 f52 f53 f54 f55 f56 f57 cc53 : Addr} (X : K.In h) (G : h.Ns mainGlobals mg) (hfa : mg "law" = some (.ref fa))
    {od0 an0 od1 an1 od2 an2 od3 an3 od4 an4 od5 an5 od6 an6 od7 an7 od8 an8 od9 an9 od10 an10 od11 an11 od12 an12 od13 an13 od14 an14 od15 an15 od16 an16 od17 an17 od18 an18 od19 an19 od20 an20 od21 an21 od22 an22 od23 an23 od24 an24 od25 an25 od26 an26 od27 an27 od28 an28 od29 an29 od30 an30 od31 an31 od32 an32 od33 an33 od34 an34 od35 an35 od36 an36 od37 an37 od38 an38 od39 an39 od40 an40 od41 an41 od42 an42 od43 an43 od44 an44 od45 an45 od46 an46 od47 an47 od48 an48 od49 an49 od50 an50 od51 an51 od52 an52 od53 an53 od54 an54 od55 an55 od56 an56 od57 an57 : Option Addr} {sl0 sl1 sl2 sl3 sl4 sl5 sl6 sl7 sl8 sl9 sl10 sl11 sl12 sl13 sl14 sl15 sl16 sl17 sl18 sl19 sl20 sl21 sl22 sl23 sl24 sl25 sl26 sl27 sl28 sl29 sl30 sl31 sl32 sl33 sl34 sl35 sl36 sl37 sl38 sl39 sl40 sl41 sl42 sl43 sl44 sl45 sl46 sl47 sl48 sl49 sl50 sl51 sl52 sl53 sl54 sl55 sl56 sl57 : Array (Option Value)}
    {oc0 kV0 dc0 pm0 cd0 ct0 oc1 kV1 dc1 pm1 cd1 ct1 oc2 kV2 dc2 pm2 cd2 ct2 oc3 kV3 dc3 pm3 cd3 ct3 oc4 kV4 dc4 pm4 cd4 ct4 oc5 kV5 dc5 pm5 cd5 ct5 oc6 kV6 dc6 pm6 cd6 ct6 oc7 kV7 dc7 pm7 cd7 ct7 oc8 kV8 dc8 pm8 cd8 ct8 oc9 kV9 dc9 pm9 cd9 ct9 oc10 kV10 dc10 pm10 cd10 ct10 oc11 kV11 dc11 pm11 cd11 ct11 oc12 kV12 dc12 pm12 cd12 ct12 oc13 kV13 dc13 pm13 cd13 ct13 oc14 kV14 dc14 pm14 cd14 ct14 oc15 kV15 dc15 pm15 cd15 ct15 oc16 kV16 dc16 pm16 cd16 ct16 oc17 kV17 dc17 pm17 cd17 ct17 oc18 kV18 dc18 pm18 cd18 ct18 oc19 kV19 dc19 pm19 cd19 ct19 oc20 kV20 dc20 pm20 cd20 ct20 oc21 kV21 dc21 pm21 cd21 ct21 oc22 kV22 dc22 pm22 cd22 ct22 oc23 kV23 dc23 pm23 cd23 ct23 oc24 kV24 dc24 pm24 cd24 ct24 oc25 kV25 dc25 pm25 cd25 ct25 oc26 kV26 dc26 pm26 cd26 ct26 oc27 kV27 dc27 pm27 cd27 ct27 oc28 kV28 dc28 pm28 cd28 ct28 oc29 kV29 dc29 pm29 cd29 ct29 oc30 kV30 dc30 pm30 cd30 ct30 oc31 kV31 dc31 pm31 cd31 ct31 oc32 kV32 dc32 pm32 cd32 ct32 oc33 kV33 dc33 pm33 cd33 ct33 oc34 kV34 dc34 pm34 cd34 ct34 oc35 kV35 dc35 pm35 cd35 ct35 oc36 kV36 dc36 pm36 cd36 ct36 oc37 kV37 dc37 pm37 cd37 ct37 oc38 kV38 dc38 pm38 cd38 ct38 oc39 kV39 dc39 pm39 cd39 ct39 oc40 kV40 dc40 pm40 cd40 ct40 oc41 kV41 dc41 pm41 cd41 ct41 oc42 kV42 dc42 pm42 cd42 ct42 oc43 kV43 dc43 pm43 cd43 ct43 oc44 kV44 dc44 pm44 cd44 ct44 oc45 kV45 dc45 pm45 cd45 ct45 oc46 kV46 dc46 pm46 cd46 ct46 oc47 kV47 dc47 pm47 cd47 ct47 oc48 kV48 dc48 pm48 cd48 ct48 oc49 kV49 dc49 pm49 cd49 ct49 oc50 kV50 dc50 pm50 cd50 ct50 oc51 kV51 dc51 pm51 cd51 ct51 oc52 kV52 dc52 pm52 cd52 ct52 oc53 kV53 dc53 pm53  ct53 oc54 kV54 dc54 pm54 cd54 ct54 oc55 kV55 dc55 pm55 cd55 ct55 oc56 kV56 dc56 pm56 cd56 ct56 oc57 kV57 dc57 pm57 cd57 ct57 : Value} {tk0 tk1 tk2 tk3 tk4 tk5 tk6 tk7 : Tok}
    (a0 : PySem.W.nsIn K mainGlobals "is_whole" = some (some (.ref f0)))
    (l0 : K.lookup f0 = some ⟨oc0, od0, .func (PySem.W.fnOf "is_whole" "is_whole" (defArgs sWhole) (defBody sWhole) (defScope sWhole) .none kV0 dc0 pm0 an0 cd0 ct0), sl0⟩)
    (c0 : PySem.W.codeIn K cd0 "is_whole" = true) (k0 : PySem.W.keepIn K (.ref f0) = true)
    (a1 : PySem.W.nsIn K mainGlobals "is_between" = some (some (.ref f1)))
    (l1 : K.lookup f1 = some ⟨oc1, od1, .func (PySem.W.fnOf "is_between" "is_between" (defArgs sBetween) (defBody sBetween) (defScope sBetween) .none kV1 dc1 pm1 an1 cd1 ct1), sl1⟩)
    (c1 : PySem.W.codeIn K cd1 "is_between" = true) (k1 : PySem.W.keepIn K (.ref f1) = true)
    (a2 : PySem.W.nsIn K mainGlobals "is_place" = some (some (.ref f2)))
    (l2 : K.lookup f2 = some ⟨oc2, od2, .func (PySem.W.fnOf "is_place" "is_place" (defArgs sPlace) (defBody sPlace) (defScope sPlace) .none kV2 dc2 pm2 an2 cd2 ct2), sl2⟩)
    (c2 : PySem.W.codeIn K cd2 "is_place" = true) (k2 : PySem.W.keepIn K (.ref f2) = true)
    (a3 : PySem.W.nsIn K mainGlobals "is_cell" = some (some (.ref f3)))
    (l3 : K.lookup f3 = some ⟨oc3, od3, .func (PySem.W.fnOf "is_cell" "is_cell" (defArgs sIsCell) (defBody sIsCell) (defScope sIsCell) .none kV3 dc3 pm3 an3 cd3 ct3), sl3⟩)
    (c3 : PySem.W.codeIn K cd3 "is_cell" = true) (k3 : PySem.W.keepIn K (.ref f3) = true)
    (a4 : PySem.W.nsIn K mainGlobals "check_plan" = some (some (.ref f4)))
    (l4 : K.lookup f4 = some ⟨oc4, od4, .func (PySem.W.fnOf "check_plan" "check_plan" (defArgs sCheck) (defBody sCheck) (defScope sCheck) .none kV4 dc4 pm4 an4 cd4 ct4), sl4⟩)
    (c4 : PySem.W.codeIn K cd4 "check_plan" = true) (k4 : PySem.W.keepIn K (.ref f4) = true)
    (a5 : PySem.W.nsIn K mainGlobals "is_kind" = some (some (.ref f5)))
    (l5 : K.lookup f5 = some ⟨oc5, od5, .func (PySem.W.fnOf "is_kind" "is_kind" (defArgs sIsKind) (defBody sIsKind) (defScope sIsKind) .none kV5 dc5 pm5 an5 cd5 ct5), sl5⟩)
    (c5 : PySem.W.codeIn K cd5 "is_kind" = true) (k5 : PySem.W.keepIn K (.ref f5) = true)
    (a6 : PySem.W.nsIn K mainGlobals "check_kind" = some (some (.ref f6)))
    (l6 : K.lookup f6 = some ⟨oc6, od6, .func (PySem.W.fnOf "check_kind" "check_kind" (defArgs sKind) (defBody sKind) (defScope sKind) .none kV6 dc6 pm6 an6 cd6 ct6), sl6⟩)
    (c6 : PySem.W.codeIn K cd6 "check_kind" = true) (k6 : PySem.W.keepIn K (.ref f6) = true)
    (a7 : PySem.W.nsIn K mainGlobals "lines" = some (some (.ref f7)))
    (l7 : K.lookup f7 = some ⟨oc7, od7, .func (PySem.W.fnOf "lines" "lines" (defArgs sLines) (defBody sLines) (defScope sLines) .none kV7 dc7 pm7 an7 cd7 ct7), sl7⟩)
    (c7 : PySem.W.codeIn K cd7 "lines" = true) (k7 : PySem.W.keepIn K (.ref f7) = true)
    (a8 : PySem.W.nsIn K mainGlobals "first_fault" = some (some (.ref f8)))
    (l8 : K.lookup f8 = some ⟨oc8, od8, .func (PySem.W.fnOf "first_fault" "first_fault" (defArgs sFF) (defBody sFF) (defScope sFF) .none kV8 dc8 pm8 an8 cd8 ct8), sl8⟩)
    (c8 : PySem.W.codeIn K cd8 "first_fault" = true) (k8 : PySem.W.keepIn K (.ref f8) = true)
    (a9 : PySem.W.nsIn K mainGlobals "check_filling" = some (some (.ref f9)))
    (l9 : K.lookup f9 = some ⟨oc9, od9, .func (PySem.W.fnOf "check_filling" "check_filling" (defArgs sCheckF) (defBody sCheckF) (defScope sCheckF) .none kV9 dc9 pm9 an9 cd9 ct9), sl9⟩)
    (c9 : PySem.W.codeIn K cd9 "check_filling" = true) (k9 : PySem.W.keepIn K (.ref f9) = true)
    (a10 : PySem.W.nsIn K mainGlobals "check_letters" = some (some (.ref f10)))
    (l10 : K.lookup f10 = some ⟨oc10, od10, .func (PySem.W.fnOf "check_letters" "check_letters" (defArgs sCheckL) (defBody sCheckL) (defScope sCheckL) .none kV10 dc10 pm10 an10 cd10 ct10), sl10⟩)
    (c10 : PySem.W.codeIn K cd10 "check_letters" = true) (k10 : PySem.W.keepIn K (.ref f10) = true)
    (a11 : PySem.W.nsIn K mainGlobals "check_word" = some (some (.ref f11)))
    (l11 : K.lookup f11 = some ⟨oc11, od11, .func (PySem.W.fnOf "check_word" "check_word" (defArgs sCheckW) (defBody sCheckW) (defScope sCheckW) .none kV11 dc11 pm11 an11 cd11 ct11), sl11⟩)
    (c11 : PySem.W.codeIn K cd11 "check_word" = true) (k11 : PySem.W.keepIn K (.ref f11) = true)
    (a12 : PySem.W.nsIn K mainGlobals "is_word" = some (some (.ref f12)))
    (l12 : K.lookup f12 = some ⟨oc12, od12, .func (PySem.W.fnOf "is_word" "is_word" (defArgs sIsWord) (defBody sIsWord) (defScope sIsWord) .none kV12 dc12 pm12 an12 cd12 ct12), sl12⟩)
    (c12 : PySem.W.codeIn K cd12 "is_word" = true) (k12 : PySem.W.keepIn K (.ref f12) = true)
    (a13 : PySem.W.nsIn K mainGlobals "sorted_along" = some (some (.ref f13)))
    (l13 : K.lookup f13 = some ⟨oc13, od13, .func (PySem.W.fnOf "sorted_along" "sorted_along" (defArgs sAlong) (defBody sAlong) (defScope sAlong) .none kV13 dc13 pm13 an13 cd13 ct13), sl13⟩)
    (c13 : PySem.W.codeIn K cd13 "sorted_along" = true) (k13 : PySem.W.keepIn K (.ref f13) = true)
    (a14 : PySem.W.nsIn K mainGlobals "sort_lines" = some (some (.ref f14)))
    (l14 : K.lookup f14 = some ⟨oc14, od14, .func (PySem.W.fnOf "sort_lines" "sort_lines" (defArgs sSortLines) (defBody sSortLines) (defScope sSortLines) .none kV14 dc14 pm14 an14 cd14 ct14), sl14⟩)
    (c14 : PySem.W.codeIn K cd14 "sort_lines" = true) (k14 : PySem.W.keepIn K (.ref f14) = true)
    (a15 : PySem.W.nsIn K mainGlobals "after" = some (some (.ref f15)))
    (l15 : K.lookup f15 = some ⟨oc15, od15, .func (PySem.W.fnOf "after" "after" (defArgs sAfterP) (defBody sAfterP) (defScope sAfterP) .none kV15 dc15 pm15 an15 cd15 ct15), sl15⟩)
    (c15 : PySem.W.codeIn K cd15 "after" = true) (k15 : PySem.W.keepIn K (.ref f15) = true)
    (a16 : PySem.W.nsIn K mainGlobals "is_sorted" = some (some (.ref f16)))
    (l16 : K.lookup f16 = some ⟨oc16, od16, .func (PySem.W.fnOf "is_sorted" "is_sorted" (defArgs sIsSorted) (defBody sIsSorted) (defScope sIsSorted) .none kV16 dc16 pm16 an16 cd16 ct16), sl16⟩)
    (c16 : PySem.W.codeIn K cd16 "is_sorted" = true) (k16 : PySem.W.keepIn K (.ref f16) = true)
    (a17 : PySem.W.nsIn K mainGlobals "is_settled_table" = some (some (.ref f17)))
    (l17 : K.lookup f17 = some ⟨oc17, od17, .func (PySem.W.fnOf "is_settled_table" "is_settled_table" (defArgs sSettled) (defBody sSettled) (defScope sSettled) .none kV17 dc17 pm17 an17 cd17 ct17), sl17⟩)
    (c17 : PySem.W.codeIn K cd17 "is_settled_table" = true) (k17 : PySem.W.keepIn K (.ref f17) = true)
    (a18 : PySem.W.nsIn K mainGlobals "squeezed" = some (some (.ref f18)))
    (l18 : K.lookup f18 = some ⟨oc18, od18, .func (PySem.W.fnOf "squeezed" "squeezed" (defArgs sSqz) (defBody sSqz) (defScope sSqz) .none kV18 dc18 pm18 an18 cd18 ct18), sl18⟩)
    (c18 : PySem.W.codeIn K cd18 "squeezed" = true) (k18 : PySem.W.keepIn K (.ref f18) = true)
    (a19 : PySem.W.nsIn K mainGlobals "is_repeat" = some (some (.ref f19)))
    (l19 : K.lookup f19 = some ⟨oc19, od19, .func (PySem.W.fnOf "is_repeat" "is_repeat" (defArgs sIsRep) (defBody sIsRep) (defScope sIsRep) .none kV19 dc19 pm19 an19 cd19 ct19), sl19⟩)
    (c19 : PySem.W.codeIn K cd19 "is_repeat" = true) (k19 : PySem.W.keepIn K (.ref f19) = true)
    (a20 : PySem.W.nsIn K mainGlobals "count_steps" = some (some (.ref f20)))
    (l20 : K.lookup f20 = some ⟨oc20, od20, .func (PySem.W.fnOf "count_steps" "count_steps" (defArgs sCS) (defBody sCS) (defScope sCS) .none kV20 dc20 pm20 an20 cd20 ct20), sl20⟩)
    (c20 : PySem.W.codeIn K cd20 "count_steps" = true) (k20 : PySem.W.keepIn K (.ref f20) = true)
    (a21 : PySem.W.nsIn K mainGlobals "check_program" = some (some (.ref f21)))
    (l21 : K.lookup f21 = some ⟨oc21, od21, .func (PySem.W.fnOf "check_program" "check_program" (defArgs sCP) (defBody sCP) (defScope sCP) .none kV21 dc21 pm21 an21 cd21 ct21), sl21⟩)
    (c21 : PySem.W.codeIn K cd21 "check_program" = true) (k21 : PySem.W.keepIn K (.ref f21) = true)
    (a22 : PySem.W.nsIn K mainGlobals "repeated" = some (some (.ref f22)))
    (l22 : K.lookup f22 = some ⟨oc22, od22, .func (PySem.W.fnOf "repeated" "repeated" (defArgs sRpt) (defBody sRpt) (defScope sRpt) .none kV22 dc22 pm22 an22 cd22 ct22), sl22⟩)
    (c22 : PySem.W.codeIn K cd22 "repeated" = true) (k22 : PySem.W.keepIn K (.ref f22) = true)
    (a23 : PySem.W.nsIn K mainGlobals "flat_word" = some (some (.ref f23)))
    (l23 : K.lookup f23 = some ⟨oc23, od23, .func (PySem.W.fnOf "flat_word" "flat_word" (defArgs sFlat) (defBody sFlat) (defScope sFlat) .none kV23 dc23 pm23 an23 cd23 ct23), sl23⟩)
    (c23 : PySem.W.codeIn K cd23 "flat_word" = true) (k23 : PySem.W.keepIn K (.ref f23) = true)
    (a24 : PySem.W.nsIn K mainGlobals "run" = some (some (.ref f24)))
    (l24 : K.lookup f24 = some ⟨oc24, od24, .func (PySem.W.fnOf "run" "run" (defArgs sRun) (defBody sRun) (defScope sRun) .none kV24 dc24 pm24 an24 cd24 ct24), sl24⟩)
    (c24 : PySem.W.codeIn K cd24 "run" = true) (k24 : PySem.W.keepIn K (.ref f24) = true)
    (a25 : PySem.W.nsIn K mainGlobals "format_table" = some (some (.ref f25)))
    (l25 : K.lookup f25 = some ⟨oc25, od25, .func (PySem.W.fnOf "format_table" "format_table" (defArgs sFmtT) (defBody sFmtT) (defScope sFmtT) .none kV25 dc25 pm25 an25 cd25 ct25), sl25⟩)
    (c25 : PySem.W.codeIn K cd25 "format_table" = true) (k25 : PySem.W.keepIn K (.ref f25) = true)
    (a26 : PySem.W.nsIn K mainGlobals "index_of_cell" = some (some (.ref f26)))
    (l26 : K.lookup f26 = some ⟨oc26, od26, .func (PySem.W.fnOf "index_of_cell" "index_of_cell" (defArgs sIxCell) (defBody sIxCell) (defScope sIxCell) .none kV26 dc26 pm26 an26 cd26 ct26), sl26⟩)
    (c26 : PySem.W.codeIn K cd26 "index_of_cell" = true) (k26 : PySem.W.keepIn K (.ref f26) = true)
    (a27 : PySem.W.nsIn K mainGlobals "with_value" = some (some (.ref f27)))
    (l27 : K.lookup f27 = some ⟨oc27, od27, .func (PySem.W.fnOf "with_value" "with_value" (defArgs sWithV) (defBody sWithV) (defScope sWithV) .none kV27 dc27 pm27 an27 cd27 ct27), sl27⟩)
    (c27 : PySem.W.codeIn K cd27 "with_value" = true) (k27 : PySem.W.keepIn K (.ref f27) = true)
    (a28 : PySem.W.nsIn K mainGlobals "with_swap" = some (some (.ref f28)))
    (l28 : K.lookup f28 = some ⟨oc28, od28, .func (PySem.W.fnOf "with_swap" "with_swap" (defArgs sWithS) (defBody sWithS) (defScope sWithS) .none kV28 dc28 pm28 an28 cd28 ct28), sl28⟩)
    (c28 : PySem.W.codeIn K cd28 "with_swap" = true) (k28 : PySem.W.keepIn K (.ref f28) = true)
    (a29 : PySem.W.nsIn K mainGlobals "edited" = some (some (.ref f29)))
    (l29 : K.lookup f29 = some ⟨oc29, od29, .func (PySem.W.fnOf "edited" "edited" (defArgs sEdited) (defBody sEdited) (defScope sEdited) .none kV29 dc29 pm29 an29 cd29 ct29), sl29⟩)
    (c29 : PySem.W.codeIn K cd29 "edited" = true) (k29 : PySem.W.keepIn K (.ref f29) = true)
    (a30 : PySem.W.nsIn K mainGlobals "has_edit_form" = some (some (.ref f30)))
    (l30 : K.lookup f30 = some ⟨oc30, od30, .func (PySem.W.fnOf "has_edit_form" "has_edit_form" (defArgs sHasEF) (defBody sHasEF) (defScope sHasEF) .none kV30 dc30 pm30 an30 cd30 ct30), sl30⟩)
    (c30 : PySem.W.codeIn K cd30 "has_edit_form" = true) (k30 : PySem.W.keepIn K (.ref f30) = true)
    (a31 : PySem.W.nsIn K mainGlobals "check_edits" = some (some (.ref f31)))
    (l31 : K.lookup f31 = some ⟨oc31, od31, .func (PySem.W.fnOf "check_edits" "check_edits" (defArgs sChkE) (defBody sChkE) (defScope sChkE) .none kV31 dc31 pm31 an31 cd31 ct31), sl31⟩)
    (c31 : PySem.W.codeIn K cd31 "check_edits" = true) (k31 : PySem.W.keepIn K (.ref f31) = true)
    (a32 : PySem.W.nsIn K mainGlobals "_law_cell" = some (some (.ref f32)))
    (l32 : K.lookup f32 = some ⟨oc32, od32, .func (PySem.W.fnOf "_law_cell" "_law_cell" (defArgs sCell) (defBody sCell) (defScope sCell) .none kV32 dc32 pm32 an32 cd32 ct32), sl32⟩)
    (c32 : PySem.W.codeIn K cd32 "_law_cell" = true) (k32 : PySem.W.keepIn K (.ref f32) = true)
    (a33 : PySem.W.nsIn K mainGlobals "_law_pool" = some (some (.ref f33)))
    (l33 : K.lookup f33 = some ⟨oc33, od33, .func (PySem.W.fnOf "_law_pool" "_law_pool" (defArgs sPool) (defBody sPool) (defScope sPool) .none kV33 dc33 pm33 an33 cd33 ct33), sl33⟩)
    (c33 : PySem.W.codeIn K cd33 "_law_pool" = true) (k33 : PySem.W.keepIn K (.ref f33) = true)
    (a34 : PySem.W.nsIn K mainGlobals "_law_draw" = some (some (.ref f34)))
    (l34 : K.lookup f34 = some ⟨oc34, od34, .func (PySem.W.fnOf "_law_draw" "_law_draw" (defArgs sDraw) (defBody sDraw) (defScope sDraw) .none kV34 dc34 pm34 an34 cd34 ct34), sl34⟩)
    (c34 : PySem.W.codeIn K cd34 "_law_draw" = true) (k34 : PySem.W.keepIn K (.ref f34) = true)
    (a35 : PySem.W.nsIn K mainGlobals "_law_plan" = some (some (.ref f35)))
    (l35 : K.lookup f35 = some ⟨oc35, od35, .func (PySem.W.fnOf "_law_plan" "_law_plan" (defArgs sPlan) (defBody sPlan) (defScope sPlan) .none kV35 dc35 pm35 an35 cd35 ct35), sl35⟩)
    (c35 : PySem.W.codeIn K cd35 "_law_plan" = true) (k35 : PySem.W.keepIn K (.ref f35) = true)
    (a36 : PySem.W.nsIn K mainGlobals "_law_values" = some (some (.ref f36)))
    (l36 : K.lookup f36 = some ⟨oc36, od36, .func (PySem.W.fnOf "_law_values" "_law_values" (defArgs sValues) (defBody sValues) (defScope sValues) .none kV36 dc36 pm36 an36 cd36 ct36), sl36⟩)
    (c36 : PySem.W.codeIn K cd36 "_law_values" = true) (k36 : PySem.W.keepIn K (.ref f36) = true)
    (a37 : PySem.W.nsIn K mainGlobals "_law_word" = some (some (.ref f37)))
    (l37 : K.lookup f37 = some ⟨oc37, od37, .func (PySem.W.fnOf "_law_word" "_law_word" (defArgs sWord) (defBody sWord) (defScope sWord) .none kV37 dc37 pm37 an37 cd37 ct37), sl37⟩)
    (c37 : PySem.W.codeIn K cd37 "_law_word" = true) (k37 : PySem.W.keepIn K (.ref f37) = true)
    (a38 : PySem.W.nsIn K mainGlobals "_law_lines" = some (some (.ref f38)))
    (l38 : K.lookup f38 = some ⟨oc38, od38, .func (PySem.W.fnOf "_law_lines" "_law_lines" (defArgs sLawLines) (defBody sLawLines) (defScope sLawLines) .none kV38 dc38 pm38 an38 cd38 ct38), sl38⟩)
    (c38 : PySem.W.codeIn K cd38 "_law_lines" = true) (k38 : PySem.W.keepIn K (.ref f38) = true)
    (a39 : PySem.W.nsIn K mainGlobals "_law_sorted" = some (some (.ref f39)))
    (l39 : K.lookup f39 = some ⟨oc39, od39, .func (PySem.W.fnOf "_law_sorted" "_law_sorted" (defArgs sSorted) (defBody sSorted) (defScope sSorted) .none kV39 dc39 pm39 an39 cd39 ct39), sl39⟩)
    (c39 : PySem.W.codeIn K cd39 "_law_sorted" = true) (k39 : PySem.W.keepIn K (.ref f39) = true)
    (a40 : PySem.W.nsIn K mainGlobals "_law_after" = some (some (.ref f40)))
    (l40 : K.lookup f40 = some ⟨oc40, od40, .func (PySem.W.fnOf "_law_after" "_law_after" (defArgs sAfter) (defBody sAfter) (defScope sAfter) .none kV40 dc40 pm40 an40 cd40 ct40), sl40⟩)
    (c40 : PySem.W.codeIn K cd40 "_law_after" = true) (k40 : PySem.W.keepIn K (.ref f40) = true)
    (a41 : PySem.W.nsIn K mainGlobals "_law_rises" = some (some (.ref f41)))
    (l41 : K.lookup f41 = some ⟨oc41, od41, .func (PySem.W.fnOf "_law_rises" "_law_rises" (defArgs sRises) (defBody sRises) (defScope sRises) .none kV41 dc41 pm41 an41 cd41 ct41), sl41⟩)
    (c41 : PySem.W.codeIn K cd41 "_law_rises" = true) (k41 : PySem.W.keepIn K (.ref f41) = true)
    (a42 : PySem.W.nsIn K mainGlobals "_law_table" = some (some (.ref f42)))
    (l42 : K.lookup f42 = some ⟨oc42, od42, .func (PySem.W.fnOf "_law_table" "_law_table" (defArgs sTable) (defBody sTable) (defScope sTable) .none kV42 dc42 pm42 an42 cd42 ct42), sl42⟩)
    (c42 : PySem.W.codeIn K cd42 "_law_table" = true) (k42 : PySem.W.keepIn K (.ref f42) = true)
    (a43 : PySem.W.nsIn K mainGlobals "_law_steps" = some (some (.ref f43)))
    (l43 : K.lookup f43 = some ⟨oc43, od43, .func (PySem.W.fnOf "_law_steps" "_law_steps" (defArgs sLStp65) (defBody sLStp65) (defScope sLStp65) .none kV43 dc43 pm43 an43 cd43 ct43), sl43⟩)
    (c43 : PySem.W.codeIn K cd43 "_law_steps" = true) (k43 : PySem.W.keepIn K (.ref f43) = true)
    (a44 : PySem.W.nsIn K mainGlobals "_law_gone" = some (some (.ref f44)))
    (l44 : K.lookup f44 = some ⟨oc44, od44, .func (PySem.W.fnOf "_law_gone" "_law_gone" (defArgs sLGone) (defBody sLGone) (defScope sLGone) .none kV44 dc44 pm44 an44 cd44 ct44), sl44⟩)
    (c44 : PySem.W.codeIn K cd44 "_law_gone" = true) (k44 : PySem.W.keepIn K (.ref f44) = true)
    (a45 : PySem.W.nsIn K mainGlobals "_law_free" = some (some (.ref f45)))
    (l45 : K.lookup f45 = some ⟨oc45, od45, .func (PySem.W.fnOf "_law_free" "_law_free" (defArgs sLFree) (defBody sLFree) (defScope sLFree) .none kV45 dc45 pm45 an45 cd45 ct45), sl45⟩)
    (c45 : PySem.W.codeIn K cd45 "_law_free" = true) (k45 : PySem.W.keepIn K (.ref f45) = true)
    (a46 : PySem.W.nsIn K mainGlobals "_law_edit" = some (some (.ref f46)))
    (l46 : K.lookup f46 = some ⟨oc46, od46, .func (PySem.W.fnOf "_law_edit" "_law_edit" (defArgs sLEdit) (defBody sLEdit) (defScope sLEdit) .none kV46 dc46 pm46 an46 cd46 ct46), sl46⟩)
    (c46 : PySem.W.codeIn K cd46 "_law_edit" = true) (k46 : PySem.W.keepIn K (.ref f46) = true)
    (a47 : PySem.W.nsIn K mainGlobals "_law_behind" = some (some (.ref f47)))
    (l47 : K.lookup f47 = some ⟨oc47, od47, .func (PySem.W.fnOf "_law_behind" "_law_behind" (defArgs sLBeh) (defBody sLBeh) (defScope sLBeh) .none kV47 dc47 pm47 an47 cd47 ct47), sl47⟩)
    (c47 : PySem.W.codeIn K cd47 "_law_behind" = true) (k47 : PySem.W.keepIn K (.ref f47) = true)
    (a48 : PySem.W.nsIn K mainGlobals "_law_written" = some (some (.ref f48)))
    (l48 : K.lookup f48 = some ⟨oc48, od48, .func (PySem.W.fnOf "_law_written" "_law_written" (defArgs sLWrt) (defBody sLWrt) (defScope sLWrt) .none kV48 dc48 pm48 an48 cd48 ct48), sl48⟩)
    (c48 : PySem.W.codeIn K cd48 "_law_written" = true) (k48 : PySem.W.keepIn K (.ref f48) = true)
    (a49 : PySem.W.nsIn K mainGlobals "_law_shows" = some (some (.ref f49)))
    (l49 : K.lookup f49 = some ⟨oc49, od49, .func (PySem.W.fnOf "_law_shows" "_law_shows" (defArgs sLShows) (defBody sLShows) (defScope sLShows) .none kV49 dc49 pm49 an49 cd49 ct49), sl49⟩)
    (c49 : PySem.W.codeIn K cd49 "_law_shows" = true) (k49 : PySem.W.keepIn K (.ref f49) = true)
    (a50 : PySem.W.nsIn K mainGlobals "_law_some" = some (some (.ref f50)))
    (l50 : K.lookup f50 = some ⟨oc50, od50, .func (PySem.W.fnOf "_law_some" "_law_some" (defArgs sLSome67) (defBody sLSome67) (defScope sLSome67) .none kV50 dc50 pm50 an50 cd50 ct50), sl50⟩)
    (c50 : PySem.W.codeIn K cd50 "_law_some" = true) (k50 : PySem.W.keepIn K (.ref f50) = true)
    (a51 : PySem.W.nsIn K mainGlobals "_law_read" = some (some (.ref f51)))
    (l51 : K.lookup f51 = some ⟨oc51, od51, .func (PySem.W.fnOf "_law_read" "_law_read" (defArgs sLRead67) (defBody sLRead67) (defScope sLRead67) .none kV51 dc51 pm51 an51 cd51 ct51), sl51⟩)
    (c51 : PySem.W.codeIn K cd51 "_law_read" = true) (k51 : PySem.W.keepIn K (.ref f51) = true)
    (a52 : PySem.W.nsIn K mainGlobals "_law_beside" = some (some (.ref f52)))
    (l52 : K.lookup f52 = some ⟨oc52, od52, .func (PySem.W.fnOf "_law_beside" "_law_beside" (defArgs sLBeside) (defBody sLBeside) (defScope sLBeside) .none kV52 dc52 pm52 an52 cd52 ct52), sl52⟩)
    (c52 : PySem.W.codeIn K cd52 "_law_beside" = true) (k52 : PySem.W.keepIn K (.ref f52) = true)
    (a53 : PySem.W.nsIn K mainGlobals "_law_looker" = some (some (.ref f53)))
    (l53 : K.lookup f53 = some ⟨oc53, od53, .func (PySem.W.fnOf "_law_looker" "_law_looker" (defArgs sLLooker) (defBody sLLooker) (defScope sLLooker) .none kV53 dc53 pm53 an53 (.ref cc53) ct53), sl53⟩)
    (c53 : PySem.W.codeIn K (.ref cc53) "_law_looker" = true) (k53 : PySem.W.keepIn K (.ref f53) = true)
    (a54 : PySem.W.nsIn K mainGlobals "_law_seen_due" = some (some (.ref f54)))
    (l54 : K.lookup f54 = some ⟨oc54, od54, .func (PySem.W.fnOf "_law_seen_due" "_law_seen_due" (defArgs sLSeenDue) (defBody sLSeenDue) (defScope sLSeenDue) .none kV54 dc54 pm54 an54 cd54 ct54), sl54⟩)
    (c54 : PySem.W.codeIn K cd54 "_law_seen_due" = true) (k54 : PySem.W.keepIn K (.ref f54) = true)
    (a55 : PySem.W.nsIn K mainGlobals "_law_handed_right" = some (some (.ref f55)))
    (l55 : K.lookup f55 = some ⟨oc55, od55, .func (PySem.W.fnOf "_law_handed_right" "_law_handed_right" (defArgs sLHanded) (defBody sLHanded) (defScope sLHanded) .none kV55 dc55 pm55 an55 cd55 ct55), sl55⟩)
    (c55 : PySem.W.codeIn K cd55 "_law_handed_right" = true) (k55 : PySem.W.keepIn K (.ref f55) = true)
    (a56 : PySem.W.nsIn K mainGlobals "_law_right" = some (some (.ref f56)))
    (l56 : K.lookup f56 = some ⟨oc56, od56, .func (PySem.W.fnOf "_law_right" "_law_right" (defArgs sRight67) (defBody sRight67) (defScope sRight67) .none kV56 dc56 pm56 an56 cd56 ct56), sl56⟩)
    (c56 : PySem.W.codeIn K cd56 "_law_right" = true) (k56 : PySem.W.keepIn K (.ref f56) = true)
    (a57 : PySem.W.nsIn K mainGlobals "law" = some (some (.ref f57)))
    (l57 : K.lookup f57 = some ⟨oc57, od57, .func (PySem.W.fnOf "law" "law" (defArgs sLaw) (defBody sLaw) (defScope sLaw) .none kV57 dc57 pm57 an57 cd57 ct57), sl57⟩)
    (c57 : PySem.W.codeIn K cd57 "law" = true) (k57 : PySem.W.keepIn K (.ref f57) = true)
    (z0 : PySem.W.nsIn K mainGlobals "isinstance" = some none)
    (z1 : PySem.W.nsIn K mainGlobals "int" = some none)
    (z2 : PySem.W.nsIn K mainGlobals "bool" = some none)
    (z3 : PySem.W.nsIn K mainGlobals "tuple" = some none)
    (z4 : PySem.W.nsIn K mainGlobals "len" = some none)
    (z5 : PySem.W.nsIn K mainGlobals "enumerate" = some none)
    (z6 : PySem.W.nsIn K mainGlobals "str" = some none)
    (z7 : PySem.W.nsIn K mainGlobals "sorted" = some none)
    (z8 : PySem.W.nsIn K mainGlobals "list" = some none)
    (z9 : PySem.W.nsIn K mainGlobals "zip" = some none)
    (z10 : PySem.W.nsIn K mainGlobals "min" = some none)
    (z11 : PySem.W.nsIn K mainGlobals "max" = some none)
    (z12 : PySem.W.nsIn K mainGlobals "range" = some none)
    (z13 : PySem.W.nsIn K mainGlobals "abs" = some none)
    (z14 : PySem.W.nsIn K mainGlobals "divmod" = some none)
    (z15 : PySem.W.nsIn K mainGlobals "sum" = some none)
    (z16 : PySem.W.nsIn K mainGlobals "dict" = some none)
    (z17 : PySem.W.nsIn K mainGlobals "repr" = some none)
    (z18 : PySem.W.nsIn K mainGlobals "all" = some none)
    (w0 : PySem.W.nsIn K mainGlobals "MOST_INDEX" = some (some (.int 7 tk0)))
    (w1 : PySem.W.nsIn K mainGlobals "MOST_CELLS" = some (some (.int 24 tk1)))
    (w2 : PySem.W.nsIn K mainGlobals "MOST_VALUE" = some (some (.int 9999 tk2)))
    (w3 : PySem.W.nsIn K mainGlobals "MOST_LETTERS" = some (some (.int 400 tk3)))
    (w4 : PySem.W.nsIn K mainGlobals "MOST_TIMES" = some (some (.int 1000000000000000000000000000000 tk4)))
    (w5 : PySem.W.nsIn K mainGlobals "MOST_NESTED" = some (some (.int 5 tk5)))
    (w6 : PySem.W.nsIn K mainGlobals "MOST_STEPS" = some (some (.int 60 tk6)))
    (w7 : PySem.W.nsIn K mainGlobals "MOST_EDITS" = some (some (.int 1000 tk7)))
    {C0 : Addr} (aC0 : PySem.W.nsIn K mainGlobals "InvalidWord" = some (some (.ref C0)))
    {Ce0 fNe0 Sxe0 Ne0 : Addr} {nme0 qe0 : Str} {bse0 : List Value} {sne0 : List Str} {sube0 : List Value} {abe0 : Bool} {cole0 : Option Bool} {dde0 : Option Addr} {x0e0 x1e0 x2e0 x3e0 x5e0 : Option Value}
    {odNe0 anNe0 : Option Addr} {slNe0 : Array (Option Value)} {ocNe0 dcNe0 pmNe0 cdNe0 ctNe0 : Value} {p1e0 p2e0 q1e0 q2e0 q3e0 q4e0 : Pos}
    (aCe0 : PySem.W.nsIn K mainGlobals "InvalidCell" = some (some (.ref Ce0)))
    (xLe0 : K.lookup Ce0 = some (excClassObj nme0 qe0 Ce0 Ne0 bse0 [.ref Sxe0, .type "ValueError", .type "Exception", .type "BaseException", .type "object"] true sne0 sube0 abe0 cole0 dde0 x0e0 x1e0 x2e0 x3e0 x5e0 "ValueError.__new__"))
    (sae0 : PySem.W.findIn K (.ref Ce0) "__setattr__" = some (some (.builtin "object.__setattr__"))) (gae0 : PySem.W.findIn K (.ref Ce0) "__getattribute__" = some (some (.builtin "BaseException.__getattribute__")))
    (gge0 : PySem.W.findIn K (.ref Ce0) "__getattr__" = some none) (nbe0 : PySem.W.findIn K (.ref Ce0) "cell" = some none)
    (aNe0 : PySem.W.findIn K (.ref Ce0) "__init__" = some (some (.ref fNe0))) (tNe0 : PySem.W.typeIn K (.ref fNe0) = some (.type "function"))
    (lNe0 : K.lookup fNe0 = some ⟨ocNe0, odNe0, .func (PySem.W.fnOf "__init__" "InvalidCell.__init__" (PySem.XInvalidCell.iA p1e0 p2e0) (PySem.XInvalidCell.iB q1e0 q2e0 q3e0 q4e0) PySem.XInvalidCell.iS .none .none dcNe0 pmNe0 anNe0 cdNe0 ctNe0), slNe0⟩) (cNe0 : PySem.W.codeIn K cdNe0 "InvalidCell.__init__" = true)
    (kCe0 : PySem.W.keepIn K (.ref Ce0) = true) (eCe0 : PySem.W.subIn K (.ref Ce0) (.type "BaseException") = some true) (tCe0 : PySem.W.typeIn K (.ref Ce0) = some (.type "type")) (hCe0 : PySem.W.hasDictIn K Ce0 = true) (iCe0 : PySem.W.isClsIn K Ce0 = true) (sCe0 : PySem.W.subIn K (.ref Ce0) (.ref Ce0) = some true)
    {Cs fmIni fmPerf fmPlan fmFil fmLog fmVal fmSt9 fmLen fmEq fmStr fmRepr fmUndo : Addr} {odmIni anmIni odmPerf anmPerf odmPlan anmPlan odmFil anmFil odmLog anmLog odmVal anmVal odmSt9 anmSt9 odmLen anmLen odmEq anmEq odmStr anmStr odmRepr anmRepr odmUndo anmUndo : Option Addr} {slmIni slmPerf slmPlan slmFil slmLog slmVal slmSt9 slmLen slmEq slmStr slmRepr slmUndo : Array (Option Value)} {ocmIni kVmIni dcmIni pmmIni cdmIni ctmIni ocmPerf kVmPerf dcmPerf pmmPerf cdmPerf ctmPerf ocmPlan kVmPlan dcmPlan pmmPlan cdmPlan ctmPlan ocmFil kVmFil dcmFil pmmFil cdmFil ctmFil ocmLog kVmLog dcmLog pmmLog cdmLog ctmLog ocmVal kVmVal dcmVal pmmVal cdmVal ctmVal ocmSt9 kVmSt9 dcmSt9 pmmSt9 cdmSt9 ctmSt9 ocmLen kVmLen dcmLen pmmLen cdmLen ctmLen ocmEq kVmEq dcmEq pmmEq cdmEq ctmEq ocmStr kVmStr dcmStr pmmStr cdmStr ctmStr ocmRepr kVmRepr dcmRepr pmmRepr cdmRepr ctmRepr ocmUndo kVmUndo dcmUndo pmmUndo cdmUndo ctmUndo : Value}
    (aCs : PySem.W.nsIn K mainGlobals "Sheet" = some (some (.ref Cs)))
    (amIni : PySem.W.findIn K (.ref Cs) "__init__" = some (some (.ref fmIni))) (imIni : PySem.W.isFn K (.ref fmIni) = true)
    (lmIni : K.lookup fmIni = some ⟨ocmIni, odmIni, .func (PySem.W.fnOf "__init__" "Sheet.__init__" (defArgs sShInit) (defBody sShInit) (defScope sShInit) .none kVmIni dcmIni pmmIni anmIni cdmIni ctmIni), slmIni⟩)
    (cmIni : PySem.W.codeIn K cdmIni "Sheet.__init__" = true) (kmIni : PySem.W.keepIn K (.ref fmIni) = true)
    (amPerf : PySem.W.findIn K (.ref Cs) "perform" = some (some (.ref fmPerf))) (imPerf : PySem.W.isFn K (.ref fmPerf) = true)
    (lmPerf : K.lookup fmPerf = some ⟨ocmPerf, odmPerf, .func (PySem.W.fnOf "perform" "Sheet.perform" (defArgs sShPerf) (defBody sShPerf) (defScope sShPerf) .none kVmPerf dcmPerf pmmPerf anmPerf cdmPerf ctmPerf), slmPerf⟩)
    (cmPerf : PySem.W.codeIn K cdmPerf "Sheet.perform" = true) (kmPerf : PySem.W.keepIn K (.ref fmPerf) = true)
    (amPlan : PySem.W.findIn K (.ref Cs) "plan" = some (some (.ref fmPlan))) (imPlan : PySem.W.isFn K (.ref fmPlan) = true)
    (lmPlan : K.lookup fmPlan = some ⟨ocmPlan, odmPlan, .func (PySem.W.fnOf "plan" "Sheet.plan" (defArgs sShPlan) (defBody sShPlan) (defScope sShPlan) .none kVmPlan dcmPlan pmmPlan anmPlan cdmPlan ctmPlan), slmPlan⟩)
    (cmPlan : PySem.W.codeIn K cdmPlan "Sheet.plan" = true) (kmPlan : PySem.W.keepIn K (.ref fmPlan) = true)
    (amFil : PySem.W.findIn K (.ref Cs) "filling" = some (some (.ref fmFil))) (imFil : PySem.W.isFn K (.ref fmFil) = true)
    (lmFil : K.lookup fmFil = some ⟨ocmFil, odmFil, .func (PySem.W.fnOf "filling" "Sheet.filling" (defArgs sShFil) (defBody sShFil) (defScope sShFil) .none kVmFil dcmFil pmmFil anmFil cdmFil ctmFil), slmFil⟩)
    (cmFil : PySem.W.codeIn K cdmFil "Sheet.filling" = true) (kmFil : PySem.W.keepIn K (.ref fmFil) = true)
    (amLog : PySem.W.findIn K (.ref Cs) "log" = some (some (.ref fmLog))) (imLog : PySem.W.isFn K (.ref fmLog) = true)
    (lmLog : K.lookup fmLog = some ⟨ocmLog, odmLog, .func (PySem.W.fnOf "log" "Sheet.log" (defArgs sShLog) (defBody sShLog) (defScope sShLog) .none kVmLog dcmLog pmmLog anmLog cdmLog ctmLog), slmLog⟩)
    (cmLog : PySem.W.codeIn K cdmLog "Sheet.log" = true) (kmLog : PySem.W.keepIn K (.ref fmLog) = true)
    (amVal : PySem.W.findIn K (.ref Cs) "value_at" = some (some (.ref fmVal))) (imVal : PySem.W.isFn K (.ref fmVal) = true)
    (lmVal : K.lookup fmVal = some ⟨ocmVal, odmVal, .func (PySem.W.fnOf "value_at" "Sheet.value_at" (defArgs sShVal) (defBody sShVal) (defScope sShVal) .none kVmVal dcmVal pmmVal anmVal cdmVal ctmVal), slmVal⟩)
    (cmVal : PySem.W.codeIn K cdmVal "Sheet.value_at" = true) (kmVal : PySem.W.keepIn K (.ref fmVal) = true)
    (amSt9 : PySem.W.findIn K (.ref Cs) "is_settled" = some (some (.ref fmSt9))) (imSt9 : PySem.W.isFn K (.ref fmSt9) = true)
    (lmSt9 : K.lookup fmSt9 = some ⟨ocmSt9, odmSt9, .func (PySem.W.fnOf "is_settled" "Sheet.is_settled" (defArgs sShSet9) (defBody sShSet9) (defScope sShSet9) .none kVmSt9 dcmSt9 pmmSt9 anmSt9 cdmSt9 ctmSt9), slmSt9⟩)
    (cmSt9 : PySem.W.codeIn K cdmSt9 "Sheet.is_settled" = true) (kmSt9 : PySem.W.keepIn K (.ref fmSt9) = true)
    (amLen : PySem.W.findIn K (.ref Cs) "__len__" = some (some (.ref fmLen))) (imLen : PySem.W.isFn K (.ref fmLen) = true)
    (lmLen : K.lookup fmLen = some ⟨ocmLen, odmLen, .func (PySem.W.fnOf "__len__" "Sheet.__len__" (defArgs sShLen) (defBody sShLen) (defScope sShLen) .none kVmLen dcmLen pmmLen anmLen cdmLen ctmLen), slmLen⟩)
    (cmLen : PySem.W.codeIn K cdmLen "Sheet.__len__" = true) (kmLen : PySem.W.keepIn K (.ref fmLen) = true)
    (amEq : PySem.W.findIn K (.ref Cs) "__eq__" = some (some (.ref fmEq))) (imEq : PySem.W.isFn K (.ref fmEq) = true)
    (lmEq : K.lookup fmEq = some ⟨ocmEq, odmEq, .func (PySem.W.fnOf "__eq__" "Sheet.__eq__" (defArgs sShEq) (defBody sShEq) (defScope sShEq) .none kVmEq dcmEq pmmEq anmEq cdmEq ctmEq), slmEq⟩)
    (cmEq : PySem.W.codeIn K cdmEq "Sheet.__eq__" = true) (kmEq : PySem.W.keepIn K (.ref fmEq) = true)
    (amStr : PySem.W.findIn K (.ref Cs) "__str__" = some (some (.ref fmStr))) (imStr : PySem.W.isFn K (.ref fmStr) = true)
    (lmStr : K.lookup fmStr = some ⟨ocmStr, odmStr, .func (PySem.W.fnOf "__str__" "Sheet.__str__" (defArgs sShStr) (defBody sShStr) (defScope sShStr) .none kVmStr dcmStr pmmStr anmStr cdmStr ctmStr), slmStr⟩)
    (cmStr : PySem.W.codeIn K cdmStr "Sheet.__str__" = true) (kmStr : PySem.W.keepIn K (.ref fmStr) = true)
    (amRepr : PySem.W.findIn K (.ref Cs) "__repr__" = some (some (.ref fmRepr))) (imRepr : PySem.W.isFn K (.ref fmRepr) = true)
    (lmRepr : K.lookup fmRepr = some ⟨ocmRepr, odmRepr, .func (PySem.W.fnOf "__repr__" "Sheet.__repr__" (defArgs sShRepr) (defBody sShRepr) (defScope sShRepr) .none kVmRepr dcmRepr pmmRepr anmRepr cdmRepr ctmRepr), slmRepr⟩)
    (cmRepr : PySem.W.codeIn K cdmRepr "Sheet.__repr__" = true) (kmRepr : PySem.W.keepIn K (.ref fmRepr) = true)
    (amUndo : PySem.W.findIn K (.ref Cs) "undo" = some (some (.ref fmUndo))) (imUndo : PySem.W.isFn K (.ref fmUndo) = true)
    (lmUndo : K.lookup fmUndo = some ⟨ocmUndo, odmUndo, .func (PySem.W.fnOf "undo" "Sheet.undo" (defArgs sShUndo) (defBody sShUndo) (defScope sShUndo) .none kVmUndo dcmUndo pmmUndo anmUndo cdmUndo ctmUndo), slmUndo⟩)
    (cmUndo : PySem.W.codeIn K cdmUndo "Sheet.undo" = true) (kmUndo : PySem.W.keepIn K (.ref fmUndo) = true)
    (pgS : PySem.W.plainGet K Cs Str.empty = true)
    (hdS : PySem.W.hasDictIn K Cs = true)
    (poS : PySem.W.plainOver K Cs = true)
    (saS : PySem.W.findIn K (.ref Cs) "__setattr__" = some (some (.builtin "object.__setattr__")))
    (mkS : PySem.W.makesIn K Cs = true)
    (kcS : PySem.W.keepIn K (.ref Cs) = true)
    (nS0 : PySem.W.findIn K (.ref Cs) "cells" = some none)
    (nS1 : PySem.W.findIn K (.ref Cs) "numbers" = some none)
    (nS2 : PySem.W.findIn K (.ref Cs) "past" = some none)
    (nS3 : PySem.W.findIn K (.ref Cs) "busy" = some none)
    (caS : PySem.W.findIn K (.ref Cs) "__class__" = some (some (.builtin "object.__class__")))
    (cnS : PySem.W.specialIn K (.builtin "object.__class__") "__get__" = some (some (.builtin "getset_descriptor.__get__")))
    (ctS : PySem.W.takesIn K (.builtin "object.__class__") = some true)
    (cmS : PySem.W.mroIn K Cs (.type "object") = some true)
    (qS0 : PySem.W.kitOne K (.type "NoneType") (.ref Cs) = some false)
    (qS1 : PySem.W.kitOne K (.type "tuple") (.ref Cs) = some false)
    (qS2 : PySem.W.kitOne K (.type "str") (.ref Cs) = some false)
    (qS3 : PySem.W.kitOne K (.type "int") (.ref Cs) = some false)
    (qS4 : PySem.W.kitOne K (.type "bool") (.ref Cs) = some false)
    (qS5 : PySem.W.kitOne K (.type "list") (.ref Cs) = some false)
    (neS : PySem.W.findIn K (.ref Cs) "__ne__" = some (some (.builtin "object.__ne__")))
    {fmAll Tw ef e1 e2 e3 : Addr} {odAll anAll odF od1' od2' od3' : Option Addr} {slAll slF sl1' sl2' sl3' : Array (Option Value)} {ocAll dcAll pmAll cdAll ctAll : Value} {nF n1 n2 n3 : Nat} {tkF1 tkF2 tkF3 tkG1 tkG2 tkG3 : Tok}
    (amAll : PySem.W.findIn K (.ref Cs) "do_all" = some (some (.ref fmAll))) (imAll : PySem.W.isFn K (.ref fmAll) = true)
    (lmAll : K.lookup fmAll = some ⟨ocAll, odAll, .func (PySem.W.fnOf "do_all" "Sheet.do_all" (defArgs sShDoAll) (defBody sShDoAll) (defScope sShDoAll) .none (.ref Tw) dcAll pmAll anAll cdAll ctAll), slAll⟩)
    (cmAll : PySem.W.codeIn K cdAll "Sheet.do_all" = true) (kmAll : PySem.W.keepIn K (.ref fmAll) = true) (wmAll : PySem.W.nsIn K Tw "watch" = some (some .none))
    (aEF : PySem.W.nsIn K mainGlobals "EDIT_FORMS" = some (some (.ref ef)))
    (lEF : K.lookup ef = some ⟨.type "tuple", odF, .seq #[.ref e1, .ref e2, .ref e3] nF, slF⟩)
    (lE1 : K.lookup e1 = some ⟨.type "tuple", od1', .seq #[.str "arrange" tkG1, .int 2 tkF1] n1, sl1'⟩)
    (lE2 : K.lookup e2 = some ⟨.type "tuple", od2', .seq #[.str "set" tkG2, .int 3 tkF2] n2, sl2'⟩)
    (lE3 : K.lookup e3 = some ⟨.type "tuple", od3', .seq #[.str "swap" tkG3, .int 3 tkF3] n3, sl3'⟩)
    (h53 : PySem.W.codeHdIn K cc53 (tabOf K cc53) = true) (o53 : (K.lookup (tabOf K cc53)).isNone = true) (t53 : h.get? (tabOf K cc53) = some (PySem.W.tabObj #[]))
    : LawHas l w K 19 63 "_law_script" mg fa h := by
  have e := hfa.symm.trans (PySem.W.mg_of X G a57)
  cases e
  have F0 := fun_mk (st := sWhole) l0 c0 k0
  have m0 := PySem.W.mg_of X G a0
  have F1 := fun_mk (st := sBetween) l1 c1 k1
  have m1 := PySem.W.mg_of X G a1
  have F2 := fun_mk (st := sPlace) l2 c2 k2
  have m2 := PySem.W.mg_of X G a2
  have F3 := fun_mk (st := sIsCell) l3 c3 k3
  have m3 := PySem.W.mg_of X G a3
  have F4 := fun_mk (st := sCheck) l4 c4 k4
  have m4 := PySem.W.mg_of X G a4
  have F5 := fun_mk (st := sIsKind) l5 c5 k5
  have m5 := PySem.W.mg_of X G a5
  have F6 := fun_mk (st := sKind) l6 c6 k6
  have m6 := PySem.W.mg_of X G a6
  have F7 := fun_mk (st := sLines) l7 c7 k7
  have m7 := PySem.W.mg_of X G a7
  have F8 := fun_mk (st := sFF) l8 c8 k8
  have m8 := PySem.W.mg_of X G a8
  have F9 := fun_mk (st := sCheckF) l9 c9 k9
  have m9 := PySem.W.mg_of X G a9
  have F10 := fun_mk (st := sCheckL) l10 c10 k10
  have m10 := PySem.W.mg_of X G a10
  have F11 := fun_mk (st := sCheckW) l11 c11 k11
  have m11 := PySem.W.mg_of X G a11
  have F12 := fun_mk (st := sIsWord) l12 c12 k12
  have m12 := PySem.W.mg_of X G a12
  have F13 := fun_mk (st := sAlong) l13 c13 k13
  have m13 := PySem.W.mg_of X G a13
  have F14 := fun_mk (st := sSortLines) l14 c14 k14
  have m14 := PySem.W.mg_of X G a14
  have F15 := fun_mk (st := sAfterP) l15 c15 k15
  have m15 := PySem.W.mg_of X G a15
  have F16 := fun_mk (st := sIsSorted) l16 c16 k16
  have m16 := PySem.W.mg_of X G a16
  have F17 := fun_mk (st := sSettled) l17 c17 k17
  have m17 := PySem.W.mg_of X G a17
  have F18 := fun_mk (st := sSqz) l18 c18 k18
  have m18 := PySem.W.mg_of X G a18
  have F19 := fun_mk (st := sIsRep) l19 c19 k19
  have m19 := PySem.W.mg_of X G a19
  have F20 := fun_mk (st := sCS) l20 c20 k20
  have m20 := PySem.W.mg_of X G a20
  have F21 := fun_mk (st := sCP) l21 c21 k21
  have m21 := PySem.W.mg_of X G a21
  have F22 := fun_mk (st := sRpt) l22 c22 k22
  have m22 := PySem.W.mg_of X G a22
  have F23 := fun_mk (st := sFlat) l23 c23 k23
  have m23 := PySem.W.mg_of X G a23
  have F24 := fun_mk (st := sRun) l24 c24 k24
  have m24 := PySem.W.mg_of X G a24
  have F25 := fun_mk (st := sFmtT) l25 c25 k25
  have m25 := PySem.W.mg_of X G a25
  have F26 := fun_mk (st := sIxCell) l26 c26 k26
  have m26 := PySem.W.mg_of X G a26
  have F27 := fun_mk (st := sWithV) l27 c27 k27
  have m27 := PySem.W.mg_of X G a27
  have F28 := fun_mk (st := sWithS) l28 c28 k28
  have m28 := PySem.W.mg_of X G a28
  have F29 := fun_mk (st := sEdited) l29 c29 k29
  have m29 := PySem.W.mg_of X G a29
  have F30 := fun_mk (st := sHasEF) l30 c30 k30
  have m30 := PySem.W.mg_of X G a30
  have F31 := fun_mk (st := sChkE) l31 c31 k31
  have m31 := PySem.W.mg_of X G a31
  have F32 := fun_mk (st := sCell) l32 c32 k32
  have m32 := PySem.W.mg_of X G a32
  have F33 := fun_mk (st := sPool) l33 c33 k33
  have m33 := PySem.W.mg_of X G a33
  have F34 := fun_mk (st := sDraw) l34 c34 k34
  have m34 := PySem.W.mg_of X G a34
  have F35 := fun_mk (st := sPlan) l35 c35 k35
  have m35 := PySem.W.mg_of X G a35
  have F36 := fun_mk (st := sValues) l36 c36 k36
  have m36 := PySem.W.mg_of X G a36
  have F37 := fun_mk (st := sWord) l37 c37 k37
  have m37 := PySem.W.mg_of X G a37
  have F38 := fun_mk (st := sLawLines) l38 c38 k38
  have m38 := PySem.W.mg_of X G a38
  have F39 := fun_mk (st := sSorted) l39 c39 k39
  have m39 := PySem.W.mg_of X G a39
  have F40 := fun_mk (st := sAfter) l40 c40 k40
  have m40 := PySem.W.mg_of X G a40
  have F41 := fun_mk (st := sRises) l41 c41 k41
  have m41 := PySem.W.mg_of X G a41
  have F42 := fun_mk (st := sTable) l42 c42 k42
  have m42 := PySem.W.mg_of X G a42
  have F43 := fun_mk (st := sLStp65) l43 c43 k43
  have m43 := PySem.W.mg_of X G a43
  have F44 := fun_mk (st := sLGone) l44 c44 k44
  have m44 := PySem.W.mg_of X G a44
  have F45 := fun_mk (st := sLFree) l45 c45 k45
  have m45 := PySem.W.mg_of X G a45
  have F46 := fun_mk (st := sLEdit) l46 c46 k46
  have m46 := PySem.W.mg_of X G a46
  have F47 := fun_mk (st := sLBeh) l47 c47 k47
  have m47 := PySem.W.mg_of X G a47
  have F48 := fun_mk (st := sLWrt) l48 c48 k48
  have m48 := PySem.W.mg_of X G a48
  have F49 := fun_mk (st := sLShows) l49 c49 k49
  have m49 := PySem.W.mg_of X G a49
  have F50 := fun_mk (st := sLSome67) l50 c50 k50
  have m50 := PySem.W.mg_of X G a50
  have F51 := fun_mk (st := sLRead67) l51 c51 k51
  have m51 := PySem.W.mg_of X G a51
  have F52 := fun_mk (st := sLBeside) l52 c52 k52
  have m52 := PySem.W.mg_of X G a52
  have U53 := fun_mk (st := sLLooker) l53 c53 k53
  have F53 : FunC K "_law_looker" "_law_looker" sLLooker f53 cc53 _ := ⟨_, _, _, _, _, _, _, _, rfl, l53, c53⟩
  have m53 := PySem.W.mg_of X G a53
  have F54 := fun_mk (st := sLSeenDue) l54 c54 k54
  have m54 := PySem.W.mg_of X G a54
  have F55 := fun_mk (st := sLHanded) l55 c55 k55
  have m55 := PySem.W.mg_of X G a55
  have F56 := fun_mk (st := sRight67) l56 c56 k56
  have m56 := PySem.W.mg_of X G a56
  have F57 := fun_mk (st := sLaw) l57 c57 k57
  have m57 := PySem.W.mg_of X G a57
  have n_isinstance := PySem.W.mg_none_of X G z0
  have n_int := PySem.W.mg_none_of X G z1
  have n_bool := PySem.W.mg_none_of X G z2
  have n_tuple := PySem.W.mg_none_of X G z3
  have n_len := PySem.W.mg_none_of X G z4
  have n_enumerate := PySem.W.mg_none_of X G z5
  have n_str := PySem.W.mg_none_of X G z6
  have n_sorted := PySem.W.mg_none_of X G z7
  have n_list := PySem.W.mg_none_of X G z8
  have n_zip := PySem.W.mg_none_of X G z9
  have n_min := PySem.W.mg_none_of X G z10
  have n_max := PySem.W.mg_none_of X G z11
  have n_range := PySem.W.mg_none_of X G z12
  have n_abs := PySem.W.mg_none_of X G z13
  have n_divmod := PySem.W.mg_none_of X G z14
  have n_sum := PySem.W.mg_none_of X G z15
  have n_dict := PySem.W.mg_none_of X G z16
  have n_repr := PySem.W.mg_none_of X G z17
  have n_all := PySem.W.mg_none_of X G z18
  have c_MOST_INDEX := PySem.W.mg_of X G w0
  have c_MOST_CELLS := PySem.W.mg_of X G w1
  have c_MOST_VALUE := PySem.W.mg_of X G w2
  have c_MOST_LETTERS := PySem.W.mg_of X G w3
  have c_MOST_TIMES := PySem.W.mg_of X G w4
  have c_MOST_NESTED := PySem.W.mg_of X G w5
  have c_MOST_STEPS := PySem.W.mg_of X G w6
  have c_MOST_EDITS := PySem.W.mg_of X G w7
  have b0 := F0.binds (ps := ["value"]) fun _ _ _ _ _ _ us hl => match us, hl with | [_], _ => rfl
  have b1 := F1.binds (ps := ["value", "least", "most"]) fun _ _ _ _ _ _ us hl => match us, hl with | [_, _, _], _ => rfl
  have b2 := F2.binds (ps := ["value"]) fun _ _ _ _ _ _ us hl => match us, hl with | [_], _ => rfl
  have b3 := F3.binds (ps := ["value"]) fun _ _ _ _ _ _ us hl => match us, hl with | [_], _ => rfl
  have b4 := F4.binds (ps := ["plan"]) fun _ _ _ _ _ _ us hl => match us, hl with | [_], _ => rfl
  have b5 := F5.binds (ps := ["value"]) fun _ _ _ _ _ _ us hl => match us, hl with | [_], _ => rfl
  have b6 := F6.binds (ps := ["kind"]) fun _ _ _ _ _ _ us hl => match us, hl with | [_], _ => rfl
  have b7 := F7.binds (ps := ["plan", "kind"]) fun _ _ _ _ _ _ us hl => match us, hl with | [_, _], _ => rfl
  have b8 := F8.binds (ps := ["values", "most"]) fun _ _ _ _ _ _ us hl => match us, hl with | [_, _], _ => rfl
  have b9 := F9.binds (ps := ["size", "filling"]) fun _ _ _ _ _ _ us hl => match us, hl with | [_, _], _ => rfl
  have b10 := F10.binds (ps := ["word", "letters"]) fun _ _ _ _ _ _ us hl => match us, hl with | [_, _], _ => rfl
  have b11 := F11.binds (ps := ["word"]) fun _ _ _ _ _ _ us hl => match us, hl with | [_], _ => rfl
  have b12 := F12.binds (ps := ["value"]) fun _ _ _ _ _ _ us hl => match us, hl with | [_], _ => rfl
  have b13 := F13.binds (ps := ["groups", "filling"]) fun _ _ _ _ _ _ us hl => match us, hl with | [_, _], _ => rfl
  have b14 := F14.binds (ps := ["plan", "filling", "kind"]) fun _ _ _ _ _ _ us hl => match us, hl with | [_, _, _], _ => rfl
  have b15 := F15.binds (ps := ["plan", "filling", "word"]) fun _ _ _ _ _ _ us hl => match us, hl with | [_, _, _], _ => rfl
  have b16 := F16.binds (ps := ["plan", "filling", "kind"]) fun _ _ _ _ _ _ us hl => match us, hl with | [_, _, _], _ => rfl
  have b17 := F17.binds (ps := ["plan", "filling"]) fun _ _ _ _ _ _ us hl => match us, hl with | [_, _], _ => rfl
  have b18 := F18.binds (ps := ["word"]) fun _ _ _ _ _ _ us hl => match us, hl with | [_], _ => rfl
  have b19 := F19.binds (ps := ["value"]) fun _ _ _ _ _ _ us hl => match us, hl with | [_], _ => rfl
  have b20 := F20.binds (ps := ["step", "depth", "room"]) fun _ _ _ _ _ _ us hl => match us, hl with | [_, _, _], _ => rfl
  have b21 := F21.binds (ps := ["program"]) fun _ _ _ _ _ _ us hl => match us, hl with | [_], _ => rfl
  have b22 := F22.binds (ps := ["word", "times"]) fun _ _ _ _ _ _ us hl => match us, hl with | [_, _], _ => rfl
  have b23 := F23.binds (ps := ["program"]) fun _ _ _ _ _ _ us hl => match us, hl with | [_], _ => rfl
  have b24 := F24.binds (ps := ["plan", "filling", "program"]) fun _ _ _ _ _ _ us hl => match us, hl with | [_, _, _], _ => rfl
  have b25 := F25.binds (ps := ["plan", "filling"]) fun _ _ _ _ _ _ us hl => match us, hl with | [_, _], _ => rfl
  have b26 := F26.binds (ps := ["plan", "cell"]) fun _ _ _ _ _ _ us hl => match us, hl with | [_, _], _ => rfl
  have b27 := F27.binds (ps := ["plan", "filling", "cell", "value"]) fun _ _ _ _ _ _ us hl => match us, hl with | [_, _, _, _], _ => rfl
  have b28 := F28.binds (ps := ["plan", "filling", "cell", "other"]) fun _ _ _ _ _ _ us hl => match us, hl with | [_, _, _, _], _ => rfl
  have b29 := F29.binds (ps := ["plan", "filling", "edit"]) fun _ _ _ _ _ _ us hl => match us, hl with | [_, _, _], _ => rfl
  have b30 := F30.binds (ps := ["value"]) fun _ _ _ _ _ _ us hl => match us, hl with | [_], _ => rfl
  have b31 := F31.binds (ps := ["edits"]) fun _ _ _ _ _ _ us hl => match us, hl with | [_], _ => rfl
  have b32 := F32.binds (ps := ["_law_script", "_law_k"]) fun _ _ _ _ _ _ us hl => match us, hl with | [_, _], _ => rfl
  have b33 := F33.binds (ps := ["_law_number"]) fun _ _ _ _ _ _ us hl => match us, hl with | [_], _ => rfl
  have b34 := F34.binds (ps := ["_law_pool_here", "_law_most"]) fun _ _ _ _ _ _ us hl => match us, hl with | [_, _], _ => rfl
  have b35 := F35.binds (ps := ["_law_pool_here", "_law_most"]) fun _ _ _ _ _ _ us hl => match us, hl with | [_, _], _ => rfl
  have b36 := F36.binds (ps := ["_law_pool_here", "_law_size"]) fun _ _ _ _ _ _ us hl => match us, hl with | [_, _], _ => rfl
  have b37 := F37.binds (ps := ["_law_pool_here", "_law_most"]) fun _ _ _ _ _ _ us hl => match us, hl with | [_, _], _ => rfl
  have b38 := F38.binds (ps := ["_law_spots", "_law_sort"]) fun _ _ _ _ _ _ us hl => match us, hl with | [_, _], _ => rfl
  have b39 := F39.binds (ps := ["_law_spots", "_law_some_here", "_law_sort"]) fun _ _ _ _ _ _ us hl => match us, hl with | [_, _, _], _ => rfl
  have b40 := F40.binds (ps := ["_law_spots", "_law_some_here", "_law_letters"]) fun _ _ _ _ _ _ us hl => match us, hl with | [_, _, _], _ => rfl
  have b41 := F41.binds (ps := ["_law_spots", "_law_some_here", "_law_sort"]) fun _ _ _ _ _ _ us hl => match us, hl with | [_, _, _], _ => rfl
  have b42 := F42.binds (ps := ["_law_pool_here"]) fun _ _ _ _ _ _ us hl => match us, hl with | [_], _ => rfl
  have b43 := F43.binds (ps := ["_law_pool_here", "_law_many", "_law_deep"]) fun _ _ _ _ _ _ us hl => match us, hl with | [_, _, _], _ => rfl
  have b44 := F44.binds (ps := ["_law_spots", "_law_some_here", "_law_steps_here"]) fun _ _ _ _ _ _ us hl => match us, hl with | [_, _, _], _ => rfl
  have b45 := F45.binds (ps := ["_law_pool_here", "_law_some_here"]) fun _ _ _ _ _ _ us hl => match us, hl with | [_, _], _ => rfl
  have b46 := F46.binds (ps := ["_law_pool_here", "_law_spots", "_law_some_here"]) fun _ _ _ _ _ _ us hl => match us, hl with | [_, _, _], _ => rfl
  have b47 := F47.binds (ps := ["_law_spots", "_law_some_here", "_law_edit_here"]) fun _ _ _ _ _ _ us hl => match us, hl with | [_, _, _], _ => rfl
  have b48 := F48.binds (ps := ["_law_spots", "_law_some_here"]) fun _ _ _ _ _ _ us hl => match us, hl with | [_, _], _ => rfl
  have b49 := F49.binds (ps := ["_law_board", "_law_spots", "_law_some_here", "_law_done"]) fun _ _ _ _ _ _ us hl => match us, hl with | [_, _, _, _], _ => rfl
  have b50 := F50.binds (ps := ["_law_pool_here", "_law_spots", "_law_some_here", "_law_most"]) fun _ _ _ _ _ _ us hl => match us, hl with | [_, _, _, _], _ => rfl
  have b51 := F51.binds (ps := ["_law_board", "_law_at"]) fun _ _ _ _ _ _ us hl => match us, hl with | [_, _], _ => rfl
  have b52 := F52.binds (ps := ["_law_here", "_law_mate", "_law_edit_here"]) fun _ _ _ _ _ _ us hl => match us, hl with | [_, _, _], _ => rfl
  have b53 := U53.binds (ps := ["_law_board", "_law_mate", "_law_work", "_law_seen", "_law_handed"]) fun _ _ _ _ _ _ us hl => match us, hl with | [_, _, _, _, _], _ => rfl
  have b54 := F54.binds (ps := ["_law_spots", "_law_tables", "_law_done", "_law_work"]) fun _ _ _ _ _ _ us hl => match us, hl with | [_, _, _, _], _ => rfl
  have b55 := F55.binds (ps := ["_law_board", "_law_here", "_law_before", "_law_done"]) fun _ _ _ _ _ _ us hl => match us, hl with | [_, _, _, _], _ => rfl
  have b56 := F56.binds (ps := ["_law_pool_here"]) fun _ _ _ _ _ _ us hl => match us, hl with | [_], _ => rfl
  have gInvalidWord : mg "InvalidWord" = some (.ref C0) := PySem.W.mg_of X G aC0
  have T65 : ShCls K mg Cs := ⟨⟨pgS, hdS, poS, saS⟩, nS0, nS1, nS2, nS3, PySem.W.mg_of X G aCs, caS, cnS, ctS, cmS, qS0, qS1, qS2, qS3, qS4, qS5⟩
  have FIni := fun_mk (st := sShInit) lmIni cmIni kmIni
  have bIni := FIni.binds (ps := ["self", "plan", "filling"]) fun _ _ _ _ _ _ us hl => match us, hl with | [_, _, _], _ => rfl
  have mIni : Meth K Cs "__init__" fmIni := ⟨amIni, imIni, kmIni⟩
  have FPerf := fun_mk (st := sShPerf) lmPerf cmPerf kmPerf
  have bPerf := FPerf.binds (ps := ["self", "edit"]) fun _ _ _ _ _ _ us hl => match us, hl with | [_, _], _ => rfl
  have mPerf : Meth K Cs "perform" fmPerf := ⟨amPerf, imPerf, kmPerf⟩
  have FPlan := fun_mk (st := sShPlan) lmPlan cmPlan kmPlan
  have bPlan := FPlan.binds (ps := ["self"]) fun _ _ _ _ _ _ us hl => match us, hl with | [_], _ => rfl
  have mPlan : Meth K Cs "plan" fmPlan := ⟨amPlan, imPlan, kmPlan⟩
  have FFil := fun_mk (st := sShFil) lmFil cmFil kmFil
  have bFil := FFil.binds (ps := ["self"]) fun _ _ _ _ _ _ us hl => match us, hl with | [_], _ => rfl
  have mFil : Meth K Cs "filling" fmFil := ⟨amFil, imFil, kmFil⟩
  have FLog := fun_mk (st := sShLog) lmLog cmLog kmLog
  have bLog := FLog.binds (ps := ["self"]) fun _ _ _ _ _ _ us hl => match us, hl with | [_], _ => rfl
  have mLog : Meth K Cs "log" fmLog := ⟨amLog, imLog, kmLog⟩
  have FVal := fun_mk (st := sShVal) lmVal cmVal kmVal
  have bVal := FVal.binds (ps := ["self", "cell"]) fun _ _ _ _ _ _ us hl => match us, hl with | [_, _], _ => rfl
  have mVal : Meth K Cs "value_at" fmVal := ⟨amVal, imVal, kmVal⟩
  have FSt9 := fun_mk (st := sShSet9) lmSt9 cmSt9 kmSt9
  have bSt9 := FSt9.binds (ps := ["self"]) fun _ _ _ _ _ _ us hl => match us, hl with | [_], _ => rfl
  have mSt9 : Meth K Cs "is_settled" fmSt9 := ⟨amSt9, imSt9, kmSt9⟩
  have FLen := fun_mk (st := sShLen) lmLen cmLen kmLen
  have bLen := FLen.binds (ps := ["self"]) fun _ _ _ _ _ _ us hl => match us, hl with | [_], _ => rfl
  have mLen : Meth K Cs "__len__" fmLen := ⟨amLen, imLen, kmLen⟩
  have FEq := fun_mk (st := sShEq) lmEq cmEq kmEq
  have bEq := FEq.binds (ps := ["self", "other"]) fun _ _ _ _ _ _ us hl => match us, hl with | [_, _], _ => rfl
  have mEq : Meth K Cs "__eq__" fmEq := ⟨amEq, imEq, kmEq⟩
  have FStr := fun_mk (st := sShStr) lmStr cmStr kmStr
  have bStr := FStr.binds (ps := ["self"]) fun _ _ _ _ _ _ us hl => match us, hl with | [_], _ => rfl
  have mStr : Meth K Cs "__str__" fmStr := ⟨amStr, imStr, kmStr⟩
  have FRepr := fun_mk (st := sShRepr) lmRepr cmRepr kmRepr
  have bRepr := FRepr.binds (ps := ["self"]) fun _ _ _ _ _ _ us hl => match us, hl with | [_], _ => rfl
  have mRepr : Meth K Cs "__repr__" fmRepr := ⟨amRepr, imRepr, kmRepr⟩
  have FUndo := fun_mk (st := sShUndo) lmUndo cmUndo kmUndo
  have bUndo := FUndo.binds (ps := ["self"]) fun _ _ _ _ _ _ us hl => match us, hl with | [_], _ => rfl
  have mUndo : Meth K Cs "undo" fmUndo := ⟨amUndo, imUndo, kmUndo⟩
  have M65 : Mk K Cs fmIni := ⟨mkS, amIni, imIni, kcS⟩
  have lowInvalidCell : PySem.XInvalidCell.InvalidCellTxt K mg Ce0 fNe0 :=
    { gC := PySem.W.mg_of X G aCe0, cls := ⟨nme0, qe0, Ne0, bse0, _, sne0, sube0, abe0, cole0, dde0, x0e0, x1e0, x2e0, x3e0, x5e0, xLe0, rfl⟩, sa := sae0, ga := gae0, gg := gge0, noN := nbe0, iC := aNe0, tC := tNe0, kC := kCe0, exC := eCe0, tyC := tCe0, hdC := hCe0, te := exm_self eCe0 iCe0 tCe0 sCe0, fn := ⟨_, _, _, _, _, _, _, _, _, _, _, _, _, _, lNe0, cNe0⟩ }
  have FAll : FunD K "do_all" "Sheet.do_all" (defArgs sShDoAll) (defBody sShDoAll) (defScope sShDoAll) [] [("watch", .non)] fmAll _ := ⟨⟨_, _, _, _, _, _, _, _, _, _, rfl, lmAll, cmAll, .inl ⟨rfl, rfl⟩, .inr ⟨Tw, rfl, fun q hq => by cases List.mem_singleton.mp hq; exact ⟨.none, wmAll, rfl⟩⟩⟩, kmAll⟩
  obtain ⟨dsAll, dAll, bAll⟩ := all_binds FAll
  have mAll : Meth K Cs "do_all" fmAll := ⟨amAll, imAll, kmAll⟩
  have TFORM : FormsT K mg ef e1 e2 e3 := ⟨PySem.W.mg_of X G aEF, fun H => .inr ⟨_, _, _, lEF, rfl, rfl, (by show 3 ≤ sizeLine; decide), .cons rfl (.cons rfl (.cons rfl .nil))⟩, fun H => .inr ⟨_, _, _, lE1, rfl, rfl, (by show 2 ≤ sizeLine; decide), .cons ⟨_, rfl⟩ (.cons ⟨_, rfl⟩ .nil)⟩, fun H => .inr ⟨_, _, _, lE2, rfl, rfl, (by show 2 ≤ sizeLine; decide), .cons ⟨_, rfl⟩ (.cons ⟨_, rfl⟩ .nil)⟩, fun H => .inr ⟨_, _, _, lE3, rfl, rfl, (by show 2 ≤ sizeLine; decide), .cons ⟨_, rfl⟩ (.cons ⟨_, rfl⟩ .nil)⟩⟩
  have kb1 := all_kb1 FAll
  have kb2 := all_kb2 FAll
  obtain ⟨dk67, kb3⟩ := all_kb3 FAll
  refine ⟨PySem.W.fnOf "law" "law" (defArgs sLaw) (defBody sLaw) (defScope sLaw) .none kV57 dc57 pm57 an57 cd57 ct57, [(cc53, tabOf K cc53)], spLawT [(tabOf K cc53, lamLook)] K, ⟨?_, ?_, ?_⟩, fun s v => .of_eq rfl, fun H a ns hl hT hS => ⟨a, ns, rfl, hS, hl, ?_, fun _ => rfl⟩, fun base _ _ hTB => ?_⟩
  · intro m hm
    simp only [List.mem_cons, List.not_mem_nil, or_false] at hm
    rcases hm with rfl
    · exact t53
  · intro m hm
    simp only [List.mem_cons, List.not_mem_nil, or_false] at hm
    rcases hm with rfl
    · exact out_of o53
  · intro m hm
    simp only [List.mem_cons, List.not_mem_nil, or_false] at hm
    rcases hm with rfl
    · exact PySem.W.codeHd_of_K X h53
  · intro m hm
    simp only [List.mem_cons, List.not_mem_nil, or_false] at hm
    rcases hm with rfl
    · exact LamX.TabS.nil (hT (cc53, tabOf K cc53) (by simp))
  have G0 := ok_whole (P := l.prog) (w := w) (mg := mg) (base := base) F0 n_isinstance n_int n_bool
  have G0G := ok_wholeG (P := l.prog) (w := w) (mg := mg) (base := base) F0 n_isinstance n_int n_bool
  have G1 := ok_between (P := l.prog) (w := w) (mg := mg) (base := base) F1 G0 b0 m0 k0
  have G1G := ok_betweenG (P := l.prog) (w := w) (mg := mg) (base := base) F1 G0G b0 m0 k0
  have G2 := ok_place (P := l.prog) (w := w) (mg := mg) (base := base) F2 G1 b1 m1 k1 c_MOST_INDEX
  have G2G := ok_placeG (P := l.prog) (w := w) (mg := mg) (base := base) F2 G1G b1 m1 k1 c_MOST_INDEX
  have G3 := ok_isCell (P := l.prog) (w := w) (mg := mg) (base := base) F3 G2 b2 m2 k2 n_isinstance n_tuple n_len
  have G3G := ok_isCellG (P := l.prog) (w := w) (mg := mg) (base := base) F3 G2G b2 m2 k2 n_isinstance n_tuple n_len
  have G4 := ok_check (P := l.prog) (w := w) (mg := mg) (base := base) F4 G3 b3 m3 k3 n_isinstance n_tuple n_len n_enumerate c_MOST_CELLS
  have G5 := ok_isKind (P := l.prog) (w := w) (mg := mg) (base := base) F5 n_isinstance n_str
  have G6 := ok_kind (P := l.prog) (w := w) (mg := mg) (base := base) F6 G5 b5 m5 k5
  have G7 := ok_lines (P := l.prog) (w := w) (mg := mg) (base := base) F7 G4 b4 m4 k4 G6 b6 m6 k6 n_enumerate n_tuple n_sorted
  have G8 := ok_ff (P := l.prog) (w := w) (mg := mg) (base := base) F8 G1 b1 m1 k1 n_enumerate
  have G9 := ok_checkF (P := l.prog) (w := w) (mg := mg) (base := base) F9 G8 b8 m8 k8 n_isinstance n_tuple n_len c_MOST_VALUE
  have G10 := ok_checkL (P := l.prog) (w := w) (mg := mg) (base := base) F10 n_isinstance n_str n_len n_enumerate c_MOST_LETTERS
  have G11 := ok_checkW (P := l.prog) (w := w) (mg := mg) (base := base) F11 G10 b10 m10 k10
  have G12 := ok_isWordG (P := l.prog) (w := w) (mg := mg) (base := base) F12 G11 b11 m11 k11 gInvalidWord
  have G13 := ok_along (P := l.prog) (w := w) (mg := mg) (base := base) F13 n_list n_zip n_sorted n_tuple
  have G14 := ok_sortLines (P := l.prog) (w := w) (mg := mg) (base := base) F14 G4 b4 m4 k4 G9 b9 m9 k9 G7 b7 m7 k7 G13 b13 m13 k13 n_len
  have G15 := ok_afterP (P := l.prog) (w := w) (mg := mg) (base := base) F15 G4 b4 m4 k4 G9 b9 m9 k9 G11 b11 m11 k11 G7 b7 m7 k7 G13 b13 m13 k13 n_len
  have G16 := ok_isSorted (P := l.prog) (w := w) (mg := mg) (base := base) F16 G14 b14 m14 k14
  have G17 := ok_settled (P := l.prog) (w := w) (mg := mg) (base := base) F17 G16 b16 m16 k16
  have G18 := ok_squeezed (P := l.prog) (w := w) (mg := mg) (base := base) F18 n_enumerate
  have G19 := ok_isRep (P := l.prog) (w := w) (mg := mg) (base := base) F19 G1 b1 m1 k1 n_isinstance n_tuple n_len c_MOST_TIMES
  have G20 := ok_countS (P := l.prog) (w := w) (mg := mg) (base := base) F20 b20 m20 k20 G12 b12 m12 k12 G19 b19 m19 k19 n_isinstance n_str c_MOST_NESTED 4
  have G21 := ok_checkP (P := l.prog) (w := w) (mg := mg) (base := base) F21 G20 b20 m20 k20 n_isinstance n_tuple n_enumerate c_MOST_STEPS
  have G22 := ok_repeated (P := l.prog) (w := w) (mg := mg) (base := base) F22 n_len n_min c_MOST_LETTERS
  have G23 := ok_flat (P := l.prog) (w := w) (mg := mg) (base := base) F23 b23 m23 k23 G18 b18 m18 k18 G22 b22 m22 k22 n_isinstance n_str c_MOST_LETTERS 4
  have G24 := ok_run (P := l.prog) (w := w) (mg := mg) (base := base) F24 G4 b4 m4 k4 G9 b9 m9 k9 G21 b21 m21 k21 G15 b15 m15 k15 G23 b23 m23 k23 n_len
  have G25 := ok_fmtT (P := l.prog) (w := w) (mg := mg) (base := base) F25 G4 b4 m4 k4 G9 b9 m9 k9 n_len n_zip n_max n_range n_str
  have G26 := ok_ixCell (P := l.prog) (w := w) (mg := mg) (base := base) F26 G3 b3 m3 k3
  have G26B := ok_ixB (P := l.prog) (w := w) (mg := mg) (base := base) F26 lowInvalidCell G3G b3 m3 k3
  have G27 := ok_withV (P := l.prog) (w := w) (mg := mg) (base := base) F27 G26 b26 m26 k26 G1 b1 m1 k1 c_MOST_VALUE
  have G28 := ok_withS (P := l.prog) (w := w) (mg := mg) (base := base) F28 G26 b26 m26 k26 n_list n_tuple
  have G28B := ok_swB (P := l.prog) (w := w) (mg := mg) (base := base) F28 (ok_both G26 G26B (Nat.le_refl _)) b26 m26 k26
  have G29 := ok_edited (P := l.prog) (w := w) (mg := mg) (base := base) F29 G24 b24 m24 k24 G27 b27 m27 k27 G28 b28 m28 k28
  have G29B := ok_edB (P := l.prog) (w := w) (mg := mg) (base := base) F29 G28B b28 m28 k28
  have G30 := ok_hasEF (P := l.prog) (w := w) (mg := mg) (base := base) F30 TFORM n_isinstance n_tuple n_len
  have G31 := ok_chkE (P := l.prog) (w := w) (mg := mg) (base := base) F31 G30 b30 m30 k30 n_isinstance n_tuple n_enumerate
  have GIni := ok_shInit (P := l.prog) (w := w) (mg := mg) (base := base) FIni T65 G4 b4 m4 k4 G9 b9 m9 k9 n_len
  have GPerf := ok_shPerf (P := l.prog) (w := w) (mg := mg) (base := base) FPerf T65 G29 b29 m29 k29 n_len c_MOST_EDITS
  have GVal := ok_shVal (P := l.prog) (w := w) (mg := mg) (base := base) FVal T65 G26 b26 m26 k26
  have B65 : ShRd l.prog w K mg base Cs := ⟨⟨_, _, ok_shPlan FPlan T65, bPlan, mPlan⟩, ⟨_, _, ok_shFil FFil T65, bFil, mFil⟩, ⟨_, _, ok_shLog FLog T65 n_tuple, bLog, mLog⟩, ⟨_, _, GVal, bVal, mVal⟩, ⟨_, _, ok_shSet9 FSt9 T65 G17 b17 m17 k17, bSt9, mSt9⟩, ⟨_, _, ok_shLen FLen T65 n_len, bLen, mLen⟩, ⟨_, _, ok_shStr FStr T65 G25 b25 m25 k25 n_str, bStr, mStr⟩, ⟨_, _, ok_shRepr FRepr T65 n_len, bRepr, mRepr⟩, ⟨_, _, ok_shEq FEq T65 n_isinstance, bEq, mEq⟩, neS⟩
  have GPerfB := ok_perfB (P := l.prog) (w := w) (mg := mg) (base := base) FPerf T65 G29B b29 m29 k29
  have GAll := ok_all (P := l.prog) (w := w) (mg := mg) (base := base) FAll T65 G31 b31 m31 k31 (ok_both GPerf GPerfB (Nat.le_refl _)) bPerf mPerf n_enumerate
  have GUndo := ok_undo (P := l.prog) (w := w) (mg := mg) (base := base) FUndo T65 n_len
  have G32 := ok_cell (P := l.prog) (w := w) (mg := mg) (base := base) F32 n_len
  have G33 := ok_pool (P := l.prog) (w := w) (mg := mg) (base := base) F33 n_abs
  have G34 := ok_draw (P := l.prog) (w := w) (mg := mg) (base := base) F34 n_divmod
  have G34X := ok_drawX (P := l.prog) (w := w) (mg := mg) (base := base) F34 n_divmod
  have G35 := ok_planN (P := l.prog) (w := w) (mg := mg) (base := base) F35 G34 b34 m34 k34 n_min n_range n_len n_tuple n_sum
  have G36 := ok_values (P := l.prog) (w := w) (mg := mg) (base := base) F36 G34 b34 m34 k34 n_list n_range n_len n_tuple
  have G37 := ok_lword (P := l.prog) (w := w) (mg := mg) (base := base) F37 G34 b34 m34 k34 n_len
  have G38 := ok_lawLinesN (P := l.prog) (w := w) (mg := mg) (base := base) F38 n_int n_range n_len
  have G39 := ok_lsorted (P := l.prog) (w := w) (mg := mg) (base := base) F39 G38 b38 m38 k38 n_list n_zip n_sorted n_tuple
  have G40 := ok_lafter (P := l.prog) (w := w) (mg := mg) (base := base) F40 G39 b39 m39 k39
  have G41 := ok_lrises (P := l.prog) (w := w) (mg := mg) (base := base) F41 G38 b38 m38 k38 n_sorted
  have G42 := ok_tabN (P := l.prog) (w := w) (mg := mg) (base := base) F42 G34 b34 m34 k34 G35 b35 m35 k35 G36 b36 m36 k36 n_len n_int
  have G43 := ok_lstp (P := l.prog) (w := w) (mg := mg) (base := base) F43 b43 m43 k43 G34 b34 m34 k34 G34X G37 b37 m37 k37 n_range n_tuple 2
  have G44 := ok_lgone (P := l.prog) (w := w) (mg := mg) (base := base) F44 b44 m44 k44 G40 b40 m40 k40 n_isinstance n_str 4
  have G45 := ok_lfree (P := l.prog) (w := w) (mg := mg) (base := base) F45 G34 b34 m34 k34 n_range
  have G46 := ok_ledit (P := l.prog) (w := w) (mg := mg) (base := base) F46 G34 b34 m34 k34 G45 b45 m45 k45 G43 b43 m43 k43 n_len
  have G47 := ok_lbeh (P := l.prog) (w := w) (mg := mg) (base := base) F47 G44 b44 m44 k44 n_list n_tuple
  have G48 := ok_lwrt (P := l.prog) (w := w) (mg := mg) (base := base) F48 n_dict n_list n_zip n_max n_range n_str
  have G49 := ok_lshows (P := l.prog) (w := w) (mg := mg) (base := base) F49 T65 B65 G41 b41 m41 k41 G48 b48 m48 k48 n_repr n_tuple n_list n_all n_len n_str
  have G50 := ok_some67 (P := l.prog) (w := w) (mg := mg) (base := base) F50 G34 b34 m34 k34 G46 b46 m46 k46 G47 b47 m47 k47 n_range n_tuple
  have G51 := ok_read67 (P := l.prog) (w := w) (mg := mg) (base := base) F51 T65 B65 n_repr n_len n_str n_isinstance
  have G52 := ok_beside (P := l.prog) (w := w) (mg := mg) (base := base) F52 T65 B65 lowInvalidCell GAll bAll dAll mAll
  have G53 := ok_looker (T := [(tabOf K cc53, lamLook)]) (P := l.prog) (w := w) (mg := mg) (base := base) F53 (hTB (cc53, tabOf K cc53) (by simp)) (by simp) (fun p hp e => by
    simp only [List.mem_cons, List.not_mem_nil, or_false] at hp
    rcases hp with rfl
    · rfl) 
  have G54 := ok_seenDue (P := l.prog) (w := w) (mg := mg) (base := base) F54 G41 b41 m41 k41 G48 b48 m48 k48 n_range n_tuple n_all n_len n_str
  have G55 := ok_handed (P := l.prog) (w := w) (mg := mg) (base := base) F55 T65 B65 GAll bAll dAll mAll GUndo bUndo mUndo n_len n_tuple
  have GLk : ∀ fw, WOk l.prog w K mg base CX0 16 fw (spWat K Cs fw) := fun fw => wok_look (fun cl c => ok_look G51 b51 m51 k51 G52 b52 m52 k52 cl c)
  have GAllW := ok_allW (P := l.prog) (w := w) (mg := mg) (base := base) (k0 := 16) FAll T65 G31 b31 m31 k31 (ok_both GPerf (GPerfB) (Nat.le_refl _)) bPerf mPerf n_enumerate GLk (by decide) (by decide)
  have G56 := ok_right67 (T := [(tabOf K cc53, lamLook)]) (P := l.prog) (w := w) (mg := mg) (base := base) F56 T65 M65 GIni bIni GAll GAllW bAll dAll mAll kb1 kb2 kb3 G34 b34 m34 k34 G42 b42 m42 k42 G50 b50 m50 k50 G53 b53 m53 k53 G49 b49 m49 k49 G54 b54 m54 k54 G55 b55 m55 k55 n_range n_repr n_list
  exact ok_law6T (T := [(tabOf K cc53, lamLook)]) F57 G32 b32 m32 k32 G33 b33 m33 k33 G56 b56 m56 k56 n_all n_range n_max n_min n_len
end KS
open PySem PySem.W PyProof.Rows
set_option maxHeartbeats 0 in
theorem PySem.Challenge.cw_keepsort_k67_do_all_and_watch_holds : PySem.Challenge.rw_keepsort_k67_do_all_and_watch.Holds := by
  w_on; o_law; k_head; (case hw => w_witness2)
  k_fill
  refine KS.walk_ofGT (l := PySem.Challenge.rw_keepsort_k67_do_all_and_watch) (n := 63) (k := 19) (x := "_law_script") rfl (by decide) rfl ⟨rfl, by decide, by decide⟩ (fun w h Y => PySem.W.km_in_of Y) ?F
  case F =>
    intro w mg fa h Y G hmg
    have KX := PySem.W.km_in_of Y
    have hT := PySem.W.km_tabs_of Y
    refine' KS.all_mk KX G hmg ?a0 ?l0 ?c0 ?k0 ?a1 ?l1 ?c1 ?k1 ?a2 ?l2 ?c2 ?k2 ?a3 ?l3 ?c3 ?k3 ?a4 ?l4 ?c4 ?k4 ?a5 ?l5 ?c5 ?k5 ?a6 ?l6 ?c6 ?k6 ?a7 ?l7 ?c7 ?k7 ?a8 ?l8 ?c8 ?k8 ?a9 ?l9 ?c9 ?k9 ?a10 ?l10 ?c10 ?k10 ?a11 ?l11 ?c11 ?k11 ?a12 ?l12 ?c12 ?k12 ?a13 ?l13 ?c13 ?k13 ?a14 ?l14 ?c14 ?k14 ?a15 ?l15 ?c15 ?k15 ?a16 ?l16 ?c16 ?k16 ?a17 ?l17 ?c17 ?k17 ?a18 ?l18 ?c18 ?k18 ?a19 ?l19 ?c19 ?k19 ?a20 ?l20 ?c20 ?k20 ?a21 ?l21 ?c21 ?k21 ?a22 ?l22 ?c22 ?k22 ?a23 ?l23 ?c23 ?k23 ?a24 ?l24 ?c24 ?k24 ?a25 ?l25 ?c25 ?k25 ?a26 ?l26 ?c26 ?k26 ?a27 ?l27 ?c27 ?k27 ?a28 ?l28 ?c28 ?k28 ?a29 ?l29 ?c29 ?k29 ?a30 ?l30 ?c30 ?k30 ?a31 ?l31 ?c31 ?k31 ?a32 ?l32 ?c32 ?k32 ?a33 ?l33 ?c33 ?k33 ?a34 ?l34 ?c34 ?k34 ?a35 ?l35 ?c35 ?k35 ?a36 ?l36 ?c36 ?k36 ?a37 ?l37 ?c37 ?k37 ?a38 ?l38 ?c38 ?k38 ?a39 ?l39 ?c39 ?k39 ?a40 ?l40 ?c40 ?k40 ?a41 ?l41 ?c41 ?k41 ?a42 ?l42 ?c42 ?k42 ?a43 ?l43 ?c43 ?k43 ?a44 ?l44 ?c44 ?k44 ?a45 ?l45 ?c45 ?k45 ?a46 ?l46 ?c46 ?k46 ?a47 ?l47 ?c47 ?k47 ?a48 ?l48 ?c48 ?k48 ?a49 ?l49 ?c49 ?k49 ?a50 ?l50 ?c50 ?k50 ?a51 ?l51 ?c51 ?k51 ?a52 ?l52 ?c52 ?k52 ?a53 ?l53 ?c53 ?k53 ?a54 ?l54 ?c54 ?k54 ?a55 ?l55 ?c55 ?k55 ?a56 ?l56 ?c56 ?k56 ?a57 ?l57 ?c57 ?k57 ?z0 ?z1 ?z2 ?z3 ?z4 ?z5 ?z6 ?z7 ?z8 ?z9 ?z10 ?z11 ?z12 ?z13 ?z14 ?z15 ?z16 ?z17 ?z18 ?w0 ?w1 ?w2 ?w3 ?w4 ?w5 ?w6 ?w7 ?xaC0 ?xaCe0 ?xxLe0 ?xsae0 ?xgae0 ?xgge0 ?xnbe0 ?xaNe0 ?xtNe0 ?xlNe0 ?xcNe0 ?xkCe0 ?xeCe0 ?xtCe0 ?xhCe0 ?xiCe0 ?xsCe0 ?aCs ?amIni ?imIni ?lmIni ?cmIni ?kmIni ?amPerf ?imPerf ?lmPerf ?cmPerf ?kmPerf ?amPlan ?imPlan ?lmPlan ?cmPlan ?kmPlan ?amFil ?imFil ?lmFil ?cmFil ?kmFil ?amLog ?imLog ?lmLog ?cmLog ?kmLog ?amVal ?imVal ?lmVal ?cmVal ?kmVal ?amSt9 ?imSt9 ?lmSt9 ?cmSt9 ?kmSt9 ?amLen ?imLen ?lmLen ?cmLen ?kmLen ?amEq ?imEq ?lmEq ?cmEq ?kmEq ?amStr ?imStr ?lmStr ?cmStr ?kmStr ?amRepr ?imRepr ?lmRepr ?cmRepr ?kmRepr ?amUndo ?imUndo ?lmUndo ?cmUndo ?kmUndo ?pgS ?hdS ?poS ?saS ?mkS ?kcS ?nS0 ?nS1 ?nS2 ?nS3 ?caS ?cnS ?ctS ?cmS ?qS0 ?qS1 ?qS2 ?qS3 ?qS4 ?qS5 ?neS ?amAll ?imAll ?lmAll ?cmAll ?kmAll ?wmAll ?aEF ?lEF ?lE1 ?lE2 ?lE3 ?h53 ?o53 ?t53
    (case a0 => k_is)
    (case l0 => k_is)
    (case c0 => k_is)
    (case k0 => k_is)
    (case a1 => k_is)
    (case l1 => k_is)
    (case c1 => k_is)
    (case k1 => k_is)
    (case a2 => k_is)
    (case l2 => k_is)
    (case c2 => k_is)
    (case k2 => k_is)
    (case a3 => k_is)
    (case l3 => k_is)
    (case c3 => k_is)
    (case k3 => k_is)
    (case a4 => k_is)
    (case l4 => k_is)
    (case c4 => k_is)
    (case k4 => k_is)
    (case a5 => k_is)
    (case l5 => k_is)
    (case c5 => k_is)
    (case k5 => k_is)
    (case a6 => k_is)
    (case l6 => k_is)
    (case c6 => k_is)
    (case k6 => k_is)
    (case a7 => k_is)
    (case l7 => k_is)
    (case c7 => k_is)
    (case k7 => k_is)
    (case a8 => k_is)
    (case l8 => k_is)
    (case c8 => k_is)
    (case k8 => k_is)
    (case a9 => k_is)
    (case l9 => k_is)
    (case c9 => k_is)
    (case k9 => k_is)
    (case a10 => k_is)
    (case l10 => k_is)
    (case c10 => k_is)
    (case k10 => k_is)
    (case a11 => k_is)
    (case l11 => k_is)
    (case c11 => k_is)
    (case k11 => k_is)
    (case a12 => k_is)
    (case l12 => k_is)
    (case c12 => k_is)
    (case k12 => k_is)
    (case a13 => k_is)
    (case l13 => k_is)
    (case c13 => k_is)
    (case k13 => k_is)
    (case a14 => k_is)
    (case l14 => k_is)
    (case c14 => k_is)
    (case k14 => k_is)
    (case a15 => k_is)
    (case l15 => k_is)
    (case c15 => k_is)
    (case k15 => k_is)
    (case a16 => k_is)
    (case l16 => k_is)
    (case c16 => k_is)
    (case k16 => k_is)
    (case a17 => k_is)
    (case l17 => k_is)
    (case c17 => k_is)
    (case k17 => k_is)
    (case a18 => k_is)
    (case l18 => k_is)
    (case c18 => k_is)
    (case k18 => k_is)
    (case a19 => k_is)
    (case l19 => k_is)
    (case c19 => k_is)
    (case k19 => k_is)
    (case a20 => k_is)
    (case l20 => k_is)
    (case c20 => k_is)
    (case k20 => k_is)
    (case a21 => k_is)
    (case l21 => k_is)
    (case c21 => k_is)
    (case k21 => k_is)
    (case a22 => k_is)
    (case l22 => k_is)
    (case c22 => k_is)
    (case k22 => k_is)
    (case a23 => k_is)
    (case l23 => k_is)
    (case c23 => k_is)
    (case k23 => k_is)
    (case a24 => k_is)
    (case l24 => k_is)
    (case c24 => k_is)
    (case k24 => k_is)
    (case a25 => k_is)
    (case l25 => k_is)
    (case c25 => k_is)
    (case k25 => k_is)
    (case a26 => k_is)
    (case l26 => k_is)
    (case c26 => k_is)
    (case k26 => k_is)
    (case a27 => k_is)
    (case l27 => k_is)
    (case c27 => k_is)
    (case k27 => k_is)
    (case a28 => k_is)
    (case l28 => k_is)
    (case c28 => k_is)
    (case k28 => k_is)
    (case a29 => k_is)
    (case l29 => k_is)
    (case c29 => k_is)
    (case k29 => k_is)
    (case a30 => k_is)
    (case l30 => k_is)
    (case c30 => k_is)
    (case k30 => k_is)
    (case a31 => k_is)
    (case l31 => k_is)
    (case c31 => k_is)
    (case k31 => k_is)
    (case a32 => k_is)
    (case l32 => k_is)
    (case c32 => k_is)
    (case k32 => k_is)
    (case a33 => k_is)
    (case l33 => k_is)
    (case c33 => k_is)
    (case k33 => k_is)
    (case a34 => k_is)
    (case l34 => k_is)
    (case c34 => k_is)
    (case k34 => k_is)
    (case a35 => k_is)
    (case l35 => k_is)
    (case c35 => k_is)
    (case k35 => k_is)
    (case a36 => k_is)
    (case l36 => k_is)
    (case c36 => k_is)
    (case k36 => k_is)
    (case a37 => k_is)
    (case l37 => k_is)
    (case c37 => k_is)
    (case k37 => k_is)
    (case a38 => k_is)
    (case l38 => k_is)
    (case c38 => k_is)
    (case k38 => k_is)
    (case a39 => k_is)
    (case l39 => k_is)
    (case c39 => k_is)
    (case k39 => k_is)
    (case a40 => k_is)
    (case l40 => k_is)
    (case c40 => k_is)
    (case k40 => k_is)
    (case a41 => k_is)
    (case l41 => k_is)
    (case c41 => k_is)
    (case k41 => k_is)
    (case a42 => k_is)
    (case l42 => k_is)
    (case c42 => k_is)
    (case k42 => k_is)
    (case a43 => k_is)
    (case l43 => k_is)
    (case c43 => k_is)
    (case k43 => k_is)
    (case a44 => k_is)
    (case l44 => k_is)
    (case c44 => k_is)
    (case k44 => k_is)
    (case a45 => k_is)
    (case l45 => k_is)
    (case c45 => k_is)
    (case k45 => k_is)
    (case a46 => k_is)
    (case l46 => k_is)
    (case c46 => k_is)
    (case k46 => k_is)
    (case a47 => k_is)
    (case l47 => k_is)
    (case c47 => k_is)
    (case k47 => k_is)
    (case a48 => k_is)
    (case l48 => k_is)
    (case c48 => k_is)
    (case k48 => k_is)
    (case a49 => k_is)
    (case l49 => k_is)
    (case c49 => k_is)
    (case k49 => k_is)
    (case a50 => k_is)
    (case l50 => k_is)
    (case c50 => k_is)
    (case k50 => k_is)
    (case a51 => k_is)
    (case l51 => k_is)
    (case c51 => k_is)
    (case k51 => k_is)
    (case a52 => k_is)
    (case l52 => k_is)
    (case c52 => k_is)
    (case k52 => k_is)
    (case a53 => k_is)
    (case l53 => k_is)
    (case c53 => k_is)
    (case k53 => k_is)
    (case a54 => k_is)
    (case l54 => k_is)
    (case c54 => k_is)
    (case k54 => k_is)
    (case a55 => k_is)
    (case l55 => k_is)
    (case c55 => k_is)
    (case k55 => k_is)
    (case a56 => k_is)
    (case l56 => k_is)
    (case c56 => k_is)
    (case k56 => k_is)
    (case a57 => k_is)
    (case l57 => k_is)
    (case c57 => k_is)
    (case k57 => k_is)
    (case z0 => k_is)
    (case z1 => k_is)
    (case z2 => k_is)
    (case z3 => k_is)
    (case z4 => k_is)
    (case z5 => k_is)
    (case z6 => k_is)
    (case z7 => k_is)
    (case z8 => k_is)
    (case z9 => k_is)
    (case z10 => k_is)
    (case z11 => k_is)
    (case z12 => k_is)
    (case z13 => k_is)
    (case z14 => k_is)
    (case z15 => k_is)
    (case z16 => k_is)
    (case z17 => k_is)
    (case z18 => k_is)
    (case w0 => k_is)
    (case w1 => k_is)
    (case w2 => k_is)
    (case w3 => k_is)
    (case w4 => k_is)
    (case w5 => k_is)
    (case w6 => k_is)
    (case w7 => k_is)
    (case xaC0 => k_is)
    (case xaCe0 => k_is)
    (case xxLe0 => k_is)
    (case xsae0 => k_is)
    (case xgae0 => k_is)
    (case xgge0 => k_is)
    (case xnbe0 => k_is)
    (case xaNe0 => k_is)
    (case xtNe0 => k_is)
    (case xlNe0 => k_is)
    (case xcNe0 => k_is)
    (case xkCe0 => k_is)
    (case xeCe0 => k_is)
    (case xtCe0 => k_is)
    (case xhCe0 => k_is)
    (case xiCe0 => k_is)
    (case xsCe0 => first | rfl | k_is)
    (case aCs => k_is)
    (case amIni => k_is)
    (case imIni => k_is)
    (case lmIni => k_is)
    (case cmIni => k_is)
    (case kmIni => k_is)
    (case amPerf => k_is)
    (case imPerf => k_is)
    (case lmPerf => k_is)
    (case cmPerf => k_is)
    (case kmPerf => k_is)
    (case amPlan => k_is)
    (case imPlan => k_is)
    (case lmPlan => k_is)
    (case cmPlan => k_is)
    (case kmPlan => k_is)
    (case amFil => k_is)
    (case imFil => k_is)
    (case lmFil => k_is)
    (case cmFil => k_is)
    (case kmFil => k_is)
    (case amLog => k_is)
    (case imLog => k_is)
    (case lmLog => k_is)
    (case cmLog => k_is)
    (case kmLog => k_is)
    (case amVal => k_is)
    (case imVal => k_is)
    (case lmVal => k_is)
    (case cmVal => k_is)
    (case kmVal => k_is)
    (case amSt9 => k_is)
    (case imSt9 => k_is)
    (case lmSt9 => k_is)
    (case cmSt9 => k_is)
    (case kmSt9 => k_is)
    (case amLen => k_is)
    (case imLen => k_is)
    (case lmLen => k_is)
    (case cmLen => k_is)
    (case kmLen => k_is)
    (case amEq => k_is)
    (case imEq => k_is)
    (case lmEq => k_is)
    (case cmEq => k_is)
    (case kmEq => k_is)
    (case amStr => k_is)
    (case imStr => k_is)
    (case lmStr => k_is)
    (case cmStr => k_is)
    (case kmStr => k_is)
    (case amRepr => k_is)
    (case imRepr => k_is)
    (case lmRepr => k_is)
    (case cmRepr => k_is)
    (case kmRepr => k_is)
    (case amUndo => k_is)
    (case imUndo => k_is)
    (case lmUndo => k_is)
    (case cmUndo => k_is)
    (case kmUndo => k_is)
    (case pgS => k_is)
    (case hdS => k_is)
    (case poS => k_is)
    (case saS => k_is)
    (case mkS => k_is)
    (case kcS => k_is)
    (case nS0 => k_is)
    (case nS1 => k_is)
    (case nS2 => k_is)
    (case nS3 => k_is)
    (case caS => k_is)
    (case cnS => k_is)
    (case ctS => k_is)
    (case cmS => k_is)
    (case qS0 => kernel_rfl)
    (case qS1 => kernel_rfl)
    (case qS2 => kernel_rfl)
    (case qS3 => kernel_rfl)
    (case qS4 => kernel_rfl)
    (case qS5 => kernel_rfl)
    (case neS => k_is)
    (case amAll => k_is)
    (case imAll => k_is)
    (case lmAll => k_is)
    (case cmAll => k_is)
    (case kmAll => k_is)
    (case wmAll => k_is)
    (case aEF => k_is)
    (case lEF => k_is)
    (case lE1 => k_is)
    (case lE2 => k_is)
    (case lE3 => k_is)
    (case h53 => kernel_rfl)
    (case o53 => kernel_rfl)
    (case t53 => exact KS.tab_there hT (by kernel_rfl))
