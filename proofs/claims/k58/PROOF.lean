import PyProof.Rows.All
import Wide.All
import OpenK.AllK
import Wide.FinOn
import HandS.ForMost
import HandS.Style
import HandS.Flow
import KE.GoesMore
import KE.GoesEnum
import KE.KTupSum
import PyProof.ReprRoads
import PyProof.ReprLen
import HandS.IsInst
import HandS.TupLe
import HandS.SetKeys
import HandS.SortRule
import HandS.More
import HandS.SortInts
import HandS.Zip
import HandS.Conv
import HandS.TupAny
import PyProof.P3In
import HandS.Deep
import HandS.SortKw
import KE.DataMinMax
import KE.SortData
import PyProof.CallFns
import HandS.Iter
import HandS.Text
import HandS.Walk
import PyProof.StrOps2
import KE.GoesZip
import PyProof.TupleOfSeq
import PyProof.Rows.SortShellAny
import KE.IntBitsLaws
import PyProof.Rows.StrCountLaw
import PyProof.Rows.RegReprOcc
import PyProof.Rows.ReprOcc
import HandS.StrMore
import HandS.DictComp
import KE.KDictZip
import HandS.ForExc
import HandS.FStr
import PyProof.ListStr
import PyProof.Rows.StrJoinStr
import HandS.Replace
import HandS.Small
import HandS.Codes
import PyProof.Rows.TmSorted
import HandS.MapObj
import HandS.DictTup
import KE.KRevSl
import HandS.TupMul
import PyProof.NeKinds
import HandS.Strs
import PySem.Challenge.RW_keepsort_k58_comparisons
set_option Elab.async false
set_option linter.all false
set_option maxRecDepth 100000
set_option maxHeartbeats 4000000
namespace KS
open PySem PySem.Spec PyProof.Rows L2
/-- three whole numbers: the state, the digits left, how many draws -/
def PoolO (o : Option HO) : Prop := ∃ a b c : Int, o = some (.lst [.int a, .int b, .int c]) ∧ 0 ≤ a ∧ a < 2147483249 ∧ 0 ≤ b
/-- what stood, but at p, stands -/
def KeepX (p : Addr) (H H' : Hp) : Prop := ∀ b o, b ≠ p → H b = some o → H' b = some o
theorem KeepX.refl (p : Addr) (H : Hp) : KeepX p H H := fun _ _ _ e => e
theorem KeepX.trans {p : Addr} {H H1 H2 : Hp} (a : KeepX p H H1) (b : KeepX p H1 H2) : KeepX p H H2 := fun c o n e => b c o n (a c o n e)
theorem KeepX.of_same {p : Addr} {H H1 : Hp} (a : Same H H1) : KeepX p H H1 := fun c o _ e => a c o e
theorem same_new {H : Hp} {p : Addr} {o : HO} (h : H p = none) : Same H (upd H p o) := fun b x e => by
  rw [upd_ne (ne_of_none e h)]
  exact e
theorem keepX_upd {H : Hp} {p : Addr} {o : HO} : KeepX p H (upd H p o) := fun b x n e => by
  rw [upd_ne n]
  exact e
theorem PoolO.same {H H' : Hp} {p : Addr} (s : Same H H') (h : PoolO (H p)) : PoolO (H' p) := by
  obtain ⟨a, b, c, e, r⟩ := h
  exact ⟨a, b, c, s _ _ e, r⟩
theorem PoolO.ne {H : Hp} {p q : Addr} (h : PoolO (H p)) (n : H q = none) : p ≠ q := by
  obtain ⟨a, b, c, e, r⟩ := h
  exact ne_of_none e n
theorem same_seqT {K : PySem.W.Frag} {H H' : Hp} {a : Addr} {xs : List V} (e : Same H H') (h : SqT K H a xs) : SqT K H' a xs := by
  rcases h with (h | ⟨o, h⟩) | h
  · exact .inl (.inl (e _ _ h))
  · exact .inl (.inr ⟨o, e _ _ h⟩)
  · exact .inr h
theorem keepX_seqT {K : PySem.W.Frag} {H H' : Hp} {a p : Addr} {xs : List V} (hp : PoolO (H p)) (e : KeepX p H H') (h : SqT K H a xs) : SqT K H' a xs := by
  obtain ⟨x, y, z, ep, _⟩ := hp
  rcases h with (h | ⟨o, h⟩) | h
  · exact .inl (.inl (e _ _ (fun q => by rw [q, ep] at h; cases h) h))
  · exact .inl (.inr ⟨o, e _ _ (fun q => by rw [q, ep] at h; cases h) h⟩)
  · exact .inr h
theorem int_mod_bd (x : Int) {m : Int} (h : 0 < m) : 0 ≤ x % m ∧ x % m < m := ⟨Int.emod_nonneg x (by omega), Int.emod_lt_of_pos x h⟩
def spCell (K : PySem.W.Frag) : Sp := fun vs H Q _ => ∃ (a : Addr) (ns : List Int) (k : Nat), vs = [.ref a, .int k] ∧ SqL K H a (ns.map V.int) ∧ k ≤ 63 ∧ ∀ H' n, Same H H' → Q (.int n) H'
def spPool : Sp := fun vs H Q _ => ∃ (n : Int), vs = [.int n] ∧ ∀ H' p, Same H H' → H p = none → PoolO (H' p) → Q (.ref p) H'
def spDraw : Sp := fun vs H Q _ => ∃ (p : Addr) (m : Int), vs = [.ref p, .int m] ∧ PoolO (H p) ∧ 0 < m ∧ m < 1073741824 ∧ ∀ H' r, KeepX p H H' → PoolO (H' p) → 0 ≤ r → r < m → Q (.int r) H'
end KS
namespace KS
open PySem PySem.Spec PyProof.Rows L2
def topS (i : Nat) : Stmt := PySem.Challenge.pw_keepsort_k58_comparisons.main.body.getD i (.Pass ⟨0, 0, 0, 0⟩)
abbrev sCell : Stmt := topS 29
abbrev sPool : Stmt := topS 30
abbrev sDraw : Stmt := topS 31
theorem scCell : FnScope ["_law_script", "_law_k", "_law_state", "_law_number"] ["_law_script", "_law_k"] (defScope sCell) := ⟨rfl, rfl, rfl, by decide +kernel, rfl, by decide +kernel, by decide +kernel⟩
theorem scPool : FnScope ["_law_number", "_law_digits"] ["_law_number"] (defScope sPool) := ⟨rfl, rfl, rfl, by decide +kernel, rfl, by decide +kernel, by decide +kernel⟩
theorem scDraw : FnScope ["_law_pool_here", "_law_most", "_law_state", "_law_digit"] ["_law_pool_here", "_law_most"] (defScope sDraw) := ⟨rfl, rfl, rfl, by decide +kernel, rfl, by decide +kernel, by decide +kernel⟩
section
variable {P : Program} {w : World} {K : PySem.W.Frag} {mg : Str → Option Value} {base : Heap}
theorem ok_cell {f : Addr} {fd : FuncData} (F : Fun K "_law_cell" "_law_cell" sCell f fd) (ml : mg "len" = none) : FnOk P w K mg base CX0 1 f fd ["_law_script", "_law_k"] (spCell K) := by
  refine F.ok scCell (fun vs H Q E h => ?_) (fun cdv A outer s H vs Q E hr h => ?_)
  · obtain ⟨a, ns, k, rfl, _⟩ := h
    rfl
  · obtain ⟨a, ns, k, rfl, hS, hk, q⟩ := h
    refine ⟨_, pss_cons (ps_if (pt_cmpR op_lt (pv 1) (pe_callB call_len_seq (by rfl) ml PySem.boot_len (pa_cons (pv 0) pa_nil)) (nomark _))
        (pss_one (ps_ret (pe_ix ix_list (pv 0) (pv 1) (fun _ _ => rfl)))) pss_nil)
      (pss_cons (ps_set (i := 2) scCell.nd rfl (.inl rfl) (pe_op op_mod (pe_op op_mul pe_int (pe_op op_add (pe_op op_add (pe_op op_mul (pv 1) (pv 1)) (pe_op op_mul pe_int (pv 1))) pe_int)) pe_int))
      (pss_cons (ps_for PassesOwn.never rfl (pi_list (pe_slice sl_list (pv 0) po_none (po_some pe_int))) (pg_name (i := 3) scCell.nd rfl (.inl rfl))
        (pss_one (ps_set (i := 2) scCell.nd rfl (.inl rfl) (pe_op op_mod (pe_op op_add (pe_op op_mul (pv 2) pe_int) (pv 3)) pe_int))))
      (pss_one (ps_ret (pv 2))))), ?_⟩
    refine ⟨_, rfl, _, rfl, a, ns.map V.int, rfl, .inl hS, _, _, rfl, rfl, _, rfl, ite2 (fun e => ?_) (fun e => ?_)⟩
    · have e0 : (k : Int) < ((ns.map V.int).length : Int) := of_decide_eq_true e
      rw [List.length_map] at e0
      have hj : k < ns.length := by omega
      refine ⟨_, rfl, _, rfl, a, _, _, .int ns[k], rfl, rfl, hS, atI_nat (j := k) ?_, q H _ (Same.refl H)⟩
      rw [List.getElem?_map, List.getElem?_eq_getElem hj]
      rfl
    · refine ⟨_, rfl, _, rfl, _, _, rfl, rfl, .inl ⟨by omega, by omega⟩, _, rfl, _, _, rfl, rfl, .inl ⟨by omega, by omega⟩, _, _, rfl, rfl, _, _, rfl, rfl, _, _, rfl, rfl, .inl ⟨by omega, by omega⟩, _, _, rfl, rfl, by show (0 : Int) < 2147483249; decide, ?_⟩
      refine ⟨_, rfl, 3, rfl, a, _, rfl, hS, fun c nc => ?_⟩
      have s1 := same_new (o := .lst (cutV (ns.map V.int) none (some 3))) nc
      have hc : SqL K (upd H c (.lst (cutV (ns.map V.int) none (some 3)))) c (cutV (ns.map V.int) none (some 3)) := SqL.of upd_same
      refine ⟨c, rfl, ⟨_, hc⟩, for_list (K := K) (a := c) (xs := cutV (ns.map V.int) none (some 3)) (fun i σ H' => ∃ (st : Int) (y : Option V), σ = [some (.ref a), some (.int k), some (.int st), y] ∧ 0 ≤ st ∧ st < 2147483249 ∧ H' = upd H c (.lst (cutV (ns.map V.int) none (some 3)))) ?_ ?_ ?_ ?_⟩
      · have b := int_mod_bd (60013 * ((k : Int) * k + 5 * k + 3)) (m := 2147483249) (by decide)
        exact ⟨_, none, rfl, b.1, b.2, rfl⟩
      · rintro i σ H' _ ⟨st, y, rfl, _, _, rfl⟩
        exact hc
      · rintro i x σ H' hi ⟨st, y, rfl, h0, h1, rfl⟩
        have hm : x ∈ ns.map V.int := by
          have := List.mem_of_getElem? hi
          unfold cutV at this
          exact List.mem_of_mem_drop (List.mem_of_mem_take this)
        obtain ⟨n, _, rfl⟩ := List.mem_map.mp hm
        have b := int_mod_bd (st * 41221 + n) (m := 2147483249) (by decide)
        refine ⟨_, rfl, _, _, rfl, rfl, .inl ⟨by omega, by omega⟩, _, rfl, _, _, rfl, rfl, _, _, rfl, rfl, by show (0 : Int) < 2147483249; decide, ?_⟩
        exact ⟨_, some (.int n), rfl, b.1, b.2, rfl⟩
      · rintro σ H' ⟨st, y, rfl, h0, h1, rfl⟩
        exact ⟨_, rfl, q _ _ s1⟩
theorem ok_pool {f : Addr} {fd : FuncData} (F : Fun K "_law_pool" "_law_pool" sPool f fd) (ma : mg "abs" = none) : FnOk P w K mg base CX0 1 f fd ["_law_number"] spPool := by
  refine F.ok scPool (fun vs H Q E h => ?_) (fun cdv A outer s H vs Q E hr h => ?_)
  · obtain ⟨n, rfl, _⟩ := h
    rfl
  · obtain ⟨n, rfl, q⟩ := h
    refine ⟨_, pss_cons (ps_set (i := 1) scPool.nd rfl (.inl rfl) (pe_ifExp (PW.pt (pw_or (pt_cmpR op_lt (pv 0) pe_int (nomark _)) (pw_or1 (pt_cmpR op_ge (pv 0) (pe_op op_pow pe_int pe_int) (nomark _)))))
        (pe_callB call_abs (by rfl) ma (by decide +kernel) (pa_cons (pv 0) pa_nil)) pe_int))
      (pss_one (ps_ret (pe_lst (pa_cons (pe_op op_mod (pv 0) pe_int) (pa_cons (pv 1) (pa_cons pe_int pa_nil)))))), ?_⟩
    have b := int_mod_bd n (m := 2147483249) (by decide)
    have fin : ∀ d : Int, 0 ≤ d → tRet (tLst (tCons (tOp (rI (fun _ j => 0 < j) fun i j => .int (i % j)) (tVar 0) (tC (.int 2147483249))) (tCons (tVar 1) (tCons (tC (.int 0)) tNil)))) { nx := fun _ H' => Q .non H', rt := Q } [some (.int n), some (.int d)] H := fun d hd => by
      refine ⟨_, rfl, _, _, rfl, rfl, by show (0 : Int) < 2147483249; decide, _, rfl, (by show 3 ≤ sizeLine; decide), fun p np => ?_⟩
      exact q _ _ (same_new np) np ⟨_, _, _, upd_same, b.1, b.2, hd⟩
    refine ⟨_, rfl, _, _, rfl, rfl, _, rfl, ite2 (fun e => ?_) (fun e => ?_)⟩
    · have e0 : n < 0 := of_decide_eq_true e
      refine iteT ⟨_, rfl, n, rfl, ?_⟩
      rw [if_pos e0]
      exact fin _ (by omega)
    · refine ⟨_, rfl, _, _, rfl, rfl, ⟨by decide, by decide, by decide⟩, _, _, rfl, rfl, _, rfl, ite2 (fun e1 => ?_) (fun e1 => ?_)⟩
      · have e0 : ¬ n < 0 := fun z => e (decide_eq_true z)
        refine ⟨_, rfl, n, rfl, ?_⟩
        rw [if_neg e0]
        exact fin _ (by omega)
      · exact fin _ (by omega)
theorem ok_draw {f : Addr} {fd : FuncData} (F : Fun K "_law_draw" "_law_draw" sDraw f fd) (md : mg "divmod" = none) : FnOk P w K mg base CX0 1 f fd ["_law_pool_here", "_law_most"] spDraw := by
  refine F.ok scDraw (fun vs H Q E h => ?_) (fun cdv A outer s H vs Q E hr h => ?_)
  · obtain ⟨p, m, rfl, _⟩ := h
    rfl
  · obtain ⟨p, m, rfl, ⟨a, b, c, hp, a0, a1, b0⟩, m0, m1, q⟩ := h
    refine ⟨_, pss_cons (ps_asg (pe_op op_add (pe_ix ix_list (pv 0) pe_int (fun _ _ => rfl)) pe_int) (pg_sub (pv 0) pe_int set_list))
      (pss_cons (ps_set (i := 2) scDraw.nd rfl (.inl rfl) (pe_ix ix_list (pv 0) pe_int (fun _ _ => rfl)))
      (pss_cons (ps_asg (pe_op op_mod (pe_op op_add (pe_op op_mul (pv 2) (pe_op op_add (pe_op op_mod (pv 2) pe_int) pe_int)) (pe_op op_mul pe_int (pe_ix ix_list (pv 0) pe_int (fun _ _ => rfl)))) pe_int) (pg_sub (pv 0) pe_int set_list))
      (pss_cons (ps_if (pt_cmpR op_gt (pe_ix ix_list (pv 0) pe_int (fun _ _ => rfl)) pe_int (nomark _))
        (pss_cons (ps_asg (pe_callB call_divmod (by rfl) md (by decide +kernel) (pa_cons (pe_ix ix_list (pv 0) pe_int (fun _ _ => rfl)) (pa_cons (pv 1) pa_nil)))
            (pg_tup (by rfl) (pgs_cons (pg_sub (pv 0) pe_int set_list) (pgs_cons (pg_name (i := 3) scDraw.nd rfl (.inl rfl)) pgs_nil))))
          (pss_one (ps_ret (pv 3)))) pss_nil)
      (pss_one (ps_ret (pe_op op_mod (pe_op op_fdiv (pe_ix ix_list (pv 0) pe_int (fun _ _ => rfl)) pe_int) (pv 1))))))), ?_⟩
    -- pool[2] = pool[2] + 1
    refine ⟨_, rfl, p, _, 2, .int c, rfl, rfl, SqL.of hp, rfl, _, _, rfl, rfl, _, rfl, p, _, 2, 2, rfl, rfl, hp, rfl, ?_⟩
    refine ⟨_, rfl, p, _, 0, .int a, rfl, rfl, SqL.of upd_same, rfl, ?_⟩
    have bm := int_mod_bd a (m := 50021) (by decide)
    refine ⟨_, rfl, _, rfl, _, _, rfl, rfl, by show (0 : Int) < 50021; decide, _, _, rfl, rfl, _, _, rfl, rfl, .inl ⟨by omega, by omega⟩, _, rfl, p, _, 2, .int (c + 1), rfl, rfl, SqL.of upd_same, rfl, _, _, rfl, rfl, .inl ⟨by decide, by decide⟩, _, _, rfl, rfl, _, _, rfl, rfl, by show (0 : Int) < 2147483249; decide, ?_⟩
    refine ⟨_, rfl, p, _, 0, 0, rfl, rfl, upd_same, rfl, ?_⟩
    have bz := int_mod_bd (a * (a % 50021 + 30011) + 80021 * (c + 1)) (m := 2147483249) (by decide)
    rw [upd_upd]
    show _
    refine ⟨_, rfl, p, _, 1, .int b, rfl, rfl, SqL.of upd_same, rfl, _, _, rfl, rfl, _, rfl, ite2 (fun e => ?_) (fun e => ?_)⟩
    · refine ⟨_, rfl, p, _, 1, .int b, rfl, rfl, SqL.of upd_same, rfl, _, rfl, b, m, rfl, ⟨m0, m1⟩, fun t nt => ?_⟩
      have npt : p ≠ t := ne_of_none upd_same nt
      refine ⟨t, _, rfl, SqT.of upd_same, rfl, _, _, rfl, ?_⟩
      refine ⟨_, rfl, p, _, 1, 1, rfl, rfl, by rw [upd_ne npt]; exact upd_same, rfl, _, [], rfl, rfl, ?_⟩
      have br := int_mod_bd b m0
      refine ⟨_, rfl, q _ _ (fun x o n e => ?_) ⟨_, _, _, upd_same, bz.1, bz.2, Int.ediv_nonneg b0 (by omega)⟩ br.1 br.2⟩
      rw [upd_ne n, upd_ne, upd_ne n]
      · exact e
      · intro z
        rw [z] at e
        rw [upd_ne (Ne.symm npt)] at nt
        rw [nt] at e
        cases e
    · refine ⟨_, rfl, p, _, 0, .int ((a * (a % 50021 + 30011) + 80021 * (c + 1)) % 2147483249), rfl, rfl, SqL.of upd_same, rfl, _, _, rfl, rfl, ⟨by decide, by decide⟩, _, rfl, _, _, rfl, rfl, m0, ?_⟩
      have br := int_mod_bd ((a * (a % 50021 + 30011) + 80021 * (c + 1)) % 2147483249 / 64) m0
      exact q _ _ keepX_upd ⟨_, _, _, upd_same, bz.1, bz.2, b0⟩ br.1 br.2
end
end KS
namespace KS
open PySem PySem.Spec PyProof.Rows L2
open Sem (wp)
open AutoSeq1 (wpAny_loadPart')
/-! ### sum(t), t a tuple of whole numbers -/
def rSumT (K : PySem.W.Frag) : List V → Hp → VK → Prop := fun vs H Q => ∃ (a : Addr) (ns : List Int), vs = [V.ref a] ∧ SqT K H a (ns.map V.int) ∧ Q (.int ns.sum) H
theorem cr_sumT {X : Cx} (hc : X.calm = true) : CallR X (.builtin "sum") (rSumT X.K) := by
  intro pins s σ H vs us Q I r h
  obtain ⟨a, ns, rfl, hs, q⟩ := h
  obtain ⟨its, rv, hl, _⟩ := I.tuple hs
  rw [Vals.ref1 r]
  have hi := rv.ints
  obtain ⟨xs, e⟩ := hi.allInts.items
  have hn : numsOf (intItems xs).toList = ns := by
    rw [← e]
    exact hi.numsOf
  rw [nums_intItems] at hn
  have hl2 : s.heap.IsTuple a (intItems xs) := by
    rw [← e]
    exact hl
  refine PySem.W.ktm_sumG (I.ok.hd hc) hl2 fun h' tk t' hk => ⟨.int ns.sum, H, I.kept hk, ⟨t', ?_⟩, q⟩
  rw [preSum_eq, List.take_of_length_le (by simp), hn]
/-- tuple(x), x a list or a tuple -/
def rTupOf (K : PySem.W.Frag) : List V → Hp → VK → Prop := fun xs H Q => ∃ p ys, xs = [.ref p] ∧ ((SqL K H p ys ∧ ∀ l, H l = none → Q (.ref l) (upd H l (.tup ys))) ∨ (SqT K H p ys ∧ Q (.ref p) H))
theorem cr_tupOf {X : Cx} : CallR X (.type "tuple") (rTupOf X.K) := call_tuple_of
/-! ### enumerate(t), t a tuple -/
abbrev tupItO (l : Addr) : Obj := { cls := .type "tuple_iterator", data := .fields #[.ref l, .int 0 0] }
abbrev enumO (it : Addr) : Obj := { cls := .type "enumerate", data := .fields #[.none, .bool false, .ref it, rawInt 0, .none, .none] }
theorem meets_enumT (l : Addr) (items : Array Value) (n : Nat) (dct : Option Addr) (sl : Array (Option Value)) :
    Meets (Builtin.«enumerate.__new__» ⟨[.type "enumerate", .ref l], []⟩) (fun _ R s =>
      s.heap.get? l = some { cls := .type "tuple", dict := dct, data := .seq items n, slots := sl } ∧
      R (.ok (.ret (.ref (s.heap.push (tupItO l)).objs.size))) { s with heap := (s.heap.push (tupItO l)).push (enumO s.heap.objs.size) }) :=
  .of_wp fun prog w A R s h => by
    obtain ⟨hp, g, d, tk, os⟩ := s
    obtain ⟨hl, h⟩ := h
    have hsub := sub_enumerate
    have hT : Heap.IsTuple (Shared.heap ⟨hp, g, d, tk, os⟩) l items := ⟨_, hl, rfl, n, rfl⟩
    wp_walk using wpAny_loadPart' hl
    refine wpAny_stack_any fun st => wpAny_pure ?_
    split
    · rename_i c _ _ _ _ _
      cases (c == Value.type "enumerate")
      · wp_walk using wpAny_loadPart' hl, wpAny_pyIter_tuple hT
        exact ⟨_, rfl, h⟩
      · wp_walk using wpAny_loadPart' hl, wpAny_pyIter_tuple hT
        exact ⟨_, rfl, h⟩
    · wp_walk using wpAny_loadPart' hl, wpAny_pyIter_tuple hT
      exact ⟨_, rfl, h⟩
theorem call_enumT {prog : Program} {w : World} {A : Around} {E : Value → Shared → Prop} {s : Shared} {l : Addr} {items : Array Value} {Q : Value → Shared → Prop} (hL : s.heap.IsTuple l items)
    (h : ∀ h', IsEnum h' (s.heap.objs.size + 1) s.heap.objs.size 0 .none → h'.IsTupleIter s.heap.objs.size l 0 →
      (∀ b o, s.heap.get? b = some o → h'.get? b = some o) → Q (.ref (s.heap.objs.size + 1)) { s with heap := h' }) :
    wpAny (model prog w) A (call (.type "enumerate") [.ref l]) Q E s := by
  obtain ⟨⟨c, dct, dt, sl⟩, hl, hc, n, hd⟩ := hL
  replace hc : c = .type "tuple" := hc
  replace hd : dt = .seq items n := hd
  subst hc
  subst hd
  refine callType_new F.called_enumerate (by decide) (F.typeCall_enumerate_1 _) (F.newCall_enumerate_1 _)
    (fun obj => F.args_object_init_2 obj _) F.entry_enumerate_new (meets_enumT l items n dct sl) ⟨hl, ?_⟩
  generalize hg1 : s.heap.push (tupItO l) = g1
  have hz : g1.objs.size = s.heap.objs.size + 1 := by
    rw [← hg1]
    exact Heap.size_push ..
  have hit : g1.get? s.heap.objs.size = some (tupItO l) := by
    rw [← hg1]
    exact Heap.get?_push_size _ rfl
  have hold : ∀ b o, s.heap.get? b = some o → g1.get? b = some o := fun b o e => by
    rw [← hg1]
    exact Heap.get?_push_of_some _ e
  show _ ∧ _
  rw [hz]
  have he : IsEnum (g1.push (enumO s.heap.objs.size))
      (s.heap.objs.size + 1) s.heap.objs.size 0 .none := by
    have z := Heap.get?_push_size g1 (o := enumO s.heap.objs.size) rfl
    rw [hz] at z
    exact z
  exact ⟨⟨_, he, rfl⟩, h _ he ⟨tupItO l, Heap.get?_push_of_some _ hit, rfl, rfl⟩ fun b o x => Heap.get?_push_of_some _ (hold b o x)⟩
/-- the pairs (i, item i) of the tuple at a, each a new tuple -/
def IteT (K : PySem.W.Frag) (a : Addr) : It :=
  ⟨fun i H => ∃ (xs : List V) (x : V), SqT K H a xs ∧ xs[i]? = some x,
   fun i H v H' => ∃ T x, v = .ref T ∧ H T = none ∧ H' = upd H T (.tup [.int (i : Nat), x]) ∧ ∀ xs, SqT K H a xs → xs[i]? = some x,
   fun i H => ∃ xs : List V, SqT K H a xs ∧ xs.length ≤ i⟩
theorem turn_enumT {P : Program} {w : World} {K : PySem.W.Frag} {elts : List Expr} {kk : Nat} {tpos : Pos} (a e it : Addr) :
    Turn P w K (.Tuple elts kk tpos) (IteT K a) [e, it] e
      (fun i h => (∃ old, IsEnum h e it ((i : Nat) : Int) old) ∧ h.IsTupleIter it a i ∧ e ≠ it) where
  mem := by simp
  obj := fun i h st b hb => by
    obtain ⟨⟨old, he⟩, ⟨o, ho, hc, hd⟩, _⟩ := st
    rcases (by simpa using hb : b = e ∨ b = it) with z | z
    · subst z
      exact ⟨_, he, fun v q => nomatch q⟩
    · subst z
      exact ⟨o, ho, fun v q => by rw [hd] at q; cases q⟩
  keep := fun i h h' st k => by
    obtain ⟨⟨old, he⟩, hi, hne⟩ := st
    exact ⟨⟨old, k e (by simp) _ he⟩, hi.at fun o q => k it (by simp) o q, hne⟩
  item := by
    intro X hP hw hK hc i pins s σ H E I hf st hg
    subst hP hw hK
    obtain ⟨⟨old, he⟩, hit, hne⟩ := st
    obtain ⟨xs, x, hq, hx⟩ := hg
    obtain ⟨its, rv, p, hz⟩ := I.tuple hq
    have p1 : s.heap.IsTuple a its.toArray := p
    obtain ⟨u0, hu0, ru0⟩ := rv.get hx
    have hel : e < s.heap.objs.size := Heap.lt_size he
    have hil : it < s.heap.objs.size := by
      obtain ⟨_, q, _⟩ := hit
      exact Heap.lt_size q
    have hai : a ≠ it := fun z => by
      obtain ⟨o1, g1, c1, _⟩ := p1
      obtain ⟨o2, g2, c2, _⟩ := hit
      rw [z, g2] at g1
      cases g1
      rw [c1] at c2
      injection c2 with c3
      exact absurd c3 (by decide)
    have hea : e ≠ a := fun z => by
      obtain ⟨o1, g1, c1, _⟩ := p1
      have g2 : s.heap.get? e = some _ := he
      rw [z, g1] at g2
      cases g2
      have c2 : Value.type "enumerate" = Value.type "tuple" := c1
      injection c2 with c3
      exact absurd c3 (by decide)
    have hlt : i < its.toArray.size := by
      have z : i < its.length := (List.getElem?_eq_some_iff.mp hu0).1
      simpa using z
    have DD : Draws X.prog X.w X.A.in1 it [it, a] its.toArray.size (fun i v => its.toArray[i]? = some v) (fun i h => h.IsTupleIter it a i ∧ h.IsTuple a its.toArray) :=
      Draws.tuple (show X.A.in1.handled = none from I.ok.hd hc) it a hai its.toArray
    refine wpAny_pyNext_enum_itemD DD he ⟨hit, p1⟩ hlt hne (by simp [hne, hea]) fun u h' tk hu ho hst hT hsz hk => ?_
    have eu : u = u0 := by
      have z : its[i]? = some u := by simpa using hu
      rw [hu0] at z
      exact (Option.some.inj z).symm
    subst eu
    refine ⟨_, rfl, wpAny_letOwnedTupleGo_enum (s := { s with heap := h', toks := tk + 1 }) ho fun h'' he' sb => ?_⟩
    have hT2 : h''.get? s.heap.objs.size = some { cls := .type "tuple", data := .seq #[.int i tk, u] } := (sb.2 _ (Nat.ne_of_gt hel)).trans hT
    have new : ObjOk X.prog X.w (upd H s.heap.objs.size (.tup [.int (i : Nat), x])) h'' s.heap.objs.size (.tup [.int (i : Nat), x]) :=
      ⟨by show 2 ≤ sizeLine; decide, [.int i tk, u], .cons ⟨_, rfl⟩ (.cons ru0 .nil), ⟨_, hT2, rfl, _, rfl⟩⟩
    have I1 : Inv X pins σ (upd H s.heap.objs.size (.tup [.int (i : Nat), x])) { s with heap := h'', toks := tk + 1 } :=
      I.turnedNew (ch := [e, it]) (fun b ob hb q => (sb.2 b (fun z => hb (by simp [z]))).trans
        (hk b ob (fun z => hb (by simp [z])) (fun z => hb (by simp [z])) q)) hf (Nat.le_refl _) new
    refine ⟨.ref s.heap.objs.size, _, I1, rfl, ⟨_, x, rfl, I.hok.fresh (Nat.le_refl _), rfl, fun ys hy => ?_⟩,
      ⟨⟨u, ?_⟩, hst.1.at fun o q => (sb.2 it (Ne.symm hne)).trans q, hne⟩, fun b hb => ?_⟩
    · rw [I.tuple_inj hy hq]
      exact hx
    · have e1 : ((i + 1 : Nat) : Int) = (i : Int) + 1 := by omega
      rw [e1]
      exact he'
    · have hb' : b < s.heap.objs.size := by
        rcases (by simpa using hb : b = e ∨ b = it) with z | z
        · rw [z]
          exact hel
        · rw [z]
          exact hil
      rw [upd_ne (Nat.ne_of_lt hb')]
      exact (hf b hb).1
  done := by
    intro X hP hw hK hc i pins s σ H E I hf st hg
    subst hP hw hK
    obtain ⟨⟨old, he⟩, hit, hne⟩ := st
    obtain ⟨xs, hq, hx⟩ := hg
    obtain ⟨its, rv, p, hz⟩ := I.tuple hq
    have p1 : s.heap.IsTuple a its.toArray := p
    obtain ⟨f0, f1, f2, f3, f4, f5⟩ := hf it (by simp)
    have hl := rv.length
    have DD : Draws X.prog X.w X.A.in1 it [it, a] i (fun _ _ => True) (fun j h => j = i ∧ h.IsTupleIter it a i ∧ h.IsTuple a its.toArray) :=
      { live := fun _ _ st => let ⟨o, ho, _⟩ := st.2.1; ⟨o, ho⟩
        frame := fun _ _ _ st hk => ⟨st.1, st.2.1.at fun o e => hk it (by simp) o e, st.2.2.at fun o e => hk a (by simp) o e⟩
        item := fun j s Q E hj st hQ => absurd st.1 (by omega)
        done := fun s Q E st hE => wpAny_nextOf_tuple_end (show X.A.in1.handled = none from I.ok.hd hc) st.2.1 st.2.2 (by simp; omega) hE }
    exact wpAny_pyNext_enum_endD DD he ⟨rfl, hit, p1⟩ fun h' eb => ⟨rfl, I.turned (t' := s.toks) (fun b o hb q => eb b o hb q) f0 f1 f3 f4 f5⟩
  self := fun A i s Q E st h => by
    obtain ⟨⟨_, he⟩, _⟩ := st
    exact wpAny_pyIter_enum he h
def iEnumT (K : PySem.W.Frag) (ta : TA) : TI := fun σ H R => ta σ H fun vs H1 => ∃ a xs, vs = [.ref a] ∧ SqT K H1 a xs ∧ R (IteT K a) H1
theorem pi_enumT {X : Cx} {e : Expr} {ta : TA} {p pos tpos : Pos} {elts : List Expr} {kk : Nat} (hg : Gl X "enumerate") (hm : X.mg "enumerate" = none) (ha : PA X [e] ta)
    (hs : starEach [e] X.env = [(false, eval e X.env)] := by rfl) : PI X (.Tuple elts kk tpos) (.Call (.Name "enumerate" p) [e] [] pos) (iEnumT X.K ta) := by
  refine ⟨fun pins s σ H R I h => ?_⟩
  refine Call_ (ld_blt I hg hm boot_enumerate (PyProof.Rows.callWith_type1 (thn (ha.run pos pins s σ H _ I h) fun us s1 hh => ?_) hs rfl))
  obtain ⟨vs, H1, I1, r1, a, xs, ex, hq, q⟩ := hh
  subst ex
  cases r1 with
  | cons r rr =>
    cases rr
    cases r
    obtain ⟨its, rv, p1, hz⟩ := I1.tuple hq
    refine call_enumT (items := its.toArray) p1 fun h' he hit hk => wpAny_pyIter_enum he ?_
    have I2 : Inv X pins σ H1 { s1 with heap := h' } := I1.kept (t' := s1.toks) hk
    refine ⟨s1.heap.objs.size + 1, [s1.heap.objs.size + 1, s1.heap.objs.size], _, _, H1, rfl, I2, turn_enumT a (s1.heap.objs.size + 1) s1.heap.objs.size,
      ⟨⟨.none, he⟩, hit, Nat.succ_ne_self _⟩, fun b hb => ?_, q⟩
    have hle : s1.heap.objs.size ≤ b := by
      rcases (by simpa using hb : b = s1.heap.objs.size + 1 ∨ b = s1.heap.objs.size) with z | z
      · rw [z]
        exact Nat.le_succ _
      · rw [z]
        exact Nat.le_refl _
    exact I1.fpOk hle (I1.hok.fresh hle)
/-- a for over enumerate(t): Pv at each turn; the pair stands in a new tuple at T -/
theorem for_enumT {K : PySem.W.Frag} {a : Addr} {xs : List V} {g : TG} {tb : TS} {D : Ends} {σ : L2.St} {H : Hp} (Pv : Nat → L2.St → Hp → Prop) (h0 : Pv 0 σ H)
    (hl : ∀ i σ H, i ≤ xs.length → Pv i σ H → SqT K H a xs)
    (hs : ∀ i x σ H T, xs[i]? = some x → Pv i σ H → H T = none → g (.ref T) σ (upd H T (.tup [.int (i : Nat), x])) fun σ2 H2 => tb { D with nx := Pv (i + 1), ct := Pv (i + 1), bk := D.nx } σ2 H2)
    (hd : ∀ σ H, Pv xs.length σ H → D.nx σ H) :
    ∃ W : Nat → Nat → L2.St → Hp → Prop, (∃ m, W 0 m σ H) ∧ ∀ i m σ H, W i m σ H →
      ((IteT K a).stop i H ∧ D.nx σ H) ∨ ((IteT K a).go i H ∧ ∃ N : L2.St → Hp → Prop, (∀ σ' H', N σ' H' → ∃ m', m' < m ∧ W (i + 1) m' σ' H') ∧
        ∀ x H', (IteT K a).yld i H x H' → g x σ H' fun σ2 H2 => tb { D with nx := N, ct := N, bk := D.nx } σ2 H2) := by
  refine ⟨fun i m σ H => m = xs.length - i ∧ i ≤ xs.length ∧ Pv i σ H, ⟨xs.length, by simp, Nat.zero_le _, h0⟩, ?_⟩
  rintro i m σ H ⟨rfl, hi, p⟩
  have q := hl i σ H hi p
  by_cases hlt : i < xs.length
  · refine .inr ⟨⟨xs, xs[i], q, by simp [hlt]⟩, Pv (i + 1), fun σ' H' p' => ⟨xs.length - (i + 1), by omega, rfl, hlt, p'⟩, fun x H' y => ?_⟩
    obtain ⟨T, x1, rfl, nT, rfl, hx⟩ := y
    exact hs i x1 σ H T (hx _ q) p nT
  · have e : i = xs.length := by omega
    subst e
    exact .inl ⟨⟨xs, q, Nat.le_refl _⟩, hd σ H p⟩
end KS
namespace KS
open PySem PySem.Spec PyProof.Rows L2
/-! ### promises of defs that are only called where no repr is under way -/
structure FnG (P : Program) (w : World) (K : PySem.W.Frag) (mg : Str → Option Value) (base : Heap) (k : Nat) (f : Addr) (fd : FuncData) (ps : List Str) (sp : Sp) : Prop where
  len : ∀ vs H Q E, sp vs H Q E → vs.length = ps.length
  run : ∀ (A : Around) (outer : List Env) (s : Shared) (H : Hp) (args : Args) (us : List Value) (vs : List V) (Q : VK) (E : XK),
    Room k A → A.guards = some [] → Env0 P w K mg base A outer s H → BindsTo s fd args (ps.zip us) → Vals vs us → sp vs H Q E →
    codeAny (model P w) A (.call (.ref f) args) (CR CX0 outer P w H s Q E) s
section
variable {P : Program} {w : World} {K : PySem.W.Frag} {mg : Str → Option Value} {base : Heap}
theorem okG {x qual : Str} {st : Stmt} {f : Addr} {fd : FuncData} {N ps : List Str} {k : Nat} {sp : Sp} (F : Fun K x qual st f fd) (S : FnScope N ps (defScope st))
    (len : ∀ vs H Q E, sp vs H Q E → vs.length = ps.length)
    (hbody : ∀ (cdv : Value) (A : Around) (outer : List Env) (s : Shared) (H : Hp) (vs : List V) (Q : VK) (E : XK),
      Room k (A.deeper (envOfC qual (defScope st) s.heap.objs.size f cdv)) → A.guards = some [] → sp vs H Q E →
      ∃ t, PSs (cxOf CX0 P w K mg base N qual (defScope st) f cdv A outer s H E).nox (defBody st) t ∧ t { nx := fun _ H' => Q .non H', rt := Q } (start N vs) H) :
    FnG P w K mg base (k + 1) f fd ps sp := by
  obtain ⟨oc, od, kV, doc, pm, an, cdv, ct, osl, rfl, lk, hcd⟩ := F.ex
  refine ⟨len, fun A outer s H args us vs Q E hr hgd e0 hb r hsp => ?_⟩
  have hl := len _ _ _ _ hsp
  have kept : ∀ b o, base.get? b = some o → s.heap.get? b = some o := fun b o e => (e0.bs b o e).1
  have KX : K.In s.heap := e0.mod.kin.keeps kept
  have lim : s.heap.NoLimit := e0.mod.nolimit.keeps kept
  have hkind : ∀ y ∈ ps.zip us, (defScope st).names.lookup y.1 = some .local ∨
      ((defScope st).names.lookup y.1 = some .cell ∧ ((cellsFrom (s.heap.objs.size + 1) (defScope st).names []).lookup y.1).isSome = true) := by
    rintro ⟨n, v⟩ hy
    rcases S.par n (List.of_mem_zip hy).1 with q | q
    · left
      exact q
    · right
      exact ⟨q, PySem.W.cellsFrom_some _ _ _ (.inl q)⟩
  refine codeAny_call_function hr.depth (KX _ _ lk) rfl S.co S.gen rfl
    (PySem.W.codeRec_of KX hcd) (hb _ _ _ _ ?_)
  refine wpAny_newFunctionEnv_cells S.kind hkind fun env he s1 x => ?_
  subst he
  refine ⟨lim.keeps x.toInCall.keep, codeAny_func ?_⟩
  obtain ⟨t, ht0, hq⟩ := hbody cdv A outer s H vs Q E (hr.deeper _) hgd hsp
  have ht := ht0.nox
  have I := inv_start (CX := CX0) (E := E) (cd := cdv) (qual := qual) (f := f) S hr.hd e0 hl r x
  refine wpAny_mono (ht.run [] s1 (start N vs) H _ I hq) (fun fl s' hs => ?_)
    fun e s' hs => hs
  cases fl with
  | ret u =>
    obtain ⟨v, σ', H', J, rv, q⟩ := hs
    exact ⟨v, H', J.os, J.bare, J.base, J.hok, rv, q⟩
  | next =>
    obtain ⟨σ', H', J, q⟩ := hs
    exact ⟨V.non, H', J.os, J.bare, J.base, J.hok, rfl, q⟩
  | brk =>
    obtain ⟨_, _, _, q⟩ := hs
    cases q
  | cont =>
    obtain ⟨_, _, _, q⟩ := hs
    cases q
end
section
variable {X : Cx} {k : Nat} {f : Addr} {fd : FuncData} {ps : List Str} {sp : Sp} {x : Str} {p pos : Pos} {e : Expr} {es : List Expr} {t : TA}
theorem pe_callG (F : FnG X.prog X.w X.K X.mg X.base k f fd ps sp) (hr : Room k X.A) (hgd : X.A.guards = some []) (hg : Gl X x) (hm : X.mg x = some (.ref f))
    (hk : PySem.W.keepIn X.K (.ref f) = true) (hb : Binds X.K fd ps []) (ha : PA X (e :: es) t) (hdb : (x == ("__debug__" : Str)) = false := by decide)
    (he : starEach (e :: es) X.env = (false, eval e X.env) :: starEach es X.env := by rfl)
    (hpl : (backTo pos (starEach es X.env)).any (·.1) = false := by rfl) :
    PE X (.Call (.Name x p) (e :: es) [] pos) (tCall sp [] E0 t) := by
  refine ⟨fun pins s σ H Q I h => wpAny_Call_Name_kw (ld_glob I hg hm ?_ hdb)⟩
  refine PySem.W.callWith_K (h₀ := X.base) I.ok.mod.kin hk (thn (ha.run pos pins s σ H _ I h) fun us s1 hh => ?_) he hpl
  obtain ⟨vs, H1, I1, r, q⟩ := hh
  refine ⟨I1.kIn, ?_⟩
  have q1 : sp (vs ++ []) H1 Q E0 := q
  rw [List.append_nil] at q1
  have hl : (us ++ []).length = ps.length := by
    rw [List.append_nil, ← r.length]
    exact F.len _ _ _ _ q1
  have bb := hb s1 us I1.kIn hl
  rw [List.append_nil] at bb
  refine wpAny_call (codeAny_mono (F.run X.A X.stack s1 H1 ⟨us, []⟩ us vs Q E0 hr hgd I1.env0 bb r q1) fun z s' hq => ?_)
  cases z with
  | error e => cases hq
  | ok fl =>
    cases fl with
    | ret u => exact I1.after hq
    | next => cases hq
    | brk => cases hq
    | cont => cases hq
/-- repr(x), x a list or tuple of plain data, where no repr is under way -/
theorem call_reprD (hgd : X.A.guards = some []) (hu : X.A.units + 100 < cLine) : CallR X (.builtin "repr") (fun xs H Q => ∃ (a : Addr) (d : PyData), xs = [.ref a] ∧ Dp X.K H (.ref a) d ∧
    d.showable = true ∧ d.hasDict = false ∧ d.shown.length ≤ sizeLine ∧ d.depth ≤ 64 ∧ Q (.str d.shown) H) := by
  intro pins s σ H xs us Q I r h
  obtain ⟨a, d, rfl, hd, h1, h2, h3, h4, q⟩ := h
  rw [Vals.ref1 r]
  obtain ⟨as, R⟩ := Dp.reads I d (.ref a) (.ref a) hd rfl
  exact repr_of_reads' R h1 (PyData.noDict_hsm h2) hgd (by omega) (fun _ _ e => e) (fun h' u tk hk => ⟨.str d.shown, H, I.kept hk, ⟨u, rfl⟩, q⟩) h3
end
/-! ### the end of a row whose law has such a promise -/
theorem law_callG {P : Program} {w : World} {K : PySem.W.Frag} {mg mb : Str → Option Value} {k : Nat} {fa a : Addr} {fd : FuncData} {x : Str} {sp : Sp} {s₁ : Shared} {vs : List Value} {ns : List Int}
    (KX : K.In s₁.heap) (hns : s₁.heap.Ns mainGlobals mg) (hb : s₁.heap.Ns builtinsNs mb) (hbb : ∀ x : Str, x ≠ "__name__" → mb x = bootBuiltins x) (hlim : s₁.heap.NoLimit) (hg : s₁.gens = #[])
    (ha : s₁.heap.get? a = some { cls := .type "list", data := .seq vs.toArray }) (hi : IntsAre vs ns) (hl : ns.length ≤ sizeLine) (hr : Room k callerA)
    (F : ∀ base : Heap, K.In base → base.Ns mainGlobals mg → FnG P w K mg base k fa fd [x] sp)
    (hbind : ∀ (s : Shared) (u : Value), BindsTo s fd ⟨[u], []⟩ [(x, u)])
    (hsp : ∀ H : Hp, Only H → SqL K H a (ns.map V.int) → sp [.ref a] H (fun v _ => v = .bl true) fun _ _ _ => False) :
    codeAny (model P w) callerA (.call (.ref fa) ⟨[.ref a], []⟩)
      (fun r s' => r = .ok (.ret (.bool true)) ∧ OldK s₁.heap s'.heap ∧ s'.os = s₁.os ∧ AllBare s'.gens) s₁ := by
  have rv := vals_ints hi
  have lenV := hi.length
  have core : ∀ H : Hp, Only H → SqL K H a (ns.map V.int) → HOk P w H s₁.heap → (∀ b, H b ≠ none → b = a) → (H a ≠ none → K.lookup a = none) →
      codeAny (model P w) callerA (.call (.ref fa) ⟨[.ref a], []⟩)
        (fun r s' => r = .ok (.ret (.bool true)) ∧ OldK s₁.heap s'.heap ∧ s'.os = s₁.os ∧ AllBare s'.gens) s₁ := by
    intro H hO hS hok hA hK
    have only_a : ∀ {b : Addr} {u : HO}, H b = some u → b = a := fun {b u} q => hA b (by
      rw [q]
      simp)
    have noA : ∀ {b : Addr} {o : Obj} {es : Array DictEntry} {ep : Nat}, s₁.heap.get? b = some o → o.data = .dict es ep → H b = none := by
      intro b o es ep e d
      cases q : H b with
      | none => rfl
      | some u =>
        have e' := only_a q
        subst e'
        rw [ha] at e
        cases e
        have d' : Data.seq vs.toArray _ = Data.dict es ep := d
        cases d'
    have nsK : ∀ {b : Addr} {m : Str → Option Value}, s₁.heap.Ns b m → (hidT s₁.heap H).Ns b m := by
      rintro b m ⟨o, es, ep, e, d, r⟩
      exact ⟨o, es, ep, hidT_get e (noA e d), d, r⟩
    have hKb : K.In (hidT s₁.heap H) := by
      intro b o e
      refine hidT_get (KX b o e) ?_
      cases q : H b with
      | none => rfl
      | some u =>
        have e' := only_a q
        subst e'
        rw [hK (by rw [q]; simp)] at e
        cases e
    have hM : Mod K mg (hidT s₁.heap H) := by
      obtain ⟨mc, h1, h2⟩ := hlim
      exact ⟨hKb, nsK hns, ⟨mb, nsK hb, hbb⟩, ⟨mc, nsK h1, h2⟩⟩
    have e0 : Env0 P w K mg (hidT s₁.heap H) callerA [] s₁ H :=
      ⟨rfl, hM, fun b o e => of_hidT e, Nat.le_of_eq (hidT_size _ _), trivial,
        fun b hb => absurd (show b ∈ ([] : List Addr) from hb) (by simp), hok, .of_eq hg⟩
    have go := (F _ hKb (nsK hns)).run callerA [] s₁ H ⟨[.ref a], []⟩ [.ref a] [.ref a] _ _ hr rfl e0 (hbind s₁ (.ref a)) (.cons rfl .nil) (hsp H hO hS)
    refine codeAny_mono go fun r s' h => ?_
    cases r with
    | error e => cases h
    | ok fl =>
      cases fl with
      | next => cases h
      | brk => cases h
      | cont => cases h
      | ret u =>
        obtain ⟨v, H', os, bare, un, hok', r', q⟩ := h
        have q' : v = .bl true := q
        subst q'
        obtain rfl : u = Value.bool true := r'
        refine ⟨rfl, OldK.of_keep fun b o e => ?_, os, bare⟩
        cases q : H b with
        | none =>
          exact un.keep b o e q (fun z => absurd (show b ∈ ([] : List Addr) from z) (by simp)) (by simp)
        | some u =>
          rcases hO b with z | ⟨ob, xs, z⟩
          · rw [q] at z
            cases z
          · obtain ⟨e1, _⟩ := hok b _ z
            obtain ⟨e2, _⟩ := hok' b _ (un.frzs b ob _ z)
            rw [e] at e1
            cases e1
            exact e2
  cases hk : K.lookup a with
  | some o =>
    have e := KX a o hk
    rw [ha] at e
    cases e
    have sq : SqL K (fun _ => none) a (ns.map V.int) :=
      .inr ⟨_, vs.toArray, _, hk, rfl, rfl, rfl, by rw [List.size_toArray, lenV]; exact hl, by simpa using rv⟩
    exact core (fun _ => none) (fun _ => .inl rfl) sq (fun b u z => by cases z) (fun b z => absurd rfl z) fun z => absurd rfl z
  | none =>
    refine core (fun b => if b = a then some (.frz { cls := .type "list", data := .seq vs.toArray } (.lst (ns.map V.int))) else none)
      (fun b => ?_) (.inl (.inr ⟨{ cls := .type "list", data := .seq vs.toArray }, if_pos rfl⟩)) (fun b u z => ?_) (fun b z => ?_) fun _ => hk
    · by_cases hb : b = a
      · exact .inr ⟨_, _, if_pos hb⟩
      · exact .inl (if_neg hb)
    · by_cases hb : b = a
      · have z' := (if_pos hb).symm.trans z
        cases z'
        subst hb
        exact ⟨ha, by rw [List.length_map]; exact hl, vs, _, rv, ha⟩
      · have z' := (if_neg hb).symm.trans z
        cases z'
    · by_cases hb : b = a
      · exact hb
      · exact absurd (if_neg hb) z
theorem walk_ofG {l : PySem.W.OpenLaw} {n k : Nat} {q : Program} {loose : List Str} {XP : (Str → Option Value) → Heap → Prop} {YP : World → Heap → Prop} {d : DefRec} {K : Params → PySem.W.Frag} {sp : World → Sp} {x : Str}
    (hn : l.most = some n) (hn2 : n ≤ sizeLine) (hdf : d.params.defaults = []) (hr : Room k callerA) (hY : ∀ (w : World) (h : Heap), YP w h → (K w.params).In h)
    (F : ∀ (w : World) (mg : Str → Option Value) (fa : Addr) (h : Heap), (K w.params).In h → h.Ns mainGlobals mg → mg d.name = some (.ref fa) →
      ∃ fd : FuncData, (∀ (s : Shared) (u : Value), BindsTo s fd ⟨[u], []⟩ [(x, u)]) ∧
        ∀ base : Heap, (K w.params).In base → base.Ns mainGlobals mg → FnG l.prog w (K w.params) mg base k fa fd [x] (sp w))
    (hsp : ∀ (w : World) (H : Hp) (a : Addr) (ns : List Int), ns.length ≤ n → Only H → SqL (K w.params) H a (ns.map V.int) →
      sp w [.ref a] H (fun v _ => v = .bl true) fun _ _ _ => False) :
    PySem.W.WalkO q loose XP YP l.row.toRowW d [] (fun f vs => PySem.call f vs) := by
  refine Att.attach_call hn hdf fun w s₀ s₁ mg mb fa o pm cd doc a vs ns G Y ho hd hcd hmg hobj hints hlen hg => ?_
  obtain ⟨fd, hb, hF⟩ := F w mg fa _ (hY w _ Y) G.T.g hmg
  exact law_callG (hY w _ Y) G.T.g G.T.b G.T.builtins G.T.nolimit hg hobj hints (Nat.le_trans hlen hn2) hr hF hb
    (fun H hO hS => hsp w H a ns hlen hO hS)
end KS
namespace KS
open PySem PySem.Spec PyProof.Rows L2
/-! ### cells and plans -/
abbrev Cell := Int × Int
def CellAt (K : PySem.W.Frag) (H : Hp) (x : V) (c : Cell) : Prop := ∃ t, x = .ref t ∧ SqT K H t [.int c.1, .int c.2]
abbrev CellsAt (K : PySem.W.Frag) (H : Hp) : List V → List Cell → Prop := Paired (CellAt K H)
def lt2 (a b : Cell) : Prop := a.1 < b.1 ∨ (a.1 = b.1 ∧ a.2 < b.2)
def InGrid (c : Cell) : Prop := 0 ≤ c.1 ∧ c.1 ≤ 7 ∧ 0 ≤ c.2 ∧ c.2 ≤ 7
structure Good (cs : List Cell) : Prop where
  asc : cs.Pairwise lt2
  grid : ∀ c ∈ cs, InGrid c
  ne : cs ≠ []
/-- tuples are kept -/
def KT (K : PySem.W.Frag) (H H' : Hp) : Prop := ∀ a xs, SqT K H a xs → SqT K H' a xs
section
variable {K : PySem.W.Frag} {H H1 H2 H' : Hp}
theorem KT.trans (a : KT K H H1) (b : KT K H1 H2) : KT K H H2 := fun x xs h => b x xs (a x xs h)
theorem KT.of_same (a : Same H H1) : KT K H H1 := fun _ _ h => same_seqT a h
theorem KT.of_keepX {p : Addr} (hp : PoolO (H p)) (a : KeepX p H H1) : KT K H H1 := fun _ _ h => keepX_seqT hp a h
theorem KT.upd {e : Addr} {ys : List V} {o : HO} (h : H e = some (.lst ys)) : KT K H (upd H e o) := fun a xs q => by
  rcases q with (q | ⟨ob, q⟩) | q
  · exact .inl (.inl (by rw [upd_ne (ne_of q h (by intro z; cases z))]; exact q))
  · exact .inl (.inr ⟨ob, by rw [upd_ne (ne_of q h (by intro z; cases z))]; exact q⟩)
  · exact .inr q
theorem CellAt.kt {x : V} {c : Cell} (k : KT K H H') (h : CellAt K H x c) : CellAt K H' x c := by
  obtain ⟨t, e, q⟩ := h
  exact ⟨t, e, k _ _ q⟩
theorem cells_kt {xs : List V} {cs : List Cell} (k : KT K H H') (h : CellsAt K H xs cs) : CellsAt K H' xs cs := Paired.mono (fun _ _ q => q.kt k) h
end
theorem paired_append {α β : Type} {F : α → β → Prop} : ∀ {l₁ l₁' : List α} {l₂ l₂' : List β}, Paired F l₁ l₂ → Paired F l₁' l₂' → Paired F (l₁ ++ l₁') (l₂ ++ l₂')
  | _, _, _, _, .nil, h => h
  | _, _, _, _, .cons r t, h => .cons r (paired_append t h)
theorem paired_get {α β : Type} {F : α → β → Prop} : ∀ {l₁ : List α} {l₂ : List β} {i : Nat} {x : α}, Paired F l₁ l₂ → l₁[i]? = some x → ∃ y, l₂[i]? = some y ∧ F x y
  | _, _, _, _, .nil, h => by simp at h
  | _, _, 0, _, .cons r t, h => by
    simp at h
    subst h
    exact ⟨_, rfl, r⟩
  | _, _, i + 1, _, .cons r t, h => by
    simp at h
    obtain ⟨y, e, f⟩ := paired_get t h
    exact ⟨y, by simpa using e, f⟩
theorem paired_erase {α β : Type} {F : α → β → Prop} : ∀ {l₁ : List α} {l₂ : List β} (i : Nat), Paired F l₁ l₂ → Paired F (l₁.eraseIdx i) (l₂.eraseIdx i)
  | _, _, _, .nil => .nil
  | _, _, 0, .cons r t => t
  | _, _, i + 1, .cons r t => .cons r (paired_erase i t)
/-- the cells of one row -/
def rowCells (r c : Int) (n : Nat) : List Cell := (List.range n).map fun (s : Nat) => (r, c + (s : Int))
theorem rowCells_succ (r c : Int) (n : Nat) : rowCells r c (n + 1) = rowCells r c n ++ [(r, c + (n : Int))] := by
  unfold rowCells
  rw [List.range_succ, List.map_append]
  rfl
theorem rowCells_mem {r c : Int} {n : Nat} {x : Cell} (h : x ∈ rowCells r c n) : x.1 = r ∧ c ≤ x.2 ∧ x.2 < c + n := by
  unfold rowCells at h
  obtain ⟨s, hs, rfl⟩ := List.mem_map.mp h
  have := List.mem_range.mp hs
  refine ⟨rfl, ?_, ?_⟩ <;> show _ <;> simp <;> omega
theorem rowCells_asc (r c : Int) : ∀ n : Nat, (rowCells r c n).Pairwise lt2
  | 0 => List.Pairwise.nil
  | n + 1 => by
    rw [rowCells_succ, List.pairwise_append]
    refine ⟨rowCells_asc r c n, List.pairwise_singleton _ _, fun a ha b hb => ?_⟩
    obtain ⟨e1, e2, e3⟩ := rowCells_mem ha
    rw [List.mem_singleton] at hb
    subst hb
    exact .inr ⟨e1, e3⟩
theorem rowCells_len (r c : Int) (n : Nat) : (rowCells r c n).length = n := by
  unfold rowCells
  rw [List.length_map, List.length_range]
def PlanAt (K : PySem.W.Frag) (H : Hp) (a : Addr) (cs : List Cell) : Prop := ∃ xs, SqT K H a xs ∧ CellsAt K H xs cs
theorem PlanAt.kt {K : PySem.W.Frag} {H H' : Hp} {a : Addr} {cs : List Cell} (k : KT K H H') (h : PlanAt K H a cs) : PlanAt K H' a cs := by
  obtain ⟨xs, h1, h2⟩ := h
  exact ⟨xs, k _ _ h1, cells_kt k h2⟩
def spPlan (K : PySem.W.Frag) : Sp := fun vs H Q _ => ∃ (p : Addr) (m : Int), vs = [.ref p, .int m] ∧ PoolO (H p) ∧ 1 ≤ m ∧ m ≤ 24 ∧
  ∀ H' a cs, KeepX p H H' → PoolO (H' p) → PlanAt K H' a cs → Good cs → (cs.length : Int) ≤ m → H a = none → Q (.ref a) H'
/-- where _law_plan stands behind its first loop -/
structure PlSt (K : PySem.W.Frag) (p : Addr) (H : Hp) (m mode wide high top left : Int) (σ : L2.St) (H' : Hp) : Prop where
  ex : ∃ (e : Addr) (xs : List V) (cs : List Cell) (y8 y9 y10 : Option V),
    σ = [some (.ref p), some (.int m), some (.int mode), some (.int wide), some (.int high), some (.int top), some (.int left), some (.ref e), y8, y9, y10, none, none] ∧
    H e = none ∧ e ≠ p ∧ H' e = some (.lst xs) ∧ CellsAt K H' xs cs ∧ Good cs ∧ cs.length ≤ 64
  kx : KeepX p H H'
  po : PoolO (H' p)
/-- every = [spot for spot in every if ..] or every -/
def tFil (K : PySem.W.Frag) (tc : TT) : TS := tAsg (tOrT K (tLc (iList K (tVar 7)) (gName 12) tc (tVar 12) [12]) (tVar 7)) (gName 7)
theorem small64 {n : Nat} (h : n ≤ 64) : n < sizeLine := by
  rw [sizeLine_eq]
  omega
theorem fil_ok {K : PySem.W.Frag} {p : Addr} {H : Hp} {m mode wide high top left : Int} {tc : TT} {D : Ends} {σ : L2.St} {H' : Hp} (h : PlSt K p H m mode wide high top left σ H')
    (htc : ∀ (t : Addr) (c : Cell) (H2 : Hp) (R : Bool → Hp → Prop), SqT K H2 t [.int c.1, .int c.2] → PoolO (H2 p) → (∀ b H3, KeepX p H2 H3 → PoolO (H3 p) → R b H3) → tc (σ.set 12 (some (.ref t))) H2 R)
    (k : ∀ σ' H'', PlSt K p H m mode wide high top left σ' H'' → D.nx σ' H'') : tFil K tc D σ H' := by
  obtain ⟨⟨e, xs, cs, y8, y9, y10, rfl, he0, hep, he, hc, gd, hl⟩, kx, po⟩ := h
  have hlen := Paired.length hc
  refine ⟨_, rfl, e, rfl, ⟨_, SqL.of he⟩, fun d nd => ?_⟩
  have ned : e ≠ d := ne_of_none he nd
  have npd : p ≠ d := po.ne nd
  refine lc_list (K := K) (a := e) (xs := xs) (fun i H2 => ∃ (acc : List V) (cs' : List Cell), H2 d = some (.lst acc) ∧ CellsAt K H2 acc cs' ∧ cs'.Sublist (cs.take i) ∧
    KeepX p H H2 ∧ PoolO (H2 p) ∧ H2 e = some (.lst xs) ∧ CellsAt K H2 xs cs) ?_ ?_ ?_ ?_
  · have s1 := same_new (o := .lst []) nd
    refine ⟨[], [], upd_same, .nil, List.nil_sublist _, kx.trans (.of_same s1), po.same s1, s1 _ _ he, cells_kt (.of_same s1) hc⟩
  · rintro i H2 _ ⟨acc, cs', _, _, _, _, _, h6, _⟩
    exact SqL.of h6
  · rintro i x H2 hi ⟨acc, cs', h1, h2, h3, h4, h5, h6, h7⟩
    obtain ⟨c, hci, t, rfl, ht⟩ := paired_get h7 hi
    have hlt : i < cs.length := (List.getElem?_eq_some_iff.mp hci).1
    have tk : cs.take (i + 1) = cs.take i ++ [c] := by
      rw [List.take_add_one, hci]
      rfl
    refine ⟨rfl, htc t c H2 _ ht h5 (fun b H3 k3 p3 => ?_)⟩
    have q3 : KT K H2 H3 := KT.of_keepX h5 k3
    have hd3 : H3 d = some (.lst acc) := k3 _ _ (Ne.symm npd) h1
    have he3 : H3 e = some (.lst xs) := k3 _ _ hep h6
    have hal : acc.length ≤ 64 := by
      rw [Paired.length h2]
      exact Nat.le_trans h3.length_le (by rw [List.length_take]; omega)
    refine ite2 (fun _ => ?_) (fun _ => ?_)
    · refine ⟨_, rfl, acc, hd3, small64 hal, acc ++ [.ref t], cs' ++ [c], upd_same, ?_, ?_, ?_, ?_, ?_, ?_⟩
      · exact cells_kt (q3.trans (KT.upd hd3)) (paired_append h2 (.cons ⟨t, rfl, ht⟩ .nil))
      · rw [tk]
        exact List.Sublist.append h3 (List.Sublist.refl _)
      · intro b o n e2
        rw [upd_ne (fun z => by
          subst z
          have q := kx b o n e2
          rw [nd] at q
          cases q)]
        exact k3 _ _ n (h4 _ _ n e2)
      · rw [upd_ne npd]
        exact p3
      · rw [upd_ne ned]
        exact he3
      · exact cells_kt (q3.trans (KT.upd hd3)) h7
    · refine ⟨acc, cs', hd3, cells_kt q3 h2, ?_, h4.trans k3, p3, he3, cells_kt q3 h7⟩
      rw [tk]
      exact List.Sublist.trans h3 (List.sublist_append_left _ _)
  · rintro H2 ⟨acc, cs', h1, h2, h3, h4, h5, h6, h7⟩
    have h3' : cs'.Sublist cs := List.Sublist.trans h3 (List.take_sublist _ _)
    refine ⟨!acc.isEmpty, .inl ⟨acc, SqL.of h1, rfl⟩, ite2 (fun e1 => ?_) (fun e1 => ?_)⟩
    · refine k _ _ ⟨⟨d, acc, cs', y8, y9, y10, rfl, ?_, Ne.symm npd, h1, h2, ⟨gd.asc.sublist h3', fun c hc => gd.grid c (h3'.subset hc), ?_⟩, Nat.le_trans h3'.length_le hl⟩, h4, h5⟩
      · cases q : H d with
        | none => rfl
        | some o =>
          have z := kx d o (Ne.symm npd) q
          rw [nd] at z
          cases z
      · intro z
        subst z
        cases h2
        cases e1
    · exact ⟨_, rfl, k _ _ ⟨⟨e, xs, cs, y8, y9, y10, rfl, he0, hep, h6, h7, gd, hl⟩, h4, h5⟩⟩
end KS
namespace KS
open PySem PySem.Spec PyProof.Rows L2
abbrev tDr (tm : TE) : TE := tCall spDraw [] E0 (tCons (tVar 0) (tCons tm tNil))
abbrev rAdd : V → V → Hp → VK → Prop := rI0 fun i j => .int (i + j)
/-- if mode == 2: high, wide = 1 + draw(pool, 8), 1 + draw(pool, 8) -/
theorem par_if {p : Addr} {m mode wide high : Int} {σr : L2.St} {H2 : Hp} {D : Ends} (po : PoolO (H2 p)) (hw : 1 ≤ wide ∧ wide ≤ 8) (hh : 1 ≤ high ∧ high ≤ 8)
    (k : ∀ (wide' high' : Int) (H3 : Hp), KeepX p H2 H3 → PoolO (H3 p) → 1 ≤ wide' ∧ wide' ≤ 8 → 1 ≤ high' ∧ high' ≤ 8 → D.nx (some (.ref p) :: some (.int m) :: some (.int mode) :: some (.int wide') :: some (.int high') :: σr) H3) :
    tIfS (tTest (tOp rEq (tVar 2) (tC (.int 2)))) (tPar 4 3 (tCons (tOp rAdd (tC (.int 1)) (tDr (tC (.int 8)))) (tCons (tOp rAdd (tC (.int 1)) (tDr (tC (.int 8)))) tNil))) tNext D
      (some (.ref p) :: some (.int m) :: some (.int mode) :: some (.int wide) :: some (.int high) :: σr) H2 := by
  refine ⟨_, rfl, rfl, _, rfl, ite2 (fun e => ?_) (fun e => ?_)⟩
  · refine ⟨_, rfl, p, 8, rfl, po, by decide, by decide, fun H3 a k3 po3 a0 a1 => ?_⟩
    refine ⟨_, _, rfl, rfl, _, rfl, p, 8, rfl, po3, by decide, by decide, fun H4 b k4 po4 b0 b1 => ?_⟩
    exact ⟨_, _, rfl, rfl, _, _, rfl, k (1 + b) (1 + a) H4 (k3.trans k4) po4 ⟨by omega, by omega⟩ ⟨by omega, by omega⟩⟩
  · exact k wide high H2 (KeepX.refl _ _) po hw hh
/-- if mode == n: every = [spot for spot in every if ..] or every -/
theorem fil_if {K : PySem.W.Frag} {p : Addr} {H : Hp} {m mode wide high top left n : Int} {tc : TT} {D : Ends} {σ : L2.St} {H' : Hp} (h : PlSt K p H m mode wide high top left σ H')
    (htc : ∀ (t : Addr) (c : Cell) (H2 : Hp) (R : Bool → Hp → Prop), SqT K H2 t [.int c.1, .int c.2] → PoolO (H2 p) → (∀ b H3, KeepX p H2 H3 → PoolO (H3 p) → R b H3) → tc (σ.set 12 (some (.ref t))) H2 R)
    (k : ∀ σ' H'', PlSt K p H m mode wide high top left σ' H'' → D.nx σ' H'') : tIfS (tTest (tOp rEq (tVar 2) (tC (.int n)))) (tFil K tc) tNext D σ H' := by
  obtain ⟨e, xs, cs, y8, y9, y10, es, rest⟩ := h.ex
  refine ⟨.int mode, by rw [es]; rfl, rfl, _, rfl, ite2 (fun e => ?_) (fun e => ?_)⟩
  · exact fil_ok h htc k
  · exact k _ _ h
theorem draw_test {K : PySem.W.Frag} {p : Addr} {H : Hp} {m mode wide high top left n : Int} {σ : L2.St} {H' : Hp} (h : PlSt K p H m mode wide high top left σ H') (n0 : 0 < n) (n1 : n < 1073741824)
    (t : Addr) (c : Cell) (H2 : Hp) (R : Bool → Hp → Prop) (ht : SqT K H2 t [.int c.1, .int c.2]) (po : PoolO (H2 p)) (k : ∀ b H3, KeepX p H2 H3 → PoolO (H3 p) → R b H3) :
    tTest (tOp (rI0 fun i j => .bl (decide (i > j))) (tDr (tC (.int n))) (tC (.int 0))) (σ.set 12 (some (.ref t))) H2 R := by
  obtain ⟨e, xs, cs, y8, y9, y10, es, rest⟩ := h.ex
  subst es
  exact ⟨_, rfl, p, n, rfl, po, n0, n1, fun H3 r k3 po3 r0 r1 => ⟨_, _, rfl, rfl, _, rfl, k _ _ k3 po3⟩⟩
end KS
namespace KS
open PySem PySem.Spec PyProof.Rows L2
abbrev rSub : V → V → Hp → VK → Prop := rI0 fun i j => .int (i - j)
abbrev rLe : V → V → Hp → VK → Prop := rI0 fun i j => .bl (decide (i ≤ j))
theorem fil3_if {K : PySem.W.Frag} {p : Addr} {H : Hp} {m mode wide high top left : Int} {D : Ends} {σ : L2.St} {H' : Hp} (h : PlSt K p H m mode wide high top left σ H')
    (k : ∀ σ' H'', PlSt K p H m mode wide high top left σ' H'' → D.nx σ' H'') :
    tIfS (tTest (tOp rEq (tVar 2) (tC (.int 3)))) (tSeq (tAsg (tOp rAdd (tOp rAdd (tVar 5) (tVar 6)) (tDr (tC (.int 4)))) (gName 9))
      (tSeq (tAsg (tOp rSub (tOp rSub (tOp rAdd (tOp rAdd (tOp rAdd (tVar 5) (tVar 6)) (tVar 4)) (tVar 3)) (tC (.int 2))) (tDr (tC (.int 4)))) (gName 10))
      (tFil K (tTest (tChain rLe rLe (tVar 9) (tCB (rSumT K) (tCons (tVar 12) tNil)) (tVar 10)))))) tNext D σ H' := by
  obtain ⟨⟨e, xs, cs, y8, y9, y10, rfl, he0, hep, he, hc, gd, hl⟩, kx, po⟩ := id h
  refine ⟨_, rfl, rfl, _, rfl, ite2 (fun e => ?_) (fun e => ?_)⟩
  · refine ⟨_, rfl, _, rfl, _, _, rfl, rfl, _, rfl, p, 4, rfl, po, by decide, by decide, fun H1 a k1 po1 _ _ => ⟨_, _, rfl, rfl, ?_⟩⟩
    refine ⟨_, rfl, _, rfl, _, _, rfl, rfl, _, rfl, _, _, rfl, rfl, _, rfl, _, _, rfl, rfl, _, _, rfl, rfl, _, rfl, p, 4, rfl, po1, by decide, by decide, fun H2 b k2 po2 _ _ => ⟨_, _, rfl, rfl, ?_⟩⟩
    have k12 := k1.trans k2
    refine fil_ok (p := p) (H := H) (m := m) (mode := mode) (wide := wide) (high := high) (top := top) (left := left)
      ⟨⟨_, xs, cs, y8, _, _, rfl, he0, hep, k12 _ _ hep he, cells_kt (KT.of_keepX po k12) hc, gd, hl⟩, kx.trans k12, po2⟩ (fun t c H3 R ht p3 kk => ?_) k
    refine ⟨_, rfl, _, rfl, t, [c.1, c.2], rfl, ht, _, _, rfl, rfl, _, rfl, ite2 (fun e1 => ?_) (fun e1 => ?_)⟩
    · exact ⟨_, rfl, _, _, rfl, rfl, _, rfl, kk _ _ (KeepX.refl _ _) p3⟩
    · exact ⟨_, rfl, kk _ _ (KeepX.refl _ _) p3⟩
  · exact k _ _ h
end KS
namespace KS
open PySem PySem.Spec PyProof.Rows L2
theorem tyx_tup {K : PySem.W.Frag} {H : Hp} {a : Addr} {xs : List V} (h : SqT K H a xs) : TyX K H (.ref a) (.type "tuple") := by
  rcases h with (h | ⟨o, h⟩) | h
  · exact .base (.tup h)
  · exact .fTuple h
  · obtain ⟨o, its, n, e, c, r⟩ := h
    exact .kTuple e c
theorem bl_true {p : Prop} [Decidable p] (h : p) : V.bl (decide p) = V.bl true := by rw [decide_eq_true h]
theorem bl_false {p : Prop} [Decidable p] (h : ¬ p) : V.bl (decide p) = V.bl false := by rw [decide_eq_false h]
/-- a number of a row or column -/
def Place (v : Int) : Prop := 0 ≤ v ∧ v ≤ 7
def spWhole : Sp := fun vs H Q _ => ∃ i : Int, vs = [.int i] ∧ Q (.bl true) H
def spBetween : Sp := fun vs H Q _ => ∃ i lo hi : Int, vs = [.int i, .int lo, .int hi] ∧ lo ≤ i ∧ i ≤ hi ∧ Q (.bl true) H
def spPlace : Sp := fun vs H Q _ => ∃ i : Int, vs = [.int i] ∧ Place i ∧ Q (.bl true) H
def spIsCell (K : PySem.W.Frag) : Sp := fun vs H Q _ => ∃ (a : Addr) (c : Cell), vs = [.ref a] ∧ SqT K H a [.int c.1, .int c.2] ∧ InGrid c ∧ Q (.bl true) H
def spCheck (K : PySem.W.Frag) : Sp := fun vs H Q _ => ∃ (a : Addr) (cs : List Cell), vs = [.ref a] ∧ PlanAt K H a cs ∧ Good cs ∧ cs.length ≤ 24 ∧ ∀ H', Same H H' → Q .non H'
theorem good_step {cs : List Cell} (g : cs.Pairwise lt2) {i : Nat} {a b : Cell} (h1 : cs[i]? = some a) (h2 : cs[i + 1]? = some b) : lt2 a b := by
  obtain ⟨l1, e1⟩ := List.getElem?_eq_some_iff.mp h1
  obtain ⟨l2, e2⟩ := List.getElem?_eq_some_iff.mp h2
  have := (List.pairwise_iff_getElem.mp g) i (i + 1) l1 l2 (by omega)
  rw [e1, e2] at this
  exact this
theorem not_le2 {a b : Cell} (h : lt2 a b) : Ob.lexAt (fun j => decide (([b.1, b.2] : List Int).getD j 0 = ([a.1, a.2] : List Int).getD j 0)) (fun j => decide (([b.1, b.2] : List Int).getD j 0 ≤ ([a.1, a.2] : List Int).getD j 0)) (decide (([b.1, b.2] : List Int).length ≤ ([a.1, a.2] : List Int).length)) 0 (min ([b.1, b.2] : List Int).length ([a.1, a.2] : List Int).length) = false := by
  show Ob.lexAt _ _ _ 0 2 = false
  rw [Ob.lexAt_succ, Ob.lexAt_succ]
  show (if decide (b.1 = a.1) = true then (if decide (b.2 = a.2) = true then _ else decide (b.2 ≤ a.2)) else decide (b.1 ≤ a.1)) = false
  rcases h with h | ⟨h1, h2⟩
  · rw [if_neg (by simp; omega)]
    simp
    omega
  · rw [if_pos (by simp; omega), if_neg (by simp; omega)]
    simp
    omega
end KS
namespace KS
open PySem PySem.Spec PyProof.Rows L2
/-! ### f(k = v, ..), keywords alone -/
structure KwBinds (fd : FuncData) (ps ks : List Str) (g : List Value → List Value) (gV : List V → List V) : Prop where
  to : ∀ (s : Shared) (ws : List Value), (g ws).length = ps.length → BindsTo s fd ⟨[], ks.zip ws⟩ (ps.zip (g ws))
  rel : ∀ {zs : List V} {ws : List Value}, Vals zs ws → Vals (gV zs) (g ws)
def tCallKw (sp : Sp) (gV : List V → List V) (E : XK) (tk : TA) : TE := fun σ H Q => tk σ H fun zs H2 => sp (gV zs) H2 Q E
section
variable {X : Cx} {CX : CXT} {k : Nat} {f : Addr} {fd : FuncData} {ps ks : List Str} {sp : Sp} {E : XK} {x : Str} {p pos : Pos} {kws : List Keyword} {tk : TA} {g : List Value → List Value} {gV : List V → List V}
theorem pe_callKw (F : FnOk X.prog X.w X.K X.mg X.base CX k f fd ps sp) (hr : Room k X.A) (hg : Gl X x) (hm : X.mg x = some (.ref f)) (hk : PySem.W.keepIn X.K (.ref f) = true) (hb : KwBinds fd ps ks g gV)
    (hx : Passes CX X E) (hkw : PK X kws tk) (hall : (backToKw pos (keywordEach kws X.env)).all (·.1.isSome) = true := by rfl)
    (hks : (backToKw pos (keywordEach kws X.env)).filterMap (·.1) = ks := by rfl) (hdb : (x == ("__debug__" : Str)) = false := by decide)
    (hpl : ((backTo pos (starEach [] X.env)).any (·.1) || (backToKw pos (keywordEach kws X.env)).any (·.1.isNone)) = false := by rfl) :
    PE X (.Call (.Name x p) [] kws pos) (tCallKw sp gV E tk) := by
  refine ⟨fun pins s σ H Q I h => wpAny_Call_Name_kw (ld_glob I hg hm ?_ hdb)⟩
  refine PySem.W.callWith_KW0 (h₀ := X.base) I.ok.mod.kin hk hall ?_ hpl
  refine thn (hkw.run pos pins s σ H _ I h) fun ws s2 hh => ?_
  obtain ⟨zs, H2, I2, rz, q2⟩ := hh
  refine ⟨I2.kIn, ?_⟩
  rw [hks]
  have r2 := hb.rel rz
  have hl : (g ws).length = ps.length := by
    rw [← r2.length]
    exact F.len _ _ _ _ q2
  show wpAny _ _ (call (.ref f) [] (ks.zip ws)) _ _ _
  refine wpAny_call (codeAny_mono (F.run X.A X.stack s2 H2 ⟨[], ks.zip ws⟩ (g ws) (gV zs) Q E hr I2.env0 (hb.to s2 ws hl) r2 q2) fun z s' hq => ?_)
  cases z with
  | error e => exact hx pins σ H2 s2 e s' I2 hq
  | ok fl =>
    cases fl with
    | ret u => exact I2.after hq
    | next => cases hq
    | brk => cases hq
    | cont => cases hq
end
theorem kw_binds {K : PySem.W.Frag} {x qual : Str} {st : Stmt} {f : Addr} {fd : FuncData} {ps ks : List Str} {g : List Value → List Value} {gV : List V → List V} (F : Fun K x qual st f fd)
    (h : ∀ (kV doc pm : Value) (an : Option Addr) (cdv ct : Value) (ws : List Value), (g ws).length = ps.length →
      bindArgs (PySem.W.fnOf x qual (defArgs st) (defBody st) (defScope st) .none kV doc pm an cdv ct) ⟨[], ks.zip ws⟩ = pure (ps.zip (g ws)))
    (rel : ∀ {zs : List V} {ws : List Value}, Vals zs ws → Vals (gV zs) (g ws)) : KwBinds fd ps ks g gV := by
  obtain ⟨oc, od, kV, doc, pm, an, cdv, ct, osl, rfl, lk, hcd⟩ := F.ex
  exact ⟨fun s ws hl => .of_eq (h kV doc pm an cdv ct ws hl), rel⟩
/-- two keywords, in the other order -/
def swap2 {α : Type} : List α → List α
  | [a, b] => [b, a]
  | _ => []
theorem swap2_rel {zs : List V} {ws : List Value} (r : Vals zs ws) : Vals (swap2 zs) (swap2 ws) := by
  cases r with
  | nil => exact .nil
  | cons r1 r2 =>
    cases r2 with
    | nil => exact .nil
    | cons r3 r4 =>
      cases r4 with
      | nil => exact .cons r3 (.cons r1 .nil)
      | cons _ _ => exact .nil
/-! ### lines, as numbers -/
/-- row (false) or column (true) of a cell -/
def pick (b : Bool) (c : Cell) : Int := if b = true then c.2 else c.1
/-- the indexes below i of cells in line r -/
def idxs (b : Bool) (cs : List Cell) (i : Nat) (r : Int) : List Int := ((List.range i).filter fun j => decide ((cs[j]?).map (pick b) = some r)).map fun (j : Nat) => (j : Int)
theorem idxs_zero (b : Bool) (cs : List Cell) (r : Int) : idxs b cs 0 r = [] := rfl
theorem idxs_hit {b : Bool} {cs : List Cell} {i : Nat} {c : Cell} (h : cs[i]? = some c) : idxs b cs (i + 1) (pick b c) = idxs b cs i (pick b c) ++ [(i : Int)] := by
  unfold idxs
  rw [List.range_succ, List.filter_append, List.map_append]
  congr 1
  rw [List.filter_cons_of_pos (by simp [h])]
  rfl
theorem idxs_miss {b : Bool} {cs : List Cell} {i : Nat} {c : Cell} {r : Int} (h : cs[i]? = some c) (n : pick b c ≠ r) : idxs b cs (i + 1) r = idxs b cs i r := by
  unfold idxs
  rw [List.range_succ, List.filter_append, List.map_append]
  rw [List.filter_cons_of_neg (by simp [h, n])]
  simp
def lnsOf (b : Bool) (cs : List Cell) : List (List Int) := ((List.range 8).map fun (r : Nat) => idxs b cs cs.length (r : Int)).filter fun l => decide (l ≠ [])
theorem idxs_mem {b : Bool} {cs : List Cell} {i : Nat} {r x : Int} (h : x ∈ idxs b cs i r) : 0 ≤ x ∧ x < (i : Int) := by
  unfold idxs at h
  obtain ⟨j, hj, rfl⟩ := List.mem_map.mp h
  have := List.mem_range.mp (List.mem_filter.mp hj).1
  omega
theorem idxs_len (b : Bool) (cs : List Cell) (i : Nat) (r : Int) : (idxs b cs i r).length ≤ i := by
  unfold idxs
  rw [List.length_map]
  exact Nat.le_trans (List.length_filter_le _ _) (by simp)
theorem idxs_grid {b : Bool} {cs : List Cell} {i : Nat} {r : Int} (g : ∀ c ∈ cs, InGrid c) (h : idxs b cs i r ≠ []) : 0 ≤ r ∧ r < 8 := by
  cases e : idxs b cs i r with
  | nil => exact absurd e h
  | cons x l =>
    have hx : x ∈ idxs b cs i r := by
      rw [e]
      exact List.mem_cons_self
    unfold idxs at hx
    obtain ⟨j, hj, rfl⟩ := List.mem_map.mp hx
    have q := of_decide_eq_true (List.mem_filter.mp hj).2
    cases z : cs[j]? with
    | none =>
      rw [z] at q
      cases q
    | some c =>
      rw [z] at q
      have q' : pick b c = r := Option.some.inj q
      have gc := g c (List.mem_of_getElem? z)
      unfold pick at q'
      unfold InGrid at gc
      split at q' <;> omega
/-- two strictly ascending lists with the same members are one -/
theorem asc_ext : ∀ {l m : List Int}, l.Pairwise (· < ·) → m.Pairwise (· < ·) → (∀ x, x ∈ l ↔ x ∈ m) → l = m
  | [], [], _, _, _ => rfl
  | [], y :: m, _, _, h => absurd ((h y).mpr List.mem_cons_self) (by simp)
  | x :: l, [], _, _, h => absurd ((h x).mp List.mem_cons_self) (by simp)
  | x :: l, y :: m, h1, h2, h => by
    rw [List.pairwise_cons] at h1 h2
    have e : x = y := by
      rcases List.mem_cons.mp ((h x).mp List.mem_cons_self) with z | z
      · exact z
      · rcases List.mem_cons.mp ((h y).mpr List.mem_cons_self) with z2 | z2
        · exact z2.symm
        · have a := h2.1 x z
          have b := h1.1 y z2
          omega
    subst e
    congr 1
    refine asc_ext h1.2 h2.2 fun z => ⟨fun hz => ?_, fun hz => ?_⟩
    · rcases List.mem_cons.mp ((h z).mp (List.mem_cons_of_mem _ hz)) with e | e
      · have := h1.1 z hz
        omega
      · exact e
    · rcases List.mem_cons.mp ((h z).mpr (List.mem_cons_of_mem _ hz)) with e | e
      · have := h2.1 z hz
        omega
      · exact e
theorem strict_of {l : List Int} (h : l.Pairwise (· ≤ ·)) (n : l.Nodup) : l.Pairwise (· < ·) := by
  rw [List.nodup_iff_pairwise_ne] at n
  exact (h.and n).imp fun {a b} q => by omega
/-- the lines in use, by number -/
def usedOf (b : Bool) (cs : List Cell) : List Int := ((List.range 8).map fun (r : Nat) => (r : Int)).filter fun r => decide (idxs b cs cs.length r ≠ [])
theorem used_asc (b : Bool) (cs : List Cell) : (usedOf b cs).Pairwise (· < ·) := by
  unfold usedOf
  exact List.Pairwise.sublist List.filter_sublist (by decide)
theorem used_lines (b : Bool) (cs : List Cell) : (usedOf b cs).map (fun r => idxs b cs cs.length r) = lnsOf b cs := by
  unfold usedOf lnsOf
  rw [List.filter_map, List.filter_map, List.map_map]
  rfl
theorem used_mem {b : Bool} {cs : List Cell} (g : ∀ c ∈ cs, InGrid c) (r : Int) : r ∈ usedOf b cs ↔ idxs b cs cs.length r ≠ [] := by
  unfold usedOf
  rw [List.mem_filter]
  refine ⟨fun h => of_decide_eq_true h.2, fun h => ⟨?_, decide_eq_true h⟩⟩
  have := idxs_grid g h
  rw [List.mem_map]
  exact ⟨r.toNat, List.mem_range.mpr (by omega), by omega⟩
/-! ### lines, in the heap -/
def TupI (K : PySem.W.Frag) (H : Hp) (x : V) (l : List Int) : Prop := ∃ t, x = .ref t ∧ SqT K H t (l.map V.int)
def LstI (H : Hp) (x : V) (l : List Int) : Prop := ∃ t, x = .ref t ∧ H t = some (.lst (l.map V.int))
abbrev lineD (l : List Int) : PyData := .tuple (l.map PyData.int)
abbrev linesD (ls : List (List Int)) : PyData := .tuple (ls.map lineD)
theorem dp_ints {K : PySem.W.Frag} {H : Hp} : ∀ l : List Int, DpAll K H (l.map V.int) (l.map PyData.int)
  | [] => .nil
  | x :: l => .cons (.int x) (dp_ints l)
theorem dp_lines {K : PySem.W.Frag} {H : Hp} : ∀ {xs : List V} {ls : List (List Int)}, Paired (TupI K H) xs ls → DpAll K H xs (ls.map lineD)
  | _, _, .nil => .nil
  | _, _, .cons ⟨t, e, h⟩ r => by
    subst e
    exact .cons (.tup h (dp_ints _)) (dp_lines r)
theorem tupI_kt {K : PySem.W.Frag} {H H' : Hp} (k : KT K H H') {xs : List V} {ls : List (List Int)} (h : Paired (TupI K H) xs ls) : Paired (TupI K H') xs ls :=
  Paired.mono (fun _ _ ⟨t, e, q⟩ => ⟨t, e, k _ _ q⟩) h
def spIsKind : Sp := fun vs H Q _ => ∃ b : Bool, vs = [.str (if b = true then "C" else "R")] ∧ ∀ H', Same H H' → Q (.bl true) H'
def spKind : Sp := fun vs H Q _ => ∃ b : Bool, vs = [.str (if b = true then "C" else "R")] ∧ ∀ H', Same H H' → Q .non H'
def spLines (K : PySem.W.Frag) : Sp := fun vs H Q _ => ∃ (a : Addr) (b : Bool) (cs : List Cell), vs = [.ref a, .str (if b = true then "C" else "R")] ∧ PlanAt K H a cs ∧ Good cs ∧ cs.length ≤ 24 ∧
  ∀ H' p xs, Same H H' → SqT K H' p xs → Paired (TupI K H') xs (lnsOf b cs) → Q (.ref p) H'
def spLawLines (K : PySem.W.Frag) : Sp := fun vs H Q _ => ∃ (a : Addr) (b : Bool) (cs : List Cell), vs = [.ref a, .str (if b = true then "C" else "R")] ∧ PlanAt K H a cs ∧ cs.length ≤ 24 ∧
  ∀ H' p xs, Same H H' → H' p = some (.lst xs) → Paired (LstI H') xs (lnsOf b cs) → Q (.ref p) H'
end KS
namespace KS
open PySem PySem.Spec PyProof.Rows L2
/-- 0 if kind == "R" else 1 -/
theorem side_ok {b : Bool} {σ : L2.St} {H : Hp} {Q : VK} (hσ : σ[1]? = some (some (.str (if b = true then "C" else "R")))) (k : Q (.int (if b = true then 1 else 0)) H) :
    tIf (tTest (tOp rEq (tVar 1) (tC (.str "R")))) (tC (.int 0)) (tC (.int 1)) σ H Q := by
  refine ⟨_, hσ, by cases b <;> rfl, _, rfl, ?_⟩
  cases b
  · rw [if_pos (by decide +kernel)]
    exact k
  · rw [if_neg (by decide +kernel)]
    exact k
theorem at_pick {b : Bool} {c : Cell} : atI [V.int c.1, V.int c.2] (if b = true then 1 else 0) = some (V.int (pick b c)) := by
  cases b <;> rfl
/-- the dict of lines behind i cells -/
structure Grp (b : Bool) (cs : List Cell) (i : Nat) (d : Addr) (kvs : List (Key × V)) (ad : Int → Addr) (H : Hp) : Prop where
  dict : H d = some (.dK kvs)
  keys : ∃ ks : List Int, kvs.map (·.1) = ks.map Sum.inl ∧ ks.Nodup ∧ ks.length ≤ i
  val : ∀ r : Int, valV kvs (.inl r) = if idxs b cs i r = [] then none else some (.ref (ad r))
  lst : ∀ r : Int, idxs b cs i r ≠ [] → H (ad r) = some (.lst ((idxs b cs i r).map V.int))
  inj : ∀ r r' : Int, idxs b cs i r ≠ [] → idxs b cs i r' ≠ [] → ad r = ad r' → r = r'
theorem Grp.same {b : Bool} {cs : List Cell} {i : Nat} {d : Addr} {kvs : List (Key × V)} {ad : Int → Addr} {H H' : Hp} (g : Grp b cs i d kvs ad H) (s : Same H H') : Grp b cs i d kvs ad H' :=
  ⟨s _ _ g.dict, g.keys, g.val, fun r h => s _ _ (g.lst r h), g.inj⟩
theorem Grp.more {b : Bool} {cs : List Cell} {i : Nat} {d : Addr} {kvs : List (Key × V)} {ad : Int → Addr} {H : Hp} {c : Cell} (g : Grp b cs i d kvs ad H) (hc : cs[i]? = some c) (h : idxs b cs i (pick b c) ≠ []) :
    Grp b cs (i + 1) d kvs ad (upd H (ad (pick b c)) (.lst ((idxs b cs i (pick b c)).map V.int ++ [.int (i : Nat)]))) := by
  have same : ∀ r, (idxs b cs (i + 1) r = []) ↔ (idxs b cs i r = []) := fun r => by
    by_cases e : pick b c = r
    · subst e
      rw [idxs_hit hc]
      simp [h]
    · rw [idxs_miss hc e]
  have hd : d ≠ ad (pick b c) := ne_of g.dict (g.lst _ h) (by intro z; cases z)
  obtain ⟨ks, k1, k2, k3⟩ := g.keys
  refine ⟨by rw [upd_ne hd]; exact g.dict, ⟨ks, k1, k2, by omega⟩, fun r => ?_, fun r hr => ?_, fun r r' h1 h2 => g.inj r r' (fun z => h1 ((same r).mpr z)) (fun z => h2 ((same r').mpr z))⟩
  · rw [g.val r]
    by_cases e : idxs b cs i r = []
    · rw [if_pos e, if_pos ((same r).mpr e)]
    · rw [if_neg e, if_neg (fun z => e ((same r).mp z))]
  · have hr' : idxs b cs i r ≠ [] := fun z => hr ((same r).mpr z)
    by_cases e : pick b c = r
    · subst e
      rw [upd_same, idxs_hit hc, List.map_append]
      rfl
    · rw [upd_ne (fun z => e (g.inj _ _ h hr' z.symm)), idxs_miss hc e]
      exact g.lst r hr'
theorem Grp.new {b : Bool} {cs : List Cell} {i : Nat} {d z : Addr} {kvs : List (Key × V)} {ad : Int → Addr} {H : Hp} {c : Cell} (g : Grp b cs i d kvs ad H) (hc : cs[i]? = some c) (h : idxs b cs i (pick b c) = []) (nz : H z = none) :
    Grp b cs (i + 1) d (putK kvs (.inl (pick b c)) (.ref z)) (fun r => if r = pick b c then z else ad r) (upd (upd (upd H z (.lst [])) d (.dK (putK kvs (.inl (pick b c)) (.ref z)))) z (.lst ([] ++ [.int (i : Nat)]))) := by
  have hv : valV kvs (.inl (pick b c)) = none := by
    rw [g.val, if_pos h]
  have hdz : d ≠ z := ne_of_none g.dict nz
  have hput : putK kvs (Sum.inl (pick b c)) (V.ref z) = kvs ++ [(Sum.inl (pick b c), V.ref z)] := by
    unfold putK
    rw [if_neg]
    rw [valV_any, hv]
    simp
  have hit : idxs b cs (i + 1) (pick b c) = [(i : Int)] := by
    rw [idxs_hit hc, h]
    rfl
  obtain ⟨ks, k1, k2, k3⟩ := g.keys
  refine ⟨?_, ⟨ks ++ [pick b c], ?_, ?_, ?_⟩, fun r => ?_, fun r hr => ?_, fun r r' h1 h2 => ?_⟩
  · rw [upd_ne hdz, upd_same]
  · rw [hput, List.map_append, List.map_append, k1]
    rfl
  · rw [List.nodup_append]
    refine ⟨k2, by simp, fun x hx y hy e => ?_⟩
    rw [List.mem_singleton] at hy
    subst hy
    subst e
    apply valV_not hv
    rw [k1]
    exact List.mem_map.mpr ⟨_, hx, rfl⟩
  · rw [List.length_append]
    simp
    omega
  · rw [valV_put]
    by_cases e : r = pick b c
    · subst e
      rw [if_pos rfl, hit, if_neg (by simp), if_pos rfl]
    · rw [if_neg (fun q => e (Sum.inl.inj q)), g.val, idxs_miss hc (Ne.symm e), if_neg e]
  · by_cases e : r = pick b c
    · subst e
      show upd _ _ _ (if _ then z else _) = _
      rw [if_pos rfl, upd_same, hit]
      rfl
    · show upd _ _ _ (if _ then z else _) = _
      rw [if_neg e]
      rw [idxs_miss hc (Ne.symm e)] at hr ⊢
      have hl := g.lst r hr
      rw [upd_ne (ne_of_none hl nz), upd_ne (ne_of hl g.dict (by intro q; cases q)), upd_ne (ne_of_none hl nz)]
      exact hl
  · intro e
    by_cases e1 : r = pick b c
    · by_cases e2 : r' = pick b c
      · rw [e1, e2]
      · have e' : (if r = pick b c then z else ad r) = (if r' = pick b c then z else ad r') := e
        rw [if_pos e1, if_neg e2] at e'
        rw [idxs_miss hc (Ne.symm e2)] at h2
        have := g.lst r' h2
        rw [← e', nz] at this
        cases this
    · have e' : (if r = pick b c then z else ad r) = (if r' = pick b c then z else ad r') := e
      rw [idxs_miss hc (Ne.symm e1)] at h1
      by_cases e2 : r' = pick b c
      · rw [if_neg e1, if_pos e2] at e'
        have := g.lst r h1
        rw [e', nz] at this
        cases this
      · rw [if_neg e1, if_neg e2] at e'
        rw [idxs_miss hc (Ne.symm e2)] at h2
        exact g.inj r r' h1 h2 e'
/-- the sorted keys are the lines in use -/
theorem Grp.used {b : Bool} {cs : List Cell} {d : Addr} {kvs : List (Key × V)} {ad : Int → Addr} {H : Hp} {ks ys : List Int} (g : Grp b cs cs.length d kvs ad H) (gr : ∀ c ∈ cs, InGrid c) (e : kvs.map (·.1) = ks.map Sum.inl) (n : ks.Nodup) (p : ys.Perm ks) (s : ys.Pairwise (· ≤ ·)) : ys = usedOf b cs := by
  refine asc_ext (strict_of s (p.nodup_iff.mpr n)) (used_asc b cs) fun r => ?_
  rw [p.mem_iff, used_mem gr]
  have key : r ∈ ks ↔ (Sum.inl r : Key) ∈ kvs.map (·.1) := by
    rw [e, List.mem_map]
    exact ⟨fun h => ⟨r, h, rfl⟩, fun ⟨x, hx, q⟩ => by cases q; exact hx⟩
  rw [key]
  constructor
  · intro h z
    have hv : valV kvs (.inl r) = none := by rw [g.val, if_pos z]
    exact valV_not hv h
  · intro h
    exact valV_in (v := .ref (ad r)) (by rw [g.val, if_neg h])
end KS
namespace KS
open PySem PySem.Spec PyProof.Rows L2
theorem ints_lay : ∀ l : List Int, PyData.canLayAll0 (l.map PyData.int) = true ∧ PyData.depthAll (l.map PyData.int) = 0
  | [] => ⟨by simp only [List.map_nil, PyData.canLayAll0], by simp only [List.map_nil, PyData.depthAll]⟩
  | x :: l => by
    obtain ⟨h1, h2⟩ := ints_lay l
    simp only [List.map_cons, PyData.canLayAll0, PyData.depthAll, PyData.canLay0, PyData.depth, h1, h2, Bool.and_self, Nat.max_self, and_self]
theorem ints_shaped (l : List Int) : SeqAt.shaped (.list (l.map PyData.int)) = true := by
  obtain ⟨h1, h2⟩ := ints_lay l
  unfold SeqAt.shaped
  simp only [PyData.canLay0, PyData.depth, h1, h2]
  decide
theorem ints_eqv_nil (l : List Int) : PyData.eqv (.list (l.map PyData.int)) (.list []) = l.isEmpty := by
  cases l with
  | nil => decide
  | cons x l => rfl
theorem kind_test (b : Bool) : decide (V.str (if b = true then "C" else "R") = V.str "C") = b := by
  cases b <;> decide +kernel
/-- the lines below r that are in use -/
def lnsTo (b : Bool) (cs : List Cell) (r : Nat) : List (List Int) := ((List.range r).map fun (r : Nat) => idxs b cs cs.length (r : Int)).filter fun l => decide (l ≠ [])
theorem lnsTo_hit {b : Bool} {cs : List Cell} {r : Nat} (h : idxs b cs cs.length (r : Int) ≠ []) : lnsTo b cs (r + 1) = lnsTo b cs r ++ [idxs b cs cs.length (r : Int)] := by
  unfold lnsTo
  rw [List.range_succ, List.map_append, List.filter_append]
  congr 1
  rw [List.map_cons, List.filter_cons_of_pos (by simpa using h)]
  rfl
theorem lnsTo_miss {b : Bool} {cs : List Cell} {r : Nat} (h : idxs b cs cs.length (r : Int) = []) : lnsTo b cs (r + 1) = lnsTo b cs r := by
  unfold lnsTo
  rw [List.range_succ, List.map_append, List.filter_append, List.map_cons, List.filter_cons_of_neg (by simp [h])]
  simp
theorem lnsTo_len (b : Bool) (cs : List Cell) (r : Nat) : (lnsTo b cs r).length ≤ r := by
  unfold lnsTo
  exact Nat.le_trans (List.length_filter_le _ _) (by simp)
end KS
namespace KS
open PySem PySem.Spec PyProof.Rows L2
/-! ### a sort of lines, as mathematics -/
def sortI (l : List Int) : List Int := l.mergeSort (fun a b => decide (a ≤ b))
theorem sortI_perm (l : List Int) : (sortI l).Perm l := List.mergeSort_perm _ _
theorem sortI_asc (l : List Int) : (sortI l).Pairwise (· ≤ ·) := by
  have h := List.pairwise_mergeSort (le := fun (a b : Int) => decide (a ≤ b)) (by
    intro a b c h1 h2
    have h1 := of_decide_eq_true h1
    have h2 := of_decide_eq_true h2
    exact decide_eq_true (by omega)) (by
    intro a b
    rw [Bool.or_eq_true, decide_eq_true_eq, decide_eq_true_eq]
    omega) l
  exact h.imp fun z => of_decide_eq_true z
theorem sortI_eq {l m : List Int} (p : m.Perm l) (a : m.Pairwise (· ≤ ·)) : m = sortI l :=
  List.Perm.eq_of_pairwise (fun x y _ _ h1 h2 => by omega) a (sortI_asc l) (p.trans (sortI_perm l).symm)
theorem sortI_len (l : List Int) : (sortI l).length = l.length := (sortI_perm l).length_eq
def getI (vs : List Int) (k : Int) : Int := vs.getD k.toNat 0
def putZ (acc : List Int) (zs : List (Int × Int)) : List Int := zs.foldl (fun a z => a.set z.1.toNat z.2) acc
theorem putZ_len (zs : List (Int × Int)) : ∀ acc, (putZ acc zs).length = acc.length := by
  induction zs with
  | nil => intro acc; rfl
  | cons z zs ih =>
    intro acc
    show (putZ (acc.set z.1.toNat z.2) zs).length = _
    rw [ih, List.length_set]
theorem putZ_more (acc : List Int) (zs : List (Int × Int)) (z : Int × Int) : putZ acc (zs ++ [z]) = (putZ acc zs).set z.1.toNat z.2 := by
  unfold putZ
  rw [List.foldl_append]
  rfl
def srtL (vs acc : List Int) (l : List Int) : List Int := putZ acc (l.zip (sortI (l.map (getI vs))))
def srtTo (vs : List Int) (ls : List (List Int)) : List Int := ls.foldl (srtL vs) vs
/-- the values after a sort of this kind -/
def srt (b : Bool) (cs : List Cell) (vs : List Int) : List Int := srtTo vs (lnsOf b cs)
theorem srtTo_more (vs : List Int) (ls : List (List Int)) (l : List Int) : srtTo vs (ls ++ [l]) = srtL vs (srtTo vs ls) l := by
  unfold srtTo
  rw [List.foldl_append]
  rfl
theorem srtL_len (vs acc l : List Int) : (srtL vs acc l).length = acc.length := putZ_len _ _
theorem foldl_len {f : List Int → List Int → List Int} (h : ∀ a l, (f a l).length = a.length) : ∀ (ls : List (List Int)) (a : List Int), (ls.foldl f a).length = a.length
  | [], _ => rfl
  | l :: ls, a => by
    show (ls.foldl f (f a l)).length = _
    rw [foldl_len h ls, h]
theorem srtTo_len (vs : List Int) (ls : List (List Int)) : (srtTo vs ls).length = vs.length := foldl_len (srtL_len vs) ls vs
theorem srt_len (b : Bool) (cs : List Cell) (vs : List Int) : (srt b cs vs).length = vs.length := srtTo_len _ _
theorem idxs_nat {b : Bool} {cs : List Cell} {i : Nat} {r k : Int} (h : k ∈ idxs b cs i r) : ∃ j : Nat, k = (j : Int) ∧ j < i := by
  unfold idxs at h
  obtain ⟨j, hj, rfl⟩ := List.mem_map.mp h
  exact ⟨j, rfl, List.mem_range.mp (List.mem_filter.mp hj).1⟩
theorem lns_mem {b : Bool} {cs : List Cell} {l : List Int} (h : l ∈ lnsOf b cs) : (∀ k ∈ l, ∃ j : Nat, k = (j : Int) ∧ j < cs.length) ∧ l.length ≤ cs.length := by
  unfold lnsOf at h
  obtain ⟨r, _, rfl⟩ := List.mem_map.mp (List.mem_filter.mp h).1
  exact ⟨fun k hk => idxs_nat hk, idxs_len _ _ _ _⟩
theorem getI_at {vs : List Int} {j : Nat} (h : j < vs.length) : (vs.map V.int)[j]? = some (.int (getI vs (j : Int))) := by
  unfold getI
  rw [List.getElem?_map, Int.toNat_natCast, List.getD_eq_getElem?_getD, List.getElem?_eq_getElem h]
  rfl
theorem ixN_at {n j : Nat} (h : j < n) : ixN n (j : Int) = some j := by
  unfold ixN
  rw [if_pos (by omega), if_pos (by omega), Int.toNat_natCast]
/-- the law's own sort: of a tuple of whole numbers -/
def spLSorted (K : PySem.W.Frag) : Sp := fun xs H Q _ => ∃ (a t : Addr) (b : Bool) (cs : List Cell) (vs : List Int), xs = [.ref a, .ref t, .str (if b = true then "C" else "R")] ∧ PlanAt K H a cs ∧ cs.length ≤ 24 ∧
  SqT K H t (vs.map V.int) ∧ vs.length = cs.length ∧ ∀ H' u, Same H H' → SqT K H' u ((srt b cs vs).map V.int) → H u = none → Q (.ref u) H'
end KS
namespace KS
open PySem PySem.Spec PyProof.Rows L2
theorem ints_eqvAll : ∀ l m : List Int, PyData.eqvAll (l.map PyData.int) (m.map PyData.int) = decide (l = m)
  | [], [] => by simp [PyData.eqvAll]
  | [], _ :: _ => by simp [PyData.eqvAll]
  | _ :: _, [] => by simp [PyData.eqvAll]
  | x :: l, y :: m => by
    have h : PyData.eqvAll ((x :: l).map PyData.int) ((y :: m).map PyData.int) = (x == y && PyData.eqvAll (l.map PyData.int) (m.map PyData.int)) := by
      simp only [List.map_cons, PyData.eqvAll, PyData.eqv]
    rw [h, ints_eqvAll l m]
    by_cases e : x = y <;> by_cases e2 : l = m <;> simp [e, e2]
theorem ints_eqvL (l m : List Int) : PyData.eqv (.list (l.map PyData.int)) (.list (m.map PyData.int)) = decide (l = m) := by
  have h : PyData.eqv (.list (l.map PyData.int)) (.list (m.map PyData.int)) = PyData.eqvAll (l.map PyData.int) (m.map PyData.int) := by simp only [PyData.eqv]
  rw [h, ints_eqvAll]
theorem ints_eqvT (l m : List Int) : PyData.eqv (.tuple (l.map PyData.int)) (.tuple (m.map PyData.int)) = decide (l = m) := by
  have h : PyData.eqv (.tuple (l.map PyData.int)) (.tuple (m.map PyData.int)) = PyData.eqvAll (l.map PyData.int) (m.map PyData.int) := by simp only [PyData.eqv]
  rw [h, ints_eqvAll]
/-- whether the values of a line ascend -/
def upL (vs l : List Int) : Bool := decide (l.map (getI vs) = sortI (l.map (getI vs)))
/-- whether each line of the kind ascends -/
def rises (b : Bool) (cs : List Cell) (vs : List Int) : Bool := (lnsOf b cs).all (upL vs)
def spLRises (K : PySem.W.Frag) : Sp := fun xs H Q _ => ∃ (a t : Addr) (b : Bool) (cs : List Cell) (vs : List Int), xs = [.ref a, .ref t, .str (if b = true then "C" else "R")] ∧ PlanAt K H a cs ∧ cs.length ≤ 24 ∧
  SqT K H t (vs.map V.int) ∧ vs.length = cs.length ∧ ∀ H', Same H H' → Q (.bl (rises b cs vs)) H'
/-- the law's own words: the sorts of the letters, from left to right -/
def kindS (b : Bool) : Str := if b = true then "C" else "R"
def aft (cs : List Cell) (w : List Bool) (vs : List Int) : List Int := w.foldl (fun a b => srt b cs a) vs
theorem aft_len (cs : List Cell) : ∀ (w : List Bool) (vs : List Int), (aft cs w vs).length = vs.length
  | [], _ => rfl
  | b :: w, vs => by
    show (aft cs w (srt b cs vs)).length = _
    rw [aft_len cs w, srt_len]
theorem aft_more (cs : List Cell) (w : List Bool) (b : Bool) (vs : List Int) : aft cs (w ++ [b]) vs = srt b cs (aft cs w vs) := by
  unfold aft
  rw [List.foldl_append]
  rfl
end KS
namespace KS
open PySem PySem.Spec PyProof.Rows L2
/-- the values of a line, a new list -/
theorem pick_line {K : PySem.W.Frag} {t' : Addr} {σ : L2.St} {H : Hp} {Q : VK} {vs l : List Int} {i1 i2 i3 : Nat} {tt : Addr} (h1 : σ[i1]? = some (some (.ref t'))) (h2 : σ[i2]? = some (some (.ref tt))) (hlt : H t' = some (.lst (l.map V.int))) (ht : SqT K H tt (vs.map V.int))
    (hm : ∀ k ∈ l, ∃ j : Nat, k = (j : Int) ∧ j < vs.length) (hl : l.length ≤ 24) (h3 : i3 < σ.length) (h13 : i2 ≠ i3)
    (k : ∀ D, H D = none → Q (.ref D) (upd H D (.lst ((l.map (getI vs)).map V.int)))) :
    tLc (iList K (tVar i1)) (gName i3) tYes (tOp (rIxT K) (tVar i2) (tVar i3)) [i3] σ H Q := by
  refine ⟨_, h1, t', rfl, ⟨_, SqL.of hlt⟩, fun D nD => ?_⟩
  have ntD : t' ≠ D := ne_of_none hlt nD
  refine lc_list (K := K) (a := t') (xs := l.map V.int) (fun j G => G = upd H D (.lst (((l.take j).map (getI vs)).map V.int))) ?_ ?_ ?_ ?_
  · rfl
  · rintro j G _ rfl
    exact SqL.of (by rw [upd_ne ntD]; exact hlt)
  · rintro j x G hj rfl
    rw [List.getElem?_map] at hj
    cases ev : l[j]? with
    | none =>
      rw [ev] at hj
      cases hj
    | some k =>
      rw [ev] at hj
      cases hj
      obtain ⟨j', rfl, hj'⟩ := hm k (List.mem_of_getElem? ev)
      refine ⟨?_, .ref tt, ?_, .int (j' : Int), ?_, tt, _, _, .int (getI vs (j' : Int)), rfl, rfl, same_seqT (same_new nD) ht, atI_nat (getI_at hj'), _, upd_same, ?_, ?_⟩
      · show ((σ.set i3 none).set i3 _).set i3 none = σ.set i3 none
        rw [List.set_set, List.set_set]
      · show ((σ.set i3 none).set i3 _)[i2]? = _
        rw [List.set_set, List.getElem?_set_ne (Ne.symm h13)]
        exact h2
      · show ((σ.set i3 none).set i3 _)[i3]? = _
        rw [List.set_set, List.getElem?_set_self h3]
      · rw [List.length_map, List.length_map, List.length_take]
        exact small64 (by omega)
      · rw [upd_upd, List.take_add_one, ev, List.map_append, List.map_append]
        rfl
  · rintro G rfl
    rw [List.length_map, List.take_length]
    exact k D nD
end KS
namespace KS
open PySem PySem.Spec PyProof.Rows L2
theorem rd_ifNe {K : PySem.W.Frag} {ta tb : TE} {t u : TS} {D : Ends} {σ : L2.St} {H : Hp} (h : ta σ H fun x H1 => tb σ H1 fun y H2 => rNeD K x y H2 fun v H3 => ∃ k, v = .bl k ∧ if k = true then t D σ H3 else u D σ H3) :
    tIfS (tTest (tOp (rNeD K) ta tb)) t u D σ H := h
theorem rd_cb1 {r : List V → Hp → VK → Prop} {ta : TE} {σ : L2.St} {H : Hp} {Q : VK} (h : ta σ H fun x H1 => r [x] H1 Q) : tCB r (tCons ta tNil) σ H Q := h
theorem up_if {K : PySem.W.Frag} {t' : Addr} {σ : L2.St} {H : Hp} {vs l : List Int} {i1 i2 i3 : Nat} {tt : Addr} {tb : TS} {D : Ends} (h1 : σ[i1]? = some (some (.ref t'))) (h2 : σ[i2]? = some (some (.ref tt))) (hlt : H t' = some (.lst (l.map V.int))) (ht : SqT K H tt (vs.map V.int))
    (hm : ∀ k ∈ l, ∃ j : Nat, k = (j : Int) ∧ j < vs.length) (hl : l.length ≤ 24) (h3 : i3 < σ.length) (h13 : i2 ≠ i3)
    (k1 : ∀ H', Same H H' → upL vs l = true → D.nx σ H') (k2 : ∀ H', Same H H' → upL vs l = false → tb D σ H') :
    tIfS (tTest (tOp (rNeD K) (tLc (iList K (tVar i1)) (gName i3) tYes (tOp (rIxT K) (tVar i2) (tVar i3)) [i3]) (tCB (rSortedI K) (tCons (tLc (iList K (tVar i1)) (gName i3) tYes (tOp (rIxT K) (tVar i2) (tVar i3)) [i3]) tNil)))) tb tNext D σ H := by
  refine rd_ifNe (pick_line (K := K) (σ := σ) h1 h2 hlt ht hm hl h3 h13 (fun D1 n1 => ?_))
  have s1 := same_new (o := .lst ((l.map (getI vs)).map V.int)) n1
  refine rd_cb1 (pick_line (K := K) (σ := σ) h1 h2 (s1 _ _ hlt) (same_seqT s1 ht) hm hl h3 h13 (fun D2 n2 => ?_))
  have s2 := same_new (o := .lst ((l.map (getI vs)).map V.int)) n2
  refine ⟨D2, _, rfl, SqL.of upd_same, fun ys D3 perm asc n3 => ?_⟩
  have ey := sortI_eq perm asc
  have s3 := same_new (o := .lst (ys.map V.int)) n3
  refine ⟨_, _, .lst (SqL.of (s3 _ _ (s2 _ _ upd_same))) (dp_ints _), .lst (SqL.of upd_same) (dp_ints _), ints_shaped _, ints_shaped _, _, rfl, ?_⟩
  rw [ints_eqvL]
  have sm := (s1.trans s2).trans s3
  by_cases c : l.map (getI vs) = ys
  · rw [decide_eq_true c]
    refine k1 _ sm ?_
    unfold upL
    rw [← ey]
    exact decide_eq_true c
  · rw [decide_eq_false c]
    refine k2 _ sm ?_
    unfold upL
    rw [← ey]
    exact decide_eq_false c
end KS
namespace KS
open PySem PySem.Spec PyProof.Rows L2
/-! ### a sort takes inversions away -/
def lt1 (a b : Int) : Nat := if a < b then 1 else 0
def cnt (a : Int) : List Int → Nat
  | [] => 0
  | b :: l => lt1 b a + cnt a l
def inv : List Int → Nat
  | [] => 0
  | a :: l => cnt a l + inv l
theorem cnt_set (b x y : Int) : ∀ {m : List Int} {j : Nat}, m[j]? = some y → cnt b (m.set j x) + lt1 y b = cnt b m + lt1 x b
  | [], _, h => by cases h
  | c :: m, 0, h => by
    cases h
    show lt1 x b + cnt b m + lt1 y b = lt1 y b + cnt b m + lt1 x b
    omega
  | c :: m, j + 1, h => by
    have ih := cnt_set b x y (m := m) (j := j) h
    show lt1 c b + cnt b (m.set j x) + lt1 y b = lt1 c b + cnt b m + lt1 x b
    omega
theorem lt1_four {x y b : Int} (h : y < x) : lt1 b y + lt1 x b ≤ lt1 b x + lt1 y b := by
  unfold lt1
  split <;> split <;> split <;> split <;> omega
theorem inv_front {x y : Int} (h : y < x) : ∀ {l : List Int} {j : Nat}, l[j]? = some y → cnt y (l.set j x) + inv (l.set j x) < cnt x l + inv l
  | [], _, e => by cases e
  | b :: m, 0, e => by
    cases e
    show lt1 x y + cnt y m + (cnt x m + inv m) < lt1 y x + cnt x m + (cnt y m + inv m)
    have h1 : lt1 x y = 0 := if_neg (by omega)
    have h2 : lt1 y x = 1 := if_pos h
    omega
  | b :: m, j + 1, e => by
    have ih := inv_front h (l := m) (j := j) e
    have c := cnt_set b x y (m := m) (j := j) e
    have f := lt1_four (b := b) h
    show lt1 b y + cnt y (m.set j x) + (cnt b (m.set j x) + inv (m.set j x)) < lt1 b x + cnt x m + (cnt b m + inv m)
    omega
theorem inv_swap {x y : Int} (h : y < x) : ∀ {l : List Int} {i j : Nat}, i < j → l[i]? = some x → l[j]? = some y → inv ((l.set i y).set j x) < inv l
  | [], _, _, _, e, _ => by cases e
  | a :: l, 0, 0, hij, _, _ => absurd hij (Nat.lt_irrefl _)
  | a :: l, 0, j + 1, _, e, e2 => by
    cases e
    exact inv_front h (l := l) (j := j) e2
  | a :: l, i + 1, 0, hij, _, _ => absurd hij (Nat.not_lt_zero _)
  | a :: l, i + 1, j + 1, hij, e, e2 => by
    have hij' : i < j := Nat.lt_of_succ_lt_succ hij
    have ih := inv_swap h (l := l) (i := i) (j := j) hij' e e2
    have c1 := cnt_set a y x (m := l) (j := i) e
    have e3 : (l.set i y)[j]? = some y := by
      rw [List.getElem?_set_ne (by omega)]
      exact e2
    have c2 := cnt_set a x y (m := l.set i y) (j := j) e3
    show cnt a ((l.set i y).set j x) + inv ((l.set i y).set j x) < cnt a l + inv l
    omega
theorem cnt_le (a : Int) : ∀ l : List Int, cnt a l ≤ l.length
  | [] => Nat.le_refl _
  | b :: l => by
    have := cnt_le a l
    have h : lt1 b a ≤ 1 := by
      unfold lt1
      split <;> omega
    show lt1 b a + cnt a l ≤ l.length + 1
    omega
theorem inv_le : ∀ l : List Int, 2 * inv l ≤ l.length * (l.length - 1)
  | [] => Nat.le_refl _
  | a :: l => by
    have h := inv_le l
    have c := cnt_le a l
    show 2 * (cnt a l + inv l) ≤ (l.length + 1) * (l.length + 1 - 1)
    rw [Nat.add_sub_cancel]
    cases hl : l.length with
    | zero =>
      rw [hl] at h c
      simp at h c
      omega
    | succ n =>
      rw [hl] at h c
      rw [Nat.add_sub_cancel] at h
      have e : (n + 1 + 1) * (n + 1) = (n + 1) * n + 2 * (n + 1) := by
        rw [Nat.add_mul (n + 1) 1 (n + 1), Nat.mul_add (n + 1) n 1]
        omega
      omega
end KS
namespace KS
open PySem PySem.Spec PyProof.Rows L2
def putN : List Int → List Nat → List Int → List Int
  | acc, k :: ks, y :: ys => putN (acc.set k y) ks ys
  | acc, _, _ => acc
def getN (acc : List Int) (ks : List Nat) : List Int := ks.map fun k => acc.getD k 0
theorem putN_nil (acc : List Int) (ys : List Int) : putN acc [] ys = acc := by
  unfold putN
  rfl
theorem putN_cons (acc : List Int) (k : Nat) (ks : List Nat) (y : Int) (ys : List Int) : putN acc (k :: ks) (y :: ys) = putN (acc.set k y) ks ys := by
  rw [putN]
theorem putN_none (acc : List Int) (ks : List Nat) : putN acc ks [] = acc := by
  cases ks <;> (unfold putN; rfl)
theorem putN_len : ∀ (ks : List Nat) (ys acc : List Int), (putN acc ks ys).length = acc.length
  | [], ys, acc => by rw [putN_nil]
  | k :: ks, [], acc => by rw [putN_none]
  | k :: ks, y :: ys, acc => by rw [putN_cons, putN_len ks ys, List.length_set]
theorem putN_off : ∀ {ks : List Nat} {ys acc : List Int} {i : Nat}, i ∉ ks → (putN acc ks ys)[i]? = acc[i]?
  | [], ys, acc, i, _ => by rw [putN_nil]
  | k :: ks, [], acc, i, _ => by rw [putN_none]
  | k :: ks, y :: ys, acc, i, h => by
    have hk : k ≠ i := fun e => h (e ▸ List.mem_cons_self)
    rw [putN_cons, putN_off (fun m => h (List.mem_cons_of_mem _ m)), List.getElem?_set_ne hk]
theorem getD_of {acc : List Int} {k : Nat} {v : Int} (h : acc[k]? = some v) : acc.getD k 0 = v := by
  rw [List.getD_eq_getElem?_getD, h]
  rfl
theorem get_put : ∀ {ks : List Nat} {ys acc : List Int}, ks.Nodup → ks.length = ys.length → (∀ k ∈ ks, k < acc.length) → getN (putN acc ks ys) ks = ys
  | [], [], acc, _, _, _ => rfl
  | [], _ :: _, acc, _, h, _ => by cases h
  | _ :: _, [], acc, _, h, _ => by cases h
  | k :: ks, y :: ys, acc, nd, hl, hb => by
    rw [List.nodup_cons] at nd
    rw [putN_cons]
    show (putN (acc.set k y) ks ys).getD k 0 :: getN (putN (acc.set k y) ks ys) ks = y :: ys
    rw [get_put nd.2 (by simpa using hl) (fun j hj => by rw [List.length_set]; exact hb j (List.mem_cons_of_mem _ hj))]
    congr 1
    refine getD_of ?_
    rw [putN_off nd.1, List.getElem?_set_self (hb k List.mem_cons_self)]
theorem put_same : ∀ {ks : List Nat} {acc : List Int}, (∀ k ∈ ks, k < acc.length) → putN acc ks (getN acc ks) = acc
  | [], acc, _ => by rw [putN_nil]
  | k :: ks, acc, hb => by
    show putN acc (k :: ks) (acc.getD k 0 :: getN acc ks) = acc
    have hk := hb k List.mem_cons_self
    have e : acc.set k (acc.getD k 0) = acc := by
      rw [List.getD_eq_getElem?_getD, List.getElem?_eq_getElem hk]
      exact List.set_getElem_self hk
    rw [putN_cons, e]
    exact put_same fun j hj => hb j (List.mem_cons_of_mem _ hj)
theorem put_over : ∀ {ks : List Nat} {zs a b : List Int}, a.length = b.length → ks.length = zs.length → (∀ i, i ∉ ks → a[i]? = b[i]?) → putN a ks zs = putN b ks zs
  | [], zs, a, b, _, _, h => by
    rw [putN_nil, putN_nil]
    exact List.ext_getElem? fun i => h i (by simp)
  | k :: ks, [], a, b, _, hl, _ => by cases hl
  | k :: ks, z :: zs, a, b, hab, hl, h => by
    rw [putN_cons, putN_cons]
    refine put_over (by rw [List.length_set, List.length_set, hab]) (by simpa using hl) fun i hi => ?_
    by_cases e : k = i
    · subst e
      by_cases c : k < a.length
      · rw [List.getElem?_set_self c, List.getElem?_set_self (by omega)]
      · rw [List.getElem?_eq_none (by rw [List.length_set]; omega), List.getElem?_eq_none (by rw [List.length_set]; omega)]
    · rw [List.getElem?_set_ne e, List.getElem?_set_ne e]
      refine h i fun m => ?_
      rcases List.mem_cons.mp m with z | z
      · exact e z.symm
      · exact hi z
/-- the same, or fewer inversions -/
def Dn (a b : List Int) : Prop := b = a ∨ inv b < inv a
theorem Dn.trans {a b c : List Int} (h : Dn a b) (k : Dn b c) : Dn a c := by
  rcases h with rfl | h
  · exact k
  · rcases k with rfl | k
    · exact .inr h
    · exact .inr (Nat.lt_trans k h)
def ins (x : Int) : List Int → List Int
  | [] => [x]
  | y :: s => if x ≤ y then x :: y :: s else y :: ins x s
def isort : List Int → List Int
  | [] => []
  | x :: l => ins x (isort l)
theorem ins_perm (x : Int) : ∀ s : List Int, (ins x s).Perm (x :: s)
  | [] => List.Perm.refl _
  | y :: s => by
    unfold ins
    split
    · exact List.Perm.refl _
    · exact ((ins_perm x s).cons y).trans (List.Perm.swap _ _ _)
theorem isort_perm : ∀ l : List Int, (isort l).Perm l
  | [] => List.Perm.refl _
  | x :: l => (ins_perm x _).trans ((isort_perm l).cons x)
theorem ins_asc {x : Int} : ∀ {s : List Int}, s.Pairwise (· ≤ ·) → (ins x s).Pairwise (· ≤ ·)
  | [], _ => by simp [ins]
  | y :: s, h => by
    rw [List.pairwise_cons] at h
    unfold ins
    split
    · rename_i c
      rw [List.pairwise_cons, List.pairwise_cons]
      refine ⟨fun z hz => ?_, h.1, h.2⟩
      rcases List.mem_cons.mp hz with rfl | m
      · exact c
      · have := h.1 z m
        omega
    · rename_i c
      rw [List.pairwise_cons]
      refine ⟨fun z hz => ?_, ins_asc h.2⟩
      rcases List.mem_cons.mp ((ins_perm x s).mem_iff.mp hz) with rfl | m
      · omega
      · exact h.1 z m
theorem isort_asc : ∀ l : List Int, (isort l).Pairwise (· ≤ ·)
  | [] => List.Pairwise.nil
  | _ :: l => ins_asc (isort_asc l)
theorem isort_eq (l : List Int) : isort l = sortI l := sortI_eq (isort_perm l) (isort_asc l)
theorem ins_dn : ∀ {ks : List Nat} {k : Nat} {acc s : List Int} {x : Int}, (k :: ks).Pairwise (· < ·) → (∀ j ∈ k :: ks, j < acc.length) → getN acc (k :: ks) = x :: s → Dn acc (putN acc (k :: ks) (ins x s))
  | [], k, acc, s, x, _, hb, e => by
    have e' : [acc.getD k 0] = x :: s := e
    cases e'
    exact .inl (put_same (ks := [k]) hb)
  | k' :: ks, k, acc, [], x, _, hb, e => by
    have e' : acc.getD k 0 :: acc.getD k' 0 :: getN acc ks = [x] := e
    cases e'
  | k' :: ks, k, acc, y :: s, x, hp, hb, e => by
    unfold ins
    split
    · rw [← e]
      exact .inl (put_same hb)
    · rename_i c
      have e' : acc.getD k 0 :: acc.getD k' 0 :: getN acc ks = x :: y :: s := e
      injection e' with e1 e2
      injection e2 with e2 e3
      rw [List.pairwise_cons] at hp
      have hk := hb k List.mem_cons_self
      have hk' := hb k' (List.mem_cons_of_mem _ List.mem_cons_self)
      have hlt : k < k' := hp.1 k' List.mem_cons_self
      have g1 : acc[k]? = some x := by
        rw [List.getElem?_eq_getElem hk, ← e1, List.getD_eq_getElem?_getD, List.getElem?_eq_getElem hk]
        rfl
      have g2 : acc[k']? = some y := by
        rw [List.getElem?_eq_getElem hk', ← e2, List.getD_eq_getElem?_getD, List.getElem?_eq_getElem hk']
        rfl
      have sw := inv_swap (x := x) (y := y) (by omega) hlt g1 g2
      have hp2 := List.pairwise_cons.mp hp.2
      have gg : getN ((acc.set k y).set k' x) (k' :: ks) = x :: s := by
        show ((acc.set k y).set k' x).getD k' 0 :: getN ((acc.set k y).set k' x) ks = x :: s
        rw [getD_of (List.getElem?_set_self (by rw [List.length_set]; exact hk'))]
        congr 1
        rw [← e3]
        refine List.map_congr_left fun j hj => ?_
        have j1 : k' < j := hp2.1 j hj
        show ((acc.set k y).set k' x).getD j 0 = acc.getD j 0
        rw [List.getD_eq_getElem?_getD, List.getD_eq_getElem?_getD, List.getElem?_set_ne (by omega), List.getElem?_set_ne (by omega)]
      have ih := ins_dn (acc := (acc.set k y).set k' x) hp.2 (fun j hj => by rw [List.length_set, List.length_set]; exact hb j (List.mem_cons_of_mem _ hj)) gg
      have ep : putN acc (k :: k' :: ks) (y :: ins x s) = putN ((acc.set k y).set k' x) (k' :: ks) (ins x s) := by
        rw [putN_cons]
        cases h : ins x s with
        | nil =>
          have := (ins_perm x s).length_eq
          rw [h] at this
          cases this
        | cons z zs => rw [putN_cons, putN_cons, List.set_set]
      rw [ep]
      exact Dn.trans (.inr sw) ih
theorem sort_dn : ∀ {ks : List Nat} {acc : List Int}, ks.Pairwise (· < ·) → (∀ j ∈ ks, j < acc.length) → Dn acc (putN acc ks (isort (getN acc ks)))
  | [], acc, _, _ => .inl (putN_nil _ _)
  | k :: ks, acc, hp, hb => by
    have hp' := List.pairwise_cons.mp hp
    have hb' : ∀ j ∈ ks, j < acc.length := fun j hj => hb j (List.mem_cons_of_mem _ hj)
    have ih := sort_dn hp'.2 hb'
    have nk : k ∉ ks := fun m => Nat.lt_irrefl _ (hp'.1 k m)
    have nd : ks.Nodup := hp'.2.imp fun h => Nat.ne_of_lt h
    have ll : ks.length = (isort (getN acc ks)).length := by
      rw [(isort_perm _).length_eq]
      unfold getN
      rw [List.length_map]
    have g : getN (putN acc ks (isort (getN acc ks))) (k :: ks) = acc.getD k 0 :: isort (getN acc ks) := by
      show (putN acc ks (isort (getN acc ks))).getD k 0 :: getN (putN acc ks (isort (getN acc ks))) ks = _
      rw [get_put nd ll hb', List.getD_eq_getElem?_getD, putN_off nk, ← List.getD_eq_getElem?_getD]
    have b := ins_dn (acc := putN acc ks (isort (getN acc ks))) hp (fun j hj => by rw [putN_len]; exact hb j hj) g
    have e : putN (putN acc ks (isort (getN acc ks))) (k :: ks) (ins (acc.getD k 0) (isort (getN acc ks))) = putN acc (k :: ks) (ins (acc.getD k 0) (isort (getN acc ks))) := by
      refine put_over (putN_len _ _ _) ?_ fun i hi => putN_off fun m => hi (List.mem_cons_of_mem _ m)
      rw [(ins_perm _ _).length_eq, List.length_cons, List.length_cons, ll]
    rw [e] at b
    exact ih.trans b
end KS
namespace KS
open PySem PySem.Spec PyProof.Rows L2
def up (ks : List Nat) : List Int := ks.map fun (k : Nat) => (k : Int)
theorem putZ_up : ∀ (ks : List Nat) (ys acc : List Int), putZ acc ((up ks).zip ys) = putN acc ks ys
  | [], ys, acc => by rw [putN_nil]; rfl
  | k :: ks, [], acc => by rw [putN_none]; rfl
  | k :: ks, y :: ys, acc => by
    rw [putN_cons, ← putZ_up ks ys]
    rfl
theorem get_up (vs : List Int) (ks : List Nat) : (up ks).map (getI vs) = getN vs ks := by
  unfold up getN
  rw [List.map_map]
  rfl
def srtN (vs acc : List Int) (ks : List Nat) : List Int := putN acc ks (sortI (getN vs ks))
theorem srtL_up (vs acc : List Int) (ks : List Nat) : srtL vs acc (up ks) = srtN vs acc ks := by
  unfold srtL srtN
  rw [putZ_up, get_up]
theorem srtTo_up (vs : List Int) : ∀ (ls : List (List Nat)) (acc : List Int), (ls.map up).foldl (srtL vs) acc = ls.foldl (srtN vs) acc
  | [], _ => rfl
  | ks :: ls, acc => by
    show (ls.map up).foldl (srtL vs) (srtL vs acc (up ks)) = ls.foldl (srtN vs) (srtN vs acc ks)
    rw [srtL_up, srtTo_up vs ls]
def idxsN (b : Bool) (cs : List Cell) (i : Nat) (r : Int) : List Nat := (List.range i).filter fun j => decide ((cs[j]?).map (pick b) = some r)
theorem idxs_up (b : Bool) (cs : List Cell) (i : Nat) (r : Int) : idxs b cs i r = up (idxsN b cs i r) := rfl
def lnsN (b : Bool) (cs : List Cell) : List (List Nat) := ((List.range 8).map fun (r : Nat) => idxsN b cs cs.length (r : Int)).filter fun l => decide (l ≠ [])
theorem filter_up : ∀ ls : List (List Nat), (ls.map up).filter (fun l => decide (l ≠ [])) = (ls.filter fun l => decide (l ≠ [])).map up
  | [] => rfl
  | [] :: ls => filter_up ls
  | (k :: ks) :: ls => by
    show up (k :: ks) :: (ls.map up).filter _ = up (k :: ks) :: (ls.filter _).map up
    rw [filter_up ls]
theorem lns_up (b : Bool) (cs : List Cell) : lnsOf b cs = (lnsN b cs).map up := by
  unfold lnsOf lnsN
  rw [← filter_up, List.map_map]
  rfl
structure Parts (n : Nat) (ls : List (List Nat)) : Prop where
  asc : ∀ ks ∈ ls, ks.Pairwise (· < ·)
  bd : ∀ ks ∈ ls, ∀ k ∈ ks, k < n
  apart : ls.Pairwise fun ks ms => ∀ k ∈ ks, k ∉ ms
theorem srtN_len (vs acc : List Int) (ks : List Nat) : (srtN vs acc ks).length = acc.length := putN_len _ _ _
theorem getN_congr {a b : List Int} {ks : List Nat} (h : ∀ k ∈ ks, a[k]? = b[k]?) : getN a ks = getN b ks := by
  refine List.map_congr_left fun k hk => ?_
  show a.getD k 0 = b.getD k 0
  rw [List.getD_eq_getElem?_getD, List.getD_eq_getElem?_getD, h k hk]
theorem fold_off {vs : List Int} {i : Nat} : ∀ {ls : List (List Nat)} {acc : List Int}, (∀ ks ∈ ls, i ∉ ks) → (ls.foldl (srtN vs) acc)[i]? = acc[i]?
  | [], _, _ => rfl
  | ks :: ls, acc, h => by
    show (ls.foldl (srtN vs) (srtN vs acc ks))[i]? = _
    rw [fold_off fun ms hm => h ms (List.mem_cons_of_mem _ hm)]
    exact putN_off (h ks List.mem_cons_self)
theorem fold_dn {vs : List Int} : ∀ {ls : List (List Nat)} {acc : List Int}, Parts acc.length ls → (∀ ks ∈ ls, ∀ k ∈ ks, acc[k]? = vs[k]?) → Dn acc (ls.foldl (srtN vs) acc)
  | [], acc, _, _ => .inl rfl
  | ks :: ls, acc, P, h => by
    have pc := List.pairwise_cons.mp P.apart
    have e : getN vs ks = getN acc ks := getN_congr fun k hk => (h ks List.mem_cons_self k hk).symm
    have d : Dn acc (srtN vs acc ks) := by
      unfold srtN
      rw [e, ← isort_eq]
      exact sort_dn (P.asc ks List.mem_cons_self) (P.bd ks List.mem_cons_self)
    refine d.trans (fold_dn (ls := ls) ⟨fun ms hm => P.asc ms (List.mem_cons_of_mem _ hm), fun ms hm k hk => ?_, pc.2⟩ fun ms hm k hk => ?_)
    · rw [srtN_len]
      exact P.bd ms (List.mem_cons_of_mem _ hm) k hk
    · have nk : k ∉ ks := fun m => pc.1 ms hm k m hk
      rw [show (srtN vs acc ks)[k]? = acc[k]? from putN_off nk]
      exact h ms (List.mem_cons_of_mem _ hm) k hk
theorem fold_get {vs : List Int} : ∀ {ls : List (List Nat)} {acc : List Int}, Parts acc.length ls → ∀ ks ∈ ls, getN (ls.foldl (srtN vs) acc) ks = sortI (getN vs ks)
  | [], _, _, _, m => by cases m
  | ms :: ls, acc, P, ks, m => by
    have pc := List.pairwise_cons.mp P.apart
    have P' : Parts (srtN vs acc ms).length ls := ⟨fun z hm => P.asc z (List.mem_cons_of_mem _ hm), fun z hm k hk => by rw [srtN_len]; exact P.bd z (List.mem_cons_of_mem _ hm) k hk, pc.2⟩
    rcases List.mem_cons.mp m with rfl | m
    · show getN (ls.foldl (srtN vs) (srtN vs acc ks)) ks = _
      rw [getN_congr (b := srtN vs acc ks) fun k hk => fold_off fun z hz => pc.1 z hz k hk]
      refine get_put ((P.asc ks List.mem_cons_self).imp fun h => Nat.ne_of_lt h) ?_ (P.bd ks List.mem_cons_self)
      rw [sortI_len]
      unfold getN
      rw [List.length_map]
    · exact fold_get P' ks m
theorem fold_fix {vs : List Int} : ∀ {ls : List (List Nat)}, (∀ ks ∈ ls, ∀ k ∈ ks, k < vs.length) → (∀ ks ∈ ls, getN vs ks = sortI (getN vs ks)) → ls.foldl (srtN vs) vs = vs
  | [], _, _ => rfl
  | ks :: ls, hb, h => by
    have e : srtN vs vs ks = vs := by
      unfold srtN
      rw [← h ks List.mem_cons_self]
      exact put_same (hb ks List.mem_cons_self)
    show ls.foldl (srtN vs) (srtN vs vs ks) = vs
    rw [e]
    exact fold_fix (fun z hz => hb z (List.mem_cons_of_mem _ hz)) fun z hz => h z (List.mem_cons_of_mem _ hz)
theorem idxsN_mem {b : Bool} {cs : List Cell} {i k : Nat} {r : Int} (h : k ∈ idxsN b cs i r) : k < i ∧ (cs[k]?).map (pick b) = some r := by
  have := List.mem_filter.mp h
  exact ⟨List.mem_range.mp this.1, of_decide_eq_true this.2⟩
theorem lns_parts (b : Bool) (cs : List Cell) : Parts cs.length (lnsN b cs) := by
  refine ⟨fun ks h => ?_, fun ks h k hk => ?_, ?_⟩
  · obtain ⟨r, _, rfl⟩ := List.mem_map.mp (List.mem_filter.mp h).1
    exact List.pairwise_lt_range.filter _
  · obtain ⟨r, _, rfl⟩ := List.mem_map.mp (List.mem_filter.mp h).1
    exact (idxsN_mem hk).1
  · refine List.Pairwise.filter _ (List.pairwise_map.2 (List.pairwise_lt_range.imp ?_))
    intro r q hrq k h1 h2
    have a := (idxsN_mem h1).2
    rw [(idxsN_mem h2).2] at a
    injection a with a
    omega
theorem srt_up (b : Bool) (cs : List Cell) (vs : List Int) : srt b cs vs = (lnsN b cs).foldl (srtN vs) vs := by
  unfold srt srtTo
  rw [lns_up, srtTo_up]
/-- a sort leaves all as it is, or takes inversions away -/
theorem srt_dn {b : Bool} {cs : List Cell} {vs : List Int} (h : vs.length = cs.length) : Dn vs (srt b cs vs) := by
  rw [srt_up]
  exact fold_dn (by rw [h]; exact lns_parts b cs) fun _ _ _ _ => rfl
theorem upL_up (vs : List Int) (ks : List Nat) : upL vs (up ks) = decide (getN vs ks = sortI (getN vs ks)) := by
  unfold upL
  rw [get_up]
theorem rises_iff {b : Bool} {cs : List Cell} {vs : List Int} : rises b cs vs = true ↔ ∀ ks ∈ lnsN b cs, getN vs ks = sortI (getN vs ks) := by
  unfold rises
  rw [lns_up, List.all_map, List.all_eq_true]
  constructor
  · intro h ks hk
    have := h ks hk
    exact of_decide_eq_true ((upL_up vs ks).symm.trans this)
  · intro h ks hk
    exact (upL_up vs ks).trans (decide_eq_true (h ks hk))
theorem sortI_fix (l : List Int) : sortI (sortI l) = sortI l := (sortI_eq (List.Perm.refl _) (sortI_asc l)).symm
/-- behind a sort the lines of the kind ascend -/
theorem srt_rises {b : Bool} {cs : List Cell} {vs : List Int} (h : vs.length = cs.length) : rises b cs (srt b cs vs) = true := by
  rw [rises_iff]
  intro ks hk
  have g : getN (srt b cs vs) ks = sortI (getN vs ks) := by
    rw [srt_up]
    exact fold_get (by rw [h]; exact lns_parts b cs) ks hk
  rw [g, sortI_fix]
/-- lines that ascend are left alone -/
theorem rises_fix {b : Bool} {cs : List Cell} {vs : List Int} (h : vs.length = cs.length) (r : rises b cs vs = true) : srt b cs vs = vs := by
  rw [srt_up]
  exact fold_fix (fun ks hk k hkk => by rw [h]; exact (lns_parts b cs).bd ks hk k hkk) (rises_iff.mp r)
/-- lines that do not ascend lose inversions -/
theorem srt_lt {b : Bool} {cs : List Cell} {vs : List Int} (h : vs.length = cs.length) (r : rises b cs vs = false) : inv (srt b cs vs) < inv vs := by
  rcases srt_dn (b := b) h with e | e
  · have := srt_rises (b := b) h
    rw [e, r] at this
    cases this
  · exact e
end KS
namespace KS
open PySem PySem.Spec PyProof.Rows L2
/-- kinds in turns, this one first -/
def turns : Bool → Nat → List Bool
  | _, 0 => []
  | b, n + 1 => b :: turns (!b) n
def kindAt (b : Bool) (n : Nat) : Bool := if n % 2 = 0 then b else !b
theorem turns_succ : ∀ (b : Bool) (n : Nat), turns b (n + 1) = turns b n ++ [kindAt b n]
  | b, 0 => rfl
  | b, n + 1 => by
    show b :: turns (!b) (n + 1) = b :: (turns (!b) n ++ [kindAt b (n + 1)])
    rw [turns_succ (!b) n]
    have e : kindAt (!b) n = kindAt b (n + 1) := by
      unfold kindAt
      rcases Nat.mod_two_eq_zero_or_one n with h | h
      · rw [if_pos h, if_neg (by omega)]
      · rw [if_neg (by omega), if_pos (by omega)]
        simp
    rw [e]
theorem kindAt_succ (b : Bool) (n : Nat) : kindAt b (n + 1) = !kindAt b n := by
  unfold kindAt
  rcases Nat.mod_two_eq_zero_or_one n with h | h
  · rw [if_pos h, if_neg (show ¬ (n + 1) % 2 = 0 by omega)]
  · rw [if_pos (show (n + 1) % 2 = 0 by omega), if_neg (show ¬ n % 2 = 0 by omega)]
    simp
theorem turns_len : ∀ (b : Bool) (n : Nat), (turns b n).length = n
  | _, 0 => rfl
  | b, n + 1 => by
    show (turns (!b) n).length + 1 = n + 1
    rw [turns_len (!b) n]
def settled (cs : List Cell) (vs : List Int) : Bool := rises false cs vs && rises true cs vs
def stat (cs : List Cell) (b : Bool) (vs : List Int) (n : Nat) : List Int := aft cs (turns b n) vs
theorem stat_succ (cs : List Cell) (b : Bool) (vs : List Int) (n : Nat) : stat cs b vs (n + 1) = srt (kindAt b n) cs (stat cs b vs n) := by
  unfold stat
  rw [turns_succ, aft_more]
theorem stat_len (cs : List Cell) (b : Bool) (vs : List Int) (n : Nat) : (stat cs b vs n).length = vs.length := aft_len _ _ _
/-- the least number of sorts in turns behind which both kinds ascend, and the values then -/
structure RestIs (cs : List Cell) (b : Bool) (vs : List Int) (n : Nat) : Prop where
  end_ : settled cs (stat cs b vs n) = true
  least : ∀ m, m < n → settled cs (stat cs b vs m) = false
theorem RestIs.uniq {cs : List Cell} {b : Bool} {vs : List Int} {n m : Nat} (h : RestIs cs b vs n) (k : RestIs cs b vs m) : n = m := by
  rcases Nat.lt_trichotomy n m with c | c | c
  · have := k.least n c
    rw [h.end_] at this
    cases this
  · exact c
  · have := h.least m c
    rw [k.end_] at this
    cases this
theorem settled_not {cs : List Cell} {vs : List Int} {k : Bool} (h : settled cs vs = false) (r : rises k cs vs = true) : rises (!k) cs vs = false := by
  unfold settled at h
  cases k
  · rw [r] at h
    simpa using h
  · rw [r] at h
    simpa using h
/-- a variant of the turns -/
def fuel (cs : List Cell) (k : Bool) (vs : List Int) : Nat := 2 * inv vs + if rises k cs vs = true then 1 else 0
theorem fuel_lt {cs : List Cell} {k : Bool} {vs : List Int} (hl : vs.length = cs.length) (h : settled cs vs = false) : fuel cs (!k) (srt k cs vs) < fuel cs k vs := by
  unfold fuel
  cases r : rises k cs vs with
  | true =>
    rw [rises_fix hl r, if_pos rfl, if_neg (by rw [settled_not h r]; decide)]
    omega
  | false =>
    have := srt_lt hl r
    rw [if_neg (show ¬ (false = true) by decide)]
    split <;> omega
/-- at most 277 sorts settle any table of 24 cells -/
theorem stat_inv {cs : List Cell} {b : Bool} {vs : List Int} {n : Nat} (hl : vs.length = cs.length) (h : RestIs cs b vs n) : ∀ m, m + 1 ≤ n → inv (stat cs b vs (m + 1)) + m ≤ inv (stat cs b vs 1)
  | 0, _ => Nat.le_refl _
  | m + 1, hm => by
    have ih := stat_inv hl h m (by omega)
    have ns := h.least (m + 1) (by omega)
    have ln : (stat cs b vs m).length = cs.length := by rw [stat_len, hl]
    have r : rises (kindAt b m) cs (stat cs b vs (m + 1)) = true := by
      rw [stat_succ]
      exact srt_rises ln
    have r2 := settled_not ns r
    rw [← kindAt_succ] at r2
    have lt := srt_lt (by rw [stat_len, hl]) r2
    rw [← stat_succ] at lt
    omega
theorem rest_le {cs : List Cell} {b : Bool} {vs : List Int} {n : Nat} (hl : vs.length = cs.length) (hc : cs.length ≤ 24) (h : RestIs cs b vs n) : n ≤ 277 := by
  cases n with
  | zero => omega
  | succ m =>
    have i := stat_inv hl h m (Nat.le_refl _)
    have le := inv_le (stat cs b vs 1)
    rw [stat_len, hl] at le
    have : cs.length * (cs.length - 1) ≤ 24 * 23 := Nat.mul_le_mul hc (by omega)
    omega
end KS
namespace KS
open PySem PySem.Spec PyProof.Rows L2
/-- so many different whole numbers from 1 to 9999 -/
structure Vals9 (n : Nat) (fs : List Int) : Prop where
  len : fs.length = n
  nd : fs.Nodup
  bd : ∀ v ∈ fs, 1 ≤ v ∧ v ≤ 9999
def spValues (K : PySem.W.Frag) : Sp := fun vs H Q _ => ∃ (p : Addr) (n : Nat), vs = [.ref p, .int n] ∧ PoolO (H p) ∧ 1 ≤ n ∧ n ≤ 24 ∧
  ∀ H' t fs, KeepX p H H' → PoolO (H' p) → SqT K H' t (fs.map V.int) → Vals9 n fs → H t = none → Q (.ref t) H'
theorem Vals9.perm {n : Nat} {as bs : List Int} (h : Vals9 n as) (p : as.Perm bs) : Vals9 n bs := ⟨p.length_eq ▸ h.len, p.nodup_iff.mp h.nd, fun v m => h.bd v (p.mem_iff.mpr m)⟩
theorem map_eraseIdx {f : Int → V} : ∀ (l : List Int) (k : Nat), (l.map f).eraseIdx k = (l.eraseIdx k).map f
  | [], _ => rfl
  | _ :: _, 0 => rfl
  | x :: l, k + 1 => by
    show f x :: (l.map f).eraseIdx k = f x :: (l.eraseIdx k).map f
    rw [map_eraseIdx l k]
theorem erase_perm : ∀ {l : List Int} {k : Nat} (h : k < l.length), l.Perm (l[k] :: l.eraseIdx k)
  | _ :: _, 0, _ => List.Perm.refl _
  | x :: l, k + 1, h => ((erase_perm (l := l) (k := k) (Nat.lt_of_succ_lt_succ h)).cons x).trans (List.Perm.swap _ _ _)
theorem pick_perm {fs l : List Int} {k : Nat} (h : k < l.length) : (fs ++ l).Perm ((fs ++ [l[k]]) ++ l.eraseIdx k) := by
  rw [List.append_assoc]
  exact (erase_perm h).append_left fs
def rgI (a b : Int) : List Int := (List.range (b - a).toNat).map fun (i : Nat) => a + (i : Int)
theorem rgV_ints (a b : Int) : rgV a b = (rgI a b).map V.int := by
  unfold rgV rgI
  rw [List.map_map]
  rfl
theorem rgI_len (a b : Int) : (rgI a b).length = (b - a).toNat := by
  unfold rgI
  rw [List.length_map, List.length_range]
theorem rgI_nd (a b : Int) : (rgI a b).Nodup := by
  unfold rgI
  refine List.pairwise_map.2 (List.nodup_range.imp ?_)
  intro x y h e
  exact h (by omega)
theorem rgI_mem {a b v : Int} (h : v ∈ rgI a b) : a ≤ v ∧ v < b := by
  unfold rgI at h
  obtain ⟨i, hi, rfl⟩ := List.mem_map.mp h
  have := List.mem_range.mp hi
  omega
theorem vals9_low {n : Nat} (n1 : n ≤ 24) : Vals9 n (rgI 1 ((n : Int) + 1)) := by
  refine ⟨by rw [rgI_len]; omega, rgI_nd _ _, fun v h => ?_⟩
  have := rgI_mem h
  omega
theorem vals9_high {n : Nat} (n1 : n ≤ 24) : Vals9 n (rgI (10000 - (n : Int)) 10000) := by
  refine ⟨by rw [rgI_len]; omega, rgI_nd _ _, fun v h => ?_⟩
  have := rgI_mem h
  omega
theorem vals9_step {n : Nat} {st : Int} (n0 : 1 ≤ n) (s0 : 1 ≤ st) (s1 : st ≤ 9999 / (n : Int)) : Vals9 n ((rgI 1 ((n : Int) + 1)).map fun v => st * v) := by
  refine ⟨by rw [List.length_map, rgI_len]; omega, List.pairwise_map.2 ((rgI_nd _ _).imp ?_), fun v h => ?_⟩
  · intro x y h e
    exact h (Int.eq_of_mul_eq_mul_left (by omega) e)
  · obtain ⟨u, hu, rfl⟩ := List.mem_map.mp h
    have b := rgI_mem hu
    have h1 : st * (n : Int) ≤ 9999 := (Int.le_ediv_iff_mul_le (by omega)).mp s1
    have h2 : st * u ≤ st * (n : Int) := Int.mul_le_mul_of_nonneg_left (by omega) (by omega)
    have h3 : 1 * 1 ≤ st * u := Int.mul_le_mul s0 b.1 (by omega) (by omega)
    omega
def VSt (p : Addr) (n : Nat) (mode : Int) (H : Hp) (σ : L2.St) (H' : Hp) : Prop := ∃ (e : Addr) (y4 : Option V) (ls : List Int), σ = [some (.ref p), some (.int n), some (.int mode), some (.ref e), y4, none, none, none] ∧
  H e = none ∧ e ≠ p ∧ H' e = some (.lst (ls.map V.int)) ∧ Vals9 n ls ∧ KeepX p H H' ∧ PoolO (H' p)
theorem KeepX.free {p q : Addr} {H H' : Hp} (k : KeepX p H H') (po : PoolO (H' p)) (n : H' q = none) : H q = none := by
  cases z : H q with
  | none => rfl
  | some o =>
    have := k q o (Ne.symm (po.ne n)) z
    rw [n] at this
    cases this
theorem vals_ifs {K : PySem.W.Frag} {p e : Addr} {n : Nat} {mode : Int} {H H2 : Hp} {tr : TS} {D : Ends} (n0 : 1 ≤ n) (n1 : n ≤ 24) (he0 : H e = none) (hep : e ≠ p) (he : H2 e = some (.lst (rgV 1 ((n : Int) + 1)))) (kx : KeepX p H H2) (po : PoolO (H2 p))
    (k : ∀ σ' H', VSt p n mode H σ' H' → tr D σ' H') :
    tSeq (tIfS (tTest (tOp rEq (tVar 2) (tC (V.int 1)))) (tAsg (tLstRg (tRg2 (tOp (rI0 fun i j => V.int (i - j)) (tC (V.int 10000)) (tVar 1)) (tC (V.int 10000)))) (gName 3)) tNext)
      (tSeq (tIfS (tTest (tOp (rI0 fun i j => V.bl (decide (i > j))) (tVar 2) (tC (V.int 1))))
        (tSeq (tAsg (tOp (rI0 fun i j => V.int (i + j)) (tC (V.int 1)) (tCall spDraw [] E0 (tCons (tVar 0) (tCons (tOp (rI CDiv fun i j => V.int (i / j)) (tC (V.int 9999)) (tVar 1)) tNil)))) (gName 4))
          (tAsg (tLc (iList K (tVar 3)) (gName 7) tYes (tOp (rI CMul fun i j => V.int (i * j)) (tVar 4) (tVar 7)) [7]) (gName 3))) tNext) tr) D
      [some (.ref p), some (.int n), some (.int mode), some (.ref e), none, none, none, none] H2 := by
  refine ⟨_, rfl, rfl, _, rfl, ite2 (fun c => ?_) (fun c => ?_)⟩
  · have cm : mode = 1 := V.int.inj (of_decide_eq_true c)
    subst cm
    refine ⟨_, rfl, _, _, rfl, rfl, _, _, rfl, rfl, ⟨by omega, by omega, by omega, by omega, by omega⟩, fun g ng => ?_⟩
    have sg := same_new (o := .lst (rgV (10000 - (n : Int)) 10000)) ng
    refine ⟨_, rfl, _, _, rfl, rfl, _, rfl, ite2 (fun c => ?_) (fun c => ?_)⟩
    · exact absurd (of_decide_eq_true c) (by decide)
    · refine k _ _ ⟨g, none, rgI (10000 - (n : Int)) 10000, rfl, kx.free po ng, Ne.symm (po.ne ng), ?_, vals9_high n1, kx.trans (.of_same sg), po.same sg⟩
      rw [upd_same, rgV_ints]
  · refine ⟨_, rfl, _, _, rfl, rfl, _, rfl, ite2 (fun c => ?_) (fun c => ?_)⟩
    · have qd : 1 ≤ (9999 : Int) / (n : Int) := (Int.le_ediv_iff_mul_le (by omega)).mpr (by omega)
      have qu : (9999 : Int) / (n : Int) ≤ 9999 := Int.ediv_le_self _ (by decide)
      refine ⟨_, rfl, _, rfl, _, _, rfl, rfl, ⟨by omega, by omega⟩, p, _, rfl, po, by omega, by omega, fun H3 r k3 po3 r0 r1 => ?_⟩
      refine ⟨_, _, rfl, rfl, ?_⟩
      have he3 := k3 _ _ hep he
      refine ⟨_, rfl, e, rfl, ⟨_, SqL.of he3⟩, fun D0 nD => ?_⟩
      have neD : e ≠ D0 := ne_of_none he3 nD
      refine lc_list (K := K) (a := e) (xs := rgV 1 ((n : Int) + 1)) (fun j G => G = upd H3 D0 (.lst (((rgI 1 ((n : Int) + 1)).take j).map fun v => V.int ((1 + r) * v)))) ?_ ?_ ?_ ?_
      · rfl
      · rintro j G _ rfl
        exact SqL.of (by rw [upd_ne neD]; exact he3)
      · rintro j x G hj rfl
        rw [rgV_ints, List.getElem?_map] at hj
        cases ev : (rgI 1 ((n : Int) + 1))[j]? with
        | none =>
          rw [ev] at hj
          cases hj
        | some v =>
          rw [ev] at hj
          cases hj
          have hv := rgI_mem (List.mem_of_getElem? ev)
          refine ⟨rfl, _, rfl, _, rfl, _, _, rfl, rfl, .inl ⟨by omega, by omega⟩, _, upd_same, ?_, ?_⟩
          · rw [List.length_map, List.length_take]
            refine small64 ?_
            rw [rgI_len]
            omega
          · rw [upd_upd, List.take_add_one, ev, List.map_append]
            rfl
      · rintro G rfl
        rw [rgV_length, List.take_of_length_le (by rw [rgI_len]; omega)]
        have sD := same_new (o := .lst ((rgI 1 ((n : Int) + 1)).map fun v => V.int ((1 + r) * v))) nD
        refine k _ _ ⟨D0, _, (rgI 1 ((n : Int) + 1)).map fun v => (1 + r) * v, rfl, (kx.trans k3).free po3 nD, Ne.symm (po3.ne nD), ?_, vals9_step n0 (by omega) (by omega), (kx.trans k3).trans (.of_same sD), po3.same sD⟩
        rw [upd_same, List.map_map]
        rfl
    · refine k _ _ ⟨e, none, rgI 1 ((n : Int) + 1), rfl, he0, hep, ?_, vals9_low n1, kx, po⟩
      rw [← rgV_ints]
      exact he
end KS
namespace KS
open PySem PySem.Spec PyProof.Rows L2
/-! ### small data can be shown -/
theorem small_int {x : Int} (h0 : 0 ≤ x) (h1 : x < 10000) : PyData.leavesShort 8 (.int x) = true ∧ PyData.showable (.int x) = true ∧ PyData.weight (.int x) ≤ 14 := by
  obtain ⟨n, rfl⟩ := Int.eq_ofNat_of_zero_le h0
  have hn : n < 10000 := by omega
  have hlog : n.log2 < 14 := by
    rcases Nat.eq_zero_or_pos n with z | z
    · subst z
      decide
    · exact (Nat.log2_lt (by omega)).mpr (by omega)
  refine ⟨?_, ?_, ?_⟩
  · simp only [PyData.leavesShort]
    exact decide_eq_true (by
      simp only [PyData.shown]
      exact toString_length_le (k := 8) (by omega) (by decide) (by show (n : Int) < 10 ^ 8; omega))
  · simp only [PyData.showable]
    exact decide_eq_true (by show n.log2 < 1920; omega)
  · simp only [PyData.weight]
    split
    · omega
    · show n.log2 + 1 ≤ 14
      omega
/-- what repr asks of its data -/
structure Shows (d : PyData) (n : Nat) : Prop where
  short : d.leavesShort 8 = true
  show_ : d.showable = true
  nod : d.hasDict = false
  wt : d.weight ≤ n
structure ShowsAll (ds : List PyData) (n : Nat) : Prop where
  short : PyData.leavesShortAll 8 ds = true
  show_ : PyData.showableAll ds = true
  nod : PyData.hasDictAll ds = false
  wt : PyData.weightAll ds ≤ (n + 1) * ds.length
theorem showsAll_of {n : Nat} : ∀ {ds : List PyData}, (∀ d ∈ ds, Shows d n) → ShowsAll ds n
  | [], _ => ⟨by simp only [PyData.leavesShortAll], by simp only [PyData.showableAll], by simp only [PyData.hasDictAll], by simp [PyData.weightAll]⟩
  | d :: ds, h => by
    have h1 := h d List.mem_cons_self
    have h2 := showsAll_of fun x hx => h x (List.mem_cons_of_mem _ hx)
    refine ⟨?_, ?_, ?_, ?_⟩
    · simp only [PyData.leavesShortAll, h1.short, h2.short, Bool.and_self]
    · simp only [PyData.showableAll, h1.show_, h2.show_, Bool.and_self]
    · simp only [PyData.hasDictAll, h1.nod, h2.nod, Bool.or_self]
    · simp only [PyData.weightAll, List.length_cons]
      have a := h1.wt
      have b := h2.wt
      rw [Nat.mul_add, Nat.mul_one]
      omega
theorem shows_tuple {n m : Nat} {ds : List PyData} (h : ShowsAll ds n) (hm : (n + 1) * ds.length ≤ m) : Shows (.tuple ds) m := by
  refine ⟨?_, ?_, ?_, ?_⟩
  · simp only [PyData.leavesShort, h.short]
  · simp only [PyData.showable, h.show_]
  · simp only [PyData.hasDict, h.nod]
  · simp only [PyData.weight]
    exact Nat.le_trans h.wt hm
theorem shows_int {x : Int} (h0 : 0 ≤ x) (h1 : x < 10000) : Shows (.int x) 14 := by
  obtain ⟨a, b, c⟩ := small_int h0 h1
  exact ⟨a, b, by simp only [PyData.hasDict], c⟩
theorem Shows.len {d : PyData} {n : Nat} (h : Shows d n) (hn : n ≤ 1048576) : d.shown.length ≤ sizeLine :=
  PyData.shown_fits (B := 8) (by decide) (by decide) h.short (Nat.le_trans h.wt (by
    show n ≤ 2 ^ 20
    have : (2 : Nat) ^ 20 = 1048576 := by decide
    omega))
theorem shows_line {l : List Int} (h : ∀ x ∈ l, 0 ≤ x ∧ x < 10000) (hl : l.length ≤ 64) : Shows (lineD l) 960 := by
  refine shows_tuple (n := 14) (showsAll_of fun d hd => ?_) ?_
  · obtain ⟨x, hx, rfl⟩ := List.mem_map.mp hd
    exact shows_int (h x hx).1 (h x hx).2
  · rw [List.length_map]
    omega
theorem shows_lines {ls : List (List Int)} (h : ∀ l ∈ ls, (∀ x ∈ l, 0 ≤ x ∧ x < 10000) ∧ l.length ≤ 64) (hl : ls.length ≤ 64) : Shows (linesD ls) 61504 := by
  refine shows_tuple (n := 960) (showsAll_of fun d hd => ?_) ?_
  · obtain ⟨l, hx, rfl⟩ := List.mem_map.mp hd
    exact shows_line (h l hx).1 (h l hx).2
  · rw [List.length_map]
    omega
theorem depth_line (l : List Int) : (lineD l).depth = 1 := by
  simp only [PyData.depth, (ints_lay l).2]
theorem depth_lines : ∀ ls : List (List Int), PyData.depthAll (ls.map lineD) ≤ 1
  | [] => by simp [PyData.depthAll]
  | l :: ls => by
    have a := depth_lines ls
    have b := depth_line l
    simp only [List.map_cons, PyData.depthAll]
    omega
theorem lns_small {b : Bool} {cs : List Cell} (hl : cs.length ≤ 24) : Shows (linesD (lnsOf b cs)) 61504 ∧ (linesD (lnsOf b cs)).depth ≤ 64 := by
  refine ⟨shows_lines (fun l h => ?_) ?_, ?_⟩
  · unfold lnsOf at h
    obtain ⟨r, _, rfl⟩ := List.mem_map.mp (List.mem_filter.mp h).1
    refine ⟨fun x hx => ?_, ?_⟩
    · have := idxs_mem hx
      omega
    · have := idxs_len b cs cs.length (r : Int)
      omega
  · have : (lnsOf b cs).length ≤ 8 := lnsTo_len b cs 8
    omega
  · have := depth_lines (lnsOf b cs)
    simp only [PyData.depth]
    omega
/-! ### sorted cells -/
def keyOf (H : Hp) : V → Int × Int
  | .ref t => match H t with
    | some (.tup [.int i, .int j]) => (i, j)
    | _ => (0, 0)
  | _ => (0, 0)
theorem keyOf_at {H : Hp} {t : Addr} {i j : Int} (h : H t = some (.tup [.int i, .int j])) : keyOf H (.ref t) = (i, j) := by
  show (match H t with
    | some (.tup [.int i, .int j]) => ((i, j) : Int × Int)
    | _ => (0, 0)) = (i, j)
  rw [h]
theorem nodup_of_asc {cs : List Cell} (h : cs.Pairwise lt2) : cs.Nodup := by
  rw [List.nodup_iff_pairwise_ne]
  refine h.imp fun {a b} q e => ?_
  subst e
  rcases q with q | q <;> omega
/-- new cells, in a list -/
def NewCells (H : Hp) : List V → List Cell → Prop := Paired fun x c => ∃ t, x = .ref t ∧ H t = some (.tup [.int c.1, .int c.2])
theorem newCells_mono {H H' : Hp} (k : ∀ t ys, H t = some (.tup ys) → H' t = some (.tup ys)) {xs : List V} {cs : List Cell} (h : NewCells H xs cs) : NewCells H' xs cs :=
  Paired.mono (fun _ _ ⟨t, e, q⟩ => ⟨t, e, k _ _ q⟩) h
theorem newCells_key {H : Hp} : ∀ {xs : List V} {cs : List Cell}, NewCells H xs cs → xs.map (keyOf H) = cs
  | _, _, .nil => rfl
  | _, _, .cons ⟨t, e, h⟩ r => by
    subst e
    rw [List.map_cons, keyOf_at h, newCells_key r]
theorem newCells_mem {H : Hp} : ∀ {xs : List V} {cs : List Cell}, NewCells H xs cs → ∀ x ∈ xs, ∃ t, x = .ref t ∧ H t = some (.tup [.int (keyOf H x).1, .int (keyOf H x).2])
  | _, _, .nil, _, h => nomatch h
  | _, _, .cons ⟨t, e, h⟩ r, x, hx => by
    rcases List.mem_cons.mp hx with z | z
    · subst z
      subst e
      exact ⟨t, rfl, by rw [keyOf_at h]; exact h⟩
    · exact newCells_mem r x z
theorem cells_of_mem {K : PySem.W.Frag} {H : Hp} : ∀ {ys : List V}, (∀ x ∈ ys, ∃ t, x = .ref t ∧ H t = some (.tup [.int (keyOf H x).1, .int (keyOf H x).2])) → CellsAt K H ys (ys.map (keyOf H))
  | [], _ => .nil
  | y :: ys, h => by
    obtain ⟨t, e, q⟩ := h y List.mem_cons_self
    exact .cons ⟨t, e, SqT.of q⟩ (cells_of_mem fun x hx => h x (List.mem_cons_of_mem _ hx))
/-- sorted of new cells, all different: they ascend -/
theorem sorted_cells {K : PySem.W.Frag} {H : Hp} {xs ys : List V} {cs : List Cell} (h : NewCells H xs cs) (nd : cs.Nodup) (hs : SrtO.Srtd (ltP (keyOf H)) ys) (hp : ys.Perm xs) :
    CellsAt K H ys (ys.map (keyOf H)) ∧ (ys.map (keyOf H)).Perm cs ∧ (ys.map (keyOf H)).Pairwise lt2 := by
  have p1 : (ys.map (keyOf H)).Perm cs := by
    rw [← newCells_key h]
    exact hp.map _
  refine ⟨cells_of_mem fun x hx => newCells_mem h x (hp.mem_iff.mp hx), p1, ?_⟩
  have n1 : (ys.map (keyOf H)).Nodup := p1.nodup_iff.mpr nd
  have s1 : (ys.map (keyOf H)).Pairwise fun a b => SrtO.lexB b a = false := by
    rw [List.pairwise_map]
    exact hs
  rw [List.nodup_iff_pairwise_ne] at n1
  refine (s1.and n1).imp fun {a b} q => ?_
  obtain ⟨q1, q2⟩ := q
  have q3 : ¬ (b.1 < a.1 ∨ (b.1 = a.1 ∧ b.2 < a.2)) := fun z => by
    rw [SrtO.lexB_iff.mpr z] at q1
    cases q1
  by_cases e1 : a.1 < b.1
  · exact .inl e1
  · by_cases e2 : a.1 = b.1
    · refine .inr ⟨e2, ?_⟩
      by_cases e3 : a.2 = b.2
      · exact absurd (Prod.ext e2 e3) q2
      · have : ¬ b.2 < a.2 := fun z => q3 (.inr ⟨e2.symm, z⟩)
        omega
    · exact absurd (.inl (by omega)) q3
def mir (c : Cell) : Cell := (c.1, 7 - c.2)
theorem nodup_mir {cs : List Cell} (h : cs.Nodup) : (cs.map mir).Nodup := by
  rw [List.nodup_iff_pairwise_ne] at h ⊢
  rw [List.pairwise_map]
  refine h.imp fun {a b} q e => q ?_
  have e0 : ((a.1, 7 - a.2) : Int × Int) = (b.1, 7 - b.2) := e
  injection e0 with e1 e2
  exact Prod.ext e1 (by omega)
theorem good_mir {cs ds : List Cell} (g : Good cs) (p : ds.Perm (cs.map mir)) (a : ds.Pairwise lt2) : Good ds ∧ ds.length = cs.length := by
  have hl : ds.length = cs.length := by rw [p.length_eq, List.length_map]
  refine ⟨⟨a, fun d hd => ?_, fun z => ?_⟩, hl⟩
  · obtain ⟨c, hc, rfl⟩ := List.mem_map.mp (p.mem_iff.mp hd)
    have := g.grid c hc
    unfold InGrid at this ⊢
    show 0 ≤ c.1 ∧ c.1 ≤ 7 ∧ 0 ≤ 7 - c.2 ∧ 7 - c.2 ≤ 7
    omega
  · rw [z] at hl
    exact g.ne (List.eq_nil_of_length_eq_zero hl.symm)
def spRight : Sp := fun vs H Q _ => ∃ p : Addr, vs = [.ref p] ∧ PoolO (H p) ∧ ∀ H', KeepX p H H' → Q (.bl true) H'
def spLaw (K : PySem.W.Frag) : Sp := fun vs H Q _ => ∃ (a : Addr) (ns : List Int), vs = [.ref a] ∧ SqL K H a (ns.map V.int) ∧ ns.length ≤ 63 ∧ ∀ H', Q (.bl true) H'
end KS
namespace KS
open PySem PySem.Spec PyProof.Rows L2
/-! ### x in t, t a tuple of plain data -/
def rInT (K : PySem.W.Frag) : V → V → Hp → VK → Prop := fun x y H Q => ∃ d ds, Dp K H x d ∧ Dp K H y (.tuple ds) ∧ SeqAt.shaped d = true ∧ SeqAt.shaped (.tuple ds) = true ∧ Q (.bl (ds.any fun z => PyData.eqv z d)) H
theorem op_inT {X : Cx} (hu : X.A.units + 65 < cLine) : OpR X (compareOp .In) (rInT X.K) := by
  intro pins s σ H x y v u Q I rx ry h
  obtain ⟨d, ds, hd, he, sd, se, q⟩ := h
  obtain ⟨as, r1⟩ := Dp.reads I d x v hd rx
  obtain ⟨bs, r2⟩ := Dp.reads I (.tuple ds) y u he ry
  refine SeqAt.in_tuple_reads r2 r1 (SeqAt.canLay_of_shaped se) (SeqAt.canLay_of_shaped sd) ?_ ⟨.bl _, H, I, rfl, q⟩
  have := SeqAt.depth_of_shaped sd
  have h2 : min (PyData.depthAll ds) d.depth ≤ d.depth := Nat.min_le_right _ _
  omega
/-! ### plans as data -/
abbrev cellD (c : Cell) : PyData := .tuple [.int c.1, .int c.2]
abbrev planD (cs : List Cell) : PyData := .tuple (cs.map cellD)
theorem dp_cell {K : PySem.W.Frag} {H : Hp} {t : Addr} {c : Cell} (h : SqT K H t [.int c.1, .int c.2]) : Dp K H (.ref t) (cellD c) := .tup h (.cons (.int _) (.cons (.int _) .nil))
theorem dp_cells {K : PySem.W.Frag} {H : Hp} : ∀ {xs : List V} {cs : List Cell}, CellsAt K H xs cs → DpAll K H xs (cs.map cellD)
  | _, _, .nil => .nil
  | _, _, .cons ⟨t, e, h⟩ r => by
    subst e
    exact .cons (dp_cell h) (dp_cells r)
theorem PlanAt.dp {K : PySem.W.Frag} {H : Hp} {a : Addr} {cs : List Cell} (h : PlanAt K H a cs) : Dp K H (.ref a) (planD cs) := by
  obtain ⟨xs, h1, h2⟩ := h
  exact .tup h1 (dp_cells h2)
theorem cell_lay (c : Cell) : (cellD c).canLay0 = true ∧ (cellD c).depth = 1 := by
  simp [PyData.canLay0, PyData.canLayAll0, PyData.depth, PyData.depthAll]
theorem cells_lay : ∀ cs : List Cell, PyData.canLayAll0 (cs.map cellD) = true ∧ PyData.depthAll (cs.map cellD) ≤ 1
  | [] => ⟨by simp only [List.map_nil, PyData.canLayAll0], by simp [PyData.depthAll]⟩
  | c :: cs => by
    obtain ⟨a, b⟩ := cells_lay cs
    obtain ⟨x, y⟩ := cell_lay c
    refine ⟨?_, ?_⟩
    · rw [List.map_cons, PyData.canLayAll0, x, a]
      rfl
    · rw [List.map_cons, PyData.depthAll, y]
      omega
theorem cell_shaped (c : Cell) : SeqAt.shaped (cellD c) = true := by
  obtain ⟨x, y⟩ := cell_lay c
  unfold SeqAt.shaped
  rw [x, y]
  rfl
theorem plan_shaped (cs : List Cell) : SeqAt.shaped (planD cs) = true := by
  obtain ⟨a, b⟩ := cells_lay cs
  unfold SeqAt.shaped
  rw [Bool.and_eq_true]
  refine ⟨?_, decide_eq_true ?_⟩
  · simp only [PyData.canLay0, a]
  · simp only [PyData.depth]
    omega
theorem cell_eqv (a b : Cell) : PyData.eqv (cellD a) (cellD b) = decide (a = b) := by
  have h : PyData.eqv (cellD a) (cellD b) = (a.1 == b.1 && (a.2 == b.2 && true)) := by
    simp only [PyData.eqv, PyData.eqvAll]
  rw [h, Bool.and_true]
  by_cases e : a = b
  · subst e
    simp
  · rw [decide_eq_false e]
    by_cases e1 : a.1 = b.1
    · have e2 : a.2 ≠ b.2 := fun z => e (Prod.ext e1 z)
      simp [e1, e2]
    · simp [e1]
theorem in_plan (cs : List Cell) (c : Cell) : ((cs.map cellD).any fun z => PyData.eqv z (cellD c)) = decide (c ∈ cs) := by
  rw [List.any_map]
  by_cases h : c ∈ cs
  · rw [decide_eq_true h, List.any_eq_true]
    exact ⟨c, h, by show PyData.eqv (cellD c) (cellD c) = true; rw [cell_eqv]; simp⟩
  · rw [decide_eq_false h, List.any_eq_false]
    intro x hx z
    have z' : PyData.eqv (cellD x) (cellD c) = true := z
    rw [cell_eqv] at z'
    have := of_decide_eq_true z'
    subst this
    exact h hx
theorem shows_plan {cs : List Cell} (g : ∀ c ∈ cs, InGrid c) (hl : cs.length ≤ 64) : Shows (planD cs) 1984 ∧ (planD cs).depth ≤ 64 := by
  refine ⟨shows_tuple (n := 30) (showsAll_of fun d hd => ?_) ?_, ?_⟩
  · obtain ⟨c, hc, rfl⟩ := List.mem_map.mp hd
    have := g c hc
    unfold InGrid at this
    refine shows_tuple (n := 14) (showsAll_of fun d hd => ?_) (by show (14 + 1) * 2 ≤ 30; decide)
    rcases List.mem_cons.mp hd with z | z
    · subst z
      exact shows_int (by omega) (by omega)
    · rcases List.mem_cons.mp z with z | z
      · subst z
        exact shows_int (by omega) (by omega)
      · cases z
  · rw [List.length_map]
    omega
  · have := (cells_lay cs).2
    simp only [PyData.depth]
    omega
/-! ### ascending lists of cells -/
theorem asc_ext2 : ∀ {l m : List Cell}, l.Pairwise lt2 → m.Pairwise lt2 → (∀ x, x ∈ l ↔ x ∈ m) → l = m
  | [], [], _, _, _ => rfl
  | [], y :: m, _, _, h => absurd ((h y).mpr List.mem_cons_self) (by simp)
  | x :: l, [], _, _, h => absurd ((h x).mp List.mem_cons_self) (by simp)
  | x :: l, y :: m, h1, h2, h => by
    rw [List.pairwise_cons] at h1 h2
    have no : ∀ a b : Cell, lt2 a b → lt2 b a → False := fun a b p q => by
      unfold lt2 at p q
      omega
    have e : x = y := by
      rcases List.mem_cons.mp ((h x).mp List.mem_cons_self) with z | z
      · exact z
      · rcases List.mem_cons.mp ((h y).mpr List.mem_cons_self) with z2 | z2
        · exact z2.symm
        · exact (no _ _ (h2.1 x z) (h1.1 y z2)).elim
    subst e
    congr 1
    refine asc_ext2 h1.2 h2.2 fun z => ⟨fun hz => ?_, fun hz => ?_⟩
    · rcases List.mem_cons.mp ((h z).mp (List.mem_cons_of_mem _ hz)) with e | e
      · exact (no _ _ (h1.1 z hz) (e ▸ h1.1 z hz)).elim
      · exact e
    · rcases List.mem_cons.mp ((h z).mpr (List.mem_cons_of_mem _ hz)) with e | e
      · exact (no _ _ (h2.1 z hz) (e ▸ h2.1 z hz)).elim
      · exact e
theorem asc_perm {l m : List Cell} (h1 : l.Pairwise lt2) (h2 : m.Pairwise lt2) (p : l.Perm m) : l = m := asc_ext2 h1 h2 fun x => p.mem_iff
def swp (c : Cell) : Cell := (c.2, c.1)
theorem nodup_swp {cs : List Cell} (h : cs.Nodup) : (cs.map swp).Nodup := by
  rw [List.nodup_iff_pairwise_ne] at h ⊢
  rw [List.pairwise_map]
  refine h.imp fun {a b} q e => q ?_
  have e0 : ((a.2, a.1) : Int × Int) = (b.2, b.1) := e
  injection e0 with e1 e2
  exact Prod.ext e2 e1
theorem good_swp {cs ds : List Cell} (g : Good cs) (p : ds.Perm (cs.map swp)) (a : ds.Pairwise lt2) : Good ds ∧ ds.length = cs.length := by
  have hl : ds.length = cs.length := by rw [p.length_eq, List.length_map]
  refine ⟨⟨a, fun d hd => ?_, fun z => ?_⟩, hl⟩
  · obtain ⟨c, hc, rfl⟩ := List.mem_map.mp (p.mem_iff.mp hd)
    have := g.grid c hc
    unfold InGrid at this ⊢
    show 0 ≤ c.2 ∧ c.2 ≤ 7 ∧ 0 ≤ c.1 ∧ c.1 ≤ 7
    omega
  · rw [z] at hl
    exact g.ne (List.eq_nil_of_length_eq_zero hl.symm)
theorem swp_back {cs ds es : List Cell} (g : cs.Pairwise lt2) (p : ds.Perm (cs.map swp)) (p2 : es.Perm (ds.map swp)) (a : es.Pairwise lt2) : es = cs := by
  refine asc_perm a g (p2.trans ?_)
  have := p.map swp
  refine this.trans ?_
  rw [List.map_map]
  have e : (swp ∘ swp) = id := by
    funext c
    rfl
  rw [e, List.map_id]
/-! ### rectangles -/
def Full (cs : List Cell) : Prop := ∀ r k : Int, (∃ c ∈ cs, c.1 ≤ r) → (∃ c ∈ cs, r ≤ c.1) → (∃ c ∈ cs, c.2 ≤ k) → (∃ c ∈ cs, k ≤ c.2) → (r, k) ∈ cs
noncomputable def rectB (cs : List Cell) : Bool := @decide (Full cs) (Classical.propDecidable _)
theorem rectB_true {cs : List Cell} (h : Full cs) : rectB cs = true := by
  unfold rectB
  exact @decide_eq_true _ (Classical.propDecidable _) h
theorem rectB_false {cs : List Cell} (h : ¬ Full cs) : rectB cs = false := by
  unfold rectB
  exact @decide_eq_false _ (Classical.propDecidable _) h
theorem full_swp {cs ds : List Cell} (p : ds.Perm (cs.map swp)) (h : Full cs) : Full ds := by
  have to : ∀ c : Cell, c ∈ ds → swp c ∈ cs := fun c hc => by
    obtain ⟨x, hx, rfl⟩ := List.mem_map.mp (p.mem_iff.mp hc)
    exact hx
  intro r k ⟨a, ha, a1⟩ ⟨b, hb, b1⟩ ⟨c, hc, c1⟩ ⟨d, hd, d1⟩
  have := h k r ⟨swp c, to c hc, c1⟩ ⟨swp d, to d hd, d1⟩ ⟨swp a, to a ha, a1⟩ ⟨swp b, to b hb, b1⟩
  exact p.mem_iff.mpr (List.mem_map.mpr ⟨(k, r), this, rfl⟩)
theorem rectB_swp {cs ds : List Cell} (p : ds.Perm (cs.map swp)) : rectB ds = rectB cs := by
  have q : cs.Perm (ds.map swp) := by
    have := (p.map swp).symm
    rw [List.map_map] at this
    have e : (swp ∘ swp) = id := by
      funext c
      rfl
    rw [e, List.map_id] at this
    exact this
  by_cases h : Full cs
  · rw [rectB_true h, rectB_true (full_swp p h)]
  · rw [rectB_false h, rectB_false fun z => h (full_swp q z)]
theorem len_of_subset : ∀ {l m : List Cell}, l.Nodup → (∀ x ∈ l, x ∈ m) → l.length ≤ m.length
  | [], _, _, _ => Nat.zero_le _
  | x :: l, m, n, h => by
    rw [List.nodup_cons] at n
    have hx := h x List.mem_cons_self
    have ih := len_of_subset (m := m.erase x) n.2 fun y hy => by
      have hne : y ≠ x := fun e => n.1 (e ▸ hy)
      exact (List.mem_erase_of_ne hne).mpr (h y (List.mem_cons_of_mem _ hy))
    rw [List.length_erase_of_mem hx] at ih
    have : 0 < m.length := List.length_pos_of_mem hx
    rw [List.length_cons]
    omega
/-- the cells of a box: n rows from r, k columns from c -/
def boxOf (r c : Int) (n k : Nat) : List Cell := (List.range n).flatMap fun (i : Nat) => rowCells (r + (i : Int)) c k
theorem box_len (r c : Int) (n k : Nat) : (boxOf r c n k).length = n * k := by
  unfold boxOf
  rw [List.length_flatMap]
  induction n with
  | zero => simp
  | succ n ih =>
    rw [List.range_succ, List.map_append, List.sum_append, ih, List.map_cons, rowCells_len, Nat.succ_mul]
    simp
theorem box_mem {r c : Int} {n k : Nat} {x : Cell} : x ∈ boxOf r c n k ↔ r ≤ x.1 ∧ x.1 < r + n ∧ c ≤ x.2 ∧ x.2 < c + k := by
  unfold boxOf
  rw [List.mem_flatMap]
  constructor
  · rintro ⟨i, hi, hx⟩
    have := List.mem_range.mp hi
    have := rowCells_mem hx
    omega
  · rintro ⟨h1, h2, h3, h4⟩
    refine ⟨(x.1 - r).toNat, List.mem_range.mpr (by omega), ?_⟩
    unfold rowCells
    refine List.mem_map.mpr ⟨(x.2 - c).toNat, List.mem_range.mpr (by omega), ?_⟩
    refine Prod.ext ?_ ?_
    · show r + ((x.1 - r).toNat : Int) = x.1
      omega
    · show c + ((x.2 - c).toNat : Int) = x.2
      omega
theorem box_asc (r c : Int) (k : Nat) : ∀ n : Nat, (boxOf r c n k).Pairwise lt2
  | 0 => List.Pairwise.nil
  | n + 1 => by
    have e : boxOf r c (n + 1) k = boxOf r c n k ++ rowCells (r + (n : Int)) c k := by
      unfold boxOf
      rw [List.range_succ, List.flatMap_append]
      simp
    rw [e, List.pairwise_append]
    refine ⟨box_asc r c k n, rowCells_asc _ _ _, fun a ha b hb => .inl ?_⟩
    have := box_mem.mp ha
    have := rowCells_mem hb
    omega
/-- the count of cells tells the rectangle -/
theorem rect_count {cs : List Cell} {a b c d : Int} (nd : cs.Nodup) (ha : a ∈ cs.map (·.1)) (ha' : ∀ x ∈ cs.map (·.1), a ≤ x) (hb : b ∈ cs.map (·.1)) (hb' : ∀ x ∈ cs.map (·.1), x ≤ b)
    (hc : c ∈ cs.map (·.2)) (hc' : ∀ x ∈ cs.map (·.2), c ≤ x) (hd : d ∈ cs.map (·.2)) (hd' : ∀ x ∈ cs.map (·.2), x ≤ d) : decide ((cs.length : Int) = (b - a + 1) * (d - c + 1)) = rectB cs := by
  have hab : a ≤ b := ha' b hb
  have hcd : c ≤ d := hc' d hd
  have inb : ∀ x ∈ cs, x ∈ boxOf a c (b - a + 1).toNat (d - c + 1).toNat := fun x hx => by
    have h1 := ha' x.1 (List.mem_map.mpr ⟨x, hx, rfl⟩)
    have h2 := hb' x.1 (List.mem_map.mpr ⟨x, hx, rfl⟩)
    have h3 := hc' x.2 (List.mem_map.mpr ⟨x, hx, rfl⟩)
    have h4 := hd' x.2 (List.mem_map.mpr ⟨x, hx, rfl⟩)
    exact box_mem.mpr ⟨h1, by omega, h3, by omega⟩
  have area : (((b - a + 1).toNat * (d - c + 1).toNat : Nat) : Int) = (b - a + 1) * (d - c + 1) := by
    rw [Int.natCast_mul, Int.toNat_of_nonneg (by omega), Int.toNat_of_nonneg (by omega)]
  have le1 := len_of_subset nd inb
  rw [box_len] at le1
  by_cases h : Full cs
  · rw [rectB_true h]
    have le2 : (boxOf a c (b - a + 1).toNat (d - c + 1).toNat).length ≤ cs.length := len_of_subset (nodup_of_asc (box_asc _ _ _ _)) fun x hx => by
      have := box_mem.mp hx
      obtain ⟨xa, ma, ea⟩ := List.mem_map.mp ha
      obtain ⟨xb, mb, eb⟩ := List.mem_map.mp hb
      obtain ⟨xc, mc, ec⟩ := List.mem_map.mp hc
      obtain ⟨xd, md, ed⟩ := List.mem_map.mp hd
      have := h x.1 x.2 ⟨xa, ma, by omega⟩ ⟨xb, mb, by omega⟩ ⟨xc, mc, by omega⟩ ⟨xd, md, by omega⟩
      exact this
    rw [box_len] at le2
    exact decide_eq_true (by rw [← area]; omega)
  · rw [rectB_false h]
    refine decide_eq_false fun e => h ?_
    rw [← area] at e
    have e' : cs.length = (b - a + 1).toNat * (d - c + 1).toNat := by omega
    intro r k ⟨x1, m1, q1⟩ ⟨x2, m2, q2⟩ ⟨x3, m3, q3⟩ ⟨x4, m4, q4⟩
    have h1 := ha' x1.1 (List.mem_map.mpr ⟨x1, m1, rfl⟩)
    have h2 := hb' x2.1 (List.mem_map.mpr ⟨x2, m2, rfl⟩)
    have h3 := hc' x3.2 (List.mem_map.mpr ⟨x3, m3, rfl⟩)
    have h4 := hd' x4.2 (List.mem_map.mpr ⟨x4, m4, rfl⟩)
    have hin : ((r, k) : Cell) ∈ boxOf a c (b - a + 1).toNat (d - c + 1).toNat := box_mem.mpr ⟨by show a ≤ r; omega, by show r < _; omega, by show c ≤ k; omega, by show k < _; omega⟩
    by_cases hm : ((r, k) : Cell) ∈ cs
    · exact hm
    · have le3 := len_of_subset (l := (r, k) :: cs) (List.nodup_cons.mpr ⟨hm, nd⟩) fun x hx => by
        rcases List.mem_cons.mp hx with z | z
        · subst z
          exact hin
        · exact inb x z
      rw [box_len, List.length_cons] at le3
      omega
end KS
namespace KS
open PySem PySem.Spec PyProof.Rows L2
def Small4 (l : List Int) : Prop := ∀ x ∈ l, 0 ≤ x ∧ x < 10000
theorem Vals9.small {n : Nat} {vs : List Int} (h : Vals9 n vs) : Small4 vs := fun x hx => by
  have := h.bd x hx
  omega
theorem getI_small {vs : List Int} (h : Small4 vs) (k : Int) : 0 ≤ getI vs k ∧ getI vs k < 10000 := by
  unfold getI
  rw [List.getD_eq_getElem?_getD]
  cases e : vs[k.toNat]? with
  | none => exact ⟨by decide, by decide⟩
  | some v => exact h v (List.mem_of_getElem? e)
theorem putZ_small : ∀ {zs : List (Int × Int)} {acc : List Int}, Small4 acc → (∀ z ∈ zs, 0 ≤ z.2 ∧ z.2 < 10000) → Small4 (putZ acc zs)
  | [], _, h, _ => h
  | z :: zs, acc, h, hz => by
    refine putZ_small (zs := zs) (acc := acc.set z.1.toNat z.2) (fun x hx => ?_) (fun y hy => hz y (List.mem_cons_of_mem _ hy))
    rcases List.mem_or_eq_of_mem_set hx with m | rfl
    · exact h x m
    · exact hz z List.mem_cons_self
theorem srtL_small {vs acc l : List Int} (h : Small4 vs) (ha : Small4 acc) : Small4 (srtL vs acc l) := by
  refine putZ_small ha fun z hz => ?_
  have m := (List.of_mem_zip (show (z.1, z.2) ∈ _ from hz)).2
  have m2 := (sortI_perm _).mem_iff.mp m
  obtain ⟨k, _, e⟩ := List.mem_map.mp m2
  rw [← e]
  exact getI_small h k
theorem foldl_small {vs : List Int} (h : Small4 vs) : ∀ (ls : List (List Int)) {acc : List Int}, Small4 acc → Small4 (ls.foldl (srtL vs) acc)
  | [], _, ha => ha
  | l :: ls, _, ha => foldl_small h ls (srtL_small h ha)
theorem srt_small {b : Bool} {cs : List Cell} {vs : List Int} (h : Small4 vs) : Small4 (srt b cs vs) := foldl_small h _ h
theorem line_small {l : List Int} (h : Small4 l) (hl : l.length ≤ 64) : Shows (lineD l) 960 ∧ (lineD l).depth ≤ 64 := ⟨shows_line h hl, by rw [depth_line]; decide⟩
/-- a plan and its values, as data -/
def tabD (cs : List Cell) (vs : List Int) : PyData := .tuple [planD cs, lineD vs]
theorem tab_small {cs : List Cell} {vs : List Int} (g : ∀ c ∈ cs, InGrid c) (hl : cs.length ≤ 64) (h : Small4 vs) (hv : vs.length ≤ 64) : Shows (tabD cs vs) 8000 ∧ (tabD cs vs).depth ≤ 64 := by
  have hp := shows_plan g hl
  have hn := line_small h hv
  refine ⟨shows_tuple (n := 1984) (showsAll_of fun d hd => ?_) (by show (1984 + 1) * 2 ≤ 8000; decide), ?_⟩
  · rcases List.mem_cons.mp hd with z | z
    · subst z
      exact hp.1
    · rcases List.mem_cons.mp z with z | z
      · subst z
        exact ⟨hn.1.short, hn.1.show_, hn.1.nod, Nat.le_trans hn.1.wt (by decide)⟩
      · cases z
  · have a := (cells_lay cs).2
    have b := (ints_lay vs).2
    show (PyData.tuple [.tuple (cs.map cellD), .tuple (vs.map PyData.int)]).depth ≤ 64
    simp only [PyData.depth, PyData.depthAll]
    omega
def rev3 {α : Type} : List α → List α
  | [a, b, c] => [c, b, a]
  | _ => []
theorem rev3_rel {zs : List V} {ws : List Value} (r : Vals zs ws) : Vals (rev3 zs) (rev3 ws) := by
  cases r with
  | nil => exact .nil
  | cons r1 r =>
    cases r with
    | nil => exact .nil
    | cons r2 r =>
      cases r with
      | nil => exact .nil
      | cons r3 r =>
        cases r with
        | nil => exact .cons r3 (.cons r2 (.cons r1 .nil))
        | cons r4 r => exact .nil
/-- the program's sort -/
def spSortL (K : PySem.W.Frag) : Sp := fun xs H Q _ => ∃ (a t : Addr) (b : Bool) (cs : List Cell) (vs : List Int), xs = [.ref a, .ref t, .str (if b = true then "C" else "R")] ∧ PlanAt K H a cs ∧ Good cs ∧ cs.length ≤ 24 ∧
  SqT K H t (vs.map V.int) ∧ Vals9 cs.length vs ∧ ∀ H' u, Same H H' → SqT K H' u ((srt b cs vs).map V.int) → Q (.ref u) H'
end KS
namespace KS
open PySem PySem.Spec PyProof.Rows L2
/-! ### a sort only moves the values -/
def one (x y : Int) : Nat := if x = y then 1 else 0
theorem count_one (x a : Int) (l : List Int) : (a :: l).count x = l.count x + one a x := by
  rw [List.count_cons]
  unfold one
  by_cases e : a = x
  · rw [if_pos e, if_pos (by simpa using e)]
  · rw [if_neg e, if_neg (by simpa using e)]
theorem count_set (x y : Int) : ∀ {l : List Int} {k : Nat} {v : Int}, l[k]? = some v → (l.set k y).count x + one v x = l.count x + one y x
  | [], k, v, h => by simp at h
  | a :: l, 0, v, h => by
    simp at h
    subst h
    show (y :: l).count x + one a x = (a :: l).count x + one y x
    rw [count_one, count_one]
    omega
  | a :: l, k + 1, v, h => by
    have h' : l[k]? = some v := by simpa using h
    have ih := count_set x y h'
    show (a :: l.set k y).count x + one v x = (a :: l).count x + one y x
    rw [count_one, count_one]
    omega
theorem getN_set {acc : List Int} {k : Nat} {y : Int} {ks : List Nat} (h : k ∉ ks) : getN (acc.set k y) ks = getN acc ks := by
  unfold getN
  refine List.map_congr_left fun j hj => ?_
  have : k ≠ j := fun e => h (e ▸ hj)
  rw [List.getD_eq_getElem?_getD, List.getD_eq_getElem?_getD, List.getElem?_set_ne this]
theorem put_count (x : Int) : ∀ {ks : List Nat} {ys acc : List Int}, ks.Nodup → ks.length = ys.length → (∀ k ∈ ks, k < acc.length) → (putN acc ks ys).count x + (getN acc ks).count x = acc.count x + ys.count x
  | [], [], acc, _, _, _ => by
    rw [putN_nil]
    rfl
  | [], _ :: _, acc, _, h, _ => by simp at h
  | _ :: _, [], acc, _, h, _ => by simp at h
  | k :: ks, y :: ys, acc, nd, hl, hb => by
    rw [List.nodup_cons] at nd
    have hk := hb k List.mem_cons_self
    obtain ⟨v, hv⟩ : ∃ v, acc[k]? = some v := ⟨acc[k], List.getElem?_eq_getElem hk⟩
    have ih := put_count x (ks := ks) (ys := ys) (acc := acc.set k y) nd.2 (by simpa using hl) (fun j hj => by
      rw [List.length_set]
      exact hb j (List.mem_cons_of_mem _ hj))
    rw [getN_set nd.1] at ih
    have cs := count_set x y hv
    rw [putN_cons]
    have eg : getN acc (k :: ks) = v :: getN acc ks := by
      unfold getN
      rw [List.map_cons, getD_of hv]
    rw [eg, count_one, count_one]
    omega
theorem put_perm {ks : List Nat} {ys acc : List Int} (nd : ks.Nodup) (hb : ∀ k ∈ ks, k < acc.length) (p : ys.Perm (getN acc ks)) : (putN acc ks ys).Perm acc := by
  rw [List.perm_iff_count]
  intro x
  have hl : ks.length = ys.length := by
    rw [p.length_eq]
    unfold getN
    rw [List.length_map]
  have := put_count x (ys := ys) nd hl hb
  rw [p.count_eq] at this
  omega
theorem asc_nodup {ks : List Nat} (h : ks.Pairwise (· < ·)) : ks.Nodup := h.imp fun q e => by omega
theorem fold_perm {vs : List Int} : ∀ {ls : List (List Nat)} {acc : List Int}, Parts acc.length ls → (∀ ks ∈ ls, ∀ k ∈ ks, acc[k]? = vs[k]?) → (ls.foldl (srtN vs) acc).Perm acc
  | [], acc, _, _ => List.Perm.refl _
  | ks :: ls, acc, P, h => by
    have pc := List.pairwise_cons.mp P.apart
    have e : getN vs ks = getN acc ks := getN_congr fun k hk => (h ks List.mem_cons_self k hk).symm
    have d : (srtN vs acc ks).Perm acc := by
      unfold srtN
      rw [e]
      exact put_perm (asc_nodup (P.asc ks List.mem_cons_self)) (P.bd ks List.mem_cons_self) (sortI_perm _)
    refine List.Perm.trans (fold_perm (ls := ls) (acc := srtN vs acc ks) ⟨fun ms hm => P.asc ms (List.mem_cons_of_mem _ hm), fun ms hm k hk => ?_, pc.2⟩ fun ms hm k hk => ?_) d
    · rw [srtN_len]
      exact P.bd ms (List.mem_cons_of_mem _ hm) k hk
    · have nk : k ∉ ks := fun m => pc.1 ms hm k m hk
      rw [show (srtN vs acc ks)[k]? = acc[k]? from putN_off nk]
      exact h ms (List.mem_cons_of_mem _ hm) k hk
theorem srt_perm {b : Bool} {cs : List Cell} {vs : List Int} (h : vs.length = cs.length) : (srt b cs vs).Perm vs := by
  rw [srt_up]
  exact fold_perm (by rw [h]; exact lns_parts b cs) fun _ _ _ _ => rfl
theorem srt9 {b : Bool} {cs : List Cell} {vs : List Int} (h : Vals9 cs.length vs) : Vals9 cs.length (srt b cs vs) := h.perm (srt_perm h.len).symm
theorem aft9 {cs : List Cell} : ∀ (w : List Bool) {vs : List Int}, Vals9 cs.length vs → Vals9 cs.length (aft cs w vs)
  | [], _, h => h
  | b :: w, _, h => aft9 w (srt9 (b := b) h)
theorem aft_perm {cs : List Cell} : ∀ (w : List Bool) {vs : List Int}, vs.length = cs.length → (aft cs w vs).Perm vs
  | [], _, _ => List.Perm.refl _
  | b :: w, vs, h => (aft_perm w (by rw [srt_len]; exact h)).trans (srt_perm (b := b) h)
theorem fix_rises {b : Bool} {cs : List Cell} {vs : List Int} (h : vs.length = cs.length) : decide (srt b cs vs = vs) = rises b cs vs := by
  cases r : rises b cs vs with
  | true => exact decide_eq_true (rises_fix h r)
  | false =>
    refine decide_eq_false fun e => ?_
    have := srt_rises (b := b) h
    rw [e, r] at this
    cases this
def spIsSorted (K : PySem.W.Frag) : Sp := fun xs H Q _ => ∃ (a t : Addr) (b : Bool) (cs : List Cell) (vs : List Int), xs = [.ref a, .ref t, .str (if b = true then "C" else "R")] ∧ PlanAt K H a cs ∧ Good cs ∧ cs.length ≤ 24 ∧
  SqT K H t (vs.map V.int) ∧ Vals9 cs.length vs ∧ ∀ H', Same H H' → Q (.bl (rises b cs vs)) H'
def spSettled (K : PySem.W.Frag) : Sp := fun xs H Q _ => ∃ (a t : Addr) (cs : List Cell) (vs : List Int), xs = [.ref a, .ref t] ∧ PlanAt K H a cs ∧ Good cs ∧ cs.length ≤ 24 ∧
  SqT K H t (vs.map V.int) ∧ Vals9 cs.length vs ∧ ∀ H', Same H H' → Q (.bl (settled cs vs)) H'
def spOther : Sp := fun xs H Q _ => ∃ b : Bool, xs = [.str (if b = true then "C" else "R")] ∧ Q (.str (if (!b) = true then "C" else "R")) H
def spRestP (K : PySem.W.Frag) : Sp := fun xs H Q _ => ∃ (a t : Addr) (b : Bool) (cs : List Cell) (vs : List Int), xs = [.ref a, .ref t, .str (if b = true then "C" else "R")] ∧ PlanAt K H a cs ∧ Good cs ∧ cs.length ≤ 24 ∧
  SqT K H t (vs.map V.int) ∧ Vals9 cs.length vs ∧ ∀ H' r u n, Same H H' → SqT K H' r [.int (n : Nat), .ref u] → SqT K H' u ((stat cs b vs n).map V.int) → RestIs cs b vs n → Q (.ref r) H'
end KS
namespace KS
open PySem PySem.Spec PyProof.Rows L2
open PySem.W (AlikeAll dataLt minD min_list_default readsAll_atA reads_keeps alike_unique)
/-! ### x not in t -/
def rNotInT (K : PySem.W.Frag) : V → V → Hp → VK → Prop := fun x y H Q => ∃ d ds, Dp K H x d ∧ Dp K H y (.tuple ds) ∧ SeqAt.shaped d = true ∧ SeqAt.shaped (.tuple ds) = true ∧ Q (.bl (!ds.any fun z => PyData.eqv z d)) H
theorem op_notInT {X : Cx} (hu : X.A.units + 65 < cLine) : OpR X (compareOp .NotIn) (rNotInT X.K) := by
  intro pins s σ H x y v u Q I rx ry h
  obtain ⟨d, ds, hd, he, sd, se, q⟩ := h
  obtain ⟨as, r1⟩ := Dp.reads I d x v hd rx
  obtain ⟨bs, r2⟩ := Dp.reads I (.tuple ds) y u he ry
  refine SeqAt.notIn_tuple_reads r2 r1 (SeqAt.canLay_of_shaped se) (SeqAt.canLay_of_shaped sd) ?_ ⟨.bl _, H, I, rfl, q⟩
  have := SeqAt.depth_of_shaped sd
  have h2 : min (PyData.depthAll ds) d.depth ≤ d.depth := Nat.min_le_right _ _
  omega
/-! ### repr(x), x None or plain data -/
def rReprN (K : PySem.W.Frag) : List V → Hp → VK → Prop := fun xs H Q => (xs = [.non] ∧ Q (.str "None") H) ∨ ∃ (a : Addr) (d : PyData), xs = [.ref a] ∧ Dp K H (.ref a) d ∧ d.showable = true ∧ d.hasDict = false ∧ d.shown.length ≤ sizeLine ∧ d.depth ≤ 64 ∧ Q (.str d.shown) H
theorem call_reprN {X : Cx} (hgd : X.A.guards = some []) (hu : X.A.units + 100 < cLine) : CallR X (.builtin "repr") (rReprN X.K) := by
  intro pins s σ H xs us Q I r h
  rcases h with ⟨rfl, q⟩ | h
  · cases r with
    | cons r rr =>
      cases rr
      cases r
      exact P.repr_of_none ⟨.str "None", H, I.tok _, ⟨_, rfl⟩, q⟩
  · exact call_reprD hgd hu pins s σ H xs us Q I r h
/-! ### min(l, default=None), l a list of plain data, whose first is least -/
def rMinF (K : PySem.W.Frag) : List V → List V → Hp → VK → Prop := fun xs zs H Q => ∃ (l : Addr) (ys : List V) (ds : List PyData), xs = [.ref l] ∧ zs = [.non] ∧ SqL K H l ys ∧ DpAll K H ys ds ∧ AlikeAll ds ∧ PyData.depthAll ds ≤ 64 ∧
  ds.Pairwise (fun a b => dataLt b a = false) ∧ ds.Nodup ∧ (ds = [] → Q .non H) ∧ (∀ y d, ys.head? = some y → ds.head? = some d → Q y H)
theorem minD_first {x : PyData} : ∀ {xs : List PyData}, (∀ y ∈ xs, dataLt y x = false) → minD x xs = x
  | [], _ => rfl
  | y :: ys, h => by
    show ys.foldl _ (if dataLt y x then y else x) = x
    rw [h y List.mem_cons_self]
    exact minD_first fun z hz => h z (List.mem_cons_of_mem _ hz)
theorem cr_minF {X : Cx} (hc : X.calm = true) (hu : X.A.units + 100 < cLine) : CallRK X (.builtin "min") [Str.ofString "default"] (rMinF X.K) := by
  intro pins s σ H xs zs us ws Q I rx rz h
  obtain ⟨l, ys, ds, rfl, rfl, hl, hd, al, dp, pw, nd, q0, q1⟩ := h
  rw [Vals.ref1 rx]
  cases rz with
  | cons r rr =>
    cases rr
    cases r
    obtain ⟨its, rv, p, _⟩ := I.list hl
    obtain ⟨as, hr⟩ := Dp.readsAll I ds ys its hd rv
    refine min_list_default (I.ok.hd hc) p.isList (by simpa using hr) al (by omega) (fun e h' tk hk => ⟨.non, H, I.kept hk, rfl, q0 e⟩) fun y zs i v h' tk bs e hv rd hk => ?_
    subst e
    have hv' : its[i]? = some v := by simpa using hv
    have hm : minD y zs = y := minD_first fun z hz => (List.pairwise_cons.mp pw).1 z hz
    rw [hm] at rd
    -- the item is the first one
    obtain ⟨bs2, r2, hlt, hmem, _⟩ := readsAll_atA (vs := its.toArray) (xs := y :: zs) (by simpa using hr) i v (by simpa using hv)
    have r2' := reads_keeps hk r2
    have eq : (y :: zs).getD i .none = y := alike_unique _ _ v _ _ (al.1 _ hmem _ List.mem_cons_self) r2' rd
    have i0 : i = 0 := by
      cases i with
      | zero => rfl
      | succ j =>
        have hj : (y :: zs).getD (j + 1) .none = zs.getD j .none := rfl
        rw [hj] at eq
        have hjl : j < zs.length := by simpa using hlt
        have em : zs.getD j .none ∈ zs := by
          rw [List.getD_eq_getElem?_getD, List.getElem?_eq_getElem hjl]
          exact List.getElem_mem hjl
        rw [eq] at em
        exact absurd em (List.nodup_cons.mp nd).1
    subst i0
    cases rv with
    | nil => cases hv'
    | cons ra rb =>
      have ev := Option.some.inj hv'
      subst ev
      exact ⟨_, H, I.kept hk, ra, q1 _ y rfl rfl⟩
end KS
namespace KS
open PySem PySem.Spec PyProof.Rows L2
/-! ### obstacles, as mathematics -/
abbrev Quad := Nat × Nat × Nat × Nat
def inC (cs : List Cell) (r c : Nat) : Bool := decide (((r : Int), (c : Int)) ∈ cs)
def obs (cs : List Cell) (u l a b : Nat) : Bool := inC cs u a && inC cs l b && (inC cs u b != inC cs l a)
def obsQ (cs : List Cell) (q : Quad) : Bool := obs cs q.1 q.2.1 q.2.2.1 q.2.2.2
def qlt (p q : Quad) : Prop := p.1 < q.1 ∨ (p.1 = q.1 ∧ (p.2.1 < q.2.1 ∨ (p.2.1 = q.2.1 ∧ (p.2.2.1 < q.2.2.1 ∨ (p.2.2.1 = q.2.2.1 ∧ p.2.2.2 < q.2.2.2)))))
def okQ (q : Quad) : Prop := q.1 < q.2.1 ∧ q.2.1 ≤ 7 ∧ q.2.2.1 < q.2.2.2 ∧ q.2.2.2 ≤ 7
theorem qlt_tri (p q : Quad) : qlt p q ∨ p = q ∨ qlt q p := by
  obtain ⟨p1, p2, p3, p4⟩ := p
  obtain ⟨q1, q2, q3, q4⟩ := q
  unfold qlt
  simp only [Prod.mk.injEq]
  omega
def NoObs (cs : List Cell) : Prop := ∀ q, okQ q → obsQ cs q = false
structure First (cs : List Cell) (q : Quad) : Prop where
  ok : okQ q
  hit : obsQ cs q = true
  none : ∀ p, okQ p → qlt p q → obsQ cs p = false
/-- what obstacle is to tell -/
def Ans (cs : List Cell) : Option Quad → Prop
  | none => NoObs cs
  | some q => First cs q
theorem Ans.uniq {cs : List Cell} : ∀ {o o' : Option Quad}, Ans cs o → Ans cs o' → o = o'
  | none, none, _, _ => rfl
  | none, some q, h, k => by
    have h1 := h q k.ok
    rw [k.hit] at h1
    cases h1
  | some q, none, h, k => by
    have h1 := k q h.ok
    rw [h.hit] at h1
    cases h1
  | some q, some q', h, k => by
    rcases qlt_tri q q' with e | e | e
    · have h1 := k.none q h.ok e
      rw [h.hit] at h1
      cases h1
    · rw [e]
    · have h1 := h.none q' k.ok e
      rw [k.hit] at h1
      cases h1
def quadV (q : Quad) : List V := [.int (q.1 : Nat), .int (q.2.1 : Nat), .int (q.2.2.1 : Nat), .int (q.2.2.2 : Nat)]
def quadD (q : Quad) : PyData := .tuple [.int (q.1 : Nat), .int (q.2.1 : Nat), .int (q.2.2.1 : Nat), .int (q.2.2.2 : Nat)]
def QuadAt (K : PySem.W.Frag) (H : Hp) (v : V) : Option Quad → Prop
  | none => v = .non
  | some q => ∃ t, v = .ref t ∧ SqT K H t (quadV q)
theorem QuadAt.kt {K : PySem.W.Frag} {H H' : Hp} {v : V} : ∀ {o : Option Quad}, KT K H H' → QuadAt K H v o → QuadAt K H' v o
  | none, _, h => h
  | some q, k, ⟨t, e, h⟩ => ⟨t, e, k _ _ h⟩
def spIsObs (K : PySem.W.Frag) : Sp := fun xs H Q _ => ∃ (p : Addr) (cs : List Cell) (u l a b : Nat), xs = [.ref p, .int (u : Nat), .int (l : Nat), .int (a : Nat), .int (b : Nat)] ∧ PlanAt K H p cs ∧ ∀ H', Same H H' → Q (.bl (obs cs u l a b)) H'
def spObs (K : PySem.W.Frag) : Sp := fun xs H Q _ => ∃ (p : Addr) (cs : List Cell), xs = [.ref p] ∧ PlanAt K H p cs ∧ Good cs ∧ cs.length ≤ 24 ∧ ∀ H' v o, Same H H' → Ans cs o → QuadAt K H' v o → Q v H'
def spKeeps (K : PySem.W.Frag) : Sp := fun xs H Q _ => ∃ (p : Addr) (cs : List Cell), xs = [.ref p] ∧ PlanAt K H p cs ∧ Good cs ∧ cs.length ≤ 24 ∧ ∀ H' o, Same H H' → Ans cs o → Q (.bl (decide (o = none))) H'
theorem dp_quad {K : PySem.W.Frag} {H : Hp} {t : Addr} {q : Quad} (h : SqT K H t (quadV q)) : Dp K H (.ref t) (quadD q) := .tup h (.cons (.int _) (.cons (.int _) (.cons (.int _) (.cons (.int _) .nil))))
theorem quad_small {q : Quad} (h : okQ q) : Shows (quadD q) 960 ∧ (quadD q).depth ≤ 64 := by
  obtain ⟨h1, h2, h3, h4⟩ := h
  have := shows_line (l := [(q.1 : Int), (q.2.1 : Int), (q.2.2.1 : Int), (q.2.2.2 : Int)]) (by
    intro x hx
    rcases (by simpa using hx : x = (q.1 : Int) ∨ x = (q.2.1 : Int) ∨ x = (q.2.2.1 : Int) ∨ x = (q.2.2.2 : Int)) with e | e | e | e <;> subst e <;> omega) (by show 4 ≤ 64; decide)
  exact ⟨this, by show (lineD [(q.1 : Int), (q.2.1 : Int), (q.2.2.1 : Int), (q.2.2.2 : Int)]).depth ≤ 64; rw [depth_line]; decide⟩
theorem in_cell {K : PySem.W.Frag} {H : Hp} {T p : Addr} {cs : List Cell} {r c : Nat} (hT : SqT K H T [.int (r : Nat), .int (c : Nat)]) (hp : PlanAt K H p cs) {Q : VK} (k : Q (.bl (inC cs r c)) H) : rInT K (.ref T) (.ref p) H Q := by
  refine ⟨cellD ((r : Int), (c : Int)), cs.map cellD, dp_cell hT, hp.dp, cell_shaped _, plan_shaped _, ?_⟩
  rw [in_plan]
  exact k
theorem notin_cell {K : PySem.W.Frag} {H : Hp} {T p : Addr} {cs : List Cell} {r c : Nat} (hT : SqT K H T [.int (r : Nat), .int (c : Nat)]) (hp : PlanAt K H p cs) {Q : VK} (k : Q (.bl (!inC cs r c)) H) : rNotInT K (.ref T) (.ref p) H Q := by
  refine ⟨cellD ((r : Int), (c : Int)), cs.map cellD, dp_cell hT, hp.dp, cell_shaped _, plan_shaped _, ?_⟩
  rw [in_plan]
  exact k
/-! ### the quads in their order -/
def inner4 (u l a : Nat) : List Quad := (List.range (7 - a)).map fun k => (u, l, a, a + 1 + k)
def mid4 (u l : Nat) : List Quad := (List.range 7).flatMap fun a => inner4 u l a
def two4 (u : Nat) : List Quad := (List.range (7 - u)).flatMap fun k => mid4 u (u + 1 + k)
def all4 : List Quad := (List.range 7).flatMap two4
theorem mem_inner4 {u l a : Nat} {q : Quad} : q ∈ inner4 u l a ↔ q.1 = u ∧ q.2.1 = l ∧ q.2.2.1 = a ∧ a < q.2.2.2 ∧ q.2.2.2 ≤ 7 := by
  unfold inner4
  rw [List.mem_map]
  constructor
  · rintro ⟨k, hk, rfl⟩
    have := List.mem_range.mp hk
    exact ⟨rfl, rfl, rfl, by show a < a + 1 + k; omega, by show a + 1 + k ≤ 7; omega⟩
  · rintro ⟨h1, h2, h3, h4, h5⟩
    obtain ⟨q1, q2, q3, q4⟩ := q
    dsimp only at h1 h2 h3 h4 h5
    refine ⟨q4 - (a + 1), List.mem_range.mpr (by omega), ?_⟩
    simp only [Prod.mk.injEq]
    omega
theorem mem_mid4 {u l : Nat} {q : Quad} : q ∈ mid4 u l ↔ q.1 = u ∧ q.2.1 = l ∧ q.2.2.1 < q.2.2.2 ∧ q.2.2.2 ≤ 7 := by
  unfold mid4
  rw [List.mem_flatMap]
  constructor
  · rintro ⟨a, ha, h⟩
    obtain ⟨h1, h2, h3, h4, h5⟩ := mem_inner4.mp h
    exact ⟨h1, h2, by omega, h5⟩
  · rintro ⟨h1, h2, h3, h4⟩
    exact ⟨q.2.2.1, List.mem_range.mpr (by omega), mem_inner4.mpr ⟨h1, h2, rfl, h3, h4⟩⟩
theorem mem_two4 {u : Nat} {q : Quad} : q ∈ two4 u ↔ q.1 = u ∧ u < q.2.1 ∧ q.2.1 ≤ 7 ∧ q.2.2.1 < q.2.2.2 ∧ q.2.2.2 ≤ 7 := by
  unfold two4
  rw [List.mem_flatMap]
  constructor
  · rintro ⟨k, hk, h⟩
    have := List.mem_range.mp hk
    obtain ⟨h1, h2, h3, h4⟩ := mem_mid4.mp h
    exact ⟨h1, by omega, by omega, h3, h4⟩
  · rintro ⟨h1, h2, h3, h4, h5⟩
    exact ⟨q.2.1 - (u + 1), List.mem_range.mpr (by omega), mem_mid4.mpr ⟨h1, by omega, h4, h5⟩⟩
theorem mem_all4 {q : Quad} : q ∈ all4 ↔ okQ q := by
  unfold all4 okQ
  rw [List.mem_flatMap]
  constructor
  · rintro ⟨u, hu, h⟩
    obtain ⟨h1, h2, h3, h4, h5⟩ := mem_two4.mp h
    exact ⟨by omega, h3, h4, h5⟩
  · rintro ⟨h1, h2, h3, h4⟩
    exact ⟨q.1, List.mem_range.mpr (by omega), mem_two4.mpr ⟨rfl, h1, h2, h3, h4⟩⟩
theorem asc_all4 : all4.Pairwise qlt := by
  have i4 : ∀ u l a, (inner4 u l a).Pairwise qlt := fun u l a => by
    unfold inner4
    rw [List.pairwise_map]
    refine List.pairwise_lt_range.imp fun {x y} h => ?_
    exact .inr ⟨rfl, .inr ⟨rfl, .inr ⟨rfl, by show a + 1 + x < a + 1 + y; omega⟩⟩⟩
  have m4 : ∀ u l, (mid4 u l).Pairwise qlt := fun u l => by
    unfold mid4
    rw [List.pairwise_flatMap]
    refine ⟨fun a _ => i4 u l a, List.pairwise_lt_range.imp fun {x y} h p hp q hq => ?_⟩
    obtain ⟨a1, a2, a3, _⟩ := mem_inner4.mp hp
    obtain ⟨b1, b2, b3, _⟩ := mem_inner4.mp hq
    exact .inr ⟨by omega, .inr ⟨by omega, .inl (by omega)⟩⟩
  have t4 : ∀ u, (two4 u).Pairwise qlt := fun u => by
    unfold two4
    rw [List.pairwise_flatMap]
    refine ⟨fun k _ => m4 _ _, List.pairwise_lt_range.imp fun {x y} h p hp q hq => ?_⟩
    obtain ⟨a1, a2, _⟩ := mem_mid4.mp hp
    obtain ⟨b1, b2, _⟩ := mem_mid4.mp hq
    exact .inr ⟨by omega, .inl (by omega)⟩
  unfold all4
  rw [List.pairwise_flatMap]
  refine ⟨fun u _ => t4 u, List.pairwise_lt_range.imp fun {x y} h p hp q hq => ?_⟩
  obtain ⟨a1, _⟩ := mem_two4.mp hp
  obtain ⟨b1, _⟩ := mem_two4.mp hq
  exact .inl (by omega)
theorem len_all4 : all4.length = 784 := by decide +kernel
theorem qlt_irr (p : Quad) : ¬ qlt p p := by
  unfold qlt
  omega
theorem qlt_asym {p q : Quad} (h : qlt p q) : ¬ qlt q p := by
  unfold qlt at *
  omega
/-- the first of those that are left -/
theorem ans_of_filter (cs : List Cell) : Ans cs (all4.filter (obsQ cs)).head? := by
  have pw : (all4.filter (obsQ cs)).Pairwise qlt := asc_all4.sublist List.filter_sublist
  have mm : ∀ q, q ∈ all4.filter (obsQ cs) ↔ okQ q ∧ obsQ cs q = true := fun q => by rw [List.mem_filter, mem_all4]
  generalize all4.filter (obsQ cs) = L at pw mm
  cases L with
  | nil =>
    intro q hq
    cases e : obsQ cs q with
    | false => rfl
    | true => exact absurd ((mm q).mpr ⟨hq, e⟩) (by simp)
  | cons q L =>
    obtain ⟨h1, h2⟩ := (mm q).mp List.mem_cons_self
    refine ⟨h1, h2, fun p hp hlt => ?_⟩
    cases e : obsQ cs p with
    | false => rfl
    | true =>
      rcases List.mem_cons.mp ((mm p).mpr ⟨hp, e⟩) with z | z
      · rw [z] at hlt
        exact absurd hlt (qlt_irr q)
      · exact absurd hlt (qlt_asym ((List.pairwise_cons.mp pw).1 p z))
open PySem.W (AlikeAll dataLt dataLt_tuple dataLt_cons dataLt_int alike)
theorem lt_quad {p q : Quad} (h : qlt p q) : dataLt (quadD q) (quadD p) = false := by
  unfold quadD
  rw [dataLt_tuple, dataLt_cons (by simp [alike]), dataLt_cons (by simp [alike]), dataLt_cons (by simp [alike]), dataLt_cons (by simp [alike])]
  rw [dataLt_int, dataLt_int, dataLt_int, dataLt_int]
  simp only [PyData.eqv, beq_iff_eq]
  unfold qlt at h
  by_cases e1 : (q.1 : Int) = (p.1 : Int)
  · rw [if_pos e1]
    by_cases e2 : (q.2.1 : Int) = (p.2.1 : Int)
    · rw [if_pos e2]
      by_cases e3 : (q.2.2.1 : Int) = (p.2.2.1 : Int)
      · rw [if_pos e3, if_neg (by omega)]
        exact decide_eq_false (by omega)
      · rw [if_neg e3]
        exact decide_eq_false (by omega)
    · rw [if_neg e2]
      exact decide_eq_false (by omega)
  · rw [if_neg e1]
    exact decide_eq_false (by omega)
theorem quads_alike (L : List Quad) : AlikeAll (L.map quadD) := by
  refine ⟨fun x hx y hy => ?_, fun x hx => ?_⟩
  · obtain ⟨p, _, rfl⟩ := List.mem_map.mp hx
    obtain ⟨q, _, rfl⟩ := List.mem_map.mp hy
    simp [quadD, alike, PySem.W.alikeAll]
  · obtain ⟨p, _, rfl⟩ := List.mem_map.mp hx
    unfold quadD
    intro e
    cases e
theorem quads_depth : ∀ L : List Quad, PyData.depthAll (L.map quadD) ≤ 1
  | [] => by simp [PyData.depthAll]
  | q :: L => by
    have a := quads_depth L
    have b : (quadD q).depth = 1 := depth_line [(q.1 : Int), (q.2.1 : Int), (q.2.2.1 : Int), (q.2.2.2 : Int)]
    simp only [List.map_cons, PyData.depthAll]
    omega
theorem quad_inj {p q : Quad} (h : quadD p = quadD q) : p = q := by
  unfold quadD at h
  obtain ⟨p1, p2, p3, p4⟩ := p
  obtain ⟨q1, q2, q3, q4⟩ := q
  injection h with h
  simp only [List.cons.injEq, PyData.int.injEq, and_true] at h
  simp only [Prod.mk.injEq]
  omega
def shownO : Option Quad → Str
  | none => "None"
  | some q => (quadD q).shown
theorem if_reprN {K : PySem.W.Frag} {t : TS} {D : Ends} {σ : L2.St} {H : Hp} {i j : Nat} {x y : V} {o : Option Quad} {cs : List Cell} (h1 : σ[i]? = some (some x)) (h2 : σ[j]? = some (some y)) (an : Ans cs o) (hx : QuadAt K H x o) (hy : QuadAt K H y o) (k : D.nx σ H) :
    tIfS (tTest (tOp rNe (tCB (rReprN K) (tCons (tVar i) tNil)) (tCB (rReprN K) (tCons (tVar j) tNil)))) t tNext D σ H := by
  cases o with
  | none =>
    have hx : x = .non := hx
    have hy : y = .non := hy
    subst hx hy
    refine ⟨_, h1, .inl ⟨rfl, _, h2, .inl ⟨rfl, ?_⟩⟩⟩
    generalize Str.ofString "None" = z
    exact ⟨rfl, _, rfl, iteNS rfl k⟩
  | some q =>
    obtain ⟨u, rfl, hu⟩ := hx
    obtain ⟨v, rfl, hv⟩ := hy
    obtain ⟨sh, dp⟩ := quad_small an.ok
    have hd := dp_quad hu
    have he := dp_quad hv
    have hl : (quadD q).shown.length ≤ sizeLine := sh.len (by decide)
    have h3 := sh.show_
    have h4 := sh.nod
    clear sh
    generalize quadD q = d at hd he hl h3 h4 dp
    refine ⟨_, h1, .inr ⟨u, d, rfl, hd, h3, h4, hl, dp, ?_⟩⟩
    refine ⟨_, h2, .inr ⟨v, d, rfl, he, h3, h4, hl, dp, ?_⟩⟩
    generalize d.shown = z
    exact ⟨rfl, _, rfl, iteNS rfl k⟩
end KS
namespace KS
open PySem PySem.Spec PyProof.Rows L2
/-! ### counts -/
theorem countP_four {α : Type} {p q s t : α → Bool} : ∀ {l : List α}, (∀ x ∈ l, (p x).toNat + (q x).toNat ≤ (s x).toNat + (t x).toNat) → l.countP p + l.countP q ≤ l.countP s + l.countP t
  | [], _ => by simp
  | x :: l, h => by
    have ih := countP_four (l := l) fun y hy => h y (List.mem_cons_of_mem _ hy)
    have hx := h x List.mem_cons_self
    have c : ∀ f : α → Bool, (x :: l).countP f = l.countP f + (f x).toNat := fun f => by
      rw [List.countP_cons]
      cases f x <;> rfl
    rw [c, c, c, c]
    omega
theorem nodup_len_le : ∀ {l m : List Nat}, l.Nodup → (∀ x ∈ l, x ∈ m) → l.length ≤ m.length
  | [], _, _, _ => Nat.zero_le _
  | x :: l, m, nd, h => by
    rw [List.nodup_cons] at nd
    have hx := h x List.mem_cons_self
    have ih := nodup_len_le (l := l) (m := m.erase x) nd.2 fun y hy => by
      have : y ≠ x := fun e => nd.1 (e ▸ hy)
      exact (List.mem_erase_of_ne this).mpr (h y (List.mem_cons_of_mem _ hy))
    rw [List.length_erase_of_mem hx] at ih
    have : 0 < m.length := List.length_pos_of_mem hx
    rw [List.length_cons]
    omega
theorem count_by {g : Nat → Nat} {ks : List Nat} (nd : ks.Pairwise fun i j => g i ≠ g j) (lt : ∀ k ∈ ks, g k < 8) (p : Nat → Bool) : ks.countP p = (List.range 8).countP fun r => ks.any fun k => decide (g k = r) && p k := by
  rw [List.countP_eq_length_filter, List.countP_eq_length_filter]
  have e : (ks.filter p).length = ((ks.filter p).map g).length := by rw [List.length_map]
  rw [e]
  have n1 : ((ks.filter p).map g).Nodup := by
    rw [List.nodup_iff_pairwise_ne, List.pairwise_map]
    exact nd.sublist List.filter_sublist
  have n2 : ((List.range 8).filter fun r => ks.any fun k => decide (g k = r) && p k).Nodup := List.nodup_range.sublist List.filter_sublist
  have mm : ∀ r, r ∈ (ks.filter p).map g ↔ r ∈ (List.range 8).filter fun r => ks.any fun k => decide (g k = r) && p k := fun r => by
    rw [List.mem_map, List.mem_filter, List.mem_range]
    constructor
    · rintro ⟨k, hk, rfl⟩
      obtain ⟨h1, h2⟩ := List.mem_filter.mp hk
      refine ⟨lt k h1, List.any_eq_true.mpr ⟨k, h1, by rw [decide_eq_true rfl, h2]; rfl⟩⟩
    · rintro ⟨_, h⟩
      obtain ⟨k, h1, h2⟩ := List.any_eq_true.mp h
      rw [Bool.and_eq_true] at h2
      exact ⟨k, List.mem_filter.mpr ⟨h1, h2.2⟩, of_decide_eq_true h2.1⟩
  exact Nat.le_antisymm (nodup_len_le n1 fun x hx => (mm x).mp hx) (nodup_len_le n2 fun x hx => (mm x).mpr hx)
theorem sorted_ge {L : List Int} (h : L.Pairwise (· ≤ ·)) {p : Nat} {x : Int} (hp : L[p]? = some x) : L.length ≤ L.countP (fun v => decide (x ≤ v)) + p := by
  induction L generalizing p with
  | nil => simp at hp
  | cons a L ih =>
    rw [List.pairwise_cons] at h
    cases p with
    | zero =>
      simp at hp
      subst hp
      have : (a :: L).countP (fun v => decide (a ≤ v)) = (a :: L).length := List.countP_eq_length.mpr fun v hv => by
        rcases List.mem_cons.mp hv with e | e
        · exact decide_eq_true (by omega)
        · exact decide_eq_true (h.1 v e)
      omega
    | succ p =>
      have hp' : L[p]? = some x := by simpa using hp
      have := ih h.2 hp'
      rw [List.countP_cons, List.length_cons]
      omega
theorem sorted_lt {L : List Int} (h : L.Pairwise (· ≤ ·)) {p : Nat} {x y : Int} (hp : L[p]? = some y) (hy : y < x) : L.countP (fun v => decide (x ≤ v)) + (p + 1) ≤ L.length := by
  induction L generalizing p with
  | nil => simp at hp
  | cons a L ih =>
    rw [List.pairwise_cons] at h
    cases p with
    | zero =>
      simp at hp
      subst hp
      rw [List.countP_cons, if_neg (by simp; omega), List.length_cons]
      have := List.countP_le_length (p := fun v => decide (x ≤ v)) (l := L)
      omega
    | succ p =>
      have hp' : L[p]? = some y := by simpa using hp
      have i := ih h.2 hp'
      have ha := h.1 y (List.mem_of_getElem? hp')
      rw [List.countP_cons, if_neg (by simp; omega), List.length_cons]
      omega
/-- an ascending list: the place of an item counts those before -/
theorem asc_place : ∀ {ks : List Nat} {p i : Nat}, ks.Pairwise (· < ·) → ks[p]? = some i → ks.countP (fun m => decide (i ≤ m)) + p = ks.length
  | [], _, _, _, h => by simp at h
  | a :: ks, 0, i, pw, h => by
    simp at h
    subst h
    rw [List.pairwise_cons] at pw
    have : (a :: ks).countP (fun m => decide (a ≤ m)) = (a :: ks).length := List.countP_eq_length.mpr fun v hv => by
      rcases List.mem_cons.mp hv with e | e
      · exact decide_eq_true (by omega)
      · exact decide_eq_true (by have := pw.1 v e; omega)
    omega
  | a :: ks, p + 1, i, pw, h => by
    rw [List.pairwise_cons] at pw
    have h' : ks[p]? = some i := by simpa using h
    have := asc_place pw.2 h'
    have := pw.1 i (List.mem_of_getElem? h')
    rw [List.countP_cons, if_neg (by simp; omega), List.length_cons]
    omega
/-! ### the cells of a plan by their lines -/
def gB (b : Bool) (cs : List Cell) (i : Nat) : Int := ((cs[i]?).map (pick b)).getD 0
theorem gB_at {b : Bool} {cs : List Cell} {i : Nat} {c : Cell} (h : cs[i]? = some c) : gB b cs i = pick b c := by
  unfold gB
  rw [h]
  rfl
theorem gB_bd {b : Bool} {cs : List Cell} (g : Good cs) {i : Nat} (h : i < cs.length) : 0 ≤ gB b cs i ∧ gB b cs i ≤ 7 := by
  have e : cs[i]? = some cs[i] := List.getElem?_eq_getElem h
  rw [gB_at e]
  have := g.grid _ (List.mem_of_getElem? e)
  unfold InGrid at this
  unfold pick
  split <;> omega
theorem gB_lt {b : Bool} {cs : List Cell} (g : Good cs) {i j : Nat} (hij : i < j) (hj : j < cs.length) (e : gB b cs i = gB b cs j) : gB (!b) cs i < gB (!b) cs j := by
  have hi : i < cs.length := by omega
  have ei : cs[i]? = some cs[i] := List.getElem?_eq_getElem hi
  have ej : cs[j]? = some cs[j] := List.getElem?_eq_getElem hj
  have lt := (List.pairwise_iff_getElem.mp g.asc) i j hi hj hij
  rw [gB_at ei, gB_at ej] at e ⊢
  unfold lt2 at lt
  cases b
  · have e' : cs[i].1 = cs[j].1 := e
    show cs[i].2 < cs[j].2
    omega
  · have e' : cs[i].2 = cs[j].2 := e
    show cs[i].1 < cs[j].1
    omega
theorem gB_le {b : Bool} {cs : List Cell} (g : Good cs) {i m : Nat} (hi : i < cs.length) (hm : m < cs.length) (e : gB b cs i = gB b cs m) : i ≤ m ↔ gB (!b) cs i ≤ gB (!b) cs m := by
  constructor
  · intro h
    rcases Nat.lt_or_ge i m with c | c
    · have := gB_lt g c hm e
      omega
    · have : i = m := by omega
      rw [this]
      omega
  · intro h
    rcases Nat.lt_or_ge m i with c | c
    · have := gB_lt g c hi e.symm
      omega
    · exact c
def lineN (b : Bool) (cs : List Cell) (r : Int) : List Nat := idxsN b cs cs.length r
theorem mem_lineN {b : Bool} {cs : List Cell} {r : Int} {i : Nat} : i ∈ lineN b cs r ↔ i < cs.length ∧ gB b cs i = r := by
  unfold lineN idxsN
  rw [List.mem_filter, List.mem_range]
  constructor
  · rintro ⟨h1, h2⟩
    have e : cs[i]? = some cs[i] := List.getElem?_eq_getElem h1
    have h2 := of_decide_eq_true h2
    rw [e] at h2
    exact ⟨h1, by rw [gB_at e]; exact Option.some.inj h2⟩
  · rintro ⟨h1, h2⟩
    have e : cs[i]? = some cs[i] := List.getElem?_eq_getElem h1
    refine ⟨h1, decide_eq_true ?_⟩
    rw [e]
    rw [gB_at e] at h2
    exact congrArg some h2
theorem lineN_asc (b : Bool) (cs : List Cell) (r : Int) : (lineN b cs r).Pairwise (· < ·) := List.pairwise_lt_range.sublist List.filter_sublist
theorem lineN_mem {b : Bool} {cs : List Cell} (g : Good cs) {i : Nat} (hi : i < cs.length) : lineN b cs (gB b cs i) ∈ lnsN b cs := by
  have bd := gB_bd (b := b) g hi
  unfold lnsN
  rw [List.mem_filter, List.mem_map]
  refine ⟨⟨(gB b cs i).toNat, List.mem_range.mpr (by omega), ?_⟩, decide_eq_true fun e => ?_⟩
  · rw [Int.toNat_of_nonneg bd.1]
    rfl
  · have : i ∈ lineN b cs (gB b cs i) := mem_lineN.mpr ⟨hi, rfl⟩
    rw [e] at this
    cases this
def vI (vs : List Int) (i : Nat) : Int := vs.getD i 0
theorem getN_vI (vs : List Int) (ks : List Nat) : getN vs ks = ks.map (vI vs) := rfl
theorem asc_mem {ks : List Nat} {R : Nat → Nat → Prop} (h : ks.Pairwise R) (a : ks.Pairwise (· < ·)) {i j : Nat} (hi : i ∈ ks) (hj : j ∈ ks) (hij : i < j) : R i j := by
  obtain ⟨p, hp⟩ := List.mem_iff_getElem?.mp hi
  obtain ⟨q, hq⟩ := List.mem_iff_getElem?.mp hj
  obtain ⟨l1, e1⟩ := List.getElem?_eq_some_iff.mp hp
  obtain ⟨l2, e2⟩ := List.getElem?_eq_some_iff.mp hq
  rcases Nat.lt_trichotomy p q with c | c | c
  · have := (List.pairwise_iff_getElem.mp h) p q l1 l2 c
    rw [e1, e2] at this
    exact this
  · subst c
    omega
  · have := (List.pairwise_iff_getElem.mp a) q p l2 l1 c
    rw [e1, e2] at this
    omega
/-- rising lines, pair by pair -/
theorem rises_pairs {b : Bool} {cs : List Cell} {vs : List Int} (g : Good cs) : rises b cs vs = true ↔ ∀ i j, i < j → j < cs.length → gB b cs i = gB b cs j → vI vs i ≤ vI vs j := by
  rw [rises_iff]
  constructor
  · intro h i j hij hj e
    have hi : i < cs.length := by omega
    have hk := h _ (lineN_mem (b := b) g hi)
    have pw : (getN vs (lineN b cs (gB b cs i))).Pairwise (· ≤ ·) := by
      rw [hk]
      exact sortI_asc _
    rw [getN_vI, List.pairwise_map] at pw
    exact asc_mem pw (lineN_asc _ _ _) (mem_lineN.mpr ⟨hi, rfl⟩) (mem_lineN.mpr ⟨hj, e.symm⟩) hij
  · intro h ks hks
    unfold lnsN at hks
    obtain ⟨r, _, rfl⟩ := List.mem_map.mp (List.mem_filter.mp hks).1
    refine sortI_eq (List.Perm.refl _) ?_
    rw [getN_vI, List.pairwise_map]
    refine (lineN_asc b cs (r : Int)).imp_of_mem fun {i j} hi hj hij => ?_
    obtain ⟨i1, i2⟩ := mem_lineN.mp hi
    obtain ⟨j1, j2⟩ := mem_lineN.mp hj
    exact h i j hij j1 (by omega)
/-- what stands in a cell after a sort -/
theorem srt_at {b : Bool} {cs : List Cell} {vs : List Int} (g : Good cs) (hv : vs.length = cs.length) {i : Nat} (hi : i < cs.length) : ∃ p : Nat, (lineN b cs (gB b cs i))[p]? = some i ∧ (sortI ((lineN b cs (gB b cs i)).map (vI vs)))[p]? = some (vI (srt b cs vs) i) := by
  obtain ⟨p, hp⟩ := List.mem_iff_getElem?.mp (show i ∈ lineN b cs (gB b cs i) from mem_lineN.mpr ⟨hi, rfl⟩)
  refine ⟨p, hp, ?_⟩
  have e := fold_get (vs := vs) (acc := vs) (ls := lnsN b cs) (by rw [hv]; exact lns_parts b cs) _ (lineN_mem (b := b) g hi)
  rw [← srt_up, getN_vI, getN_vI] at e
  rw [← e, List.getElem?_map, hp]
  rfl
/-- those of a line that are as great as what stands in a cell after the sort are as many as the cells from it on, at least -/
theorem many_ge {b : Bool} {cs : List Cell} {vs : List Int} (g : Good cs) (hv : vs.length = cs.length) {i : Nat} (hi : i < cs.length) {x : Int} (hx : x ≤ vI (srt b cs vs) i) :
    (lineN b cs (gB b cs i)).countP (fun m => decide (i ≤ m)) ≤ (lineN b cs (gB b cs i)).countP (fun m => decide (x ≤ vI vs m)) := by
  obtain ⟨p, h1, h2⟩ := srt_at (b := b) g hv hi
  have a := sorted_ge (sortI_asc _) h2
  have c := asc_place (lineN_asc _ _ _) h1
  rw [sortI_len, List.length_map, (sortI_perm _).countP_eq, List.countP_map] at a
  have m : (lineN b cs (gB b cs i)).countP ((fun v => decide (vI (srt b cs vs) i ≤ v)) ∘ vI vs) ≤ (lineN b cs (gB b cs i)).countP (fun m => decide (x ≤ vI vs m)) :=
    List.countP_mono_left fun k _ hk => decide_eq_true (by
      have : vI (srt b cs vs) i ≤ vI vs k := of_decide_eq_true hk
      omega)
  omega
theorem many_lt {b : Bool} {cs : List Cell} {vs : List Int} (g : Good cs) (hv : vs.length = cs.length) {i : Nat} (hi : i < cs.length) {x : Int} (hx : vI (srt b cs vs) i < x) :
    (lineN b cs (gB b cs i)).countP (fun m => decide (x ≤ vI vs m)) + 1 ≤ (lineN b cs (gB b cs i)).countP (fun m => decide (i ≤ m)) := by
  obtain ⟨p, h1, h2⟩ := srt_at (b := b) g hv hi
  have a := sorted_lt (sortI_asc _) h2 hx
  have c := asc_place (lineN_asc _ _ _) h1
  rw [sortI_len, List.length_map, (sortI_perm _).countP_eq, List.countP_map] at a
  have m : (lineN b cs (gB b cs i)).countP ((fun v => decide (x ≤ v)) ∘ vI vs) = (lineN b cs (gB b cs i)).countP (fun m => decide (x ≤ vI vs m)) := rfl
  omega
/-- whether some cell of line k (of the other kind) in line r satisfies p -/
def hit (b : Bool) (cs : List Cell) (k : Int) (p : Nat → Bool) (r : Nat) : Bool := (lineN (!b) cs k).any fun m => decide ((gB b cs m).toNat = r) && p m
theorem count_hit {b : Bool} {cs : List Cell} (g : Good cs) (k : Int) (p : Nat → Bool) : (lineN (!b) cs k).countP p = (List.range 8).countP (hit b cs k p) := by
  refine count_by (g := fun m => (gB b cs m).toNat) ?_ (fun m hm => ?_) p
  · refine (lineN_asc (!b) cs k).imp_of_mem fun {i j} hi hj hij => ?_
    obtain ⟨i1, i2⟩ := mem_lineN.mp hi
    obtain ⟨j1, j2⟩ := mem_lineN.mp hj
    have lt := gB_lt (b := !b) g hij j1 (by omega)
    rw [Bool.not_not] at lt
    have b1 := gB_bd (b := b) g i1
    have b2 := gB_bd (b := b) g j1
    omega
  · have := gB_bd (b := b) g (mem_lineN.mp hm).1
    omega
theorem hit_true {b : Bool} {cs : List Cell} (g : Good cs) {k : Int} {p : Nat → Bool} {r : Nat} : hit b cs k p r = true ↔ ∃ m, m < cs.length ∧ gB (!b) cs m = k ∧ gB b cs m = (r : Int) ∧ p m = true := by
  unfold hit
  rw [List.any_eq_true]
  constructor
  · rintro ⟨m, hm, h⟩
    rw [Bool.and_eq_true] at h
    obtain ⟨m1, m2⟩ := mem_lineN.mp hm
    have bd := gB_bd (b := b) g m1
    have := of_decide_eq_true h.1
    exact ⟨m, m1, m2, by omega, h.2⟩
  · rintro ⟨m, m1, m2, m3, h⟩
    refine ⟨m, mem_lineN.mpr ⟨m1, m2⟩, ?_⟩
    rw [h, Bool.and_true]
    exact decide_eq_true (by omega)
/-- the plan has a cell in line r of this kind and line k of the other one -/
def cellB (b : Bool) (cs : List Cell) (r k : Int) : Prop := ∃ m, m < cs.length ∧ gB b cs m = r ∧ gB (!b) cs m = k
theorem cell_uniq {b : Bool} {cs : List Cell} (g : Good cs) {m m' : Nat} (h : m < cs.length) (h' : m' < cs.length) (e1 : gB b cs m = gB b cs m') (e2 : gB (!b) cs m = gB (!b) cs m') : m = m' := by
  rcases Nat.lt_trichotomy m m' with c | c | c
  · have := gB_lt (b := b) g c h' e1
    omega
  · exact c
  · have := gB_lt (b := b) g c h e1.symm
    omega
/-- no four of which just one of the two is missing -/
def NoX (b : Bool) (cs : List Cell) : Prop := ∀ r1 r2 k1 k2 : Int, r1 < r2 → k1 < k2 → cellB b cs r1 k1 → cellB b cs r2 k2 → (cellB b cs r1 k2 ↔ cellB b cs r2 k1)
theorem toNat_le {p q s t : Bool} (h1 : p = true → s = true ∨ t = true) (h2 : q = true → s = true ∨ t = true) (h3 : p = true → q = true → s = true ∧ t = true) : p.toNat + q.toNat ≤ s.toNat + t.toNat := by
  cases p <;> cases q <;> cases s <;> cases t <;> simp at *
/-- MAIN: on a plan without such four, a sort of the other kind leaves rising lines rising -/
theorem kept {b : Bool} {cs : List Cell} {vs : List Int} (g : Good cs) (hv : vs.length = cs.length) (nx : NoX b cs) (h : rises b cs vs = true) : rises b cs (srt (!b) cs vs) = true := by
  rw [rises_pairs g] at h ⊢
  intro i j hij hj e
  have hi : i < cs.length := by omega
  rcases Int.lt_or_le (vI (srt (!b) cs vs) j) (vI (srt (!b) cs vs) i) with c | c
  · exfalso
    have kk := gB_lt (b := b) g hij hj e
    have a1 := many_ge (b := !b) g hv hi (Int.le_refl _)
    have a2 := many_lt (b := !b) g hv hj c
    rw [count_hit g, count_hit g] at a1 a2
    have key := countP_four (l := List.range 8) (p := hit b cs (gB (!b) cs i) fun m => decide (vI (srt (!b) cs vs) i ≤ vI vs m)) (q := hit b cs (gB (!b) cs j) fun m => decide (j ≤ m))
      (s := hit b cs (gB (!b) cs j) fun m => decide (vI (srt (!b) cs vs) i ≤ vI vs m)) (t := hit b cs (gB (!b) cs i) fun m => decide (i ≤ m)) (fun r _ => by
        -- a cell of the line of j from j on has a neighbour in the line of i
        have below : ∀ m, m < cs.length → gB (!b) cs m = gB (!b) cs j → j ≤ m → ∃ m', m' < cs.length ∧ gB (!b) cs m' = gB (!b) cs i ∧ gB b cs m' = gB b cs m ∧ i ≤ m' := fun m h1 h2 h3 => by
          have le := (gB_le (b := !b) g hj h1 h2.symm).mp h3
          rw [Bool.not_not] at le
          rcases Int.lt_or_eq_of_le le with c1 | c1
          · have := (nx (gB b cs i) (gB b cs m) (gB (!b) cs i) (gB (!b) cs j) (by omega) kk ⟨i, hi, rfl, rfl⟩ ⟨m, h1, rfl, h2⟩).mp ⟨j, hj, e.symm, rfl⟩
            obtain ⟨m', q1, q2, q3⟩ := this
            refine ⟨m', q1, q3, q2, (gB_le (b := !b) g hi q1 q3.symm).mpr ?_⟩
            rw [Bool.not_not]
            omega
          · exact ⟨i, hi, rfl, by omega, Nat.le_refl _⟩
        refine toNat_le (fun hp => ?_) (fun hq => ?_) (fun hp hq => ?_)
        · obtain ⟨m, m1, m2, m3, m4⟩ := (hit_true g).mp hp
          have m4 := of_decide_eq_true m4
          by_cases c1 : i ≤ m
          · exact .inr ((hit_true g).mpr ⟨m, m1, m2, m3, decide_eq_true c1⟩)
          · left
            have le := (gB_le (b := !b) g m1 hi m2).mp (by omega)
            rw [Bool.not_not] at le
            have ne : gB b cs m ≠ gB b cs i := fun z => by
              have := cell_uniq (b := b) g m1 hi z m2
              omega
            obtain ⟨m', q1, q2, q3⟩ := (nx (gB b cs m) (gB b cs i) (gB (!b) cs i) (gB (!b) cs j) (by omega) kk ⟨m, m1, rfl, m2⟩ ⟨j, hj, e.symm, rfl⟩).mpr ⟨i, hi, rfl, rfl⟩
            have lt : m < m' := by
              rcases Nat.lt_trichotomy m m' with z | z | z
              · exact z
              · rw [z] at m2
                omega
              · have := gB_lt (b := b) g z m1 q2
                omega
            have := h m m' lt q1 q2.symm
            exact (hit_true g).mpr ⟨m', q1, q3, by omega, decide_eq_true (by omega)⟩
        · obtain ⟨m, m1, m2, m3, m4⟩ := (hit_true g).mp hq
          obtain ⟨m', q1, q2, q3, q4⟩ := below m m1 m2 (of_decide_eq_true m4)
          exact .inr ((hit_true g).mpr ⟨m', q1, q2, by omega, decide_eq_true q4⟩)
        · obtain ⟨m, m1, m2, m3, m4⟩ := (hit_true g).mp hp
          have m4 := of_decide_eq_true m4
          obtain ⟨n, n1, n2, n3, n4⟩ := (hit_true g).mp hq
          obtain ⟨m', q1, q2, q3, q4⟩ := below n n1 n2 (of_decide_eq_true n4)
          refine ⟨(hit_true g).mpr ⟨n, n1, n2, n3, decide_eq_true ?_⟩, (hit_true g).mpr ⟨m', q1, q2, by omega, decide_eq_true q4⟩⟩
          have lt : m < n := by
            rcases Nat.lt_trichotomy m n with z | z | z
            · exact z
            · rw [z] at m2
              omega
            · have := gB_lt (b := b) g z m1 (by omega)
              omega
          have := h m n lt n1 (by omega)
          omega)
    omega
  · exact c
end KS
namespace KS
open PySem PySem.Spec PyProof.Rows L2
theorem count_eq_one : ∀ n, n < 8 → (List.range 8).countP (fun r => decide (r = n)) = 1 := by decide
theorem count_false (l : List Nat) : l.countP (fun _ => false) = 0 := by
  rw [List.countP_eq_zero]
  intro a _ h
  cases h
theorem cellB_bd {b : Bool} {cs : List Cell} (g : Good cs) {r k : Int} (h : cellB b cs r k) : (0 ≤ r ∧ r ≤ 7) ∧ 0 ≤ k ∧ k ≤ 7 := by
  obtain ⟨m, h1, rfl, rfl⟩ := h
  exact ⟨gB_bd g h1, gB_bd g h1⟩
/-- values that are great in the marked lines alone no longer rise behind a sort of the other kind -/
theorem breaks {b : Bool} {cs : List Cell} {vs : List Int} {x : Int} (g : Good cs) (hv : vs.length = cs.length) {r1 r2 k1 k2 br : Int} (hr : r1 < r2) (hk : k1 < k2) (c1 : cellB b cs r1 k1) (c2 : cellB b cs r2 k2)
    (hb : (cellB b cs r2 k1 ∧ ¬ cellB b cs r1 k2 ∧ br = r2) ∨ (¬ cellB b cs r2 k1 ∧ cellB b cs r1 k2 ∧ br = r1))
    (hM : ∀ m, m < cs.length → (x ≤ vI vs m ↔ (cellB b cs (gB b cs m) k1 ∧ (br < gB b cs m ∨ gB b cs m = r1)))) : rises b cs (srt (!b) cs vs) = false := by
  cases e : rises b cs (srt (!b) cs vs) with
  | false => rfl
  | true =>
    exfalso
    rw [rises_pairs g] at e
    have cA : cellB b cs br k1 := by
      rcases hb with ⟨h1, _, h3⟩ | ⟨_, _, h3⟩
      · rw [h3]
        exact h1
      · rw [h3]
        exact c1
    have cB : cellB b cs br k2 := by
      rcases hb with ⟨_, _, h3⟩ | ⟨_, h2, h3⟩
      · rw [h3]
        exact c2
      · rw [h3]
        exact h2
    obtain ⟨i, i1, i2, i3⟩ := cA
    obtain ⟨j, j1, j2, j3⟩ := cB
    have hij : i < j := by
      rcases Nat.lt_trichotomy i j with z | z | z
      · exact z
      · rw [z] at i3
        omega
      · have := gB_lt (b := b) g z i1 (by omega)
        omega
    have le := e i j hij j1 (by omega)
    have bd1 := cellB_bd g c1
    have bd2 := cellB_bd g c2
    have q1 := count_eq_one r1.toNat (by omega)
    have q2 := count_eq_one r2.toNat (by omega)
    have hx : x ≤ vI (srt (!b) cs vs) i := by
      rcases Int.lt_or_le (vI (srt (!b) cs vs) i) x with z | z
      · exfalso
        have a := many_lt (b := !b) g hv i1 z
        rw [count_hit g, count_hit g, i3] at a
        rcases hb with ⟨h1, h2, h3⟩ | ⟨h1, h2, h3⟩
        · have key := countP_four (l := List.range 8) (p := hit b cs k1 fun m => decide (i ≤ m)) (q := fun r => decide (r = r1.toNat)) (s := hit b cs k1 fun m => decide (x ≤ vI vs m)) (t := fun r => decide (r = r2.toNat)) (fun r _ => by
            refine toNat_le (fun hp => ?_) (fun hq => ?_) (fun hp hq => ?_)
            · obtain ⟨m, m1, m2, m3, m4⟩ := (hit_true g).mp hp
              have lm := (gB_le (b := !b) g i1 m1 (by omega)).mp (of_decide_eq_true m4)
              rw [Bool.not_not] at lm
              by_cases c : gB b cs m = r2
              · exact .inr (decide_eq_true (by omega))
              · exact .inl ((hit_true g).mpr ⟨m, m1, m2, m3, decide_eq_true ((hM m m1).mpr ⟨⟨m, m1, rfl, m2⟩, .inl (by omega)⟩)⟩)
            · have hq := of_decide_eq_true hq
              obtain ⟨m, m1, m2, m3⟩ := c1
              exact .inl ((hit_true g).mpr ⟨m, m1, m3, by omega, decide_eq_true ((hM m m1).mpr ⟨⟨m, m1, rfl, m3⟩, .inr m2⟩)⟩)
            · obtain ⟨m, m1, m2, m3, m4⟩ := (hit_true g).mp hp
              have hq := of_decide_eq_true hq
              have lm := (gB_le (b := !b) g i1 m1 (by omega)).mp (of_decide_eq_true m4)
              rw [Bool.not_not] at lm
              omega)
          omega
        · have key := countP_four (l := List.range 8) (p := hit b cs k1 fun m => decide (i ≤ m)) (q := fun _ => false) (s := hit b cs k1 fun m => decide (x ≤ vI vs m)) (t := fun _ => false) (fun r _ => by
            refine toNat_le (fun hp => ?_) (fun hq => absurd hq (by decide)) (fun hp hq => absurd hq (by decide))
            obtain ⟨m, m1, m2, m3, m4⟩ := (hit_true g).mp hp
            have lm := (gB_le (b := !b) g i1 m1 (by omega)).mp (of_decide_eq_true m4)
            rw [Bool.not_not] at lm
            exact .inl ((hit_true g).mpr ⟨m, m1, m2, m3, decide_eq_true ((hM m m1).mpr ⟨⟨m, m1, rfl, m2⟩, by omega⟩)⟩))
          rw [count_false] at key
          omega
      · exact z
    have a := many_ge (b := !b) g hv j1 (Int.le_trans hx le)
    rw [count_hit g, count_hit g, j3] at a
    have key := countP_four (l := List.range 8) (p := hit b cs k2 fun m => decide (x ≤ vI vs m)) (q := fun r => decide (r = r2.toNat)) (s := hit b cs k2 fun m => decide (j ≤ m)) (t := fun _ => false) (fun r _ => by
      have from_ : ∀ m, m < cs.length → gB (!b) cs m = k2 → br ≤ gB b cs m → j ≤ m := fun m m1 m2 h => by
        refine (gB_le (b := !b) g j1 m1 (by omega)).mpr ?_
        rw [Bool.not_not]
        omega
      refine toNat_le (fun hp => ?_) (fun hq => ?_) (fun hp hq => ?_)
      · obtain ⟨m, m1, m2, m3, m4⟩ := (hit_true g).mp hp
        obtain ⟨_, w⟩ := (hM m m1).mp (of_decide_eq_true m4)
        refine .inl ((hit_true g).mpr ⟨m, m1, m2, m3, decide_eq_true (from_ m m1 m2 ?_)⟩)
        rcases w with w | w
        · omega
        · rcases hb with ⟨_, h2, _⟩ | ⟨_, _, h3⟩
          · exact absurd ⟨m, m1, w, m2⟩ h2
          · omega
      · have hq := of_decide_eq_true hq
        obtain ⟨m, m1, m2, m3⟩ := c2
        refine .inl ((hit_true g).mpr ⟨m, m1, m3, by omega, decide_eq_true (from_ m m1 m3 ?_)⟩)
        rcases hb with ⟨_, _, h3⟩ | ⟨_, _, h3⟩ <;> omega
      · exfalso
        obtain ⟨m, m1, m2, m3, m4⟩ := (hit_true g).mp hp
        have hq := of_decide_eq_true hq
        obtain ⟨w1, w⟩ := (hM m m1).mp (of_decide_eq_true m4)
        have em : gB b cs m = r2 := by omega
        rcases hb with ⟨_, _, h3⟩ | ⟨h1, _, _⟩
        · omega
        · rw [em] at w1
          exact h1 w1)
    rw [count_false] at key
    omega
/-! ### obstacles and both kinds -/
theorem cellB_iff {b : Bool} {cs : List Cell} {r k : Int} : cellB b cs r k ↔ (if b = true then ((k, r) : Cell) else (r, k)) ∈ cs := by
  constructor
  · rintro ⟨m, h1, h2, h3⟩
    have e : cs[m]? = some cs[m] := List.getElem?_eq_getElem h1
    rw [gB_at e] at h2 h3
    have : (if b = true then ((k, r) : Cell) else (r, k)) = cs[m] := by
      cases b
      · exact Prod.ext h2.symm h3.symm
      · exact Prod.ext h3.symm h2.symm
    rw [this]
    exact List.getElem_mem h1
  · intro h
    obtain ⟨m, h1⟩ := List.mem_iff_getElem?.mp h
    refine ⟨m, (List.getElem?_eq_some_iff.mp h1).1, ?_, ?_⟩ <;> rw [gB_at h1] <;> cases b <;> rfl
theorem inC_iff {cs : List Cell} {r k : Nat} : inC cs r k = true ↔ ((r : Int), (k : Int)) ∈ cs := by
  unfold inC
  exact decide_eq_true_iff
theorem bool_iff {p q : Bool} : (p != q) = false ↔ (p = true ↔ q = true) := by
  cases p <;> cases q <;> decide
theorem nox_of_noobs {cs : List Cell} (g : Good cs) (h : NoObs cs) (b : Bool) : NoX b cs := by
  intro r1 r2 k1 k2 hr hk c1 c2
  have bd1 := cellB_bd g c1
  have bd2 := cellB_bd g c2
  have use : ∀ u l a c : Nat, u < l → l ≤ 7 → a < c → c ≤ 7 → ((u : Int), (a : Int)) ∈ cs → ((l : Int), (c : Int)) ∈ cs → (((u : Int), (c : Int)) ∈ cs ↔ ((l : Int), (a : Int)) ∈ cs) := fun u l a c h1 h2 h3 h4 m1 m2 => by
    have z := h (u, l, a, c) ⟨h1, h2, h3, h4⟩
    unfold obsQ obs at z
    dsimp only at z
    rw [inC_iff.mpr m1, inC_iff.mpr m2] at z
    have z' : (inC cs u c != inC cs l a) = false := z
    rw [bool_iff, inC_iff, inC_iff] at z'
    exact z'
  rw [cellB_iff] at c1 c2
  rw [cellB_iff, cellB_iff]
  have e1 : ((r1.toNat : Nat) : Int) = r1 := by omega
  have e2 : ((r2.toNat : Nat) : Int) = r2 := by omega
  have e3 : ((k1.toNat : Nat) : Int) = k1 := by omega
  have e4 : ((k2.toNat : Nat) : Int) = k2 := by omega
  cases b
  · have z := use r1.toNat r2.toNat k1.toNat k2.toNat (by omega) (by omega) (by omega) (by omega)
    rw [e1, e2, e3, e4] at z
    exact z c1 c2
  · have z := use k1.toNat k2.toNat r1.toNat r2.toNat (by omega) (by omega) (by omega) (by omega)
    rw [e1, e2, e3, e4] at z
    exact (z c1 c2).symm
/-- an obstacle, seen by this kind: two lines of it, two of the other kind -/
structure XAt (b : Bool) (cs : List Cell) (r1 r2 k1 k2 : Int) : Prop where
  hr : r1 < r2
  hk : k1 < k2
  c1 : cellB b cs r1 k1
  c2 : cellB b cs r2 k2
  x : (cellB b cs r2 k1 ∧ ¬ cellB b cs r1 k2) ∨ (¬ cellB b cs r2 k1 ∧ cellB b cs r1 k2)
theorem xat_of_obs {cs : List Cell} {q : Quad} (hq : okQ q) (h : obsQ cs q = true) : XAt false cs q.1 q.2.1 q.2.2.1 q.2.2.2 ∧ XAt true cs q.2.2.1 q.2.2.2 q.1 q.2.1 := by
  unfold obsQ obs at h
  rw [Bool.and_eq_true, Bool.and_eq_true, inC_iff, inC_iff] at h
  obtain ⟨⟨h1, h2⟩, h3⟩ := h
  have h4 : (((q.2.1 : Int), (q.2.2.1 : Int)) ∈ cs ∧ ¬ ((q.1 : Int), (q.2.2.2 : Int)) ∈ cs) ∨ (¬ ((q.2.1 : Int), (q.2.2.1 : Int)) ∈ cs ∧ ((q.1 : Int), (q.2.2.2 : Int)) ∈ cs) := by
    rw [← inC_iff, ← inC_iff]
    cases e1 : inC cs q.1 q.2.2.2 <;> cases e2 : inC cs q.2.1 q.2.2.1 <;> rw [e1, e2] at h3
    · exact absurd h3 (by decide)
    · exact .inl ⟨rfl, by decide⟩
    · exact .inr ⟨by decide, rfl⟩
    · exact absurd h3 (by decide)
  obtain ⟨o1, o2, o3, o4⟩ := hq
  refine ⟨⟨by omega, by omega, cellB_iff.mpr h1, cellB_iff.mpr h2, ?_⟩, ⟨by omega, by omega, cellB_iff.mpr h1, cellB_iff.mpr h2, ?_⟩⟩
  · rw [cellB_iff, cellB_iff]
    exact h4
  · rw [cellB_iff, cellB_iff]
    rcases h4 with ⟨a, c⟩ | ⟨a, c⟩
    · exact .inr ⟨c, a⟩
    · exact .inl ⟨c, a⟩
theorem noobs_of_nox {cs : List Cell} {b : Bool} (h : NoX b cs) : NoObs cs := by
  intro q hq
  cases e : obsQ cs q with
  | false => rfl
  | true =>
    exfalso
    obtain ⟨x1, x2⟩ := xat_of_obs hq e
    cases b
    · have := h _ _ _ _ x1.hr x1.hk x1.c1 x1.c2
      rcases x1.x with ⟨a, c⟩ | ⟨a, c⟩
      · exact c (this.mpr a)
      · exact a (this.mp c)
    · have := h _ _ _ _ x2.hr x2.hk x2.c1 x2.c2
      rcases x2.x with ⟨a, c⟩ | ⟨a, c⟩
      · exact c (this.mpr a)
      · exact a (this.mp c)
theorem nox_iff {cs : List Cell} (g : Good cs) (b : Bool) : NoX b cs ↔ NoObs cs := ⟨noobs_of_nox, fun h => nox_of_noobs g h b⟩
theorem ans_none {cs : List Cell} {o : Option Quad} (h : Ans cs o) : o = none ↔ NoObs cs := by
  constructor
  · rintro rfl
    exact h
  · intro n
    exact Ans.uniq h (show Ans cs none from n)
/-! ### all tables of 0 and 1 -/
def all01 : Nat → List (List Int)
  | 0 => [[]]
  | n + 1 => (all01 n).map (· ++ [0]) ++ (all01 n).map (· ++ [1])
theorem mem_all01 : ∀ {n : Nat} {l : List Int}, l ∈ all01 n ↔ l.length = n ∧ ∀ v ∈ l, v = 0 ∨ v = 1
  | 0, l => by
    show l ∈ [[]] ↔ _
    rw [List.mem_singleton]
    constructor
    · rintro rfl
      exact ⟨rfl, by simp⟩
    · rintro ⟨h, _⟩
      exact List.eq_nil_of_length_eq_zero h
  | n + 1, l => by
    show l ∈ (all01 n).map (· ++ [0]) ++ (all01 n).map (· ++ [1]) ↔ _
    rw [List.mem_append, List.mem_map, List.mem_map]
    constructor
    · rintro (⟨m, hm, rfl⟩ | ⟨m, hm, rfl⟩)
      · obtain ⟨h1, h2⟩ := mem_all01.mp hm
        refine ⟨by simp [h1], fun v hv => ?_⟩
        rcases List.mem_append.mp hv with z | z
        · exact h2 v z
        · exact .inl (by simpa using z)
      · obtain ⟨h1, h2⟩ := mem_all01.mp hm
        refine ⟨by simp [h1], fun v hv => ?_⟩
        rcases List.mem_append.mp hv with z | z
        · exact h2 v z
        · exact .inr (by simpa using z)
    · rintro ⟨h1, h2⟩
      have ne : l ≠ [] := fun e => by
        rw [e] at h1
        cases h1
      have el := List.dropLast_concat_getLast ne
      have hd : l.dropLast ∈ all01 n := mem_all01.mpr ⟨by simp [h1], fun v hv => h2 v ((List.dropLast_sublist l).subset hv)⟩
      rcases h2 _ (List.getLast_mem ne) with z | z
      · exact .inl ⟨l.dropLast, hd, by rw [z] at el; exact el⟩
      · exact .inr ⟨l.dropLast, hd, by rw [z] at el; exact el⟩
theorem len_all01 : ∀ n : Nat, (all01 n).length = 2 ^ n
  | 0 => rfl
  | n + 1 => by
    show ((all01 n).map (· ++ [0]) ++ (all01 n).map (· ++ [1])).length = _
    rw [List.length_append, List.length_map, List.length_map, len_all01 n, Nat.pow_succ]
    omega
/-- whether rising lines of the kind stay so behind a sort of the other one, in each table of 0 and 1 -/
def kept01 (b : Bool) (cs : List Cell) : Bool := (all01 cs.length).all fun vs => !(rises b cs vs && !rises b cs (srt (!b) cs vs))
theorem kept01_iff {b : Bool} {cs : List Cell} (g : Good cs) : kept01 b cs = true ↔ NoX b cs := by
  unfold kept01
  rw [List.all_eq_true]
  constructor
  · intro h
    rw [nox_iff g]
    intro q hq
    cases e : obsQ cs q with
    | false => rfl
    | true =>
      exfalso
      have xx : ∃ r1 r2 k1 k2 : Int, XAt b cs r1 r2 k1 k2 := by
        obtain ⟨x1, x2⟩ := xat_of_obs hq e
        cases b
        · exact ⟨_, _, _, _, x1⟩
        · exact ⟨_, _, _, _, x2⟩
      obtain ⟨r1, r2, k1, k2, X⟩ := xx
      obtain ⟨br, hbr⟩ : ∃ br : Int, (cellB b cs r2 k1 ∧ ¬ cellB b cs r1 k2 ∧ br = r2) ∨ (¬ cellB b cs r2 k1 ∧ cellB b cs r1 k2 ∧ br = r1) := by
        rcases X.x with ⟨a, c⟩ | ⟨a, c⟩
        · exact ⟨r2, .inl ⟨a, c, rfl⟩⟩
        · exact ⟨r1, .inr ⟨a, c, rfl⟩⟩
      classical
      let mk : Nat → Int := fun m => if cellB b cs (gB b cs m) k1 ∧ (br < gB b cs m ∨ gB b cs m = r1) then 1 else 0
      have hlen : ((List.range cs.length).map mk).length = cs.length := by rw [List.length_map, List.length_range]
      have hat : ∀ m, m < cs.length → vI ((List.range cs.length).map mk) m = mk m := fun m hm => by
        unfold vI
        rw [List.getD_eq_getElem?_getD, List.getElem?_map, List.getElem?_range hm]
        rfl
      have hmem : (List.range cs.length).map mk ∈ all01 cs.length := mem_all01.mpr ⟨hlen, fun v hv => by
        obtain ⟨m, _, rfl⟩ := List.mem_map.mp hv
        show mk m = 0 ∨ mk m = 1
        by_cases c : cellB b cs (gB b cs m) k1 ∧ (br < gB b cs m ∨ gB b cs m = r1)
        · exact .inr (if_pos c)
        · exact .inl (if_neg c)⟩
      have hz := h _ hmem
      have up : rises b cs ((List.range cs.length).map mk) = true := by
        rw [rises_pairs g]
        intro i j hij hj e'
        rw [hat i (by omega), hat j hj]
        show mk i ≤ mk j
        have : mk i = mk j := by
          show (if cellB b cs (gB b cs i) k1 ∧ (br < gB b cs i ∨ gB b cs i = r1) then (1 : Int) else 0) = (if cellB b cs (gB b cs j) k1 ∧ (br < gB b cs j ∨ gB b cs j = r1) then 1 else 0)
          rw [e']
        omega
      have dn := breaks (x := 1) g hlen X.hr X.hk X.c1 X.c2 hbr (fun m hm => by
        rw [hat m hm]
        by_cases c : cellB b cs (gB b cs m) k1 ∧ (br < gB b cs m ∨ gB b cs m = r1)
        · have : mk m = 1 := if_pos c
          rw [this]
          exact ⟨fun _ => c, fun _ => Int.le_refl _⟩
        · have : mk m = 0 := if_neg c
          rw [this]
          exact ⟨fun z => absurd z (by decide), fun z => absurd z c⟩)
      rw [up, dn] at hz
      exact absurd hz (by decide)
  · intro nx vs hvs
    obtain ⟨h1, _⟩ := mem_all01.mp hvs
    cases e : rises b cs vs with
    | false => rfl
    | true =>
      rw [kept g h1 nx e]
      rfl
end KS
namespace KS
open PySem PySem.Spec PyProof.Rows L2
/-- the letter of a kind, and a word -/
def ltr (b : Bool) : Nat := if b = true then 67 else 82
def wS (w : List Bool) : Str := ⟨(w.map ltr).toArray⟩
theorem wS_len (w : List Bool) : (wS w).length = w.length := by
  show (w.map ltr).toArray.size = _
  rw [List.size_toArray, List.length_map]
theorem ltr_str (b : Bool) : V.str ⟨#[ltr b]⟩ = V.str (if b = true then "C" else "R") := by
  cases b <;> decide +kernel
theorem wS_at {w : List Bool} {i : Nat} {c : Nat} (h : (wS w).cps[i]? = some c) : ∃ b, w[i]? = some b ∧ c = ltr b := by
  have h' : (w.map ltr).toArray[i]? = some c := h
  rw [List.getElem?_toArray, List.getElem?_map] at h'
  cases e : w[i]? with
  | none =>
    rw [e] at h'
    cases h'
  | some b =>
    rw [e] at h'
    cases h'
    exact ⟨b, rfl, rfl⟩
def spLAfter (K : PySem.W.Frag) : Sp := fun xs H Q _ => ∃ (a t : Addr) (w : List Bool) (cs : List Cell) (vs : List Int), xs = [.ref a, .ref t, .str (wS w)] ∧ PlanAt K H a cs ∧ cs.length ≤ 24 ∧
  SqT K H t (vs.map V.int) ∧ vs.length = cs.length ∧ ∀ H' u, Same H H' → SqT K H' u ((aft cs w vs).map V.int) → Q (.ref u) H'
end KS
namespace KS
open PySem PySem.Spec PyProof.Rows L2
/-- one letter, so many times -/
def rRepC : R2 := fun x y H Q => ∃ (c : Nat) (n : Nat), x = .str ⟨#[c]⟩ ∧ y = .int n ∧ 1 ≤ n ∧ n ≤ 64 ∧ Q (.str ⟨(List.replicate n c).toArray⟩) H
theorem rep_fold (c : Nat) : ∀ (n : Nat) (a : Array Nat), (List.replicate n #[c]).foldl (· ++ ·) a = a ++ (List.replicate n c).toArray
  | 0, a => by simp
  | n + 1, a => by
    rw [List.replicate_succ, List.foldl_cons, rep_fold c n, List.replicate_succ]
    apply Array.ext'
    simp
theorem op_repC {X : Cx} : OpR X (binaryOp .Mult) rRepC := by
  intro pins s σ H x y v u Q I rx ry h
  obtain ⟨c, n, rfl, rfl, n0, n1, q⟩ := h
  obtain ⟨t, rfl⟩ := rx
  obtain ⟨t', rfl⟩ := ry
  have e1 : ¬ ((n : Int) < 1) := by omega
  refine P.mul_str ?_ ?_ ?_ ?_
  · have h1 : ¬ (n : Int) < -(2 ^ 63 : Int) := by omega
    have h2 : ¬ (n : Int) ≥ 2 ^ 63 := by omega
    rw [decide_eq_false h1, decide_eq_false h2]
    rfl
  · intro _ _
    show ¬ ((1 : Int) > (2 ^ 63 - 1) / (n : Int))
    have : (1 : Int) ≤ (2 ^ 63 - 1) / (n : Int) := (Int.le_ediv_iff_mul_le (by omega)).mpr (by omega)
    omega
  · intro _ _
    show decide (1 * (n : Int).toNat > sizeLine) = false
    refine decide_eq_false ?_
    rw [sizeLine_eq]
    omega
  · rw [if_neg e1]
    by_cases e : n = 1
    · subst e
      exact ⟨.str ⟨#[c]⟩, H, I, ⟨_, rfl⟩, q⟩
    · have z : (((n : Int) == 1) || ((⟨#[c]⟩ : Str).length == 0)) = false := by
        have : ((n : Int) == 1) = false := by
          rw [beq_eq_false_iff_ne]
          omega
        rw [this]
        rfl
      rw [if_neg (by rw [z]; decide)]
      have ez : (⟨(List.replicate (n : Int).toNat (⟨#[c]⟩ : Str).cps).foldl (· ++ ·) #[]⟩ : Str) = ⟨(List.replicate n c).toArray⟩ := by
        rw [Int.toNat_natCast]
        show (⟨(List.replicate n #[c]).foldl (· ++ ·) #[]⟩ : Str) = _
        rw [rep_fold]
        simp
      rw [ez]
      refine ⟨?_, .str ⟨(List.replicate n c).toArray⟩, H, I.tok _, ⟨_, rfl⟩, q⟩
      show (List.replicate n c).toArray.size ≤ sizeLine
      rw [List.size_toArray, List.length_replicate, sizeLine_eq]
      omega
theorem wS_app (a b : List Bool) : wS a ++ wS b = wS (a ++ b) := by
  show (⟨(a.map ltr).toArray ++ (b.map ltr).toArray⟩ : Str) = ⟨((a ++ b).map ltr).toArray⟩
  rw [List.map_append]
  simp
theorem wS_rep (b : Bool) (n : Nat) : (⟨(List.replicate n (ltr b)).toArray⟩ : Str) = wS (List.replicate n b) := by
  unfold wS
  rw [List.map_replicate]
theorem wS_cut (a : List Bool) (n : Nat) (h : n ≤ a.length) : cutS (wS a) none (some (n : Int)) = wS (a.take n) := by
  have hl := wS_len a
  unfold cutS
  have e0 : HT.sIx (wS a).length 0 none = 0 := rfl
  have e1 : HT.sIx (wS a).length (wS a).length (some (n : Int)) = n := by
    rw [HT.sIx_nat, hl]
    omega
  rw [e0, e1]
  show (⟨(((a.map ltr).toArray.toList.drop 0).take (n - 0)).toArray⟩ : Str) = ⟨((a.take n).map ltr).toArray⟩
  simp
/-- a word of at most so many letters -/
def spLWord (K : PySem.W.Frag) : Sp := fun xs H Q _ => ∃ (p : Addr) (m : Nat), xs = [.ref p, .int m] ∧ PoolO (H p) ∧ m ≤ 400 ∧ ∀ H' w, KeepX p H H' → PoolO (H' p) → w.length ≤ m → Q (.str (wS w)) H'
end KS
namespace KS
open PySem PySem.Spec PyProof.Rows L2
theorem aft_small {cs : List Cell} : ∀ (w : List Bool) {vs : List Int}, Small4 vs → Small4 (aft cs w vs)
  | [], _, h => h
  | b :: w, _, h => aft_small w (srt_small (b := b) (cs := cs) h)
/-- the program's word -/
def spAfterP (K : PySem.W.Frag) : Sp := fun xs H Q _ => ∃ (a t : Addr) (w : List Bool) (cs : List Cell) (vs : List Int), xs = [.ref a, .ref t, .str (wS w)] ∧ PlanAt K H a cs ∧ Good cs ∧ cs.length ≤ 24 ∧
  SqT K H t (vs.map V.int) ∧ Vals9 cs.length vs ∧ w.length ≤ 400 ∧ ∀ H' u, Same H H' → SqT K H' u ((aft cs w vs).map V.int) → Q (.ref u) H'
theorem wS_nil : V.str (wS []) = V.str "" := by decide +kernel
theorem line_shaped (l : List Int) : SeqAt.shaped (lineD l) = true := by
  obtain ⟨h1, h2⟩ := ints_lay l
  show SeqAt.shaped (.tuple (l.map PyData.int)) = true
  unfold SeqAt.shaped
  simp only [PyData.canLay0, PyData.depth, h1, h2]
  decide
end KS
namespace KS
open PySem PySem.Spec PyProof.Rows L2
def lS (b : Bool) : Str := ⟨#[ltr b]⟩
theorem lS_w (b : Bool) : lS b = wS [b] := rfl
theorem join_ws : ∀ w : List Bool, Str.join "" (w.map lS) = wS w
  | [] => by decide +kernel
  | [b] => rfl
  | b :: c :: r => by
    have h := join_ws (c :: r)
    show lS b ++ "" ++ Str.join "" ((c :: r).map lS) = _
    rw [h, show ("" : Str) = wS [] from by decide +kernel, lS_w, wS_app, wS_app]
    rfl
theorem join_letters (w : List Bool) : Txt.join "" (w.map lS) = wS w := by
  show Builtin.Str.glued "" (w.map lS) = _
  rw [StrLaws.glued_eq_join, join_ws]
theorem lS_sum : ∀ w : List Bool, ((w.map lS).map (·.length)).sum = w.length
  | [] => rfl
  | b :: w => by
    show 1 + ((w.map lS).map (·.length)).sum = _
    rw [lS_sum w, List.length_cons]
    omega
def pcell (j : Nat) : Cell := (((j : Int) / 2), ((j : Int) / 2 + (j : Int) % 2))
def pathTo (n : Nat) : List Cell := (List.range n).map pcell
theorem pathTo_succ (n : Nat) : pathTo (n + 1) = pathTo n ++ [pcell n] := by
  unfold pathTo
  rw [List.range_succ, List.map_append]
  rfl
theorem path_good : Good (pathTo 15) := by
  refine ⟨?_, ?_, by decide⟩
  · unfold pathTo
    refine List.pairwise_map.2 (List.pairwise_lt_range.imp ?_)
    intro x y h
    show ((x : Int) / 2 < (y : Int) / 2) ∨ ((x : Int) / 2 = (y : Int) / 2 ∧ (x : Int) / 2 + (x : Int) % 2 < (y : Int) / 2 + (y : Int) % 2)
    omega
  · intro c hc
    obtain ⟨j, hj, rfl⟩ := List.mem_map.mp hc
    have := List.mem_range.mp hj
    show 0 ≤ (j : Int) / 2 ∧ (j : Int) / 2 ≤ 7 ∧ 0 ≤ (j : Int) / 2 + (j : Int) % 2 ∧ (j : Int) / 2 + (j : Int) % 2 ≤ 7
    omega
def four : List Cell := [(0, 0), (0, 1), (1, 1), (2, 0)]
theorem four_good : Good four := by
  refine ⟨?_, ?_, by decide⟩
  · simp [four, lt2]
  · simp [four, InGrid]
end KS
namespace KS
open PySem PySem.Spec PyProof.Rows L2
/-! ### zip(t, l): t a tuple, l a list, of one length -/
def ItTL (K : PySem.W.Frag) (a b : Addr) : It where
  go := fun i H => ∃ (ts ls : List V) (x y : V), SqT K H a ts ∧ SqL K H b ls ∧ ts[i]? = some x ∧ ls[i]? = some y
  yld := fun i H v H' => ∃ (T : Addr) (x y : V), v = .ref T ∧ H T = none ∧ H' = upd H T (.tup [x, y]) ∧ (∀ ts, SqT K H a ts → ts[i]? = some x) ∧ (∀ ls, SqL K H b ls → ls[i]? = some y)
  stop := fun i H => ∃ ts ls : List V, SqT K H a ts ∧ SqL K H b ls ∧ ts.length = i ∧ ls.length = i
def TLs (a b z TI TO i1 i2 : Addr) (i : Nat) (h : Heap) : Prop :=
  IsZip h z TI TO .none ∧ IsTupOf2 h TI (.ref i1) (.ref i2) ∧ (∃ x y, IsTupOf2 h TO x y) ∧ h.IsTupleIter i1 a i ∧ h.IsListIter i2 b i
theorem mem5 {c z TI TO i1 i2 : Addr} (h : c ∈ [z, TI, TO, i1, i2]) : c = z ∨ c = TI ∨ c = TO ∨ c = i1 ∨ c = i2 := by simpa using h
theorem out4 {c z TI TO i1 i2 : Addr} (h : c ∉ [z, TI, TO, i1, i2]) : c ≠ z ∧ c ≠ TO ∧ c ≠ i1 ∧ c ≠ i2 := by
  simp only [List.mem_cons, not_or] at h
  exact ⟨h.1, h.2.2.1, h.2.2.2.1, h.2.2.2.2.1⟩
theorem apart_sep {z TI TO i1 i2 a b : Addr} (D : ZipApart z TI TO i1 i2 a b) : ZipSep2 z TI TO i1 i2 [i1, a] [i2, b] where
  TIz := D.TIz
  TOz := D.TOz
  TITO := D.TITO
  TIi1 := D.TIi1
  TIi2 := D.TIi2
  mem1 := List.mem_cons_self
  mem2 := List.mem_cons_self
  zf1 := by simp [D.i1z.symm, D.l1z.symm]
  zf2 := by simp [D.i2z.symm, D.l2z.symm]
  Tf1 := by simp [D.TOi1, D.l1TO.symm]
  Tf2 := by simp [D.TOi2, D.l2TO.symm]
  sep1_2 := by simp [D.i12, D.l2i1.symm]
  sep2_1 := by simp [D.i12.symm, D.l1i2.symm]
theorem tls_lt {a b z TI TO i1 i2 : Addr} {i : Nat} {h : Heap} (st : TLs a b z TI TO i1 i2 i h) {c : Addr} (hc : c ∈ [z, TI, TO, i1, i2]) : ∃ o, h.get? c = some o ∧ ∀ v, o.data ≠ .cell v := by
  obtain ⟨q0, q1, ⟨x, y, q2⟩, ⟨o3, q3, _, d3⟩, ⟨o4, q4, _, d4⟩⟩ := st
  rcases mem5 hc with e | e | e | e | e <;> subst e
  · exact ⟨_, q0, fun v z => nomatch z⟩
  · exact ⟨_, q1, fun v z => nomatch z⟩
  · exact ⟨_, q2, fun v z => nomatch z⟩
  · exact ⟨o3, q3, fun v z => by rw [d3] at z; cases z⟩
  · exact ⟨o4, q4, fun v z => by rw [d4] at z; cases z⟩
theorem turn_TL {P : Program} {w : World} {K : PySem.W.Frag} {elts : List Expr} {kk : Nat} {tpos : Pos} {a b z TI TO i1 i2 : Addr} (D : ZipApart z TI TO i1 i2 a b) :
    Turn P w K (.Tuple elts kk tpos) (ItTL K a b) [z, TI, TO, i1, i2] z (TLs a b z TI TO i1 i2) where
  mem := List.mem_cons_self
  obj := fun i h st c hc => tls_lt st hc
  keep := fun i h h' st k => by
    obtain ⟨q0, q1, ⟨x, y, q2⟩, q3, q4⟩ := st
    exact ⟨k z (by simp) _ q0, k TI (by simp) _ q1, ⟨x, y, k TO (by simp) _ q2⟩, q3.at fun o e => k i1 (by simp) o e, q4.at fun o e => k i2 (by simp) o e⟩
  self := fun A i s Q E st h => wpAny_pyIter_zip st.1 h
  item := by
    intro X hP hw hK hc i pins s σ H E I hf st hg
    subst hP hw hK
    have st0 := st
    obtain ⟨q0, q1, ⟨x0, y0, q2⟩, q3, q4⟩ := st
    obtain ⟨ts, ls, x, y, ht, hl, ex, ey⟩ := hg
    obtain ⟨its, rv, p1, _⟩ := I.tuple ht
    obtain ⟨jts, rw', p2, _⟩ := I.list hl
    obtain ⟨u, hu, ru⟩ := rv.get ex
    obtain ⟨v, hv, rv'⟩ := rw'.get ey
    have n1 : i < its.toArray.size := by
      have := (List.getElem?_eq_some_iff.mp hu).1
      simpa using this
    have n2 : i < jts.toArray.size := by
      have := (List.getElem?_eq_some_iff.mp hv).1
      simpa using this
    have hh : X.A.in1.handled = none := I.ok.hd hc
    have zlt : z < s.heap.objs.size := Heap.lt_size q0
    refine wpAny_pyNext_zipD2_item (apart_sep D) (Draws.tuple hh i1 a D.l1i1 its.toArray) (Draws.list hh i2 b D.l2i2 jts.toArray) q0 q1 q2 ⟨q3, p1⟩ ⟨q4, p2.isList⟩ n1 n2 fun u' v' h1 tk hu' hv' z1 o1 a1 b1 hT sz kp => ?_
    have eu : u' = u := by
      have z : its[i]? = some u' := by simpa using hu'
      rw [hu] at z
      exact (Option.some.inj z).symm
    have ev : v' = v := by
      have z : jts[i]? = some v' := by simpa using hv'
      rw [hv] at z
      exact (Option.some.inj z).symm
    subst eu ev
    refine ⟨_, rfl, wpAny_letOwnedTupleGo_zip (s := { s with heap := h1, toks := tk }) z1 fun h2 z2 sb => ?_⟩
    have hT2 : h2.get? s.heap.objs.size = some { cls := .type "tuple", data := .seq #[u', v'] } := (sb.2 _ (Nat.ne_of_gt zlt)).trans hT
    have nw : ObjOk X.prog X.w (upd H s.heap.objs.size (.tup [x, y])) h2 s.heap.objs.size (.tup [x, y]) := ⟨by show 2 ≤ sizeLine; decide, [u', v'], .cons ru (.cons rv' .nil), ⟨_, hT2, rfl, _, rfl⟩⟩
    have I1 : Inv X pins σ (upd H s.heap.objs.size (.tup [x, y])) { s with heap := h2, toks := tk } := by
      refine I.turnedNew (ch := [z, TI, TO, i1, i2]) (fun c o n e => ?_) hf (Nat.le_refl _) nw
      obtain ⟨n1, n2, n3, n4⟩ := out4 n
      exact (sb.2 c n1).trans (kp c o n1 n2 n3 n4 e)
    refine ⟨.ref s.heap.objs.size, _, I1, rfl, ⟨_, x, y, rfl, I.hok.fresh (Nat.le_refl _), rfl, fun m hm => by rw [I.tuple_inj hm ht]; exact ex, fun m hm => by rw [I.list_inj hm hl]; exact ey⟩, ⟨z2, ?_, ⟨u', v', ?_⟩, ?_, ?_⟩, fun c hcm => ?_⟩
    · exact (sb.2 TI D.TIz).trans (kp TI _ D.TIz D.TITO D.TIi1 D.TIi2 q1)
    · exact (sb.2 TO D.TOz).trans o1
    · exact a1.1.at fun o e => (sb.2 i1 D.i1z).trans e
    · exact b1.1.at fun o e => (sb.2 i2 D.i2z).trans e
    · obtain ⟨o, ho, _⟩ := tls_lt st0 hcm
      rw [upd_ne (Nat.ne_of_lt (Heap.lt_size ho))]
      exact (hf c hcm).1
  done := by
    intro X hP hw hK hc i pins s σ H E I hf st hg
    subst hP hw hK
    obtain ⟨q0, q1, ⟨x0, y0, q2⟩, q3, q4⟩ := st
    obtain ⟨ts, ls, ht, hl, e1, e2⟩ := hg
    obtain ⟨its, rv, p1, _⟩ := I.tuple ht
    obtain ⟨jts, rw', p2, _⟩ := I.list hl
    have m1 : its.toArray.size = i := by
      have := rv.length
      simp
      omega
    have m2 : jts.toArray.size = i := by
      have := rw'.length
      simp
      omega
    have hh : X.A.in1.handled = none := I.ok.hd hc
    refine wpAny_pyNext_zipD2_end (apart_sep D) (Draws.tuple hh i1 a D.l1i1 its.toArray) (Draws.list hh i2 b D.l2i2 jts.toArray) q0 q1 q2 ⟨q3, p1⟩ ⟨q4, p2.isList⟩ (by omega) (by omega) (.inl m1.symm) fun h1 tk kp => ⟨rfl, ?_⟩
    refine I.turnedL (ch := [z, TI, TO, i1, i2]) (fun c o n e => ?_) hf
    obtain ⟨n1, n2, n3, n4⟩ := out4 n
    exact kp c o n1 n2 n3 n4 e
def iZipTL (K : PySem.W.Frag) (ta : TA) : TI := fun σ H R => ta σ H fun vs H1 => ∃ a b ts ls, vs = [.ref a, .ref b] ∧ SqT K H1 a ts ∧ SqL K H1 b ls ∧ R (ItTL K a b) H1
theorem pi_zipTL {X : Cx} {e e2 : Expr} {ta : TA} {p pos tpos : Pos} {elts : List Expr} {kk : Nat} (hg : Gl X "zip") (hm : X.mg "zip" = none) (ha : PA X [e, e2] ta)
    (hs : starEach [e, e2] X.env = (false, eval e X.env) :: starEach [e2] X.env := by rfl) (hpl : (backTo pos (starEach [e2] X.env)).any (·.1) = false := by rfl) :
    PI X (.Tuple elts kk tpos) (.Call (.Name "zip" p) [e, e2] [] pos) (iZipTL X.K ta) := by
  refine ⟨fun pins s σ H R I h => Call_ (ld_blt I hg hm PyProof.Rows.boot_zip (PyProof.Rows.callWith_type1 (thn (ha.run pos pins s σ H _ I h) fun us s1 hh => ?_) hs hpl))⟩
  obtain ⟨vs, H1, I1, r1, a, b, ts, ls, ev, ht, hl, q⟩ := hh
  subst ev
  cases r1 with
  | cons r rr =>
    cases rr with
    | cons r' rr =>
      cases rr
      cases r
      cases r'
      obtain ⟨its, rv, p1, _⟩ := I1.tuple ht
      obtain ⟨jts, rw', p2, _⟩ := I1.list hl
      have la : a < s1.heap.objs.size := by
        obtain ⟨o, ho, _⟩ := id p1
        exact Heap.lt_size ho
      refine zip_begins2 (begins_tuple a its.toArray) (begins_list b jts.toArray) p1 p2.isList fun h1 z1 t1 o1 g1 g2 sz kp => wpAny_pyIter_zip z1 ?_
      have I2 : Inv X pins σ H1 { s1 with heap := h1 } := I1.kept (t' := s1.toks) kp
      refine ⟨_, [s1.heap.objs.size + 4, s1.heap.objs.size + 2, s1.heap.objs.size + 3, s1.heap.objs.size, s1.heap.objs.size + 1], _, _, H1, rfl, I2, turn_TL (PySem.W.ktu_apart s1.heap.objs.size a b la p2.lt), ⟨z1, t1, ⟨_, _, o1⟩, ⟨_, g1, rfl, rfl⟩, ⟨_, g2, rfl, rfl⟩⟩, fun c hc => ?_, q⟩
      have le : s1.heap.objs.size ≤ c := by
        rcases mem5 hc with e | e | e | e | e <;> rw [e] <;> first | exact Nat.le_add_right _ _ | exact Nat.le_refl _
      exact I1.fpOk le (I1.hok.fresh le)
/-- a loop over zip(t, l), of one length -/
theorem for_zipTL {K : PySem.W.Frag} {a b : Addr} {xs ys : List V} {g : TG} {tb : TS} {D : Ends} {σ : L2.St} {H : Hp} (hl : xs.length = ys.length) (Pv : Nat → L2.St → Hp → Prop) (h0 : Pv 0 σ H) (hq : ∀ i σ H, Pv i σ H → SqT K H a xs ∧ SqL K H b ys)
    (hs : ∀ (i : Nat) (x y : V) (T : Addr) (σ : L2.St) (G : Hp), xs[i]? = some x → ys[i]? = some y → Pv i σ G → G T = none → g (.ref T) σ (upd G T (.tup [x, y])) fun σ2 G2 => tb { D with nx := Pv (i + 1), ct := Pv (i + 1), bk := D.nx } σ2 G2) (hd : ∀ σ G, Pv xs.length σ G → D.nx σ G) :
    ∃ W : Nat → Nat → L2.St → Hp → Prop, (∃ m, W 0 m σ H) ∧ ∀ i m σ H, W i m σ H → ((ItTL K a b).stop i H ∧ D.nx σ H) ∨ ((ItTL K a b).go i H ∧ ∃ N : L2.St → Hp → Prop, (∀ σ' H', N σ' H' → ∃ m', m' < m ∧ W (i + 1) m' σ' H') ∧
      ∀ v H', (ItTL K a b).yld i H v H' → g v σ H' fun σ2 H2 => tb { D with nx := N, ct := N, bk := D.nx } σ2 H2) := by
  refine ⟨fun i m σ G => m + i = xs.length ∧ Pv i σ G, ⟨xs.length, rfl, h0⟩, fun i m σ G hw => ?_⟩
  obtain ⟨hm, p⟩ := hw
  obtain ⟨qx, qy⟩ := hq i σ G p
  cases m with
  | zero =>
    have e : i = xs.length := by omega
    subst e
    exact .inl ⟨⟨xs, ys, qx, qy, rfl, hl.symm⟩, hd σ G p⟩
  | succ m =>
    have l1 : i < xs.length := by omega
    have l2 : i < ys.length := by omega
    refine .inr ⟨⟨xs, ys, _, _, qx, qy, List.getElem?_eq_getElem l1, List.getElem?_eq_getElem l2⟩, Pv (i + 1), fun σ' G' p' => ⟨m, Nat.lt_succ_self _, by omega, p'⟩, fun v G' y => ?_⟩
    obtain ⟨T, x, y, rfl, nT, rfl, f1, f2⟩ := y
    exact hs i x y T σ G (f1 xs qx) (f2 ys qy) p nT
end KS
namespace KS
open PySem PySem.Spec PyProof.Rows L2
/-! ### what the program's own helpers keep, for good values -/
def spFF (K : PySem.W.Frag) : Sp := fun xs H Q _ => ∃ (t : Addr) (m : Int) (vs : List Int), xs = [.ref t, .int m] ∧ SqT K H t (vs.map V.int) ∧ vs.Nodup ∧ (∀ v ∈ vs, 1 ≤ v ∧ v ≤ m) ∧ ∀ H', Same H H' → Q .non H'
def spCheckF (K : PySem.W.Frag) : Sp := fun xs H Q _ => ∃ (n : Nat) (t : Addr) (vs : List Int), xs = [.int n, .ref t] ∧ SqT K H t (vs.map V.int) ∧ Vals9 n vs ∧ n ≤ 24 ∧ ∀ H', Same H H' → Q .non H'
def spAlong (K : PySem.W.Frag) : Sp := fun xs H Q _ => ∃ (g t : Addr) (gs : List V) (ls : List (List Int)) (vs : List Int), xs = [.ref g, .ref t] ∧ SqT K H g gs ∧ Paired (TupI K H) gs ls ∧
  (∀ l ∈ ls, (∀ k ∈ l, ∃ j : Nat, k = (j : Int) ∧ j < vs.length) ∧ l.length ≤ 24) ∧ SqT K H t (vs.map V.int) ∧ ∀ H' u, Same H H' → SqT K H' u ((srtTo vs ls).map V.int) → H u = none → Q (.ref u) H'
theorem inV_take {vs : List Int} (nd : vs.Nodup) {i : Nat} {v : Int} (h : vs[i]? = some v) : inV (.int v) ((vs.take i).map V.int) = false := by
  unfold inV
  rw [List.any_eq_false]
  intro x hx
  obtain ⟨y, hy, rfl⟩ := List.mem_map.mp hx
  obtain ⟨j, hj⟩ := List.mem_iff_getElem?.mp hy
  rw [List.getElem?_take] at hj
  split at hj
  · rename_i hlt
    show ¬ ((y == v) = true)
    intro e
    have e' : y = v := by simpa using e
    subst e'
    obtain ⟨l1, e1⟩ := List.getElem?_eq_some_iff.mp h
    obtain ⟨l2, e2⟩ := List.getElem?_eq_some_iff.mp hj
    have := (List.pairwise_iff_getElem.mp nd) j i l2 l1 hlt
    rw [e1, e2] at this
    exact this rfl
  · cases hj
theorem flat_ints (l : List Int) : (l.map V.int).all flatV = true := by
  rw [List.all_eq_true]
  intro x hx
  obtain ⟨y, _, rfl⟩ := List.mem_map.mp hx
  rfl
theorem cut_take {l : List V} {i : Nat} (h : i ≤ l.length) : cutV l none (some (i : Int)) = l.take i := by
  unfold cutV
  have e0 : HT.sIx l.length 0 none = 0 := rfl
  have e1 : HT.sIx l.length l.length (some (i : Int)) = i := by
    rw [HT.sIx_nat]
    omega
  rw [e0, e1]
  simp
theorem cut_not {l : List V} {i : Nat} (h : i < l.length) : ¬ (HT.sIx l.length 0 none = 0 ∧ HT.sIx l.length l.length (some (i : Int)) = l.length) := by
  intro z
  have e1 : HT.sIx l.length l.length (some (i : Int)) = i := by
    rw [HT.sIx_nat]
    omega
  omega
theorem lns_ok {b : Bool} {cs : List Cell} {vs : List Int} (hl : cs.length ≤ 24) (hv : vs.length = cs.length) : ∀ l ∈ lnsOf b cs, (∀ k ∈ l, ∃ j : Nat, k = (j : Int) ∧ j < vs.length) ∧ l.length ≤ 24 := fun l h => by
  have := lns_mem h
  rw [hv]
  exact ⟨this.1, by omega⟩
end KS
namespace KS
open PySem PySem.Spec PyProof.Rows L2
/-! ### a word, so many times -/
theorem rep_words (w : List Bool) : ∀ (n : Nat) (a : Array Nat), (List.replicate n (w.map ltr).toArray).foldl (· ++ ·) a = a ++ (((List.replicate n w).flatten).map ltr).toArray
  | 0, a => by simp
  | n + 1, a => by
    rw [List.replicate_succ, List.foldl_cons, rep_words w n, List.replicate_succ, List.flatten_cons, List.map_append]
    apply Array.ext'
    simp
def rRepW : R2 := fun x y H Q => ∃ (wd : List Bool) (n : Nat), x = .str (wS wd) ∧ y = .int n ∧ 2 ≤ n ∧ n ≤ 400 ∧ 1 ≤ wd.length ∧ wd.length ≤ 400 ∧ Q (.str (wS (List.replicate n wd).flatten)) H
theorem op_repW {X : Cx} : OpR X (binaryOp .Mult) rRepW := by
  intro pins s σ H x y v u Q I rx ry h
  obtain ⟨wd, n, rfl, rfl, n0, n1, w0, w1, q⟩ := h
  obtain ⟨t, rfl⟩ := rx
  obtain ⟨t', rfl⟩ := ry
  have e1 : ¬ ((n : Int) < 1) := by omega
  have hl := wS_len wd
  have hm : wd.length * n ≤ 160000 := Nat.mul_le_mul w1 n1
  refine P.mul_str ?_ ?_ ?_ ?_
  · have h1 : ¬ (n : Int) < -(2 ^ 63 : Int) := by omega
    have h2 : ¬ (n : Int) ≥ 2 ^ 63 := by omega
    rw [decide_eq_false h1, decide_eq_false h2]
    rfl
  · intro _ _
    rw [hl]
    have : (wd.length : Int) ≤ (2 ^ 63 - 1) / (n : Int) := (Int.le_ediv_iff_mul_le (by omega)).mpr (by
      have : ((wd.length * n : Nat) : Int) ≤ 160000 := by omega
      rw [Int.natCast_mul] at this
      omega)
    omega
  · intro _ _
    refine decide_eq_false ?_
    rw [hl, sizeLine_eq, Int.toNat_natCast]
    omega
  · rw [if_neg e1]
    have z : (((n : Int) == 1) || ((wS wd).length == 0)) = false := by
      have a : ((n : Int) == 1) = false := by
        rw [beq_eq_false_iff_ne]
        omega
      have b : ((wS wd).length == 0) = false := by
        rw [hl, beq_eq_false_iff_ne]
        omega
      rw [a, b]
      rfl
    rw [if_neg (by rw [z]; decide)]
    have ez : (⟨(List.replicate (n : Int).toNat (wS wd).cps).foldl (· ++ ·) #[]⟩ : Str) = wS (List.replicate n wd).flatten := by
      rw [Int.toNat_natCast]
      show (⟨(List.replicate n (wd.map ltr).toArray).foldl (· ++ ·) #[]⟩ : Str) = _
      rw [rep_words]
      unfold wS
      simp
    rw [ez]
    refine ⟨?_, .str (wS (List.replicate n wd).flatten), H, I.tok _, ⟨_, rfl⟩, q⟩
    rw [wS_len, List.length_flatten, List.map_replicate, List.sum_replicate_nat, sizeLine_eq, Nat.mul_comm]
    omega
/-! ### words one after the other -/
theorem aft_app (cs : List Cell) (w v : List Bool) (vs : List Int) : aft cs (w ++ v) vs = aft cs v (aft cs w vs) := by
  unfold aft
  rw [List.foldl_append]
theorem srt_twice {b : Bool} {cs : List Cell} {vs : List Int} (h : vs.length = cs.length) : srt b cs (srt b cs vs) = srt b cs vs :=
  rises_fix (by rw [srt_len]; exact h) (srt_rises h)
theorem settled_both {cs : List Cell} {vs : List Int} (h : settled cs vs = true) (b : Bool) : rises b cs vs = true := by
  unfold settled at h
  rw [Bool.and_eq_true] at h
  cases b
  · exact h.1
  · exact h.2
theorem aft_settled {cs : List Cell} {vs : List Int} (hl : vs.length = cs.length) (h : settled cs vs = true) : ∀ w : List Bool, aft cs w vs = vs
  | [] => rfl
  | b :: w => by
    show aft cs w (srt b cs vs) = vs
    rw [rises_fix hl (settled_both h b)]
    exact aft_settled hl h w
theorem turns_two (b : Bool) : ∀ m : Nat, (List.replicate m [b, !b]).flatten = turns b (2 * m)
  | 0 => rfl
  | m + 1 => by
    rw [List.replicate_succ, List.flatten_cons, turns_two b m]
    show b :: (!b) :: turns b (2 * m) = turns b (2 * m + 2)
    show _ = b :: (!b) :: turns (!(!b)) (2 * m)
    rw [Bool.not_not]
theorem turns_take : ∀ (n m : Nat) (b : Bool), n ≤ m → (turns b m).take n = turns b n
  | 0, _, _, _ => by simp [turns]
  | n + 1, 0, _, h => by omega
  | n + 1, m + 1, b, h => by
    show (b :: turns (!b) m).take (n + 1) = b :: turns (!b) n
    rw [List.take_succ_cons, turns_take n m (!b) (by omega)]
theorem ne_line {l m : List Int} : (!PyData.eqv (.tuple (l.map PyData.int)) (.tuple (m.map PyData.int))) = !decide (l = m) := by rw [ints_eqvT]
end KS
namespace KS
open PySem PySem.Spec PyProof.Rows L2
/-! ### sorted(t), t a tuple of whole numbers -/
def rSortedTI (K : PySem.W.Frag) : List V → Hp → VK → Prop := fun vs H Q => ∃ (a : Addr) (ns : List Int), vs = [V.ref a] ∧ SqT K H a (ns.map V.int) ∧
  ∀ (ns' : List Int) (p : Addr) (H' : Hp), ns'.Perm ns → ns'.Pairwise (· ≤ ·) → H p = none → H' = upd H p (.lst (ns'.map V.int)) → Q (.ref p) H'
theorem cr_sortedTI {X : Cx} : CallR X (.builtin "sorted") (rSortedTI X.K) := by
  intro pins s σ H vs us Q I r h
  obtain ⟨a, ns, rfl, ht, q⟩ := h
  obtain ⟨its, rv, ⟨o, ho, hc, n, hd⟩, hz⟩ := I.tuple ht
  rw [Vals.ref1 r]
  have hi := rv.ints
  have hl := rv.length
  have hzz : its.length ≤ sizeLine := by rw [← hl]; exact hz
  refine Calls.call_function_entry kind_sorted plain_sorted entry_sorted (args_sorted1 _) ?_
  unfold Builtin.«sorted»
  refine wpAny_bind (m := checkCount "sorted" 1 1 _) (wpAny_pure ?_)
  refine wpAny_bind (wpAny_collect_seq a (T := "tuple") (.inr rfl) ho hc hd (fun h1 hk => ?_) (by rw [List.size_toArray]; exact hzz))
  rw [List.toList_toArray]
  have I1 : Inv X pins σ H { s with heap := h1 } := I.kept (t' := s.toks) hk
  refine wpAny_bind (wpAny_newList ?_ hzz)
  have hoL : (h1.push (seqObj "list" its.toArray 0)).get? h1.objs.size = some (seqObj "list" its.toArray 0) := Heap.get?_push_size _ rfl
  show wpAny _ _ _ _ _ { s with heap := h1.push (seqObj "list" its.toArray 0) }
  refine wpAny_bind (wpAny_holding (wpAny_call_entry slot_list_sort ⟨_, hoL, rfl⟩ entry_list_sort (SrtO.list_sort_ord (s := { s with heap := h1.push (seqObj "list" its.toArray 0) }) SrtO.swo_int hoL hzz (fun h2 => SrtO.ints_sortable hi h2) fun out g1 g2 => ⟨_, rfl, ?_⟩) (args_list_sort _)))
  obtain ⟨k1, k2, k3⟩ := SrtO.ints_out hi g1 g2
  obtain ⟨ep, he⟩ := sortedHeap_at (vs := its) (out := out.toArray) hoL
  have hlen : ((out.map SrtO.iv).map V.int).length ≤ sizeLine := by
    rw [List.length_map, k2.length_eq]
    rw [List.length_map] at hz
    exact hz
  refine wpAny_pure ⟨_, rfl, .ref h1.objs.size, upd H h1.objs.size (.lst ((out.map SrtO.iv).map V.int)), I1.laid (t' := s.toks) (fun b u e => ?_) (Nat.le_refl _) ⟨hlen, out, ep, vals_of_ints k1, he⟩, rfl, q _ _ _ k2 k3 (I1.hok.fresh (Nat.le_refl _)) rfl⟩
  have hb : b < h1.objs.size := Heap.lt_size e
  rw [sortedHeap_old (Nat.ne_of_lt hb) (by rw [size_push']; exact Nat.lt_succ_of_lt hb)]
  exact Heap.get?_push_of_some _ e
/-! ### ranks -/
def rkI (vs : List Int) (v : Int) : Int := 1 + ((vs.filter fun u => decide (u < v)).length : Int)
def rks (vs : List Int) : List Int := vs.map (rkI vs)
theorem rkI_perm {vs us : List Int} (p : vs.Perm us) : rkI vs = rkI us := by
  funext v
  unfold rkI
  rw [(p.filter _).length_eq]
theorem rkI_mono {vs : List Int} {v w : Int} (h : v ≤ w) : rkI vs v ≤ rkI vs w := by
  unfold rkI
  have : (vs.filter fun u => decide (u < v)).length ≤ (vs.filter fun u => decide (u < w)).length := by
    rw [← List.countP_eq_length_filter, ← List.countP_eq_length_filter]
    exact List.countP_mono_left fun u _ hu => decide_eq_true (by have := of_decide_eq_true hu; omega)
  omega
theorem filter_lt_len : ∀ {vs : List Int} {v w : Int}, v < w → v ∈ vs → (vs.filter fun u => decide (u < v)).length < (vs.filter fun u => decide (u < w)).length
  | [], _, _, _, m => by cases m
  | u :: us, v, w, h, m => by
    have le : (us.filter fun u => decide (u < v)).length ≤ (us.filter fun u => decide (u < w)).length := by
      rw [← List.countP_eq_length_filter, ← List.countP_eq_length_filter]
      exact List.countP_mono_left fun u _ hu => decide_eq_true (by have := of_decide_eq_true hu; omega)
    by_cases e : u = v
    · subst e
      rw [List.filter_cons_of_neg (by simp), List.filter_cons_of_pos (by simpa using h), List.length_cons]
      omega
    · have m' : v ∈ us := by
        rcases List.mem_cons.mp m with z | z
        · exact absurd z.symm e
        · exact z
      have ih := filter_lt_len h m'
      by_cases c1 : u < v
      · rw [List.filter_cons_of_pos (by simpa using c1), List.filter_cons_of_pos (by simp; omega), List.length_cons, List.length_cons]
        omega
      · rw [List.filter_cons_of_neg (by simpa using c1)]
        by_cases c2 : u < w
        · rw [List.filter_cons_of_pos (by simpa using c2), List.length_cons]
          omega
        · rw [List.filter_cons_of_neg (by simpa using c2)]
          exact ih
theorem rkI_lt {vs : List Int} {v w : Int} (h : v < w) (m : v ∈ vs) : rkI vs v < rkI vs w := by
  have := filter_lt_len h m
  unfold rkI
  omega
theorem rkI_inj {vs : List Int} {v w : Int} (hv : v ∈ vs) (hw : w ∈ vs) (e : rkI vs v = rkI vs w) : v = w := by
  rcases Int.lt_trichotomy v w with c | c | c
  · have := rkI_lt c hv
    omega
  · exact c
  · have := rkI_lt c hw
    omega
theorem rkI_bd {vs : List Int} {v : Int} (hv : v ∈ vs) : 1 ≤ rkI vs v ∧ rkI vs v ≤ (vs.length : Int) := by
  have a : (vs.filter fun u => decide (u < v)).length < vs.length := by
    have le := List.length_filter_le (fun u => decide (u < v)) vs
    rcases Nat.lt_or_ge (vs.filter fun u => decide (u < v)).length vs.length with c | c
    · exact c
    · have e : (vs.filter fun u => decide (u < v)).length = vs.length := by omega
      have := List.length_filter_eq_length_iff.mp e v hv
      simp at this
  unfold rkI
  omega
theorem rks9 {n : Nat} {vs : List Int} (h : Vals9 n vs) (hn : n ≤ 24) : Vals9 n (rks vs) := by
  refine ⟨by unfold rks; rw [List.length_map, h.len], ?_, fun v hv => ?_⟩
  · unfold rks
    rw [List.nodup_iff_pairwise_ne, List.pairwise_map]
    have nd := List.nodup_iff_pairwise_ne.mp h.nd
    refine nd.imp_of_mem fun {a b} ha hb q e => q (rkI_inj ha hb e)
  · obtain ⟨u, hu, rfl⟩ := List.mem_map.mp hv
    have := rkI_bd hu
    have := h.len
    omega
/-! ### a rising map goes through a sort -/
theorem sortI_map {f : Int → Int} (hf : ∀ a b, a ≤ b → f a ≤ f b) (l : List Int) : sortI (l.map f) = (sortI l).map f := by
  refine (sortI_eq ((sortI_perm l).map f) ?_).symm
  rw [List.pairwise_map]
  exact (sortI_asc l).imp fun h => hf _ _ h
theorem putZ_map (f : Int → Int) : ∀ (zs : List (Int × Int)) (acc : List Int), (putZ acc zs).map f = putZ (acc.map f) (zs.map fun z => (z.1, f z.2))
  | [], _ => rfl
  | z :: zs, acc => by
    show (putZ (acc.set z.1.toNat z.2) zs).map f = putZ ((acc.map f).set z.1.toNat (f z.2)) (zs.map fun z => (z.1, f z.2))
    rw [putZ_map f zs, List.map_set]
theorem zip_map_r (f : Int → Int) : ∀ (l m : List Int), l.zip (m.map f) = (l.zip m).map fun z => (z.1, f z.2)
  | [], _ => by simp
  | _ :: _, [] => by simp
  | a :: l, b :: m => by
    simp only [List.map_cons, List.zip_cons_cons]
    rw [zip_map_r f l m]
theorem getI_map {f : Int → Int} {vs : List Int} {k : Int} (h : ∃ j : Nat, k = (j : Int) ∧ j < vs.length) : getI (vs.map f) k = f (getI vs k) := by
  obtain ⟨j, rfl, hj⟩ := h
  unfold getI
  rw [List.getD_eq_getElem?_getD, List.getD_eq_getElem?_getD, List.getElem?_map, Int.toNat_natCast, List.getElem?_eq_getElem hj]
  rfl
theorem srtL_map {f : Int → Int} (hf : ∀ a b, a ≤ b → f a ≤ f b) {vs acc l : List Int} (hl : ∀ k ∈ l, ∃ j : Nat, k = (j : Int) ∧ j < vs.length) : srtL (vs.map f) (acc.map f) l = (srtL vs acc l).map f := by
  unfold srtL
  have e : l.map (getI (vs.map f)) = (l.map (getI vs)).map f := by
    rw [List.map_map]
    exact List.map_congr_left fun k hk => getI_map (hl k hk)
  rw [e, sortI_map hf, zip_map_r, putZ_map]
theorem srtTo_map {f : Int → Int} (hf : ∀ a b, a ≤ b → f a ≤ f b) {vs : List Int} : ∀ {ls : List (List Int)} {acc : List Int}, (∀ l ∈ ls, ∀ k ∈ l, ∃ j : Nat, k = (j : Int) ∧ j < vs.length) →
    ls.foldl (srtL (vs.map f)) (acc.map f) = (ls.foldl (srtL vs) acc).map f
  | [], _, _ => rfl
  | l :: ls, acc, h => by
    show ls.foldl (srtL (vs.map f)) (srtL (vs.map f) (acc.map f) l) = _
    rw [srtL_map hf (h l List.mem_cons_self)]
    exact srtTo_map hf fun m hm => h m (List.mem_cons_of_mem _ hm)
theorem srt_map {f : Int → Int} (hf : ∀ a b, a ≤ b → f a ≤ f b) {b : Bool} {cs : List Cell} {vs : List Int} (hv : vs.length = cs.length) : srt b cs (vs.map f) = (srt b cs vs).map f := by
  unfold srt srtTo
  refine srtTo_map hf fun l hl k hk => ?_
  rw [hv]
  exact (lns_mem hl).1 k hk
theorem aft_map {f : Int → Int} (hf : ∀ a b, a ≤ b → f a ≤ f b) {cs : List Cell} : ∀ (w : List Bool) {vs : List Int}, vs.length = cs.length → aft cs w (vs.map f) = (aft cs w vs).map f
  | [], _, _ => rfl
  | b :: w, vs, hv => by
    show aft cs w (srt b cs (vs.map f)) = (aft cs w (srt b cs vs)).map f
    rw [srt_map hf hv]
    exact aft_map hf w (by rw [srt_len]; exact hv)
theorem rks_aft {cs : List Cell} (w : List Bool) {vs : List Int} (hv : vs.length = cs.length) : rks (aft cs w vs) = aft cs w (rks vs) := by
  unfold rks
  rw [aft_map (fun a b h => rkI_mono h) w hv, rkI_perm (aft_perm w hv)]
theorem rks_srt {b : Bool} {cs : List Cell} {vs : List Int} (hv : vs.length = cs.length) : rks (srt b cs vs) = srt b cs (rks vs) := rks_aft [b] hv
theorem map_inj_on {f : Int → Int} : ∀ {l m : List Int}, (∀ a ∈ l, ∀ b ∈ m, f a = f b → a = b) → l.map f = m.map f → l = m
  | [], [], _, _ => rfl
  | [], _ :: _, _, h => by simp at h
  | _ :: _, [], _, h => by simp at h
  | a :: l, b :: m, hi, h => by
    simp only [List.map_cons, List.cons.injEq] at h
    rw [hi a List.mem_cons_self b List.mem_cons_self h.1, map_inj_on (fun x hx y hy => hi x (List.mem_cons_of_mem _ hx) y (List.mem_cons_of_mem _ hy)) h.2]
theorem rises_rks {b : Bool} {cs : List Cell} {vs : List Int} (hv : vs.length = cs.length) : rises b cs (rks vs) = rises b cs vs := by
  have hr : (rks vs).length = cs.length := by
    unfold rks
    rw [List.length_map, hv]
  rw [← fix_rises hr, ← fix_rises hv, ← rks_srt hv]
  by_cases e : srt b cs vs = vs
  · rw [e, decide_eq_true rfl, decide_eq_true rfl]
  · rw [decide_eq_false e]
    refine decide_eq_false fun z => e ?_
    unfold rks at z
    rw [rkI_perm (srt_perm hv)] at z
    exact map_inj_on (fun a ha c hc => rkI_inj ((srt_perm hv).mem_iff.mp ha) hc) z
theorem settled_rks {cs : List Cell} {vs : List Int} (hv : vs.length = cs.length) : settled cs (rks vs) = settled cs vs := by
  unfold settled
  rw [rises_rks hv, rises_rks hv]
theorem rest_rks {cs : List Cell} {b : Bool} {vs : List Int} {n : Nat} (hv : vs.length = cs.length) (h : RestIs cs b vs n) : RestIs cs b (rks vs) n := by
  have e : ∀ m, settled cs (stat cs b (rks vs) m) = settled cs (stat cs b vs m) := fun m => by
    unfold stat
    rw [← rks_aft _ hv, settled_rks (by rw [aft_len, hv])]
  exact ⟨by rw [e]; exact h.end_, fun m hm => by rw [e]; exact h.least m hm⟩
/-- the place of a value in a rising list -/
theorem idx_asc : ∀ {l : List Int} {j : Nat} {v : Int}, l.Pairwise (· < ·) → l[j]? = some v → ((l.filter fun u => decide (u < v)).length) = j
  | [], j, v, _, h => by simp at h
  | a :: l, 0, v, p, h => by
    simp at h
    subst h
    rw [List.filter_cons_of_neg (by simp)]
    have : l.filter (fun u => decide (u < a)) = [] := List.filter_eq_nil_iff.mpr fun x hx => by
      have := (List.pairwise_cons.mp p).1 x hx
      simp
      omega
    rw [this]
    rfl
  | a :: l, j + 1, v, p, h => by
    have h' : l[j]? = some v := by simpa using h
    have ih := idx_asc (List.pairwise_cons.mp p).2 h'
    have := (List.pairwise_cons.mp p).1 v (List.mem_of_getElem? h')
    rw [List.filter_cons_of_pos (by simpa using this), List.length_cons, ih]
/-- a method's call inside a comprehension, where the written part is named by hand -/
theorem pe_bmK {X : Cx} {K : PySem.W.Frag} {o e : Expr} {es : List Expr} {to : TE} {t : TA} {name : Str} {apos cpos : Pos} {T id : String} {r : V → List V → Hp → VK → Prop} (hK : X.K = K) (pa : PlainAttrs T) (slot : Slot T name id)
    (hty : typeOf (.builtin id) = pure (.type "method_descriptor")) (hm : MtR X id r) (ho : PE X o to) (ha : PA X (e :: es) t)
    (hbase : attributeBase o name X.env (eval o X.env) = eval o X.env := by rfl)
    (hfew : ((backTo cpos (starEach (e :: es) X.env)).all (fun x => !x.1) && (backToKw cpos (keywordEach [] X.env)).all (fun x => x.1.isSome) && decide ((e :: es).length + ([] : List Keyword).length + (if ([] : List Keyword).isEmpty then 0 else 1) < 30)) = true := by rfl)
    (hline : (apos.endLine == cpos.line) = true := by rfl) (hs : starEach (e :: es) X.env = (false, eval e X.env) :: starEach es X.env := by rfl) (hplain : (backTo cpos (starEach es X.env)).any (·.1) = false := by rfl) :
    PE X (.Call (.Attribute o name apos) (e :: es) [] cpos) (tBM K T r to t) := by
  subst hK
  exact pe_bm pa slot hty hm ho ha hbase hfew hline hs hplain
theorem pg_tupK {X : Cx} {K : PySem.W.Frag} {es : List Expr} {k n : Nat} {pos : Pos} {t : TGs} (hK : X.K = K) (hc : X.calm = true) (h : PGs X es t) (hn : (assignEach es X.env).length = n := by rfl) (hst : (assignEach es X.env).findIdx? (·.1) = none := by rfl) : PG X (.Tuple es k pos) (gTup K n t) := by
  subst hK
  exact pg_tup hc h hn hst
end KS
namespace KS
open PySem PySem.Spec PyProof.Rows L2
/-! ### all orders of 1 to n -/
def insAt (l : List Int) (v : Int) (k : Nat) : List Int := l.take k ++ [v] ++ l.drop k
def insAll (v : Int) (l : List Int) : List (List Int) := (List.range (l.length + 1)).map (insAt l v)
def ordI : Nat → List (List Int)
  | 0 => [[]]
  | n + 1 => (ordI n).flatMap (insAll (1 + (n : Int)))
theorem ins_len (l : List Int) (v : Int) (k : Nat) : (insAt l v k).length = l.length + 1 := by
  unfold insAt
  rw [List.length_append, List.length_append, List.length_take, List.length_drop]
  show min k l.length + 1 + (l.length - k) = _
  omega
theorem ord_len : ∀ {n : Nat} {l : List Int}, l ∈ ordI n → l.length = n
  | 0, l, h => by
    have : l = [] := by simpa [ordI] using h
    rw [this]
    rfl
  | n + 1, l, h => by
    obtain ⟨m, hm, hl⟩ := List.mem_flatMap.mp h
    obtain ⟨k, _, rfl⟩ := List.mem_map.mp hl
    rw [ins_len, ord_len hm]
theorem flat_len {n : Nat} {v : Int} : ∀ {L : List (List Int)}, (∀ l ∈ L, l.length = n) → (L.flatMap (insAll v)).length = L.length * (n + 1)
  | [], _ => by simp
  | l :: L, h => by
    rw [List.flatMap_cons, List.length_append, flat_len fun m hm => h m (List.mem_cons_of_mem _ hm), List.length_cons, Nat.succ_mul]
    unfold insAll
    rw [List.length_map, List.length_range, h l List.mem_cons_self]
    omega
def facN : Nat → Nat
  | 0 => 1
  | n + 1 => facN n * (n + 1)
theorem len_ord : ∀ n : Nat, (ordI n).length = facN n
  | 0 => rfl
  | n + 1 => by
    show ((ordI n).flatMap (insAll (1 + (n : Int)))).length = facN n * (n + 1)
    rw [flat_len (fun l h => ord_len h), len_ord n]
theorem fac_le {n : Nat} (h : n ≤ 6) : facN n ≤ 720 := by
  have : n = 0 ∨ n = 1 ∨ n = 2 ∨ n = 3 ∨ n = 4 ∨ n = 5 ∨ n = 6 := by omega
  rcases this with e | e | e | e | e | e | e <;> subst e <;> decide
/-- different numbers from 1 to n, n of them, are an order -/
theorem mem_ord : ∀ {n : Nat} {l : List Int}, l.length = n → l.Nodup → (∀ v ∈ l, 1 ≤ v ∧ v ≤ (n : Int)) → l ∈ ordI n
  | 0, l, h, _, _ => by
    rw [List.eq_nil_of_length_eq_zero h]
    exact List.mem_singleton.mpr rfl
  | n + 1, l, h, nd, bd => by
    have hm : (1 + (n : Int)) ∈ l := by
      by_cases c : (1 + (n : Int)) ∈ l
      · exact c
      · exfalso
        have nd2 : (l.map Int.toNat).Nodup := by
          rw [List.nodup_iff_pairwise_ne, List.pairwise_map]
          refine (List.nodup_iff_pairwise_ne.mp nd).imp_of_mem fun {a b} ha hb q e => q ?_
          have := bd a ha
          have := bd b hb
          omega
        have := nodup_len_le nd2 (m := (List.range n).map (· + 1)) fun x hx => by
          obtain ⟨v, hv, rfl⟩ := List.mem_map.mp hx
          have b := bd v hv
          have ne : v ≠ 1 + (n : Int) := fun e => c (e ▸ hv)
          exact List.mem_map.mpr ⟨v.toNat - 1, List.mem_range.mpr (by omega), by omega⟩
        rw [List.length_map, List.length_map, List.length_range] at this
        omega
    obtain ⟨a, b, e⟩ := List.append_of_mem hm
    subst e
    have ndc := List.nodup_append.mp nd
    have ndb := List.nodup_cons.mp ndc.2.1
    have hl : (a ++ b).length = n := by
      rw [List.length_append] at h ⊢
      rw [List.length_cons] at h
      omega
    have ndab : (a ++ b).Nodup := by
      rw [List.nodup_append]
      exact ⟨ndc.1, ndb.2, fun x hx y hy => ndc.2.2 x hx y (List.mem_cons_of_mem _ hy)⟩
    have ih := mem_ord (n := n) (l := a ++ b) hl ndab fun v hv => by
      have mv : v ∈ a ++ (1 + (n : Int)) :: b := by
        rcases List.mem_append.mp hv with z | z
        · exact List.mem_append_left _ z
        · exact List.mem_append_right _ (List.mem_cons_of_mem _ z)
      have bv := bd v mv
      have ne : v ≠ 1 + (n : Int) := fun e => by
        rcases List.mem_append.mp hv with z | z
        · exact ndc.2.2 v z (1 + (n : Int)) List.mem_cons_self e
        · rw [e] at z
          exact ndb.1 z
      omega
    refine List.mem_flatMap.mpr ⟨a ++ b, ih, List.mem_map.mpr ⟨a.length, List.mem_range.mpr (by rw [List.length_append]; omega), ?_⟩⟩
    unfold insAt
    rw [List.take_left, List.drop_left, List.append_assoc]
    rfl
theorem rks_ord {n : Nat} {vs : List Int} (h : Vals9 n vs) (hn : n ≤ 24) : rks vs ∈ ordI n := by
  have r := rks9 h hn
  refine mem_ord r.len r.nd fun v hv => ?_
  obtain ⟨u, hu, rfl⟩ := List.mem_map.mp hv
  have := rkI_bd hu
  have := h.len
  omega
/-- whether each order whose rows rise still does behind a sort of the columns -/
def okO (cs : List Cell) (vs : List Int) : Bool := !(rises false cs vs) || rises false cs (srt true cs vs)
def keptP (cs : List Cell) : Bool := (ordI cs.length).all (okO cs)
theorem ord9 {n : Nat} {l : List Int} (h : l ∈ ordI n) : l.length = n := ord_len h
theorem keptP_iff {cs : List Cell} (g : Good cs) (hl : cs.length ≤ 24) : keptP cs = true ↔ NoX false cs := by
  unfold keptP
  rw [List.all_eq_true]
  constructor
  · intro h
    rw [nox_iff g]
    intro q hq
    cases e : obsQ cs q with
    | false => rfl
    | true =>
      exfalso
      obtain ⟨X, _⟩ := xat_of_obs hq e
      obtain ⟨br, hbr⟩ : ∃ br : Int, (cellB false cs q.2.1 q.2.2.1 ∧ ¬ cellB false cs q.1 q.2.2.2 ∧ br = (q.2.1 : Int)) ∨ (¬ cellB false cs q.2.1 q.2.2.1 ∧ cellB false cs q.1 q.2.2.2 ∧ br = (q.1 : Int)) := by
        rcases X.x with ⟨a, c⟩ | ⟨a, c⟩
        · exact ⟨_, .inl ⟨a, c, rfl⟩⟩
        · exact ⟨_, .inr ⟨a, c, rfl⟩⟩
      classical
      let mk : Nat → Int := fun m => (if cellB false cs (gB false cs m) q.2.2.1 ∧ (br < gB false cs m ∨ gB false cs m = q.1) then 1000 else 0) + ((m : Int) + 1)
      have mkT : ∀ m, (cellB false cs (gB false cs m) q.2.2.1 ∧ (br < gB false cs m ∨ gB false cs m = q.1)) → mk m = 1000 + ((m : Int) + 1) := fun m c => by
        show (if _ then (1000 : Int) else 0) + _ = _
        rw [if_pos c]
      have mkF : ∀ m, ¬ (cellB false cs (gB false cs m) q.2.2.1 ∧ (br < gB false cs m ∨ gB false cs m = q.1)) → mk m = 0 + ((m : Int) + 1) := fun m c => by
        show (if _ then (1000 : Int) else 0) + _ = _
        rw [if_neg c]
      have hlen : ((List.range cs.length).map mk).length = cs.length := by rw [List.length_map, List.length_range]
      have hat : ∀ m, m < cs.length → vI ((List.range cs.length).map mk) m = mk m := fun m hm => by
        unfold vI
        rw [List.getD_eq_getElem?_getD, List.getElem?_map, List.getElem?_range hm]
        rfl
      have mkd : ∀ m, mk m = 1000 + ((m : Int) + 1) ∨ mk m = 0 + ((m : Int) + 1) := fun m => by
        by_cases c : cellB false cs (gB false cs m) q.2.2.1 ∧ (br < gB false cs m ∨ gB false cs m = q.1)
        · exact .inl (mkT m c)
        · exact .inr (mkF m c)
      have v9 : Vals9 cs.length ((List.range cs.length).map mk) := by
        refine ⟨hlen, ?_, fun v hv => ?_⟩
        · rw [List.nodup_iff_pairwise_ne, List.pairwise_map]
          refine List.pairwise_lt_range.imp_of_mem fun {a b} ha hb hab z => ?_
          have ha := List.mem_range.mp ha
          have hb := List.mem_range.mp hb
          rcases mkd a with e1 | e1 <;> rcases mkd b with e2 | e2 <;> rw [e1, e2] at z <;> omega
        · obtain ⟨m, hm, rfl⟩ := List.mem_map.mp hv
          have hm := List.mem_range.mp hm
          rcases mkd m with e1 | e1 <;> rw [e1] <;> omega
      have hz := h _ (rks_ord v9 hl)
      have up : rises false cs ((List.range cs.length).map mk) = true := by
        rw [rises_pairs g]
        intro i j hij hj e'
        rw [hat i (by omega), hat j hj]
        by_cases c : cellB false cs (gB false cs i) q.2.2.1 ∧ (br < gB false cs i ∨ gB false cs i = q.1)
        · have c2 := c
          rw [e'] at c2
          rw [mkT i c, mkT j c2]
          omega
        · have c2 : ¬ (cellB false cs (gB false cs j) q.2.2.1 ∧ (br < gB false cs j ∨ gB false cs j = q.1)) := by
            rw [← e']
            exact c
          rw [mkF i c, mkF j c2]
          omega
      have dn := breaks (b := false) (x := 1000) g hlen X.hr X.hk X.c1 X.c2 hbr (fun m hm => by
        rw [hat m hm]
        by_cases c : cellB false cs (gB false cs m) q.2.2.1 ∧ (br < gB false cs m ∨ gB false cs m = q.1)
        · rw [mkT m c]
          exact ⟨fun _ => c, fun _ => by omega⟩
        · rw [mkF m c]
          exact ⟨fun z => by omega, fun z => absurd z c⟩)
      have dn' : rises false cs (srt true cs ((List.range cs.length).map mk)) = false := dn
      unfold okO at hz
      rw [rises_rks hlen, up, ← rks_srt hlen, rises_rks (by rw [srt_len]; exact hlen), dn'] at hz
      exact absurd hz (by decide)
  · intro nx vs hvs
    have h1 := ord_len hvs
    unfold okO
    cases e : rises false cs vs with
    | false => rfl
    | true =>
      have := kept (b := false) g h1 nx e
      rw [show rises false cs (srt true cs vs) = true from this]
      rfl
def sq4 : List Cell := [(0, 0), (0, 1), (1, 0), (1, 1)]
theorem sq_ans : ∀ k, k < 4 → ∀ o, Ans (sq4.eraseIdx k) o → decide (o = none) = [true, false, false, true].getD k true := by
  intro k hk o an
  have e := Ans.uniq an (ans_of_filter (sq4.eraseIdx k))
  rw [e]
  have : k = 0 ∨ k = 1 ∨ k = 2 ∨ k = 3 := by omega
  rcases this with z | z | z | z <;> subst z <;> decide +kernel
theorem sq_good : ∀ k, k < 4 → Good (sq4.eraseIdx k) := by
  intro k hk
  have : k = 0 ∨ k = 1 ∨ k = 2 ∨ k = 3 := by omega
  rcases this with z | z | z | z <;> subst z <;> refine ⟨?_, ?_, by decide⟩ <;> simp [sq4, lt2, InGrid]
end KS
/-! names -/
namespace KS
open PySem PySem.Spec PyProof.Rows L2
def IsNm (s : Str) : Prop := 1 ≤ s.length ∧ s.length ≤ 6 ∧ ∀ c ∈ s.cps.toList, 97 ≤ c ∧ c ≤ 122
abbrev abcS : Str := "abcdefghijklmnopqrstuvwxyz"
theorem abc_has {c : Nat} (h : 97 ≤ c ∧ c ≤ 122) : decide (c ∈ abcS.cps.toList) = true := by
  have all : ∀ c, c < 123 → 97 ≤ c → decide (c ∈ abcS.cps.toList) = true := by decide +kernel
  exact all c (by omega) h.1
abbrev sIsName : Stmt := topS 20
abbrev nIsName : List Str := ["value", "letter"]
theorem scIsName : FnScope nIsName ["value"] (defScope sIsName) := ⟨rfl, rfl, rfl, by decide +kernel, rfl, by decide +kernel, by decide +kernel⟩
def spIsName : Sp := fun vs H Q _ => ∃ s : Str, vs = [.str s] ∧ IsNm s ∧ ∀ H', Same H H' → Q (.bl true) H'
section
variable {P : Program} {w : World} {K : PySem.W.Frag} {mg : Str → Option Value} {base : Heap}
theorem ok_isName {f : Addr} {fd : FuncData} {tk tk2 : Tok} (F : Fun K "is_name" "is_name" sIsName f fd) (mi : mg "isinstance" = none) (mS : mg "str" = none) (ml : mg "len" = none) (ma : mg "all" = none) (mL : mg "NAME_LETTERS" = some (.str abcS tk)) (mM : mg "MOST_NAME_LETTERS" = some (.int 6 tk2)) :
    FnOk P w K mg base CX0 1 f fd ["value"] spIsName := by
  refine F.ok scIsName (fun vs H Q E h => ?_) (fun cdv A outer s H vs Q E hr h => ?_)
  · obtain ⟨n, rfl, _⟩ := h
    rfl
  · obtain ⟨n, rfl, hn, q⟩ := h
    have nd := scIsName.nd
    refine ⟨_, pss_cons (ps_if (PW.pt (pw_or (pt_not (pt_val (pe_callB call_isi (by rfl) mi (by decide +kernel) (pa_cons (pv 0) (pa_cons (pe_bltn (v := .ty "str") (by rfl) mS (by decide +kernel) rfl) pa_nil)))))
          (pw_or1 (pt_not (pt_chain op_le op_le pe_int (pe_callB call_len_str (by rfl) ml PySem.boot_len (pa_cons (pv 0) pa_nil)) (pe_glob (v := .int 6) (by rfl) mM ⟨_, rfl⟩))))))
        (pss_one (ps_ret pe_bl)) pss_nil)
      (pss_one (ps_ret (pe_callB (cr_all rfl) (by rfl) ma (by decide +kernel) (pa_cons
        (pe_lc (own := [("letter", 1)]) (g := gName 1) (tt := tYes) rfl nd (pi_str (pv 0)) (blkOk_by (N := nIsName) (sc := defScope sIsName) (by decide +kernel))
          (fun _ _ _ _ _ => pg_name (i := 1) nd rfl (Or.inl rfl)) (fun _ _ _ _ _ => pts_nil)
          (fun _ _ _ _ _ => pe_cmpR op_in_sign (pv 1) (pe_glob (v := .str abcS) (by rfl) mL ⟨_, rfl⟩) (by rfl))) pa_nil)))), ?_⟩
    obtain ⟨n1, n2, n3⟩ := hn
    refine ⟨_, rfl, _, _, _, _, true, rfl, .ty "str", .base (.str _), kit_ty (by decide +kernel), true, rfl, ?_⟩
    refine ⟨_, rfl, n, rfl, by rw [sizeLine_eq]; omega, ?_⟩
    refine ⟨_, _, rfl, rfl, true, bl_true (show (1 : Int) ≤ (n.length : Int) by omega), ?_⟩
    refine ⟨_, _, rfl, rfl, true, bl_true (show (n.length : Int) ≤ 6 by omega), ?_⟩
    refine ⟨_, rfl, n, rfl, fun D nD => ?_⟩
    refine lc_it walk_str (fun i G => G D = some (.lst ((List.replicate i true).map V.bl)) ∧ (∀ b o, b ≠ D → H b = some o → G b = some o)) ?_ ?_ ?_ ?_
    · exact ⟨upd_same, fun b o n e => by rw [upd_ne n]; exact e⟩
    · intros
      trivial
    · rintro i x G G' hi ⟨a1, a2⟩ ⟨rfl, c, hc, rfl⟩
      have il := (Array.getElem?_eq_some_iff.mp hc).1
      have il : i < n.length := il
      have hm : c ∈ n.cps.toList := by
        rw [← Array.getElem?_toList] at hc
        exact List.mem_of_getElem? hc
      have hd : decide (c ∈ abcS.cps.toList) = true := abc_has (n3 c hm)
      refine ⟨rfl, _, rfl, _, _, rfl, rfl, ?_⟩
      rw [hd]
      refine ⟨_, a1, ?_, ?_, fun b o n e => by rw [upd_ne n]; exact a2 b o n e⟩
      · rw [List.length_map, List.length_replicate, sizeLine_eq]
        omega
      · rw [upd_same, List.replicate_succ', List.map_append]
        rfl
    · rintro G ⟨a1, a2⟩
      refine ⟨D, _, rfl, SqL.of a1, ?_⟩
      rw [show (List.replicate n.cps.size true).all id = true by simp]
      exact q _ fun b o e => a2 b o (ne_of_none e nD) e
end
end KS
namespace KS
open PySem PySem.Spec PyProof.Rows L2
section
variable {K : PySem.W.Frag} {σ : L2.St} {H : Hp} {Q : VK} {ta : TA}
theorem catA_ok2 {a b : Addr} {xs ys : List V} (ha : SqT K H a xs) (hb : SqT K H b ys) (hl : xs.length + ys.length ≤ 64)
    (k : ∀ H' u, Same H H' → SqT K H' u (xs ++ ys) → Q (.ref u) H') : rCatA K (.ref a) (.ref b) H Q := by
  refine ⟨a, b, xs, ys, rfl, rfl, ha, hb, Nat.le_of_lt (small64 hl), fun e => ?_, fun _ e => ?_, fun _ _ p np => ?_⟩
  · subst e
    exact k H b (Same.refl _) hb
  · subst e
    exact k H a (Same.refl _) (by rw [List.append_nil]; exact ha)
  · exact k _ p (same_new np) (SqT.of upd_same)
theorem cut_to2 {xs : List V} {k : Nat} (h : k ≤ xs.length) : cutV xs none (some (k : Int)) = xs.take k := by
  unfold cutV
  rw [HT.sIx_none, HT.sIx_nat, Nat.min_eq_left h]
  simp
theorem cut_from2 {xs : List V} {k : Nat} (h : k ≤ xs.length) : cutV xs (some (k : Int)) none = xs.drop k := by
  unfold cutV
  rw [HT.sIx_none, HT.sIx_nat, Nat.min_eq_left h]
  exact List.take_of_length_le (by rw [List.length_drop]; exact Nat.le_refl _)
theorem slTo_ok2 {a : Addr} {xs : List V} {n : Nat} (ha : SqT K H a xs) (hn : n ≤ xs.length) (k : ∀ H' u, Same H H' → SqT K H' u (xs.take n) → Q (.ref u) H') : rSlA K (.ref a) none (some (n : Int)) H Q := by
  refine ⟨a, xs, rfl, ha, fun z => ?_, fun _ p np => ?_⟩
  · obtain ⟨_, z2⟩ := z
    rw [show HT.sIx xs.length xs.length (some (n : Int)) = min n xs.length from HT.sIx_nat _ _ n] at z2
    have e : n = xs.length := by omega
    refine k H a (Same.refl _) ?_
    rw [e, List.take_length]
    exact ha
  · refine k _ p (same_new np) (SqT.of ?_)
    rw [upd_same, cut_to2 hn]
theorem slFrom_ok2 {a : Addr} {xs : List V} {n : Nat} (ha : SqT K H a xs) (hn : n ≤ xs.length) (k : ∀ H' u, Same H H' → SqT K H' u (xs.drop n) → Q (.ref u) H') : rSlA K (.ref a) (some (n : Int)) none H Q := by
  refine ⟨a, xs, rfl, ha, fun z => ?_, fun _ p np => ?_⟩
  · obtain ⟨z1, _⟩ := z
    rw [show HT.sIx xs.length 0 (some (n : Int)) = min n xs.length from HT.sIx_nat _ _ n] at z1
    refine k H a (Same.refl _) ?_
    rcases Nat.eq_zero_or_pos n with e | e
    · subst e
      exact ha
    · have e2 : xs.length = 0 := by omega
      have e3 := List.eq_nil_of_length_eq_zero e2
      subst e3
      simpa using ha
  · refine k _ p (same_new np) (SqT.of ?_)
    rw [upd_same, cut_from2 hn]
end
end KS
/-! tables of names -/
namespace KS
open PySem PySem.Spec PyProof.Rows L2
/-- a comprehension over enumerate of a tuple -/
theorem lc_enumT {K : PySem.W.Frag} {a : Addr} {xs : List V} {g : TG} {tt : TT} {te : TE} {vs : List Nat} {σ : L2.St} {H1 : Hp} {D : Addr} {Qd : Hp → Prop} (Pv : Nat → Hp → Prop) (h0 : Pv 0 (upd H1 D (.lst []))) (hl : ∀ i H, i ≤ xs.length → Pv i H → SqT K H a xs)
    (hs : ∀ i x H T, xs[i]? = some x → Pv i H → H T = none → g (.ref T) (wipe σ vs) (upd H T (.tup [.int (i : Nat), x])) fun σ2 H2 => wipe σ2 vs = wipe σ vs ∧ tt σ2 H2 fun b H3 =>
      if b = true then te σ2 H3 fun y H4 => ∃ acc, H4 D = some (.lst acc) ∧ acc.length < sizeLine ∧ Pv (i + 1) (upd H4 D (.lst (acc ++ [y]))) else Pv (i + 1) H3) (hd : ∀ H, Pv xs.length H → Qd H) :
    ∃ W : Nat → Nat → Hp → Prop, (∃ m, W 0 m (upd H1 D (.lst []))) ∧ ∀ i m H, W i m H →
      ((IteT K a).stop i H ∧ Qd H) ∨ ((IteT K a).go i H ∧ ∃ Nx : Hp → Prop, (∀ H', Nx H' → ∃ m', m' < m ∧ W (i + 1) m' H') ∧ ∀ x H', (IteT K a).yld i H x H' → g x (wipe σ vs) H' fun σ2 H2 => wipe σ2 vs = wipe σ vs ∧ tt σ2 H2 fun b H3 =>
        if b = true then te σ2 H3 fun y H4 => ∃ acc, H4 D = some (.lst acc) ∧ acc.length < sizeLine ∧ Nx (upd H4 D (.lst (acc ++ [y]))) else Nx H3) := by
  refine ⟨fun i m H => m = xs.length - i ∧ i ≤ xs.length ∧ Pv i H, ⟨xs.length, by simp, Nat.zero_le _, h0⟩, ?_⟩
  rintro i m H ⟨rfl, hi, p⟩
  have q := hl i H hi p
  by_cases hlt : i < xs.length
  · refine .inr ⟨⟨xs, xs[i], q, by simp [hlt]⟩, Pv (i + 1), fun H' p' => ⟨xs.length - (i + 1), by omega, rfl, hlt, p'⟩, fun x H' y => ?_⟩
    obtain ⟨T, x1, rfl, nT, rfl, hx⟩ := y
    exact hs i x1 H T (hx _ q) p nT
  · have e : i = xs.length := by omega
    subst e
    exact .inl ⟨⟨xs, q, Nat.le_refl _⟩, hd H p⟩
theorem strs_flat : ∀ l : List Str, (l.map V.str).all flatV = true
  | [] => rfl
  | _ :: l => by rw [List.map_cons, List.all_cons, strs_flat l]; rfl
theorem inV_strs (z : Str) (l : List Str) : inV (.str z) (l.map V.str) = decide (z ∈ l) := by
  induction l with
  | nil => rfl
  | cons x l ih =>
    have e : inV (.str z) ((x :: l).map V.str) = (decide (x = z) || inV (.str z) (l.map V.str)) := rfl
    rw [e, ih, Bool.eq_iff_iff, Bool.or_eq_true, decide_eq_true_eq, decide_eq_true_eq, decide_eq_true_eq, List.mem_cons]
    exact ⟨fun h => h.elim (fun h => .inl h.symm) .inr, fun h => h.elim (fun h => .inl h.symm) .inr⟩
abbrev sIsNmT : Stmt := topS 21
abbrev nIsNmT : List Str := ["size", "value", "index", "name"]
theorem scIsNmT : FnScope nIsNmT ["size", "value"] (defScope sIsNmT) := ⟨rfl, rfl, rfl, by decide +kernel, rfl, by decide +kernel, by decide +kernel⟩
def spIsNmT (K : PySem.W.Frag) : Sp := fun vs H Q _ => ∃ (t : Addr) (ss : List Str), vs = [.int ss.length, .ref t] ∧ SqT K H t (ss.map V.str) ∧ ss.length ≤ 64 ∧ (∀ s ∈ ss, IsNm s) ∧ ss.Nodup ∧ ∀ H', Same H H' → Q (.bl true) H'
section
variable {P : Program} {w : World} {K : PySem.W.Frag} {mg : Str → Option Value} {base : Heap}
theorem ok_isNmT {f fN : Addr} {fd fdN : FuncData} (F : Fun K "is_name_table" "is_name_table" sIsNmT f fd)
    (GN : FnOk P w K mg base CX0 1 fN fdN ["value"] spIsName) (bN : Binds K fdN ["value"] []) (gN : mg "is_name" = some (.ref fN)) (kN : PySem.W.keepIn K (.ref fN) = true)
    (mi : mg "isinstance" = none) (mT : mg "tuple" = none) (ml : mg "len" = none) (ma : mg "all" = none) (me : mg "enumerate" = none) :
    FnOk P w K mg base CX0 2 f fd ["size", "value"] (spIsNmT K) := by
  refine F.ok scIsNmT (fun vs H Q E h => ?_) (fun cdv A outer s H vs Q E hr h => ?_)
  · obtain ⟨t, ss, rfl, _⟩ := h
    rfl
  · obtain ⟨t, ss, rfl, ht, hl, hn, hd, q⟩ := h
    have nd := scIsNmT.nd
    refine ⟨_, pss_cons (ps_if (PW.pt (pw_or (pt_not (pt_val (pe_callB call_isi (by rfl) mi (by decide +kernel) (pa_cons (pv 1) (pa_cons (pe_bltn (v := .ty "tuple") (by rfl) mT (by decide +kernel) rfl) pa_nil)))))
          (pw_or1 (pt_cmpR op_ne (pe_callB call_len_seq (by rfl) ml PySem.boot_len (pa_cons (pv 1) pa_nil)) (pv 0) (nomark _)))))
        (pss_one (ps_ret pe_bl)) pss_nil)
      (pss_one (ps_ret (pe_callB (cr_all rfl) (by rfl) ma (by decide +kernel) (pa_cons
        (pe_lc (own := [("index", 2), ("name", 3)]) (tt := tYes) rfl nd (pi_enumT (by rfl) me (pa_cons (pv 1) pa_nil)) (blkOk_by (N := nIsNmT) (sc := defScope sIsNmT) (by decide +kernel))
          (fun _ _ _ _ _ => pg_tupK (K := K) (n := 2) rfl (by rfl) (pgs_cons (pg_name (i := 2) nd rfl (Or.inl rfl)) (pgs_cons (pg_name (i := 3) nd rfl (Or.inl rfl)) pgs_nil))) (fun _ _ _ _ _ => pts_nil)
          (fun _ _ _ _ _ => pe_and (pe_call GN hr (by rfl) gN kN bN .nil pass0 (pa_cons (pv 3) pa_nil)) (pe_one (pe_cmpR (r := rIn K true) op_notIn_seq (pv 3) (pe_slice (r := rSlA K) sl_tupA (pv 1) po_none (po_some (pv 2))) (by rfl))))) pa_nil)))), ?_⟩
    have hlen : (ss.map V.str).length = ss.length := List.length_map _
    refine ⟨_, rfl, _, _, _, _, true, rfl, .ty "tuple", tyx_tup ht, kit_ty (by decide +kernel), true, rfl, ?_⟩
    refine ⟨_, rfl, t, _, rfl, .inr ht, _, rfl, rfl, false, ?_, ?_⟩
    · rw [hlen]
      simp
    refine ⟨_, rfl, t, _, rfl, ht, fun D nD => ?_⟩
    refine lc_enumT (K := K) (a := t) (xs := ss.map V.str) (fun i G => G D = some (.lst ((List.replicate i true).map V.bl)) ∧ (∀ b o, b ≠ D → H b = some o → G b = some o)) ?_ ?_ ?_ ?_
    · exact ⟨upd_same, fun b o n e => by rw [upd_ne n]; exact e⟩
    · rintro i G _ ⟨a1, a2⟩
      exact same_seqT (fun b o e => a2 b o (ne_of_none e nD) e) ht
    · rintro i x G T hi ⟨a1, a2⟩ nT
      have sG : Same H G := fun b o e => a2 b o (ne_of_none e nD) e
      have sT := same_new (o := .tup [.int (i : Nat), x]) nT
      rw [List.getElem?_map] at hi
      cases ez : ss[i]? with
      | none =>
        rw [ez] at hi
        cases hi
      | some z =>
        rw [ez] at hi
        cases hi
        have il := (List.getElem?_eq_some_iff.mp ez).1
        refine ⟨T, _, rfl, SqT.of upd_same, rfl, _, _, rfl, _, _, rfl, rfl, rfl, ?_⟩
        refine ⟨_, rfl, z, rfl, hn z (List.mem_of_getElem? ez), fun G2 s2 => ?_⟩
        have s02 := (sG.trans sT).trans s2
        refine ⟨true, rfl, ?_⟩
        rw [if_pos rfl]
        refine ⟨_, rfl, _, rfl, _, rfl, _, rfl, slTo_ok2 (n := i) (same_seqT s02 ht) (by rw [hlen]; omega) (fun G3 u s3 hu => ?_)⟩
        rw [← List.map_take] at hu
        refine ⟨u, _, rfl, .inr hu, rfl, strs_flat _, ?_⟩
        have hni : z ∉ ss.take i := fun hm => by
          obtain ⟨j, hj, ej⟩ := List.mem_iff_getElem.mp hm
          rw [List.length_take] at hj
          rw [List.getElem_take] at ej
          have e2 := (List.getElem?_eq_some_iff.mp ez).2
          have hne := List.pairwise_iff_getElem.mp (List.nodup_iff_pairwise_ne.mp hd) j i (by omega) il (by omega)
          exact hne (by rw [ej, e2])
        rw [inV_strs, decide_eq_false hni]
        have a1' := s3 _ _ (s2 _ _ (sT _ _ a1))
        refine ⟨_, a1', ?_, ?_, fun b o n e => by rw [upd_ne n]; exact s3 _ _ (s2 _ _ (sT _ _ (a2 b o n e)))⟩
        · rw [List.length_map, List.length_replicate, sizeLine_eq]
          omega
        · rw [upd_same, List.replicate_succ', List.map_append]
          rfl
    · rintro G ⟨a1, a2⟩
      refine ⟨D, _, rfl, SqL.of a1, ?_⟩
      rw [show (List.replicate (ss.map V.str).length true).all id = true by simp]
      exact q _ fun b o e => a2 b o (ne_of_none e nD) e
end
end KS
/-! sorted(t), t a tuple of texts -/
namespace KS
open PySem PySem.Spec PyProof.Rows L2
def rSortedTS (K : PySem.W.Frag) : List V → Hp → VK → Prop := fun vs H Q => ∃ (a : Addr) (ss : List Str), vs = [V.ref a] ∧ SqT K H a (ss.map V.str) ∧
  ∀ (ss' : List Str) (p : Addr) (H' : Hp), ss'.Perm ss → sortedS ss' = true → H p = none → H' = upd H p (.lst (ss'.map V.str)) → Q (.ref p) H'
theorem cr_sortedTS {X : Cx} : CallR X (.builtin "sorted") (rSortedTS X.K) := by
  intro pins s σ H vs us Q I r h
  obtain ⟨a, ss, rfl, ht, q⟩ := h
  obtain ⟨its, rv, ⟨o, ho, hc, n, hd⟩, hz⟩ := I.tuple ht
  rw [Vals.ref1 r]
  have hi := rv.strs
  have hl := rv.length
  have hzz : its.length ≤ sizeLine := by rw [← hl]; exact hz
  refine Calls.call_function_entry kind_sorted plain_sorted entry_sorted (args_sorted1 _) ?_
  unfold Builtin.«sorted»
  refine wpAny_bind (m := checkCount "sorted" 1 1 _) (wpAny_pure ?_)
  refine wpAny_bind (wpAny_collect_seq a (T := "tuple") (.inr rfl) ho hc hd (fun h1 hk => ?_) (by rw [List.size_toArray]; exact hzz))
  rw [List.toList_toArray]
  have I1 : Inv X pins σ H { s with heap := h1 } := I.kept (t' := s.toks) hk
  refine wpAny_bind (wpAny_newList ?_ hzz)
  have hoL : (h1.push (seqObj "list" its.toArray 0)).get? h1.objs.size = some (seqObj "list" its.toArray 0) := Heap.get?_push_size _ rfl
  show wpAny _ _ _ _ _ { s with heap := h1.push (seqObj "list" its.toArray 0) }
  refine wpAny_bind (wpAny_holding (wpAny_call_entry slot_list_sort ⟨_, hoL, rfl⟩ entry_list_sort (list_sort_treeKAny (s := { s with heap := h1.push (seqObj "list" its.toArray 0) }) strKind_oneLt hoL hi.keysOf (fun v₁ v₂ rest e => keyKind_strs (by rw [← e]; exact hi)) hzz fun st' g1 g2 => ⟨_, rfl, ?_⟩) (args_list_sort _)))
  obtain ⟨ss', k1, k2, k3⟩ := sorted_out_str hi g1 g2
  obtain ⟨ep, he⟩ := sortedHeap_at (vs := its) (out := (arrOf st').map (·.2)) hoL
  have hlen : (ss'.map V.str).length ≤ sizeLine := by
    rw [List.length_map, k2.length_eq]
    rw [List.length_map] at hz
    exact hz
  refine wpAny_pure ⟨_, rfl, .ref h1.objs.size, upd H h1.objs.size (.lst (ss'.map V.str)), I1.laid (t' := s.toks) (fun b u e => ?_) (Nat.le_refl _) ⟨hlen, ((arrOf st').map (·.2)).toList, ep, vals_of_strs k1, he⟩, rfl, q _ _ _ k2 k3 (I1.hok.fresh (Nat.le_refl _)) rfl⟩
  have hb : b < h1.objs.size := Heap.lt_size e
  rw [sortedHeap_old (Nat.ne_of_lt hb) (by rw [size_push']; exact Nat.lt_succ_of_lt hb)]
  exact Heap.get?_push_of_some _ e
end KS
namespace KS
open PySem PySem.Spec PyProof.Rows L2
/-! ### plans whose cells are tuples made at run time -/
def CellT (H : Hp) (x : V) (c : Cell) : Prop := ∃ t, x = .ref t ∧ H t = some (.tup [.int c.1, .int c.2])
abbrev CellsT (H : Hp) : List V → List Cell → Prop := Paired (CellT H)
/-- such tuples are kept -/
def KTt (H H' : Hp) : Prop := ∀ a xs, H a = some (.tup xs) → H' a = some (.tup xs)
section
variable {K : PySem.W.Frag} {H H1 H2 H' : Hp}
theorem KTt.trans (a : KTt H H1) (b : KTt H1 H2) : KTt H H2 := fun x xs h => b x xs (a x xs h)
theorem KTt.of_same (a : Same H H1) : KTt H H1 := fun _ _ h => a _ _ h
theorem KTt.of_keepX {p : Addr} (hp : PoolO (H p)) (a : KeepX p H H1) : KTt H H1 := fun x xs h => by
  obtain ⟨_, _, _, ep, _⟩ := hp
  exact a _ _ (fun q => by rw [q, ep] at h; cases h) h
theorem KTt.upd {e : Addr} {ys : List V} {o : HO} (h : H e = some (.lst ys)) : KTt H (upd H e o) := fun a xs q => by
  rw [upd_ne (ne_of q h (by intro z; cases z))]
  exact q
theorem cellsT_kt {xs : List V} {cs : List Cell} (k : KTt H H') (h : CellsT H xs cs) : CellsT H' xs cs := Paired.mono (fun _ _ ⟨t, e, q⟩ => ⟨t, e, k _ _ q⟩) h
theorem cellsT_at {xs : List V} {cs : List Cell} (h : CellsT H xs cs) : CellsAt K H xs cs := Paired.mono (fun _ _ ⟨t, e, q⟩ => ⟨t, e, SqT.of q⟩) h
end
def PlanT (K : PySem.W.Frag) (H : Hp) (a : Addr) (cs : List Cell) : Prop := ∃ xs, SqT K H a xs ∧ CellsT H xs cs
theorem PlanT.at {K : PySem.W.Frag} {H : Hp} {a : Addr} {cs : List Cell} (h : PlanT K H a cs) : PlanAt K H a cs := by
  obtain ⟨xs, h1, h2⟩ := h
  exact ⟨xs, h1, cellsT_at h2⟩
theorem PlanT.same {K : PySem.W.Frag} {H H' : Hp} {a : Addr} {cs : List Cell} (h : PlanT K H a cs) (s : Same H H') : PlanT K H' a cs := by
  obtain ⟨xs, h1, h2⟩ := h
  exact ⟨xs, same_seqT s h1, cellsT_kt (.of_same s) h2⟩
theorem PlanT.keepX {K : PySem.W.Frag} {H H' : Hp} {a p : Addr} {cs : List Cell} (h : PlanT K H a cs) (hp : PoolO (H p)) (s : KeepX p H H') : PlanT K H' a cs := by
  obtain ⟨xs, h1, h2⟩ := h
  exact ⟨xs, keepX_seqT hp s h1, cellsT_kt (.of_keepX hp s) h2⟩
def spPlanT (K : PySem.W.Frag) : Sp := fun vs H Q _ => ∃ (p : Addr) (m : Int), vs = [.ref p, .int m] ∧ PoolO (H p) ∧ 1 ≤ m ∧ m ≤ 24 ∧
  ∀ H' a cs, KeepX p H H' → PoolO (H' p) → PlanT K H' a cs → Good cs → (cs.length : Int) ≤ m → H a = none → Q (.ref a) H'
/-- where _law_plan stands behind its first loop -/
structure PlStT (K : PySem.W.Frag) (p : Addr) (H : Hp) (m mode wide high top left : Int) (σ : L2.St) (H' : Hp) : Prop where
  ex : ∃ (e : Addr) (xs : List V) (cs : List Cell) (y8 y9 y10 : Option V),
    σ = [some (.ref p), some (.int m), some (.int mode), some (.int wide), some (.int high), some (.int top), some (.int left), some (.ref e), y8, y9, y10, none, none] ∧
    H e = none ∧ e ≠ p ∧ H' e = some (.lst xs) ∧ CellsT H' xs cs ∧ Good cs ∧ cs.length ≤ 64
  kx : KeepX p H H'
  po : PoolO (H' p)
theorem filT_ok {K : PySem.W.Frag} {p : Addr} {H : Hp} {m mode wide high top left : Int} {tc : TT} {D : Ends} {σ : L2.St} {H' : Hp} (h : PlStT K p H m mode wide high top left σ H')
    (htc : ∀ (t : Addr) (c : Cell) (H2 : Hp) (R : Bool → Hp → Prop), SqT K H2 t [.int c.1, .int c.2] → PoolO (H2 p) → (∀ b H3, KeepX p H2 H3 → PoolO (H3 p) → R b H3) → tc (σ.set 12 (some (.ref t))) H2 R)
    (k : ∀ σ' H'', PlStT K p H m mode wide high top left σ' H'' → D.nx σ' H'') : tFil K tc D σ H' := by
  obtain ⟨⟨e, xs, cs, y8, y9, y10, rfl, he0, hep, he, hc, gd, hl⟩, kx, po⟩ := h
  have hlen := Paired.length hc
  refine ⟨_, rfl, e, rfl, ⟨_, SqL.of he⟩, fun d nd => ?_⟩
  have ned : e ≠ d := ne_of_none he nd
  have npd : p ≠ d := po.ne nd
  refine lc_list (K := K) (a := e) (xs := xs) (fun i H2 => ∃ (acc : List V) (cs' : List Cell), H2 d = some (.lst acc) ∧ CellsT H2 acc cs' ∧ cs'.Sublist (cs.take i) ∧
    KeepX p H H2 ∧ PoolO (H2 p) ∧ H2 e = some (.lst xs) ∧ CellsT H2 xs cs) ?_ ?_ ?_ ?_
  · have s1 := same_new (o := .lst []) nd
    refine ⟨[], [], upd_same, .nil, List.nil_sublist _, kx.trans (.of_same s1), po.same s1, s1 _ _ he, cellsT_kt (.of_same s1) hc⟩
  · rintro i H2 _ ⟨acc, cs', _, _, _, _, _, h6, _⟩
    exact SqL.of h6
  · rintro i x H2 hi ⟨acc, cs', h1, h2, h3, h4, h5, h6, h7⟩
    obtain ⟨c, hci, t, rfl, ht⟩ := paired_get h7 hi
    have hlt : i < cs.length := (List.getElem?_eq_some_iff.mp hci).1
    have tk : cs.take (i + 1) = cs.take i ++ [c] := by
      rw [List.take_add_one, hci]
      rfl
    refine ⟨rfl, htc t c H2 _ (SqT.of ht) h5 (fun b H3 k3 p3 => ?_)⟩
    have q3 : KTt H2 H3 := KTt.of_keepX h5 k3
    have hd3 : H3 d = some (.lst acc) := k3 _ _ (Ne.symm npd) h1
    have he3 : H3 e = some (.lst xs) := k3 _ _ hep h6
    have hal : acc.length ≤ 64 := by
      rw [Paired.length h2]
      exact Nat.le_trans h3.length_le (by rw [List.length_take]; omega)
    refine ite2 (fun _ => ?_) (fun _ => ?_)
    · refine ⟨_, rfl, acc, hd3, small64 hal, acc ++ [.ref t], cs' ++ [c], upd_same, ?_, ?_, ?_, ?_, ?_, ?_⟩
      · exact cellsT_kt (q3.trans (KTt.upd hd3)) (paired_append h2 (.cons ⟨t, rfl, ht⟩ .nil))
      · rw [tk]
        exact List.Sublist.append h3 (List.Sublist.refl _)
      · intro b o n e2
        rw [upd_ne (fun z => by
          subst z
          have q := kx b o n e2
          rw [nd] at q
          cases q)]
        exact k3 _ _ n (h4 _ _ n e2)
      · rw [upd_ne npd]
        exact p3
      · rw [upd_ne ned]
        exact he3
      · exact cellsT_kt (q3.trans (KTt.upd hd3)) h7
    · refine ⟨acc, cs', hd3, cellsT_kt q3 h2, ?_, h4.trans k3, p3, he3, cellsT_kt q3 h7⟩
      rw [tk]
      exact List.Sublist.trans h3 (List.sublist_append_left _ _)
  · rintro H2 ⟨acc, cs', h1, h2, h3, h4, h5, h6, h7⟩
    have h3' : cs'.Sublist cs := List.Sublist.trans h3 (List.take_sublist _ _)
    refine ⟨!acc.isEmpty, .inl ⟨acc, SqL.of h1, rfl⟩, ite2 (fun e1 => ?_) (fun e1 => ?_)⟩
    · refine k _ _ ⟨⟨d, acc, cs', y8, y9, y10, rfl, ?_, Ne.symm npd, h1, h2, ⟨gd.asc.sublist h3', fun c hc => gd.grid c (h3'.subset hc), ?_⟩, Nat.le_trans h3'.length_le hl⟩, h4, h5⟩
      · cases q : H d with
        | none => rfl
        | some o =>
          have z := kx d o (Ne.symm npd) q
          rw [nd] at z
          cases z
      · intro z
        subst z
        cases h2
        cases e1
    · exact ⟨_, rfl, k _ _ ⟨⟨e, xs, cs, y8, y9, y10, rfl, he0, hep, h6, h7, gd, hl⟩, h4, h5⟩⟩
end KS
namespace KS
open PySem PySem.Spec PyProof.Rows L2
/-- if mode == n: every = [spot for spot in every if ..] or every -/
theorem filT_if {K : PySem.W.Frag} {p : Addr} {H : Hp} {m mode wide high top left n : Int} {tc : TT} {D : Ends} {σ : L2.St} {H' : Hp} (h : PlStT K p H m mode wide high top left σ H')
    (htc : ∀ (t : Addr) (c : Cell) (H2 : Hp) (R : Bool → Hp → Prop), SqT K H2 t [.int c.1, .int c.2] → PoolO (H2 p) → (∀ b H3, KeepX p H2 H3 → PoolO (H3 p) → R b H3) → tc (σ.set 12 (some (.ref t))) H2 R)
    (k : ∀ σ' H'', PlStT K p H m mode wide high top left σ' H'' → D.nx σ' H'') : tIfS (tTest (tOp rEq (tVar 2) (tC (.int n)))) (tFil K tc) tNext D σ H' := by
  obtain ⟨e, xs, cs, y8, y9, y10, es, rest⟩ := h.ex
  refine ⟨.int mode, by rw [es]; rfl, rfl, _, rfl, ite2 (fun e => ?_) (fun e => ?_)⟩
  · exact filT_ok h htc k
  · exact k _ _ h
theorem drawT_test {K : PySem.W.Frag} {p : Addr} {H : Hp} {m mode wide high top left n : Int} {σ : L2.St} {H' : Hp} (h : PlStT K p H m mode wide high top left σ H') (n0 : 0 < n) (n1 : n < 1073741824)
    (t : Addr) (c : Cell) (H2 : Hp) (R : Bool → Hp → Prop) (ht : SqT K H2 t [.int c.1, .int c.2]) (po : PoolO (H2 p)) (k : ∀ b H3, KeepX p H2 H3 → PoolO (H3 p) → R b H3) :
    tTest (tOp (rI0 fun i j => .bl (decide (i > j))) (tDr (tC (.int n))) (tC (.int 0))) (σ.set 12 (some (.ref t))) H2 R := by
  obtain ⟨e, xs, cs, y8, y9, y10, es, rest⟩ := h.ex
  subst es
  exact ⟨_, rfl, p, n, rfl, po, n0, n1, fun H3 r k3 po3 r0 r1 => ⟨_, _, rfl, rfl, _, rfl, k _ _ k3 po3⟩⟩
end KS
namespace KS
open PySem PySem.Spec PyProof.Rows L2
theorem filT3_if {K : PySem.W.Frag} {p : Addr} {H : Hp} {m mode wide high top left : Int} {D : Ends} {σ : L2.St} {H' : Hp} (h : PlStT K p H m mode wide high top left σ H')
    (k : ∀ σ' H'', PlStT K p H m mode wide high top left σ' H'' → D.nx σ' H'') :
    tIfS (tTest (tOp rEq (tVar 2) (tC (.int 3)))) (tSeq (tAsg (tOp rAdd (tOp rAdd (tVar 5) (tVar 6)) (tDr (tC (.int 4)))) (gName 9))
      (tSeq (tAsg (tOp rSub (tOp rSub (tOp rAdd (tOp rAdd (tOp rAdd (tVar 5) (tVar 6)) (tVar 4)) (tVar 3)) (tC (.int 2))) (tDr (tC (.int 4)))) (gName 10))
      (tFil K (tTest (tChain rLe rLe (tVar 9) (tCB (rSumT K) (tCons (tVar 12) tNil)) (tVar 10)))))) tNext D σ H' := by
  obtain ⟨⟨e, xs, cs, y8, y9, y10, rfl, he0, hep, he, hc, gd, hl⟩, kx, po⟩ := id h
  refine ⟨_, rfl, rfl, _, rfl, ite2 (fun e => ?_) (fun e => ?_)⟩
  · refine ⟨_, rfl, _, rfl, _, _, rfl, rfl, _, rfl, p, 4, rfl, po, by decide, by decide, fun H1 a k1 po1 _ _ => ⟨_, _, rfl, rfl, ?_⟩⟩
    refine ⟨_, rfl, _, rfl, _, _, rfl, rfl, _, rfl, _, _, rfl, rfl, _, rfl, _, _, rfl, rfl, _, _, rfl, rfl, _, rfl, p, 4, rfl, po1, by decide, by decide, fun H2 b k2 po2 _ _ => ⟨_, _, rfl, rfl, ?_⟩⟩
    have k12 := k1.trans k2
    refine filT_ok (p := p) (H := H) (m := m) (mode := mode) (wide := wide) (high := high) (top := top) (left := left)
      ⟨⟨_, xs, cs, y8, _, _, rfl, he0, hep, k12 _ _ hep he, cellsT_kt (KTt.of_keepX po k12) hc, gd, hl⟩, kx.trans k12, po2⟩ (fun t c H3 R ht p3 kk => ?_) k
    refine ⟨_, rfl, _, rfl, t, [c.1, c.2], rfl, ht, _, _, rfl, rfl, _, rfl, ite2 (fun e1 => ?_) (fun e1 => ?_)⟩
    · exact ⟨_, rfl, _, _, rfl, rfl, _, rfl, kk _ _ (KeepX.refl _ _) p3⟩
    · exact ⟨_, rfl, kk _ _ (KeepX.refl _ _) p3⟩
  · exact k _ _ h
end KS
namespace KS
open PySem PySem.Spec PyProof.Rows L2
/-! ### programs: words, and repeats of steps -/
inductive Stp
  | w (l : List Bool)
  | r (n : Int) (b : List Stp)
mutual
def Stp.steps : Stp → Nat
  | .w _ => 1
  | .r _ b => 1 + stepsL b
def stepsL : List Stp → Nat
  | [] => 0
  | s :: b => s.steps + stepsL b
end
mutual
def Stp.nest : Stp → Nat
  | .w _ => 0
  | .r _ b => 1 + nestL b
def nestL : List Stp → Nat
  | [] => 0
  | s :: b => max s.nest (nestL b)
end
mutual
def Stp.ok : Stp → Prop
  | .w l => l ≠ [] ∧ l.length ≤ 400
  | .r n b => 1 ≤ n ∧ n ≤ 10 ^ 30 ∧ okL b
def okL : List Stp → Prop
  | [] => True
  | s :: b => s.ok ∧ okL b
end
mutual
def Stp.cnt (k : Bool) : Stp → Int
  | .w l => ((l.countP fun b => b == k : Nat) : Int)
  | .r n b => n * cntL k b
def cntL (k : Bool) : List Stp → Int
  | [] => 0
  | s :: b => s.cnt k + cntL k b
end
theorem stepsL_app : ∀ a b : List Stp, stepsL (a ++ b) = stepsL a + stepsL b
  | [], b => by rw [List.nil_append]; simp only [stepsL]; omega
  | s :: a, b => by
    rw [List.cons_append]
    simp only [stepsL]
    rw [stepsL_app a b]
    omega
theorem nestL_app : ∀ a b : List Stp, nestL (a ++ b) = max (nestL a) (nestL b)
  | [], b => by rw [List.nil_append]; simp only [nestL]; omega
  | s :: a, b => by
    rw [List.cons_append]
    simp only [nestL]
    rw [nestL_app a b]
    omega
theorem okL_app : ∀ {a b : List Stp}, okL (a ++ b) ↔ okL a ∧ okL b
  | [], b => by rw [List.nil_append]; simp only [okL]; exact ⟨fun h => ⟨trivial, h⟩, fun h => h.2⟩
  | s :: a, b => by
    rw [List.cons_append]
    simp only [okL]
    rw [okL_app (a := a)]
    exact ⟨fun ⟨x, y, z⟩ => ⟨⟨x, y⟩, z⟩, fun ⟨⟨x, y⟩, z⟩ => ⟨x, y, z⟩⟩
theorem cntL_app (k : Bool) : ∀ a b : List Stp, cntL k (a ++ b) = cntL k a + cntL k b
  | [], b => by rw [List.nil_append]; simp only [cntL]; omega
  | s :: a, b => by
    rw [List.cons_append]
    simp only [cntL]
    rw [cntL_app k a b]
    omega
theorem nest_mem : ∀ {b : List Stp} {s : Stp}, s ∈ b → s.nest ≤ nestL b
  | [], _, h => by cases h
  | x :: b, s, h => by
    simp only [nestL]
    rcases List.mem_cons.mp h with e | h
    · subst e
      omega
    · have := nest_mem h
      omega
theorem ok_mem : ∀ {b : List Stp} {s : Stp}, okL b → s ∈ b → s.ok
  | [], _, _, h => by cases h
  | x :: b, s, o, h => by
    simp only [okL] at o
    rcases List.mem_cons.mp h with e | h
    · subst e
      exact o.1
    · exact ok_mem o.2 h
theorem steps_pos (s : Stp) : 1 ≤ s.steps := by
  cases s with
  | w => simp only [Stp.steps]; omega
  | r => simp only [Stp.steps]; omega
/-! ### the counts are not too large -/
mutual
theorem cnt_bd (k : Bool) : ∀ s : Stp, s.ok → 0 ≤ s.cnt k ∧ s.cnt k ≤ 400 * (s.steps : Nat) * (10 ^ 30) ^ s.nest
  | .w l, h => by
    simp only [Stp.ok] at h
    simp only [Stp.cnt, Stp.steps, Stp.nest]
    have := List.countP_le_length (p := fun b => b == k) (l := l)
    have e : ((10 : Int) ^ 30) ^ 0 = 1 := rfl
    rw [e]
    omega
  | .r n b, h => by
    simp only [Stp.ok] at h
    obtain ⟨h1, h2, h3⟩ := h
    obtain ⟨a1, a2⟩ := cntL_bd k b h3
    simp only [Stp.cnt, Stp.steps, Stp.nest]
    constructor
    · exact Int.mul_nonneg (by omega) a1
    · have e : ((10 : Int) ^ 30) ^ (1 + nestL b) = (10 ^ 30) * (10 ^ 30) ^ nestL b := by rw [Nat.add_comm, Int.pow_succ, Int.mul_comm]
      have m1 : n * cntL k b ≤ (10 ^ 30) * (400 * (stepsL b : Nat) * (10 ^ 30) ^ nestL b) := Int.mul_le_mul h2 a2 a1 (by omega)
      have p0 : (0 : Int) ≤ (10 ^ 30) ^ nestL b := Int.pow_nonneg (by omega)
      have e2 : (10 ^ 30 : Int) * (400 * (stepsL b : Nat) * (10 ^ 30) ^ nestL b) = 400 * (stepsL b : Nat) * ((10 ^ 30) * (10 ^ 30) ^ nestL b) := Int.mul_left_comm _ _ _
      have m2 : (400 : Int) * (stepsL b : Nat) * ((10 ^ 30) * (10 ^ 30) ^ nestL b) ≤ 400 * ((1 + stepsL b : Nat) : Int) * ((10 ^ 30) * (10 ^ 30) ^ nestL b) := Int.mul_le_mul_of_nonneg_right (by omega) (Int.mul_nonneg (by omega) p0)
      rw [e]
      rw [e2] at m1
      exact Int.le_trans m1 m2
theorem cntL_bd (k : Bool) : ∀ b : List Stp, okL b → 0 ≤ cntL k b ∧ cntL k b ≤ 400 * (stepsL b : Nat) * (10 ^ 30) ^ nestL b
  | [], _ => by
    simp only [cntL, stepsL, nestL]
    omega
  | s :: b, h => by
    simp only [okL] at h
    obtain ⟨a1, a2⟩ := cnt_bd k s h.1
    obtain ⟨b1, b2⟩ := cntL_bd k b h.2
    simp only [cntL, stepsL, nestL]
    refine ⟨by omega, ?_⟩
    have ms : ((10 : Int) ^ 30) ^ s.nest ≤ (10 ^ 30) ^ (max s.nest (nestL b)) := by
      have : ((10 ^ 30 : Nat)) ^ s.nest ≤ (10 ^ 30) ^ (max s.nest (nestL b)) := Nat.pow_le_pow_right (by decide) (by omega)
      exact_mod_cast this
    have mb : ((10 : Int) ^ 30) ^ nestL b ≤ (10 ^ 30) ^ (max s.nest (nestL b)) := by
      have : ((10 ^ 30 : Nat)) ^ nestL b ≤ (10 ^ 30) ^ (max s.nest (nestL b)) := Nat.pow_le_pow_right (by decide) (by omega)
      exact_mod_cast this
    have c1 : (400 : Int) * (s.steps : Nat) * (10 ^ 30) ^ s.nest ≤ 400 * (s.steps : Nat) * (10 ^ 30) ^ (max s.nest (nestL b)) := Int.mul_le_mul_of_nonneg_left ms (by omega)
    have c2 : (400 : Int) * (stepsL b : Nat) * (10 ^ 30) ^ nestL b ≤ 400 * (stepsL b : Nat) * (10 ^ 30) ^ (max s.nest (nestL b)) := Int.mul_le_mul_of_nonneg_left mb (by omega)
    have e : (400 : Int) * ((s.steps + stepsL b : Nat) : Int) * (10 ^ 30) ^ (max s.nest (nestL b)) = 400 * (s.steps : Nat) * (10 ^ 30) ^ (max s.nest (nestL b)) + 400 * (stepsL b : Nat) * (10 ^ 30) ^ (max s.nest (nestL b)) := by
      rw [← Int.add_mul]
      congr 1
      omega
    rw [e]
    omega
end
theorem cntL_big {k : Bool} {b : List Stp} (h : okL b) (hs : stepsL b ≤ 200) (hn : nestL b ≤ 5) : 0 ≤ cntL k b ∧ cntL k b < 10 ^ 160 := by
  obtain ⟨a1, a2⟩ := cntL_bd k b h
  refine ⟨a1, ?_⟩
  have p : ((10 : Int) ^ 30) ^ nestL b ≤ (10 ^ 30) ^ 5 := by
    have : ((10 ^ 30 : Nat)) ^ nestL b ≤ (10 ^ 30) ^ 5 := Nat.pow_le_pow_right (by decide) hn
    exact_mod_cast this
  have p0 : (0 : Int) ≤ (10 ^ 30) ^ nestL b := Int.pow_nonneg (by omega)
  have m : (400 : Int) * (stepsL b : Nat) * (10 ^ 30) ^ nestL b ≤ 80000 * (10 ^ 30) ^ 5 := Int.mul_le_mul (by omega) p p0 (by omega)
  have e : (80000 : Int) * (10 ^ 30) ^ 5 < 10 ^ 160 := by decide +kernel
  omega
/-! ### multiplied, however large -/
def CBig (i j : Int) : Prop := 0 ≤ i ∧ i < 10 ^ 170 ∧ 0 ≤ j ∧ j < 10 ^ 170
theorem bits_big {i : Int} (h0 : 0 ≤ i) (h1 : i < 10 ^ 170) : Builtin.Int.intBits i ≤ 2 ^ 20 := by
  refine intBits_le_iff.mpr ?_
  have e : (10 : Nat) ^ 170 < 2 ^ 600 := by decide +kernel
  have e2 : (2 : Nat) ^ 600 ≤ 2 ^ (2 ^ 20) := Nat.pow_le_pow_right (by decide) (by decide)
  have : i.natAbs < 10 ^ 170 := by
    obtain ⟨n, rfl⟩ := Int.eq_ofNat_of_zero_le h0
    rw [Int.natAbs_natCast]
    exact_mod_cast h1
  omega
theorem op_mulB {X : Cx} : OpR X (binaryOp .Mult) (rI CBig fun i j => .int (i * j)) := opI fun _ _ _ _ _ _ _ hc q => mul_int q (IntMulOk.of_bits (bits_big hc.1 hc.2.1) (bits_big hc.2.2.1 hc.2.2.2))
end KS
namespace KS
open PySem PySem.Spec PyProof.Rows L2
/-! ### programs as they lie there -/
mutual
inductive StA (K : PySem.W.Frag) (H : Hp) : V → Stp → Prop
  | w (l : List Bool) : StA K H (.str (wS l)) (.w l)
  | r {t b : Addr} {n : Int} {xs : List V} {ss : List Stp} : SqT K H t [.str "repeat", .int n, .ref b] → SqT K H b xs → StsA K H xs ss → StA K H (.ref t) (.r n ss)
inductive StsA (K : PySem.W.Frag) (H : Hp) : List V → List Stp → Prop
  | nil : StsA K H [] []
  | cons {v : V} {s : Stp} {vs : List V} {ss : List Stp} : StA K H v s → StsA K H vs ss → StsA K H (v :: vs) (s :: ss)
end
mutual
theorem StA.kt {K : PySem.W.Frag} {H H' : Hp} (k : KT K H H') : ∀ {v : V} {s : Stp}, StA K H v s → StA K H' v s
  | _, _, .w l => .w l
  | _, _, .r h1 h2 h3 => .r (k _ _ h1) (k _ _ h2) (StsA.kt k h3)
theorem StsA.kt {K : PySem.W.Frag} {H H' : Hp} (k : KT K H H') : ∀ {vs : List V} {ss : List Stp}, StsA K H vs ss → StsA K H' vs ss
  | _, _, .nil => .nil
  | _, _, .cons h1 h2 => .cons (StA.kt k h1) (StsA.kt k h2)
end
theorem StsA.len {K : PySem.W.Frag} {H : Hp} : ∀ {vs : List V} {ss : List Stp}, StsA K H vs ss → vs.length = ss.length
  | _, _, .nil => rfl
  | _, _, .cons _ h => congrArg (· + 1) (StsA.len h)
theorem StsA.get {K : PySem.W.Frag} {H : Hp} : ∀ {vs : List V} {ss : List Stp}, StsA K H vs ss → ∀ {i : Nat} {v : V}, vs[i]? = some v → ∃ s, ss[i]? = some s ∧ StA K H v s
  | _, _, .nil, i, v, e => by cases e
  | _, _, .cons h1 h2, 0, v, e => by
    cases e
    exact ⟨_, rfl, h1⟩
  | _, _, .cons h1 h2, i + 1, v, e => StsA.get h2 e
theorem StsA.app {K : PySem.W.Frag} {H : Hp} : ∀ {vs ws : List V} {ss ts : List Stp}, StsA K H vs ss → StsA K H ws ts → StsA K H (vs ++ ws) (ss ++ ts)
  | _, _, _, _, .nil, h => h
  | _, _, _, _, .cons h1 h2, h => .cons h1 (StsA.app h2 h)
/-- a program: a tuple of steps -/
def PgA (K : PySem.W.Frag) (H : Hp) (t : Addr) (ss : List Stp) : Prop := ∃ xs, SqT K H t xs ∧ StsA K H xs ss
theorem PgA.kt {K : PySem.W.Frag} {H H' : Hp} (k : KT K H H') {t : Addr} {ss : List Stp} (h : PgA K H t ss) : PgA K H' t ss := by
  obtain ⟨xs, h1, h2⟩ := h
  exact ⟨xs, k _ _ h1, h2.kt k⟩
theorem stepsL_take {ss : List Stp} {i : Nat} {s : Stp} (h : ss[i]? = some s) : stepsL (ss.take (i + 1)) = stepsL (ss.take i) + s.steps ∧ stepsL (ss.take i) + s.steps ≤ stepsL ss := by
  have e : stepsL (ss.take (i + 1)) = stepsL (ss.take i) + s.steps := by
    rw [List.take_add_one, h, stepsL_app]
    show _ + stepsL [s] = _
    simp only [stepsL]
    omega
  refine ⟨e, ?_⟩
  rw [← e]
  have := stepsL_app (ss.take (i + 1)) (ss.drop (i + 1))
  rw [List.take_append_drop] at this
  omega
theorem cntL_take {k : Bool} {ss : List Stp} {i : Nat} {s : Stp} (h : ss[i]? = some s) : cntL k (ss.take (i + 1)) = cntL k (ss.take i) + s.cnt k := by
  rw [List.take_add_one, h, cntL_app]
  show _ + cntL k [s] = _
  simp only [cntL]
  omega
/-! ### letters counted -/
theorem cnt_ltr (k : Bool) : ∀ l : List Bool, PyProof.Rows.cnt (ltr k) (l.map ltr) = ((l.countP fun b => b == k : Nat) : Int)
  | [] => cnt_nil _
  | b :: l => by
    rw [List.map_cons, cnt_cons, cnt_ltr k l, List.countP_cons]
    cases k <;> cases b <;> simp [ltr] <;> omega
theorem count_wS (k : Bool) (l : List Bool) : Txt.count (wS l) ⟨#[ltr k]⟩ = ((l.countP fun b => b == k : Nat) : Int) := by
  rw [count_cnt]
  exact cnt_ltr k l
theorem wS_ne {l : List Bool} (h : l ≠ []) : V.bl (!decide (V.str (wS l) = V.str "")) = V.bl true := by
  have : V.str (wS l) ≠ V.str "" := fun e => by
    have e := V.str.inj e
    have e2 := wS_len l
    rw [e] at e2
    have e0 : ("" : Str).length = 0 := by decide +kernel
    rw [e0] at e2
    exact h (List.length_eq_zero_iff.mp e2.symm)
  rw [decide_eq_false this]
  rfl
/-! ### the promises -/
def spIsWordG : Sp := fun xs H Q _ => ∃ l : List Bool, xs = [.str (wS l)] ∧ l.length ≤ 400 ∧ ∀ H', Same H H' → Q (.bl true) H'
def spIsRep (K : PySem.W.Frag) : Sp := fun xs H Q _ => ∃ (t b : Addr) (n : Int) (ys : List V), xs = [.ref t] ∧ SqT K H t [.str "repeat", .int n, .ref b] ∧ SqT K H b ys ∧ 1 ≤ n ∧ n ≤ 10 ^ 30 ∧ Q (.bl true) H
def spCS (K : PySem.W.Frag) (m : Nat) : Sp := fun xs H Q _ => ∃ (v : V) (s : Stp) (d room : Int), xs = [v, .int d, .int room] ∧ StA K H v s ∧ s.ok ∧ s.nest ≤ m ∧ 1 ≤ d ∧ d + (s.nest : Nat) ≤ 5 ∧ (s.steps : Nat) ≤ room ∧ ∀ H', Same H H' → Q (.int (s.steps : Nat)) H'
def spCP (K : PySem.W.Frag) : Sp := fun xs H Q _ => ∃ (t : Addr) (ss : List Stp), xs = [.ref t] ∧ PgA K H t ss ∧ okL ss ∧ nestL ss ≤ 4 ∧ stepsL ss ≤ 60 ∧ ∀ H', Same H H' → Q .non H'
def spSrt (K : PySem.W.Frag) (m : Nat) : Sp := fun xs H Q _ => ∃ (t : Addr) (ss : List Stp), xs = [.ref t] ∧ PgA K H t ss ∧ okL ss ∧ nestL ss ≤ m ∧ nestL ss ≤ 4 ∧ stepsL ss ≤ 60 ∧ ∀ H' u, Same H H' → H' u = some (.tup [.int (cntL false ss), .int (cntL true ss)]) → Q (.ref u) H'
def spOps (K : PySem.W.Frag) : Sp := fun xs H Q _ => ∃ (t : Addr) (ss : List Stp), xs = [.ref t] ∧ PgA K H t ss ∧ okL ss ∧ nestL ss ≤ 4 ∧ stepsL ss ≤ 60 ∧ ∀ H' u, Same H H' → H' u = some (.tup [.int (cntL false ss), .int (cntL true ss)]) → Q (.ref u) H'
end KS
namespace KS
open PySem PySem.Spec PyProof.Rows L2 TL
/-! ### the written words of a program -/
inductive Tk
  | op
  | cl (n : Int)
  | wd (l : List Bool)
def nmS (n : Int) : Str := Str.ofString (toString n)
def Tk.str : Tk → Str
  | .op => "("
  | .cl n => (")x" : Str) ++ nmS n
  | .wd l => wS l
mutual
def Stp.tks : Stp → List Tk
  | .w l => [.wd l]
  | .r n b => .op :: (tksL b ++ [.cl n])
def tksL : List Stp → List Tk
  | [] => []
  | s :: b => s.tks ++ tksL b
end
theorem tksL_app : ∀ a b : List Stp, tksL (a ++ b) = tksL a ++ tksL b
  | [], b => by rw [List.nil_append]; simp only [tksL]; rw [List.nil_append]
  | s :: a, b => by
    rw [List.cons_append]
    simp only [tksL]
    rw [tksL_app a b, List.append_assoc]
theorem tks_ne (s : Stp) : s.tks ≠ [] := by
  cases s with
  | w l => simp only [Stp.tks]; exact List.cons_ne_nil _ _
  | r n b => simp only [Stp.tks]; exact List.cons_ne_nil _ _
theorem tksL_flat : ∀ b : List Stp, (b.map Stp.tks).flatten = tksL b
  | [] => by simp only [tksL]; rfl
  | s :: b => by
    rw [List.map_cons, List.flatten_cons, tksL_flat b]
    simp only [tksL]
/-! ### joined by blanks -/
def jn (L : List Str) : Str := Txt.join (" " : Str) L
theorem tl_sp : tl (" " : Str) = [32] := by decide +kernel
theorem tl_jn (L : List Str) : tl (jn L) = joinL [32] (L.map tl) := by
  unfold jn
  rw [join_eq, tl_join, tl_sp]
theorem joinL_app (S : List Nat) : ∀ (a b : List (List Nat)), a ≠ [] → b ≠ [] → joinL S (a ++ b) = joinL S a ++ (S ++ joinL S b)
  | [], b, h, _ => absurd rfl h
  | [p], [], _, h => absurd rfl h
  | [p], q :: r, _, _ => rfl
  | p :: q :: r, b, _, h => by
    have ih := joinL_app S (q :: r) b (List.cons_ne_nil _ _) h
    show joinL S (p :: q :: (r ++ b)) = _
    show p ++ (S ++ joinL S (q :: (r ++ b))) = (p ++ (S ++ joinL S (q :: r))) ++ (S ++ joinL S b)
    have e : joinL S (q :: (r ++ b)) = joinL S (q :: r ++ b) := rfl
    rw [e, ih, List.append_assoc, List.append_assoc]
theorem joinL_flat (S : List Nat) : ∀ L : List (List (List Nat)), (∀ l ∈ L, l ≠ []) → joinL S (L.map (joinL S)) = joinL S L.flatten
  | [], _ => rfl
  | [l], _ => by
    rw [List.map_cons, List.map_nil, List.flatten_cons, List.flatten_nil, List.append_nil]
    rfl
  | l :: m :: r, h => by
    have ih := joinL_flat S (m :: r) (fun x hx => h x (List.mem_cons_of_mem _ hx))
    have hm : m ≠ [] := h m (List.mem_cons_of_mem _ (List.mem_cons_self ..))
    have ne : (m :: r).flatten ≠ [] := by
      rw [List.flatten_cons]
      intro z
      exact hm (List.append_eq_nil_iff.mp z).1
    rw [List.flatten_cons, joinL_app S l _ (h l (List.mem_cons_self ..)) ne, ← ih]
    rfl
theorem jn_flat (L : List (List Str)) (h : ∀ l ∈ L, l ≠ []) : jn (L.map jn) = jn L.flatten := by
  refine ext_tl ?_
  rw [tl_jn, tl_jn, List.map_map]
  have e : (L.map (tl ∘ jn)) = (L.map (fun l => l.map tl)).map (joinL [32]) := by
    rw [List.map_map]
    refine List.map_congr_left fun l _ => ?_
    exact tl_jn l
  rw [e, joinL_flat [32] _ (fun l hl => ?_), List.map_flatten]
  obtain ⟨z, hz, rfl⟩ := List.mem_map.mp hl
  exact fun q => h z hz (List.map_eq_nil_iff.mp q)
theorem jn_one (x : Str) : jn [x] = x := by
  refine ext_tl ?_
  rw [tl_jn]
  rfl
theorem jn_nil : jn [] = "" := by
  refine ext_tl ?_
  rw [tl_jn]
  decide +kernel
/-! ### sizes -/
def wtS (L : List Str) : Nat := (L.map (·.length)).sum + L.length
theorem wtS_app (a b : List Str) : wtS (a ++ b) = wtS a + wtS b := by
  unfold wtS
  rw [List.map_append, List.sum_append, List.length_append]
  omega
theorem wtS_cons (a : Str) (b : List Str) : wtS (a :: b) = a.length + 1 + wtS b := by
  unfold wtS
  rw [List.map_cons, List.sum_cons, List.length_cons]
  omega
theorem wtS_nil : wtS [] = 0 := rfl
theorem joinL_len : ∀ L : List (List Nat), (joinL [32] L).length ≤ (L.map List.length).sum + L.length
  | [] => Nat.le_refl _
  | [p] => by
    show p.length ≤ _
    rw [List.map_cons, List.sum_cons]
    omega
  | p :: q :: r => by
    have ih := joinL_len (q :: r)
    show (p ++ ([32] ++ joinL [32] (q :: r))).length ≤ _
    rw [List.length_append, List.length_append, List.map_cons, List.sum_cons, List.length_cons (a := p)]
    show p.length + (1 + (joinL [32] (q :: r)).length) ≤ _
    omega
theorem jn_len (L : List Str) : (jn L).length ≤ wtS L := by
  have := joinL_len (L.map tl)
  rw [len_tl, tl_jn]
  unfold wtS
  rw [List.map_map, List.length_map] at this
  have e : L.map (List.length ∘ tl) = L.map (·.length) := List.map_congr_left fun x _ => (len_tl x).symm
  rw [e] at this
  exact this
theorem nm_tl {n : Int} (h : 0 ≤ n) : tl (nmS n) = numL n.toNat := by
  obtain ⟨k, rfl⟩ := Int.eq_ofNat_of_zero_le h
  unfold nmS
  rw [tl_num, Int.toNat_natCast]
theorem nm_len {n : Int} (h : 0 ≤ n) (h2 : n ≤ 10 ^ 30) : (nmS n).length ≤ 31 := by
  rw [len_tl, nm_tl h]
  refine numL_len (by decide) ?_
  have : n.toNat ≤ 10 ^ 30 := by
    obtain ⟨k, rfl⟩ := Int.eq_ofNat_of_zero_le h
    rw [Int.toNat_natCast]
    exact_mod_cast h2
  have e : (10 : Nat) ^ 30 < 10 ^ 31 := by decide +kernel
  omega
theorem op_len : Tk.op.str.length = 1 := by decide +kernel
theorem cx_tl : tl (")x" : Str) = [41, 120] := by decide +kernel
theorem cl_tl {n : Int} (h : 0 ≤ n) : tl (Tk.cl n).str = 41 :: 120 :: numL n.toNat := by
  show tl ((")x" : Str) ++ nmS n) = _
  rw [tl_append, cx_tl, nm_tl h]
  rfl
theorem cl_len {n : Int} (h : 0 ≤ n) (h2 : n ≤ 10 ^ 30) : (Tk.cl n).str.length ≤ 33 := by
  rw [len_tl, cl_tl h]
  have := nm_len h h2
  rw [len_tl, nm_tl h] at this
  show (numL n.toNat).length + 1 + 1 ≤ 33
  omega
abbrev tkS (L : List Tk) : List Str := L.map Tk.str
mutual
theorem wt_tks : ∀ s : Stp, s.ok → wtS (tkS s.tks) ≤ 401 * s.steps
  | .w l, h => by
    simp only [Stp.ok] at h
    simp only [Stp.tks, Stp.steps]
    show wtS [wS l] ≤ _
    rw [wtS_cons, wtS_nil, wS_len]
    omega
  | .r n b, h => by
    simp only [Stp.ok] at h
    simp only [Stp.tks, Stp.steps]
    have ih := wt_tksL b h.2.2
    show wtS (Tk.op.str :: tkS (tksL b ++ [.cl n])) ≤ _
    have e : tkS (tksL b ++ [.cl n]) = tkS (tksL b) ++ [(Tk.cl n).str] := List.map_append
    rw [wtS_cons, e, wtS_app, wtS_cons, wtS_nil, op_len]
    have := cl_len (show 0 ≤ n by omega) h.2.1
    omega
theorem wt_tksL : ∀ b : List Stp, okL b → wtS (tkS (tksL b)) ≤ 401 * stepsL b
  | [], _ => by
    simp only [tksL, stepsL]
    exact Nat.le_refl _
  | s :: b, h => by
    simp only [okL] at h
    simp only [tksL, stepsL]
    have i1 := wt_tks s h.1
    have i2 := wt_tksL b h.2
    have e : tkS (s.tks ++ tksL b) = tkS s.tks ++ tkS (tksL b) := List.map_append
    rw [e, wtS_app]
    omega
end
theorem wtS_len (L : List Str) : L.length ≤ wtS L := by
  unfold wtS
  omega
/-! ### words are free of blanks, and told apart -/
mutual
theorem tk_free : ∀ s : Stp, s.ok → ∀ p ∈ tkS s.tks, 32 ∉ tl p
  | .w l, h => by
    simp only [Stp.tks]
    intro p hp
    have : p = wS l := List.mem_singleton.mp hp
    subst this
    intro hc
    have hc' : 32 ∈ (l.map ltr).toArray.toList := hc
    rw [List.toList_toArray] at hc'
    obtain ⟨b, _, e⟩ := List.mem_map.mp hc'
    cases b <;> exact absurd e (by decide)
  | .r n b, h => by
    simp only [Stp.ok] at h
    simp only [Stp.tks]
    intro p hp
    have e : tkS (Tk.op :: (tksL b ++ [.cl n])) = Tk.op.str :: (tkS (tksL b) ++ [(Tk.cl n).str]) := by
      show Tk.op.str :: List.map Tk.str (tksL b ++ [.cl n]) = _
      rw [List.map_append]
      rfl
    rw [e] at hp
    rcases List.mem_cons.mp hp with rfl | hp
    · decide +kernel
    · rcases List.mem_append.mp hp with hp | hp
      · exact tkL_free b h.2.2 p hp
      · have : p = (Tk.cl n).str := List.mem_singleton.mp hp
        subst this
        rw [cl_tl (by omega)]
        intro z
        rcases List.mem_cons.mp z with z | z
        · exact absurd z (by decide)
        · rcases List.mem_cons.mp z with z | z
          · exact absurd z (by decide)
          · exact numL_free (.inl (by decide)) z
theorem tkL_free : ∀ b : List Stp, okL b → ∀ p ∈ tkS (tksL b), 32 ∉ tl p
  | [], _ => by
    simp only [tksL]
    intro p hp
    cases hp
  | s :: b, h => by
    simp only [okL] at h
    simp only [tksL]
    intro p hp
    have e : tkS (s.tks ++ tksL b) = tkS s.tks ++ tkS (tksL b) := List.map_append
    rw [e] at hp
    rcases List.mem_append.mp hp with hp | hp
    · exact tk_free s h.1 p hp
    · exact tkL_free b h.2 p hp
end
theorem split_jn {L : List Str} (hne : L ≠ []) (h : ∀ p ∈ L, 32 ∉ tl p) : Txt.split (jn L) " " = L := split_join tl_sp (by decide +kernel) hne h
/-! ### the reading machine -/
def mach : List (List Stp) → List Tk → Option (List (List Stp))
  | stk, [] => some stk
  | [], _ :: _ => none
  | a :: r, .wd l :: t => mach ((a ++ [.w l]) :: r) t
  | a :: r, .op :: t => mach ([] :: a :: r) t
  | [_], .cl _ :: _ => none
  | a :: b :: r, .cl n :: t => mach ((b ++ [.r n a]) :: r) t
mutual
theorem mach_tks : ∀ (s : Stp) (a : List Stp) (r : List (List Stp)) (t : List Tk), mach (a :: r) (s.tks ++ t) = mach ((a ++ [s]) :: r) t
  | .w l, a, r, t => by
    simp only [Stp.tks]
    show mach (a :: r) (.wd l :: t) = _
    rw [mach]
  | .r n b, a, r, t => by
    simp only [Stp.tks]
    show mach (a :: r) (.op :: ((tksL b ++ [.cl n]) ++ t)) = _
    rw [mach, List.append_assoc, mach_tksL b [] (a :: r), List.nil_append]
    show mach (b :: a :: r) (.cl n :: t) = _
    rw [mach]
theorem mach_tksL : ∀ (b : List Stp) (a : List Stp) (r : List (List Stp)) (t : List Tk), mach (a :: r) (tksL b ++ t) = mach ((a ++ b) :: r) t
  | [], a, r, t => by
    simp only [tksL]
    rw [List.nil_append, List.append_nil]
  | s :: b, a, r, t => by
    simp only [tksL]
    rw [List.append_assoc, mach_tks s a r, mach_tksL b (a ++ [s]) r, List.append_assoc]
    rfl
end
theorem mach_all (ss : List Stp) : mach [[]] (tksL ss) = some [ss] := by
  have := mach_tksL ss [] [] []
  rw [List.append_nil, List.nil_append] at this
  rw [this]
  rw [mach]
/-! the numbers of written repeats -/
mutual
theorem tk_cl : ∀ (s : Stp), s.ok → ∀ n, Tk.cl n ∈ s.tks → 1 ≤ n ∧ n ≤ 10 ^ 30
  | .w l, h => by
    simp only [Stp.tks]
    intro n hn
    cases List.mem_singleton.mp hn
  | .r m b, h => by
    simp only [Stp.ok] at h
    simp only [Stp.tks]
    intro n hn
    rcases List.mem_cons.mp hn with e | hn
    · cases e
    · rcases List.mem_append.mp hn with hn | hn
      · exact tkL_cl b h.2.2 n hn
      · cases List.mem_singleton.mp hn
        exact ⟨h.1, h.2.1⟩
theorem tkL_cl : ∀ (b : List Stp), okL b → ∀ n, Tk.cl n ∈ tksL b → 1 ≤ n ∧ n ≤ 10 ^ 30
  | [], _ => by
    simp only [tksL]
    intro n hn
    cases hn
  | s :: b, h => by
    simp only [okL] at h
    simp only [tksL]
    intro n hn
    rcases List.mem_append.mp hn with hn | hn
    · exact tk_cl s h.1 n hn
    · exact tkL_cl b h.2 n hn
end
theorem wd_ne_op (l : List Bool) : wS l ≠ "(" := fun e => by
  have e := congrArg tl e
  have e2 : tl ("(" : Str) = [40] := by decide +kernel
  rw [e2] at e
  have e3 : l.map ltr = [40] := by
    have : tl (wS l) = l.map ltr := List.toList_toArray
    rw [← this]
    exact e
  cases l with
  | nil => cases e3
  | cons b l =>
    rw [List.map_cons] at e3
    have := (List.cons.inj e3).1
    cases b <;> exact absurd this (by decide)
theorem cl_ne_op {n : Int} (h : 0 ≤ n) : (Tk.cl n).str ≠ "(" := fun e => by
  have e := congrArg tl e
  have e2 : tl ("(" : Str) = [40] := by decide +kernel
  rw [e2, cl_tl h] at e
  exact absurd (List.cons.inj e).1 (by decide)
theorem sw_cl {n : Int} (h : 0 ≤ n) : Txt.startswith (Tk.cl n).str ")x" = true := by
  unfold Txt.startswith
  have e1 : (")x" : Str).length = 2 := by decide +kernel
  have e2 := len_tl (Tk.cl n).str
  rw [cl_tl h] at e2
  have e3 : Builtin.Str.subAt (Tk.cl n).str ")x" 0 = true := by
    rw [StrLaws.subAt_eq, e1]
    show (List.take 2 (List.drop 0 (tl (Tk.cl n).str)) == tl (")x" : Str)) = true
    rw [cl_tl h, cx_tl]
    rfl
  rw [e3, e1, e2]
  show (decide (0 + 2 ≤ (numL n.toNat).length + 1 + 1) && true) = true
  rw [decide_eq_true (by omega)]
  rfl
theorem sw_wd (l : List Bool) : Txt.startswith (wS l) ")x" = false := by
  unfold Txt.startswith
  have e1 : (")x" : Str).length = 2 := by decide +kernel
  have e3 : Builtin.Str.subAt (wS l) ")x" 0 = false := by
    rw [StrLaws.subAt_eq, e1]
    show (List.take 2 (List.drop 0 (tl (wS l))) == tl (")x" : Str)) = false
    have : tl (wS l) = l.map ltr := List.toList_toArray
    rw [this, cx_tl, List.drop_zero]
    cases l with
    | nil => rfl
    | cons b l =>
      cases b <;> cases l <;> rfl
  rw [e3, Bool.and_false]
theorem cut_cl {n : Int} (h : 0 ≤ n) : (⟨((tl (Tk.cl n).str).drop 2).toArray⟩ : Str) = nmS n := by
  refine ext_tl ?_
  rw [tl_mk, cl_tl h, nm_tl h]
  rfl
/-! ### numbers read back -/
theorem dec_digit : ∀ c : Nat, 48 ≤ c ∧ c ≤ 57 → Unicode.isDecimal c = true := by
  intro c ⟨h1, h2⟩
  have : c = 48 ∨ c = 49 ∨ c = 50 ∨ c = 51 ∨ c = 52 ∨ c = 53 ∨ c = 54 ∨ c = 55 ∨ c = 56 ∨ c = 57 := by omega
  rcases this with e | e | e | e | e | e | e | e | e | e <;> subst e <;> decide +kernel
theorem nm_dec {n : Int} (h : 0 ≤ n) : Txt.isdecimal (nmS n) = true := by
  unfold Txt.isdecimal
  have l0 : 0 < (nmS n).length := by
    rw [len_tl, nm_tl h]
    exact List.length_pos_iff.mpr (numL_ne _)
  rw [decide_eq_true (show (nmS n).length > 0 from l0), Bool.true_and, ← Array.all_toList, List.all_eq_true]
  intro c hc
  have hc' : c ∈ tl (nmS n) := hc
  rw [nm_tl h] at hc'
  exact dec_digit c (numL_digits _ c hc')
theorem nm_int {n : Int} (h : 0 ≤ n) (hl : (nmS n).length ≤ 640) : intText? (nmS n) = some n := by
  have e : n = ((n.toNat : Nat) : Int) := (Int.toNat_of_nonneg h).symm
  have e2 := int_num (n := n.toNat) (by rw [← nm_tl h, ← len_tl]; omega)
  rw [← e] at e2
  exact e2
theorem dot_dec : Txt.isdecimal ("." : Str) = false := by
  unfold Txt.isdecimal
  decide +kernel
end KS
namespace KS
open PySem PySem.Spec PyProof.Rows L2 RZ
/-! ### dicts whose keys are tuples: {k: v for ..} -/
/-- the pair (y, z) goes into the dict at D -/
def PutT (D : Addr) (y z : V) (G : Hp) (N : Hp → Prop) : Prop := ∃ (kvs : List (List L2.Key × V)) (k : List L2.Key) (b : Addr), y = .ref b ∧ G b = some (.tup (k.map kV)) ∧ G D = some (.dT kvs) ∧ kvs.length < sizeLine ∧ N (upd G D (.dT (putK kvs k z)))
/-- one turn of such a comprehension -/
def TurnDT (J : It) (g : TG) (tt : TT) (tk tv : TE) (vs : List Nat) (σ : L2.St) (D : Addr) (i : Nat) (G : Hp) (N : Hp → Prop) : Prop :=
  ∀ x G1, J.yld i G x G1 → g x (wipe σ vs) G1 fun τ G2 => wipe τ vs = wipe σ vs ∧ tt τ G2 fun b G3 => if b = true then tk τ G3 (fun y G4 => tv τ G4 fun z G5 => PutT D y z G5 N) else N G3
def tDcT (wi : TI) (g : TG) (tt : TT) (tk tv : TE) (vs : List Nat) : TE := fun σ H Q => wi σ H fun J H1 => ∀ D, H1 D = none →
  ∃ W : Nat → Nat → Hp → Prop, (∃ m, W 0 m (upd H1 D (.dT []))) ∧
    ∀ i m G, W i m G → (J.stop i G ∧ Q (.ref D) G) ∨ (J.go i G ∧ ∃ N : Hp → Prop, (∀ G', N G' → ∃ m', m' < m ∧ W (i + 1) m' G') ∧ TurnDT J g tt tk tv vs σ D i G N)
section
variable {X : Cx}
theorem putT_set {pins : List (Addr × Obj)} {σ : L2.St} {H : Hp} {s : Shared} {E : Value → Shared → Prop} {D : Addr} {y z : V} {u r : Value} {N : Hp → Prop} {Q : Unit → Shared → Prop} (hu : X.A.units < cLine)
    (I : Inv X pins σ H s) (p : PutT D y z H N) (ry : RelV y u) (rz : RelV z r) (h : ∀ H' s', Inv X pins σ H' s' → N H' → Q () s') :
    wpAny (model X.prog X.w) X.A (dictSet D u r) Q E s := by
  obtain ⟨kvs, k, b, rfl, eb, eD, len, nx⟩ := p
  cases (show u = Value.ref b from ry)
  obtain ⟨z0, hd, xs, rel, dd⟩ := dt_of I.hok eD
  have few : xs.length ≤ sizeLine := (Paired.length rel) ▸ z0
  have few' : (putK kvs k z).length ≤ sizeLine := Nat.le_trans (length_putK kvs k z) len
  refine wpAny_dictSet_heap (knd := tupleKind (mixKind X.prog X.w)) (hsz := few) hu (key_of I.hok eb) dd (fun h' dd' hs => h _ _ ?_ nx)
  obtain ⟨q, es, ep, hq, c2, c3, c4, _, c5⟩ := dd'
  have kept : L2.KT (upd H D (.dT (putK kvs k z))) (putK kvs k z) (storedH xs k b r) :=
    (rel.put k eb rz).keeps (fun c ys ec => (upd_ne (ne_of ec eD (fun e => nomatch e))).trans ec)
  exact d_write I (eD.symm ▸ True.intro) hs ⟨q, hq⟩ ⟨few', hd, _, kept, q, es, ep, hq, c2, c3, c4, c5⟩
/-- what the block's walker leaves alone -/
theorem foot {Y : Cx} {fp : List Addr} {τ : L2.St} {G : Hp} {t : Shared} (I : Inv Y [] τ G t) (hx : ∀ b ∈ fp, b ∈ Y.ex) (hp : Y.pn = []) (hn : ∀ b ∈ fp, G b = none) : ∀ b ∈ fp, FpOk Y [] G b := by
  intro b hb
  have inx := hx b hb
  have e1 := I.ok.exf b inx
  refine ⟨hn b hb, e1.1, I.ok.exfs b inx, Or.inl inx, fun x c e => e1.2 x c e, ?_⟩
  rw [hp]
  intro p hpm
  cases hpm
theorem dcT_core {pins : List (Addr × Obj)} {s : Shared} {σ : L2.St} {H : Hp} {Q : VK} {kx vx tg iter : Expr} {ifs : List Expr} {scope : Scope} {own : List (Str × Nat)} {pos pos' : Pos} {wi : TI} {g : TG} {tt : TT} {tk tv : TE} {use : Option (Value → Sem Unit)} {Qf : Value → Shared → Prop}
    (hu : X.A.units < cLine) (hc : X.calm = true) (hN : X.N.Nodup) (I : Inv X pins σ H s) (hi : PI X tg iter wi) (ok : BlkOk X.N X.env.scope scope own)
    (hg : ∀ (s : Shared) (H : Hp) (C : Addr) (cl : List (Str × Addr)) (fp : List Addr), PG (X.blk s H scope (compEnvC scope cl C X.env) fp) tg g)
    (ht : ∀ (s : Shared) (H : Hp) (C : Addr) (cl : List (Str × Addr)) (fp : List Addr), PTs (X.blk s H scope (compEnvC scope cl C X.env) fp) ifs tt)
    (hk : ∀ (s : Shared) (H : Hp) (C : Addr) (cl : List (Str × Addr)) (fp : List Addr), PE (X.blk s H scope (compEnvC scope cl C X.env) fp) kx tk)
    (hv : ∀ (s : Shared) (H : Hp) (C : Addr) (cl : List (Str × Addr)) (fp : List Addr), PE (X.blk s H scope (compEnvC scope cl C X.env) fp) vx tv)
    (hs : ∀ x, foldedSetIterable iter X.env x = pure x) (h : tDcT wi g tt tk tv (own.map (·.2)) σ H Q)
    (fin : ∀ D C s' m H', Inv X pins σ H' s' → Q (.ref D) H' → s'.heap.Ns C m → FpOk X pins H' C → compPost (model X.prog X.w) X.A X.xe use Qf (.ref D) C (.ok .next) s') :
    wpAny (model X.prog X.w) X.A (comprehension (.DictComp kx vx [⟨tg, iter, ifs, 0⟩] scope pos) scope X.env pos' newDict false (eval iter X.env) use) Qf X.xe s := by
  have caps : ∀ y ∈ scope.names, y.2 = .free → ∃ c, X.env.cells.lookup y.1 = some c := fun y hy e => (ok.free y hy e).elim (fun k => I.ok.has _ (Or.inl k)) (fun k => I.ok.has _ (Or.inr k))
  have loc : ∀ y ∈ scope.names, y.2 = .local → scope.names.lookup y.1 = some .local := fun y hy e => e ▸ ok.uniq y hy
  refine wpAny_comprehension_free (use := use) rfl hs (closure_ok caps) ok.kind loc (thn (hi.run pins s σ H _ I h) fun xv s1 hx => ?_)
  refine thn hx fun itv s2 came => ?_
  obtain ⟨it, fp, tn, J, H2, rfl, I2, T, st2, f2, q⟩ := came
  refine wpAny_newObj_type (newEnv_comp ?_)
  have DN : H2 s2.heap.objs.size = none := I2.hok.fresh (Nat.le_refl _)
  obtain ⟨W, ⟨m0, w0⟩, turn⟩ := q _ DN
  have I3 : Inv X pins σ (upd H2 s2.heap.objs.size (.dT [])) { s2 with heap := s2.heap.push { cls := .type "dict", data := .dict #[] } } :=
    I2.laid (t' := s2.toks) (fun b o e => Heap.get?_push_of_some _ e) (Nat.le_refl _) (dt_empty s2.heap I2.big)
  have small : ∀ b ∈ fp, b < s2.heap.objs.size := fun b hb => (T.obj _ _ st2 b hb).elim fun o e => Heap.lt_size e.1
  have f3 : ∀ b ∈ fp, FpOk X pins (upd H2 s2.heap.objs.size (.dT [])) b ∧ b < (s2.heap.push { cls := .type "dict", data := .dict #[] }).objs.size := fun b hb =>
    ⟨⟨(upd_ne (Nat.ne_of_lt (small b hb))).trans (f2 b hb).1, (f2 b hb).2⟩, (Heap.size_push ..).symm ▸ Nat.lt_succ_of_lt (small b hb)⟩
  have st3 : tn 0 (s2.heap.push { cls := .type "dict", data := .dict #[] }) := T.keep _ _ _ st2 fun b _ o e => Heap.get?_push_of_some _ e
  generalize eD : s2.heap.objs.size = D at *
  generalize eH : upd H2 D (.dT []) = H3 at *
  generalize eS : ({ s2 with heap := s2.heap.push { cls := .type "dict", data := .dict #[] } } : Shared) = s3 at *
  have I4 := block_start I3 ok hN (fun b hb => by rw [← eS]; exact f3 b hb)
  have sh : s3.heap = s2.heap.push { cls := .type "dict", data := .dict #[] } := by rw [← eS]
  rw [← sh] at st3
  have st4 : tn 0 (pushCells (s3.heap.push { cls := .type "dict", data := .dict #[] }) scope.names) := T.keep _ _ _ st3 fun b _ o e => pushCells_keeps _ _ _ _ (Heap.get?_push_of_some _ e)
  have n3 : ∀ b ∈ fp, H3 b = none := fun b hb => (f3 b hb).1.1
  have pg := hg s3 H3 s3.heap.objs.size (cellsFrom (s3.heap.objs.size + 1) scope.names (cloFrom X.env.cells scope.names [])) fp
  have pt := ht s3 H3 s3.heap.objs.size (cellsFrom (s3.heap.objs.size + 1) scope.names (cloFrom X.env.cells scope.names [])) fp
  have pk := hk s3 H3 s3.heap.objs.size (cellsFrom (s3.heap.objs.size + 1) scope.names (cloFrom X.env.cells scope.names [])) fp
  have pv' := hv s3 H3 s3.heap.objs.size (cellsFrom (s3.heap.objs.size + 1) scope.names (cloFrom X.env.cells scope.names [])) fp
  have cL : (compEnvC scope (cellsFrom (s3.heap.objs.size + 1) scope.names (cloFrom X.env.cells scope.names [])) s3.heap.objs.size X.env).locals = s3.heap.objs.size := rfl
  change codeAny (model X.prog X.w) X.A (.compStart (.DictComp kx vx [⟨tg, iter, ifs, 0⟩] scope pos) 0 (.ref it) (.ref D) (compEnvC scope (cellsFrom (s3.heap.objs.size + 1) scope.names (cloFrom X.env.cells scope.names [])) s3.heap.objs.size X.env))
    (compPost (model X.prog X.w) X.A X.xe use Qf (.ref D) s3.heap.objs.size) { s3 with heap := pushCells (s3.heap.push { cls := .type "dict", data := .dict #[] }) scope.names }
  generalize compEnvC scope (cellsFrom (s3.heap.objs.size + 1) scope.names (cloFrom X.env.cells scope.names [])) s3.heap.objs.size X.env = ce at I4 pg pt pk pv' cL ⊢
  generalize e4 : ({ s3 with heap := pushCells (s3.heap.push { cls := .type "dict", data := .dict #[] }) scope.names } : Shared) = s4 at I4 ⊢
  replace st4 : tn 0 s4.heap := by
    rw [← e4]
    exact st4
  suffices loop : codeAny (model X.prog X.w) X.A (.compLoop (.DictComp kx vx [⟨tg, iter, ifs, 0⟩] scope pos) 0 (.ref it) (.ref D) ce) (compPost (model X.prog X.w) X.A X.xe use Qf (.ref D) s3.heap.objs.size) s4 from
    codeAny_compStart_dict loop (T.self X.A 0 _ _ _ st4 loop)
  refine compLoop_anyD (fun n t => ∃ i G, Inv (X.blk s3 H3 scope ce fp) [] (wipe σ (own.map (·.2))) G t ∧ tn i t.heap ∧ (∀ b ∈ fp, G b = none) ∧ W i n G) (fun n t inv => ?_) m0 ⟨0, H3, I4, st4, n3, w0⟩
  obtain ⟨i, G, IG, stG, nG, wG⟩ := inv
  rcases turn i n G wG with ⟨halt, qG⟩ | ⟨more, N, hN', body⟩
  · -- no more items
    refine thnF (T.done (X.blk s3 H3 scope ce fp) rfl rfl rfl hc i [] t _ G (fun _ _ => False) IG (foot IG (fun _ hb => hb) rfl nG) stG halt) fun r t1 both => ?_
    obtain ⟨rfl, I1⟩ := both
    have back : Inv X pins σ G t1 := I3.call' (ch := fp) I1.os I1.base I1.hok I1.bare fun b hb =>
      let ⟨_, u1, _, u2, u3, u4⟩ := (f3 b hb).1
      ⟨u2, u1, u3, u4⟩
    have freeC : G s3.heap.objs.size = none := cL ▸ (show G ce.locals = none from I1.free)
    obtain ⟨m, hn, _⟩ := I1.loc
    exact fin D s3.heap.objs.size t1 m G back qG (cL ▸ (show t1.heap.Ns ce.locals m from hn)) (I3.fpOk (Nat.le_refl _) freeC)
  · refine thnF (T.item (X.blk s3 H3 scope ce fp) rfl rfl rfl hc i [] t _ G (fun _ _ => False) IG (foot IG (fun _ hb => hb) rfl nG) stG more) fun r t1 got => ?_
    obtain ⟨u, rfl, got⟩ := got
    refine thnF got fun _ t2 ⟨x, G2, IG2, rx, yx, stx, nx⟩ => ?_
    have held := IG2.pinned (foot IG2 (fun _ hb => hb) rfl nx) (T.obj _ _ stx)
    refine thnF (pg.run _ t2 _ G2 x u _ held rx (body x G2 yx)) fun _ t3 ⟨τ, G3, IG3, weq, rest⟩ => ?_
    refine thnF (pt.run _ t3 τ G3 _ IG3 rest) fun b t4 ⟨G4, IG4, rest⟩ => ?_
    have close : ∀ {t' : Shared} {G' : Hp}, Inv (X.blk s3 H3 scope ce fp) ([] ++ pinsAt fp t2.heap) τ G' t' → N G' → ∃ m, m < n ∧ ∃ i G, Inv (X.blk s3 H3 scope ce fp) [] (wipe σ (own.map (·.2))) G t' ∧ tn i t'.heap ∧ (∀ b ∈ fp, G b = none) ∧ W i m G := by
      intro t' G' IG' nn
      obtain ⟨m', lt, w'⟩ := hN' G' nn
      have still : ∀ b ∈ fp, ∀ o, t2.heap.get? b = some o → t'.heap.get? b = some o ∧ G' b = none := by
        intro b hb o e
        have z := IG'.pin (b, o) (List.mem_append_right _ (List.mem_append_right _ (mem_pinsAt hb e)))
        exact ⟨z.1, z.2.1⟩
      have lens : (wipe σ (own.map (·.2))).length = τ.length := (congrArg List.length weq).symm.trans (wipe_length _ _)
      refine ⟨m', lt, i + 1, G', (IG'.unpinned (pins := [])).weak lens (fun j v e => (wipe_some (weq ▸ e)).1), T.keep _ _ _ stx fun b hb o e => (still b hb o e).1, ?_, w'⟩
      intro b hb
      obtain ⟨o, e, _⟩ := T.obj _ _ stx b hb
      exact (still b hb o e).2
    cases b with
    | false => exact close IG4 rest
    | true =>
      refine thnF (pk.run _ t4 τ G4 _ IG4 rest) fun uk t5 ⟨yk, G5, IG5, rk, rest⟩ => ?_
      refine thnF (pv'.run _ t5 τ G5 _ IG5 rest) fun uv t6 ⟨yv, G6, IG6, rv, put⟩ => ?_
      exact putT_set (X := X.blk s3 H3 scope ce fp) hu IG6 put rk rv fun G' t' I' nn => close I' nn
theorem ps_setDcT {i : Nat} {y : Str} {py : Pos} {kx vx tg iter : Expr} {ifs : List Expr} {scope : Scope} {own : List (Str × Nat)} {pos spos : Pos} {wi : TI} {g : TG} {tt : TT} {tk tv : TE} (hu : X.A.units < cLine) (hc : X.calm = true) (hN : X.N.Nodup) (hy : X.N[i]? = some y) (hyl : X.env.scope.names.lookup y = some .local)
    (hsw : swapsWith (.DictComp kx vx [⟨tg, iter, ifs, 0⟩] scope pos) (some (.Name y py)) spos.line X.env = pure true) (hi : PI X tg iter wi) (ok : BlkOk X.N X.env.scope scope own)
    (hg : ∀ (s : Shared) (H : Hp) (C : Addr) (cl : List (Str × Addr)) (fp : List Addr), PG (X.blk s H scope (compEnvC scope cl C X.env) fp) tg g)
    (ht : ∀ (s : Shared) (H : Hp) (C : Addr) (cl : List (Str × Addr)) (fp : List Addr), PTs (X.blk s H scope (compEnvC scope cl C X.env) fp) ifs tt)
    (hk : ∀ (s : Shared) (H : Hp) (C : Addr) (cl : List (Str × Addr)) (fp : List Addr), PE (X.blk s H scope (compEnvC scope cl C X.env) fp) kx tk)
    (hv : ∀ (s : Shared) (H : Hp) (C : Addr) (cl : List (Str × Addr)) (fp : List Addr), PE (X.blk s H scope (compEnvC scope cl C X.env) fp) vx tv)
    (hs : ∀ x, foldedSetIterable iter X.env x = pure x := by intro _; rfl) :
    PS X (.Assign [.Name y py] (.DictComp kx vx [⟨tg, iter, ifs, 0⟩] scope pos) spos) (tAsg (tDcT wi g tt tk tv (own.map (·.2))) (gName i)) := by
  refine ⟨fun pins s σ H D I h => ?_⟩
  rw [exec_Assign_Name_used _ _ _ _ hsw]
  refine wpAny_bind (wpAny_standAt (wpAny_bind ?_))
  show wpAny _ X.A (do let _ ← comprehension (.DictComp kx vx [⟨tg, iter, ifs, 0⟩] scope pos) scope X.env (firstIterPos [⟨tg, iter, ifs, 0⟩] pos) newDict false (eval iter X.env) (some (assign (.Name y py) X.env))) _ _ s
  have h : tDcT wi g tt tk tv (own.map (·.2)) σ H (fun x H1 => gName i x σ H1 D.nx) := h
  refine wpAny_bind (thn (dcT_core (Qf := fun _ s' => SP X pins D .next s') hu hc hN I hi ok hg ht hk hv hs h fun L C s' m H' I' q hn f => ?_) fun _ s' hq => wpAny_pure (wpAny_pure hq))
  show wpAny _ _ (assign (.Name y py) X.env (.ref L)) _ _ _
  refine wpAny_assign_Name (store_ok2 (v := V.ref L) I' hN hy (.inl hyl) rfl (fun s2 I2 ⟨a, sb, ha⟩ => ?_) (.inr hyl))
  obtain ⟨f0, f1, f2, f3, f4, f5⟩ := f
  have off : C ≠ a := ha.elim (fun z => z ▸ f1) (fun z e => f4 y a z e.symm)
  refine ⟨m, hn.sameBut sb off, fun h3 sb3 => ?_⟩
  exact ⟨_, H', I2.turned (t' := s2.toks) (fun b o hb e => (sb3.2 b hb).trans e) f0 f1 f3 f4 f5, q⟩
end
theorem sw_dict {kx vx : Expr} {gs : List Comprehension} {scope : Scope} {pos py : Pos} {y : Str} {l : Nat} {env : Env} (hk : env.scope.kind = .function) (hy : env.scope.names.lookup y = some .local) (hl : (py.line == pos.line) = true)
    (ha : (scope.names.any fun (n, k) => n == y && (k == .local || k == .cell)) = false) : swapsWith (.DictComp kx vx gs scope pos) (some (.Name y py)) l env = pure true := by
  have ky : env.kindOf y = some .local := hy
  have hb : env.blockKind = .function := by unfold Env.blockKind; rw [hk]; rfl
  unfold swapsWith
  simp only [hb, ky, ha, Expr.pos, hl]
  rfl
/-- a walk over two tuples side by side -/
theorem walk_zipT {K : PySem.W.Frag} {a b : Addr} {xs ys : List V} {n : Nat} (hx : xs.length = n) (hy : ys.length = n) : Walk (ItzT K a b) n (fun H => SqT K H a xs ∧ SqT K H b ys) (YPair (fun i => xs[i]?) (fun i => ys[i]?)) where
  goes := fun i H hi ⟨h1, h2⟩ => ⟨xs, ys, _, _, h1, h2, List.getElem?_eq_getElem (by omega), List.getElem?_eq_getElem (by omega)⟩
  stops := fun H ⟨h1, h2⟩ => ⟨xs, ys, h1, h2, Or.inl (by omega)⟩
  yields := fun i H x H' hi ⟨h1, h2⟩ ⟨T, x', y', e1, e2, e3, f1, f2⟩ => ⟨T, x', y', e1, e2, e3, f1 xs h1, f2 ys h2⟩
/-- such a comprehension over any walk -/
theorem dcT_it {J : It} {n : Nat} {Gd : Hp → Prop} {Y : Nat → Hp → V → Hp → Prop} (w : Walk J n Gd Y) {g : TG} {tt : TT} {tk tv : TE} {vs : List Nat} {σ : L2.St} {H1 : Hp} {D : Addr} {Qd : Hp → Prop} (Pv : Nat → Hp → Prop) (h0 : Pv 0 (upd H1 D (.dT []))) (hl : ∀ i H, i ≤ n → Pv i H → Gd H)
    (hs : ∀ i x G G1, i < n → Pv i G → Y i G x G1 → g x (wipe σ vs) G1 fun τ G2 => wipe τ vs = wipe σ vs ∧ tt τ G2 fun b G3 => if b = true then tk τ G3 (fun y G4 => tv τ G4 fun z G5 => PutT D y z G5 (Pv (i + 1))) else Pv (i + 1) G3)
    (hd : ∀ H, Pv n H → Qd H) :
    ∃ W : Nat → Nat → Hp → Prop, (∃ m, W 0 m (upd H1 D (.dT []))) ∧
      ∀ i m G, W i m G → (J.stop i G ∧ Qd G) ∨ (J.go i G ∧ ∃ N : Hp → Prop, (∀ G', N G' → ∃ m', m' < m ∧ W (i + 1) m' G') ∧ TurnDT J g tt tk tv vs σ D i G N) := by
  refine ⟨fun i m G => m + i = n ∧ Pv i G, ⟨n, rfl, h0⟩, ?_⟩
  rintro i m G ⟨e, p⟩
  have hi : i ≤ n := by omega
  have good := hl i G hi p
  rcases Nat.lt_or_ge i n with lt | ge
  · refine Or.inr ⟨w.goes i G lt good, Pv (i + 1), fun G' p' => ⟨m - 1, by omega, by omega, p'⟩, ?_⟩
    intro x G1 y
    exact hs i x G G1 lt p (w.yields i G x G1 lt good y)
  · have e2 : i = n := by omega
    subst e2
    exact Or.inl ⟨w.stops G good, hd G p⟩
end KS
namespace KS
open PySem PySem.Spec PyProof.Rows L2 RZ
/-! ### dict(zip(t1, t2)): both tuples, the keys tuples -/
section
variable {prog : Program} {w : World} {A : Around} {E : Value → Shared → Prop} {s : Shared} {z TI TO T i1 i2 l1 l2 : Addr} {f : Bool} {oT : Obj}
/-- zip's next, its last tuple still out: whatever the two walkers do -/
theorem zn_two {Q : Value → Shared → Prop} (hz : IsZipHeld s.heap z TI TO T f) (hT : s.heap.get? T = some oT) (hTI : IsPair s.heap TI (.ref i1) (.ref i2))
    (h : ∀ h₁, IsZipHeld h₁ z TI TO T true → Heap.SameBut z s.heap h₁ → wpAny (model prog w) A (Builtin.SmallTypes.nextOf (.ref i1)) (fun x s2 => wpAny (model prog w) A (Builtin.SmallTypes.nextOf (.ref i2)) (fun y s3 => Q (.ref s3.heap.objs.size) { s3 with heap := s3.heap.push { cls := .type "tuple", data := .seq #[x, y] } }) E s2) E { s with heap := h₁ }) :
    wpAny (model prog w) A (Builtin.«zip.__next__» ⟨[.ref z], []⟩) (fun fin s' => ∃ v, fin = .done (.ret v) ∧ Q v s') E s := by
  show wpAny _ _ (field (.ref z) 2 >>= _) _ _ _
  refine wpAny_bind (wpAny_field hz rfl (x := .bool false) rfl (show wpAny _ _ (field (.ref z) 3 >>= _) _ _ _ from ?_))
  refine wpAny_bind (wpAny_field hz rfl (x := .ref TI) rfl (wpAny_bind (wpAny_seqItems hTI rfl (show wpAny _ _ (Builtin.SmallTypes.ownedTupleIsFree (.ref z) >>= _) _ _ _ from ?_))))
  refine wpAny_bind (wpAny_tupleHeld_zip hz hT fun h₁ hz₁ hs₁ => ?_)
  simp only [Bool.false_eq_true, if_false]
  refine wpAny_bind ?_
  rw [← Array.forIn_toList]
  simp only [List.forIn_cons, List.forIn_nil]
  refine wpAny_bind (wpAny_bind (wpAny_holding (show wpAny _ _ (Builtin.SmallTypes.nextOf (.ref i1) >>= _) _ _ _ from ?_)))
  refine wpAny_bind (thn (h h₁ hz₁ hs₁) fun x s2 h2 => wpAny_pure (wpAny_pure ?_))
  refine wpAny_bind (wpAny_bind (wpAny_holding (show wpAny _ _ (Builtin.SmallTypes.nextOf (.ref i2) >>= _) _ _ _ from ?_)))
  refine wpAny_bind (thn h2 fun y s3 h3 => wpAny_pure (wpAny_pure (wpAny_pure ?_)))
  show wpAny _ _ (newTuple [x, y] >>= _) _ _ _
  exact wpAny_bind (wpAny_newTuple (wpAny_pure ⟨_, rfl, h3⟩))
theorem zn_py {Q : Option Value → Shared → Prop} (hz : ∃ o, s.heap.get? z = some o ∧ o.cls = .type "zip") 
    (h : wpAny (model prog w) A.in1 (Builtin.«zip.__next__» ⟨[.ref z], []⟩) (fun fin s' => ∃ v, fin = .done (.ret v) ∧ Q (some v) s') (fun e s' => ∃ b o, e = .ref b ∧ s'.heap.get? b = some o ∧ o.cls = .type "StopIteration" ∧ Q none s') s) :
    wpAny (model prog w) A (pyNext (.ref z)) Q E s := by
  have hTy : s.TypeIs (.ref z) "zip" := hz
  unfold pyNext
  refine wpAny_bind (wpAny_attempt (wpAny_callSpecial?_slot (name := Str.ofString "__next__") hTy F.slot_zip_next (wpAny_call_entry F.slot_zip_next hTy F.entry_zip_next (wpAny_mono h (fun fin s' ⟨v, e, q⟩ => ⟨v, e, wpAny_pure q⟩) fun e s' hq => ?_) (F.args_zip_next_1 _))))
  obtain ⟨b, o, rfl, ho, hc, q⟩ := hq
  exact wpAny_bind (wpAny_isInstance (T := "StopIteration") (b := true) ⟨o, ho, hc⟩ isSubtype_stop (wpAny_pure q))
end
/-- a zip of two tuples, i turns in: fresh, or its last tuple still out -/
structure ZTs (z TI TO i1 i2 l1 l2 d : Addr) (xs ys : Array Value) (i : Nat) (h : Heap) : Prop where
  hTI : IsPair h TI (.ref i1) (.ref i2)
  w1 : h.IsTupleIter i1 l1 i
  w2 : h.IsTupleIter i2 l2 i
  t1 : h.IsTuple l1 xs
  t2 : h.IsTuple l2 ys
  zz : (IsZip h z TI TO .none ∧ ∃ a b, IsPair h TO a b) ∨ ∃ T f oT, IsZipHeld h z TI TO T f ∧ h.get? T = some oT ∧ T ≠ z ∧ T ≠ i1 ∧ T ≠ i2 ∧ T ≠ d
section
variable {prog : Program} {w : World}
theorem src_zipT {A : Around} {z TI TO i1 i2 l1 l2 d : Addr} (hA : A.handled = none) (D : ZipApart z TI TO i1 i2 l1 l2) {xs ys : Array Value} {n : Nat} (hx : xs.size = n) (hy : ys.size = n) (off : d ∉ [z, TI, TO, i1, i2, l1, l2]) :
    PairSrc prog w A z d [z, TO, i1, i2] n (fun i k v => xs[i]? = some k ∧ ys[i]? = some v) (ZTs z TI TO i1 i2 l1 l2 d xs ys) := by
  simp only [List.mem_cons, List.not_mem_nil, or_false, not_or] at off
  obtain ⟨dz, dTI, dTO, di1, di2, dl1, dl2⟩ := off
  constructor
  · simp only [List.mem_cons, List.not_mem_nil, or_false, not_or]
    exact ⟨dz, dTO, di1, di2⟩
  · intro i h h' st k
    refine ⟨k _ _ (Ne.symm dTI) st.hTI, st.w1.at fun o e => k _ o (Ne.symm di1) e, st.w2.at fun o e => k _ o (Ne.symm di2) e, st.t1.at fun o e => k _ o (Ne.symm dl1) e, st.t2.at fun o e => k _ o (Ne.symm dl2) e, ?_⟩
    refine st.zz.imp (fun ⟨q, a, b, r⟩ => ⟨k _ _ (Ne.symm dz) q, a, b, k _ _ (Ne.symm dTO) r⟩) ?_
    rintro ⟨T, f, oT, q, hT, r1, r2, r3, r4⟩
    exact ⟨T, f, oT, k _ _ (Ne.symm dz) q, k _ _ r4 hT, r1, r2, r3, r4⟩
  · intro i s Q E hi st ds hQ
    have ex := Array.getElem?_eq_getElem (xs := xs) (i := i) (by omega)
    have ey := Array.getElem?_eq_getElem (xs := ys) (i := i) (by omega)
    have lt : ∀ {c o}, s.heap.get? c = some o → s.heap.objs.size ≠ c := fun e => Nat.ne_of_gt (Heap.lt_size e)
    have n1 : s.heap.objs.size ≠ i1 := st.w1.elim fun _ e => lt e.1
    have n2 : s.heap.objs.size ≠ i2 := st.w2.elim fun _ e => lt e.1
    have memo : ∀ {c : Addr}, c ∉ [z, TO, i1, i2] → c ≠ z ∧ c ≠ TO ∧ c ≠ i1 ∧ c ≠ i2 := by
      intro c hc
      simpa only [List.mem_cons, List.not_mem_nil, or_false, not_or] using hc
    rcases st.zz with ⟨q, a, b, r⟩ | ⟨T, f, oT, q, hT, r1, r2, r3, r4⟩
    · refine pyNext_zipT_item D q st.hTI r st.w1 st.w2 st.t1 st.t2 ex ey fun h' a1 a2 a3 a4 a5 a6 k => ?_
      refine hQ s.heap.objs.size _ _ h' s.toks ⟨ex, ey⟩ (Or.inl ⟨_, a5, rfl, _, rfl⟩) ?_ fun c o hc e => let ⟨c1, c2, c3, c4⟩ := memo hc; k c o c1 c2 c3 c4 e
      exact ⟨k _ _ D.TIz D.TITO D.TIi1 D.TIi2 st.hTI, a3, a4, st.t1.at fun o e => k _ o D.l1z D.l1TO D.l1i1 D.l1i2 e, st.t2.at fun o e => k _ o D.l2z D.l2TO D.l2i1 D.l2i2 e, Or.inr ⟨_, false, _, a1, a5, lt q, n1, n2, Nat.ne_of_gt ds⟩⟩
    · refine zn_py ⟨_, q, rfl⟩ (zn_two (Q := fun v s' => Q (some v) s') q hT st.hTI fun h₁ z₁ b₁ => ?_)
      refine nextOf_tuple_item (s := { s with heap := h₁ }) (st.w1.extBut b₁.extBut D.i1z) (st.t1.extBut b₁.extBut D.l1z) ex fun h₂ w₁ b₂ => ?_
      refine nextOf_tuple_item (s := { s with heap := h₂ }) ((st.w2.extBut b₁.extBut D.i2z).extBut b₂.extBut D.i12.symm) ((st.t2.extBut b₁.extBut D.l2z).extBut b₂.extBut D.l2i1) ey fun h₃ w₂ b₃ => ?_
      have k : ∀ c o, c ≠ z → c ≠ i1 → c ≠ i2 → s.heap.get? c = some o → (h₃.push { cls := .type "tuple", data := .seq #[xs[i], ys[i]] }).get? c = some o := fun c o c1 c2 c3 e => Heap.get?_push_of_some _ (b₃.extBut _ _ c3 (b₂.extBut _ _ c2 (b₁.extBut _ _ c1 e)))
      have sz : h₃.objs.size = s.heap.objs.size := (b₃.1.trans b₂.1).trans b₁.1
      show Q (some (.ref h₃.objs.size)) { s with heap := h₃.push { cls := .type "tuple", data := .seq #[xs[i], ys[i]] } }
      refine hQ h₃.objs.size _ _ _ s.toks ⟨ex, ey⟩ (Or.inl ⟨_, Heap.get?_push_size _ rfl, rfl, _, rfl⟩) ?_ fun c o hc e => let ⟨c1, _, c3, c4⟩ := memo hc; k c o c1 c3 c4 e
      refine ⟨k _ _ D.TIz D.TIi1 D.TIi2 st.hTI, (w₁.extBut b₃.extBut D.i12).at fun o e => Heap.get?_push_of_some _ e, w₂.at fun o e => Heap.get?_push_of_some _ e, st.t1.at fun o e => k _ o D.l1z D.l1i1 D.l1i2 e, st.t2.at fun o e => k _ o D.l2z D.l2i1 D.l2i2 e, Or.inr ⟨T, true, oT, ?_, k _ _ r1 r2 r3 hT, r1, r2, r3, r4⟩⟩
      exact Heap.get?_push_of_some _ (b₃.extBut _ _ D.i2z.symm (b₂.extBut _ _ D.i1z.symm z₁))
  · intro s Q E st hQ
    have ex : xs[n]? = none := Array.getElem?_eq_none (by omega)
    have memo : ∀ {c : Addr}, c ∉ [z, TO, i1, i2] → c ≠ z ∧ c ≠ TO ∧ c ≠ i1 ∧ c ≠ i2 := by
      intro c hc
      simpa only [List.mem_cons, List.not_mem_nil, or_false, not_or] using hc
    rcases st.zz with ⟨q, a, b, r⟩ | ⟨T, f, oT, q, hT, r1, r2, r3, r4⟩
    · exact pyNext_zipT_end hA D q st.hTI r st.w1 st.w2 st.t1 st.t2 (Or.inl ex) fun h' k => hQ h' s.toks fun c o hc e => let ⟨c1, c2, c3, c4⟩ := memo hc; k c o c1 c2 c3 c4 e
    · refine zn_py ⟨_, q, rfl⟩ (zn_two (Q := fun v s' => Q (some v) s') q hT st.hTI fun h₁ z₁ b₁ => ?_)
      refine nextOf_tuple_end (s := { s with heap := h₁ }) (show A.in1.handled = none from hA) (st.w1.extBut b₁.extBut D.i1z) (st.t1.extBut b₁.extBut D.l1z) ex fun h₂ e b₂ ⟨o, ho, hc⟩ => ?_
      exact ⟨e, o, rfl, ho, hc, hQ h₂ s.toks fun c o hc e => let ⟨c1, _, c3, c4⟩ := memo hc; b₂ c o c3 (b₁.extBut c o c1 e)⟩
theorem arg_zipT {z TI TO i1 i2 l1 l2 : Addr} (D : ZipApart z TI TO i1 i2 l1 l2) {xs ys : Array Value} {n : Nat} (hx : xs.size = n) (hy : ys.size = n) :
    PairArg prog w "zip" z [z, TI, TO, i1, i2, l1, l2] [z, TO, i1, i2] n (fun i k v => xs[i]? = some k ∧ ys[i]? = some v)
      (fun h => (IsZip h z TI TO .none ∧ ∃ a b, IsPair h TO a b) ∧ IsPair h TI (.ref i1) (.ref i2) ∧ (h.IsTupleIter i1 l1 0 ∧ h.IsTupleIter i2 l2 0) ∧ h.IsTuple l1 xs ∧ h.IsTuple l2 ys) := by
  constructor
  · exact fun s ok => ⟨_, ok.1.1, rfl⟩
  · decide
  · rintro h h' ⟨⟨q, a, b, r⟩, p, ⟨w1, w2⟩, t1, t2⟩ k
    exact ⟨⟨k _ _ q, a, b, k _ _ r⟩, k _ _ p, ⟨w1.at fun o e => k _ o e, w2.at fun o e => k _ o e⟩, t1.at fun o e => k _ o e, t2.at fun o e => k _ o e⟩
  · rintro h ⟨⟨q, a, b', r⟩, p, ⟨⟨o1, w1, _⟩, ⟨o2, w2, _⟩⟩, ⟨o3, t1, _⟩, ⟨o4, t2, _⟩⟩ b hb
    simp only [List.mem_cons, List.not_mem_nil, or_false] at hb
    rcases hb with e | e | e | e | e | e | e <;> subst e
    · exact ⟨_, q⟩
    · exact ⟨_, p⟩
    · exact ⟨_, r⟩
    · exact ⟨_, w1⟩
    · exact ⟨_, w2⟩
    · exact ⟨_, t1⟩
    · exact ⟨_, t2⟩
  · intro b hb
    simp only [List.mem_cons, List.not_mem_nil, or_false] at hb ⊢
    rcases hb with e | e | e | e <;> simp [e]
  · exact fun A s Q E hA ok h => getAttrOr_miss_zip ok.1.1 rfl rfl rfl zip_no_keys (by decide +kernel) hA h
  · rintro A s d Q E hA ⟨⟨q, a, b, r⟩, p, ⟨w1, w2⟩, t1, t2⟩ hd off h
    exact wpAny_pyIter_zip q (h z _ _ s.heap s.toks (src_zipT hA D hx hy off) ⟨p, w1, w2, t1, t2, Or.inl ⟨q, a, b, r⟩⟩ (fun _ _ e => e) fun b hb => Or.inl hb)
end
def mergeT (acc more : List (List L2.Key × V)) : List (List L2.Key × V) := more.foldl (fun a kv => putK a kv.1 kv.2) acc
theorem mergeT_len (more : List (List L2.Key × V)) : ∀ acc : List (List L2.Key × V), (mergeT acc more).length ≤ acc.length + more.length := by
  induction more with
  | nil => exact fun acc => Nat.le_refl _
  | cons p r ih =>
    intro acc
    have h1 := ih (putK acc p.1 p.2)
    have h2 := length_putK acc p.1 p.2
    show (mergeT (putK acc p.1 p.2) r).length ≤ acc.length + (r.length + 1)
    omega
/-- keys, their tuples, values as they stand -/
inductive Trip (H : Hp) : List Addr → List (List L2.Key) → List V → List Value → Prop
  | nil : Trip H [] [] [] []
  | cons {p : Addr} {k : List L2.Key} {y : V} {u : Value} {ps : List Addr} {ks : List (List L2.Key)} {ys : List V} {us : List Value} : H p = some (.tup (k.map kV)) → RelV y u → Trip H ps ks ys us → Trip H (p :: ps) (k :: ks) (y :: ys) (u :: us)
def tri : List Addr → List (List L2.Key) → List Value → List (List L2.Key × Addr × Value)
  | p :: ps, k :: ks, u :: us => (k, p, u) :: tri ps ks us
  | _, _, _ => []
theorem Trip.kt {H : Hp} {ps : List Addr} {ks : List (List L2.Key)} {ys : List V} {us : List Value} (t : Trip H ps ks ys us) : ∀ {acc : List (List L2.Key × V)} {xs : List (List L2.Key × Addr × Value)}, L2.KT H acc xs → L2.KT H (mergeT acc (ks.zip ys)) (storedAllH xs (tri ps ks us)) := by
  induction t with
  | nil => exact fun h => h
  | cons h1 h2 _ ih => exact fun h => ih (h.put _ h1 h2)
theorem Trip.at {H : Hp} {ps : List Addr} {ks : List (List L2.Key)} {ys : List V} {us : List Value} (t : Trip H ps ks ys us) : ∀ {i : Nat} {p : Addr} {u : Value}, ps[i]? = some p → us[i]? = some u → ∃ k, (tri ps ks us)[i]? = some (k, p, u) := by
  induction t with
  | nil => intro i p u h; cases h
  | cons h1 h2 _ ih =>
    intro i p u e1 e2
    cases i with
    | zero =>
      cases e1
      cases e2
      exact ⟨_, rfl⟩
    | succ i => exact ih e1 e2
theorem Trip.len {H : Hp} {ps : List Addr} {ks : List (List L2.Key)} {ys : List V} {us : List Value} (t : Trip H ps ks ys us) : (tri ps ks us).length = ps.length ∧ us.length = ps.length ∧ (ks.zip ys).length = ps.length := by
  induction t with
  | nil => exact ⟨rfl, rfl, rfl⟩
  | cons _ _ _ ih => exact ⟨congrArg (· + 1) ih.1, congrArg (· + 1) ih.2.1, congrArg (· + 1) ih.2.2⟩
theorem Trip.mem {H : Hp} {ps : List Addr} {ks : List (List L2.Key)} {ys : List V} {us : List Value} (t : Trip H ps ks ys us) : ∀ x ∈ tri ps ks us, H x.2.1 = some (.tup (x.1.map kV)) := by
  induction t with
  | nil => intro x hx; cases hx
  | cons h1 _ _ ih =>
    intro x hx
    rcases List.mem_cons.mp hx with e | hx
    · rw [e]
      exact h1
    · exact ih x hx
theorem Trip.of {H : Hp} : ∀ {ps : List Addr} {ks : List (List L2.Key)} {ys : List V} {us : List Value}, Paired (fun (p : Addr) (k : List L2.Key) => H p = some (.tup (k.map kV))) ps ks → Paired RelV ys us → ps.length = ys.length → Trip H ps ks ys us
  | _, _, _, _, .nil, .nil, _ => .nil
  | _, _, _, _, .cons h1 t, .cons h2 t', e => .cons h1 h2 (Trip.of t t' (Nat.succ.inj e))
  | _, _, _, _, .nil, .cons _ _, e => by cases e
  | _, _, _, _, .cons _ _, .nil, e => by cases e
/-- dict(zip(a, b)) as a value -/
def tDictZip (K : PySem.W.Frag) (t : TA) : TE := fun σ H Q => t σ H fun vs H1 => ∃ (a b : Addr) (ps : List Addr) (ks : List (List L2.Key)) (ys : List V), vs = [.ref a, .ref b] ∧ SqT K H1 a (ps.map V.ref) ∧ SqT K H1 b ys ∧
  Paired (fun (p : Addr) (k : List L2.Key) => H1 p = some (.tup (k.map kV))) ps ks ∧ ps.length = ys.length ∧ ∀ D, H1 D = none → Q (.ref D) (upd H1 D (.dT (mergeT [] (ks.zip ys))))
theorem refs_arr : ∀ {ps : List Addr} {us : List Value}, Paired RelV (ps.map V.ref) us → us = ps.map Value.ref
  | [], _, .nil => rfl
  | p :: ps, _, .cons r t => by
    cases r
    rw [refs_arr t]
    rfl
section
variable {X : Cx}
theorem pe_dictZip {ea eb : Expr} {t : TA} {p1 p2 pos zpos : Pos} (hu : X.A.units + 64 < cLine) (hc : X.calm = true) (gd : Gl X "dict") (md : X.mg "dict" = none) (gz : Gl X "zip") (mz : X.mg "zip" = none) (ha : PA X [ea, eb] t)
    (hs : starEach [ea, eb] X.env = (false, eval ea X.env) :: starEach [eb] X.env := by rfl) (hpl : (backTo zpos (starEach [eb] X.env)).any (·.1) = false := by rfl)
    (hs' : starEach [.Call (.Name "zip" p2) [ea, eb] [] zpos] X.env = (false, eval (.Call (.Name "zip" p2) [ea, eb] [] zpos) X.env) :: [] := by rfl) :
    PE X (.Call (.Name "dict" p1) [.Call (.Name "zip" p2) [ea, eb] [] zpos] [] pos) (tDictZip X.K t) := by
  refine ⟨fun pins s σ H Q I h => ?_⟩
  refine wpAny_Call_Name_kw (ld_blt I gd md (show bootBuiltins "dict" = some (.type "dict") by decide +kernel) ?_ (by decide) (by decide))
  refine PyProof.Rows.callWith_type1 (T := "dict") ?_ hs' rfl
  rw [hs']
  refine Calls.spliced_cons (?_ : wpAny _ _ (eval (.Call (.Name "zip" p2) [ea, eb] [] zpos) X.env) _ _ _)
  refine wpAny_Call_Name_kw (ld_blt I gz mz PyProof.Rows.boot_zip ?_ (by decide) (by decide))
  refine PyProof.Rows.callWith_type1 (thn (ha.run zpos pins s σ H _ I h) fun us s1 came => ?_) hs hpl
  obtain ⟨vs, H1, I1, r1, a, b, ps, ks, ys, rfl, qa, qb, pk, len, q⟩ := came
  obtain ⟨u1, u2, rfl, ru1, ru2⟩ : ∃ u1 u2, us = [u1, u2] ∧ RelV (.ref a) u1 ∧ RelV (.ref b) u2 := by
    cases r1 with
    | cons r rr =>
      cases rr with
      | cons r' rr =>
        cases rr
        exact ⟨_, _, rfl, r, r'⟩
  cases ru1
  cases ru2
  obtain ⟨its, rv, ta, _⟩ := I1.tuple qa
  obtain ⟨jts, rw', tb, small⟩ := I1.tuple qb
  have ei := refs_arr rv
  subst ei
  have tp := Trip.of pk rw' len
  obtain ⟨l1, l2, l3⟩ := tp.len
  obtain ⟨oa, ga, _⟩ := id ta
  obtain ⟨ob, gb, _⟩ := id tb
  have D := PySem.W.ktu_apart s1.heap.objs.size a b (Heap.lt_size ga) (Heap.lt_size gb)
  refine call_zipT (show s1.heap.IsTuple a (ps.map Value.ref).toArray from ta) (show s1.heap.IsTuple b jts.toArray from tb) fun h' hz hTI hTO w1 w2 hsz hk => Calls.spliced_nil ?_
  have apart : ∀ {c : Addr} {o : Obj} (j : Nat), s1.heap.get? c = some o → c ≠ s1.heap.objs.size + j := fun j e => Nat.ne_of_lt (Nat.lt_of_lt_of_le (Heap.lt_size e) (Nat.le_add_right _ _))
  have outs : ∀ {c : Addr} {o : Obj}, s1.heap.get? c = some o → c ∉ [s1.heap.objs.size + 4, s1.heap.objs.size + 3, s1.heap.objs.size, s1.heap.objs.size + 1] := by
    intro c o e
    simp only [List.mem_cons, List.not_mem_nil, or_false, not_or]
    exact ⟨apart 4 e, apart 3 e, apart 0 e, apart 1 e⟩
  have key : ∀ x ∈ tri ps ks jts, (tupleKind (mixKind X.prog X.w)).is s1.heap x.1 x.2.1 := fun x hx => key_of I1.hok (tp.mem x hx)
  refine call_dict_pairsH (s := { s1 with heap := h' }) (knd := tupleKind (mixKind X.prog X.w)) (ps := tri ps ks jts) (n := ps.length)
    (arg_zipT (prog := X.prog) (w := X.w) D (xs := (ps.map Value.ref).toArray) (ys := jts.toArray) (n := ps.length) ((List.size_toArray ..).trans (List.length_map ..)) ((List.size_toArray ..).trans l2)) (I.ok.hd hc) (show X.A.units + 1 + 1 < cLine by omega) ⟨⟨hz, _, _, hTO⟩, hTI, ⟨w1, w2⟩, Heap.IsTuple.at ta fun o e => hk _ o e, Heap.IsTuple.at tb fun o e => hk _ o e⟩ ⟨l1, ?_⟩ ?_ ?_ ?_
  · rintro i k v ⟨e1, e2⟩
    have e1 : (ps.map Value.ref)[i]? = some k := by simpa using e1
    have e2 : jts[i]? = some v := by simpa using e2
    rw [List.getElem?_map] at e1
    obtain ⟨p, ep, rfl⟩ := Option.map_eq_some_iff.mp e1
    obtain ⟨k, ek⟩ := tp.at ep e2
    exact ⟨k, p, ek, rfl⟩
  · intro h'' keep x hx
    obtain ⟨o, its, n, g, rest⟩ := key x hx
    refine ⟨o, its, n, keep _ _ ?_ (outs g) (hk _ _ g), rest⟩
    show x.2.1 ≠ h'.objs.size
    rw [hsz]
    exact apart 5 g
  · rw [len]
    exact small
  · intro h'' tk dd keep
    show ∃ _, _
    have kept : ∀ c o, s1.heap.get? c = some o → h''.get? c = some o := by
      intro c o e
      exact keep c o (outs e) (hk c o e)
    have big := I1.big
    have le : s1.heap.objs.size ≤ h'.objs.size := by omega
    have none' : H1 h'.objs.size = none := I1.hok.fresh le
    have few : (mergeT [] (ks.zip ys)).length ≤ sizeLine := by
      have := mergeT_len (ks.zip ys) []
      rw [l3, len] at this
      simp only [List.length_nil, Nat.zero_add] at this
      exact Nat.le_trans this small
    obtain ⟨oo, es, ep, hq, c2, c3, c4, _, c5⟩ := dd
    refine ⟨.ref h'.objs.size, upd H1 h'.objs.size (.dT (mergeT [] (ks.zip ys))), ?_, rfl, q _ none'⟩
    refine I1.laid (t' := tk) kept le ⟨few, beq_eq_false_iff_ne.mpr (Nat.ne_of_gt (Nat.lt_of_lt_of_le big le)), _, (tp.kt .nil).keeps (fun c zs ec => ?_), oo, es, ep, hq, c2, c3, c4, c5⟩
    rw [upd_ne (ne_of_none ec none')]
    exact ec
end
end KS
namespace KS
open PySem PySem.Spec PyProof.Rows L2 TL
/-! ### the written form of a table -/
instance (a b : Cell) : Decidable (lt2 a b) := by unfold lt2; exact inferInstance
def atC : List (Cell × Int) → Cell → Option Int
  | [], _ => none
  | z :: zs, x => if z.1 = x then some z.2 else atC zs x
def topI (l : List Int) : Int := l.foldr max 0
theorem topI_ge : ∀ (l : List Int) (x : Int), x ∈ l → x ≤ topI l
  | y :: l, x, h => by
    show x ≤ max y (topI l)
    rcases List.mem_cons.mp h with e | h
    · omega
    · have := topI_ge l x h
      omega
theorem topI_0 : ∀ l : List Int, 0 ≤ topI l
  | [] => Int.le_refl _
  | y :: l => by
    show 0 ≤ max y (topI l)
    have := topI_0 l
    omega
theorem topI_le : ∀ (l : List Int) (m : Int), 0 ≤ m → (∀ x ∈ l, x ≤ m) → topI l ≤ m
  | [], m, h, _ => h
  | y :: l, m, h, k => by
    show max y (topI l) ≤ m
    have h1 := k y (List.mem_cons_self ..)
    have h2 := topI_le l m h fun x hx => k x (List.mem_cons_of_mem _ hx)
    omega
theorem topI_is {l : List Int} {m : Int} (hm : m ∈ l) (h0 : 0 ≤ m) (h : ∀ x ∈ l, x ≤ m) : topI l = m :=
  Int.le_antisymm (topI_le l m h0 h) (topI_ge l m hm)
def hiN (cs : List Cell) : Nat := (topI (cs.map (·.1))).toNat + 1
def wiN (cs : List Cell) : Nat := (topI (cs.map (·.2))).toNat + 1
theorem hiN_le {cs : List Cell} (g : Good cs) : hiN cs ≤ 8 := by
  have := topI_le (cs.map (·.1)) 7 (by decide) (fun x hx => by
    obtain ⟨c, hc, rfl⟩ := List.mem_map.mp hx
    exact (g.grid c hc).2.1)
  unfold hiN
  omega
theorem wiN_le {cs : List Cell} (g : Good cs) : wiN cs ≤ 8 := by
  have := topI_le (cs.map (·.2)) 7 (by decide) (fun x hx => by
    obtain ⟨c, hc, rfl⟩ := List.mem_map.mp hx
    exact (g.grid c hc).2.2.2)
  unfold wiN
  omega
theorem in_wi {cs : List Cell} {c : Cell} (hc : c ∈ cs) : c.2 < wiN cs := by
  have := topI_ge (cs.map (·.2)) c.2 (List.mem_map.mpr ⟨c, hc, rfl⟩)
  unfold wiN
  have := topI_0 (cs.map (·.2))
  omega
theorem in_hi {cs : List Cell} {c : Cell} (hc : c ∈ cs) : c.1 < hiN cs := by
  have := topI_ge (cs.map (·.1)) c.1 (List.mem_map.mpr ⟨c, hc, rfl⟩)
  unfold hiN
  have := topI_0 (cs.map (·.1))
  omega
def dotS : Str := "."
def wdAt (zs : List (Cell × Int)) (c : Cell) : Str := match atC zs c with
  | some v => nmS v
  | none => dotS
def rowW (cs : List Cell) (vs : List Int) (r : Nat) : List Str := (List.range (wiN cs)).map fun j => wdAt (cs.zip vs) ((r : Int), ((j : Nat) : Int))
def pgR (cs : List Cell) (vs : List Int) : List Str := (List.range (hiN cs)).map fun r => jn (rowW cs vs r)
def jl (L : List Str) : Str := Txt.join ("\n" : Str) L
def page (cs : List Cell) (vs : List Int) : Str := jl (pgR cs vs)
theorem atC_ne {z : Cell × Int} {zs : List (Cell × Int)} {c : Cell} (h : z.1 ≠ c) : atC (z :: zs) c = atC zs c := if_neg h
theorem atC_eq {z : Cell × Int} {zs : List (Cell × Int)} {c : Cell} (h : z.1 = c) : atC (z :: zs) c = some z.2 := if_pos h
theorem atC_mem : ∀ {zs : List (Cell × Int)} {c : Cell} {v : Int}, atC zs c = some v → (c, v) ∈ zs
  | z :: zs, c, v, h => by
    unfold atC at h
    by_cases e : z.1 = c
    · rw [if_pos e] at h
      cases h
      rw [← e]
      exact List.mem_cons_self ..
    · rw [if_neg e] at h
      exact List.mem_cons_of_mem _ (atC_mem h)
/-! ### what comes before a cell -/
def Asc (zs : List (Cell × Int)) : Prop := zs.Pairwise fun a b => lt2 a.1 b.1
def bef (zs : List (Cell × Int)) (b : Cell) : List (Cell × Int) := zs.filter fun z => decide (lt2 z.1 b)
theorem asc_zip : ∀ {cs : List Cell} {vs : List Int}, cs.Pairwise lt2 → Asc (cs.zip vs)
  | [], _, _ => List.Pairwise.nil
  | c :: cs, [], _ => List.Pairwise.nil
  | c :: cs, v :: vs, h => by
    obtain ⟨h1, h2⟩ := List.pairwise_cons.mp h
    refine List.pairwise_cons.mpr ⟨fun z hz => ?_, asc_zip h2⟩
    exact h1 _ (List.of_mem_zip (show (z.1, z.2) ∈ _ from hz)).1
theorem lt2_irr {a : Cell} : ¬ lt2 a a := by unfold lt2; omega
theorem lt2_asym {a b : Cell} (h : lt2 a b) : ¬ lt2 b a := by unfold lt2 at *; omega
theorem lt2_tr {a b c : Cell} (h : lt2 a b) (k : lt2 b c) : lt2 a c := by unfold lt2 at *; omega
theorem lt2_3 (a b : Cell) : lt2 a b ∨ a = b ∨ lt2 b a := by
  obtain ⟨a1, a2⟩ := a
  obtain ⟨b1, b2⟩ := b
  unfold lt2
  show (a1 < b1 ∨ (a1 = b1 ∧ a2 < b2)) ∨ (a1, a2) = (b1, b2) ∨ (b1 < a1 ∨ (b1 = a1 ∧ b2 < a2))
  rw [Prod.mk.injEq]
  omega
theorem atC_none : ∀ {zs : List (Cell × Int)} {b : Cell}, (∀ z ∈ zs, z.1 ≠ b) → atC zs b = none
  | [], _, _ => rfl
  | z :: zs, b, h => by
    unfold atC
    rw [if_neg (h z (List.mem_cons_self ..))]
    exact atC_none fun x hx => h x (List.mem_cons_of_mem _ hx)
theorem bef_step {b b' : Cell} (hb : ∀ x : Cell, lt2 x b' ↔ lt2 x b ∨ x = b) : ∀ {zs : List (Cell × Int)}, Asc zs → bef zs b' = bef zs b ++ (match atC zs b with | some v => [(b, v)] | none => [])
  | [], _ => rfl
  | z :: zs, h => by
    obtain ⟨h1, h2⟩ := List.pairwise_cons.mp h
    have ih := bef_step hb h2
    have nil : ∀ {c : Cell}, (∀ x ∈ zs, ¬ lt2 x.1 c) → bef zs c = [] := by
      intro c hc
      exact List.filter_eq_nil_iff.mpr fun x hx e => hc x hx (of_decide_eq_true e)
    rcases lt2_3 z.1 b with l | e | g
    · have e1 : z.1 ≠ b := fun q => lt2_irr (q ▸ l)
      unfold bef at *
      rw [List.filter_cons_of_pos (by simpa using (hb z.1).mpr (.inl l)), List.filter_cons_of_pos (by simpa using l), ih]
      rw [atC_ne e1]
      rfl
    · have n1 : bef zs b = [] := nil fun x hx q => lt2_asym (h1 x hx) (e ▸ q)
      have n2 : bef zs b' = [] := nil fun x hx q => by
        rcases (hb x.1).mp q with q | q
        · exact lt2_asym (h1 x hx) (e ▸ q)
        · have := h1 x hx
          rw [e, q] at this
          exact lt2_irr this
      unfold bef at *
      rw [List.filter_cons_of_pos (by simpa using (hb z.1).mpr (.inr e)), List.filter_cons_of_neg (by simpa using (show ¬ lt2 z.1 b from e ▸ lt2_irr)), n1, n2]
      rw [atC_eq e, ← e]
      rfl
    · have n1 : bef zs b = [] := nil fun x hx q => lt2_asym (lt2_tr g (h1 x hx)) q
      have n2 : bef zs b' = [] := nil fun x hx q => by
        rcases (hb x.1).mp q with q | q
        · exact lt2_asym (lt2_tr g (h1 x hx)) q
        · have := lt2_tr g (h1 x hx)
          rw [q] at this
          exact lt2_irr this
      have n3 : ¬ lt2 z.1 b' := fun q => by
        rcases (hb z.1).mp q with q | q
        · exact lt2_asym g q
        · rw [q] at g
          exact lt2_irr g
      have n4 : atC zs b = none := atC_none fun x hx q => by
        have := lt2_tr g (h1 x hx)
        rw [q] at this
        exact lt2_irr this
      unfold bef at *
      rw [List.filter_cons_of_neg (by simpa using n3), List.filter_cons_of_neg (by simpa using lt2_asym g), n1, n2]
      rw [atC_ne (fun q => lt2_irr (a := b) (by rw [q] at g; exact g)), n4]
      rfl
theorem bef_next (zs : List (Cell × Int)) (h : Asc zs) (i j : Int) : bef zs (i, j + 1) = bef zs (i, j) ++ (match atC zs (i, j) with | some v => [((i, j), v)] | none => []) := by
  refine bef_step (fun x => ?_) h
  obtain ⟨x1, x2⟩ := x
  unfold lt2
  show (x1 < i ∨ (x1 = i ∧ x2 < j + 1)) ↔ (x1 < i ∨ (x1 = i ∧ x2 < j)) ∨ (x1, x2) = (i, j)
  rw [Prod.mk.injEq]
  omega
theorem bef_row {zs : List (Cell × Int)} {i w : Int} (h : ∀ z ∈ zs, 0 ≤ z.1.2 ∧ z.1.2 < w) : bef zs (i, w) = bef zs (i + 1, 0) := by
  unfold bef
  refine List.filter_congr fun z hz => ?_
  have := h z hz
  obtain ⟨⟨x1, x2⟩, v⟩ := z
  have e : lt2 (x1, x2) (i, w) ↔ lt2 (x1, x2) (i + 1, 0) := by
    unfold lt2
    show (x1 < i ∨ (x1 = i ∧ x2 < w)) ↔ (x1 < i + 1 ∨ (x1 = i + 1 ∧ x2 < 0))
    have h1 : 0 ≤ x2 := this.1
    have h2 : x2 < w := this.2
    omega
  exact decide_eq_decide.mpr e
theorem bef_all {zs : List (Cell × Int)} {n : Int} (h : ∀ z ∈ zs, z.1.1 < n) : bef zs (n, 0) = zs := by
  unfold bef
  refine List.filter_eq_self.mpr fun z hz => decide_eq_true ?_
  exact .inl (h z hz)
theorem bef_none {zs : List (Cell × Int)} (h : ∀ z ∈ zs, 0 ≤ z.1.1 ∧ 0 ≤ z.1.2) : bef zs (0, 0) = [] := by
  unfold bef
  refine List.filter_eq_nil_iff.mpr fun z hz e => ?_
  have := h z hz
  have e := of_decide_eq_true e
  unfold lt2 at e
  omega
theorem bef_len (zs : List (Cell × Int)) (b : Cell) : (bef zs b).length ≤ zs.length := List.length_filter_le _ _
/-! ### split again -/
theorem wd_cases (zs : List (Cell × Int)) (c : Cell) : (∃ v, atC zs c = some v ∧ wdAt zs c = nmS v) ∨ (atC zs c = none ∧ wdAt zs c = dotS) := by
  unfold wdAt
  cases e : atC zs c with
  | none => exact .inr ⟨rfl, rfl⟩
  | some v => exact .inl ⟨v, rfl, rfl⟩
theorem dot_tl : tl dotS = [46] := by decide +kernel
theorem nl_tl : tl ("\n" : Str) = [10] := by decide +kernel
theorem wd_free {zs : List (Cell × Int)} (hv : ∀ z ∈ zs, 1 ≤ z.2) (c : Cell) (s : Nat) (hs : s = 32 ∨ s = 10) : s ∉ tl (wdAt zs c) := by
  rcases wd_cases zs c with ⟨v, e, w⟩ | ⟨e, w⟩ <;> rw [w]
  · have := hv _ (atC_mem e)
    rw [nm_tl (show 0 ≤ v by have : 1 ≤ v := this; omega)]
    exact numL_free (by rcases hs with h | h <;> subst h <;> exact .inl (by decide))
  · rw [dot_tl]
    rcases hs with h | h <;> subst h <;> decide
theorem wd_sm {zs : List (Cell × Int)} (hv : ∀ z ∈ zs, 1 ≤ z.2) (c : Cell) : ∀ x ∈ tl (wdAt zs c), x < 128 := by
  rcases wd_cases zs c with ⟨v, e, w⟩ | ⟨e, w⟩ <;> rw [w]
  · have := hv _ (atC_mem e)
    rw [nm_tl (show 0 ≤ v by have : 1 ≤ v := this; omega)]
    intro x hx
    have := numL_digits v.toNat x hx
    omega
  · rw [dot_tl]
    intro x hx
    rw [List.mem_singleton.mp hx]
    decide
theorem nm4 {v : Int} (h1 : 1 ≤ v) (h2 : v ≤ 9999) : (nmS v).length ≤ 4 := by
  rw [len_tl, nm_tl (by omega)]
  exact numL_len (by decide) (by omega)
theorem wd_len {zs : List (Cell × Int)} (hv : ∀ z ∈ zs, 1 ≤ z.2 ∧ z.2 ≤ 9999) (c : Cell) : (wdAt zs c).length ≤ 4 := by
  rcases wd_cases zs c with ⟨v, e, w⟩ | ⟨e, w⟩ <;> rw [w]
  · have := hv _ (atC_mem e)
    exact nm4 this.1 this.2
  · decide +kernel
theorem zip_vals {cs : List Cell} {vs : List Int} (h : Vals9 cs.length vs) : ∀ z ∈ cs.zip vs, 1 ≤ z.2 ∧ z.2 ≤ 9999 := fun z hz => by
  have := h.bd z.2 (List.of_mem_zip (show (z.1, z.2) ∈ _ from hz)).2
  omega
theorem zip_cell {cs : List Cell} {vs : List Int} {z : Cell × Int} (hz : z ∈ cs.zip vs) : z.1 ∈ cs := (List.of_mem_zip (show (z.1, z.2) ∈ _ from hz)).1
theorem row_ne (cs : List Cell) (vs : List Int) (r : Nat) : rowW cs vs r ≠ [] := by
  intro e
  have := congrArg List.length e
  unfold rowW at this
  rw [List.length_map, List.length_range] at this
  unfold wiN at this
  cases this
theorem row_wt {cs : List Cell} {vs : List Int} (g : Good cs) (h : Vals9 cs.length vs) (r : Nat) : wtS (rowW cs vs r) ≤ 40 := by
  have hw := wiN_le g
  unfold rowW
  generalize wiN cs = n at *
  suffices ∀ n : Nat, wtS ((List.range n).map fun j => wdAt (cs.zip vs) ((r : Int), ((j : Nat) : Int))) ≤ 5 * n by
    have := this n
    omega
  intro n
  induction n with
  | zero => exact Nat.le_refl _
  | succ n ih =>
    rw [List.range_succ, List.map_append, wtS_app]
    have := wd_len (zip_vals h) ((r : Int), ((n : Nat) : Int))
    show _ + wtS [wdAt (cs.zip vs) ((r : Int), ((n : Nat) : Int))] ≤ _
    rw [wtS_cons, wtS_nil]
    omega
theorem row_len {cs : List Cell} {vs : List Int} (g : Good cs) (h : Vals9 cs.length vs) (r : Nat) : (jn (rowW cs vs r)).length ≤ 40 := Nat.le_trans (jn_len _) (row_wt g h r)
theorem row_split {cs : List Cell} {vs : List Int} (h : Vals9 cs.length vs) (r : Nat) : Txt.split (jn (rowW cs vs r)) " " = rowW cs vs r := by
  refine split_jn (row_ne cs vs r) fun p hp => ?_
  obtain ⟨j, _, rfl⟩ := List.mem_map.mp hp
  exact wd_free (fun z hz => (zip_vals h z hz).1) _ 32 (.inl rfl)
theorem mem_joinS (S : List Nat) : ∀ (L : List (List Nat)) (c : Nat), c ∈ joinL S L → c ∈ S ∨ ∃ p ∈ L, c ∈ p
  | [], c, h => by cases h
  | [p], c, h => .inr ⟨p, List.mem_singleton.mpr rfl, h⟩
  | p :: q :: r, c, h => by
    have h : c ∈ p ++ (S ++ joinL S (q :: r)) := h
    rcases List.mem_append.mp h with h | h
    · exact .inr ⟨p, List.mem_cons_self .., h⟩
    · rcases List.mem_append.mp h with h | h
      · exact .inl h
      · rcases mem_joinS S (q :: r) c h with z | ⟨x, hx, z⟩
        · exact .inl z
        · exact .inr ⟨x, List.mem_cons_of_mem _ hx, z⟩
theorem row_mem {cs : List Cell} {vs : List Int} {r c : Nat} (hc : c ∈ tl (jn (rowW cs vs r))) : c = 32 ∨ ∃ x, c ∈ tl (wdAt (cs.zip vs) x) := by
  rw [tl_jn] at hc
  rcases mem_joinS _ _ c hc with z | ⟨p, hp, z⟩
  · exact .inl (List.mem_singleton.mp z)
  · obtain ⟨x, hx, rfl⟩ := List.mem_map.mp hp
    obtain ⟨j, _, rfl⟩ := List.mem_map.mp hx
    exact .inr ⟨_, z⟩
theorem tl_jl (L : List Str) : tl (jl L) = joinL [10] (L.map tl) := by
  unfold jl
  rw [join_eq, tl_join, nl_tl]
theorem page_split {cs : List Cell} {vs : List Int} (h : Vals9 cs.length vs) : Txt.split (page cs vs) "\n" = pgR cs vs := by
  refine split_join nl_tl (by decide +kernel) (fun e => ?_) fun p hp hm => ?_
  · have := congrArg List.length e
    unfold pgR at this
    rw [List.length_map, List.length_range] at this
    unfold hiN at this
    cases this
  · obtain ⟨r, _, rfl⟩ := List.mem_map.mp hp
    rcases row_mem hm with z | ⟨x, z⟩
    · exact absurd z (by decide)
    · exact wd_free (fun z hz => (zip_vals h z hz).1) _ 10 (.inr rfl) z
theorem joinS_len (s : Nat) : ∀ L : List (List Nat), (joinL [s] L).length ≤ (L.map List.length).sum + L.length
  | [] => Nat.le_refl _
  | [p] => by
    show p.length ≤ _
    rw [List.map_cons, List.sum_cons]
    omega
  | p :: q :: r => by
    have ih := joinS_len s (q :: r)
    show (p ++ ([s] ++ joinL [s] (q :: r))).length ≤ _
    rw [List.length_append, List.length_append, List.map_cons, List.sum_cons, List.length_cons (a := p)]
    show p.length + (1 + (joinL [s] (q :: r)).length) ≤ _
    omega
theorem jl_len (L : List Str) : (jl L).length ≤ wtS L := by
  have := joinS_len 10 (L.map tl)
  rw [len_tl, tl_jl]
  unfold wtS
  rw [List.map_map, List.length_map] at this
  have e : L.map (List.length ∘ tl) = L.map (·.length) := List.map_congr_left fun x _ => (len_tl x).symm
  rw [e] at this
  exact this
theorem pg_wt {cs : List Cell} {vs : List Int} (g : Good cs) (h : Vals9 cs.length vs) (n : Nat) : wtS ((List.range n).map fun r => jn (rowW cs vs r)) ≤ 41 * n := by
  induction n with
  | zero => exact Nat.le_refl _
  | succ n ih =>
    rw [List.range_succ, List.map_append, wtS_app]
    have := row_len g h n
    show _ + wtS [jn (rowW cs vs n)] ≤ _
    rw [wtS_cons, wtS_nil]
    omega
theorem page_len {cs : List Cell} {vs : List Int} (g : Good cs) (h : Vals9 cs.length vs) : (page cs vs).length ≤ 328 := by
  have h1 := jl_len (pgR cs vs)
  have h2 := pg_wt g h (hiN cs)
  have h3 := hiN_le g
  show (jl (pgR cs vs)).length ≤ _
  have : wtS (pgR cs vs) ≤ 41 * hiN cs := h2
  omega
theorem page_sm {cs : List Cell} {vs : List Int} (h : Vals9 cs.length vs) : ∀ c ∈ (page cs vs).cps.toList, c < 16 ^ 8 := by
  intro c hc
  have hc : c ∈ tl (jl (pgR cs vs)) := hc
  rw [tl_jl] at hc
  have e : (128 : Nat) < 16 ^ 8 := by decide
  have : c < 128 := by
    rcases mem_joinS _ _ c hc with z | ⟨p, hp, z⟩
    · rw [List.mem_singleton.mp z]
      decide
    · obtain ⟨x, hx, rfl⟩ := List.mem_map.mp hp
      obtain ⟨r, _, rfl⟩ := List.mem_map.mp hx
      rcases row_mem z with z | ⟨x, z⟩
      · rw [z]
        decide
      · exact wd_sm (fun z hz => (zip_vals h z hz).1) _ c z
  omega
theorem last_row {cs : List Cell} (g : Good cs) {c : Cell} (hl : cs.getLast? = some c) : hiN cs = c.1.toNat + 1 := by
  have hm : c ∈ cs := List.mem_of_getLast? hl
  have h0 := (g.grid c hm).1
  have e : topI (cs.map (·.1)) = c.1 := by
    refine topI_is (List.mem_map.mpr ⟨c, hm, rfl⟩) h0 fun x hx => ?_
    obtain ⟨d, hd, rfl⟩ := List.mem_map.mp hx
    obtain ⟨ys, rfl⟩ : ∃ ys, cs = ys ++ [c] := List.getLast?_eq_some_iff.mp hl
    rcases List.mem_append.mp hd with hd | hd
    · have := (List.pairwise_append.mp g.asc).2.2 d hd c (List.mem_singleton.mpr rfl)
      unfold lt2 at this
      omega
    · rw [List.mem_singleton.mp hd]
      exact Int.le_refl _
  unfold hiN
  rw [e]
/-! ### the dict of a table -/
def keyC (c : Cell) : List L2.Key := [.inl c.1, .inl c.2]
theorem keyC_inj {a b : Cell} : keyC a = keyC b ↔ a = b := by
  obtain ⟨a1, a2⟩ := a
  obtain ⟨b1, b2⟩ := b
  unfold keyC
  simp
/-- the dict holds f of each value, by the cells -/
def DictT (f : Int → V) (zs : List (Cell × Int)) (kvs : List (List L2.Key × V)) : Prop := kvs.length ≤ zs.length ∧ ∀ c, valV kvs (keyC c) = (atC zs c).map f
theorem atC_snoc : ∀ (zs : List (Cell × Int)) (c x : Cell) (v : Int), (∀ z ∈ zs, z.1 ≠ c) → atC (zs ++ [(c, v)]) x = if c = x then some v else atC zs x
  | [], c, x, v, _ => rfl
  | z :: zs, c, x, v, h => by
    have ih := atC_snoc zs c x v fun y hy => h y (List.mem_cons_of_mem _ hy)
    show atC (z :: (zs ++ [(c, v)])) x = _
    by_cases e : z.1 = x
    · rw [atC_eq e, atC_eq e, if_neg (fun q => h z (List.mem_cons_self ..) (e.trans q.symm))]
    · rw [atC_ne e, atC_ne e, ih]
theorem DictT.put {f : Int → V} {zs : List (Cell × Int)} {kvs : List (List L2.Key × V)} {c : Cell} {v : Int} (h : DictT f zs kvs) (nc : ∀ z ∈ zs, z.1 ≠ c) : DictT f (zs ++ [(c, v)]) (putK kvs (keyC c) (f v)) := by
  refine ⟨?_, fun x => ?_⟩
  · have h1 := length_putK kvs (keyC c) (f v)
    have h2 := h.1
    rw [List.length_append]
    show _ ≤ zs.length + 1
    omega
  · rw [valV_put, h.2 x, atC_snoc zs c x v nc]
    by_cases e : c = x
    · rw [if_pos e, if_pos (keyC_inj.mpr e.symm)]
      rfl
    · rw [if_neg e, if_neg (fun q => e (keyC_inj.mp q).symm)]
theorem DictT.nil {f : Int → V} : DictT f [] [] := ⟨Nat.le_refl _, fun c => rfl⟩
theorem dictT_merge {f : Int → V} : ∀ (cs : List Cell) (vs : List Int) (zs : List (Cell × Int)) (kvs : List (List L2.Key × V)), DictT f zs kvs → cs.Nodup → (∀ z ∈ zs, z.1 ∉ cs) → DictT f (zs ++ cs.zip vs) (mergeT kvs ((cs.map keyC).zip (vs.map f)))
  | [], vs, zs, kvs, h, _, _ => by
    rw [List.zip_nil_left, List.append_nil]
    exact h
  | c :: cs, [], zs, kvs, h, _, _ => by
    rw [List.zip_nil_right, List.append_nil]
    exact h
  | c :: cs, v :: vs, zs, kvs, h, nd, ni => by
    have ih := dictT_merge cs vs (zs ++ [(c, v)]) (putK kvs (keyC c) (f v)) (h.put fun z hz e => ni z hz (by rw [e]; exact List.mem_cons_self ..)) (List.nodup_cons.mp nd).2 (fun z hz => by
      rcases List.mem_append.mp hz with hz | hz
      · exact fun q => ni z hz (List.mem_cons_of_mem _ q)
      · rw [List.mem_singleton.mp hz]
        exact (List.nodup_cons.mp nd).1)
    rw [List.append_assoc] at ih
    exact ih
end KS
namespace KS
open PySem PySem.Spec PyProof.Rows L2
/-- for comprehensions within comprehensions -/
def rLenSeq (K : PySem.W.Frag) : List V → Hp → VK → Prop := fun xs H Q => ∃ p ys, xs = [.ref p] ∧ (SqL K H p ys ∨ SqT K H p ys) ∧ Q (.int ys.length) H
theorem call_lenK {X : Cx} {K : PySem.W.Frag} (hK : X.K = K) : CallR X (.builtin "len") (rLenSeq K) := by
  subst hK
  exact call_len_seq
theorem pi_tupK {X : Cx} {K : PySem.W.Frag} {tg l : Expr} {tl : TE} (hK : X.K = K) (hl : PE X l tl) : PI X tg l (iTup K tl) := by
  subst hK
  exact pi_tup hl
theorem pi_listK {X : Cx} {K : PySem.W.Frag} {tg l : Expr} {tl : TE} (hK : X.K = K) (hl : PE X l tl) : PI X tg l (iList K tl) := by
  subst hK
  exact pi_list hl
end KS
namespace KS
open PySem PySem.Spec PyProof.Rows L2 RZ TL
section
variable {X : Cx}
/-- {k: v for ..} as a value, the keys tuples -/
theorem pe_dcT {kx vx tg iter : Expr} {ifs : List Expr} {scope : Scope} {own : List (Str × Nat)} {pos : Pos} {wi : TI} {g : TG} {tt : TT} {tk tv : TE} (hu : X.A.units < cLine) (hc : X.calm = true) (hN : X.N.Nodup) (hi : PI X tg iter wi) (ok : BlkOk X.N X.env.scope scope own)
    (hg : ∀ (s : Shared) (H : Hp) (C : Addr) (cl : List (Str × Addr)) (fp : List Addr), PG (X.blk s H scope (compEnvC scope cl C X.env) fp) tg g)
    (ht : ∀ (s : Shared) (H : Hp) (C : Addr) (cl : List (Str × Addr)) (fp : List Addr), PTs (X.blk s H scope (compEnvC scope cl C X.env) fp) ifs tt)
    (hk : ∀ (s : Shared) (H : Hp) (C : Addr) (cl : List (Str × Addr)) (fp : List Addr), PE (X.blk s H scope (compEnvC scope cl C X.env) fp) kx tk)
    (hv : ∀ (s : Shared) (H : Hp) (C : Addr) (cl : List (Str × Addr)) (fp : List Addr), PE (X.blk s H scope (compEnvC scope cl C X.env) fp) vx tv)
    (hs : ∀ x, foldedSetIterable iter X.env x = pure x := by intro _; rfl) :
    PE X (.DictComp kx vx [⟨tg, iter, ifs, 0⟩] scope pos) (tDcT wi g tt tk tv (own.map (·.2))) := by
  refine ⟨fun pins s σ H Q I h => ?_⟩
  rw [arm_eval_DictComp]
  refine dcT_core hu hc hN I hi ok hg ht hk hv hs h fun D C s' m H' I' q hn f => ⟨m, hn, fun h'' sb => ?_⟩
  obtain ⟨g0, g1, g2, g3, g4, g5⟩ := f
  exact ⟨.ref D, H', I'.turned (t' := s'.toks) (fun b o hb e => (sb.2 b hb).trans e) g0 g1 g3 g4 g5, rfl, q⟩
end
/-- max of a list of whole numbers, for use anywhere -/
theorem cr_maxK {X : Cx} {K : PySem.W.Frag} (hc : X.calm = true) (hK : X.K = K) : CallR X (.builtin "max") (rMax K) := by
  subst hK
  exact cr_max hc
def rJoinK (K : PySem.W.Frag) : V → List V → Hp → VK → Prop := fun x xs H Q => ∃ a p, ∃ ys : List Str, x = .str a ∧ xs = [.ref p] ∧ (SqL K H p (ys.map V.str) ∨ SqT K H p (ys.map V.str)) ∧ (ys.map (·.length)).sum + ys.length * a.length ≤ 16777216 ∧ Q (.str (Txt.join a ys)) H
theorem mt_joinK {X : Cx} {K : PySem.W.Frag} (hK : X.K = K) : MtR X "str.join" (rJoinK K) := by
  subst hK
  exact mt_join
def spFmtT (K : PySem.W.Frag) : Sp := fun xs H Q _ => ∃ (a t : Addr) (cs : List Cell) (vs : List Int), xs = [.ref a, .ref t] ∧ PlanT K H a cs ∧ Good cs ∧ cs.length ≤ 24 ∧ SqT K H t (vs.map V.int) ∧ Vals9 cs.length vs ∧ ∀ H', Same H H' → Q (.str (page cs vs)) H'
end KS
namespace KS
open PySem PySem.Spec PyProof.Rows L2
abbrev sWhole : Stmt := topS 8
abbrev sBetween : Stmt := topS 9
abbrev sPlace : Stmt := topS 10
abbrev sIsCell : Stmt := topS 11
abbrev sCheck : Stmt := topS 12
theorem scWhole : FnScope ["value"] ["value"] (defScope sWhole) := ⟨rfl, rfl, rfl, by decide +kernel, rfl, by decide +kernel, by decide +kernel⟩
theorem scBetween : FnScope ["value", "least", "most"] ["value", "least", "most"] (defScope sBetween) := ⟨rfl, rfl, rfl, by decide +kernel, rfl, by decide +kernel, by decide +kernel⟩
theorem scPlace : FnScope ["value"] ["value"] (defScope sPlace) := ⟨rfl, rfl, rfl, by decide +kernel, rfl, by decide +kernel, by decide +kernel⟩
theorem scIsCell : FnScope ["value"] ["value"] (defScope sIsCell) := ⟨rfl, rfl, rfl, by decide +kernel, rfl, by decide +kernel, by decide +kernel⟩
theorem scCheck : FnScope ["plan", "index", "cell"] ["plan"] (defScope sCheck) := ⟨rfl, rfl, rfl, by decide +kernel, rfl, by decide +kernel, by decide +kernel⟩
section
variable {P : Program} {w : World} {K : PySem.W.Frag} {mg : Str → Option Value} {base : Heap}
theorem ok_whole {f : Addr} {fd : FuncData} (F : Fun K "is_whole" "is_whole" sWhole f fd) (mi : mg "isinstance" = none) (mI : mg "int" = none) (mB : mg "bool" = none) : FnOk P w K mg base CX0 1 f fd ["value"] spWhole := by
  refine F.ok scWhole (fun vs H Q E h => ?_) (fun cdv A outer s H vs Q E hr h => ?_)
  · obtain ⟨i, rfl, _⟩ := h
    rfl
  · obtain ⟨i, rfl, q⟩ := h
    refine ⟨_, pss_one (ps_ret (pe_and (pe_callB call_isi (by rfl) mi (by decide +kernel) (pa_cons (pv 0) (pa_cons (pe_bltn (v := .ty "int") (by rfl) mI (by decide +kernel) rfl) pa_nil)))
      (pe_one (pe_not (pe_callB call_isi (by rfl) mi (by decide +kernel) (pa_cons (pv 0) (pa_cons (pe_bltn (v := .ty "bool") (by rfl) mB (by decide +kernel) rfl) pa_nil))))))), ?_⟩
    refine ⟨_, rfl, _, _, _, _, true, rfl, .ty "int", .base (.int i), kit_ty (by decide +kernel), true, rfl, ?_⟩
    refine ⟨_, rfl, _, _, _, _, false, rfl, .ty "bool", .base (.int i), kit_ty (by decide +kernel), false, rfl, ?_⟩
    exact q
theorem ok_between {f fW : Addr} {fd fdW : FuncData} (F : Fun K "is_between" "is_between" sBetween f fd) (GW : FnOk P w K mg base CX0 1 fW fdW ["value"] spWhole) (bW : Binds K fdW ["value"] []) (gW : mg "is_whole" = some (.ref fW)) (kW : PySem.W.keepIn K (.ref fW) = true) :
    FnOk P w K mg base CX0 2 f fd ["value", "least", "most"] spBetween := by
  refine F.ok scBetween (fun vs H Q E h => ?_) (fun cdv A outer s H vs Q E hr h => ?_)
  · obtain ⟨i, lo, hi, rfl, _⟩ := h
    rfl
  · obtain ⟨i, lo, hi, rfl, h1, h2, q⟩ := h
    refine ⟨_, pss_one (ps_ret (pe_and (pe_call GW hr (by rfl) gW kW bW .nil pass0 (pa_cons (pv 0) pa_nil)) (pe_one (pe_chain op_le op_le (pv 1) (pv 0) (pv 2))))), ?_⟩
    refine ⟨_, rfl, i, rfl, true, rfl, ?_⟩
    refine ⟨_, rfl, _, rfl, _, _, rfl, rfl, true, bl_true h1, ?_⟩
    refine ⟨_, rfl, _, _, rfl, rfl, ?_⟩
    show Q (V.bl (decide (i ≤ hi))) H
    rw [bl_true h2]
    exact q
theorem ok_place {f fB : Addr} {fd fdB : FuncData} {t : Tok} (F : Fun K "is_place" "is_place" sPlace f fd) (GB : FnOk P w K mg base CX0 2 fB fdB ["value", "least", "most"] spBetween) (bB : Binds K fdB ["value", "least", "most"] []) (gB : mg "is_between" = some (.ref fB)) (kB : PySem.W.keepIn K (.ref fB) = true)
    (mM : mg "MOST_INDEX" = some (.int 7 t)) : FnOk P w K mg base CX0 3 f fd ["value"] spPlace := by
  refine F.ok scPlace (fun vs H Q E h => ?_) (fun cdv A outer s H vs Q E hr h => ?_)
  · obtain ⟨i, rfl, _⟩ := h
    rfl
  · obtain ⟨i, rfl, hp, q⟩ := h
    refine ⟨_, pss_one (ps_ret (pe_call GB hr (by rfl) gB kB bB .nil pass0 (pa_cons (pv 0) (pa_cons pe_int (pa_cons (pe_glob (v := .int 7) (by rfl) mM ⟨_, rfl⟩) pa_nil))))), ?_⟩
    exact ⟨_, rfl, i, 0, 7, rfl, hp.1, hp.2, q⟩
theorem ok_isCell {f fP : Addr} {fd fdP : FuncData} (F : Fun K "is_cell" "is_cell" sIsCell f fd) (GP : FnOk P w K mg base CX0 3 fP fdP ["value"] spPlace) (bP : Binds K fdP ["value"] []) (gP : mg "is_place" = some (.ref fP)) (kP : PySem.W.keepIn K (.ref fP) = true)
    (mi : mg "isinstance" = none) (mT : mg "tuple" = none) (ml : mg "len" = none) : FnOk P w K mg base CX0 4 f fd ["value"] (spIsCell K) := by
  refine F.ok scIsCell (fun vs H Q E h => ?_) (fun cdv A outer s H vs Q E hr h => ?_)
  · obtain ⟨a, c, rfl, _⟩ := h
    rfl
  · obtain ⟨a, c, rfl, ht, hg, q⟩ := h
    refine ⟨_, pss_one (ps_ret (pe_and (pe_callB call_isi (by rfl) mi (by decide +kernel) (pa_cons (pv 0) (pa_cons (pe_bltn (v := .ty "tuple") (by rfl) mT (by decide +kernel) rfl) pa_nil)))
      (pe_and (pe_cmpR op_eq (pe_callB call_len_seq (by rfl) ml PySem.boot_len (pa_cons (pv 0) pa_nil)) pe_int (nomark _))
      (pe_and (pe_call GP hr (by rfl) gP kP bP .nil pass0 (pa_cons (pe_ix ix_tup (pv 0) pe_int (fun _ _ => rfl)) pa_nil))
      (pe_one (pe_call GP hr (by rfl) gP kP bP .nil pass0 (pa_cons (pe_ix ix_tup (pv 0) pe_int (fun _ _ => rfl)) pa_nil))))))), ?_⟩
    refine ⟨_, rfl, _, _, _, _, true, rfl, .ty "tuple", tyx_tup ht, kit_ty (by decide +kernel), true, rfl, ?_⟩
    refine ⟨_, rfl, a, _, rfl, .inr ht, rfl, true, rfl, ?_⟩
    refine ⟨_, rfl, a, _, 0, .int c.1, rfl, rfl, ht, rfl, c.1, rfl, ⟨hg.1, hg.2.1⟩, true, rfl, ?_⟩
    exact ⟨_, rfl, a, _, 1, .int c.2, rfl, rfl, ht, rfl, c.2, rfl, ⟨hg.2.2.1, hg.2.2.2⟩, q⟩
theorem ok_check {f fI : Addr} {fd fdI : FuncData} {t : Tok} (F : Fun K "check_plan" "check_plan" sCheck f fd) (GI : FnOk P w K mg base CX0 4 fI fdI ["value"] (spIsCell K)) (bI : Binds K fdI ["value"] []) (gI : mg "is_cell" = some (.ref fI)) (kI : PySem.W.keepIn K (.ref fI) = true)
    (mi : mg "isinstance" = none) (mT : mg "tuple" = none) (ml : mg "len" = none) (me : mg "enumerate" = none) (mM : mg "MOST_CELLS" = some (.int 24 t)) : FnOk P w K mg base CX0 5 f fd ["plan"] (spCheck K) := by
  refine F.ok scCheck (fun vs H Q E h => ?_) (fun cdv A outer s H vs Q E hr h => ?_)
  · obtain ⟨a, c, rfl, _⟩ := h
    rfl
  · obtain ⟨a, cs, rfl, ⟨xs, hx, hc⟩, gd, hl, q⟩ := h
    have nd := scCheck.nd
    refine ⟨_, pss_cons (ps_if (PW.pt (pw_or (pt_not (pt_val (pe_callB call_isi (by rfl) mi (by decide +kernel) (pa_cons (pv 0) (pa_cons (pe_bltn (v := .ty "tuple") (by rfl) mT (by decide +kernel) rfl) pa_nil)))))
          (pw_or1 (pt_not (pt_chain op_le op_le pe_int (pe_callB call_len_seq (by rfl) ml PySem.boot_len (pa_cons (pv 0) pa_nil)) (pe_glob (v := .int 24) (by rfl) mM ⟨_, rfl⟩))))))
        (pss_one ps_never) pss_nil)
      (pss_one (ps_for PassesOwn.never rfl (pi_enumT (by rfl) me (pa_cons (pv 0) pa_nil)) (pg_tup (by rfl) (pgs_cons (pg_name (i := 1) nd rfl (.inl rfl)) (pgs_cons (pg_name (i := 2) nd rfl (.inl rfl)) pgs_nil)))
        (pss_cons (ps_if (pt_not (pt_val (pe_call GI hr (by rfl) gI kI bI .nil pass0 (pa_cons (pv 2) pa_nil)))) (pss_one ps_never) pss_nil)
        (pss_one (ps_if (PW.pt (pw_and (pt_cmpR op_gt (pv 1) pe_int (nomark _)) (pw_and1 (pt_cmpR (op_leT hr.units0) (pv 2) (pe_ix ix_tup (pv 0) (pe_op op_sub (pv 1) pe_int) (fun _ _ => rfl)) (nomark _))))) (pss_one ps_never) pss_nil))))), ?_⟩
    have hlen := Paired.length hc
    have h1 : 1 ≤ xs.length := by
      rcases Nat.eq_zero_or_pos cs.length with z | z
      · exact absurd (List.eq_nil_of_length_eq_zero z) gd.ne
      · omega
    refine ⟨_, rfl, _, _, _, _, true, rfl, .ty "tuple", tyx_tup hx, kit_ty (by decide +kernel), true, rfl, ?_⟩
    refine ⟨_, rfl, a, _, rfl, .inr hx, _, _, rfl, rfl, true, bl_true (show (1 : Int) ≤ (xs.length : Int) by omega), ?_⟩
    refine ⟨_, _, rfl, rfl, true, bl_true (show (xs.length : Int) ≤ 24 by omega), ?_⟩
    refine ⟨_, rfl, a, xs, rfl, hx, for_enumT (K := K) (a := a) (xs := xs) (fun i σ H' => Same H H' ∧ ∃ y1 y2, σ = [some (.ref a), y1, y2]) ?_ ?_ ?_ ?_⟩
    · exact ⟨Same.refl _, none, none, rfl⟩
    · rintro i σ H' _ ⟨sm, _⟩
      exact same_seqT sm hx
    · rintro i x σ H' T hi ⟨sm, y1, y2, rfl⟩ nT
      obtain ⟨c, hci, tt, rfl, ht⟩ := paired_get hc hi
      have sT := same_new (o := .tup [.int (i : Nat), .ref tt]) nT
      have s2 := sm.trans sT
      refine ⟨T, _, rfl, SqT.of upd_same, rfl, _, _, rfl, _, _, rfl, rfl, ?_⟩
      refine ⟨_, rfl, tt, c, rfl, same_seqT s2 ht, gd.grid c (List.mem_of_getElem? hci), true, rfl, ?_⟩
      refine ⟨_, rfl, _, _, rfl, rfl, _, rfl, ite2 (fun e => ?_) (fun e => ?_)⟩
      · have e' : (0 : Int) < (i : Int) := of_decide_eq_true e
        obtain ⟨j, rfl⟩ : ∃ j, i = j + 1 := ⟨i - 1, by omega⟩
        have hj : j < xs.length := by
          have := (List.getElem?_eq_some_iff.mp hi).1
          omega
        obtain ⟨c0, hc0, t0, e0, ht0⟩ := paired_get hc (List.getElem?_eq_getElem hj)
        have gx : xs[j]? = some (.ref t0) := by rw [List.getElem?_eq_getElem hj, e0]
        have ej : ((j + 1 : Nat) : Int) - 1 = ((j : Nat) : Int) := by omega
        refine ⟨_, rfl, _, rfl, _, rfl, _, _, rfl, rfl, a, xs, _, .ref t0, rfl, rfl, same_seqT s2 hx, ?_, tt, t0, [c.1, c.2], [c0.1, c0.2], rfl, rfl, same_seqT s2 ht, same_seqT s2 ht0, false, ?_, ?_⟩
        · show atI xs (((j + 1 : Nat) : Int) - 1) = _
          rw [ej]
          exact atI_nat gx
        · rw [not_le2 (good_step gd.asc hc0 hci)]
        · exact ⟨s2, _, _, rfl⟩
      · exact ⟨s2, _, _, rfl⟩
    · rintro σ H' ⟨sm, _⟩
      exact q H' sm
end
end KS
namespace KS
open PySem PySem.Spec PyProof.Rows L2
abbrev sIsKind : Stmt := topS 13
abbrev sKind : Stmt := topS 14
theorem scIsKind : FnScope ["value"] ["value"] (defScope sIsKind) := ⟨rfl, rfl, rfl, by decide +kernel, rfl, by decide +kernel, by decide +kernel⟩
theorem scKind : FnScope ["kind"] ["kind"] (defScope sKind) := ⟨rfl, rfl, rfl, by decide +kernel, rfl, by decide +kernel, by decide +kernel⟩
section
variable {P : Program} {w : World} {K : PySem.W.Frag} {mg : Str → Option Value} {base : Heap}
theorem ok_isKind {f : Addr} {fd : FuncData} (F : Fun K "is_kind" "is_kind" sIsKind f fd) (mi : mg "isinstance" = none) (mS : mg "str" = none) : FnOk P w K mg base CX0 1 f fd ["value"] spIsKind := by
  refine F.ok scIsKind (fun vs H Q E h => ?_) (fun cdv A outer s H vs Q E hr h => ?_)
  · obtain ⟨b, rfl, _⟩ := h
    rfl
  · obtain ⟨b, rfl, q⟩ := h
    refine ⟨_, pss_one (ps_ret (pe_and (pe_callB call_isi (by rfl) mi (by decide +kernel) (pa_cons (pv 0) (pa_cons (pe_bltn (v := .ty "str") (by rfl) mS (by decide +kernel) rfl) pa_nil)))
        (pe_one (pe_cmpR op_in_seq (pv 0) (pe_tup (pa_cons pe_str (pa_cons pe_str pa_nil))) (by rfl))))), ?_⟩
    refine ⟨_, rfl, _, _, _, _, true, rfl, .ty "str", .base (.str _), kit_ty (by decide +kernel), true, rfl, ?_⟩
    refine ⟨_, rfl, (by show 2 ≤ sizeLine; decide), fun t nt => ⟨t, _, rfl, .inr (SqT.of upd_same), rfl, rfl, ?_⟩⟩
    have e : inV (V.str (if b = true then "C" else "R")) [V.str "R", V.str "C"] = true := by cases b <;> decide +kernel
    show Q (V.bl (inV (V.str (if b = true then "C" else "R")) [V.str "R", V.str "C"])) _
    rw [e]
    exact q _ (same_new nt)
theorem ok_kind {f fI : Addr} {fd fdI : FuncData} (F : Fun K "check_kind" "check_kind" sKind f fd) (GI : FnOk P w K mg base CX0 1 fI fdI ["value"] spIsKind) (bI : Binds K fdI ["value"] []) (gI : mg "is_kind" = some (.ref fI)) (kI : PySem.W.keepIn K (.ref fI) = true) : FnOk P w K mg base CX0 2 f fd ["kind"] spKind := by
  refine F.ok scKind (fun vs H Q E h => ?_) (fun cdv A outer s H vs Q E hr h => ?_)
  · obtain ⟨b, rfl, _⟩ := h
    rfl
  · obtain ⟨b, rfl, q⟩ := h
    refine ⟨_, pss_one (ps_if (pt_not (pt_val (pe_call GI hr (by rfl) gI kI bI .nil pass0 (pa_cons (pv 0) pa_nil)))) (pss_one ps_never) pss_nil), ?_⟩
    exact ⟨_, rfl, b, rfl, fun H' sm => ⟨true, rfl, q H' sm⟩⟩
end
end KS
namespace KS
open PySem PySem.Spec PyProof.Rows L2
abbrev sLines : Stmt := topS 16
abbrev nLines : List Str := ["plan", "kind", "side", "found", "index", "cell", "place"]
theorem scLines : FnScope nLines ["plan", "kind"] (defScope sLines) := ⟨rfl, rfl, rfl, by decide +kernel, rfl, by decide +kernel, by decide +kernel⟩
section
variable {P : Program} {w : World} {K : PySem.W.Frag} {mg : Str → Option Value} {base : Heap}
theorem ok_lines {f fC fK : Addr} {fd fdC fdK : FuncData} (F : Fun K "lines" "lines" sLines f fd) (GC : FnOk P w K mg base CX0 5 fC fdC ["plan"] (spCheck K)) (bC : Binds K fdC ["plan"] []) (gC : mg "check_plan" = some (.ref fC)) (kC : PySem.W.keepIn K (.ref fC) = true)
    (GK : FnOk P w K mg base CX0 2 fK fdK ["kind"] spKind) (bK : Binds K fdK ["kind"] []) (gK : mg "check_kind" = some (.ref fK)) (kK : PySem.W.keepIn K (.ref fK) = true)
    (me : mg "enumerate" = none) (mT : mg "tuple" = none) (mS : mg "sorted" = none) : FnOk P w K mg base CX0 6 f fd ["plan", "kind"] (spLines K) := by
  refine F.ok scLines (fun vs H Q E h => ?_) (fun cdv A outer s H vs Q E hr h => ?_)
  · obtain ⟨a, b, cs, rfl, _⟩ := h
    rfl
  · obtain ⟨a, b, cs, rfl, ⟨xs, hx, hc⟩, gd, hl, q⟩ := h
    have nd := scLines.nd
    have hr1 : Room 2 _ := hr.mono (by decide)
    refine ⟨_, pss_cons (ps_expr (pe_call GC hr (by rfl) gC kC bC .nil pass0 (pa_cons (pv 0) pa_nil)))
      (pss_cons (ps_expr (pe_call GK hr1 (by rfl) gK kK bK .nil pass0 (pa_cons (pv 1) pa_nil)))
      (pss_cons (ps_set (i := 2) nd rfl (.inl rfl) (pe_ifExp (pt_cmpR op_eq (pv 1) pe_str (nomark _)) pe_int pe_int))
      (pss_cons (ps_set (i := 3) nd rfl (.inr rfl) pe_dnewK)
      (pss_cons (ps_for PassesOwn.never rfl (pi_enumT (by rfl) me (pa_cons (pv 0) pa_nil)) (pg_tup (by rfl) (pgs_cons (pg_name (i := 4) nd rfl (.inl rfl)) (pgs_cons (pg_name (i := 5) nd rfl (.inl rfl)) pgs_nil)))
        (pss_one (ps_expr (pe_bm PySem.F.plainAttrs_list PySem.F.slot_list_append PySem.F.type_list_append mt_append
          (pe_dsetd (pv 3) (pe_ix ix_tup (pv 5) (pv 2) (fun _ _ => rfl)) (pe_lst pa_nil) ⟨by rfl, by rfl, by rfl, by rfl⟩) (pa_cons (pv 4) pa_nil)))))
      (pss_one (ps_ret (pe_callTy call_tuple_of (by rfl) mT (by decide +kernel) (pa_cons
        (pe_lc (own := [("place", 6)]) (g := gName 6) (tt := tYes) rfl nd (pi_list (pe_callB (call_sortedDI rfl) (by rfl) mS (by decide +kernel) (pa_cons (pv 3) pa_nil))) (blkOk_by (N := nLines) (sc := defScope sLines) (by decide +kernel))
          (fun _ _ _ _ _ => pg_name (i := 6) nd rfl (Or.inl rfl)) (fun _ _ _ _ _ => pts_nil)
          (fun _ _ _ _ _ => pe_callTy (T := "tuple") (r := rTupOf K) cr_tupOf (by rfl) mT (by decide +kernel) (pa_cons (pe_dget (hu_of hr) (pv 3) (pv 6) (fun _ _ => rfl)) pa_nil))) pa_nil)))))))), ?_⟩
    refine ⟨_, rfl, a, cs, rfl, ⟨xs, hx, hc⟩, gd, hl, fun H1 s1 => ?_⟩
    refine ⟨_, rfl, b, rfl, fun H2 s2 => ?_⟩
    refine side_ok (b := b) rfl ?_
    intro d nd0
    have s3 := (s1.trans s2).trans (same_new (o := .dK []) nd0)
    refine ⟨_, rfl, a, xs, rfl, same_seqT s3 hx, for_enumT (K := K) (a := a) (xs := xs) (fun i σ H' => ∃ (kvs : List (Key × V)) (ad : Int → Addr) (y4 y5 : Option V),
      σ = [some (.ref a), some (.str (if b = true then "C" else "R")), some (.int (if b = true then 1 else 0)), some (.ref d), y4, y5, none] ∧ Same H H' ∧ H d = none ∧ Grp b cs i d kvs ad H' ∧ (∀ r, idxs b cs i r ≠ [] → H (ad r) = none)) ?_ ?_ ?_ ?_⟩
    · refine ⟨[], fun _ => d, none, none, rfl, s3, (s1.trans s2).free nd0, ⟨upd_same, ⟨[], rfl, by simp, Nat.zero_le _⟩, fun r => rfl, fun r h => absurd rfl h, fun r r' h => absurd rfl h⟩, fun r h => absurd rfl h⟩
    · rintro i σ H' _ ⟨kvs, ad, y4, y5, rfl, sm, _⟩
      exact same_seqT sm hx
    · rintro i x σ H' T hi ⟨kvs, ad, y4, y5, rfl, sm, hd0, g, hn⟩ nT
      obtain ⟨c, hci, tt, rfl, ht⟩ := paired_get hc hi
      have sT := same_new (o := .tup [.int (i : Nat), .ref tt]) nT
      have s4 := sm.trans sT
      have g1 := g.same sT
      refine ⟨T, _, rfl, SqT.of upd_same, rfl, _, _, rfl, _, _, rfl, rfl, ?_⟩
      refine ⟨_, rfl, d, rfl, .inl ⟨kvs, Rd.of g1.dict⟩, _, rfl, _, rfl, tt, _, _, _, rfl, rfl, same_seqT s4 ht, at_pick, Nat.zero_le _, fun z nz => ?_⟩
      have sz := same_new (o := .lst []) nz
      have g2 := g1.same sz
      obtain ⟨ks, k1, k2, k3⟩ := g2.keys
      have hlen : kvs.length ≤ 24 := by
        have := congrArg List.length k1
        rw [List.length_map, List.length_map] at this
        have := (List.getElem?_eq_some_iff.mp hci).1
        omega
      refine ⟨kvs, .inl (pick b c), g2.dict, rfl, small64 (by omega), fun v hv => ?_, fun hv => ?_⟩
      · have hne : idxs b cs i (pick b c) ≠ [] := fun e => by
          rw [g2.val, if_pos e] at hv
          cases hv
        rw [g2.val, if_neg hne] at hv
        cases hv
        have hL := g2.lst _ hne
        refine ⟨.inl ⟨rfl, _, SqL.of hL⟩, _, rfl, _, _, _, rfl, rfl, hL, ?_, ?_⟩
        · rw [List.length_map]
          have := idxs_len b cs i (pick b c)
          have := (List.getElem?_eq_some_iff.mp hci).1
          exact small64 (by omega)
        · refine ⟨kvs, ad, _, _, rfl, fun q o e => ?_, hd0, g2.more hci hne, fun r hr => ?_⟩
          · rw [upd_ne (ne_of_none e (hn _ hne))]
            exact sz _ _ (s4 _ _ e)
          · by_cases e : pick b c = r
            · subst e
              exact hn _ hne
            · rw [idxs_miss hci e] at hr
              exact hn r hr
      · have he : idxs b cs i (pick b c) = [] := by
          by_cases e : idxs b cs i (pick b c) = []
          · exact e
          · rw [g2.val, if_neg e] at hv
            cases hv
        have hdz : z ≠ d := Ne.symm (ne_of_none g1.dict nz)
        refine ⟨.inl ⟨rfl, [], SqL.of (by rw [upd_ne hdz, upd_same])⟩, _, rfl, z, [], _, rfl, rfl, by rw [upd_ne hdz, upd_same], by rw [sizeLine_eq]; decide, ?_⟩
        have zH : H z = none := by
          cases e : H z with
          | none => rfl
          | some o =>
            have := s4 _ _ e
            rw [nz] at this
            cases this
        refine ⟨_, _, _, _, rfl, fun q o e => ?_, hd0, g1.new hci he nz, fun r hr => ?_⟩
        · rw [upd_ne (ne_of_none e zH), upd_ne (ne_of_none e hd0)]
          exact sz _ _ (s4 _ _ e)
        · show H (if _ then z else _) = none
          by_cases e : r = pick b c
          · rw [if_pos e]
            exact zH
          · rw [if_neg e]
            rw [idxs_miss hci (Ne.symm e)] at hr
            exact hn r hr
    · rintro σ H' ⟨kvs, ad, y4, y5, rfl, sm, hd0, g, hn⟩
      have hlen := Paired.length hc
      rw [hlen] at g hn
      obtain ⟨ks, k1, k2, k3⟩ := g.keys
      refine ⟨_, rfl, d, kvs, ks, rfl, Rd.of g.dict, k1, by omega, fun ys p perm pw np => ?_⟩
      have ey := g.used gd.grid k1 k2 perm pw
      subst ey
      have sp := same_new (o := .lst ((usedOf b cs).map V.int)) np
      have hul : (usedOf b cs).length ≤ 8 := by
        unfold usedOf
        exact Nat.le_trans (List.length_filter_le _ _) (by simp)
      refine ⟨p, rfl, ⟨_, SqL.of upd_same⟩, fun D nD => ?_⟩
      refine lc_list (K := K) (a := p) (xs := (usedOf b cs).map V.int) (fun j H2 => ∃ acc : List V, H2 D = some (.lst acc) ∧ Paired (TupI K H2) acc (((usedOf b cs).take j).map fun r => idxs b cs cs.length r) ∧
        (∀ q o, q ≠ D → upd H' p (.lst ((usedOf b cs).map V.int)) q = some o → H2 q = some o)) ?_ ?_ ?_ ?_
      · exact ⟨[], upd_same, .nil, fun q o n e => by rw [upd_ne n]; exact e⟩
      · rintro j H2 _ ⟨acc, a1, a2, a3⟩
        exact SqL.of (a3 _ _ (ne_of_none (H := upd H' p (.lst ((usedOf b cs).map V.int))) upd_same nD) upd_same)
      · rintro j x H2 hj ⟨acc, a1, a2, a3⟩
        have sD : Same (upd H' p (.lst ((usedOf b cs).map V.int))) H2 := fun q o e => a3 q o (ne_of_none e nD) e
        rw [List.getElem?_map] at hj
        cases er : (usedOf b cs)[j]? with
        | none =>
          rw [er] at hj
          cases hj
        | some r =>
          rw [er] at hj
          cases hj
          have hr := (used_mem gd.grid r).mp (List.mem_of_getElem? er)
          have gg := g.same (sp.trans sD)
          have hL := gg.lst r hr
          have hal : acc.length ≤ 8 := by
            rw [Paired.length a2, List.length_map, List.length_take]
            omega
          refine ⟨rfl, _, rfl, _, rfl, d, .ref (ad r), rfl, .inl ⟨kvs, .inl r, Rd.of gg.dict, rfl, by rw [gg.val, if_neg hr]⟩, ad r, _, rfl, .inl ⟨SqL.of hL, fun t nt => ?_⟩⟩
          have st := same_new (o := .tup ((idxs b cs cs.length r).map V.int)) nt
          have nDt : D ≠ t := ne_of_none a1 nt
          refine ⟨acc, st _ _ a1, small64 (by omega), acc ++ [.ref t], upd_same, ?_, fun q o n e => ?_⟩
          · rw [List.take_add_one, er, List.map_append]
            refine paired_append (tupI_kt ((KT.of_same st).trans (KT.upd (st _ _ a1))) a2) (.cons ⟨t, rfl, SqT.of ?_⟩ .nil)
            rw [upd_ne (Ne.symm nDt), upd_same]
          · rw [upd_ne n]
            exact st _ _ (a3 q o n e)
      · rintro H2 ⟨acc, a1, a2, a3⟩
        rw [List.length_map, List.take_length, used_lines] at a2
        have sD : Same (upd H' p (.lst ((usedOf b cs).map V.int))) H2 := fun q o e => a3 q o (ne_of_none e nD) e
        refine ⟨D, acc, rfl, .inl ⟨SqL.of a1, fun l nl => ?_⟩⟩
        have sl := same_new (o := .tup acc) nl
        exact q _ l acc (((sm.trans sp).trans sD).trans sl) (SqT.of upd_same) (tupI_kt (.of_same sl) a2)
end
end KS
namespace KS
open PySem PySem.Spec PyProof.Rows L2 RZ
abbrev nAlong : List Str := ["groups", "filling", "result", "line", "index", "values", "value"]
section
variable {P : Program} {w : World} {K : PySem.W.Frag} {mg : Str → Option Value} {base : Heap}
end
end KS
namespace KS
open PySem PySem.Spec PyProof.Rows L2 RZ TL
abbrev nFmtT : List Str := ["plan", "filling", "values", "height", "width", "rows", "cell", "value", "row", "column", "words"]
def strV (v : Int) : V := .str (nmS v)
section
variable {P : Program} {w : World} {K : PySem.W.Frag} {mg : Str → Option Value} {base : Heap}
theorem log4 {v : Int} (h1 : 1 ≤ v) (h2 : v ≤ 9999) : v.natAbs.log2 < 1920 := by
  obtain ⟨k, rfl⟩ := Int.eq_ofNat_of_zero_le (show 0 ≤ v by omega)
  have hk : k < 2 ^ 14 := by omega
  rw [Int.natAbs_natCast]
  exact Nat.lt_of_lt_of_le ((Nat.log2_lt (by omega)).mpr hk) (by decide)
theorem take_asc {zs : List (Cell × Int)} (h : Asc zs) {j : Nat} {z : Cell × Int} (e : zs[j]? = some z) : ∀ x ∈ zs.take j, x.1 ≠ z.1 := by
  intro x hx q
  have hl := (List.getElem?_eq_some_iff.mp e).1
  have t1 : zs.take (j + 1) = zs.take j ++ [z] := by
    rw [List.take_add_one, e]
    rfl
  have p : Asc (zs.take (j + 1)) := List.Pairwise.sublist (List.take_sublist _ _) h
  rw [t1] at p
  have := (List.pairwise_append.mp p).2.2 x hx z (List.mem_singleton.mpr rfl)
  rw [q] at this
  exact lt2_irr this
theorem wdAt_get (zs : List (Cell × Int)) (c : Cell) : ((atC zs c).map strV).getD (V.str ".") = V.str (wdAt zs c) := by
  unfold wdAt
  cases atC zs c <;> rfl
end
end KS
namespace KS
open PySem PySem.Spec PyProof.Rows L2
/-! ### enumerate(z), z a text -/
def IteS (z : Str) : It where
  go := fun i _ => i < z.cps.size
  yld := fun i H v H' => ∃ (T : Addr) (c : Nat), v = .ref T ∧ H T = none ∧ z.cps[i]? = some c ∧ H' = upd H T (.tup [.int (i : Nat), .str ⟨#[c]⟩])
  stop := fun i _ => i = z.cps.size
def EnS (z : Str) (t : Tok) (e it : Addr) (i : Nat) (h : Heap) : Prop := (∃ old, IsEnum h e it ((i : Nat) : Int) old) ∧ h.IsStrIter it (strIterType z) z t i ∧ e ≠ it
theorem mem2 {b e it : Addr} (h : b ∈ [e, it]) : b = e ∨ b = it := by simpa using h
theorem strIter_at {h h' : Heap} {a : Addr} {ty : String} {x : Str} {t : Tok} {i : Nat} (y : h.IsStrIter a ty x t i) (k : ∀ o, h.get? a = some o → h'.get? a = some o) : h'.IsStrIter a ty x t i := by
  obtain ⟨o, ho, r⟩ := y
  exact ⟨o, k o ho, r⟩
theorem ens_obj {z : Str} {t : Tok} {e it b : Addr} {i : Nat} {h : Heap} (st : EnS z t e it i h) (hb : b ∈ [e, it]) : ∃ o, h.get? b = some o ∧ ∀ v, o.data ≠ .cell v := by
  obtain ⟨⟨old, q1⟩, ⟨o, q2, _, d⟩, _⟩ := st
  rcases mem2 hb with r | r <;> subst r
  · exact ⟨_, q1, fun v w => nomatch w⟩
  · exact ⟨o, q2, fun v w => by rw [d] at w; cases w⟩
theorem turn_enumS {P : Program} {w : World} {K : PySem.W.Frag} {elts : List Expr} {kk : Nat} {tpos : Pos} (z : Str) (t : Tok) (e it : Addr) : Turn P w K (.Tuple elts kk tpos) (IteS z) [e, it] e (EnS z t e it) where
  mem := List.mem_cons_self
  obj := fun i h st b hb => ens_obj st hb
  keep := fun i h h' st k => ⟨st.1.elim fun old q => ⟨old, k e (by simp) _ q⟩, strIter_at st.2.1 fun o q => k it (by simp) o q, st.2.2⟩
  self := fun A i s Q E st h => st.1.elim fun old q => wpAny_pyIter_enum q h
  item := by
    intro X hP hw hK hc i pins s σ H E I hf st hg
    subst hP hw hK
    have st0 := st
    obtain ⟨⟨old, q1⟩, q2, ne⟩ := st
    have hh : X.A.in1.handled = none := I.ok.hd hc
    have el : e < s.heap.objs.size := Heap.lt_size q1
    refine wpAny_pyNext_enum_itemD (Draws.text hh it z t) q1 q2 hg ne (by simp [ne]) fun u h1 tk hu ho hst hT sz kp => ?_
    obtain ⟨c, tu, hcx, rfl⟩ := hu
    refine ⟨_, rfl, wpAny_letOwnedTupleGo_enum (s := { s with heap := h1, toks := tk + 1 }) ho fun h2 e2 sb => ?_⟩
    have hT2 : h2.get? s.heap.objs.size = some { cls := .type "tuple", data := .seq #[.int i tk, .str ⟨#[c]⟩ tu] } := (sb.2 _ (Nat.ne_of_gt el)).trans hT
    have nw : ObjOk X.prog X.w (upd H s.heap.objs.size (.tup [.int (i : Nat), .str ⟨#[c]⟩])) h2 s.heap.objs.size (.tup [.int (i : Nat), .str ⟨#[c]⟩]) :=
      ⟨by show 2 ≤ sizeLine; decide, [.int i tk, .str ⟨#[c]⟩ tu], .cons ⟨_, rfl⟩ (.cons ⟨_, rfl⟩ .nil), ⟨_, hT2, rfl, _, rfl⟩⟩
    have I1 : Inv X pins σ (upd H s.heap.objs.size (.tup [.int (i : Nat), .str ⟨#[c]⟩])) { s with heap := h2, toks := tk + 1 } := by
      refine I.turnedNew (ch := [e, it]) (fun b o n q => ?_) hf (Nat.le_refl _) nw
      have n1 : b ≠ e := fun r => n (by simp [r])
      have n2 : b ≠ it := fun r => n (by simp [r])
      exact (sb.2 b n1).trans (kp b o n1 n2 q)
    refine ⟨.ref s.heap.objs.size, _, I1, rfl, ⟨_, c, rfl, I.hok.fresh (Nat.le_refl _), hcx, rfl⟩, ⟨⟨.str ⟨#[c]⟩ tu, ?_⟩, strIter_at hst fun o q => (sb.2 it (Ne.symm ne)).trans q, ne⟩, fun b hb => ?_⟩
    · have r : ((i + 1 : Nat) : Int) = (i : Int) + 1 := by omega
      rw [r]
      exact e2
    · obtain ⟨o, ho, _⟩ := ens_obj st0 hb
      rw [upd_ne (Nat.ne_of_lt (Heap.lt_size ho))]
      exact (hf b hb).1
  done := by
    intro X hP hw hK hc i pins s σ H E I hf st hg
    subst hP hw hK
    obtain ⟨⟨old, q1⟩, q2, ne⟩ := st
    have hh : X.A.in1.handled = none := I.ok.hd hc
    have hg' : i = z.cps.size := hg
    subst hg'
    obtain ⟨f0, f1, f2, f3, f4, f5⟩ := hf it (by simp)
    exact wpAny_pyNext_enum_endD (Draws.text hh it z t) q1 q2 fun h1 eb => ⟨rfl, I.turned (t' := s.toks) (fun b o hb q => eb b o hb q) f0 f1 f3 f4 f5⟩
def iEnumS (ta : TA) : TI := fun σ H R => ta σ H fun vs H1 => ∃ z, vs = [.str z] ∧ R (IteS z) H1
theorem pi_enumS {X : Cx} {e : Expr} {ta : TA} {p pos tpos : Pos} {elts : List Expr} {kk : Nat} (hg : Gl X "enumerate") (hm : X.mg "enumerate" = none) (ha : PA X [e] ta)
    (hs : starEach [e] X.env = [(false, eval e X.env)] := by rfl) : PI X (.Tuple elts kk tpos) (.Call (.Name "enumerate" p) [e] [] pos) (iEnumS ta) := by
  refine ⟨fun pins s σ H R I h => Call_ (ld_blt I hg hm boot_enumerate (PyProof.Rows.callWith_type1 (thn (ha.run pos pins s σ H _ I h) fun us s1 hh => ?_) hs rfl))⟩
  obtain ⟨vs, H1, I1, r1, z, ex, q⟩ := hh
  subst ex
  cases r1 with
  | cons r rr =>
    cases rr
    obtain ⟨t, rfl⟩ := r
    refine call_enumerate_str fun h1 he hit sz kp => wpAny_pyIter_enum he ?_
    have I2 : Inv X pins σ H1 { s1 with heap := h1 } := I1.kept (t' := s1.toks) kp
    refine ⟨s1.heap.objs.size + 1, [s1.heap.objs.size + 1, s1.heap.objs.size], _, _, H1, rfl, I2, turn_enumS z t (s1.heap.objs.size + 1) s1.heap.objs.size, ⟨⟨.none, he⟩, hit, Nat.succ_ne_self _⟩, fun b hb => ?_, q⟩
    have le : s1.heap.objs.size ≤ b := by
      rcases mem2 hb with r | r <;> rw [r]
      · exact Nat.le_succ _
      · exact Nat.le_refl _
    exact I1.fpOk le (I1.hok.fresh le)
theorem for_enumS {z : Str} {g : TG} {tb : TS} {D : Ends} {σ : L2.St} {H : Hp} (Pv : Nat → L2.St → Hp → Prop) (h0 : Pv 0 σ H)
    (hs : ∀ i c σ G T, z.cps[i]? = some c → Pv i σ G → G T = none → g (.ref T) σ (upd G T (.tup [.int (i : Nat), .str ⟨#[c]⟩])) fun σ2 G2 => tb { D with nx := Pv (i + 1), ct := Pv (i + 1), bk := D.nx } σ2 G2)
    (hd : ∀ σ G, Pv z.cps.size σ G → D.nx σ G) :
    ∃ W : Nat → Nat → L2.St → Hp → Prop, (∃ m, W 0 m σ H) ∧ ∀ i m σ H, W i m σ H → ((IteS z).stop i H ∧ D.nx σ H) ∨ ((IteS z).go i H ∧ ∃ N : L2.St → Hp → Prop, (∀ σ' H', N σ' H' → ∃ m', m' < m ∧ W (i + 1) m' σ' H') ∧
      ∀ v H', (IteS z).yld i H v H' → g v σ H' fun σ2 H2 => tb { D with nx := N, ct := N, bk := D.nx } σ2 H2) := by
  refine ⟨fun i m σ G => m + i = z.cps.size ∧ Pv i σ G, ⟨_, rfl, h0⟩, fun i m σ G hw => ?_⟩
  obtain ⟨hm, p⟩ := hw
  cases m with
  | zero =>
    have e : i = z.cps.size := by omega
    subst e
    exact .inl ⟨rfl, hd σ G p⟩
  | succ m =>
    refine .inr ⟨by show i < z.cps.size; omega, Pv (i + 1), fun σ' G' p' => ⟨m, Nat.lt_succ_self _, by omega, p'⟩, fun v G' y => ?_⟩
    obtain ⟨T, c, rfl, nT, hc, rfl⟩ := y
    exact hs i c σ G T hc p nT
end KS
namespace KS
open PySem PySem.Spec PyProof.Rows L2 RZ
def spCheckL : Sp := fun vs H Q _ => ∃ wd : List Bool, vs = [.str (wS wd), .str "RC"] ∧ wd.length ≤ 400 ∧ ∀ H', Same H H' → Q .non H'
def spCheckW : Sp := fun vs H Q _ => ∃ wd : List Bool, vs = [.str (wS wd)] ∧ wd.length ≤ 400 ∧ ∀ H', Same H H' → Q .non H'
section
variable {P : Program} {w : World} {K : PySem.W.Frag} {mg : Str → Option Value} {base : Heap}
end
end KS
namespace KS
open PySem PySem.Spec PyProof.Rows L2 RZ
theorem ten30 : (10 : Int) ^ 30 = 1000000000000000000000000000000 := by decide +kernel
abbrev nCS : List Str := ["step", "depth", "room", "count", "inner", "more"]
abbrev nCP : List Str := ["program", "room", "index", "step", "count"]
section
variable {P : Program} {w : World} {K : PySem.W.Frag} {mg : Str → Option Value} {base : Heap}
end
end KS
namespace KS
open PySem PySem.Spec PyProof.Rows L2 RZ TL
theorem log30 {n : Int} (h1 : 0 ≤ n) (h2 : n ≤ 10 ^ 30) : n.natAbs.log2 < 1920 := by
  obtain ⟨k, rfl⟩ := Int.eq_ofNat_of_zero_le h1
  have hk : k ≤ 10 ^ 30 := by exact_mod_cast h2
  rw [Int.natAbs_natCast]
  by_cases h0 : k = 0
  · subst h0
    decide
  · refine Nat.lt_of_lt_of_le ((Nat.log2_lt h0).mpr (?_ : k < 2 ^ 100)) (by decide)
    have : (10 : Nat) ^ 30 < 2 ^ 100 := by decide +kernel
    omega
/-! ### the promises -/
def spRdN : Sp := fun xs H Q _ => ∃ (t : Str) (d : Int), xs = [.str t, .int d] ∧ ((∃ n : Int, 0 ≤ n ∧ t = nmS n ∧ n.natAbs.log2 < 1920 ∧ (t.length : Int) ≤ d ∧ t.length ≤ 640 ∧ Q (.int n) H) ∨ (t = "." ∧ 1 ≤ d ∧ Q .non H))
def spWrS (K : PySem.W.Frag) (m : Nat) : Sp := fun xs H Q _ => ∃ (v : V) (s : Stp), xs = [v] ∧ StA K H v s ∧ s.ok ∧ s.nest ≤ m ∧ s.steps ≤ 60 ∧ ∀ H', Same H H' → Q (.str (jn (tkS s.tks))) H'
def spRdP (K : PySem.W.Frag) : Sp := fun xs H Q _ => ∃ (a : Addr) (ss : List Stp), xs = [.ref a] ∧ SqL K H a ((tkS (tksL ss)).map V.str) ∧ okL ss ∧ stepsL ss ≤ 60 ∧ ∀ H' t, Same H H' → PgA K H' t ss → Q (.ref t) H'
def spIsProgG (K : PySem.W.Frag) : Sp := fun xs H Q _ => ∃ (t : Addr) (ss : List Stp), xs = [.ref t] ∧ PgA K H t ss ∧ okL ss ∧ nestL ss ≤ 4 ∧ stepsL ss ≤ 60 ∧ ∀ H', Same H H' → Q (.bl true) H'
def spFmtP (K : PySem.W.Frag) : Sp := fun xs H Q _ => ∃ (t : Addr) (ss : List Stp), xs = [.ref t] ∧ PgA K H t ss ∧ okL ss ∧ nestL ss ≤ 4 ∧ stepsL ss ≤ 60 ∧ ∀ H', Same H H' → Q (.str (jn (tkS (tksL ss)))) H'
def spParP (K : PySem.W.Frag) : Sp := fun xs H Q _ => ∃ (ss : List Stp), xs = [.str (jn (tkS (tksL ss)))] ∧ okL ss ∧ nestL ss ≤ 4 ∧ stepsL ss ≤ 60 ∧ ∀ H' t, Same H H' → PgA K H' t ss → Q (.ref t) H'
/-! ### the open levels -/
inductive Lvs (K : PySem.W.Frag) (G : Hp) : List Addr → List (List Stp) → Prop
  | nil : Lvs K G [] []
  | cons {r : Addr} {rs : List Addr} {s : List Stp} {stk : List (List Stp)} {vs : List V} : G r = some (.lst vs) → StsA K G vs s → Lvs K G rs stk → Lvs K G (r :: rs) (s :: stk)
theorem Lvs.keep {K : PySem.W.Frag} {G G' : Hp} (kt : KT K G G') : ∀ {rs : List Addr} {stk : List (List Stp)}, Lvs K G rs stk → (∀ r ∈ rs, ∀ o, G r = some o → G' r = some o) → Lvs K G' rs stk
  | _, _, .nil, _ => .nil
  | _, _, .cons h1 h2 h3, k => .cons (k _ (List.mem_cons_self ..) _ h1) (h2.kt kt) (Lvs.keep kt h3 fun r hr => k r (List.mem_cons_of_mem _ hr))
theorem Lvs.len {K : PySem.W.Frag} {G : Hp} : ∀ {rs : List Addr} {stk : List (List Stp)}, Lvs K G rs stk → rs.length = stk.length
  | _, _, .nil => rfl
  | _, _, .cons _ _ h => congrArg (· + 1) (Lvs.len h)
structure Lev (K : PySem.W.Frag) (H G : Hp) (L : Addr) (rs : List Addr) (stk : List (List Stp)) (n : Nat) : Prop where
  top : G L = some (.lst (rs.reverse.map V.ref))
  nd : (L :: rs).Nodup
  newL : H L = none
  new : ∀ r ∈ rs, H r = none
  lvs : Lvs K G rs stk
  sm : Same H G
  lenS : stk.length ≤ n + 1
  lenE : ∀ s ∈ stk, s.length ≤ n
theorem rev_last {r : Addr} {rs : List Addr} : atI ((r :: rs).reverse.map V.ref) (-1) = some (V.ref r) := by
  have e : (r :: rs).reverse.map V.ref = rs.reverse.map V.ref ++ [V.ref r] := by
    rw [List.reverse_cons, List.map_append]
    rfl
  rw [e]
  have hl : (rs.reverse.map V.ref ++ [V.ref r]).length = (rs.reverse.map V.ref).length + 1 := by rw [List.length_append]; rfl
  unfold atI
  have e : ixN (rs.reverse.map V.ref ++ [V.ref r]).length (-1) = some (rs.reverse.map V.ref).length := by
    unfold ixN
    rw [if_neg (by decide), hl]
    rw [if_pos (by omega)]
    congr 1
    omega
  rw [e]
  show (rs.reverse.map V.ref ++ [V.ref r])[(rs.reverse.map V.ref).length]? = some (V.ref r)
  rw [List.getElem?_append_right (Nat.le_refl _), Nat.sub_self]
  rfl
/-- a value laid on the top level -/
theorem Lev.put {K : PySem.W.Frag} {H G : Hp} {L r : Addr} {rs : List Addr} {s : List Stp} {stk : List (List Stp)} {n : Nat} (h : Lev K H G L (r :: rs) (s :: stk) n) {vs : List V} (hr : G r = some (.lst vs)) (hv : StsA K G vs s) {v : V} {x : Stp} (hx : StA K G v x) :
    Lev K H (upd G r (.lst (vs ++ [v]))) L (r :: rs) ((s ++ [x]) :: stk) (n + 1) := by
  have nd := List.nodup_cons.mp h.nd
  have nd2 := List.nodup_cons.mp nd.2
  have Lr : L ≠ r := fun e => nd.1 (by rw [e]; exact List.mem_cons_self ..)
  have kt : KT K G (upd G r (.lst (vs ++ [v]))) := KT.upd hr
  cases h.lvs with
  | cons q1 q2 q3 =>
    refine ⟨by rw [upd_ne Lr]; exact h.top, h.nd, h.newL, h.new, ?_, ?_, ?_, ?_⟩
    · refine .cons upd_same ((hv.app (.cons hx .nil)).kt kt) (Lvs.keep kt q3 fun b hb o e => ?_)
      rw [upd_ne (fun z => nd2.1 (by rw [← z]; exact hb))]
      exact e
    · intro b o e
      rw [upd_ne (ne_of_none e (h.new r (List.mem_cons_self ..)))]
      exact h.sm b o e
    · have := h.lenS
      rw [List.length_cons] at this ⊢
      omega
    · intro z hz
      rcases List.mem_cons.mp hz with rfl | hz
      · have := h.lenE s (List.mem_cons_self ..)
        rw [List.length_append]
        show s.length + 1 ≤ n + 1
        omega
      · have := h.lenE z (List.mem_cons_of_mem _ hz)
        omega
theorem Lev.same {K : PySem.W.Frag} {H G G' : Hp} {L : Addr} {rs : List Addr} {stk : List (List Stp)} {n : Nat} (h : Lev K H G L rs stk n) (s : Same G G') : Lev K H G' L rs stk n :=
  ⟨s _ _ h.top, h.nd, h.newL, h.new, Lvs.keep (.of_same s) h.lvs fun _ _ _ e => s _ _ e, h.sm.trans s, h.lenS, h.lenE⟩
abbrev nRdN : List Str := ["text", "digits", "number"]
abbrev nWrS : List Str := ["step", "inner"]
abbrev nRdP : List Str := ["words", "levels", "word", "inner"]
abbrev nFmtP : List Str := ["program", "step"]
abbrev nParP : List Str := ["text", "program"]
section
variable {P : Program} {w : World} {K : PySem.W.Frag} {mg : Str → Option Value} {base : Heap}
end
end KS
namespace KS
open PySem PySem.Spec PyProof.Rows L2 RZ TL
def spRdT (K : PySem.W.Frag) : Sp := fun xs H Q _ => ∃ (cs : List Cell) (vs : List Int), xs = [.str (page cs vs)] ∧ Good cs ∧ cs.length ≤ 24 ∧ Vals9 cs.length vs ∧
  ∀ H' T a t, Same H H' → SqT K H' T [.ref a, .ref t] → PlanT K H' a cs → SqT K H' t (vs.map V.int) → Q (.ref T) H'
def spIsPlanT (K : PySem.W.Frag) : Sp := fun vs H Q _ => ∃ (a : Addr) (cs : List Cell), vs = [.ref a] ∧ PlanAt K H a cs ∧ Good cs ∧ cs.length ≤ 24 ∧ ∀ H', Same H H' → Q (.bl true) H'
def spIsFillT (K : PySem.W.Frag) : Sp := fun vs H Q _ => ∃ (a t : Addr) (cs : List Cell) (xs : List Int), vs = [.ref a, .ref t] ∧ PlanAt K H a cs ∧ Good cs ∧ cs.length ≤ 24 ∧ SqT K H t (xs.map V.int) ∧ Vals9 cs.length xs ∧ ∀ H', Same H H' → Q (.bl true) H'
abbrev nRdT : List Str := ["text", "cells", "values", "row", "line", "column", "word", "value"]
abbrev nParT : List Str := ["text", "plan", "filling"]
abbrev sIsPlan : Stmt := topS 15
theorem scIsPlanT : FnScope ["value"] ["value"] (defScope sIsPlan) := ⟨rfl, rfl, rfl, by decide +kernel, rfl, by decide +kernel, by decide +kernel⟩
/-- what is read so far -/
structure Rdn (K : PySem.W.Frag) (H G : Hp) (C W : Addr) (zs : List (Cell × Int)) : Prop where
  sm : Same H G
  nC : H C = none
  nW : H W = none
  ne : C ≠ W
  cells : ∃ xs, G C = some (.lst xs) ∧ CellsT G xs (zs.map (·.1))
  vals : G W = some (.lst ((zs.map (·.2)).map V.int))
theorem Rdn.same {K : PySem.W.Frag} {H G G' : Hp} {C W : Addr} {zs : List (Cell × Int)} (h : Rdn K H G C W zs) (s : Same G G') : Rdn K H G' C W zs := by
  obtain ⟨xs, a, b⟩ := h.cells
  exact ⟨h.sm.trans s, h.nC, h.nW, h.ne, ⟨xs, s _ _ a, cellsT_kt (.of_same s) b⟩, s _ _ h.vals⟩
theorem Rdn.add {K : PySem.W.Frag} {H G : Hp} {C W U : Addr} {zs : List (Cell × Int)} {xs : List V} {i j v : Int} (h : Rdn K H G C W zs) (hc : G C = some (.lst xs)) (hx : CellsT G xs (zs.map (·.1))) (nU : G U = none) :
    Rdn K H (upd (upd (upd G U (.tup [.int i, .int j])) C (.lst (xs ++ [.ref U]))) W (.lst ((zs.map (·.2)).map V.int ++ [.int v]))) C W (zs ++ [((i, j), v)]) := by
  have sU := same_new (o := .tup [.int i, .int j]) nU
  have cU : C ≠ U := ne_of_none hc nU
  have wU : W ≠ U := ne_of_none h.vals nU
  have k1 : KTt (upd G U (.tup [.int i, .int j])) (upd (upd G U (.tup [.int i, .int j])) C (.lst (xs ++ [.ref U]))) := KTt.upd (sU _ _ hc)
  have k2 : KTt (upd (upd G U (.tup [.int i, .int j])) C (.lst (xs ++ [.ref U]))) (upd (upd (upd G U (.tup [.int i, .int j])) C (.lst (xs ++ [.ref U]))) W (.lst ((zs.map (·.2)).map V.int ++ [.int v]))) := by
    refine KTt.upd (ys := (zs.map (·.2)).map V.int) ?_
    rw [upd_ne (Ne.symm h.ne)]
    exact sU _ _ h.vals
  refine ⟨fun b o e => ?_, h.nC, h.nW, h.ne, ⟨xs ++ [.ref U], ?_, ?_⟩, ?_⟩
  · rw [upd_ne (ne_of_none e h.nW), upd_ne (ne_of_none e h.nC)]
    exact sU _ _ (h.sm b o e)
  · rw [upd_ne h.ne, upd_same]
  · rw [List.map_append]
    refine paired_append (cellsT_kt (((KTt.of_same sU).trans k1).trans k2) hx) (.cons ⟨U, rfl, ?_⟩ .nil)
    rw [upd_ne (Ne.symm wU), upd_ne (Ne.symm cU), upd_same]
  · rw [upd_same, List.map_append, List.map_append]
    rfl
theorem pgR_at {cs : List Cell} {vs : List Int} {i : Nat} {z : V} (h : ((pgR cs vs).map V.str)[i]? = some z) : i < hiN cs ∧ z = .str (jn (rowW cs vs i)) := by
  unfold pgR at h
  rw [List.getElem?_map, List.getElem?_map] at h
  rcases Nat.lt_or_ge i (hiN cs) with l | l
  · rw [List.getElem?_range l] at h
    cases h
    exact ⟨l, rfl⟩
  · rw [List.getElem?_eq_none (by rw [List.length_range]; exact l)] at h
    cases h
theorem rowW_at {cs : List Cell} {vs : List Int} {r j : Nat} {z : V} (h : ((rowW cs vs r).map V.str)[j]? = some z) : j < wiN cs ∧ z = .str (wdAt (cs.zip vs) ((r : Int), (j : Int))) := by
  unfold rowW at h
  rw [List.getElem?_map, List.getElem?_map] at h
  rcases Nat.lt_or_ge j (wiN cs) with l | l
  · rw [List.getElem?_range l] at h
    cases h
    exact ⟨l, rfl⟩
  · rw [List.getElem?_eq_none (by rw [List.length_range]; exact l)] at h
    cases h
section
variable {P : Program} {w : World} {K : PySem.W.Frag} {mg : Str → Option Value} {base : Heap}
theorem ok_isPlanT {f fC C : Addr} {fd fdC : FuncData} (F : Fun K "is_plan" "is_plan" sIsPlan f fd) (GC : FnOk P w K mg base CX0 5 fC fdC ["plan"] (spCheck K)) (bC : Binds K fdC ["plan"] []) (gC : mg "check_plan" = some (.ref fC)) (kC : PySem.W.keepIn K (.ref fC) = true)
    (gX : mg "InvalidPlan" = some (.ref C)) : FnOk P w K mg base CX0 6 f fd ["value"] (spIsPlanT K) := by
  refine F.ok scIsPlanT (fun vs H Q E h => ?_) (fun cdv A outer s H vs Q E hr h => ?_)
  · obtain ⟨a, cs, rfl, _⟩ := h
    rfl
  · obtain ⟨a, cs, rfl, hp, gd, hl, q⟩ := h
    refine ⟨_, pss_cons (ps_try_only (tb := fun W => tDrop (tCall (spCheck K) [] E0 (tCons (tVar 0) tNil))) (ts := fun _ _ _ => tRet (tC (.bl false))) (Wout := fun _ _ _ _ => False) rfl rfl ⟨rfl, by decide, Or.inl gX⟩ takes0
        (fun W pn xe tk _ => pss_one (ps_expr (by exact (pe_call GC hr (by rfl) gC kC bC .nil pass0 (by exact (pa_cons (pv 0) pa_nil))))))
        (fun a oe cls d pn _ _ => pss_one (ps_ret pe_bl)))
      (pss_one (ps_ret pe_bl)), ?_⟩
    exact ⟨_, rfl, a, cs, rfl, hp, gd, hl, fun H' s' => q H' s'⟩
end
end KS
namespace KS
open PySem PySem.Spec PyProof.Rows L2
/-! ### boxes -/
def prN (ls : List Nat) : Nat := ls.foldl (· * ·) 1
structure BoxOk (ls : List Nat) : Prop where
  l1 : 1 ≤ ls.length
  l3 : ls.length ≤ 3
  bd : ∀ n ∈ ls, 1 ≤ n ∧ n ≤ 6
  pr : prN ls ≤ 24
def oneSix : List Nat := [1, 2, 3, 4, 5, 6]
def allBoxes : List (List Nat) := ((oneSix.map fun a => [a]) ++ (oneSix.flatMap fun a => oneSix.map fun b => [a, b]) ++ (oneSix.flatMap fun a => oneSix.flatMap fun b => oneSix.map fun c => [a, b, c])).filter fun l => decide (prN l ≤ 24)
theorem mem_six {n : Nat} (h : 1 ≤ n ∧ n ≤ 6) : n ∈ oneSix := by
  have : n = 1 ∨ n = 2 ∨ n = 3 ∨ n = 4 ∨ n = 5 ∨ n = 6 := by omega
  rcases this with z | z | z | z | z | z <;> subst z <;> decide
theorem boxes_mem {ls : List Nat} (h : BoxOk ls) : ls ∈ allBoxes := by
  obtain ⟨l1, l3, bd, pr⟩ := h
  refine List.mem_filter.mpr ⟨?_, decide_eq_true pr⟩
  match ls, l1, l3, bd with
  | [], l1, _, _ => exact absurd l1 (by decide)
  | [a], _, _, bd =>
    refine List.mem_append_left _ (List.mem_append_left _ (List.mem_map.mpr ⟨a, mem_six (bd a (by simp)), rfl⟩))
  | [a, b], _, _, bd =>
    exact List.mem_append_left _ (List.mem_append_right _ (List.mem_flatMap.mpr ⟨a, mem_six (bd a (by simp)), List.mem_map.mpr ⟨b, mem_six (bd b (by simp)), rfl⟩⟩))
  | [a, b, c], _, _, bd =>
    exact List.mem_append_right _ (List.mem_flatMap.mpr ⟨a, mem_six (bd a (by simp)), List.mem_flatMap.mpr ⟨b, mem_six (bd b (by simp)), List.mem_map.mpr ⟨c, mem_six (bd c (by simp)), rfl⟩⟩⟩)
  | a :: b :: c :: d :: ls, _, l3, _ =>
    simp only [List.length_cons] at l3
    omega
def dimN (ls : List Nat) (i : Nat) : Nat := ls.getD i 1
def stpN (ls : List Nat) (i : Nat) : Nat := prN (ls.drop (i + 1))
def strtN (ls : List Nat) (i : Nat) : List Nat := (List.range (prN ls)).filter fun p => decide (p / stpN ls i % dimN ls i = 0)
def lnN (ls : List Nat) (i s : Nat) : List Nat := (List.range (dimN ls i)).map fun a => s + stpN ls i * a
def lnsX (ls : List Nat) (i : Nat) : List (List Nat) := (strtN ls i).map (lnN ls i)
def chkB (ls : List Nat) (i : Nat) : Bool :=
  decide ((lnsX ls i).flatten.Nodup) && (lnsX ls i).all (fun l => l.all fun k => decide (k < prN ls)) && (List.range (prN ls)).all (fun k => (lnsX ls i).any fun l => l.contains k) && decide (1 ≤ stpN ls i ∧ stpN ls i ≤ 24 ∧ 1 ≤ dimN ls i ∧ dimN ls i ≤ 6) && decide ((strtN ls i).length ≤ 24)
theorem box_chk : ∀ ls ∈ allBoxes, ∀ i, i < ls.length → chkB ls i = true := by decide +kernel
theorem box_take : ∀ ls ∈ allBoxes, ∀ k, k < 4 → prN (ls.take k) ≤ 24 := by decide +kernel
theorem box_pos : ∀ ls ∈ allBoxes, 1 ≤ prN ls := by decide +kernel
structure BoxL (ls : List Nat) (i : Nat) : Prop where
  nd : (lnsX ls i).flatten.Nodup
  bd : ∀ l ∈ lnsX ls i, ∀ k ∈ l, k < prN ls
  all : ∀ k, k < prN ls → ∃ l ∈ lnsX ls i, k ∈ l
  st : 1 ≤ stpN ls i ∧ stpN ls i ≤ 24 ∧ 1 ≤ dimN ls i ∧ dimN ls i ≤ 6
  sn : (strtN ls i).length ≤ 24
theorem boxL {ls : List Nat} {i : Nat} (h : BoxOk ls) (hi : i < ls.length) : BoxL ls i := by
  have c := box_chk ls (boxes_mem h) i hi
  unfold chkB at c
  rw [Bool.and_eq_true, Bool.and_eq_true, Bool.and_eq_true, Bool.and_eq_true, decide_eq_true_iff, decide_eq_true_iff, decide_eq_true_iff, List.all_eq_true, List.all_eq_true] at c
  obtain ⟨⟨⟨⟨c1, c2⟩, c3⟩, c4⟩, c5⟩ := c
  refine ⟨c1, fun l hl k hk => ?_, fun k hk => ?_, c4, c5⟩
  · have := c2 l hl
    rw [List.all_eq_true] at this
    exact of_decide_eq_true (this k hk)
  · have := c3 k (List.mem_range.mpr hk)
    rw [List.any_eq_true] at this
    obtain ⟨l, hl, hc⟩ := this
    exact ⟨l, hl, by simpa using hc⟩
/-! ### lines filled by any values -/
structure PartsN (n : Nat) (ls : List (List Nat)) : Prop where
  nd : ∀ ks ∈ ls, ks.Nodup
  bd : ∀ ks ∈ ls, ∀ k ∈ ks, k < n
  apart : ls.Pairwise fun ks ms => ∀ k ∈ ks, k ∉ ms
def fillN (f : List Nat → List Int) (ls : List (List Nat)) (acc : List Int) : List Int := ls.foldl (fun a ks => putN a ks (f ks)) acc
theorem fillN_len (f : List Nat → List Int) : ∀ (ls : List (List Nat)) (acc : List Int), (fillN f ls acc).length = acc.length
  | [], _ => rfl
  | ks :: ls, acc => by
    show (fillN f ls (putN acc ks (f ks))).length = _
    rw [fillN_len f ls, putN_len]
theorem fillN_off {f : List Nat → List Int} {i : Nat} : ∀ {ls : List (List Nat)} {acc : List Int}, (∀ ks ∈ ls, i ∉ ks) → (fillN f ls acc)[i]? = acc[i]?
  | [], _, _ => rfl
  | ks :: ls, acc, h => by
    show (fillN f ls (putN acc ks (f ks)))[i]? = _
    rw [fillN_off fun ms hm => h ms (List.mem_cons_of_mem _ hm)]
    exact putN_off (h ks List.mem_cons_self)
theorem fillN_get {f : List Nat → List Int} (hf : ∀ ks, (f ks).length = ks.length) : ∀ {ls : List (List Nat)} {acc : List Int}, PartsN acc.length ls → ∀ ks ∈ ls, getN (fillN f ls acc) ks = f ks
  | [], _, _, _, m => by cases m
  | ms :: ls, acc, P, ks, m => by
    have pc := List.pairwise_cons.mp P.apart
    have P' : PartsN (putN acc ms (f ms)).length ls := ⟨fun z hm => P.nd z (List.mem_cons_of_mem _ hm), fun z hm k hk => by rw [putN_len]; exact P.bd z (List.mem_cons_of_mem _ hm) k hk, pc.2⟩
    rcases List.mem_cons.mp m with rfl | m
    · show getN (fillN f ls (putN acc ks (f ks))) ks = _
      rw [getN_congr (b := putN acc ks (f ks)) fun k hk => fillN_off fun z hz => pc.1 z hz k hk]
      exact get_put (P.nd ks List.mem_cons_self) (hf ks).symm (P.bd ks List.mem_cons_self)
    · exact fillN_get hf P' ks m
theorem flat_apart {α : Type} : ∀ {ls : List (List α)}, ls.flatten.Nodup → (∀ l ∈ ls, l.Nodup) ∧ ls.Pairwise fun ks ms => ∀ k ∈ ks, k ∉ ms
  | [], _ => ⟨fun _ h => (by cases h), List.Pairwise.nil⟩
  | l :: ls, h => by
    rw [List.flatten_cons, List.nodup_append] at h
    obtain ⟨h1, h2, h3⟩ := h
    obtain ⟨i1, i2⟩ := flat_apart h2
    refine ⟨fun z hz => ?_, List.pairwise_cons.mpr ⟨fun m hm k hk hk' => h3 k hk k (List.mem_flatten.mpr ⟨m, hm, hk'⟩) rfl, i2⟩⟩
    rcases List.mem_cons.mp hz with rfl | hz
    · exact h1
    · exact i1 z hz
theorem box_parts {ls : List Nat} {i : Nat} (b : BoxL ls i) : PartsN (prN ls) (lnsX ls i) :=
  ⟨(flat_apart b.nd).1, b.bd, (flat_apart b.nd).2⟩
/-! ### a sort along an axis, in one direction or the other -/
def dirL {α : Type} (u : Bool) (l : List α) : List α := if u = true then l else l.reverse
theorem dirL_len {α : Type} (u : Bool) (l : List α) : (dirL u l).length = l.length := by
  unfold dirL
  split
  · rfl
  · rw [List.length_reverse]
theorem dirL_perm {α : Type} (u : Bool) (l : List α) : (dirL u l).Perm l := by
  unfold dirL
  split
  · exact List.Perm.refl _
  · exact List.reverse_perm l
theorem dirL_twice {α : Type} (u : Bool) (l : List α) : dirL u (dirL u l) = l := by
  unfold dirL
  cases u <;> simp
theorem getN_dir (u : Bool) (vs : List Int) (ks : List Nat) : getN vs (dirL u ks) = dirL u (getN vs ks) := by
  unfold dirL getN
  cases u <;> simp
theorem sortI_of_perm {a b : List Int} (p : a.Perm b) : sortI a = sortI b := (sortI_eq ((sortI_perm a).trans p) (sortI_asc a))
def srtF (u : Bool) (vs : List Int) (ks : List Nat) : List Int := dirL u (sortI (getN vs ks))
theorem getN_len (vs : List Int) (ks : List Nat) : (getN vs ks).length = ks.length := List.length_map ..
theorem srtF_len (u : Bool) (vs : List Int) (ks : List Nat) : (srtF u vs ks).length = ks.length := by
  unfold srtF
  rw [dirL_len, sortI_len, getN_len]
/-- the values after the sort -/
def sB (ls : List Nat) (i : Nat) (u : Bool) (vs : List Int) : List Int := fillN (srtF u vs) (lnsX ls i) vs
theorem sB_len (ls : List Nat) (i : Nat) (u : Bool) (vs : List Int) : (sB ls i u vs).length = vs.length := fillN_len _ _ _
theorem sB_get {ls : List Nat} {i : Nat} {u : Bool} {vs : List Int} (b : BoxL ls i) (hv : vs.length = prN ls) : ∀ ks ∈ lnsX ls i, getN (sB ls i u vs) ks = srtF u vs ks :=
  fillN_get (srtF_len u vs) (by rw [hv]; exact box_parts b)
theorem box_ext {ls : List Nat} {i : Nat} (b : BoxL ls i) {x y : List Int} (hx : x.length = prN ls) (hy : y.length = prN ls) (h : ∀ ks ∈ lnsX ls i, getN x ks = getN y ks) : x = y := by
  apply List.ext_getElem
  · omega
  intro k h1 h2
  obtain ⟨ks, hk, hm⟩ := b.all k (by omega)
  have := List.map_inj_left.mp (h ks hk) k hm
  rw [List.getD_eq_getElem?_getD, List.getD_eq_getElem?_getD, List.getElem?_eq_getElem h1, List.getElem?_eq_getElem h2] at this
  exact this
/-- a second sort along the same axis undoes the first -/
theorem sB_sB {ls : List Nat} {i : Nat} {u u' : Bool} {vs : List Int} (b : BoxL ls i) (hv : vs.length = prN ls) : sB ls i u' (sB ls i u vs) = sB ls i u' vs := by
  have hl : (sB ls i u vs).length = prN ls := by rw [sB_len, hv]
  refine box_ext b (by rw [sB_len, hl]) (by rw [sB_len, hv]) fun ks hk => ?_
  rw [sB_get b hl ks hk, sB_get b hv ks hk]
  unfold srtF
  rw [sB_get b hv ks hk]
  unfold srtF
  rw [sortI_of_perm (dirL_perm u _), sortI_fix]
/-- the program's way: ascending into the lines, turned round where the letter is great -/
theorem sB_prog {ls : List Nat} {i : Nat} {u : Bool} {vs : List Int} (b : BoxL ls i) (hv : vs.length = prN ls) : srtTo vs (((lnsX ls i).map (dirL u)).map up) = sB ls i u vs := by
  have e : srtTo vs (((lnsX ls i).map (dirL u)).map up) = fillN (fun ks => sortI (getN vs ks)) ((lnsX ls i).map (dirL u)) vs := by
    unfold srtTo
    rw [srtTo_up]
    rfl
  rw [e]
  have P := box_parts b
  have P2 : PartsN vs.length ((lnsX ls i).map (dirL u)) := by
    rw [hv]
    refine ⟨fun ks hk => ?_, fun ks hk k hm => ?_, ?_⟩
    · obtain ⟨l, hl, rfl⟩ := List.mem_map.mp hk
      exact (dirL_perm u l).nodup_iff.mpr (P.nd l hl)
    · obtain ⟨l, hl, rfl⟩ := List.mem_map.mp hk
      exact P.bd l hl k ((dirL_perm u l).mem_iff.mp hm)
    · rw [List.pairwise_map]
      refine P.apart.imp fun {a c} h k hk hk' => h k ((dirL_perm u a).mem_iff.mp hk) ((dirL_perm u c).mem_iff.mp hk')
  refine box_ext b (by rw [fillN_len, hv]) (by rw [sB_len, hv]) fun ks hk => ?_
  rw [sB_get b hv ks hk]
  have g := fillN_get (f := fun ks => sortI (getN vs ks)) (fun ks => by rw [sortI_len, getN_len]) P2 (dirL u ks) (List.mem_map.mpr ⟨ks, hk, rfl⟩)
  rw [getN_dir] at g
  have g2 := congrArg (dirL u) g
  rw [dirL_twice] at g2
  rw [g2]
  unfold srtF
  rw [getN_dir, sortI_of_perm (dirL_perm u _)]
theorem box_perm {ls : List Nat} {i : Nat} (b : BoxL ls i) : (lnsX ls i).flatten.Perm (List.range (prN ls)) := by
  refine (List.perm_ext_iff_of_nodup b.nd List.nodup_range).mpr fun k => ?_
  rw [List.mem_range, List.mem_flatten]
  constructor
  · rintro ⟨l, hl, hk⟩
    exact b.bd l hl k hk
  · intro hk
    exact b.all k hk
theorem getN_range {vs : List Int} {n : Nat} (h : vs.length = n) : getN vs (List.range n) = vs := by
  apply List.ext_getElem?
  intro k
  unfold getN
  rw [List.getElem?_map]
  by_cases c : k < n
  · rw [List.getElem?_range c]
    show some (vs.getD k 0) = _
    rw [List.getD_eq_getElem?_getD, List.getElem?_eq_getElem (by omega)]
    rfl
  · rw [List.getElem?_eq_none (by rw [List.length_range]; omega), List.getElem?_eq_none (by omega)]
    rfl
theorem getN_flat (vs : List Int) : ∀ ls : List (List Nat), getN vs ls.flatten = (ls.map (getN vs)).flatten
  | [] => rfl
  | l :: ls => by
    rw [List.flatten_cons, List.map_cons, List.flatten_cons, ← getN_flat vs ls]
    unfold getN
    rw [List.map_append]
theorem flat_perm : ∀ {α : Type} {f g : α → List Int} (ls : List α), (∀ l ∈ ls, (f l).Perm (g l)) → ((ls.map f).flatten).Perm ((ls.map g).flatten)
  | _, _, _, [], _ => List.Perm.refl _
  | _, f, g, l :: ls, h => by
    rw [List.map_cons, List.map_cons, List.flatten_cons, List.flatten_cons]
    exact (h l List.mem_cons_self).append (flat_perm ls fun z hz => h z (List.mem_cons_of_mem _ hz))
theorem sB_perm {ls : List Nat} {i : Nat} {u : Bool} {vs : List Int} (b : BoxL ls i) (hv : vs.length = prN ls) : (sB ls i u vs).Perm vs := by
  have key : ∀ x : List Int, x.length = prN ls → x.Perm (((lnsX ls i).map (getN x)).flatten) := fun x hx => by
    rw [← getN_flat]
    have := (box_perm b).map fun k => x.getD k 0
    have e : (List.range (prN ls)).map (fun k => x.getD k 0) = x := getN_range hx
    rw [e] at this
    exact this.symm
  refine (key _ (by rw [sB_len, hv])).trans (List.Perm.trans ?_ (key _ hv).symm)
  refine flat_perm _ fun ks hk => ?_
  rw [sB_get b hv ks hk]
  unfold srtF
  exact (dirL_perm u _).trans (sortI_perm _)
theorem sB9 {ls : List Nat} {i : Nat} {u : Bool} {vs : List Int} (b : BoxL ls i) (h : Vals9 (prN ls) vs) : Vals9 (prN ls) (sB ls i u vs) := h.perm (sB_perm b h.len).symm
/-! ### the law's way: place by place -/
theorem putN_snoc : ∀ {ks : List Nat} {ys acc : List Int} {k : Nat} {y : Int}, ks.length = ys.length → putN acc (ks ++ [k]) (ys ++ [y]) = (putN acc ks ys).set k y
  | [], [], acc, k, y, _ => rfl
  | [], _ :: _, _, _, _, h => by cases h
  | _ :: _, [], _, _, _, h => by cases h
  | k' :: ks, y' :: ys, acc, k, y, h => by
    show putN (acc.set k' y') (ks ++ [k]) (ys ++ [y]) = (putN (acc.set k' y') ks ys).set k y
    exact putN_snoc (Nat.succ.inj h)
theorem fillN_more (f : List Nat → List Int) (ls : List (List Nat)) (ks : List Nat) (acc : List Int) : fillN f (ls ++ [ks]) acc = putN (fillN f ls acc) ks (f ks) := by
  unfold fillN
  rw [List.foldl_append]
  rfl
end KS
namespace KS
open PySem PySem.Spec PyProof.Rows L2
/-! ### signs: texts and tuples of the letters 0 and 1 -/
def chN (v : Int) : Nat := if v = 1 then 49 else 48
def chS (v : Int) : Str := ⟨#[chN v]⟩
def sgS (bs : List Int) : Str := ⟨(bs.map chN).toArray⟩
def chV (bs : List Int) : List V := bs.map fun v => V.str (chS v)
theorem sgS_len (bs : List Int) : (sgS bs).length = bs.length := by
  show (bs.map chN).toArray.size = _
  rw [List.size_toArray, List.length_map]
/-- list(x), x a tuple of letters, or a text of letters -/
def rListSg (K : PySem.W.Frag) : List V → Hp → VK → Prop := fun xs H Q => (∃ p ys, xs = [.ref p] ∧ SqT K H p ys ∧ ∀ l, H l = none → Q (.ref l) (upd H l (.lst ys))) ∨
  ∃ bs : List Int, xs = [.str (sgS bs)] ∧ bs.length ≤ 64 ∧ ∀ l, H l = none → Q (.ref l) (upd H l (.lst (chV bs)))
theorem cr_listSg {X : Cx} (hc : X.calm = true) : CallR X (.type "list") (rListSg X.K) := by
  intro pins s σ H xs us Q I r h
  rcases h with ⟨p, ys, e, ht, q⟩ | ⟨bs, rfl, hl, q⟩
  · exact call_list_of pins s σ H xs us Q I r ⟨p, ys, e, .inr ht, q⟩
  · obtain ⟨u, rfl, rx⟩ := vals1 r
    obtain ⟨t, rfl⟩ := rx
    have hlen := sgS_len bs
    refine call_list_str (I.ok.hd hc) (sgS bs) t (fun h' tk acc c' hk e hi => ?_) (by show (sgS bs).length ≤ sizeLine; rw [hlen, sizeLine_eq]; omega)
    have ea : acc.toList.length = bs.length := by
      rw [Array.length_toList, hi.1]
      exact hlen
    have rv : Vals (chV bs) acc.toList := by
      have e0 : chV bs = (List.range acc.toList.length).map fun j => V.str (chS (bs.getD j 0)) := by
        rw [ea]
        apply List.ext_getElem?
        intro i
        unfold chV
        rw [List.getElem?_map, List.getElem?_map]
        by_cases c : i < bs.length
        · rw [List.getElem?_eq_getElem c, List.getElem?_range c]
          show some (V.str (chS bs[i])) = some (V.str (chS (bs.getD i 0)))
          rw [List.getD_eq_getElem?_getD, List.getElem?_eq_getElem c]
          rfl
        · rw [List.getElem?_eq_none (by omega), List.getElem?_eq_none (by rw [List.length_range]; omega)]
          rfl
      rw [e0]
      refine vals_of_get acc.toList _ fun j u hj => ?_
      obtain ⟨c, t', hc', rfl⟩ := hi.2 j u (by rw [← hj, Array.getElem?_toList])
      refine ⟨t', ?_⟩
      have h2 : (bs.map chN)[j]? = some c := by
        have : (bs.map chN).toArray[j]? = some c := hc'
        rw [List.getElem?_toArray] at this
        exact this
      rw [List.getElem?_map] at h2
      cases ev : bs[j]? with
      | none =>
        rw [ev] at h2
        cases h2
      | some v =>
        rw [ev] at h2
        cases h2
        rw [List.getD_eq_getElem?_getD, ev]
        rfl
    refine ⟨.ref s.heap.objs.size, _, I.laid (t' := tk) hk (Nat.le_refl _) (show ObjOk X.prog X.w _ h' _ (.lst (chV bs)) from ⟨?_, acc.toList, c', rv, by rw [Array.toArray_toList]; exact e⟩), rfl, q _ (I.hok.fresh (Nat.le_refl _))⟩
    unfold chV
    rw [List.length_map, sizeLine_eq]
    omega
/-- x[i], x a tuple or a text -/
def rIxTS (K : PySem.W.Frag) : R2 := fun x y H Q => rIxT K x y H Q ∨ rIxS x y H Q
theorem ix_tupS {X : Cx} : IxR X (rIxTS X.K) := by
  intro value slice pins s σ H x y v u Q I rx ry h hs
  rcases h with h | h
  · exact ix_tup value slice pins s σ H x y v u Q I rx ry h hs
  · exact ix_str value slice pins s σ H x y v u Q I rx ry h hs
/-- "".join(x), x a tuple of letters, or a text of letters -/
def rJoinSg (K : PySem.W.Frag) : V → List V → Hp → VK → Prop := fun x xs H Q => x = .str "" ∧ ∃ bs : List Int, bs.length ≤ 64 ∧ (xs = [.str (sgS bs)] ∨ (∃ p, xs = [.ref p] ∧ SqT K H p (chV bs)) ∨ (∃ p, xs = [.ref p] ∧ SqL K H p (chV bs))) ∧ Q (.str (sgS bs)) H
theorem sg_app (a b : List Int) : sgS a ++ sgS b = sgS (a ++ b) := by
  show (⟨(a.map chN).toArray ++ (b.map chN).toArray⟩ : Str) = ⟨((a ++ b).map chN).toArray⟩
  rw [List.map_append]
  simp
theorem join_sg : ∀ bs : List Int, Str.join "" (bs.map chS) = sgS bs
  | [] => by decide +kernel
  | [b] => rfl
  | b :: c :: r => by
    have h := join_sg (c :: r)
    show chS b ++ "" ++ Str.join "" ((c :: r).map chS) = _
    rw [h, show ("" : Str) = sgS [] from by decide +kernel, show chS b = sgS [b] from rfl, sg_app, sg_app]
    rfl
theorem join_sgT (bs : List Int) : Txt.join "" (bs.map chS) = sgS bs := by
  show Builtin.Str.glued "" (bs.map chS) = _
  rw [StrLaws.glued_eq_join, join_sg]
theorem signs_sg (bs : List Int) : PyProof.Rows.signs (sgS bs) = bs.map chS := by
  show ((bs.map chN).toArray.toList).map (fun n => (⟨#[n]⟩ : Str)) = _
  rw [List.toList_toArray, List.map_map]
  rfl
theorem sg_sum : ∀ bs : List Int, ((bs.map chS).map (·.length)).sum = bs.length
  | [] => rfl
  | b :: bs => by
    show 1 + ((bs.map chS).map (·.length)).sum = _
    rw [sg_sum bs, List.length_cons]
    omega
theorem mt_joinSg {X : Cx} (hc : X.calm = true) : MtR X "str.join" (rJoinSg X.K) := by
  intro pins s σ H x xs v us Q I rx rs h
  obtain ⟨rfl, bs, hl, hx, q⟩ := h
  have e0 : ("" : Str).length = 0 := by decide +kernel
  have sm := sg_sum bs
  have hz : ((bs.map chS).map (·.length)).sum + (bs.map chS).length * ("" : Str).length ≤ 16777216 := by
    rw [sm, e0]
    omega
  have q' : Q (.str (Txt.join "" (bs.map chS))) H := by
    rw [join_sgT]
    exact q
  have ev : chV bs = (bs.map chS).map V.str := by
    unfold chV
    rw [List.map_map]
    rfl
  rcases hx with rfl | ⟨p, rfl, hp⟩ | ⟨p, rfl, hp⟩
  · obtain ⟨t, rfl⟩ := rx
    cases rs with
    | cons r1 rs =>
      cases rs
      obtain ⟨t2, rfl⟩ := r1
      refine SC.joinStr (I.ok.hd hc) (joinOk_signsN (N := 64) (S := 0) (by rw [sgS_len]; exact hl) (by rw [e0]; exact Nat.le_refl _) (by decide)) fun h' k t' hk => ⟨.str _, H, I.kept hk, ⟨t', rfl⟩, ?_⟩
      rw [signs_sg]
      exact q'
  · exact mt_join pins s σ H _ _ v us Q I rx rs ⟨"", p, bs.map chS, rfl, rfl, .inr (by rw [← ev]; exact hp), hz, q'⟩
  · exact mt_join pins s σ H _ _ v us Q I rx rs ⟨"", p, bs.map chS, rfl, rfl, .inl (by rw [← ev]; exact hp), hz, q'⟩
/-! ### letters in order -/
def Zo (bs : List Int) : Prop := ∀ v ∈ bs, v = 0 ∨ v = 1
def unS (x : Str) : Int := if x = chS 1 then 1 else 0
theorem un_ch {v : Int} (h : v = 0 ∨ v = 1) : unS (chS v) = v := by
  rcases h with rfl | rfl <;> decide +kernel
theorem ch_un {x : Str} (h : x = chS 0 ∨ x = chS 1) : chS (unS x) = x := by
  rcases h with rfl | rfl <;> decide +kernel
theorem rising_le : ∀ {ys : List Str} {p : Str}, (∀ x ∈ p :: ys, x = chS 0 ∨ x = chS 1) → risingS p ys = true → ((p :: ys).map unS).Pairwise (· ≤ ·)
  | [], p, _, _ => by simp
  | y :: ys, p, hm, h => by
    have h' : (!ltCps y.cps.toList p.cps.toList && risingS y ys) = true := h
    rw [Bool.and_eq_true] at h'
    have ih := rising_le (fun x hx => hm x (List.mem_cons_of_mem _ hx)) h'.2
    have hp := hm p List.mem_cons_self
    have hy := hm y (List.mem_cons_of_mem _ List.mem_cons_self)
    have le : unS p ≤ unS y := by
      rcases hp with rfl | rfl <;> rcases hy with rfl | rfl
      · decide +kernel
      · decide +kernel
      · exact absurd h'.1 (by decide +kernel)
      · decide +kernel
    rw [List.map_cons, List.pairwise_cons]
    refine ⟨fun z hz => ?_, ih⟩
    have ih2 := List.pairwise_cons.mp (by rw [List.map_cons] at ih; exact ih)
    rw [List.map_cons] at hz
    rcases List.mem_cons.mp hz with e | e
    · omega
    · have := ih2.1 z e
      omega
theorem sortedS_ch {bs : List Int} (hz : Zo bs) {ys : List Str} (p : ys.Perm (bs.map chS)) (h : sortedS ys = true) : ys = (sortI bs).map chS := by
  have hm : ∀ x ∈ ys, x = chS 0 ∨ x = chS 1 := fun x hx => by
    obtain ⟨v, hv, rfl⟩ := List.mem_map.mp (p.mem_iff.mp hx)
    rcases hz v hv with rfl | rfl
    · exact .inl rfl
    · exact .inr rfl
  have e1 : (ys.map unS).map chS = ys := by
    rw [List.map_map]
    conv => rhs; rw [← List.map_id ys]
    exact List.map_congr_left fun x hx => ch_un (hm x hx)
  have p1 : (ys.map unS).Perm bs := by
    have := p.map unS
    rw [List.map_map] at this
    have e : bs.map (unS ∘ chS) = bs := by
      conv => rhs; rw [← List.map_id bs]
      exact List.map_congr_left fun v hv => un_ch (hz v hv)
    rw [e] at this
    exact this
  have a1 : (ys.map unS).Pairwise (· ≤ ·) := by
    cases ys with
    | nil => exact List.Pairwise.nil
    | cons y ys => exact rising_le hm h
  rw [← e1, sortI_eq p1 a1]
theorem Zo.perm {a b : List Int} (h : Zo a) (p : b.Perm a) : Zo b := fun v hv => h v (p.mem_iff.mp hv)
theorem srt_Zo {b : Bool} {cs : List Cell} {bs : List Int} (hl : bs.length = cs.length) (h : Zo bs) : Zo (srt b cs bs) := h.perm (srt_perm hl)
theorem aft_Zo {cs : List Cell} (w : List Bool) {bs : List Int} (hl : bs.length = cs.length) (h : Zo bs) : Zo (aft cs w bs) := h.perm (aft_perm w hl)
/-- 1 for each value of at least the limit -/
def sg (e : Int) (v : Int) : Int := if e ≤ v then 1 else 0
theorem sg_mono (e : Int) : ∀ a b, a ≤ b → sg e a ≤ sg e b := fun a b h => by
  unfold sg
  split <;> split <;> omega
theorem sg_Zo (e : Int) (vs : List Int) : Zo (vs.map (sg e)) := fun v hv => by
  obtain ⟨u, _, rfl⟩ := List.mem_map.mp hv
  unfold sg
  split
  · exact .inr rfl
  · exact .inl rfl
theorem aft_sg {cs : List Cell} (w : List Bool) {vs : List Int} (hv : vs.length = cs.length) (e : Int) : aft cs w (vs.map (sg e)) = (aft cs w vs).map (sg e) := aft_map (sg_mono e) w hv
/-- a tuple of letters, or a text of letters -/
def SgAt (K : PySem.W.Frag) (H : Hp) (x : V) (bs : List Int) : Prop := x = .str (sgS bs) ∨ ∃ t, x = .ref t ∧ SqT K H t (chV bs)
theorem SgAt.kt {K : PySem.W.Frag} {H H' : Hp} {x : V} {bs : List Int} (k : KT K H H') (h : SgAt K H x bs) : SgAt K H' x bs := by
  rcases h with h | ⟨t, e, h⟩
  · exact .inl h
  · exact .inr ⟨t, e, k _ _ h⟩
theorem sg_at {bs : List Int} {j : Nat} (h : j < bs.length) : (chV bs)[j]? = some (.str (chS (getI bs (j : Int)))) := by
  unfold chV getI
  rw [List.getElem?_map, Int.toNat_natCast, List.getD_eq_getElem?_getD, List.getElem?_eq_getElem h]
  rfl
theorem sg_ix {K : PySem.W.Frag} {H : Hp} {x : V} {bs : List Int} {j : Nat} {Q : VK} (h : SgAt K H x bs) (hj : j < bs.length) (hl : bs.length ≤ 64) (k : Q (.str (chS (getI bs (j : Int)))) H) : rIxTS K x (.int (j : Nat)) H Q := by
  rcases h with rfl | ⟨t, rfl, ht⟩
  · refine .inr ⟨_, _, chN (getI bs (j : Int)), rfl, rfl, by rw [sgS_len, sizeLine_eq]; omega, ?_, k⟩
    refine atI_nat ?_
    show (bs.map chN).toArray.toList[j]? = _
    unfold getI
    rw [List.toList_toArray, List.getElem?_map, Int.toNat_natCast, List.getD_eq_getElem?_getD, List.getElem?_eq_getElem hj]
    rfl
  · exact .inl ⟨t, _, _, _, rfl, rfl, ht, atI_nat (sg_at hj), k⟩
def spLSortedG (K : PySem.W.Frag) : Sp := fun xs H Q _ => ∃ (a : Addr) (x : V) (b : Bool) (cs : List Cell) (bs : List Int), xs = [.ref a, x, .str (if b = true then "C" else "R")] ∧ PlanAt K H a cs ∧ cs.length ≤ 24 ∧
  SgAt K H x bs ∧ bs.length = cs.length ∧ Zo bs ∧ ∀ H' u, Same H H' → SqT K H' u (chV (srt b cs bs)) → Q (.ref u) H'
def spLAfterG (K : PySem.W.Frag) : Sp := fun xs H Q _ => ∃ (a : Addr) (x : V) (w : List Bool) (cs : List Cell) (bs : List Int), xs = [.ref a, x, .str (wS w)] ∧ PlanAt K H a cs ∧ cs.length ≤ 24 ∧
  SgAt K H x bs ∧ bs.length = cs.length ∧ Zo bs ∧ ∀ H' u, Same H H' → SgAt K H' u (aft cs w bs) → Q u H'
def spSigns (K : PySem.W.Frag) : Sp := fun xs H Q _ => ∃ (a t : Addr) (e : Int) (cs : List Cell) (vs : List Int), xs = [.ref a, .ref t, .int e] ∧ PlanAt K H a cs ∧ Good cs ∧ cs.length ≤ 24 ∧
  SqT K H t (vs.map V.int) ∧ Vals9 cs.length vs ∧ ∀ H', Same H H' → Q (.str (sgS (vs.map (sg e)))) H'
theorem asg_listSg {K : PySem.W.Frag} {i j : Nat} {σ : L2.St} {H : Hp} {D : Ends} {x : V} {bs : List Int} (h1 : σ[i]? = some (some x)) (h : SgAt K H x bs) (hl : bs.length ≤ 64)
    (k : ∀ o, H o = none → D.nx (σ.set j (some (.ref o))) (upd H o (.lst (chV bs)))) : tAsg (tCB (rListSg K) (tCons (tVar i) tNil)) (gName j) D σ H := by
  rcases h with rfl | ⟨t, rfl, ht⟩
  · exact ⟨_, h1, .inr ⟨bs, rfl, hl, k⟩⟩
  · exact ⟨_, h1, .inl ⟨t, _, rfl, ht, k⟩⟩
theorem join_at {K : PySem.W.Frag} {H : Hp} {x : V} {bs : List Int} {Q : VK} (h : SgAt K H x bs) (hl : bs.length ≤ 64) (k : Q (.str (sgS bs)) H) : rJoinSg K (.str "") [x] H Q := by
  refine ⟨rfl, bs, hl, ?_, k⟩
  rcases h with rfl | ⟨t, rfl, ht⟩
  · exact .inl rfl
  · exact .inr (.inl ⟨t, rfl, ht⟩)
end KS
namespace KS
open PySem PySem.Spec PyProof.Rows L2
def szV (ls : List Nat) : List V := ls.map fun (n : Nat) => V.int (n : Int)
theorem szV_len (ls : List Nat) : (szV ls).length = ls.length := List.length_map ..
theorem szV_at {ls : List Nat} {i : Nat} (h : i < ls.length) : atI (szV ls) (i : Int) = some (.int (dimN ls i : Nat)) := by
  refine atI_nat ?_
  unfold szV dimN
  rw [List.getElem?_map, List.getD_eq_getElem?_getD, List.getElem?_eq_getElem h]
  rfl
theorem szV_drop (ls : List Nat) (k : Nat) : (szV ls).drop k = szV (ls.drop k) := by
  unfold szV
  rw [List.map_drop]
theorem szV_take (ls : List Nat) (k : Nat) : (szV ls).take k = szV (ls.take k) := by
  unfold szV
  rw [List.map_take]
/-- the letter of an axis -/
def ltB (i : Nat) (u : Bool) : Str := match i, u with
  | 0, true => "x" | 0, false => "X" | 1, true => "y" | 1, false => "Y" | _, true => "z" | _, false => "Z"
def boxLs (n : Nat) : Str := if n = 1 then "Xx" else if n = 2 then "XYxy" else "XYZxyz"
theorem three {i : Nat} (h : i < 3) : i = 0 ∨ i = 1 ∨ i = 2 := by omega
theorem ltB_axis {i : Nat} (h : i < 3) (u : Bool) : Builtin.Str.occurrences ("xyz" : Str) (Txt.lower (ltB i u)) 0 ("xyz" : Str).length 1 = [i] := by
  rcases three h with z | z | z <;> subst z <;> cases u <;> decide +kernel
theorem ltB_low {i : Nat} (h : i < 3) (u : Bool) : Txt.islower (ltB i u) = u := by
  rcases three h with z | z | z <;> subst z <;> cases u <;> decide +kernel
theorem ltB_len {i : Nat} (h : i < 3) (u : Bool) : (ltB i u).length = 1 := by
  rcases three h with z | z | z <;> subst z <;> cases u <;> decide +kernel
theorem boxLs_cut {n : Nat} (h1 : 1 ≤ n) (h3 : n ≤ 3) : Txt.upper (cutS ("xyz" : Str) none (some (n : Int))) ++ cutS ("xyz" : Str) none (some (n : Int)) = boxLs n ∧ (cutS ("xyz" : Str) none (some (n : Int))).length ≤ 3 ∧ (Txt.upper (cutS ("xyz" : Str) none (some (n : Int)))).length ≤ 3 := by
  have : n = 1 ∨ n = 2 ∨ n = 3 := by omega
  rcases this with z | z | z <;> subst z <;> decide +kernel
def txV (z : Str) : List V := z.cps.toList.map fun c => V.str ⟨#[c]⟩
theorem boxLs_in {n i : Nat} (h1 : 1 ≤ n) (h3 : n ≤ 3) (hi : i < n) (u : Bool) : inV (.str (ltB i u)) (txV (boxLs n)) = true ∧ (txV (boxLs n)).all flatV = true ∧ (boxLs n).length ≤ 6 := by
  have : n = 1 ∨ n = 2 ∨ n = 3 := by omega
  have h2 := three (show i < 3 by omega)
  rcases this with z | z | z <;> subst z <;> rcases h2 with y | y | y <;> subst y <;> first | (exfalso; omega) | (cases u <;> decide +kernel)
/-- list(x), x a short text -/
def rListTx : List V → Hp → VK → Prop := fun xs H Q => ∃ z : Str, xs = [.str z] ∧ z.length ≤ 64 ∧ ∀ l, H l = none → Q (.ref l) (upd H l (.lst (txV z)))
theorem cr_listTx {X : Cx} (hc : X.calm = true) : CallR X (.type "list") rListTx := by
  rintro pins s σ H xs us Q I r ⟨z, rfl, hl, q⟩
  obtain ⟨u, rfl, rx⟩ := vals1 r
  obtain ⟨t, rfl⟩ := rx
  refine call_list_str (I.ok.hd hc) z t (fun h' tk acc c' hk e hi => ?_) (by have : z.cps.size ≤ 64 := hl; rw [sizeLine_eq]; omega)
  have ea : acc.toList.length = z.cps.toList.length := by
    rw [Array.length_toList, Array.length_toList, hi.1]
  have rv : Vals (txV z) acc.toList := by
    have e0 : txV z = (List.range acc.toList.length).map fun j => V.str ⟨#[z.cps.toList.getD j 0]⟩ := by
      rw [ea]
      apply List.ext_getElem?
      intro i
      unfold txV
      rw [List.getElem?_map, List.getElem?_map]
      by_cases c : i < z.cps.toList.length
      · rw [List.getElem?_eq_getElem c, List.getElem?_range c]
        show some (V.str ⟨#[z.cps.toList[i]]⟩) = some (V.str ⟨#[z.cps.toList.getD i 0]⟩)
        rw [List.getD_eq_getElem?_getD, List.getElem?_eq_getElem c]
        rfl
      · rw [List.getElem?_eq_none (by omega), List.getElem?_eq_none (by rw [List.length_range]; omega)]
        rfl
    rw [e0]
    refine vals_of_get acc.toList _ fun j u hj => ?_
    obtain ⟨c, t', hc', rfl⟩ := hi.2 j u (by rw [← hj, Array.getElem?_toList])
    refine ⟨t', ?_⟩
    have h2 : z.cps.toList[j]? = some c := by rw [Array.getElem?_toList]; exact hc'
    rw [List.getD_eq_getElem?_getD, h2]
    rfl
  refine ⟨.ref s.heap.objs.size, _, I.laid (t' := tk) hk (Nat.le_refl _) (show ObjOk X.prog X.w _ h' _ (.lst (txV z)) from ⟨?_, acc.toList, c', rv, by rw [Array.toArray_toList]; exact e⟩), rfl, q _ (I.hok.fresh (Nat.le_refl _))⟩
  unfold txV
  rw [List.length_map, sizeLine_eq]
  have : z.cps.toList.length = z.length := by rw [Array.length_toList]; rfl
  omega
theorem pe_revLK {X : Cx} {K : PySem.W.Frag} {e : Expr} {te : TE} {k : Nat} {p1 p2 p3 pos : Pos} (hK : X.K = K) (he : PE X e te) : PE X (.Subscript e (.Slice none none (some (.UnaryOp .USub (.Constant (.int 1) k p1) p2)) p3) pos) (tRevL K te) := by
  subst hK
  exact pe_revL he
/-- either promise -/
theorem FnOk.or {P : Program} {w : World} {K : PySem.W.Frag} {mg : Str → Option Value} {base : Heap} {CX : CXT} {k : Nat} {f : Addr} {fd : FuncData} {ps : List Str} {sp sq : Sp} (F : FnOk P w K mg base CX k f fd ps sp) (G : FnOk P w K mg base CX k f fd ps sq) :
    FnOk P w K mg base CX k f fd ps (fun vs H Q E => sp vs H Q E ∨ sq vs H Q E) :=
  ⟨fun vs H Q E h => h.elim (F.len vs H Q E) (G.len vs H Q E), fun A outer s H args us vs Q E hr he hb hv hs => hs.elim (F.run A outer s H args us vs Q E hr he hb hv) (G.run A outer s H args us vs Q E hr he hb hv)⟩
/-! ### promises -/
structure Few (ls : List Nat) : Prop where
  l3 : ls.length ≤ 3
  b6 : ∀ n ∈ ls, n ≤ 6
theorem few_pr : ∀ (ls : List Nat), (∀ n ∈ ls, n ≤ 6) → ∀ a, ls.foldl (· * ·) a ≤ a * 6 ^ ls.length
  | [], _, a => by simp
  | n :: ls, h, a => by
    have := few_pr ls (fun m hm => h m (List.mem_cons_of_mem _ hm)) (a * n)
    have hn := h n List.mem_cons_self
    show ls.foldl (· * ·) (a * n) ≤ _
    refine Nat.le_trans this ?_
    rw [List.length_cons, Nat.pow_succ, Nat.mul_comm (6 ^ ls.length) 6, ← Nat.mul_assoc]
    exact Nat.mul_le_mul_right _ (Nat.mul_le_mul_left _ hn)
theorem Few.pr {ls : List Nat} (h : Few ls) : prN ls ≤ 216 := by
  have := few_pr ls h.b6 1
  have h2 : 6 ^ ls.length ≤ 6 ^ 3 := Nat.pow_le_pow_right (by decide) h.l3
  unfold prN
  omega
theorem Few.take {ls : List Nat} (h : Few ls) (k : Nat) : Few (ls.take k) := ⟨by rw [List.length_take]; have := h.l3; omega, fun n hn => h.b6 n (List.mem_of_mem_take hn)⟩
theorem Few.drop {ls : List Nat} (h : Few ls) (k : Nat) : Few (ls.drop k) := ⟨by rw [List.length_drop]; have := h.l3; omega, fun n hn => h.b6 n (List.mem_of_mem_drop hn)⟩
theorem BoxOk.few {ls : List Nat} (h : BoxOk ls) : Few ls := ⟨h.l3, fun n hn => (h.bd n hn).2⟩
def spProd (K : PySem.W.Frag) : Sp := fun xs H Q _ => ∃ (t : Addr) (ls : List Nat), xs = [.ref t] ∧ SqT K H t (szV ls) ∧ Few ls ∧ Q (.int (prN ls : Nat)) H
def spProdL : Sp := fun xs H Q _ => ∃ (t : Addr) (ls : List Nat), xs = [.ref t] ∧ H t = some (.lst (szV ls)) ∧ Few ls ∧ Q (.int (prN ls : Nat)) H
def spLens (K : PySem.W.Frag) : Sp := fun xs H Q _ => ∃ (t : Addr) (ls : List Nat), xs = [.ref t] ∧ SqT K H t (szV ls) ∧ BoxOk ls ∧ ∀ H', Same H H' → Q .non H'
def spBLet (K : PySem.W.Frag) : Sp := fun xs H Q _ => ∃ (t : Addr) (ls : List Nat), xs = [.ref t] ∧ SqT K H t (szV ls) ∧ BoxOk ls ∧ Q (.str (boxLs ls.length)) H
def spCoord (K : PySem.W.Frag) : Sp := fun xs H Q _ => ∃ (t : Addr) (ls : List Nat) (i p : Nat), xs = [.ref t, .int (i : Nat), .int (p : Nat)] ∧ SqT K H t (szV ls) ∧ BoxOk ls ∧ i < ls.length ∧ ∀ H', Same H H' → Q (.int ((p / stpN ls i % dimN ls i : Nat) : Int)) H'
def spBLines (K : PySem.W.Frag) : Sp := fun xs H Q _ => ∃ (t : Addr) (ls : List Nat) (i : Nat) (u : Bool), xs = [.ref t, .str (ltB i u)] ∧ SqT K H t (szV ls) ∧ BoxOk ls ∧ i < ls.length ∧
  ∀ H' g gs, Same H H' → H' g = some (.lst gs) → Paired (LstI H') gs (((lnsX ls i).map (dirL u)).map up) → Q (.ref g) H'
def spAlongL (K : PySem.W.Frag) : Sp := fun xs H Q _ => ∃ (g t : Addr) (gs : List V) (ls : List (List Int)) (vs : List Int), xs = [.ref g, .ref t] ∧ H g = some (.lst gs) ∧ Paired (LstI H) gs ls ∧
  (∀ l ∈ ls, (∀ k ∈ l, ∃ j : Nat, k = (j : Int) ∧ j < vs.length) ∧ l.length ≤ 24) ∧ SqT K H t (vs.map V.int) ∧ ∀ H' u, Same H H' → SqT K H' u ((srtTo vs ls).map V.int) → Q (.ref u) H'
def spAxis (K : PySem.W.Frag) : Sp := fun xs H Q _ => ∃ (t f : Addr) (ls : List Nat) (vs : List Int) (i : Nat) (u : Bool), xs = [.ref t, .ref f, .str (ltB i u)] ∧ SqT K H t (szV ls) ∧ BoxOk ls ∧ SqT K H f (vs.map V.int) ∧ Vals9 (prN ls) vs ∧ i < ls.length ∧
  ∀ H' u', Same H H' → SqT K H' u' ((sB ls i u vs).map V.int) → Q (.ref u') H'
end KS
namespace KS
open PySem PySem.Spec PyProof.Rows L2 RZ
abbrev nBL : List Str := ["lengths", "letter", "axis", "step", "starts", "found", "place", "start", "at", "line"]
section
variable {P : Program} {w : World} {K : PySem.W.Frag} {mg : Str → Option Value} {base : Heap}
end
end KS
namespace KS
open PySem PySem.Spec PyProof.Rows L2 RZ
theorem lnN_up {ls : List Nat} {i s j : Nat} : (List.range (j + 1)).map (fun a => s + stpN ls i * a) = (List.range j).map (fun a => s + stpN ls i * a) ++ [s + stpN ls i * j] := by
  rw [List.range_succ, List.map_append]
  rfl
def p0 (ls : List Nat) (i j : Nat) : Nat := j / stpN ls i % dimN ls i
theorem up_app (a b : List Nat) : up (a ++ b) = up a ++ up b := List.map_append ..
theorem up_rev (a : List Nat) : up a.reverse = (up a).reverse := by
  unfold up
  rw [List.map_reverse]
section
variable {P : Program} {w : World} {K : PySem.W.Frag} {mg : Str → Option Value} {base : Heap}
end
end KS
namespace KS
open PySem PySem.Spec PyProof.Rows L2 RZ
/-! ### words over a box's letters -/
abbrev Mk := Nat × Bool
def chB (m : Mk) : Nat := match m with
  | (0, true) => 120 | (0, false) => 88 | (1, true) => 121 | (1, false) => 89 | (_, true) => 122 | (_, false) => 90
def bwS (w : List Mk) : Str := ⟨(w.map chB).toArray⟩
theorem chB_str {m : Mk} (h : m.1 < 3) : (⟨#[chB m]⟩ : Str) = ltB m.1 m.2 := by
  obtain ⟨i, u⟩ := m
  rcases three h with z | z | z <;> (have z : i = _ := z; subst z) <;> cases u <;> decide +kernel
theorem chB_inj {m k : Mk} (h : m.1 < 3) (h' : k.1 < 3) (e : chB m = chB k) : m = k := by
  obtain ⟨i, u⟩ := m
  obtain ⟨j, v⟩ := k
  have h1 : i < 3 := h
  have h2 : j < 3 := h'
  rcases three h1 with z | z | z <;> subst z <;> rcases three h2 with y | y | y <;> subst y <;> cases u <;> cases v <;> first | rfl | (exact absurd e (by decide))
theorem bwS_len (w : List Mk) : (bwS w).length = w.length := by
  show (w.map chB).toArray.size = _
  rw [List.size_toArray, List.length_map]
theorem bwS_at {w : List Mk} {i c : Nat} (h : (bwS w).cps[i]? = some c) : ∃ b, w[i]? = some b ∧ c = chB b := by
  have h' : (w.map chB).toArray[i]? = some c := h
  rw [List.getElem?_toArray, List.getElem?_map] at h'
  cases e : w[i]? with
  | none =>
    rw [e] at h'
    cases h'
  | some b =>
    rw [e] at h'
    cases h'
    exact ⟨b, rfl, rfl⟩
theorem bwS_app (a b : List Mk) : bwS a ++ bwS b = bwS (a ++ b) := by
  show (⟨(a.map chB).toArray ++ (b.map chB).toArray⟩ : Str) = ⟨((a ++ b).map chB).toArray⟩
  rw [List.map_append]
  simp
theorem bwS_rep (b : Mk) (n : Nat) : (⟨(List.replicate n (chB b)).toArray⟩ : Str) = bwS (List.replicate n b) := by
  unfold bwS
  rw [List.map_replicate]
theorem bwS_cut (a : List Mk) (n : Nat) (h : n ≤ a.length) : cutS (bwS a) none (some (n : Int)) = bwS (a.take n) := by
  have hl := bwS_len a
  unfold cutS
  have e0 : HT.sIx (bwS a).length 0 none = 0 := rfl
  have e1 : HT.sIx (bwS a).length (bwS a).length (some (n : Int)) = n := by
    rw [HT.sIx_nat, hl]
    omega
  rw [e0, e1]
  show (⟨(((a.map chB).toArray.toList.drop 0).take (n - 0)).toArray⟩ : Str) = ⟨((a.take n).map chB).toArray⟩
  simp
structure WdOk (n : Nat) (wd : List Mk) : Prop where
  inn : ∀ m ∈ wd, m.1 < n
theorem WdOk.at_ {n : Nat} {wd : List Mk} (h : WdOk n wd) {i : Nat} {m : Mk} (e : wd[i]? = some m) : m.1 < n := h.inn m (List.mem_of_getElem? e)
def aftB (ls : List Nat) (wd : List Mk) (vs : List Int) : List Int := wd.foldl (fun v m => sB ls m.1 m.2 v) vs
theorem aftB_more (ls : List Nat) (wd : List Mk) (m : Mk) (vs : List Int) : aftB ls (wd ++ [m]) vs = sB ls m.1 m.2 (aftB ls wd vs) := by
  unfold aftB
  rw [List.foldl_append]
  rfl
theorem aftB_len (ls : List Nat) : ∀ (wd : List Mk) (vs : List Int), (aftB ls wd vs).length = vs.length
  | [], _ => rfl
  | m :: wd, vs => by
    show (aftB ls wd (sB ls m.1 m.2 vs)).length = _
    rw [aftB_len ls wd, sB_len]
theorem aftB9 {ls : List Nat} (bx : BoxOk ls) : ∀ {wd : List Mk} {vs : List Int}, WdOk ls.length wd → Vals9 (prN ls) vs → Vals9 (prN ls) (aftB ls wd vs)
  | [], _, _, h => h
  | m :: wd, vs, k, h => aftB9 bx (wd := wd) ⟨fun z hz => k.inn z (List.mem_cons_of_mem _ hz)⟩ (sB9 (boxL bx (k.inn m List.mem_cons_self)) h)
theorem box_mark {n k c : Nat} (h1 : 1 ≤ n) (h3 : n ≤ 3) (h : (boxLs n).cps[k]? = some c) : ∃ m : Mk, m.1 < n ∧ c = chB m := by
  have hm : c ∈ (boxLs n).cps.toList := by
    rw [← Array.getElem?_toList] at h
    exact List.mem_of_getElem? h
  have hn : n = 1 ∨ n = 2 ∨ n = 3 := by omega
  rcases hn with z | z | z <;> subst z
  · have e : (boxLs 1).cps.toList = [88, 120] := by decide +kernel
    rw [e] at hm
    rcases (by simpa using hm : c = 88 ∨ c = 120) with z | z <;> subst z
    · exact ⟨(0, false), by decide, rfl⟩
    · exact ⟨(0, true), by decide, rfl⟩
  · have e : (boxLs 2).cps.toList = [88, 89, 120, 121] := by decide +kernel
    rw [e] at hm
    rcases (by simpa using hm : c = 88 ∨ c = 89 ∨ c = 120 ∨ c = 121) with z | z | z | z <;> subst z
    · exact ⟨(0, false), by decide, rfl⟩
    · exact ⟨(1, false), by decide, rfl⟩
    · exact ⟨(0, true), by decide, rfl⟩
    · exact ⟨(1, true), by decide, rfl⟩
  · have e : (boxLs 3).cps.toList = [88, 89, 90, 120, 121, 122] := by decide +kernel
    rw [e] at hm
    rcases (by simpa using hm : c = 88 ∨ c = 89 ∨ c = 90 ∨ c = 120 ∨ c = 121 ∨ c = 122) with z | z | z | z | z | z <;> subst z
    · exact ⟨(0, false), by decide, rfl⟩
    · exact ⟨(1, false), by decide, rfl⟩
    · exact ⟨(2, false), by decide, rfl⟩
    · exact ⟨(0, true), by decide, rfl⟩
    · exact ⟨(1, true), by decide, rfl⟩
    · exact ⟨(2, true), by decide, rfl⟩
theorem box_has {n : Nat} (h1 : 1 ≤ n) (h3 : n ≤ 3) {m : Mk} (hm : m.1 < n) : chB m ∈ (boxLs n).cps.toList := by
  obtain ⟨i, u⟩ := m
  have hi : i < n := hm
  have hn : n = 1 ∨ n = 2 ∨ n = 3 := by omega
  have h2 := three (show i < 3 by omega)
  rcases hn with z | z | z <;> subst z <;> rcases h2 with y | y | y <;> subst y <;> first | (exfalso; omega) | (cases u <;> decide +kernel)
theorem boxLs_size {n : Nat} (h1 : 1 ≤ n) (h3 : n ≤ 3) : (boxLs n).cps.size ≤ 6 := by
  have hn : n = 1 ∨ n = 2 ∨ n = 3 := by omega
  rcases hn with z | z | z <;> subst z <;> decide +kernel
def lnB (ls : List Nat) (m : Mk) : List (List Int) := ((lnsX ls m.1).map (dirL m.2)).map up
theorem lnB_ok {ls : List Nat} {m : Mk} (b : BoxL ls m.1) {n : Nat} (hn : n = prN ls) : ∀ l ∈ lnB ls m, (∀ k ∈ l, ∃ j : Nat, k = (j : Int) ∧ j < n) ∧ l.length ≤ 24 := by
  intro l hl
  obtain ⟨l1, hl1, rfl⟩ := List.mem_map.mp hl
  obtain ⟨l2, hl2, rfl⟩ := List.mem_map.mp hl1
  obtain ⟨s0, hs0, rfl⟩ := List.mem_map.mp hl2
  refine ⟨fun k hk => ?_, ?_⟩
  · obtain ⟨k', hk', rfl⟩ := List.mem_map.mp hk
    refine ⟨k', rfl, ?_⟩
    rw [hn]
    exact b.bd _ hl2 k' ((dirL_perm m.2 _).mem_iff.mp hk')
  · unfold up
    rw [List.length_map, dirL_len]
    unfold lnN
    rw [List.length_map, List.length_range]
    have := b.st
    omega
/-- the lines of each letter, in a dict -/
def DictB (H : Hp) (d : Addr) (ls : List Nat) (ok : Mk → Prop) : Prop := ∃ kvs : List (Key × V), H d = some (.dK kvs) ∧ kvs.length ≤ 6 ∧ ∀ m : Mk, m.1 < ls.length → ok m → ∃ g gs, valV kvs (.inr ⟨#[chB m]⟩) = some (.ref g) ∧ H g = some (.lst gs) ∧ Paired (LstI H) gs (lnB ls m)
theorem DictB.same {H H' : Hp} {d : Addr} {ls : List Nat} {ok : Mk → Prop} (h : DictB H d ls ok) (s : Same H H') : DictB H' d ls ok := by
  obtain ⟨kvs, e, l, k⟩ := h
  refine ⟨kvs, s _ _ e, l, fun m hm o => ?_⟩
  obtain ⟨g, gs, a1, a2, a3⟩ := k m hm o
  exact ⟨g, gs, a1, s _ _ a2, Paired.mono (fun _ _ ⟨t, e1, e2⟩ => ⟨t, e1, s _ _ e2⟩) a3⟩
/-! ### {k: v for c in text} -/
theorem dc_it {J : It} {n : Nat} {Gd : Hp → Prop} {Y : Nat → Hp → V → Hp → Prop} (w : Walk J n Gd Y) {g : TG} {tt : TT} {tk tv : TE} {vs : List Nat} {σ : L2.St} {H1 : Hp} {D : Addr} {Qd : Hp → Prop} (Pv : Nat → Hp → Prop) (h0 : Pv 0 (upd H1 D (.dK []))) (hl : ∀ i H, i ≤ n → Pv i H → Gd H)
    (hs : ∀ i x H H', i < n → Pv i H → Y i H x H' → g x (wipe σ vs) H' fun σ2 H2 => wipe σ2 vs = wipe σ vs ∧ tt σ2 H2 fun b H3 =>
      if b = true then tk σ2 H3 fun y H4 => tv σ2 H4 fun z H5 => ∃ kvs k, y = kV k ∧ H5 D = some (.dK kvs) ∧ kvs.length < sizeLine ∧ Pv (i + 1) (upd H5 D (.dK (putK kvs k z))) else Pv (i + 1) H3) (hd : ∀ H, Pv n H → Qd H) :
    ∃ W : Nat → Nat → Hp → Prop, (∃ m, W 0 m (upd H1 D (.dK []))) ∧ ∀ i m H, W i m H →
      (J.stop i H ∧ Qd H) ∨ (J.go i H ∧ ∃ Nx : Hp → Prop, (∀ H', Nx H' → ∃ m', m' < m ∧ W (i + 1) m' H') ∧ ∀ x H', J.yld i H x H' → g x (wipe σ vs) H' fun σ2 H2 => wipe σ2 vs = wipe σ vs ∧ tt σ2 H2 fun b H3 =>
        if b = true then tk σ2 H3 fun y H4 => tv σ2 H4 fun z H5 => ∃ kvs k, y = kV k ∧ H5 D = some (.dK kvs) ∧ kvs.length < sizeLine ∧ Nx (upd H5 D (.dK (putK kvs k z))) else Nx H3) := by
  refine ⟨fun i m H => m = n - i ∧ i ≤ n ∧ Pv i H, ⟨n, by simp, Nat.zero_le _, h0⟩, ?_⟩
  rintro i m H ⟨rfl, hi, p⟩
  have q := hl i H hi p
  by_cases hlt : i < n
  · exact .inr ⟨w.goes i H hlt q, Pv (i + 1), fun H' p' => ⟨n - (i + 1), by omega, rfl, hlt, p'⟩, fun x H' y => hs i x H H' hlt p (w.yields i H x H' hlt q y)⟩
  · have e : i = n := by omega
    subst e
    exact .inl ⟨w.stops H q, hd H p⟩
section
variable {X : Cx}
theorem ps_setDc {i : Nat} {y : Str} {py : Pos} {kx vx tg iter : Expr} {ifs : List Expr} {scope : Scope} {own : List (Str × Nat)} {pos spos : Pos} {wi : TI} {g : TG} {tt : TT} {tk tv : TE} (hc : X.calm = true) (hN : X.N.Nodup) (hy : X.N[i]? = some y) (hyl : X.env.scope.names.lookup y = some .local)
    (hsw : swapsWith (.DictComp kx vx [⟨tg, iter, ifs, 0⟩] scope pos) (some (.Name y py)) spos.line X.env = pure true) (hi : PI X tg iter wi) (ok : BlkOk X.N X.env.scope scope own)
    (hg : ∀ (s : Shared) (H : Hp) (C : Addr) (cl : List (Str × Addr)) (fp : List Addr), PG (X.blk s H scope (compEnvC scope cl C X.env) fp) tg g) (ht : ∀ (s : Shared) (H : Hp) (C : Addr) (cl : List (Str × Addr)) (fp : List Addr), PTs (X.blk s H scope (compEnvC scope cl C X.env) fp) ifs tt)
    (hk : ∀ (s : Shared) (H : Hp) (C : Addr) (cl : List (Str × Addr)) (fp : List Addr), PE (X.blk s H scope (compEnvC scope cl C X.env) fp) kx tk)
    (he : ∀ (s : Shared) (H : Hp) (C : Addr) (cl : List (Str × Addr)) (fp : List Addr), PE (X.blk s H scope (compEnvC scope cl C X.env) fp) vx tv) (hs : ∀ x, foldedSetIterable iter X.env x = pure x := by intro _; rfl) :
    PS X (.Assign [.Name y py] (.DictComp kx vx [⟨tg, iter, ifs, 0⟩] scope pos) spos) (tAsg (tDc wi g tt tk tv (own.map (·.2))) (gName i)) := by
  refine ⟨fun pins s σ H D I h => ?_⟩
  rw [exec_Assign_Name_used _ _ _ _ hsw]
  refine wpAny_bind (wpAny_standAt (wpAny_bind ?_))
  show wpAny _ X.A (do let _ ← comprehension (.DictComp kx vx [⟨tg, iter, ifs, 0⟩] scope pos) scope X.env (firstIterPos [⟨tg, iter, ifs, 0⟩] pos) newDict false (eval iter X.env) (some (assign (.Name y py) X.env))) _ _ s
  have h : tDc wi g tt tk tv (own.map (·.2)) σ H (fun x H1 => gName i x σ H1 D.nx) := h
  refine wpAny_bind (thn (dc_core (Qf := fun _ s' => SP X pins D .next s') hc hN I hi ok hg ht hk he hs h fun L C s' m H' I' q hn f => ?_) fun _ s' hq => wpAny_pure (wpAny_pure hq))
  show wpAny _ _ (assign (.Name y py) X.env (.ref L)) _ _ _
  refine wpAny_assign_Name (store_ok2 (v := V.ref L) I' hN hy (.inl hyl) rfl (fun s2 I2 ⟨a, sb, ha⟩ => ?_) (.inr hyl))
  obtain ⟨f0, f1, f2, f3, f4, f5⟩ := f
  have haC : C ≠ a := by
    rcases ha with z | z
    · rw [z]; exact f1
    · exact fun e => f4 y a z e.symm
  refine ⟨m, hn.sameBut sb haC, fun h3 sb3 => ?_⟩
  exact ⟨_, H', I2.turned (t' := s2.toks) (fun b o hb e => (sb3.2 b hb).trans e) f0 f1 f3 f4 f5, q⟩
theorem sw_trueD {kx vx : Expr} {gs : List Comprehension} {scope : Scope} {pos py : Pos} {y : Str} {l : Nat} {env : Env} (hk : env.scope.kind = .function) (hy : env.scope.names.lookup y = some .local) (hl : (py.line == pos.line) = true)
    (ha : (scope.names.any fun (n, k) => n == y && (k == .local || k == .cell)) = false) : swapsWith (.DictComp kx vx gs scope pos) (some (.Name y py)) l env = pure true := by
  have ky : env.kindOf y = some .local := hy
  have hb : env.blockKind = .function := by unfold Env.blockKind; rw [hk]; rfl
  unfold swapsWith
  simp only [hb, ky, ha, Expr.pos, hl]
  rfl
end
/-! ### promises -/
def spCheckLB : Sp := fun xs H Q _ => ∃ (wd : List Mk) (n : Nat), xs = [.str (bwS wd), .str (boxLs n)] ∧ 1 ≤ n ∧ n ≤ 3 ∧ WdOk n wd ∧ wd.length ≤ 400 ∧ ∀ H', Same H H' → Q .non H'
def spBWord (K : PySem.W.Frag) : Sp := fun xs H Q _ => ∃ (t : Addr) (ls : List Nat) (wd : List Mk), xs = [.ref t, .str (bwS wd)] ∧ SqT K H t (szV ls) ∧ BoxOk ls ∧ WdOk ls.length wd ∧ wd.length ≤ 400 ∧ ∀ H', Same H H' → Q .non H'
def spBAfter (K : PySem.W.Frag) : Sp := fun xs H Q _ => ∃ (t f : Addr) (ls : List Nat) (vs : List Int) (wd : List Mk), xs = [.ref t, .ref f, .str (bwS wd)] ∧ SqT K H t (szV ls) ∧ BoxOk ls ∧ SqT K H f (vs.map V.int) ∧ Vals9 (prN ls) vs ∧ WdOk ls.length wd ∧ wd.length ≤ 400 ∧
  ∀ H' u', Same H H' → SqT K H' u' ((aftB ls wd vs).map V.int) → Q (.ref u') H'
def spWalked (K : PySem.W.Frag) : Sp := fun xs H Q _ => ∃ (t f : Addr) (ls : List Nat) (vs : List Int) (wd : List Mk), xs = [.ref t, .ref f, .str (bwS wd)] ∧ SqT K H t (szV ls) ∧ BoxOk ls ∧ SqT K H f (vs.map V.int) ∧ vs.length = prN ls ∧ WdOk ls.length wd ∧
  ∀ H' u', Same H H' → SqT K H' u' ((aftB ls wd vs).map V.int) → Q (.ref u') H'
def spCode (K : PySem.W.Frag) : Sp := fun xs H Q _ => ∃ (p t : Addr) (ls : List Nat) (m : Nat), xs = [.ref p, .ref t, .int m] ∧ PoolO (H p) ∧ SqT K H t (szV ls) ∧ BoxOk ls ∧ m ≤ 400 ∧
  ∀ H' wd, KeepX p H H' → PoolO (H' p) → WdOk ls.length wd → wd.length ≤ m → Q (.str (bwS wd)) H'
end KS
namespace KS
open PySem PySem.Spec PyProof.Rows L2 RZ
/-! ### the normal form of a word over a box -/
def axF (ls : List Nat) (acc : List Nat) (m : Mk) : List Nat := if 1 < dimN ls m.1 ∧ m.1 ∉ acc then acc ++ [m.1] else acc
def axs (ls : List Nat) (wd : List Mk) : List Nat := wd.foldl (axF ls) []
def lastM (a : Nat) (wd : List Mk) : Mk := (wd.filter fun m => m.1 == a).getLast?.getD (a, true)
def nrm (ls : List Nat) (wd : List Mk) : List Mk := (axs ls wd).map fun a => lastM a wd
theorem axs_more (ls : List Nat) (wd : List Mk) (m : Mk) : axs ls (wd ++ [m]) = axF ls (axs ls wd) m := by
  unfold axs
  rw [List.foldl_append]
  rfl
theorem ax_mem {ls : List Nat} {a : Nat} : ∀ {wd : List Mk} {acc : List Nat}, a ∈ wd.foldl (axF ls) acc → a ∈ acc ∨ (1 < dimN ls a ∧ ∃ m ∈ wd, m.1 = a)
  | [], acc, h => .inl h
  | m :: wd, acc, h => by
    rcases ax_mem (wd := wd) (acc := axF ls acc m) h with z | ⟨z, m', hm, e⟩
    · unfold axF at z
      split at z
      · rename_i c
        rcases List.mem_append.mp z with y | y
        · exact .inl y
        · have e : a = m.1 := by simpa using y
          subst e
          exact .inr ⟨c.1, m, List.mem_cons_self, rfl⟩
      · exact .inl z
    · exact .inr ⟨z, m', List.mem_cons_of_mem _ hm, e⟩
theorem axs_mem {ls : List Nat} {wd : List Mk} {a : Nat} (h : a ∈ axs ls wd) : 1 < dimN ls a ∧ ∃ m ∈ wd, m.1 = a := by
  rcases ax_mem h with z | z
  · cases z
  · exact z
theorem ax_nodup (ls : List Nat) : ∀ (wd : List Mk) (acc : List Nat), acc.Nodup → (wd.foldl (axF ls) acc).Nodup
  | [], _, h => h
  | m :: wd, acc, h => by
    refine ax_nodup ls wd (axF ls acc m) ?_
    unfold axF
    split
    · rename_i c
      rw [List.nodup_append]
      refine ⟨h, by simp, fun x hx y hy => ?_⟩
      have e : y = m.1 := by simpa using hy
      subst e
      exact fun z => c.2 (z ▸ hx)
    · exact h
theorem axs_nodup (ls : List Nat) (wd : List Mk) : (axs ls wd).Nodup := ax_nodup ls wd [] List.nodup_nil
theorem lastM_more (a : Nat) (wd : List Mk) (m : Mk) : lastM a (wd ++ [m]) = if m.1 = a then m else lastM a wd := by
  unfold lastM
  rw [List.filter_append]
  by_cases e : m.1 = a
  · rw [if_pos e]
    have : List.filter (fun m => m.1 == a) [m] = [m] := by simp [e]
    rw [this]
    simp
  · rw [if_neg e]
    have : List.filter (fun m => m.1 == a) [m] = [] := by simp [e]
    rw [this, List.append_nil]
theorem lastM_fst (a : Nat) (wd : List Mk) : (lastM a wd).1 = a := by
  unfold lastM
  cases h : (wd.filter fun m => m.1 == a).getLast? with
  | none => rfl
  | some m =>
    have := List.mem_of_getLast? h
    have := (List.mem_filter.mp this).2
    simpa using this
theorem ax_all (ls : List Nat) : ∀ (xs : List Mk) (acc : List Nat), (acc ++ xs.map (·.1)).Nodup → (∀ m ∈ xs, 1 < dimN ls m.1) → xs.foldl (axF ls) acc = acc ++ xs.map (·.1)
  | [], acc, _, _ => by simp
  | m :: xs, acc, h, b => by
    have hn : m.1 ∉ acc := fun hm => (List.nodup_append.mp h).2.2 m.1 hm m.1 (by simp) rfl
    have e : axF ls acc m = acc ++ [m.1] := by
      unfold axF
      rw [if_pos ⟨b m List.mem_cons_self, hn⟩]
    have h' : (acc ++ [m.1] ++ xs.map (·.1)).Nodup := by
      rw [List.append_assoc]
      exact h
    show xs.foldl (axF ls) (axF ls acc m) = _
    rw [e, ax_all ls xs (acc ++ [m.1]) h' fun z hz => b z (List.mem_cons_of_mem _ hz), List.append_assoc]
    rfl
theorem filt_one : ∀ {xs : List Mk} {m : Mk}, (xs.map (·.1)).Nodup → m ∈ xs → (xs.filter fun z => z.1 == m.1) = [m]
  | [], _, _, h => by cases h
  | x :: xs, m, nd, h => by
    rw [List.map_cons, List.nodup_cons] at nd
    rcases List.mem_cons.mp h with e | h
    · subst e
      rw [List.filter_cons, if_pos (by simp)]
      have : (xs.filter fun z => z.1 == m.1) = [] := by
        rw [List.filter_eq_nil_iff]
        intro z hz c
        have c' : z.1 = m.1 := by simpa using c
        exact nd.1 (c' ▸ List.mem_map_of_mem hz)
      rw [this]
    · have ne : ¬ (x.1 == m.1) = true := fun c => by
        have c' : x.1 = m.1 := by simpa using c
        exact nd.1 (c' ▸ List.mem_map_of_mem h)
      rw [List.filter_cons, if_neg ne]
      exact filt_one nd.2 h
theorem nrm_fst (ls : List Nat) (wd : List Mk) : (nrm ls wd).map (·.1) = axs ls wd := by
  unfold nrm
  rw [List.map_map]
  have : ((fun m : Mk => m.1) ∘ fun a => lastM a wd) = id := funext fun a => lastM_fst a wd
  rw [this, List.map_id]
theorem nrm_big {ls : List Nat} {wd : List Mk} {m : Mk} (h : m ∈ nrm ls wd) : 1 < dimN ls m.1 := by
  have : m.1 ∈ (nrm ls wd).map (·.1) := List.mem_map_of_mem h
  rw [nrm_fst] at this
  exact (axs_mem this).1
/-- the normal form is its own -/
theorem nrm_nrm (ls : List Nat) (wd : List Mk) : nrm ls (nrm ls wd) = nrm ls wd := by
  have nd : ((nrm ls wd).map (·.1)).Nodup := by rw [nrm_fst]; exact axs_nodup ls wd
  have e : axs ls (nrm ls wd) = (nrm ls wd).map (·.1) := by
    unfold axs
    rw [ax_all ls (nrm ls wd) [] (by simpa using nd) fun m hm => nrm_big hm]
    rfl
  have e2 : nrm ls (nrm ls wd) = ((nrm ls wd).map (·.1)).map fun a => lastM a (nrm ls wd) := by
    show (axs ls (nrm ls wd)).map _ = _
    rw [e]
  rw [e2, List.map_map]
  have : ∀ m ∈ nrm ls wd, ((fun a => lastM a (nrm ls wd)) ∘ fun m : Mk => m.1) m = id m := fun m hm => by
    show lastM m.1 (nrm ls wd) = m
    unfold lastM
    rw [filt_one nd hm]
    rfl
  rw [List.map_congr_left this, List.map_id]
theorem nrm_ok {ls : List Nat} {wd : List Mk} (h : WdOk ls.length wd) : WdOk ls.length (nrm ls wd) := ⟨fun m hm => by
  have : m.1 ∈ (nrm ls wd).map (·.1) := List.mem_map_of_mem hm
  rw [nrm_fst] at this
  obtain ⟨_, k, hk, e⟩ := axs_mem this
  rw [← e]
  exact h.inn k hk⟩
theorem few_nodup : ∀ {n : Nat} {l : List Nat}, l.Nodup → (∀ x ∈ l, x < n) → l.length ≤ n
  | 0, [], _, _ => Nat.le_refl _
  | 0, x :: l, _, h => absurd (h x List.mem_cons_self) (Nat.not_lt_zero _)
  | n + 1, l, nd, h => by
    have e := few_nodup (n := n) (l := l.erase n) (nd.erase n) (fun x hx => by
      have h1 := h x (List.mem_of_mem_erase hx)
      have h2 : x ≠ n := fun z => by
        subst z
        exact nd.not_mem_erase hx
      omega)
    have := List.le_length_erase (a := n) (l := l)
    omega
theorem axs_few {ls : List Nat} {wd : List Mk} (h : WdOk ls.length wd) : (axs ls wd).length ≤ ls.length := few_nodup (axs_nodup ls wd) fun x hx => by
  obtain ⟨_, k, hk, e⟩ := axs_mem hx
  rw [← e]
  exact h.inn k hk
theorem nrm_len {ls : List Nat} {wd : List Mk} (h : WdOk ls.length wd) : (nrm ls wd).length ≤ ls.length := by
  unfold nrm
  rw [List.length_map]
  exact axs_few h
/-! ### the dict of the program -/
def keyA (a : Nat) : Key := .inr (ltB a true)
theorem keyA_inj {a b : Nat} (ha : a < 3) (hb : b < 3) (e : keyA a = keyA b) : a = b := by
  have e' : ltB a true = ltB b true := Sum.inr.inj e
  rcases three ha with z | z | z <;> subst z <;> rcases three hb with y | y | y <;> subst y <;> first | rfl | (exact absurd e' (by decide +kernel))
def kvOf (ls : List Nat) (wd : List Mk) : List (Key × V) := (axs ls wd).map fun a => (keyA a, V.str ⟨#[chB (lastM a wd)]⟩)
theorem kv_any {ls : List Nat} {wd : List Mk} {m : Mk} (wo : WdOk 3 wd) (hm : m.1 < 3) : ((kvOf ls wd).any fun kv => decide (kv.1 = keyA m.1)) = decide (m.1 ∈ axs ls wd) := by
  unfold kvOf
  rw [List.any_map, Bool.eq_iff_iff, List.any_eq_true, decide_eq_true_iff]
  constructor
  · rintro ⟨a, ha, e⟩
    have e' : keyA a = keyA m.1 := of_decide_eq_true e
    obtain ⟨_, k, hk, ek⟩ := axs_mem ha
    have : a < 3 := by rw [← ek]; exact wo.inn k hk
    rw [← keyA_inj this hm e']
    exact ha
  · intro h
    exact ⟨m.1, h, decide_eq_true rfl⟩
theorem kv_put {ls : List Nat} {wd : List Mk} {m : Mk} (wo : WdOk 3 wd) (hm : m.1 < 3) (hb : 1 < dimN ls m.1) : putK (kvOf ls wd) (keyA m.1) (V.str ⟨#[chB m]⟩) = kvOf ls (wd ++ [m]) := by
  have any := kv_any (ls := ls) wo hm
  unfold putK
  by_cases c : m.1 ∈ axs ls wd
  · rw [if_pos (by rw [any]; exact decide_eq_true c)]
    have e : axs ls (wd ++ [m]) = axs ls wd := by
      rw [axs_more]
      unfold axF
      rw [if_neg (fun z => z.2 c)]
    unfold kvOf
    rw [e, List.map_map]
    refine List.map_congr_left fun a ha => ?_
    have ha3 : a < 3 := by
      obtain ⟨_, k, hk, ek⟩ := axs_mem ha
      rw [← ek]
      exact wo.inn k hk
    show (if keyA a = keyA m.1 then (keyA a, V.str ⟨#[chB m]⟩) else (keyA a, V.str ⟨#[chB (lastM a wd)]⟩)) = (keyA a, V.str ⟨#[chB (lastM a (wd ++ [m]))]⟩)
    rw [lastM_more]
    by_cases d : m.1 = a
    · rw [if_pos d, if_pos (by rw [d])]
    · rw [if_neg d, if_neg (fun z => d (keyA_inj ha3 hm z).symm)]
  · rw [if_neg (by rw [any]; simpa using c)]
    have e : axs ls (wd ++ [m]) = axs ls wd ++ [m.1] := by
      rw [axs_more]
      unfold axF
      rw [if_pos ⟨hb, c⟩]
    unfold kvOf
    rw [e, List.map_append]
    congr 1
    · refine List.map_congr_left fun a ha => ?_
      rw [lastM_more, if_neg (fun z : m.1 = a => c (by rw [z]; exact ha))]
    · show [(keyA m.1, V.str ⟨#[chB m]⟩)] = [(keyA m.1, V.str ⟨#[chB (lastM m.1 (wd ++ [m]))]⟩)]
      rw [lastM_more, if_pos rfl]
theorem kv_same {ls : List Nat} {wd : List Mk} {m : Mk} (hb : ¬ 1 < dimN ls m.1) : kvOf ls (wd ++ [m]) = kvOf ls wd := by
  have e : axs ls (wd ++ [m]) = axs ls wd := by
    rw [axs_more]
    unfold axF
    rw [if_neg (fun z => hb z.1)]
  unfold kvOf
  rw [e]
  refine List.map_congr_left fun a ha => ?_
  rw [lastM_more, if_neg (fun z : m.1 = a => hb (by rw [z]; exact (axs_mem ha).1))]
end KS
namespace KS
open PySem PySem.Spec PyProof.Rows L2 RZ
/-! ### all normal words of a box, shorter ones first -/
def marksB (n : Nat) : List Mk := ((List.range n).map fun i => (i, false)) ++ ((List.range n).map fun i => (i, true))
def lets (ls : List Nat) : List Mk := (marksB ls.length).filter fun m => decide (1 < dimN ls m.1)
def freeOf (w : List Mk) (m : Mk) : Bool := !(w.any fun z => z.1 == m.1)
def lvlN (ls : List Nat) (l : List (List Mk)) : List (List Mk) := l.flatMap fun w => ((lets ls).filter (freeOf w)).map fun m => w ++ [m]
def lvl (ls : List Nat) : Nat → List (List Mk)
  | 0 => [[]]
  | k + 1 => lvlN ls (lvl ls k)
def norms (ls : List Nat) : List (List Mk) := lvl ls 0 ++ lvl ls 1 ++ lvl ls 2 ++ lvl ls 3
theorem mem_lets {ls : List Nat} {m : Mk} : m ∈ lets ls ↔ m.1 < ls.length ∧ 1 < dimN ls m.1 := by
  unfold lets marksB
  rw [List.mem_filter, List.mem_append, List.mem_map, List.mem_map, decide_eq_true_iff]
  obtain ⟨i, u⟩ := m
  constructor
  · rintro ⟨⟨a, ha, e⟩ | ⟨a, ha, e⟩, b⟩
    · cases e
      exact ⟨List.mem_range.mp ha, b⟩
    · cases e
      exact ⟨List.mem_range.mp ha, b⟩
  · rintro ⟨a, b⟩
    refine ⟨?_, b⟩
    cases u
    · exact .inl ⟨i, List.mem_range.mpr a, rfl⟩
    · exact .inr ⟨i, List.mem_range.mpr a, rfl⟩
theorem mem_lvl {ls : List Nat} : ∀ (k : Nat) {w : List Mk}, w.length = k → (w.map (·.1)).Nodup → (∀ m ∈ w, m ∈ lets ls) → w ∈ lvl ls k
  | 0, w, h, _, _ => by
    rw [List.length_eq_zero_iff.mp h]
    exact List.mem_singleton.mpr rfl
  | k + 1, w, h, nd, hm => by
    have hne : w ≠ [] := fun e => by rw [e] at h; cases h
    have e := List.dropLast_concat_getLast hne
    have hd : w.dropLast.length = k := by rw [List.length_dropLast]; omega
    rw [← e, List.map_append, List.nodup_append] at nd
    obtain ⟨n1, _, n3⟩ := nd
    have ih := mem_lvl k hd n1 fun m hm' => hm m (List.dropLast_subset w hm')
    show w ∈ lvlN ls (lvl ls k)
    unfold lvlN
    rw [List.mem_flatMap]
    refine ⟨w.dropLast, ih, ?_⟩
    rw [List.mem_map]
    refine ⟨w.getLast hne, List.mem_filter.mpr ⟨hm _ (List.getLast_mem hne), ?_⟩, e⟩
    unfold freeOf
    rw [Bool.not_eq_true']
    rw [← Bool.not_eq_true, List.any_eq_true]
    rintro ⟨z, hz, ez⟩
    have ez' : z.1 = (w.getLast hne).1 := by simpa using ez
    exact n3 z.1 (List.mem_map_of_mem hz) (w.getLast hne).1 (by simp) ez'
/-- each normal form stands among them -/
theorem nrm_mem {ls : List Nat} {wd : List Mk} (h3 : ls.length ≤ 3) (wo : WdOk ls.length wd) : nrm ls wd ∈ norms ls := by
  have nd : ((nrm ls wd).map (·.1)).Nodup := by rw [nrm_fst]; exact axs_nodup ls wd
  have k := mem_lvl (ls := ls) _ rfl nd fun m hm => mem_lets.mpr ⟨(nrm_ok wo).inn m hm, nrm_big hm⟩
  have l := nrm_len wo
  have : (nrm ls wd).length = 0 ∨ (nrm ls wd).length = 1 ∨ (nrm ls wd).length = 2 ∨ (nrm ls wd).length = 3 := by omega
  unfold norms
  rw [List.mem_append, List.mem_append, List.mem_append]
  rcases this with e | e | e | e <;> rw [e] at k
  · exact .inl (.inl (.inl k))
  · exact .inl (.inl (.inr k))
  · exact .inl (.inr k)
  · exact .inr k
def bigN (ls : List Nat) : Nat := (ls.filter fun n => decide (1 < n)).length
/-- what shape the box has: which axes are longer than one -/
def shapeOf (ls : List Nat) : List Nat := ls.map fun n => if 1 < n then 2 else 1
theorem dim_shape {ls : List Nat} {i : Nat} (h : i < ls.length) : (1 < dimN (shapeOf ls) i) ↔ 1 < dimN ls i := by
  unfold shapeOf dimN
  rw [List.getD_eq_getElem?_getD, List.getD_eq_getElem?_getD, List.getElem?_map, List.getElem?_eq_getElem h]
  show (1 < if 1 < ls[i] then 2 else 1) ↔ 1 < ls[i]
  split <;> omega
theorem lets_shape (ls : List Nat) : lets (shapeOf ls) = lets ls := by
  unfold lets
  have e : (shapeOf ls).length = ls.length := List.length_map ..
  rw [e]
  refine List.filter_congr fun m hm => ?_
  have hm' : m.1 < ls.length := by
    unfold marksB at hm
    rw [List.mem_append, List.mem_map, List.mem_map] at hm
    rcases hm with ⟨a, ha, rfl⟩ | ⟨a, ha, rfl⟩ <;> exact List.mem_range.mp ha
  rw [decide_eq_decide]
  exact dim_shape hm'
theorem lvl_shape (ls : List Nat) : ∀ k, lvl (shapeOf ls) k = lvl ls k
  | 0 => rfl
  | k + 1 => by
    show lvlN (shapeOf ls) (lvl (shapeOf ls) k) = lvlN ls (lvl ls k)
    rw [lvl_shape ls k]
    unfold lvlN
    rw [lets_shape]
def shapes : List (List Nat) := [[1], [2], [1, 1], [1, 2], [2, 1], [2, 2], [1, 1, 1], [1, 1, 2], [1, 2, 1], [1, 2, 2], [2, 1, 1], [2, 1, 2], [2, 2, 1], [2, 2, 2]]
theorem shape_mem : ∀ ls ∈ allBoxes, shapeOf ls ∈ shapes ∧ bigN (shapeOf ls) = bigN ls := by decide +kernel
theorem shapes_ok : ∀ ls ∈ shapes, lvl ls 4 = [] ∧ (norms ls).length = [1, 3, 13, 79].getD (bigN ls) 0 ∧ (norms ls).Nodup := by decide +kernel
theorem box_norms {ls : List Nat} (bx : BoxOk ls) : lvl ls 4 = [] ∧ (norms ls).length = [1, 3, 13, 79].getD (bigN ls) 0 ∧ (norms ls).Nodup := by
  obtain ⟨h1, h2⟩ := shape_mem ls (boxes_mem bx)
  obtain ⟨a, b, c⟩ := shapes_ok _ h1
  have e : norms (shapeOf ls) = norms ls := by
    unfold norms
    rw [lvl_shape, lvl_shape, lvl_shape, lvl_shape]
  rw [lvl_shape] at a
  rw [e] at b c
  rw [h2] at b
  exact ⟨a, b, c⟩
/-- code by code, the words of one length ascend -/
def ltC : List Mk → List Mk → Bool
  | [], [] => false
  | [], _ :: _ => true
  | _ :: _, [] => false
  | a :: x, b :: y => if chB a = chB b then ltC x y else decide (chB a < chB b)
def ascC : List (List Mk) → Bool
  | a :: b :: r => ltC a b && ascC (b :: r)
  | _ => true
theorem shapes_asc : ∀ ls ∈ shapes, ∀ k, k < 5 → ascC (lvl ls k) = true := by decide +kernel
theorem norms_asc {ls : List Nat} (bx : BoxOk ls) {k : Nat} (hk : k < 5) : ascC (lvl ls k) = true := by
  have := shapes_asc _ (shape_mem ls (boxes_mem bx)).1 k hk
  rw [lvl_shape] at this
  exact this
end KS
namespace KS
open PySem PySem.Spec PyProof.Rows L2 RZ
abbrev nBAf : List Str := ["lengths", "filling", "word", "groups", "result", "letter"]
section
variable {P : Program} {w : World} {K : PySem.W.Frag} {mg : Str → Option Value} {base : Heap}
end
end KS
namespace KS
open PySem PySem.Spec PyProof.Rows L2 RZ
def cS (m : Mk) : Str := ⟨#[chB m]⟩
theorem join_cs : ∀ w : List Mk, Str.join "" (w.map cS) = bwS w
  | [] => by decide +kernel
  | [b] => rfl
  | b :: c :: r => by
    have h := join_cs (c :: r)
    show cS b ++ "" ++ Str.join "" ((c :: r).map cS) = _
    rw [h, show ("" : Str) = bwS [] from by decide +kernel, show cS b = bwS [b] from rfl, bwS_app, bwS_app]
    rfl
theorem join_csT (w : List Mk) : Txt.join "" (w.map cS) = bwS w := by
  show Builtin.Str.glued "" (w.map cS) = _
  rw [StrLaws.glued_eq_join, join_cs]
theorem cs_sum : ∀ w : List Mk, ((w.map cS).map (·.length)).sum = w.length
  | [] => rfl
  | b :: w => by
    show 1 + ((w.map cS).map (·.length)).sum = _
    rw [cs_sum w, List.length_cons]
    omega
theorem ltB_lower {i : Nat} (h : i < 3) (u : Bool) : Txt.lower (ltB i u) = ltB i true := by
  rcases three h with z | z | z <;> subst z <;> cases u <;> decide +kernel
theorem kv_get {ls : List Nat} {wd : List Mk} {j : Nat} {k : Key} {v : V} (wo : WdOk 3 wd) (h : (kvOf ls wd)[j]? = some (k, v)) : ∃ m, (nrm ls wd)[j]? = some m ∧ v = .str (cS m) ∧ valV (kvOf ls wd) k = some v := by
  have hm := List.mem_of_getElem? h
  unfold kvOf at h
  rw [List.getElem?_map] at h
  cases ev : (axs ls wd)[j]? with
  | none =>
    rw [ev] at h
    cases h
  | some a =>
    rw [ev] at h
    cases h
    have ha3 : ∀ x ∈ axs ls wd, x < 3 := fun x hx => by
      obtain ⟨_, z, hz, ez⟩ := axs_mem hx
      rw [← ez]
      exact wo.inn z hz
    refine ⟨lastM a wd, ?_, rfl, ?_⟩
    · unfold nrm
      rw [List.getElem?_map, ev]
      rfl
    · have key : ∀ l : List Nat, (∀ x ∈ l, x < 3) → a ∈ l → valV (l.map fun a => (keyA a, V.str ⟨#[chB (lastM a wd)]⟩)) (keyA a) = some (V.str ⟨#[chB (lastM a wd)]⟩) := by
        intro l
        induction l with
        | nil => intro _ h; cases h
        | cons x l ih =>
          intro h3 hin
          by_cases e : x = a
          · subst e
            rw [List.map_cons, valV_pos rfl]
          · rw [List.map_cons, valV_neg (fun z => e (keyA_inj (h3 x List.mem_cons_self) (h3 a hin) z))]
            refine ih (fun y hy => h3 y (List.mem_cons_of_mem _ hy)) ?_
            rcases List.mem_cons.mp hin with z | z
            · exact absurd z.symm e
            · exact z
      exact key _ ha3 (List.mem_of_getElem? ev)
def spNorm (K : PySem.W.Frag) : Sp := fun xs H Q _ => ∃ (t : Addr) (ls : List Nat) (wd : List Mk), xs = [.ref t, .str (bwS wd)] ∧ SqT K H t (szV ls) ∧ BoxOk ls ∧ WdOk ls.length wd ∧ wd.length ≤ 400 ∧ ∀ H', Same H H' → Q (.str (bwS (nrm ls wd))) H'
abbrev nNorm : List Str := ["lengths", "word", "last", "letter", "name"]
section
variable {P : Program} {w : World} {K : PySem.W.Frag} {mg : Str → Option Value} {base : Heap}
end
end KS
namespace KS
open PySem PySem.Spec PyProof.Rows L2 RZ
def lowM (m : Mk) : Mk := (m.1, true)
theorem lo_chB (m : Mk) : PyProof.Rows.lo1 (chB m) = chB (lowM m) := by
  obtain ⟨i, u⟩ := m
  unfold lowM chB
  rcases i with _ | _ | i <;> cases u <;> first | decide +kernel | (show PyProof.Rows.lo1 90 = 122; decide +kernel) | (show PyProof.Rows.lo1 122 = 122; decide +kernel)
theorem chB_ascii (m : Mk) : chB m < 128 := by
  unfold chB
  split <;> decide
theorem lower_bw (w : List Mk) : Txt.lower (bwS w) = bwS (w.map lowM) := by
  have h : (w.map chB).all (· < 128) = true := by
    rw [List.all_map, List.all_eq_true]
    intro m _
    exact decide_eq_true (chB_ascii m)
  have e := SX.lower_S h
  show Txt.lower (⟨(w.map chB).toArray⟩ : Str) = _
  rw [e, List.map_map]
  unfold bwS
  rw [List.map_map]
  have : (PyProof.Rows.lo1 ∘ chB) = (chB ∘ lowM) := funext lo_chB
  rw [this]
def wV (l : List (List Mk)) : List V := l.map fun w => V.str (bwS w)
theorem wV_len (l : List (List Mk)) : (wV l).length = l.length := List.length_map ..
theorem free_in {w : List Mk} {m : Mk} (hw : ∀ z ∈ w, z.1 < 3) (hm : m.1 < 3) : (!decide (chB (lowM m) ∈ (bwS (w.map lowM)).cps.toList)) = freeOf w m := by
  unfold freeOf
  congr 1
  show decide (chB (lowM m) ∈ ((w.map lowM).map chB).toArray.toList) = _
  rw [List.toList_toArray, List.map_map, Bool.eq_iff_iff, decide_eq_true_iff, List.any_eq_true, List.mem_map]
  constructor
  · rintro ⟨z, hz, e⟩
    have : lowM z = lowM m := chB_inj (show z.1 < 3 from hw z hz) (show m.1 < 3 from hm) e
    exact ⟨z, hz, beq_iff_eq.mpr (show (lowM z).1 = (lowM m).1 from congrArg Prod.fst this)⟩
  · rintro ⟨z, hz, e⟩
    have e' : z.1 = m.1 := by simpa using e
    refine ⟨z, hz, ?_⟩
    show chB (z.1, true) = chB (m.1, true)
    rw [e']
theorem lvl_few {ls : List Nat} {k : Nat} {w : List Mk} (h : w ∈ lvl ls k) : w.length = k ∧ ∀ m ∈ w, m ∈ lets ls := by
  induction k generalizing w with
  | zero =>
    have : w = [] := List.mem_singleton.mp h
    subst this
    exact ⟨rfl, fun _ h => by cases h⟩
  | succ k ih =>
    have h : w ∈ lvlN ls (lvl ls k) := h
    unfold lvlN at h
    obtain ⟨v, hv, hw⟩ := List.mem_flatMap.mp h
    obtain ⟨m, hm, rfl⟩ := List.mem_map.mp hw
    obtain ⟨a, b⟩ := ih hv
    refine ⟨by rw [List.length_append, a]; rfl, fun z hz => ?_⟩
    rcases List.mem_append.mp hz with c | c
    · exact b z c
    · have : z = m := by simpa using c
      subst this
      exact (List.mem_filter.mp hm).1
theorem shapes_sizes : ∀ ls ∈ shapes, (∀ k, k < 5 → (lvl ls k).length ≤ 48) ∧ (lets ls).length ≤ 6 := by decide +kernel
theorem box_sizes {ls : List Nat} (bx : BoxOk ls) : (∀ k, k < 5 → (lvl ls k).length ≤ 48) ∧ (lets ls).length ≤ 6 := by
  have h := shapes_sizes _ (shape_mem ls (boxes_mem bx)).1
  refine ⟨fun k hk => ?_, ?_⟩
  · have := h.1 k hk
    rw [lvl_shape] at this
    exact this
  · have := h.2
    rw [lets_shape] at this
    exact this
/-- a comprehension over two walks -/
theorem lc2_it {J : It} {n : Nat} {Gd : Hp → Prop} {Y : Nat → Hp → V → Hp → Prop} (w : Walk J n Gd Y) {g g1 : TG} {tt tt1 : TT} {wi1 : TI} {te : TE} {vs vs1 : List Nat} {σ : L2.St} {H1 : Hp} {D : Addr} {Qd : Hp → Prop} (Pv : Nat → Hp → Prop) (h0 : Pv 0 (upd H1 D (.lst []))) (hl : ∀ i H, i ≤ n → Pv i H → Gd H)
    (hs : ∀ i x H H', i < n → Pv i H → Y i H x H' → g x (wipe σ vs) H' fun σ2 H2 => wipe σ2 vs = wipe σ vs ∧ tt σ2 H2 fun b H3 =>
      if b = true then wi1 σ2 H3 fun J1 H4 => ∃ W1 : Nat → Nat → Hp → Prop, (∃ m, W1 0 m H4) ∧ ∀ j k H, W1 j k H →
        (J1.stop j H ∧ Pv (i + 1) H) ∨ (J1.go j H ∧ ∃ Nx1 : Hp → Prop, (∀ H', Nx1 H' → ∃ k', k' < k ∧ W1 (j + 1) k' H') ∧ ∀ x H', J1.yld j H x H' → g1 x (wipe σ2 vs1) H' fun σ3 H5 => wipe σ3 vs1 = wipe σ2 vs1 ∧ tt1 σ3 H5 fun b H6 =>
          if b = true then te σ3 H6 fun y H7 => ∃ acc, H7 D = some (.lst acc) ∧ acc.length < sizeLine ∧ Nx1 (upd H7 D (.lst (acc ++ [y]))) else Nx1 H6)
      else Pv (i + 1) H3) (hd : ∀ H, Pv n H → Qd H) :
    ∃ W : Nat → Nat → Hp → Prop, (∃ m, W 0 m (upd H1 D (.lst []))) ∧ ∀ i m H, W i m H →
      (J.stop i H ∧ Qd H) ∨ (J.go i H ∧ ∃ Nx : Hp → Prop, (∀ H', Nx H' → ∃ m', m' < m ∧ W (i + 1) m' H') ∧ ∀ x H', J.yld i H x H' → g x (wipe σ vs) H' fun σ2 H2 => wipe σ2 vs = wipe σ vs ∧ tt σ2 H2 fun b H3 =>
        if b = true then wi1 σ2 H3 fun J1 H4 => ∃ W1 : Nat → Nat → Hp → Prop, (∃ m, W1 0 m H4) ∧ ∀ j k H, W1 j k H →
          (J1.stop j H ∧ Nx H) ∨ (J1.go j H ∧ ∃ Nx1 : Hp → Prop, (∀ H', Nx1 H' → ∃ k', k' < k ∧ W1 (j + 1) k' H') ∧ ∀ x H', J1.yld j H x H' → g1 x (wipe σ2 vs1) H' fun σ3 H5 => wipe σ3 vs1 = wipe σ2 vs1 ∧ tt1 σ3 H5 fun b H6 =>
            if b = true then te σ3 H6 fun y H7 => ∃ acc, H7 D = some (.lst acc) ∧ acc.length < sizeLine ∧ Nx1 (upd H7 D (.lst (acc ++ [y]))) else Nx1 H6)
        else Nx H3) := by
  refine ⟨fun i m H => m = n - i ∧ i ≤ n ∧ Pv i H, ⟨n, by simp, Nat.zero_le _, h0⟩, ?_⟩
  rintro i m H ⟨rfl, hi, p⟩
  have q := hl i H hi p
  by_cases hlt : i < n
  · exact .inr ⟨w.goes i H hlt q, Pv (i + 1), fun H' p' => ⟨n - (i + 1), by omega, rfl, hlt, p'⟩, fun x H' y => hs i x H H' hlt p (w.yields i H x H' hlt q y)⟩
  · have e : i = n := by omega
    subst e
    exact .inl ⟨w.stops H q, hd H p⟩
/-- its inner walk -/
theorem lcin_it {J1 : It} {n : Nat} {Gd : Hp → Prop} {Y : Nat → Hp → V → Hp → Prop} (w : Walk J1 n Gd Y) {g1 : TG} {tt1 : TT} {te : TE} {vs1 : List Nat} {σ2 : L2.St} {H4 : Hp} {D : Addr} {Qd : Hp → Prop} (Pv : Nat → Hp → Prop) (h0 : Pv 0 H4) (hl : ∀ i H, i ≤ n → Pv i H → Gd H)
    (hs : ∀ i x H H', i < n → Pv i H → Y i H x H' → g1 x (wipe σ2 vs1) H' fun σ3 H5 => wipe σ3 vs1 = wipe σ2 vs1 ∧ tt1 σ3 H5 fun b H6 =>
      if b = true then te σ3 H6 fun y H7 => ∃ acc, H7 D = some (.lst acc) ∧ acc.length < sizeLine ∧ Pv (i + 1) (upd H7 D (.lst (acc ++ [y]))) else Pv (i + 1) H6) (hd : ∀ H, Pv n H → Qd H) :
    ∃ W1 : Nat → Nat → Hp → Prop, (∃ m, W1 0 m H4) ∧ ∀ j k H, W1 j k H →
      (J1.stop j H ∧ Qd H) ∨ (J1.go j H ∧ ∃ Nx1 : Hp → Prop, (∀ H', Nx1 H' → ∃ k', k' < k ∧ W1 (j + 1) k' H') ∧ ∀ x H', J1.yld j H x H' → g1 x (wipe σ2 vs1) H' fun σ3 H5 => wipe σ3 vs1 = wipe σ2 vs1 ∧ tt1 σ3 H5 fun b H6 =>
        if b = true then te σ3 H6 fun y H7 => ∃ acc, H7 D = some (.lst acc) ∧ acc.length < sizeLine ∧ Nx1 (upd H7 D (.lst (acc ++ [y]))) else Nx1 H6) := by
  refine ⟨fun i m H => m = n - i ∧ i ≤ n ∧ Pv i H, ⟨n, by simp, Nat.zero_le _, h0⟩, ?_⟩
  rintro i m H ⟨rfl, hi, p⟩
  have q := hl i H hi p
  by_cases hlt : i < n
  · exact .inr ⟨w.goes i H hlt q, Pv (i + 1), fun H' p' => ⟨n - (i + 1), by omega, rfl, hlt, p'⟩, fun x H' y => hs i x H H' hlt p (w.yields i H x H' hlt q y)⟩
  · have e : i = n := by omega
    subst e
    exact .inl ⟨w.stops H q, hd H p⟩
end KS
namespace KS
open PySem PySem.Spec PyProof.Rows L2 RZ
theorem marks_bw : ∀ n, n < 4 → 1 ≤ n → (marksB n).map chB = (boxLs n).cps.toList := by decide +kernel
theorem box_at {n k c : Nat} (h1 : 1 ≤ n) (h3 : n ≤ 3) (h : (boxLs n).cps[k]? = some c) : ∃ m : Mk, (marksB n)[k]? = some m ∧ c = chB m ∧ m.1 < n := by
  rw [← Array.getElem?_toList, ← marks_bw n (by omega) h1, List.getElem?_map] at h
  cases e : (marksB n)[k]? with
  | none =>
    rw [e] at h
    cases h
  | some m =>
    rw [e] at h
    cases h
    refine ⟨m, rfl, rfl, ?_⟩
    have hm := List.mem_of_getElem? e
    unfold marksB at hm
    rw [List.mem_append, List.mem_map, List.mem_map] at hm
    rcases hm with ⟨a, ha, rfl⟩ | ⟨a, ha, rfl⟩ <;> exact List.mem_range.mp ha
theorem marks_size {n : Nat} (h1 : 1 ≤ n) (h3 : n ≤ 3) : (marksB n).length = (boxLs n).cps.size := by
  have := congrArg List.length (marks_bw n (by omega) h1)
  rw [List.length_map, Array.length_toList] at this
  exact this
def ltV (l : List Mk) : List V := l.map fun m => V.str (cS m)
def spNW (K : PySem.W.Frag) : Sp := fun xs H Q _ => ∃ (t : Addr) (ls : List Nat), xs = [.ref t] ∧ SqT K H t (szV ls) ∧ BoxOk ls ∧ ∀ H' L, Same H H' → H' L = some (.lst (wV (norms ls))) → Q (.ref L) H'
abbrev nNW : List Str := ["lengths", "letters", "found", "longest", "letter", "word"]
def sumL (ls : List Nat) : Nat → List (List Mk)
  | 0 => lvl ls 0
  | k + 1 => sumL ls k ++ lvl ls (k + 1)
theorem lvl_nil {ls : List Nat} {k : Nat} (h : lvl ls k = []) : lvl ls (k + 1) = [] := by
  show lvlN ls (lvl ls k) = []
  rw [h]
  rfl
theorem sum_norms {ls : List Nat} (bx : BoxOk ls) {k : Nat} (hk : k ≤ 4) (h : lvl ls k = []) : sumL ls k = norms ls := by
  have : k = 0 ∨ k = 1 ∨ k = 2 ∨ k = 3 ∨ k = 4 := by omega
  rcases this with z | z | z | z | z <;> subst z
  · cases h
  · have h2 := lvl_nil h
    have h3 := lvl_nil h2
    show lvl ls 0 ++ lvl ls 1 = lvl ls 0 ++ lvl ls 1 ++ lvl ls 2 ++ lvl ls 3
    rw [h2, h3, List.append_nil, List.append_nil]
  · have h3 := lvl_nil h
    show lvl ls 0 ++ lvl ls 1 ++ lvl ls 2 = lvl ls 0 ++ lvl ls 1 ++ lvl ls 2 ++ lvl ls 3
    rw [h3, List.append_nil]
  · rfl
  · show lvl ls 0 ++ lvl ls 1 ++ lvl ls 2 ++ lvl ls 3 ++ lvl ls 4 = _
    rw [h, List.append_nil]
    rfl
theorem sum_len {ls : List Nat} (bx : BoxOk ls) : ∀ k, k < 5 → (sumL ls k).length ≤ 48 * (k + 1)
  | 0, _ => by show 1 ≤ 48; decide
  | k + 1, h => by
    have a := sum_len bx k (by omega)
    have b := (box_sizes bx).1 (k + 1) h
    show (sumL ls k ++ lvl ls (k + 1)).length ≤ _
    rw [List.length_append]
    omega
theorem lvlN_len {ls : List Nat} (h : (lets ls).length ≤ 6) : ∀ l : List (List Mk), (lvlN ls l).length ≤ 6 * l.length
  | [] => Nat.le_refl _
  | w :: l => by
    have a := lvlN_len h l
    have b := List.length_filter_le (freeOf w) (lets ls)
    show ((((lets ls).filter (freeOf w)).map fun m => w ++ [m]) ++ lvlN ls l).length ≤ _
    rw [List.length_append, List.length_map, List.length_cons]
    omega
theorem lvlN_more (ls : List Nat) (l : List (List Mk)) (w : List Mk) : lvlN ls (l ++ [w]) = lvlN ls l ++ ((lets ls).filter (freeOf w)).map fun m => w ++ [m] := by
  unfold lvlN
  rw [List.flatMap_append]
  congr 1
  simp
section
variable {P : Program} {w : World} {K : PySem.W.Frag} {mg : Str → Option Value} {base : Heap}
end
end KS
namespace KS
open PySem PySem.Spec PyProof.Rows L2 RZ
def spEff (K : PySem.W.Frag) : Sp := fun xs H Q _ => ∃ (t : Addr) (ls : List Nat), xs = [.ref t] ∧ SqT K H t (szV ls) ∧ BoxOk ls ∧ ∀ H', Same H H' → Q (.int ((norms ls).length : Nat)) H'
def spWAt (K : PySem.W.Frag) : Sp := fun xs H Q _ => ∃ (t : Addr) (ls : List Nat) (n : Nat) (w : List Mk), xs = [.ref t, .int (n : Nat)] ∧ SqT K H t (szV ls) ∧ BoxOk ls ∧ (norms ls)[n]? = some w ∧ ∀ H', Same H H' → Q (.str (bwS w)) H'
section
variable {P : Program} {w : World} {K : PySem.W.Frag} {mg : Str → Option Value} {base : Heap}
end
end KS
namespace KS
open PySem PySem.Spec PyProof.Rows L2 RZ
theorem chs_inj : ∀ {a b : List Mk}, (∀ m ∈ a, m.1 < 3) → (∀ m ∈ b, m.1 < 3) → a.map chB = b.map chB → a = b
  | [], [], _, _, _ => rfl
  | [], _ :: _, _, _, h => by cases h
  | _ :: _, [], _, _, h => by cases h
  | x :: a, y :: b, ha, hb, h => by
    rw [List.map_cons, List.map_cons, List.cons.injEq] at h
    rw [chB_inj (ha x List.mem_cons_self) (hb y List.mem_cons_self) h.1, chs_inj (fun m hm => ha m (List.mem_cons_of_mem _ hm)) (fun m hm => hb m (List.mem_cons_of_mem _ hm)) h.2]
theorem bwS_inj {a b : List Mk} (ha : ∀ m ∈ a, m.1 < 3) (hb : ∀ m ∈ b, m.1 < 3) (h : bwS a = bwS b) : a = b := by
  refine chs_inj ha hb ?_
  have : (a.map chB).toArray = (b.map chB).toArray := congrArg Str.cps h
  simpa using congrArg Array.toList this
theorem norms_ok {ls : List Nat} (h3 : ls.length ≤ 3) {w : List Mk} (h : w ∈ norms ls) : w.length ≤ 3 ∧ ∀ m ∈ w, m.1 < ls.length := by
  unfold norms at h
  rw [List.mem_append, List.mem_append, List.mem_append] at h
  have key : ∀ k, k ≤ 3 → w ∈ lvl ls k → w.length ≤ 3 ∧ ∀ m ∈ w, m.1 < ls.length := fun k hk hw => by
    obtain ⟨a, b⟩ := lvl_few hw
    exact ⟨by omega, fun m hm => (mem_lets.mp (b m hm)).1⟩
  rcases h with ((h | h) | h) | h
  · exact key 0 (by decide) h
  · exact key 1 (by decide) h
  · exact key 2 (by decide) h
  · exact key 3 (by decide) h
theorem wV_flat (l : List (List Mk)) : (wV l).all flatV = true := by
  unfold wV
  rw [List.all_map, List.all_eq_true]
  intro x _
  rfl
theorem eqV_str (a b : Str) : eqV (.str a) (.str b) = decide (a = b) := by
  first | rfl | (simp [eqV]) | (unfold eqV; rfl)
theorem norms_none {ls : List Nat} (bx : BoxOk ls) {j : Nat} {w : List Mk} (hj : (norms ls)[j]? = some w) (m : Nat) (z : V) (hm : m < j) (hz : (wV (norms ls))[m]? = some z) : eqV z (.str (bwS w)) = false := by
  unfold wV at hz
  rw [List.getElem?_map] at hz
  cases e : (norms ls)[m]? with
  | none =>
    rw [e] at hz
    cases hz
  | some v =>
    rw [e] at hz
    cases hz
    rw [eqV_str]
    refine decide_eq_false fun h => ?_
    have b3 := bx.l3
    have hv := norms_ok b3 (List.mem_of_getElem? e)
    have hw := norms_ok b3 (List.mem_of_getElem? hj)
    have ew := bwS_inj (fun x hx => by have := hv.2 x hx; omega) (fun x hx => by have := hw.2 x hx; omega) h
    subst ew
    obtain ⟨h1, e1⟩ := List.getElem?_eq_some_iff.mp e
    obtain ⟨h2, e2⟩ := List.getElem?_eq_some_iff.mp hj
    have nd := (box_norms bx).2.2
    have := (List.nodup_iff_pairwise_ne.mp nd)
    exact List.pairwise_iff_getElem.mp this m j h1 h2 hm (e1.trans e2.symm)
def spNOf (K : PySem.W.Frag) : Sp := fun xs H Q _ => ∃ (t : Addr) (ls : List Nat) (wd : List Mk) (j : Nat), xs = [.ref t, .str (bwS wd)] ∧ SqT K H t (szV ls) ∧ BoxOk ls ∧ WdOk ls.length wd ∧ wd.length ≤ 400 ∧ (norms ls)[j]? = some (nrm ls wd) ∧ ∀ H', Same H H' → Q (.int (j : Nat)) H'
section
variable {P : Program} {w : World} {K : PySem.W.Frag} {mg : Str → Option Value} {base : Heap}
end
end KS
namespace KS
open PySem PySem.Spec PyProof.Rows L2 RZ
/-! ### texts in order: one way only -/
theorem lt_cons {x y : Nat} {a b : List Nat} : ltCps (x :: a) (y :: b) = false ↔ ¬ x < y ∧ (x = y → ltCps a b = false) := by
  show (decide (x < y) || (x == y && ltCps a b)) = false ↔ _
  rw [Bool.or_eq_false_iff, decide_eq_false_iff_not, Bool.and_eq_false_iff]
  constructor
  · rintro ⟨h1, h2⟩
    refine ⟨h1, fun e => ?_⟩
    rcases h2 with z | z
    · exact absurd e (by simpa using z)
    · exact z
  · rintro ⟨h1, h2⟩
    refine ⟨h1, ?_⟩
    by_cases e : x = y
    · exact .inr (h2 e)
    · exact .inl (by simpa using e)
theorem le_anti : ∀ {a b : List Nat}, ltCps a b = false → ltCps b a = false → a = b
  | [], [], _, _ => rfl
  | [], _ :: _, h, _ => by cases h
  | _ :: _, [], _, h => by cases h
  | x :: a, y :: b, h1, h2 => by
    obtain ⟨p1, p2⟩ := lt_cons.mp h1
    obtain ⟨q1, q2⟩ := lt_cons.mp h2
    have e : x = y := by omega
    rw [e, le_anti (p2 e) (q2 e.symm)]
theorem le_tr : ∀ {a b c : List Nat}, ltCps b a = false → ltCps c b = false → ltCps c a = false
  | [], _, [], _, _ => rfl
  | [], _, _ :: _, _, _ => rfl
  | _ :: _, [], _, h, _ => by cases h
  | _ :: _, _ :: _, [], _, h => by cases h
  | x :: a, y :: b, z :: c, h1, h2 => by
    obtain ⟨p1, p2⟩ := lt_cons.mp h1
    obtain ⟨q1, q2⟩ := lt_cons.mp h2
    refine lt_cons.mpr ⟨by omega, fun e => ?_⟩
    exact le_tr (p2 (by omega)) (q2 (by omega))
def leS (a b : Str) : Prop := ltCps b.cps.toList a.cps.toList = false
theorem rising_pw : ∀ {l : List Str} {p : Str}, risingS p l = true → (p :: l).Pairwise leS
  | [], p, _ => List.pairwise_singleton _ _
  | x :: r, p, h => by
    have h : (!ltCps x.cps.toList p.cps.toList && risingS x r) = true := h
    rw [Bool.and_eq_true, Bool.not_eq_true'] at h
    have ih := rising_pw h.2
    refine List.pairwise_cons.mpr ⟨fun y hy => ?_, ih⟩
    rcases List.mem_cons.mp hy with e | hy
    · subst e
      exact h.1
    · exact le_tr h.1 ((List.pairwise_cons.mp ih).1 y hy)
theorem sorted_pw {l : List Str} (h : sortedS l = true) : l.Pairwise leS := by
  cases l with
  | nil => exact List.Pairwise.nil
  | cons x r => exact rising_pw h
theorem leS_anti {a b : Str} (h : leS a b) (k : leS b a) : a = b := by
  have e := le_anti k h
  obtain ⟨a⟩ := a
  obtain ⟨b⟩ := b
  congr
  exact Array.toList_inj.mp e
theorem sortedS_eq {xs ys : List Str} (p : ys.Perm xs) (hy : sortedS ys = true) (hx : sortedS xs = true) : ys = xs :=
  p.eq_of_pairwise (le := leS) (fun a b _ _ h k => leS_anti h k) (sorted_pw hy) (sorted_pw hx)
theorem asc_rising : ∀ {l : List (List Mk)} {w : List Mk}, ascC (w :: l) = true → risingS (bwS w) (l.map bwS) = true
  | [], _, _ => rfl
  | v :: l, w, h => by
    have h : (ltC w v && ascC (v :: l)) = true := h
    rw [Bool.and_eq_true] at h
    show (!ltCps (bwS v).cps.toList (bwS w).cps.toList && risingS (bwS v) (l.map bwS)) = true
    rw [asc_rising h.2, Bool.and_true, Bool.not_eq_true']
    have key : ∀ a b : List Mk, ltC a b = true → ltCps (b.map chB) (a.map chB) = false := by
      intro a
      induction a with
      | nil => intro b h; cases b with
        | nil => rfl
        | cons => rfl
      | cons x a ih =>
        intro b h
        cases b with
        | nil => cases h
        | cons y b =>
          have h : (if chB x = chB y then ltC a b else decide (chB x < chB y)) = true := h
          rw [List.map_cons, List.map_cons]
          by_cases e : chB x = chB y
          · rw [if_pos e] at h
            exact lt_cons.mpr ⟨by omega, fun _ => ih b h⟩
          · rw [if_neg e] at h
            have := of_decide_eq_true h
            exact lt_cons.mpr ⟨by omega, fun z => absurd z.symm e⟩
    exact key w v h.1
theorem asc_sorted {l : List (List Mk)} (h : ascC l = true) : sortedS (l.map bwS) = true := by
  cases l with
  | nil => rfl
  | cons w l => exact asc_rising h
/-- what sorted gives of a level is the level -/
theorem lvl_sorted {ls : List Nat} (bx : BoxOk ls) {k : Nat} (hk : k < 5) {ys : List Str} (p : ys.Perm ((lvl ls k).map bwS)) (h : sortedS ys = true) : ys = (lvl ls k).map bwS :=
  sortedS_eq p h (asc_sorted (norms_asc bx hk))
end KS
/-! records -/
namespace KS
open PySem PySem.Spec PyProof.Rows L2
theorem nm_dp {K : PySem.W.Frag} {H : Hp} : ∀ l : List Str, DpAll K H (l.map V.str) (l.map PyData.str)
  | [] => .nil
  | x :: l => .cons (.str x) (nm_dp l)
theorem nm_strOk {s : Str} (h : IsNm s) : PyData.strOk s = true := by
  unfold PyData.strOk
  rw [← Array.all_toList, List.all_eq_true]
  exact fun c hc => decide_eq_true (by
    have := h.2.2 c hc
    omega)
theorem nm_lay : ∀ l : List Str, (∀ x ∈ l, IsNm x) → PyData.canLayAll0 (l.map PyData.str) = true ∧ PyData.depthAll (l.map PyData.str) = 0
  | [], _ => ⟨by simp only [List.map_nil, PyData.canLayAll0], by simp only [List.map_nil, PyData.depthAll]⟩
  | x :: l, h => by
    obtain ⟨h1, h2⟩ := nm_lay l fun y hy => h y (List.mem_cons_of_mem _ hy)
    have h3 := nm_strOk (h x List.mem_cons_self)
    simp only [List.map_cons, PyData.canLayAll0, PyData.depthAll, PyData.canLay0, PyData.depth, h1, h2, h3, Bool.and_self, Nat.max_self, and_self]
theorem nm_shaped {l : List Str} (h : ∀ x ∈ l, IsNm x) : SeqAt.shaped (.list (l.map PyData.str)) = true := by
  obtain ⟨h1, h2⟩ := nm_lay l h
  unfold SeqAt.shaped
  simp only [PyData.canLay0, PyData.depth, h1, h2]
  decide
theorem nm_eqv {l : List Str} (h : ∀ x ∈ l, IsNm x) : PyData.eqv (.list (l.map PyData.str)) (.list (l.map PyData.str)) = true := SeqAt.eqv_refl _ (by simp only [PyData.canLay0]; exact (nm_lay l h).1)
/-- a good record: a plan, names, a kind, the same names in another order -/
structure Rec (K : PySem.W.Frag) (H : Hp) (v : Addr) (cs : List Cell) (bs rs : List Str) (k : Bool) (p b r : Addr) : Prop where
  val : SqT K H v [.ref p, .ref b, .str (if k = true then "C" else "R"), .ref r]
  plan : PlanAt K H p cs
  good : Good cs
  two : 2 ≤ cs.length
  most : cs.length ≤ 12
  bf : SqT K H b (bs.map V.str)
  af : SqT K H r (rs.map V.str)
  bl : bs.length = cs.length
  nm : ∀ s ∈ bs, IsNm s
  nd : bs.Nodup
  pm : rs.Perm bs
abbrev sIsRec : Stmt := topS 24
abbrev nIsRec : List Str := ["value", "size"]
theorem scIsRec : FnScope nIsRec ["value"] (defScope sIsRec) := ⟨rfl, rfl, rfl, by decide +kernel, rfl, by decide +kernel, by decide +kernel⟩
def spIsRec (K : PySem.W.Frag) : Sp := fun vs H Q _ => ∃ (v : Addr) (cs : List Cell) (bs rs : List Str) (k : Bool) (p b r : Addr), vs = [.ref v] ∧ Rec K H v cs bs rs k p b r ∧ ∀ H', Same H H' → Q (.bl true) H'
section
variable {P : Program} {w : World} {K : PySem.W.Frag} {mg : Str → Option Value} {base : Heap}
theorem ok_isRec {f fP fK fB fN : Addr} {fd fdP fdK fdB fdN : FuncData} {tk : Tok} (F : Fun K "is_record" "is_record" sIsRec f fd)
    (GP : FnOk P w K mg base CX0 6 fP fdP ["value"] (spIsPlanT K)) (bP : Binds K fdP ["value"] []) (gP : mg "is_plan" = some (.ref fP)) (kP : PySem.W.keepIn K (.ref fP) = true)
    (GK : FnOk P w K mg base CX0 1 fK fdK ["value"] spIsKind) (bK : Binds K fdK ["value"] []) (gK : mg "is_kind" = some (.ref fK)) (kK : PySem.W.keepIn K (.ref fK) = true)
    (GB : FnOk P w K mg base CX0 2 fB fdB ["value", "least", "most"] spBetween) (bB : Binds K fdB ["value", "least", "most"] []) (gB : mg "is_between" = some (.ref fB)) (kB : PySem.W.keepIn K (.ref fB) = true)
    (GN : FnOk P w K mg base CX0 2 fN fdN ["size", "value"] (spIsNmT K)) (bN : Binds K fdN ["size", "value"] []) (gN : mg "is_name_table" = some (.ref fN)) (kN : PySem.W.keepIn K (.ref fN) = true)
    (mi : mg "isinstance" = none) (mT : mg "tuple" = none) (ml : mg "len" = none) (ms : mg "sorted" = none) (mM : mg "MOST_NAMES" = some (.int 12 tk)) :
    FnOk P w K mg base CX0 7 f fd ["value"] (spIsRec K) := by
  refine F.ok scIsRec (fun vs H Q E h => ?_) (fun cdv A outer s H vs Q E hr h => ?_)
  · obtain ⟨v, cs, bs, rs, k, p, b, r, rfl, _⟩ := h
    rfl
  · obtain ⟨v, cs, bs, rs, k, p, b, r, rfl, R, q⟩ := h
    have nd := scIsRec.nd
    have hr1 : Room 1 _ := hr.mono (by omega)
    have hr2 : Room 2 _ := hr.mono (by omega)
    refine ⟨_, pss_cons (ps_if (PW.pt (pw_or (pt_not (pt_val (pe_callB call_isi (by rfl) mi (by decide +kernel) (pa_cons (pv 0) (pa_cons (pe_bltn (v := .ty "tuple") (by rfl) mT (by decide +kernel) rfl) pa_nil)))))
          (pw_or (pt_cmpR op_ne (pe_callB call_len_seq (by rfl) ml PySem.boot_len (pa_cons (pv 0) pa_nil)) pe_int (nomark _))
          (pw_or (pt_not (pt_val (pe_call GP hr (by rfl) gP kP bP .nil pass0 (pa_cons (pe_ix (r := rIxT K) ix_tup (pv 0) pe_int (fun _ _ => rfl)) pa_nil))))
          (pw_or1 (pt_not (pt_val (pe_call GK hr1 (by rfl) gK kK bK .nil pass0 (pa_cons (pe_ix (r := rIxT K) ix_tup (pv 0) pe_int (fun _ _ => rfl)) pa_nil)))))))))
        (pss_one (ps_ret pe_bl)) pss_nil)
      (pss_cons (ps_set (i := 1) nd rfl (.inl rfl) (pe_callB call_len_seq (by rfl) ml PySem.boot_len (pa_cons (pe_ix (r := rIxT K) ix_tup (pv 0) pe_int (fun _ _ => rfl)) pa_nil)))
      (pss_cons (ps_if (PW.pt (pw_or (pt_not (pt_val (pe_call GB hr2 (by rfl) gB kB bB .nil pass0 (pa_cons (pv 1) (pa_cons pe_int (pa_cons (pe_glob (v := .int 12) (by rfl) mM ⟨_, rfl⟩) pa_nil))))))
          (pw_or (pt_not (pt_val (pe_call GN hr2 (by rfl) gN kN bN .nil pass0 (pa_cons (pv 1) (pa_cons (pe_ix (r := rIxT K) ix_tup (pv 0) pe_int (fun _ _ => rfl)) pa_nil)))))
          (pw_or1 (pt_not (pt_val (pe_call GN hr2 (by rfl) gN kN bN .nil pass0 (pa_cons (pv 1) (pa_cons (pe_ix (r := rIxT K) ix_tup (pv 0) pe_int (fun _ _ => rfl)) pa_nil)))))))))
        (pss_one (ps_ret pe_bl)) pss_nil)
      (pss_one (ps_ret (pe_cmpR (op_eqD hr.units) (pe_callB (id := "sorted") (r := rSortedTS K) cr_sortedTS (by rfl) ms (by decide +kernel) (pa_cons (pe_ix (r := rIxT K) ix_tup (pv 0) pe_int (fun _ _ => rfl)) pa_nil))
          (pe_callB (id := "sorted") (r := rSortedTS K) cr_sortedTS (by rfl) ms (by decide +kernel) (pa_cons (pe_ix (r := rIxT K) ix_tup (pv 0) pe_int (fun _ _ => rfl)) pa_nil)) (nomark _)))))), ?_⟩
    have ix : ∀ {G : Hp} {i : Nat} {x : V} {Q' : VK}, Same H G → ([.ref p, .ref b, .str (if k = true then "C" else "R"), .ref r] : List V)[i]? = some x → Q' x G → rIxT K (.ref v) (.int (i : Int)) G Q' := fun {G i x Q'} s e q => ⟨v, _, (i : Int), x, rfl, rfl, same_seqT s R.val, atI_nat e, q⟩
    refine ⟨_, rfl, _, _, _, _, true, rfl, .ty "tuple", tyx_tup R.val, kit_ty (by decide +kernel), true, rfl, ?_⟩
    refine ⟨_, rfl, v, _, rfl, .inr R.val, rfl, false, rfl, ?_⟩
    refine ⟨_, rfl, ix (i := 0) (Same.refl _) rfl ?_⟩
    refine ⟨p, cs, rfl, R.plan, R.good, Nat.le_trans R.most (by decide), fun H1 s1 => ?_⟩
    refine ⟨true, rfl, ?_⟩
    refine ⟨_, rfl, ix (i := 2) s1 rfl ?_⟩
    refine ⟨k, rfl, fun H2 s2 => ⟨true, rfl, ?_⟩⟩
    have s12 := s1.trans s2
    obtain ⟨xs, hx, hc⟩ := id (R.plan.kt (.of_same s12))
    have hlen := Paired.length hc
    refine ⟨_, rfl, ix (i := 0) s12 rfl ?_⟩
    refine ⟨p, xs, rfl, .inr hx, ?_⟩
    have two := R.two
    have most := R.most
    have rl : rs.length = cs.length := by rw [R.pm.length_eq, R.bl]
    refine ⟨_, rfl, xs.length, 2, 12, rfl, by omega, by omega, ?_⟩
    refine ⟨true, rfl, ?_⟩
    refine ⟨_, rfl, _, rfl, ix (i := 1) s12 rfl ?_⟩
    refine ⟨b, bs, by rw [hlen, R.bl]; rfl, same_seqT s12 R.bf, by rw [R.bl]; omega, R.nm, R.nd, fun H3 s3 => ⟨true, rfl, ?_⟩⟩
    have s13 := s12.trans s3
    refine ⟨_, rfl, _, rfl, ix (i := 3) s13 rfl ?_⟩
    refine ⟨r, rs, by rw [hlen, rl]; rfl, same_seqT s13 R.af, by rw [rl]; omega, fun s hs => R.nm s (R.pm.mem_iff.mp hs), R.pm.nodup_iff.mpr R.nd, fun H4 s4 => ⟨true, rfl, ?_⟩⟩
    have s14 := s13.trans s4
    refine ⟨_, rfl, ix (i := 1) s14 rfl ?_⟩
    refine ⟨b, bs, rfl, same_seqT s14 R.bf, fun bs' D1 H5 p1 o1 n1 e5 => ?_⟩
    have s5 : Same H4 H5 := by
      rw [e5]
      exact same_new n1
    have h5 : H5 D1 = some (.lst (bs'.map V.str)) := by rw [e5, upd_same]
    refine ⟨_, rfl, ix (i := 3) (s14.trans s5) rfl ?_⟩
    refine ⟨r, rs, rfl, same_seqT (s14.trans s5) R.af, fun rs' D2 H6 p2 o2 n2 e6 => ?_⟩
    have s6 : Same H5 H6 := by
      rw [e6]
      exact same_new n2
    have h6 : H6 D2 = some (.lst (rs'.map V.str)) := by rw [e6, upd_same]
    have e : rs' = bs' := sortedS_eq ((p2.trans R.pm).trans p1.symm) o2 o1
    subst e
    have nm' : ∀ s ∈ rs', IsNm s := fun s hs => R.nm s (p1.mem_iff.mp hs)
    refine ⟨_, _, .lst (SqL.of (s6 _ _ h5)) (nm_dp _), .lst (SqL.of h6) (nm_dp _), nm_shaped nm', nm_shaped nm', ?_⟩
    rw [nm_eqv nm']
    exact q _ ((s14.trans s5).trans s6)
end
end KS
namespace KS
open PySem PySem.Spec PyProof.Rows L2 RZ
/-! ### list(zip(t1, t2)), both tuples of one length -/
theorem nolen_zip : typeLookup (.type "zip") "__len__" = pure none := by rw [typeLookup_type, builtinLookup_eq_fast]; kernel_rfl
theorem nohint_zip : typeLookup (.type "zip") "__length_hint__" = pure none := by rw [typeLookup_type, builtinLookup_eq_fast]; kernel_rfl
def pairO (x y : Value) : Obj := { cls := .type "tuple", data := .seq #[x, y] }
section
variable {prog : Program} {w : World} {E : Value → Shared → Prop} {s : Shared} {z TI TO i1 i2 l1 l2 d : Addr}
theorem nxtZ {A : Around} (D : ZipApart z TI TO i1 i2 l1 l2) {xs ys : Array Value} {n i : Nat} (hx : xs.size = n) (hy : ys.size = n) (hi : i < n) (st : ZTs z TI TO i1 i2 l1 l2 d xs ys i s.heap) (ds : d < s.heap.objs.size) {Q : Option Value → Shared → Prop}
    (hQ : ∀ h' x y, xs[i]? = some x → ys[i]? = some y → h'.get? s.heap.objs.size = some (pairO x y) → ZTs z TI TO i1 i2 l1 l2 d xs ys (i + 1) h' → (∀ b o, b ∉ [z, TO, i1, i2] → s.heap.get? b = some o → h'.get? b = some o) → Q (some (.ref s.heap.objs.size)) { s with heap := h' }) :
    wpAny (model prog w) A (pyNext (.ref z)) Q E s := by
  have ex := Array.getElem?_eq_getElem (xs := xs) (i := i) (by omega)
  have ey := Array.getElem?_eq_getElem (xs := ys) (i := i) (by omega)
  have lt : ∀ {c o}, s.heap.get? c = some o → s.heap.objs.size ≠ c := fun e => Nat.ne_of_gt (Heap.lt_size e)
  have n1 : s.heap.objs.size ≠ i1 := st.w1.elim fun _ e => lt e.1
  have n2 : s.heap.objs.size ≠ i2 := st.w2.elim fun _ e => lt e.1
  have memo : ∀ {c : Addr}, c ∉ [z, TO, i1, i2] → c ≠ z ∧ c ≠ TO ∧ c ≠ i1 ∧ c ≠ i2 := by
    intro c hc
    simpa only [List.mem_cons, List.not_mem_nil, or_false, not_or] using hc
  rcases st.zz with ⟨q, a, b, r⟩ | ⟨T, f, oT, q, hT, r1, r2, r3, r4⟩
  · refine pyNext_zipT_item D q st.hTI r st.w1 st.w2 st.t1 st.t2 ex ey fun h' a1 a2 a3 a4 a5 a6 k => ?_
    refine hQ h' _ _ ex ey a5 ?_ fun c o hc e => let ⟨c1, c2, c3, c4⟩ := memo hc; k c o c1 c2 c3 c4 e
    exact ⟨k _ _ D.TIz D.TITO D.TIi1 D.TIi2 st.hTI, a3, a4, st.t1.at fun o e => k _ o D.l1z D.l1TO D.l1i1 D.l1i2 e, st.t2.at fun o e => k _ o D.l2z D.l2TO D.l2i1 D.l2i2 e, Or.inr ⟨_, false, _, a1, a5, lt q, n1, n2, Nat.ne_of_gt ds⟩⟩
  · refine zn_py ⟨_, q, rfl⟩ (zn_two (Q := fun v s' => Q (some v) s') q hT st.hTI fun h₁ z₁ b₁ => ?_)
    refine nextOf_tuple_item (s := { s with heap := h₁ }) (st.w1.extBut b₁.extBut D.i1z) (st.t1.extBut b₁.extBut D.l1z) ex fun h₂ w₁ b₂ => ?_
    refine nextOf_tuple_item (s := { s with heap := h₂ }) ((st.w2.extBut b₁.extBut D.i2z).extBut b₂.extBut D.i12.symm) ((st.t2.extBut b₁.extBut D.l2z).extBut b₂.extBut D.l2i1) ey fun h₃ w₂ b₃ => ?_
    have k : ∀ c o, c ≠ z → c ≠ i1 → c ≠ i2 → s.heap.get? c = some o → (h₃.push { cls := .type "tuple", data := .seq #[xs[i], ys[i]] }).get? c = some o := fun c o c1 c2 c3 e => Heap.get?_push_of_some _ (b₃.extBut _ _ c3 (b₂.extBut _ _ c2 (b₁.extBut _ _ c1 e)))
    have sz : h₃.objs.size = s.heap.objs.size := (b₃.1.trans b₂.1).trans b₁.1
    show Q (some (.ref h₃.objs.size)) { s with heap := h₃.push { cls := .type "tuple", data := .seq #[xs[i], ys[i]] } }
    rw [sz]
    refine hQ _ _ _ ex ey (by rw [← sz]; exact Heap.get?_push_size _ rfl) ?_ fun c o hc e => let ⟨c1, _, c3, c4⟩ := memo hc; k c o c1 c3 c4 e
    refine ⟨k _ _ D.TIz D.TIi1 D.TIi2 st.hTI, (w₁.extBut b₃.extBut D.i12).at fun o e => Heap.get?_push_of_some _ e, w₂.at fun o e => Heap.get?_push_of_some _ e, st.t1.at fun o e => k _ o D.l1z D.l1i1 D.l1i2 e, st.t2.at fun o e => k _ o D.l2z D.l2i1 D.l2i2 e, Or.inr ⟨T, true, oT, ?_, k _ _ r1 r2 r3 hT, r1, r2, r3, r4⟩⟩
    exact Heap.get?_push_of_some _ (b₃.extBut _ _ D.i2z.symm (b₂.extBut _ _ D.i1z.symm z₁))
theorem finZ {A : Around} (hA : A.handled = none) (D : ZipApart z TI TO i1 i2 l1 l2) {xs ys : Array Value} {n : Nat} (hx : xs.size = n) (st : ZTs z TI TO i1 i2 l1 l2 d xs ys n s.heap) {Q : Option Value → Shared → Prop}
    (hQ : ∀ h', (∀ b o, b ∉ [z, TO, i1, i2] → s.heap.get? b = some o → h'.get? b = some o) → Q none { s with heap := h' }) : wpAny (model prog w) A (pyNext (.ref z)) Q E s := by
  have ex : xs[n]? = none := Array.getElem?_eq_none (by omega)
  have memo : ∀ {c : Addr}, c ∉ [z, TO, i1, i2] → c ≠ z ∧ c ≠ TO ∧ c ≠ i1 ∧ c ≠ i2 := by
    intro c hc
    simpa only [List.mem_cons, List.not_mem_nil, or_false, not_or] using hc
  rcases st.zz with ⟨q, a, b, r⟩ | ⟨T, f, oT, q, hT, r1, r2, r3, r4⟩
  · exact pyNext_zipT_end hA D q st.hTI r st.w1 st.w2 st.t1 st.t2 (Or.inl ex) fun h' k => hQ h' fun c o hc e => let ⟨c1, c2, c3, c4⟩ := memo hc; k c o c1 c2 c3 c4 e
  · refine zn_py ⟨_, q, rfl⟩ (zn_two (Q := fun v s' => Q (some v) s') q hT st.hTI fun h₁ z₁ b₁ => ?_)
    refine nextOf_tuple_end (s := { s with heap := h₁ }) (show A.in1.handled = none from hA) (st.w1.extBut b₁.extBut D.i1z) (st.t1.extBut b₁.extBut D.l1z) ex fun h₂ e b₂ ⟨o, ho, hc⟩ => ?_
    exact ⟨e, o, rfl, ho, hc, hQ h₂ fun c o hc e => let ⟨c1, _, c3, c4⟩ := memo hc; b₂ c o c3 (b₁.extBut c o c1 e)⟩
/-- the pairs that were made -/
structure PrMade (xs ys : Array Value) (lo : Nat) (h : Heap) (as : List Addr) : Prop where
  rise : as.Pairwise (· < ·)
  above : ∀ a ∈ as, lo ≤ a
  pairs : ∀ (j : Nat) (a : Addr), as[j]? = some a → ∃ x y, xs[j]? = some x ∧ ys[j]? = some y ∧ h.get? a = some (pairO x y)
theorem PrMade.there {xs ys : Array Value} {lo : Nat} {h : Heap} {as : List Addr} (g : PrMade xs ys lo h as) {a : Addr} (ha : a ∈ as) : a < h.objs.size := by
  obtain ⟨j, hj⟩ := List.mem_iff_getElem?.mp ha
  obtain ⟨_, _, _, _, e⟩ := g.pairs j a hj
  exact Heap.lt_size e
theorem loopZ {A : Around} {R : Result → Shared → Prop} (hh : A.handled = none) (D : ZipApart z TI TO i1 i2 l1 l2) {xs ys : Array Value} {n lo : Nat} (hx : xs.size = n) (hy : ys.size = n) (hn : n ≤ sizeLine)
    (off : d ∉ [z, TI, TO, i1, i2, l1, l2]) (hlo : d < lo ∧ z < lo ∧ TO < lo ∧ i1 < lo ∧ i2 < lo) (res : Value) {h₁ : Heap}
    (hR : ∀ h' tk acc c as, (∀ b o, b ∉ [z, TO, i1, i2] → b ≠ d → h₁.get? b = some o → h'.get? b = some o) → h'.get? d = some { cls := .type "list", dict := none, data := .seq acc c, slots := #[] } → as.length = n → PrMade xs ys lo h' as →
      acc.toList = as.map Value.ref → R (.ok (.ret res)) { s with heap := h', toks := tk }) :
    ∀ (k i : Nat) (h : Heap) (tk c : Nat) (acc : Array Value) (as : List Addr), n - i = k → i ≤ n → ZTs z TI TO i1 i2 l1 l2 d xs ys i h → (∀ b o, b ∉ [z, TO, i1, i2] → b ≠ d → h₁.get? b = some o → h.get? b = some o) →
      h.get? d = some { cls := .type "list", dict := none, data := .seq acc c, slots := #[] } → acc.toList = as.map Value.ref → as.length = i → PrMade xs ys lo h as → lo ≤ h.objs.size →
      codeAny (model prog w) A (.builtin "list.extend.loop" ⟨[.ref d, .ref z, res], []⟩) R { s with heap := h, toks := tk } := by
  simp only [List.mem_cons, List.not_mem_nil, or_false, not_or] at off
  obtain ⟨dz, dTI, dTO, di1, di2, dl1, dl2⟩ := off
  have dw : d ∉ [z, TO, i1, i2] := by
    simp only [List.mem_cons, List.not_mem_nil, or_false, not_or]
    exact ⟨dz, dTO, di1, di2⟩
  have hw : ∀ {a : Addr}, lo ≤ a → a ∉ [z, TO, i1, i2] ∧ a ≠ d := by
    intro a ha
    have h1 : d < lo := hlo.1
    have h2 : z < lo := hlo.2.1
    have h3 : TO < lo := hlo.2.2.1
    have h4 : i1 < lo := hlo.2.2.2.1
    have h5 : i2 < lo := hlo.2.2.2.2
    simp only [List.mem_cons, List.not_mem_nil, or_false, not_or]
    exact ⟨⟨Nat.ne_of_gt (Nat.lt_of_lt_of_le h2 ha), Nat.ne_of_gt (Nat.lt_of_lt_of_le h3 ha), Nat.ne_of_gt (Nat.lt_of_lt_of_le h4 ha), Nat.ne_of_gt (Nat.lt_of_lt_of_le h5 ha)⟩, Nat.ne_of_gt (Nat.lt_of_lt_of_le h1 ha)⟩
  have frame : ∀ i h h', ZTs z TI TO i1 i2 l1 l2 d xs ys i h → (∀ b o, b ≠ d → h.get? b = some o → h'.get? b = some o) → ZTs z TI TO i1 i2 l1 l2 d xs ys i h' := by
    intro i h h' st k
    refine ⟨k _ _ (Ne.symm dTI) st.hTI, st.w1.at fun o e => k _ o (Ne.symm di1) e, st.w2.at fun o e => k _ o (Ne.symm di2) e, st.t1.at fun o e => k _ o (Ne.symm dl1) e, st.t2.at fun o e => k _ o (Ne.symm dl2) e, ?_⟩
    refine st.zz.imp (fun ⟨q, a, b, r⟩ => ⟨k _ _ (Ne.symm dz) q, a, b, k _ _ (Ne.symm dTO) r⟩) ?_
    rintro ⟨T, f, oT, q, hT, r1, r2, r3, r4⟩
    exact ⟨T, f, oT, k _ _ (Ne.symm dz) q, k _ _ r4 hT, r1, r2, r3, r4⟩
  intro k
  induction k with
  | zero =>
    intro i h tk c acc as hk hi hst hkeep hS hacc hal hG hlz
    have ein : i = n := by omega
    subst ein
    refine codeAny_builtin PySem.F.entry_extend_loop ?_
    rw [Around.under_plainId PySem.F.plain_extend_loop _]
    show wpAny _ A.in1 (pyNext (.ref z) >>= _) _ _ _
    refine wpAny_bind (finZ (s := { s with heap := h, toks := tk }) (A := A.in1) hh D hx hst fun h' he => ?_)
    refine wpAny_pure (hR h' tk acc c as (fun b o h1 h2 e => he b o h1 (hkeep b o h1 h2 e)) (he d _ dw hS) hal ⟨hG.rise, hG.above, fun j a hj => ?_⟩ hacc)
    obtain ⟨x, y, e1, e2, e3⟩ := hG.pairs j a hj
    exact ⟨x, y, e1, e2, he a _ (hw (hG.above a (List.mem_of_getElem? hj))).1 e3⟩
  | succ k ih =>
    intro i h tk c acc as hk hi hst hkeep hS hacc hal hG hlz
    have hlt : i < n := by omega
    have hsz : acc.size = i := by rw [← Array.length_toList, hacc, List.length_map, hal]
    refine codeAny_builtin PySem.F.entry_extend_loop ?_
    rw [Around.under_plainId PySem.F.plain_extend_loop _]
    show wpAny _ A.in1 (pyNext (.ref z) >>= _) _ _ _
    refine wpAny_bind (nxtZ (s := { s with heap := h, toks := tk }) D hx hy hlt hst (Heap.lt_size hS) fun h' x y ex ey ht hz hkp => ?_)
    dsimp only at ht hz hkp ⊢
    have hS' := hkp d _ dw hS
    have up : ∀ b o, b ≠ d → h'.get? b = some o → (h'.update d (Obj.mapSeq (·.push (Value.ref h.objs.size)))).get? b = some o := fun b o hb e => (Heap.get?_update_other _ _ (Ne.symm hb)).trans e
    have hSl : d < h.objs.size := Heap.lt_size hS
    have e5 : (h'.update d (Obj.mapSeq (·.push (Value.ref h.objs.size)))).get? h.objs.size = some (pairO x y) := up _ _ (Nat.ne_of_gt hSl) ht
    show wpAny _ A.in1 (updateSeq d (·.push (Value.ref h.objs.size)) >>= _) _ _ _
    refine wpAny_bind ?_
    refine wpAny_updateSeq hS' rfl (wpAny_pure ⟨plainId_quiet PySem.F.plain_extend_loop _, ih (i + 1) _ tk _ (acc.push (Value.ref h.objs.size)) (as ++ [h.objs.size]) (by omega) hlt (frame _ _ _ hz up)
      (fun b o h1 h2 e => up b o h2 (hkp b o h1 (hkeep b o h1 h2 e))) (Heap.get?_update_self _ hS' rfl) (by rw [Array.toList_push, hacc, List.map_append]; rfl) (by rw [List.length_append, hal]; rfl) ⟨?_, ?_, ?_⟩ ?_⟩) (by rw [hsz]; omega) (by show (acc.push (Value.ref h.objs.size)).size ≤ sizeLine + 1; rw [Array.size_push, hsz]; omega)
    · refine List.pairwise_append.mpr ⟨hG.rise, List.pairwise_singleton _ _, fun a ha b hb => ?_⟩
      rw [List.mem_singleton.mp hb]
      exact hG.there ha
    · intro a ha
      rcases List.mem_append.mp ha with ha | ha
      · exact hG.above a ha
      · rw [List.mem_singleton.mp ha]; exact hlz
    · intro j b hj
      rcases Nat.lt_trichotomy j as.length with h1 | h1 | h1
      · rw [List.getElem?_append_left h1] at hj
        obtain ⟨x', y', e1, e2, e3⟩ := hG.pairs j b hj
        have hb := hw (hG.above b (List.mem_of_getElem? hj))
        exact ⟨x', y', e1, e2, up b _ hb.2 (hkp b _ hb.1 e3)⟩
      · subst h1
        have hb : h.objs.size = b := by simpa using hj
        subst hb
        rw [hal]
        exact ⟨x, y, ex, ey, e5⟩
      · have hnone : (as ++ [h.objs.size])[j]? = none := List.getElem?_eq_none (by rw [List.length_append, List.length_singleton]; omega)
        rw [hnone] at hj; cases hj
    · exact Nat.le_of_lt (Nat.lt_of_le_of_lt hlz (Heap.lt_size e5))
end
end KS
namespace KS
open PySem PySem.Spec PyProof.Rows L2 RZ
section
variable {prog : Program} {w : World} {A : Around} {E : Value → Shared → Prop} {s : Shared} {z TI TO i1 i2 l1 l2 d : Addr}
theorem ZTs.there {xs ys : Array Value} {h : Heap} {i : Nat} (st : ZTs z TI TO i1 i2 l1 l2 d xs ys i h) : (∃ o, h.get? z = some o) ∧ (∃ o, h.get? i1 = some o) ∧ ∃ o, h.get? i2 = some o := by
  refine ⟨?_, ?_, ?_⟩
  · rcases st.zz with ⟨q, _⟩ | ⟨T, f, oT, q, _⟩
    · exact ⟨_, q⟩
    · exact ⟨_, q⟩
  · obtain ⟨o, e, _⟩ := st.w1
    exact ⟨o, e⟩
  · obtain ⟨o, e, _⟩ := st.w2
    exact ⟨o, e⟩
theorem ZTs.isZip {xs ys : Array Value} {h : Heap} {i : Nat} (st : ZTs z TI TO i1 i2 l1 l2 d xs ys i h) : ∃ o, h.get? z = some o ∧ o.cls = .type "zip" := by
  rcases st.zz with ⟨q, _⟩ | ⟨T, f, oT, q, _⟩
  · exact ⟨_, q, rfl⟩
  · exact ⟨_, q, rfl⟩
theorem ZTs.frame {xs ys : Array Value} {h h' : Heap} {i : Nat} (off : d ∉ [z, TI, TO, i1, i2, l1, l2]) (st : ZTs z TI TO i1 i2 l1 l2 d xs ys i h) (k : ∀ b o, b ≠ d → h.get? b = some o → h'.get? b = some o) : ZTs z TI TO i1 i2 l1 l2 d xs ys i h' := by
  simp only [List.mem_cons, List.not_mem_nil, or_false, not_or] at off
  obtain ⟨dz, dTI, dTO, di1, di2, dl1, dl2⟩ := off
  refine ⟨k _ _ (Ne.symm dTI) st.hTI, st.w1.at fun o e => k _ o (Ne.symm di1) e, st.w2.at fun o e => k _ o (Ne.symm di2) e, st.t1.at fun o e => k _ o (Ne.symm dl1) e, st.t2.at fun o e => k _ o (Ne.symm dl2) e, ?_⟩
  refine st.zz.imp (fun ⟨q, a, b, r⟩ => ⟨k _ _ (Ne.symm dz) q, a, b, k _ _ (Ne.symm dTO) r⟩) ?_
  rintro ⟨T, f, oT, q, hT, r1, r2, r3, r4⟩
  exact ⟨T, f, oT, k _ _ (Ne.symm dz) q, k _ _ r4 hT, r1, r2, r3, r4⟩
theorem extZ {R : Result → Shared → Prop} (hh : A.handled = none) (D : ZipApart z TI TO i1 i2 l1 l2) {xs ys : Array Value} {n : Nat} (hx : xs.size = n) (hy : ys.size = n) (hn : n ≤ sizeLine)
    (off : d ∉ [z, TI, TO, i1, i2, l1, l2]) (fresh : IsZip s.heap z TI TO .none ∧ ∃ a b, IsPair s.heap TO a b) (st : ZTs z TI TO i1 i2 l1 l2 d xs ys 0 s.heap) (res : Value) (c₀ : Nat) (hS : s.heap.get? d = some { cls := .type "list", data := .seq #[] c₀ })
    (hR : ∀ h' tk acc c as, (∀ b o, b ∉ [z, TO, i1, i2] → b ≠ d → s.heap.get? b = some o → h'.get? b = some o) → h'.get? d = some { cls := .type "list", dict := none, data := .seq acc c, slots := #[] } → as.length = n → PrMade xs ys s.heap.objs.size h' as →
      acc.toList = as.map Value.ref → R (.ok (.ret res)) { s with heap := h', toks := tk }) :
    wpAny (model prog w) A.in1 (Builtin.List.listExtendWith (.ref d) (.ref z) res)
      (fun fin s' => match fin with | .done f => R (.ok f) s' | .again c' => c'.quiet = true ∧ codeAny (model prog w) A c' R s') (fun e s' => R (.error e) s') s := by
  have dz : d ≠ z := fun e => off (by rw [e]; exact List.mem_cons_self ..)
  obtain ⟨oz, hz, hzc⟩ := st.isZip
  obtain ⟨_, ⟨o1, e1⟩, ⟨o2, e2⟩⟩ := st.there
  obtain ⟨a0, b0, hTO⟩ := fresh.2
  have hTy : s.TypeIs (.ref z) "zip" := ⟨oz, hz, hzc⟩
  unfold Builtin.List.listExtendWith
  refine wpAny_bind (wpAny_typeOf hTy ?_)
  have h1 : Builtin.List.listSameRef (.ref d) (.ref z) = false := by simp [Builtin.List.listSameRef, dz]
  have h2 : (Value.type "zip" == Value.type "list") = false := by decide
  have h3 : (Value.type "zip" == Value.type "tuple") = false := by decide
  simp only [h1, h2, h3, Bool.or_false, Bool.false_eq_true, if_false]
  refine wpAny_bind (wpAny_pyIter_zip fresh.1 ?_)
  refine wpAny_bind (wpAny_holding ?_)
  unfold Builtin.List.listLengthHint
  refine wpAny_bind (wpAny_specialOf hTy nolen_zip ?_)
  show wpAny _ A.in1 (specialOf (Value.ref z) (Str.ofString "__length_hint__") >>= _) _ _ _
  refine wpAny_bind (wpAny_specialOf hTy nohint_zip ?_)
  refine wpAny_pure ?_
  show wpAny _ A.in1 (rule "list.extend.makes-room" >>= fun _ => Builtin.List.listTouch (.ref d) >>= fun _ =>
    again (.builtin "list.extend.loop" ⟨[.ref d, .ref z, res], []⟩)) _ _ _
  refine wpAny_bind (wpAny_rule ?_)
  refine wpAny_bind ?_
  show wpAny _ A.in1 (updateSeq d (·.push .none) >>= fun _ => updateSeq d (·.pop)) _ _ _
  refine wpAny_bind (wpAny_updateSeq hS rfl ?_)
  have hS₂ := Heap.get?_update_self (Obj.mapSeq (·.push Value.none)) hS rfl
  refine wpAny_updateSeq (hz := by seq_fits) hS₂ rfl ?_
  have hS₃ := Heap.get?_update_self (Obj.mapSeq (·.pop)) hS₂ rfl
  have oth : ∀ b o, b ≠ d → s.heap.get? b = some o → ((s.heap.update d (Obj.mapSeq (·.push Value.none))).update d (Obj.mapSeq (·.pop))).get? b = some o :=
    fun b o hb e => (Heap.get?_update_other _ _ (Ne.symm hb)).trans ((Heap.get?_update_other _ _ (Ne.symm hb)).trans e)
  have szu : ((s.heap.update d (Obj.mapSeq (·.push Value.none))).update d (Obj.mapSeq (·.pop))).objs.size = s.heap.objs.size := by simp
  refine wpAny_pure ⟨plainId_quiet PySem.F.plain_extend_loop _, loopZ (s := s) (h₁ := s.heap) (lo := s.heap.objs.size) hh D hx hy hn off ⟨Heap.lt_size hS, Heap.lt_size hz, Heap.lt_size hTO, Heap.lt_size e1, Heap.lt_size e2⟩ res
    (fun h' tk acc c as k1 k2 k3 k4 k5 => hR h' tk acc c as k1 k2 k3 k4 k5) n 0 _ _ _ #[] [] (Nat.sub_zero _) (Nat.zero_le _) (st.frame off oth) (fun b o _ hb e => oth b o hb e) hS₃ rfl rfl
    ⟨List.Pairwise.nil, (fun _ ha => nomatch ha), (fun j a hj => by simp at hj)⟩ (by rw [szu]; exact Nat.le_refl _)⟩
theorem initZ {R : Result → Shared → Prop} (hh : A.handled = none) (D : ZipApart z TI TO i1 i2 l1 l2) {xs ys : Array Value} {n : Nat} (hx : xs.size = n) (hy : ys.size = n) (hn : n ≤ sizeLine)
    (off : d ∉ [z, TI, TO, i1, i2, l1, l2]) (fresh : IsZip s.heap z TI TO .none ∧ ∃ a b, IsPair s.heap TO a b) (st : ZTs z TI TO i1 i2 l1 l2 d xs ys 0 s.heap) (hS : s.heap.get? d = some { cls := .type "list", data := .seq #[] })
    (hR : ∀ h' tk acc c as, (∀ b o, b ∉ [z, TO, i1, i2] → b ≠ d → s.heap.get? b = some o → h'.get? b = some o) → h'.get? d = some { cls := .type "list", dict := none, data := .seq acc c, slots := #[] } → as.length = n → PrMade xs ys s.heap.objs.size h' as →
      acc.toList = as.map Value.ref → R (.ok (.ret .none)) { s with heap := h', toks := tk }) :
    wpAny (model prog w) A.in1 (Builtin.«list.__init__» ⟨[.ref d, .ref z], []⟩)
      (fun fin s' => match fin with | .done f => R (.ok f) s' | .again c' => c'.quiet = true ∧ codeAny (model prog w) A c' R s') (fun e s' => R (.error e) s') s := by
  show wpAny _ A.in1 (do let old ← Builtin.List.listItems (.ref d); Builtin.List.listUpdate (.ref d) (fun _ => #[]); letGo old.toList.reverse; Builtin.List.listExtendWith (.ref d) (.ref z) .none) _ _ s
  refine wpAny_bind ?_
  unfold Builtin.List.listItems
  refine wpAny_bind (wpAny_seqItems hS rfl (wpAny_pure ?_))
  show wpAny _ A.in1 (updateSeq d (fun _ => #[]) >>= fun _ => letGo (#[] : Array Value).toList.reverse >>= fun _ => Builtin.List.listExtendWith (.ref d) (.ref z) .none) _ _ s
  refine wpAny_bind (wpAny_updateSeq hS rfl ?_)
  have hS₂ := Heap.get?_update_self (Obj.mapSeq (fun _ => (#[] : Array Value))) hS rfl
  have oth : ∀ b o, b ≠ d → s.heap.get? b = some o → (s.heap.update d (Obj.mapSeq (fun _ => (#[] : Array Value)))).get? b = some o :=
    fun b o hb e => (Heap.get?_update_other _ _ (Ne.symm hb)).trans e
  have szu : (s.heap.update d (Obj.mapSeq (fun _ => (#[] : Array Value)))).objs.size = s.heap.objs.size := by simp
  refine wpAny_bind (wpAny_letGo ?_)
  have dn := off
  simp only [List.mem_cons, List.not_mem_nil, or_false, not_or] at dn
  obtain ⟨dz, dTI, dTO, di1, di2, dl1, dl2⟩ := dn
  refine extZ (s := { s with heap := s.heap.update d (Obj.mapSeq (fun _ => (#[] : Array Value))) }) hh D hx hy hn off ?_ (st.frame off oth) .none _ hS₂ fun h' tk acc c as k1 k2 k3 k4 k5 => ?_
  · obtain ⟨q, a, b, r⟩ := fresh
    exact ⟨oth _ _ (Ne.symm dz) q, a, b, oth _ _ (Ne.symm dTO) r⟩
  · refine hR h' tk acc c as (fun b o h1 h2 e => k1 b o h1 h2 (oth b o h2 e)) k2 k3 ?_ k5
    have e : PrMade xs ys (s.heap.update d (Obj.mapSeq (fun _ => (#[] : Array Value)))).objs.size h' as := k4
    rw [szu] at e
    exact e
theorem call_listZ {Q : Value → Shared → Prop} (hh : A.handled = none) (D : ZipApart z TI TO i1 i2 l1 l2) {xs ys : Array Value} {n : Nat} (hx : xs.size = n) (hy : ys.size = n) (hn : n ≤ sizeLine)
    (lt : z < s.heap.objs.size ∧ TI < s.heap.objs.size ∧ TO < s.heap.objs.size ∧ i1 < s.heap.objs.size ∧ i2 < s.heap.objs.size ∧ l1 < s.heap.objs.size ∧ l2 < s.heap.objs.size)
    (fresh : IsZip s.heap z TI TO .none ∧ ∃ a b, IsPair s.heap TO a b) (hTI : IsPair s.heap TI (.ref i1) (.ref i2)) (w1 : s.heap.IsTupleIter i1 l1 0) (w2 : s.heap.IsTupleIter i2 l2 0) (t1 : s.heap.IsTuple l1 xs) (t2 : s.heap.IsTuple l2 ys)
    (hQ : ∀ h' tk acc c as, (∀ b o, b ∉ [z, TO, i1, i2] → s.heap.get? b = some o → h'.get? b = some o) → h'.get? s.heap.objs.size = some { cls := .type "list", dict := none, data := .seq acc c, slots := #[] } → as.length = n → PrMade xs ys (s.heap.objs.size + 1) h' as →
      acc.toList = as.map Value.ref → Q (.ref s.heap.objs.size) { s with heap := h', toks := tk }) : wpAny (model prog w) A (call (.type "list") [.ref z]) Q E s := by
  obtain ⟨g1, g2, g3, g4, g5, g6, g7⟩ := lt
  have off : s.heap.objs.size ∉ [z, TI, TO, i1, i2, l1, l2] := by
    simp only [List.mem_cons, List.not_mem_nil, or_false, not_or]
    exact ⟨Nat.ne_of_gt g1, Nat.ne_of_gt g2, Nat.ne_of_gt g3, Nat.ne_of_gt g4, Nat.ne_of_gt g5, Nat.ne_of_gt g6, Nat.ne_of_gt g7⟩
  have hk : ∀ b o, s.heap.get? b = some o → (s.heap.push { cls := .type "list", data := .seq #[] }).get? b = some o := fun b o e => Heap.get?_push_of_some _ e
  have fr : IsZip (s.heap.push { cls := .type "list", data := .seq #[] }) z TI TO .none ∧ ∃ a b, IsPair (s.heap.push { cls := .type "list", data := .seq #[] }) TO a b := by
    obtain ⟨q, a, b, r⟩ := fresh
    exact ⟨hk _ _ q, a, b, hk _ _ r⟩
  refine callType_codes (Q₁ := fun obj s₁ => obj = .ref s.heap.objs.size ∧ s₁ = { s with heap := s.heap.push { cls := .type "list", data := .seq #[] } }) PySem.F.called_list (PySem.F.typeCall_list_1 _) PySem.F.entry_list_init
    (code_list_new _ ⟨rfl, rfl⟩) fun obj s₁ h₁ => ?_
  obtain ⟨rfl, rfl⟩ := h₁
  have hS : (s.heap.push { cls := .type "list", data := .seq #[] }).get? s.heap.objs.size = some { cls := .type "list", data := .seq #[] } := Heap.get?_push_size _ rfl
  refine ⟨⟨_, hS, rfl⟩, PySem.F.args_list_init_2 _ _, initZ (s := { s with heap := s.heap.push { cls := .type "list", data := .seq #[] } }) (d := s.heap.objs.size) hh D hx hy hn off fr
    ⟨hk _ _ hTI, w1.at fun o e => hk _ o e, w2.at fun o e => hk _ o e, t1.at fun o e => hk _ o e, t2.at fun o e => hk _ o e, .inl fr⟩ hS fun h' tk acc c as k1 k2 k3 k4 k5 => ?_⟩
  refine ⟨rfl, hQ h' tk acc c as (fun b o h1 e => k1 b o h1 (Nat.ne_of_lt (Heap.lt_size e)) (hk b o e)) k2 k3 ?_ k5⟩
  have e : PrMade xs ys (s.heap.push { cls := .type "list", data := .seq #[] }).objs.size h' as := k4
  rw [Heap.size_push] at e
  exact e
end
end KS
namespace KS
open PySem PySem.Spec PyProof.Rows L2 RZ
def tListZip (K : PySem.W.Frag) (t : TA) : TE := fun σ H Q => t σ H fun vs H1 => ∃ (a b : Addr) (xs ys : List V), vs = [.ref a, .ref b] ∧ SqT K H1 a xs ∧ SqT K H1 b ys ∧ xs.length = ys.length ∧
  ∀ H2 (as : List Addr) D, Same H1 H2 → as.length = xs.length → (∀ p ∈ as, H1 p = none) → as.Nodup → (∀ (j : Nat) (p : Addr) (x y : V), as[j]? = some p → xs[j]? = some x → ys[j]? = some y → H2 p = some (.tup [x, y])) → H2 D = some (.lst (as.map V.ref)) → H1 D = none → Q (.ref D) H2
theorem vals_refs : ∀ as : List Addr, Vals (as.map V.ref) (as.map Value.ref)
  | [] => .nil
  | a :: as => .cons rfl (vals_refs as)
section
variable {X : Cx}
theorem pe_listZip {ea eb : Expr} {t : TA} {p1 p2 pos zpos : Pos} (hc : X.calm = true) (gd : Gl X "list") (md : X.mg "list" = none) (gz : Gl X "zip") (mz : X.mg "zip" = none) (ha : PA X [ea, eb] t)
    (hs : starEach [ea, eb] X.env = (false, eval ea X.env) :: starEach [eb] X.env := by rfl) (hpl : (backTo zpos (starEach [eb] X.env)).any (·.1) = false := by rfl)
    (hs' : starEach [.Call (.Name "zip" p2) [ea, eb] [] zpos] X.env = (false, eval (.Call (.Name "zip" p2) [ea, eb] [] zpos) X.env) :: [] := by rfl) :
    PE X (.Call (.Name "list" p1) [.Call (.Name "zip" p2) [ea, eb] [] zpos] [] pos) (tListZip X.K t) := by
  refine ⟨fun pins s σ H Q I h => ?_⟩
  refine wpAny_Call_Name_kw (ld_blt I gd md (show bootBuiltins "list" = some (.type "list") by decide +kernel) ?_ (by decide) (by decide))
  refine PyProof.Rows.callWith_type1 (T := "list") ?_ hs' rfl
  rw [hs']
  refine Calls.spliced_cons (?_ : wpAny _ _ (eval (.Call (.Name "zip" p2) [ea, eb] [] zpos) X.env) _ _ _)
  refine wpAny_Call_Name_kw (ld_blt I gz mz PyProof.Rows.boot_zip ?_ (by decide) (by decide))
  refine PyProof.Rows.callWith_type1 (thn (ha.run zpos pins s σ H _ I h) fun us s1 came => ?_) hs hpl
  obtain ⟨vs, H1, I1, r1, a, b, xs, ys, rfl, qa, qb, len, q⟩ := came
  obtain ⟨u1, u2, rfl, ru1, ru2⟩ : ∃ u1 u2, us = [u1, u2] ∧ RelV (.ref a) u1 ∧ RelV (.ref b) u2 := by
    cases r1 with
    | cons r rr =>
      cases rr with
      | cons r' rr =>
        cases rr
        exact ⟨_, _, rfl, r, r'⟩
  cases ru1
  cases ru2
  obtain ⟨its, rv, ta, small⟩ := I1.tuple qa
  obtain ⟨jts, rw', tb, _⟩ := I1.tuple qb
  have li := rv.length
  have lj := rw'.length
  obtain ⟨oa, ga, _⟩ := id ta
  obtain ⟨ob, gb, _⟩ := id tb
  have la := Heap.lt_size ga
  have lb := Heap.lt_size gb
  have D := PySem.W.ktu_apart s1.heap.objs.size a b la lb
  refine call_zipT (show s1.heap.IsTuple a its.toArray from ta) (show s1.heap.IsTuple b jts.toArray from tb) fun h' hz hTI hTO w1 w2 hsz hk => Calls.spliced_nil ?_
  refine call_listZ (s := { s1 with heap := h' }) (n := xs.length) (I.ok.hd hc) D (xs := its.toArray) (ys := jts.toArray) (by rw [List.size_toArray]; exact li.symm) (by rw [List.size_toArray]; omega) small
    ⟨by show _ < h'.objs.size; omega, by show _ < h'.objs.size; omega, by show _ < h'.objs.size; omega, by show _ < h'.objs.size; omega, by show _ < h'.objs.size; omega, by show _ < h'.objs.size; rw [hsz]; exact Nat.lt_of_lt_of_le la (Nat.le_add_right _ _), by show _ < h'.objs.size; rw [hsz]; exact Nat.lt_of_lt_of_le lb (Nat.le_add_right _ _)⟩
    ⟨hz, _, _, hTO⟩ hTI w1 w2 (Heap.IsTuple.at ta fun o e => hk _ o e) (Heap.IsTuple.at tb fun o e => hk _ o e) fun h'' tk acc c as k1 k2 k3 k4 k5 => ?_
  have kept : ∀ b o, s1.heap.get? b = some o → h''.get? b = some o := by
    intro b o e
    have lt := Heap.lt_size e
    refine k1 b o ?_ (hk b o e)
    simp only [List.mem_cons, List.not_mem_nil, or_false, not_or]
    have apart : ∀ j : Nat, b ≠ s1.heap.objs.size + j := fun j => Nat.ne_of_lt (Nat.lt_of_lt_of_le lt (Nat.le_add_right _ _))
    exact ⟨apart 4, apart 3, apart 0, apart 1⟩
  have I2 : Inv X pins σ H1 { s1 with heap := h'', toks := tk } := I1.kept (t' := tk) kept
  have nd : as.Nodup := List.Pairwise.imp (fun h => Nat.ne_of_lt h) k4.rise
  have ab : ∀ p ∈ as, s1.heap.objs.size ≤ p := fun p hp => by
    have := k4.above p hp
    have e : ({ s1 with heap := h' } : Shared).heap.objs.size = s1.heap.objs.size + 5 := hsz
    rw [e] at this
    exact Nat.le_trans (by omega) this
  have fr : ∀ p ∈ as, H1 p = none := fun p hp => I1.hok.fresh (ab p hp)
  have dz : s1.heap.objs.size ≤ h'.objs.size := by rw [hsz]; exact Nat.le_add_right _ _
  have dn : H1 h'.objs.size = none := I1.hok.fresh dz
  have dna : h'.objs.size ∉ as := fun hp => absurd (k4.above _ hp) (Nat.not_le_of_gt (Nat.lt_succ_self _))
  have acl : acc = (as.map Value.ref).toArray := by rw [← k5]
  subst acl
  have I4 : Inv X pins σ (upd H1 h'.objs.size (.lst (as.map V.ref))) { s1 with heap := h'', toks := tk } := I2.take (h' := h'') (t' := tk) (fun b ob _ e => e) (I1.fpOk dz dn) ⟨by rw [List.length_map, k3]; exact small, _, c, vals_refs as, k2⟩
  obtain ⟨H2, I3, keepH, got⟩ := L2.DX.takeT (P := fun p vs => ∃ (j : Nat) (x y : V), as[j]? = some p ∧ xs[j]? = some x ∧ ys[j]? = some y ∧ vs = [x, y]) I1 as (upd H1 h'.objs.size (.lst (as.map V.ref))) I4 nd fun p hp => by
    have np : p ≠ h'.objs.size := fun e => dna (by rw [← e]; exact hp)
    refine ⟨ab p hp, by rw [upd_ne np]; exact fr p hp, ?_⟩
    obtain ⟨j, hj⟩ := List.mem_iff_getElem?.mp hp
    obtain ⟨u, v, eu, ev, g⟩ := k4.pairs j p hj
    have eu : its[j]? = some u := by simpa using eu
    have ev : jts[j]? = some v := by simpa using ev
    have jl : j < xs.length := by
      rw [li]
      exact (List.getElem?_eq_some_iff.mp eu).1
    have ex := List.getElem?_eq_getElem jl
    have ey := List.getElem?_eq_getElem (show j < ys.length by omega)
    obtain ⟨u', eu', r1⟩ := rv.get ex
    obtain ⟨v', ev', r2⟩ := rw'.get ey
    rw [eu] at eu'
    rw [ev] at ev'
    cases eu'
    cases ev'
    exact ⟨_, ⟨j, _, _, hj, ex, ey, rfl⟩, fun H2 => ⟨by show 2 ≤ sizeLine; decide, [u, v], .cons r1 (.cons r2 .nil), ⟨pairO u v, g, rfl, 0, rfl⟩⟩⟩
  have sm : Same H1 H2 := fun b o e => keepH b o (by
    rw [upd_ne (ne_of_none e dn)]
    exact e)
  refine ⟨.ref h'.objs.size, _, I3, rfl, q _ as h'.objs.size sm k3 fr nd (fun j p x y hj hx hy => ?_) (keepH _ _ upd_same) dn⟩
  have hp := List.mem_of_getElem? hj
  obtain ⟨vs, ⟨j', x', y', ej, ex, ey, rfl⟩, g⟩ := got p hp
  have ejj : j' = j := by
    obtain ⟨l1, z1⟩ := List.getElem?_eq_some_iff.mp ej
    obtain ⟨l2, z2⟩ := List.getElem?_eq_some_iff.mp hj
    exact (List.getElem_inj nd).mp (z1.trans z2.symm)
  subst ejj
  rw [hx] at ex
  rw [hy] at ey
  cases ex
  cases ey
  exact g
end
end KS
namespace KS
open PySem PySem.Spec PyProof.Rows L2 RZ
/-! list(zip(l1, l2)), both lists -/
structure ZLs (z TI TO i1 i2 l1 l2 d : Addr) (xs ys : Array Value) (i : Nat) (h : Heap) : Prop where
  hTI : IsPair h TI (.ref i1) (.ref i2)
  w1 : h.IsListIter i1 l1 i
  w2 : h.IsListIter i2 l2 i
  t1 : h.IsList l1 xs
  t2 : h.IsList l2 ys
  zz : (IsZip h z TI TO .none ∧ ∃ a b, IsPair h TO a b) ∨ ∃ T f oT, IsZipHeld h z TI TO T f ∧ h.get? T = some oT ∧ T ≠ z ∧ T ≠ i1 ∧ T ≠ i2 ∧ T ≠ d

/-! ### list(zip(t1, t2)), both tuples of one length -/



section
variable {prog : Program} {w : World} {E : Value → Shared → Prop} {s : Shared} {z TI TO i1 i2 l1 l2 d : Addr}
theorem nxtZL {A : Around} (D : ZipApart z TI TO i1 i2 l1 l2) {xs ys : Array Value} {n i : Nat} (hx : xs.size = n) (hy : ys.size = n) (hi : i < n) (st : ZLs z TI TO i1 i2 l1 l2 d xs ys i s.heap) (ds : d < s.heap.objs.size) {Q : Option Value → Shared → Prop}
    (hQ : ∀ h' x y, xs[i]? = some x → ys[i]? = some y → h'.get? s.heap.objs.size = some (pairO x y) → ZLs z TI TO i1 i2 l1 l2 d xs ys (i + 1) h' → (∀ b o, b ∉ [z, TO, i1, i2] → s.heap.get? b = some o → h'.get? b = some o) → Q (some (.ref s.heap.objs.size)) { s with heap := h' }) :
    wpAny (model prog w) A (pyNext (.ref z)) Q E s := by
  have ex := Array.getElem?_eq_getElem (xs := xs) (i := i) (by omega)
  have ey := Array.getElem?_eq_getElem (xs := ys) (i := i) (by omega)
  have lt : ∀ {c o}, s.heap.get? c = some o → s.heap.objs.size ≠ c := fun e => Nat.ne_of_gt (Heap.lt_size e)
  have n1 : s.heap.objs.size ≠ i1 := st.w1.elim fun _ e => lt e.1
  have n2 : s.heap.objs.size ≠ i2 := st.w2.elim fun _ e => lt e.1
  have memo : ∀ {c : Addr}, c ∉ [z, TO, i1, i2] → c ≠ z ∧ c ≠ TO ∧ c ≠ i1 ∧ c ≠ i2 := by
    intro c hc
    simpa only [List.mem_cons, List.not_mem_nil, or_false, not_or] using hc
  rcases st.zz with ⟨q, a, b, r⟩ | ⟨T, f, oT, q, hT, r1, r2, r3, r4⟩
  · refine wpAny_pyNext_zip_item D q st.hTI r st.w1 st.w2 st.t1 st.t2 ex ey fun h' a1 a2 a3 a4 a5 a6 k => ?_
    refine hQ h' _ _ ex ey a5 ?_ fun c o hc e => let ⟨c1, c2, c3, c4⟩ := memo hc; k c o c1 c2 c3 c4 e
    exact ⟨k _ _ D.TIz D.TITO D.TIi1 D.TIi2 st.hTI, a3, a4, st.t1.at fun o e => k _ o D.l1z D.l1TO D.l1i1 D.l1i2 e, st.t2.at fun o e => k _ o D.l2z D.l2TO D.l2i1 D.l2i2 e, Or.inr ⟨_, false, _, a1, a5, lt q, n1, n2, Nat.ne_of_gt ds⟩⟩
  · refine zn_py ⟨_, q, rfl⟩ (zn_two (Q := fun v s' => Q (some v) s') q hT st.hTI fun h₁ z₁ b₁ => ?_)
    refine wpAny_nextOf_list_item (s := { s with heap := h₁ }) (st.w1.extBut b₁.extBut D.i1z) (st.t1.extBut b₁.extBut D.l1z) ex fun h₂ w₁ b₂ => ?_
    refine wpAny_nextOf_list_item (s := { s with heap := h₂ }) ((st.w2.extBut b₁.extBut D.i2z).extBut b₂.extBut D.i12.symm) ((st.t2.extBut b₁.extBut D.l2z).extBut b₂.extBut D.l2i1) ey fun h₃ w₂ b₃ => ?_
    have k : ∀ c o, c ≠ z → c ≠ i1 → c ≠ i2 → s.heap.get? c = some o → (h₃.push { cls := .type "tuple", data := .seq #[xs[i], ys[i]] }).get? c = some o := fun c o c1 c2 c3 e => Heap.get?_push_of_some _ (b₃.extBut _ _ c3 (b₂.extBut _ _ c2 (b₁.extBut _ _ c1 e)))
    have sz : h₃.objs.size = s.heap.objs.size := (b₃.1.trans b₂.1).trans b₁.1
    show Q (some (.ref h₃.objs.size)) { s with heap := h₃.push { cls := .type "tuple", data := .seq #[xs[i], ys[i]] } }
    rw [sz]
    refine hQ _ _ _ ex ey (by rw [← sz]; exact Heap.get?_push_size _ rfl) ?_ fun c o hc e => let ⟨c1, _, c3, c4⟩ := memo hc; k c o c1 c3 c4 e
    refine ⟨k _ _ D.TIz D.TIi1 D.TIi2 st.hTI, (w₁.extBut b₃.extBut D.i12).at fun o e => Heap.get?_push_of_some _ e, w₂.at fun o e => Heap.get?_push_of_some _ e, st.t1.at fun o e => k _ o D.l1z D.l1i1 D.l1i2 e, st.t2.at fun o e => k _ o D.l2z D.l2i1 D.l2i2 e, Or.inr ⟨T, true, oT, ?_, k _ _ r1 r2 r3 hT, r1, r2, r3, r4⟩⟩
    exact Heap.get?_push_of_some _ (b₃.extBut _ _ D.i2z.symm (b₂.extBut _ _ D.i1z.symm z₁))
theorem finZL {A : Around} (hA : A.handled = none) (D : ZipApart z TI TO i1 i2 l1 l2) {xs ys : Array Value} {n : Nat} (hx : xs.size = n) (st : ZLs z TI TO i1 i2 l1 l2 d xs ys n s.heap) {Q : Option Value → Shared → Prop}
    (hQ : ∀ h', (∀ b o, b ∉ [z, TO, i1, i2] → s.heap.get? b = some o → h'.get? b = some o) → Q none { s with heap := h' }) : wpAny (model prog w) A (pyNext (.ref z)) Q E s := by
  have ex : xs[n]? = none := Array.getElem?_eq_none (by omega)
  have memo : ∀ {c : Addr}, c ∉ [z, TO, i1, i2] → c ≠ z ∧ c ≠ TO ∧ c ≠ i1 ∧ c ≠ i2 := by
    intro c hc
    simpa only [List.mem_cons, List.not_mem_nil, or_false, not_or] using hc
  rcases st.zz with ⟨q, a, b, r⟩ | ⟨T, f, oT, q, hT, r1, r2, r3, r4⟩
  · exact wpAny_pyNext_zip_end hA D q st.hTI r st.w1 st.w2 st.t1 st.t2 (Or.inl ex) fun h' k => hQ h' fun c o hc e => let ⟨c1, c2, c3, c4⟩ := memo hc; k c o c1 c2 c3 c4 e
  · refine zn_py ⟨_, q, rfl⟩ (zn_two (Q := fun v s' => Q (some v) s') q hT st.hTI fun h₁ z₁ b₁ => ?_)
    refine wpAny_nextOf_list_end (s := { s with heap := h₁ }) (show A.in1.handled = none from hA) (st.w1.extBut b₁.extBut D.i1z) (st.t1.extBut b₁.extBut D.l1z) ex fun h₂ e b₂ ⟨o, ho, hc⟩ => ?_
    exact ⟨e, o, rfl, ho, hc, hQ h₂ fun c o hc e => let ⟨c1, _, c3, c4⟩ := memo hc; b₂ c o c3 (b₁.extBut c o c1 e)⟩



theorem loopZL {A : Around} {R : Result → Shared → Prop} (hh : A.handled = none) (D : ZipApart z TI TO i1 i2 l1 l2) {xs ys : Array Value} {n lo : Nat} (hx : xs.size = n) (hy : ys.size = n) (hn : n ≤ sizeLine)
    (off : d ∉ [z, TI, TO, i1, i2, l1, l2]) (hlo : d < lo ∧ z < lo ∧ TO < lo ∧ i1 < lo ∧ i2 < lo) (res : Value) {h₁ : Heap}
    (hR : ∀ h' tk acc c as, (∀ b o, b ∉ [z, TO, i1, i2] → b ≠ d → h₁.get? b = some o → h'.get? b = some o) → h'.get? d = some { cls := .type "list", dict := none, data := .seq acc c, slots := #[] } → as.length = n → PrMade xs ys lo h' as →
      acc.toList = as.map Value.ref → R (.ok (.ret res)) { s with heap := h', toks := tk }) :
    ∀ (k i : Nat) (h : Heap) (tk c : Nat) (acc : Array Value) (as : List Addr), n - i = k → i ≤ n → ZLs z TI TO i1 i2 l1 l2 d xs ys i h → (∀ b o, b ∉ [z, TO, i1, i2] → b ≠ d → h₁.get? b = some o → h.get? b = some o) →
      h.get? d = some { cls := .type "list", dict := none, data := .seq acc c, slots := #[] } → acc.toList = as.map Value.ref → as.length = i → PrMade xs ys lo h as → lo ≤ h.objs.size →
      codeAny (model prog w) A (.builtin "list.extend.loop" ⟨[.ref d, .ref z, res], []⟩) R { s with heap := h, toks := tk } := by
  simp only [List.mem_cons, List.not_mem_nil, or_false, not_or] at off
  obtain ⟨dz, dTI, dTO, di1, di2, dl1, dl2⟩ := off
  have dw : d ∉ [z, TO, i1, i2] := by
    simp only [List.mem_cons, List.not_mem_nil, or_false, not_or]
    exact ⟨dz, dTO, di1, di2⟩
  have hw : ∀ {a : Addr}, lo ≤ a → a ∉ [z, TO, i1, i2] ∧ a ≠ d := by
    intro a ha
    have h1 : d < lo := hlo.1
    have h2 : z < lo := hlo.2.1
    have h3 : TO < lo := hlo.2.2.1
    have h4 : i1 < lo := hlo.2.2.2.1
    have h5 : i2 < lo := hlo.2.2.2.2
    simp only [List.mem_cons, List.not_mem_nil, or_false, not_or]
    exact ⟨⟨Nat.ne_of_gt (Nat.lt_of_lt_of_le h2 ha), Nat.ne_of_gt (Nat.lt_of_lt_of_le h3 ha), Nat.ne_of_gt (Nat.lt_of_lt_of_le h4 ha), Nat.ne_of_gt (Nat.lt_of_lt_of_le h5 ha)⟩, Nat.ne_of_gt (Nat.lt_of_lt_of_le h1 ha)⟩
  have frame : ∀ i h h', ZLs z TI TO i1 i2 l1 l2 d xs ys i h → (∀ b o, b ≠ d → h.get? b = some o → h'.get? b = some o) → ZLs z TI TO i1 i2 l1 l2 d xs ys i h' := by
    intro i h h' st k
    refine ⟨k _ _ (Ne.symm dTI) st.hTI, st.w1.at fun o e => k _ o (Ne.symm di1) e, st.w2.at fun o e => k _ o (Ne.symm di2) e, st.t1.at fun o e => k _ o (Ne.symm dl1) e, st.t2.at fun o e => k _ o (Ne.symm dl2) e, ?_⟩
    refine st.zz.imp (fun ⟨q, a, b, r⟩ => ⟨k _ _ (Ne.symm dz) q, a, b, k _ _ (Ne.symm dTO) r⟩) ?_
    rintro ⟨T, f, oT, q, hT, r1, r2, r3, r4⟩
    exact ⟨T, f, oT, k _ _ (Ne.symm dz) q, k _ _ r4 hT, r1, r2, r3, r4⟩
  intro k
  induction k with
  | zero =>
    intro i h tk c acc as hk hi hst hkeep hS hacc hal hG hlz
    have ein : i = n := by omega
    subst ein
    refine codeAny_builtin PySem.F.entry_extend_loop ?_
    rw [Around.under_plainId PySem.F.plain_extend_loop _]
    show wpAny _ A.in1 (pyNext (.ref z) >>= _) _ _ _
    refine wpAny_bind (finZL (s := { s with heap := h, toks := tk }) (A := A.in1) hh D hx hst fun h' he => ?_)
    refine wpAny_pure (hR h' tk acc c as (fun b o h1 h2 e => he b o h1 (hkeep b o h1 h2 e)) (he d _ dw hS) hal ⟨hG.rise, hG.above, fun j a hj => ?_⟩ hacc)
    obtain ⟨x, y, e1, e2, e3⟩ := hG.pairs j a hj
    exact ⟨x, y, e1, e2, he a _ (hw (hG.above a (List.mem_of_getElem? hj))).1 e3⟩
  | succ k ih =>
    intro i h tk c acc as hk hi hst hkeep hS hacc hal hG hlz
    have hlt : i < n := by omega
    have hsz : acc.size = i := by rw [← Array.length_toList, hacc, List.length_map, hal]
    refine codeAny_builtin PySem.F.entry_extend_loop ?_
    rw [Around.under_plainId PySem.F.plain_extend_loop _]
    show wpAny _ A.in1 (pyNext (.ref z) >>= _) _ _ _
    refine wpAny_bind (nxtZL (s := { s with heap := h, toks := tk }) D hx hy hlt hst (Heap.lt_size hS) fun h' x y ex ey ht hz hkp => ?_)
    dsimp only at ht hz hkp ⊢
    have hS' := hkp d _ dw hS
    have up : ∀ b o, b ≠ d → h'.get? b = some o → (h'.update d (Obj.mapSeq (·.push (Value.ref h.objs.size)))).get? b = some o := fun b o hb e => (Heap.get?_update_other _ _ (Ne.symm hb)).trans e
    have hSl : d < h.objs.size := Heap.lt_size hS
    have e5 : (h'.update d (Obj.mapSeq (·.push (Value.ref h.objs.size)))).get? h.objs.size = some (pairO x y) := up _ _ (Nat.ne_of_gt hSl) ht
    show wpAny _ A.in1 (updateSeq d (·.push (Value.ref h.objs.size)) >>= _) _ _ _
    refine wpAny_bind ?_
    refine wpAny_updateSeq hS' rfl (wpAny_pure ⟨plainId_quiet PySem.F.plain_extend_loop _, ih (i + 1) _ tk _ (acc.push (Value.ref h.objs.size)) (as ++ [h.objs.size]) (by omega) hlt (frame _ _ _ hz up)
      (fun b o h1 h2 e => up b o h2 (hkp b o h1 (hkeep b o h1 h2 e))) (Heap.get?_update_self _ hS' rfl) (by rw [Array.toList_push, hacc, List.map_append]; rfl) (by rw [List.length_append, hal]; rfl) ⟨?_, ?_, ?_⟩ ?_⟩) (by rw [hsz]; omega) (by show (acc.push (Value.ref h.objs.size)).size ≤ sizeLine + 1; rw [Array.size_push, hsz]; omega)
    · refine List.pairwise_append.mpr ⟨hG.rise, List.pairwise_singleton _ _, fun a ha b hb => ?_⟩
      rw [List.mem_singleton.mp hb]
      exact hG.there ha
    · intro a ha
      rcases List.mem_append.mp ha with ha | ha
      · exact hG.above a ha
      · rw [List.mem_singleton.mp ha]; exact hlz
    · intro j b hj
      rcases Nat.lt_trichotomy j as.length with h1 | h1 | h1
      · rw [List.getElem?_append_left h1] at hj
        obtain ⟨x', y', e1, e2, e3⟩ := hG.pairs j b hj
        have hb := hw (hG.above b (List.mem_of_getElem? hj))
        exact ⟨x', y', e1, e2, up b _ hb.2 (hkp b _ hb.1 e3)⟩
      · subst h1
        have hb : h.objs.size = b := by simpa using hj
        subst hb
        rw [hal]
        exact ⟨x, y, ex, ey, e5⟩
      · have hnone : (as ++ [h.objs.size])[j]? = none := List.getElem?_eq_none (by rw [List.length_append, List.length_singleton]; omega)
        rw [hnone] at hj; cases hj
    · exact Nat.le_of_lt (Nat.lt_of_le_of_lt hlz (Heap.lt_size e5))
end


section
variable {prog : Program} {w : World} {A : Around} {E : Value → Shared → Prop} {s : Shared} {z TI TO i1 i2 l1 l2 d : Addr}
theorem ZLs.there {xs ys : Array Value} {h : Heap} {i : Nat} (st : ZLs z TI TO i1 i2 l1 l2 d xs ys i h) : (∃ o, h.get? z = some o) ∧ (∃ o, h.get? i1 = some o) ∧ ∃ o, h.get? i2 = some o := by
  refine ⟨?_, ?_, ?_⟩
  · rcases st.zz with ⟨q, _⟩ | ⟨T, f, oT, q, _⟩
    · exact ⟨_, q⟩
    · exact ⟨_, q⟩
  · obtain ⟨o, e, _⟩ := st.w1
    exact ⟨o, e⟩
  · obtain ⟨o, e, _⟩ := st.w2
    exact ⟨o, e⟩
theorem ZLs.isZip {xs ys : Array Value} {h : Heap} {i : Nat} (st : ZLs z TI TO i1 i2 l1 l2 d xs ys i h) : ∃ o, h.get? z = some o ∧ o.cls = .type "zip" := by
  rcases st.zz with ⟨q, _⟩ | ⟨T, f, oT, q, _⟩
  · exact ⟨_, q, rfl⟩
  · exact ⟨_, q, rfl⟩
theorem ZLs.frame {xs ys : Array Value} {h h' : Heap} {i : Nat} (off : d ∉ [z, TI, TO, i1, i2, l1, l2]) (st : ZLs z TI TO i1 i2 l1 l2 d xs ys i h) (k : ∀ b o, b ≠ d → h.get? b = some o → h'.get? b = some o) : ZLs z TI TO i1 i2 l1 l2 d xs ys i h' := by
  simp only [List.mem_cons, List.not_mem_nil, or_false, not_or] at off
  obtain ⟨dz, dTI, dTO, di1, di2, dl1, dl2⟩ := off
  refine ⟨k _ _ (Ne.symm dTI) st.hTI, st.w1.at fun o e => k _ o (Ne.symm di1) e, st.w2.at fun o e => k _ o (Ne.symm di2) e, st.t1.at fun o e => k _ o (Ne.symm dl1) e, st.t2.at fun o e => k _ o (Ne.symm dl2) e, ?_⟩
  refine st.zz.imp (fun ⟨q, a, b, r⟩ => ⟨k _ _ (Ne.symm dz) q, a, b, k _ _ (Ne.symm dTO) r⟩) ?_
  rintro ⟨T, f, oT, q, hT, r1, r2, r3, r4⟩
  exact ⟨T, f, oT, k _ _ (Ne.symm dz) q, k _ _ r4 hT, r1, r2, r3, r4⟩
theorem extZL {R : Result → Shared → Prop} (hh : A.handled = none) (D : ZipApart z TI TO i1 i2 l1 l2) {xs ys : Array Value} {n : Nat} (hx : xs.size = n) (hy : ys.size = n) (hn : n ≤ sizeLine)
    (off : d ∉ [z, TI, TO, i1, i2, l1, l2]) (fresh : IsZip s.heap z TI TO .none ∧ ∃ a b, IsPair s.heap TO a b) (st : ZLs z TI TO i1 i2 l1 l2 d xs ys 0 s.heap) (res : Value) (c₀ : Nat) (hS : s.heap.get? d = some { cls := .type "list", data := .seq #[] c₀ })
    (hR : ∀ h' tk acc c as, (∀ b o, b ∉ [z, TO, i1, i2] → b ≠ d → s.heap.get? b = some o → h'.get? b = some o) → h'.get? d = some { cls := .type "list", dict := none, data := .seq acc c, slots := #[] } → as.length = n → PrMade xs ys s.heap.objs.size h' as →
      acc.toList = as.map Value.ref → R (.ok (.ret res)) { s with heap := h', toks := tk }) :
    wpAny (model prog w) A.in1 (Builtin.List.listExtendWith (.ref d) (.ref z) res)
      (fun fin s' => match fin with | .done f => R (.ok f) s' | .again c' => c'.quiet = true ∧ codeAny (model prog w) A c' R s') (fun e s' => R (.error e) s') s := by
  have dz : d ≠ z := fun e => off (by rw [e]; exact List.mem_cons_self ..)
  obtain ⟨oz, hz, hzc⟩ := st.isZip
  obtain ⟨_, ⟨o1, e1⟩, ⟨o2, e2⟩⟩ := st.there
  obtain ⟨a0, b0, hTO⟩ := fresh.2
  have hTy : s.TypeIs (.ref z) "zip" := ⟨oz, hz, hzc⟩
  unfold Builtin.List.listExtendWith
  refine wpAny_bind (wpAny_typeOf hTy ?_)
  have h1 : Builtin.List.listSameRef (.ref d) (.ref z) = false := by simp [Builtin.List.listSameRef, dz]
  have h2 : (Value.type "zip" == Value.type "list") = false := by decide
  have h3 : (Value.type "zip" == Value.type "tuple") = false := by decide
  simp only [h1, h2, h3, Bool.or_false, Bool.false_eq_true, if_false]
  refine wpAny_bind (wpAny_pyIter_zip fresh.1 ?_)
  refine wpAny_bind (wpAny_holding ?_)
  unfold Builtin.List.listLengthHint
  refine wpAny_bind (wpAny_specialOf hTy nolen_zip ?_)
  show wpAny _ A.in1 (specialOf (Value.ref z) (Str.ofString "__length_hint__") >>= _) _ _ _
  refine wpAny_bind (wpAny_specialOf hTy nohint_zip ?_)
  refine wpAny_pure ?_
  show wpAny _ A.in1 (rule "list.extend.makes-room" >>= fun _ => Builtin.List.listTouch (.ref d) >>= fun _ =>
    again (.builtin "list.extend.loop" ⟨[.ref d, .ref z, res], []⟩)) _ _ _
  refine wpAny_bind (wpAny_rule ?_)
  refine wpAny_bind ?_
  show wpAny _ A.in1 (updateSeq d (·.push .none) >>= fun _ => updateSeq d (·.pop)) _ _ _
  refine wpAny_bind (wpAny_updateSeq hS rfl ?_)
  have hS₂ := Heap.get?_update_self (Obj.mapSeq (·.push Value.none)) hS rfl
  refine wpAny_updateSeq (hz := by seq_fits) hS₂ rfl ?_
  have hS₃ := Heap.get?_update_self (Obj.mapSeq (·.pop)) hS₂ rfl
  have oth : ∀ b o, b ≠ d → s.heap.get? b = some o → ((s.heap.update d (Obj.mapSeq (·.push Value.none))).update d (Obj.mapSeq (·.pop))).get? b = some o :=
    fun b o hb e => (Heap.get?_update_other _ _ (Ne.symm hb)).trans ((Heap.get?_update_other _ _ (Ne.symm hb)).trans e)
  have szu : ((s.heap.update d (Obj.mapSeq (·.push Value.none))).update d (Obj.mapSeq (·.pop))).objs.size = s.heap.objs.size := by simp
  refine wpAny_pure ⟨plainId_quiet PySem.F.plain_extend_loop _, loopZL (s := s) (h₁ := s.heap) (lo := s.heap.objs.size) hh D hx hy hn off ⟨Heap.lt_size hS, Heap.lt_size hz, Heap.lt_size hTO, Heap.lt_size e1, Heap.lt_size e2⟩ res
    (fun h' tk acc c as k1 k2 k3 k4 k5 => hR h' tk acc c as k1 k2 k3 k4 k5) n 0 _ _ _ #[] [] (Nat.sub_zero _) (Nat.zero_le _) (st.frame off oth) (fun b o _ hb e => oth b o hb e) hS₃ rfl rfl
    ⟨List.Pairwise.nil, (fun _ ha => nomatch ha), (fun j a hj => by simp at hj)⟩ (by rw [szu]; exact Nat.le_refl _)⟩
theorem initZL {R : Result → Shared → Prop} (hh : A.handled = none) (D : ZipApart z TI TO i1 i2 l1 l2) {xs ys : Array Value} {n : Nat} (hx : xs.size = n) (hy : ys.size = n) (hn : n ≤ sizeLine)
    (off : d ∉ [z, TI, TO, i1, i2, l1, l2]) (fresh : IsZip s.heap z TI TO .none ∧ ∃ a b, IsPair s.heap TO a b) (st : ZLs z TI TO i1 i2 l1 l2 d xs ys 0 s.heap) (hS : s.heap.get? d = some { cls := .type "list", data := .seq #[] })
    (hR : ∀ h' tk acc c as, (∀ b o, b ∉ [z, TO, i1, i2] → b ≠ d → s.heap.get? b = some o → h'.get? b = some o) → h'.get? d = some { cls := .type "list", dict := none, data := .seq acc c, slots := #[] } → as.length = n → PrMade xs ys s.heap.objs.size h' as →
      acc.toList = as.map Value.ref → R (.ok (.ret .none)) { s with heap := h', toks := tk }) :
    wpAny (model prog w) A.in1 (Builtin.«list.__init__» ⟨[.ref d, .ref z], []⟩)
      (fun fin s' => match fin with | .done f => R (.ok f) s' | .again c' => c'.quiet = true ∧ codeAny (model prog w) A c' R s') (fun e s' => R (.error e) s') s := by
  show wpAny _ A.in1 (do let old ← Builtin.List.listItems (.ref d); Builtin.List.listUpdate (.ref d) (fun _ => #[]); letGo old.toList.reverse; Builtin.List.listExtendWith (.ref d) (.ref z) .none) _ _ s
  refine wpAny_bind ?_
  unfold Builtin.List.listItems
  refine wpAny_bind (wpAny_seqItems hS rfl (wpAny_pure ?_))
  show wpAny _ A.in1 (updateSeq d (fun _ => #[]) >>= fun _ => letGo (#[] : Array Value).toList.reverse >>= fun _ => Builtin.List.listExtendWith (.ref d) (.ref z) .none) _ _ s
  refine wpAny_bind (wpAny_updateSeq hS rfl ?_)
  have hS₂ := Heap.get?_update_self (Obj.mapSeq (fun _ => (#[] : Array Value))) hS rfl
  have oth : ∀ b o, b ≠ d → s.heap.get? b = some o → (s.heap.update d (Obj.mapSeq (fun _ => (#[] : Array Value)))).get? b = some o :=
    fun b o hb e => (Heap.get?_update_other _ _ (Ne.symm hb)).trans e
  have szu : (s.heap.update d (Obj.mapSeq (fun _ => (#[] : Array Value)))).objs.size = s.heap.objs.size := by simp
  refine wpAny_bind (wpAny_letGo ?_)
  have dn := off
  simp only [List.mem_cons, List.not_mem_nil, or_false, not_or] at dn
  obtain ⟨dz, dTI, dTO, di1, di2, dl1, dl2⟩ := dn
  refine extZL (s := { s with heap := s.heap.update d (Obj.mapSeq (fun _ => (#[] : Array Value))) }) hh D hx hy hn off ?_ (st.frame off oth) .none _ hS₂ fun h' tk acc c as k1 k2 k3 k4 k5 => ?_
  · obtain ⟨q, a, b, r⟩ := fresh
    exact ⟨oth _ _ (Ne.symm dz) q, a, b, oth _ _ (Ne.symm dTO) r⟩
  · refine hR h' tk acc c as (fun b o h1 h2 e => k1 b o h1 h2 (oth b o h2 e)) k2 k3 ?_ k5
    have e : PrMade xs ys (s.heap.update d (Obj.mapSeq (fun _ => (#[] : Array Value)))).objs.size h' as := k4
    rw [szu] at e
    exact e
theorem call_listZL {Q : Value → Shared → Prop} (hh : A.handled = none) (D : ZipApart z TI TO i1 i2 l1 l2) {xs ys : Array Value} {n : Nat} (hx : xs.size = n) (hy : ys.size = n) (hn : n ≤ sizeLine)
    (lt : z < s.heap.objs.size ∧ TI < s.heap.objs.size ∧ TO < s.heap.objs.size ∧ i1 < s.heap.objs.size ∧ i2 < s.heap.objs.size ∧ l1 < s.heap.objs.size ∧ l2 < s.heap.objs.size)
    (fresh : IsZip s.heap z TI TO .none ∧ ∃ a b, IsPair s.heap TO a b) (hTI : IsPair s.heap TI (.ref i1) (.ref i2)) (w1 : s.heap.IsListIter i1 l1 0) (w2 : s.heap.IsListIter i2 l2 0) (t1 : s.heap.IsList l1 xs) (t2 : s.heap.IsList l2 ys)
    (hQ : ∀ h' tk acc c as, (∀ b o, b ∉ [z, TO, i1, i2] → s.heap.get? b = some o → h'.get? b = some o) → h'.get? s.heap.objs.size = some { cls := .type "list", dict := none, data := .seq acc c, slots := #[] } → as.length = n → PrMade xs ys (s.heap.objs.size + 1) h' as →
      acc.toList = as.map Value.ref → Q (.ref s.heap.objs.size) { s with heap := h', toks := tk }) : wpAny (model prog w) A (call (.type "list") [.ref z]) Q E s := by
  obtain ⟨g1, g2, g3, g4, g5, g6, g7⟩ := lt
  have off : s.heap.objs.size ∉ [z, TI, TO, i1, i2, l1, l2] := by
    simp only [List.mem_cons, List.not_mem_nil, or_false, not_or]
    exact ⟨Nat.ne_of_gt g1, Nat.ne_of_gt g2, Nat.ne_of_gt g3, Nat.ne_of_gt g4, Nat.ne_of_gt g5, Nat.ne_of_gt g6, Nat.ne_of_gt g7⟩
  have hk : ∀ b o, s.heap.get? b = some o → (s.heap.push { cls := .type "list", data := .seq #[] }).get? b = some o := fun b o e => Heap.get?_push_of_some _ e
  have fr : IsZip (s.heap.push { cls := .type "list", data := .seq #[] }) z TI TO .none ∧ ∃ a b, IsPair (s.heap.push { cls := .type "list", data := .seq #[] }) TO a b := by
    obtain ⟨q, a, b, r⟩ := fresh
    exact ⟨hk _ _ q, a, b, hk _ _ r⟩
  refine callType_codes (Q₁ := fun obj s₁ => obj = .ref s.heap.objs.size ∧ s₁ = { s with heap := s.heap.push { cls := .type "list", data := .seq #[] } }) PySem.F.called_list (PySem.F.typeCall_list_1 _) PySem.F.entry_list_init
    (code_list_new _ ⟨rfl, rfl⟩) fun obj s₁ h₁ => ?_
  obtain ⟨rfl, rfl⟩ := h₁
  have hS : (s.heap.push { cls := .type "list", data := .seq #[] }).get? s.heap.objs.size = some { cls := .type "list", data := .seq #[] } := Heap.get?_push_size _ rfl
  refine ⟨⟨_, hS, rfl⟩, PySem.F.args_list_init_2 _ _, initZL (s := { s with heap := s.heap.push { cls := .type "list", data := .seq #[] } }) (d := s.heap.objs.size) hh D hx hy hn off fr
    ⟨hk _ _ hTI, w1.at fun o e => hk _ o e, w2.at fun o e => hk _ o e, t1.at fun o e => hk _ o e, t2.at fun o e => hk _ o e, .inl fr⟩ hS fun h' tk acc c as k1 k2 k3 k4 k5 => ?_⟩
  refine ⟨rfl, hQ h' tk acc c as (fun b o h1 e => k1 b o h1 (Nat.ne_of_lt (Heap.lt_size e)) (hk b o e)) k2 k3 ?_ k5⟩
  have e : PrMade xs ys (s.heap.push { cls := .type "list", data := .seq #[] }).objs.size h' as := k4
  rw [Heap.size_push] at e
  exact e
end


def tListZipL (K : PySem.W.Frag) (t : TA) : TE := fun σ H Q => t σ H fun vs H1 => ∃ (a b : Addr) (xs ys : List V), vs = [.ref a, .ref b] ∧ SqL K H1 a xs ∧ SqL K H1 b ys ∧ xs.length = ys.length ∧
  ∀ H2 (as : List Addr) D, Same H1 H2 → as.length = xs.length → (∀ p ∈ as, H1 p = none) → as.Nodup → (∀ (j : Nat) (p : Addr) (x y : V), as[j]? = some p → xs[j]? = some x → ys[j]? = some y → H2 p = some (.tup [x, y])) → H2 D = some (.lst (as.map V.ref)) → H1 D = none → Q (.ref D) H2

section
variable {X : Cx}
theorem pe_listZipL {ea eb : Expr} {t : TA} {p1 p2 pos zpos : Pos} (hc : X.calm = true) (gd : Gl X "list") (md : X.mg "list" = none) (gz : Gl X "zip") (mz : X.mg "zip" = none) (ha : PA X [ea, eb] t)
    (hs : starEach [ea, eb] X.env = (false, eval ea X.env) :: starEach [eb] X.env := by rfl) (hpl : (backTo zpos (starEach [eb] X.env)).any (·.1) = false := by rfl)
    (hs' : starEach [.Call (.Name "zip" p2) [ea, eb] [] zpos] X.env = (false, eval (.Call (.Name "zip" p2) [ea, eb] [] zpos) X.env) :: [] := by rfl) :
    PE X (.Call (.Name "list" p1) [.Call (.Name "zip" p2) [ea, eb] [] zpos] [] pos) (tListZipL X.K t) := by
  refine ⟨fun pins s σ H Q I h => ?_⟩
  refine wpAny_Call_Name_kw (ld_blt I gd md (show bootBuiltins "list" = some (.type "list") by decide +kernel) ?_ (by decide) (by decide))
  refine PyProof.Rows.callWith_type1 (T := "list") ?_ hs' rfl
  rw [hs']
  refine Calls.spliced_cons (?_ : wpAny _ _ (eval (.Call (.Name "zip" p2) [ea, eb] [] zpos) X.env) _ _ _)
  refine wpAny_Call_Name_kw (ld_blt I gz mz PyProof.Rows.boot_zip ?_ (by decide) (by decide))
  refine PyProof.Rows.callWith_type1 (thn (ha.run zpos pins s σ H _ I h) fun us s1 came => ?_) hs hpl
  obtain ⟨vs, H1, I1, r1, a, b, xs, ys, rfl, qa, qb, len, q⟩ := came
  obtain ⟨u1, u2, rfl, ru1, ru2⟩ : ∃ u1 u2, us = [u1, u2] ∧ RelV (.ref a) u1 ∧ RelV (.ref b) u2 := by
    cases r1 with
    | cons r rr =>
      cases rr with
      | cons r' rr =>
        cases rr
        exact ⟨_, _, rfl, r, r'⟩
  cases ru1
  cases ru2
  obtain ⟨its, rv, ta, small⟩ := I1.list qa
  obtain ⟨jts, rw', tb, _⟩ := I1.list qb
  have li := rv.length
  have lj := rw'.length
  obtain ⟨oa, _, ga, _⟩ := id ta
  obtain ⟨ob, _, gb, _⟩ := id tb
  have la := Heap.lt_size ga
  have lb := Heap.lt_size gb
  have D := PySem.W.ktu_apart s1.heap.objs.size a b la lb
  refine call_zip_2 ta.isList tb.isList fun h' hz hTI hTO w1 w2 hsz hk => Calls.spliced_nil ?_
  refine call_listZL (s := { s1 with heap := h' }) (n := xs.length) (I.ok.hd hc) D (xs := its.toArray) (ys := jts.toArray) (by rw [List.size_toArray]; exact li.symm) (by rw [List.size_toArray]; omega) small
    ⟨by show _ < h'.objs.size; omega, by show _ < h'.objs.size; omega, by show _ < h'.objs.size; omega, by show _ < h'.objs.size; omega, by show _ < h'.objs.size; omega, by show _ < h'.objs.size; rw [hsz]; exact Nat.lt_of_lt_of_le la (Nat.le_add_right _ _), by show _ < h'.objs.size; rw [hsz]; exact Nat.lt_of_lt_of_le lb (Nat.le_add_right _ _)⟩
    ⟨hz, _, _, hTO⟩ hTI w1 w2 (Heap.IsList.at ta.isList fun o e => hk _ o e) (Heap.IsList.at tb.isList fun o e => hk _ o e) fun h'' tk acc c as k1 k2 k3 k4 k5 => ?_
  have kept : ∀ b o, s1.heap.get? b = some o → h''.get? b = some o := by
    intro b o e
    have lt := Heap.lt_size e
    refine k1 b o ?_ (hk b o e)
    simp only [List.mem_cons, List.not_mem_nil, or_false, not_or]
    have apart : ∀ j : Nat, b ≠ s1.heap.objs.size + j := fun j => Nat.ne_of_lt (Nat.lt_of_lt_of_le lt (Nat.le_add_right _ _))
    exact ⟨apart 4, apart 3, apart 0, apart 1⟩
  have I2 : Inv X pins σ H1 { s1 with heap := h'', toks := tk } := I1.kept (t' := tk) kept
  have nd : as.Nodup := List.Pairwise.imp (fun h => Nat.ne_of_lt h) k4.rise
  have ab : ∀ p ∈ as, s1.heap.objs.size ≤ p := fun p hp => by
    have := k4.above p hp
    have e : ({ s1 with heap := h' } : Shared).heap.objs.size = s1.heap.objs.size + 5 := hsz
    rw [e] at this
    exact Nat.le_trans (by omega) this
  have fr : ∀ p ∈ as, H1 p = none := fun p hp => I1.hok.fresh (ab p hp)
  have dz : s1.heap.objs.size ≤ h'.objs.size := by rw [hsz]; exact Nat.le_add_right _ _
  have dn : H1 h'.objs.size = none := I1.hok.fresh dz
  have dna : h'.objs.size ∉ as := fun hp => absurd (k4.above _ hp) (Nat.not_le_of_gt (Nat.lt_succ_self _))
  have acl : acc = (as.map Value.ref).toArray := by rw [← k5]
  subst acl
  have I4 : Inv X pins σ (upd H1 h'.objs.size (.lst (as.map V.ref))) { s1 with heap := h'', toks := tk } := I2.take (h' := h'') (t' := tk) (fun b ob _ e => e) (I1.fpOk dz dn) ⟨by rw [List.length_map, k3]; exact small, _, c, vals_refs as, k2⟩
  obtain ⟨H2, I3, keepH, got⟩ := L2.DX.takeT (P := fun p vs => ∃ (j : Nat) (x y : V), as[j]? = some p ∧ xs[j]? = some x ∧ ys[j]? = some y ∧ vs = [x, y]) I1 as (upd H1 h'.objs.size (.lst (as.map V.ref))) I4 nd fun p hp => by
    have np : p ≠ h'.objs.size := fun e => dna (by rw [← e]; exact hp)
    refine ⟨ab p hp, by rw [upd_ne np]; exact fr p hp, ?_⟩
    obtain ⟨j, hj⟩ := List.mem_iff_getElem?.mp hp
    obtain ⟨u, v, eu, ev, g⟩ := k4.pairs j p hj
    have eu : its[j]? = some u := by simpa using eu
    have ev : jts[j]? = some v := by simpa using ev
    have jl : j < xs.length := by
      rw [li]
      exact (List.getElem?_eq_some_iff.mp eu).1
    have ex := List.getElem?_eq_getElem jl
    have ey := List.getElem?_eq_getElem (show j < ys.length by omega)
    obtain ⟨u', eu', r1⟩ := rv.get ex
    obtain ⟨v', ev', r2⟩ := rw'.get ey
    rw [eu] at eu'
    rw [ev] at ev'
    cases eu'
    cases ev'
    exact ⟨_, ⟨j, _, _, hj, ex, ey, rfl⟩, fun H2 => ⟨by show 2 ≤ sizeLine; decide, [u, v], .cons r1 (.cons r2 .nil), ⟨pairO u v, g, rfl, 0, rfl⟩⟩⟩
  have sm : Same H1 H2 := fun b o e => keepH b o (by
    rw [upd_ne (ne_of_none e dn)]
    exact e)
  refine ⟨.ref h'.objs.size, _, I3, rfl, q _ as h'.objs.size sm k3 fr nd (fun j p x y hj hx hy => ?_) (keepH _ _ upd_same) dn⟩
  have hp := List.mem_of_getElem? hj
  obtain ⟨vs, ⟨j', x', y', ej, ex, ey, rfl⟩, g⟩ := got p hp
  have ejj : j' = j := by
    obtain ⟨l1, z1⟩ := List.getElem?_eq_some_iff.mp ej
    obtain ⟨l2, z2⟩ := List.getElem?_eq_some_iff.mp hj
    exact (List.getElem_inj nd).mp (z1.trans z2.symm)
  subst ejj
  rw [hx] at ex
  rw [hy] at ey
  cases ex
  cases ey
  exact g
end
end KS
/-! records, as mathematics: an order explains a record just when each line keeps its names -/
namespace KS
open PySem PySem.Spec PyProof.Rows L2
def atN (rs : List Str) (ks : List Nat) : List Str := ks.map fun k => rs.getD k ""
def prsOf (ns : List Str) : List (Str × Str) := ns.dropLast.zip ns.tail
def okLn (bs rs : List Str) (ls : List (List Nat)) : Bool := ls.all fun ks => (atN rs ks).isPerm (atN bs ks)
def prsL (rs : List Str) (ls : List (List Nat)) : List (Str × Str) := ls.flatMap fun ks => prsOf (atN rs ks)
/-- what a record shows -/
def seenP (b : Bool) (cs : List Cell) (bs rs : List Str) : Option (List (Str × Str)) := if okLn bs rs (lnsN b cs) = true then some (prsL rs (lnsN b cs)) else none
def gradeN (o row : List Str) : List Int := row.map fun p => (o.idxOf p : Int)
def unG (o : List Str) (k : Int) : Str := o.getD k.toNat ""
/-- the names after a sort, with values in this order -/
def laterN (b : Bool) (cs : List Cell) (row o : List Str) : List Str := (srt b cs (gradeN o row)).map (unG o)
theorem unG_idx {o : List Str} {p : Str} (h : p ∈ o) : unG o (o.idxOf p : Int) = p := by
  unfold unG
  rw [Int.toNat_natCast, List.getD_eq_getElem?_getD, List.getElem?_eq_getElem (List.idxOf_lt_length_of_mem h), Option.getD_some]
  exact List.getElem_idxOf _
theorem getN_grade {o row : List Str} {ks : List Nat} (hb : ∀ k ∈ ks, k < row.length) : getN (gradeN o row) ks = gradeN o (atN row ks) := by
  unfold getN gradeN atN
  rw [List.map_map]
  refine List.map_congr_left fun k hk => ?_
  have hl := hb k hk
  show (row.map _).getD k 0 = _
  simp [List.getD_eq_getElem?_getD, hl]
theorem un_grade {o l : List Str} (h : ∀ p ∈ l, p ∈ o) : (gradeN o l).map (unG o) = l := by
  unfold gradeN
  rw [List.map_map]
  conv => rhs; rw [← List.map_id l]
  exact List.map_congr_left fun p hp => unG_idx (h p hp)
theorem at_map {o : List Str} {vs : List Int} {ks : List Nat} (hb : ∀ k ∈ ks, k < vs.length) : atN (vs.map (unG o)) ks = (getN vs ks).map (unG o) := by
  unfold atN getN
  rw [List.map_map]
  refine List.map_congr_left fun k hk => ?_
  have hl := hb k hk
  simp [List.getD_eq_getElem?_getD, hl]
theorem srt_line {b : Bool} {cs : List Cell} {vs : List Int} (h : vs.length = cs.length) {ks : List Nat} (hk : ks ∈ lnsN b cs) : getN (srt b cs vs) ks = sortI (getN vs ks) := by
  rw [srt_up]
  exact fold_get (by rw [h]; exact lns_parts b cs) ks hk
theorem later_ok {b : Bool} {cs : List Cell} {bs o : List Str} (hl : bs.length = cs.length) (p : o.Perm bs) : okLn bs (laterN b cs bs o) (lnsN b cs) = true := by
  have hg : (gradeN o bs).length = cs.length := by rw [gradeN, List.length_map, hl]
  unfold okLn
  rw [List.all_eq_true]
  intro ks hk
  rw [List.isPerm_iff]
  have hb := (lns_parts b cs).bd ks hk
  unfold laterN
  rw [at_map (by rw [srt_len, hg]; exact hb), srt_line hg hk]
  refine ((sortI_perm _).map _).trans ?_
  rw [getN_grade (by rw [hl]; exact hb), un_grade]
  intro q hq
  unfold atN at hq
  obtain ⟨k, hk2, rfl⟩ := List.mem_map.mp hq
  have hkl : k < bs.length := by rw [hl]; exact hb k hk2
  rw [List.getD_eq_getElem?_getD, List.getElem?_eq_getElem hkl]
  exact p.mem_iff.mpr (List.getElem_mem hkl)
theorem idx_range {o : List Str} (nd : o.Nodup) : o.map (fun p => o.idxOf p) = List.range o.length := by
  refine List.ext_getElem (by simp) fun i h1 h2 => ?_
  rw [List.getElem_map, List.getElem_range]
  have hi : i < o.length := by simpa using h1
  exact nd.idxOf_getElem i hi
theorem grade_asc {o l : List Str} (nd : o.Nodup) (s : l.Sublist o) : (gradeN o l).Pairwise (· < ·) := by
  have h1 : (o.map (fun p => o.idxOf p)).Pairwise (· < ·) := by rw [idx_range nd]; exact List.pairwise_lt_range
  have h2 := h1.sublist (s.map _)
  unfold gradeN
  rw [List.pairwise_map] at h2 ⊢
  exact h2.imp fun h => by omega
/-- the lines of a table, one behind the other -/
def ordOf (b : Bool) (cs : List Cell) (rs : List Str) : List Str := (lnsN b cs).flatMap (atN rs)
theorem flat_permL {b : Bool} {cs : List Cell} (g : Good cs) : (lnsN b cs).flatten.Perm (List.range cs.length) := by
  have pt := lns_parts b cs
  refine (List.perm_ext_iff_of_nodup ?_ List.nodup_range).mpr fun i => ?_
  · rw [List.nodup_iff_pairwise_ne, List.pairwise_flatten]
    refine ⟨fun ks hk => (pt.asc ks hk).imp fun h => by omega, pt.apart.imp fun h x hx y hy e => h x hx (by rw [e]; exact hy)⟩
  · rw [List.mem_flatten, List.mem_range]
    constructor
    · rintro ⟨ks, hk, hi⟩
      exact pt.bd ks hk i hi
    · intro hi
      exact ⟨_, lineN_mem g hi, mem_lineN.mpr ⟨hi, rfl⟩⟩
theorem ord_flat (b : Bool) (cs : List Cell) (rs : List Str) : ordOf b cs rs = (lnsN b cs).flatten.map fun k => rs.getD k "" := by
  unfold ordOf
  rw [List.flatMap_def, List.map_flatten]
  rfl
theorem range_all (rs : List Str) : ((List.range rs.length).map fun k => rs.getD k "") = rs := by
  refine List.ext_getElem (by simp) fun i h1 h2 => ?_
  simp [List.getD_eq_getElem?_getD, h2]
theorem ord_perm {b : Bool} {cs : List Cell} {rs : List Str} (g : Good cs) (hl : rs.length = cs.length) : (ordOf b cs rs).Perm rs := by
  rw [ord_flat]
  refine ((flat_permL (b := b) g).map _).trans ?_
  rw [← hl, range_all]
theorem later_back {b : Bool} {cs : List Cell} {bs rs : List Str} (g : Good cs) (hl : bs.length = cs.length) (nd : bs.Nodup) (p : rs.Perm bs) (h : okLn bs rs (lnsN b cs) = true) :
    laterN b cs bs (ordOf b cs rs) = rs := by
  have hr : rs.length = cs.length := by rw [p.length_eq, hl]
  have op := ord_perm (b := b) g hr
  have ond : (ordOf b cs rs).Nodup := op.nodup_iff.mpr (p.nodup_iff.mpr nd)
  have hg : (gradeN (ordOf b cs rs) bs).length = cs.length := by rw [gradeN, List.length_map, hl]
  have key : ∀ ks ∈ lnsN b cs, getN (srt b cs (gradeN (ordOf b cs rs) bs)) ks = gradeN (ordOf b cs rs) (atN rs ks) := fun ks hk => by
    have hb := (lns_parts b cs).bd ks hk
    rw [srt_line hg hk, getN_grade (by rw [hl]; exact hb)]
    have pm := List.isPerm_iff.mp (List.all_eq_true.mp h ks hk)
    refine (sortI_eq (pm.map _) ?_).symm
    have sb : (atN rs ks).Sublist (ordOf b cs rs) := by
      unfold ordOf
      rw [List.flatMap_def]
      exact List.sublist_flatten_of_mem (List.mem_map.mpr ⟨ks, hk, rfl⟩)
    exact (grade_asc ond sb).imp fun h => by omega
  refine List.ext_getElem (by rw [laterN, List.length_map, srt_len, hg, hr]) fun i h1 h2 => ?_
  have hi : i < cs.length := by rw [← hr]; exact h2
  have hm := lineN_mem (b := b) g hi
  have hmi : i ∈ lineN b cs (gB b cs i) := mem_lineN.mpr ⟨hi, rfl⟩
  have k1 := key _ hm
  unfold gradeN getN atN at k1
  rw [List.map_map] at k1
  have k2 := List.map_inj_left.mp k1 i hmi
  have hs : i < (srt b cs (gradeN (ordOf b cs rs) bs)).length := by rw [srt_len, hg]; exact hi
  show (List.map (unG (ordOf b cs rs)) (srt b cs (gradeN (ordOf b cs rs) bs)))[i]'(by rw [List.length_map]; exact hs) = _
  rw [List.getElem_map]
  have e1 : (srt b cs (gradeN (ordOf b cs rs) bs))[i] = ((ordOf b cs rs).idxOf rs[i] : Int) := by
    have e2 : (srt b cs (gradeN (ordOf b cs rs) bs)).getD i 0 = (srt b cs (gradeN (ordOf b cs rs) bs))[i] := by
      simp [List.getD_eq_getElem?_getD, hs]
    rw [← e2]
    refine Eq.trans k2 ?_
    show (((ordOf b cs rs).idxOf (rs.getD i "") : Nat) : Int) = _
    rw [List.getD_eq_getElem?_getD, List.getElem?_eq_getElem h2, Option.getD_some]
  rw [e1, unG_idx (op.mem_iff.mpr (List.getElem_mem h2))]
/-! all orders -/
def extS (sf row : List Str) : List (List Str) := (sf.filter fun p => !decide (p ∈ row)).map fun p => row ++ [p]
def ordS (sf : List Str) : Nat → List (List Str)
  | 0 => [[]]
  | n + 1 => (ordS sf n).flatMap (extS sf)
theorem mem_ordS {sf : List Str} : ∀ {n : Nat} {r : List Str}, r ∈ ordS sf n ↔ r.length = n ∧ r.Nodup ∧ ∀ p ∈ r, p ∈ sf
  | 0, r => by
    show r ∈ [[]] ↔ _
    rw [List.mem_singleton]
    constructor
    · rintro rfl
      exact ⟨rfl, List.nodup_nil, fun _ h => nomatch h⟩
    · exact fun h => List.eq_nil_of_length_eq_zero h.1
  | n + 1, r => by
    show r ∈ (ordS sf n).flatMap (extS sf) ↔ _
    rw [List.mem_flatMap]
    constructor
    · rintro ⟨l, hl, hr⟩
      obtain ⟨h1, h2, h3⟩ := mem_ordS.mp hl
      unfold extS at hr
      obtain ⟨p, hp, rfl⟩ := List.mem_map.mp hr
      rw [List.mem_filter, Bool.not_eq_true', decide_eq_false_iff_not] at hp
      refine ⟨by rw [List.length_append, h1]; rfl, ?_, fun q hq => ?_⟩
      · rw [List.nodup_append]
        exact ⟨h2, by simp, fun a ha b hb => by rw [List.mem_singleton.mp hb]; exact fun e => hp.2 (by rw [← e]; exact ha)⟩
      · rcases List.mem_append.mp hq with q1 | q1
        · exact h3 q q1
        · rw [List.mem_singleton.mp q1]; exact hp.1
    · rintro ⟨h1, h2, h3⟩
      have hne : r ≠ [] := fun e => by rw [e] at h1; cases h1
      obtain ⟨l, p, rfl⟩ : ∃ l p, r = l ++ [p] := ⟨r.dropLast, r.getLast hne, (List.dropLast_concat_getLast hne).symm⟩
      rw [List.length_append] at h1
      rw [List.nodup_append] at h2
      have hl : l.length = n := by simpa using h1
      refine ⟨l, mem_ordS.mpr ⟨hl, h2.1, fun q hq => h3 q (List.mem_append_left _ hq)⟩, ?_⟩
      unfold extS
      refine List.mem_map.mpr ⟨p, ?_, rfl⟩
      rw [List.mem_filter, Bool.not_eq_true', decide_eq_false_iff_not]
      exact ⟨h3 p (by simp), fun hp => h2.2.2 p hp p (by simp) rfl⟩
theorem perm_of_sub : ∀ {l m : List Str}, l.Nodup → (∀ x ∈ l, x ∈ m) → m.length ≤ l.length → l.Perm m
  | [], m, _, _, h => by rw [List.eq_nil_of_length_eq_zero (Nat.le_zero.mp h)]
  | x :: l, m, nd, h, hl => by
    rw [List.nodup_cons] at nd
    have hx := h x List.mem_cons_self
    refine List.Perm.trans (List.Perm.cons x (perm_of_sub (l := l) (m := m.erase x) nd.2 (fun y hy => ?_) ?_)) (List.perm_cons_erase hx).symm
    · have : y ≠ x := fun e => nd.1 (e ▸ hy)
      exact (List.mem_erase_of_ne this).mpr (h y (List.mem_cons_of_mem _ hy))
    · rw [List.length_erase_of_mem hx]
      rw [List.length_cons] at hl
      omega
theorem fit_iff {b : Bool} {cs : List Cell} {bs rs sf : List Str} (g : Good cs) (hl : bs.length = cs.length) (nd : bs.Nodup) (p : rs.Perm bs) (ps : sf.Perm bs) :
    ((ordS sf cs.length).filter fun o => decide (laterN b cs bs o = rs)).isEmpty = !okLn bs rs (lnsN b cs) := by
  rw [Bool.eq_iff_iff, List.isEmpty_iff, List.filter_eq_nil_iff, Bool.not_eq_true']
  have hr : rs.length = cs.length := by rw [p.length_eq, hl]
  constructor
  · intro h
    cases e : okLn bs rs (lnsN b cs) with
    | false => rfl
    | true =>
      have op := ord_perm (b := b) g hr
      refine absurd (decide_eq_true (later_back g hl nd p e)) (h _ (mem_ordS.mpr ⟨by rw [op.length_eq, hr], op.nodup_iff.mpr (p.nodup_iff.mpr nd), fun q hq => ?_⟩))
      exact ps.mem_iff.mpr (p.mem_iff.mp (op.mem_iff.mp hq))
  · intro h o ho hd
    obtain ⟨h1, h2, h3⟩ := mem_ordS.mp ho
    have e := of_decide_eq_true hd
    have po : o.Perm bs := by
      refine List.Perm.trans ?_ ps
      exact perm_of_sub h2 h3 (by rw [h1, ps.length_eq, hl]; exact Nat.le_refl _)
    have := later_ok (b := b) (cs := cs) hl po
    rw [e, h] at this
    cases this
end KS
namespace KS
open PySem PySem.Spec PyProof.Rows L2
open PySem.W (EachIs AllAlike Sortable dataLe)
/-! ### sorted(l), l a list of objects that are plain data -/
def rSortedD (K : PySem.W.Frag) : List V → Hp → VK → Prop := fun vs H Q => ∃ (a : Addr) (β : Type) (bs : List β) (val : β → V) (enc : β → PyData), vs = [V.ref a] ∧ SqL K H a (bs.map val) ∧ (∀ b ∈ bs, (∃ t, val b = V.ref t) ∧ Dp K H (val b) (enc b) ∧ (enc b).depth ≤ 30) ∧
  AllAlike (bs.map enc) ∧ Sortable (bs.map enc) ∧ ∀ p, H p = none → Q (.ref p) (upd H p (.lst ((bs.mergeSort (dataLe false enc)).map val)))
section
variable {β : Type} {val : β → V} {enc : β → PyData}
def isRefOf (val : β → V) (v : Value) (b : β) : Prop := ∃ t, val b = V.ref t ∧ v = Value.ref t
theorem each_refs : ∀ {bs : List β} {its : List Value}, Vals (bs.map val) its → (∀ b ∈ bs, ∃ t, val b = V.ref t) → EachIs (isRefOf val) its bs
  | [], _, r, _ => by
    cases r
    exact .nil
  | z :: zs, _, r, h => by
    cases r with
    | cons r1 r2 =>
      obtain ⟨t, e⟩ := h z (List.mem_cons_self ..)
      refine .cons ⟨t, e, ?_⟩ (each_refs r2 fun y hy => h y (List.mem_cons_of_mem _ hy))
      rw [e] at r1
      cases r1
      rfl
theorem refs_each : ∀ {bs : List β} {out : List Value}, EachIs (isRefOf val) out bs → Vals (bs.map val) out
  | [], _, .nil => .nil
  | z :: zs, _, .cons ⟨t, e, ev⟩ r => by
    subst ev
    rw [List.map_cons, e]
    exact .cons rfl (refs_each r)
theorem each_reads {X : Cx} {pins : List (Addr × Obj)} {s : Shared} {σ : L2.St} {H : Hp} (I : Inv X pins σ H s) : ∀ {bs : List β} {its : List Value}, Vals (bs.map val) its → (∀ b ∈ bs, Dp X.K H (val b) (enc b)) → EachIs (fun v b => ∃ as, Reads s.heap v (enc b) as) its bs
  | [], _, r, _ => by
    cases r
    exact .nil
  | z :: zs, _, r, h => by
    cases r with
    | cons r1 r2 =>
      exact .cons (Dp.reads I (enc z) (val z) _ (h z (List.mem_cons_self ..)) r1) (each_reads I r2 fun y hy => h y (List.mem_cons_of_mem _ hy))
end
theorem cr_sortedD {X : Cx} (hu : X.A.units + 65 < cLine) : CallR X (.builtin "sorted") (rSortedD X.K) := by
  intro pins s σ H vs us Q I r h
  obtain ⟨a, β, bs, val, enc, rfl, hs, hz, al, so, q⟩ := h
  obtain ⟨its, rv, hl, hlen⟩ := I.list hs
  obtain ⟨u, rfl, ru⟩ := vals1 r
  obtain rfl : u = Value.ref a := ru
  have zl : bs.length ≤ sizeLine := by
    rw [List.length_map] at hlen
    exact hlen
  refine PySem.W.sorted_data (vs := its) (bs := bs) (enc := enc) (R := isRefOf val) hl.isList (each_refs rv fun z m => (hz z m).1) (each_reads I rv fun z m => (hz z m).2.1) al so zl (fun z m => ?_) fun out ol oe => ?_
  · have := (hz z m).2.2
    show X.A.units + 2 + (enc z).depth < cLine
    omega
  · obtain ⟨n, hn⟩ := sortedAll_at s.heap its out.toArray
    have hp : s.heap.objs.size ≤ s.heap.objs.size + 1 := Nat.le_succ _
    refine ⟨.ref (s.heap.objs.size + 1), upd H (s.heap.objs.size + 1) (.lst ((bs.mergeSort (dataLe false enc)).map val)), I.laid (t' := s.toks) (fun b o e => sortedAll_old e) hp ⟨?_, out, n, refs_each oe, hn⟩, rfl, q _ (I.hok.fresh hp)⟩
    rw [List.length_map, (List.mergeSort_perm _ _).length_eq]
    exact zl
end KS
/-! seen_pairs, comparisons -/
namespace KS
open PySem PySem.Spec PyProof.Rows L2 RZ
open PySem.W (AllAlike Sortable dataLe dataLt)
theorem strs_eqvAll : ∀ l m : List Str, PyData.eqvAll (l.map PyData.str) (m.map PyData.str) = decide (l = m)
  | [], [] => by simp [PyData.eqvAll]
  | [], _ :: _ => by simp [PyData.eqvAll]
  | _ :: _, [] => by simp [PyData.eqvAll]
  | x :: l, y :: m => by
    have h : PyData.eqvAll ((x :: l).map PyData.str) ((y :: m).map PyData.str) = (x == y && PyData.eqvAll (l.map PyData.str) (m.map PyData.str)) := by
      simp only [List.map_cons, PyData.eqvAll, PyData.eqv]
    rw [h, strs_eqvAll l m]
    by_cases e : x = y <;> by_cases e2 : l = m <;> simp [e, e2]
theorem strs_eqL (l m : List Str) : PyData.eqv (.list (l.map PyData.str)) (.list (m.map PyData.str)) = decide (l = m) := by
  have h : PyData.eqv (.list (l.map PyData.str)) (.list (m.map PyData.str)) = PyData.eqvAll (l.map PyData.str) (m.map PyData.str) := by simp only [PyData.eqv]
  rw [h, strs_eqvAll]
theorem strs_eqT (l m : List Str) : PyData.eqv (.tuple (l.map PyData.str)) (.tuple (m.map PyData.str)) = decide (l = m) := by
  have h : PyData.eqv (.tuple (l.map PyData.str)) (.tuple (m.map PyData.str)) = PyData.eqvAll (l.map PyData.str) (m.map PyData.str) := by simp only [PyData.eqv]
  rw [h, strs_eqvAll]
/-- two lists of names, sorted: equal just when one is the other in another order -/
theorem sorted_same {xs ys xs' ys' : List Str} (p1 : xs'.Perm xs) (o1 : sortedS xs' = true) (p2 : ys'.Perm ys) (o2 : sortedS ys' = true) : decide (xs' = ys') = xs.isPerm ys := by
  rw [Bool.eq_iff_iff, decide_eq_true_eq, List.isPerm_iff]
  constructor
  · rintro rfl
    exact p1.symm.trans p2
  · intro h
    exact sortedS_eq ((p1.trans h).trans p2.symm) o1 o2
def PSt (H : Hp) (x : V) (z : Str × Str) : Prop := ∃ p, x = .ref p ∧ H p = some (.tup [.str z.1, .str z.2])
abbrev PrS (H : Hp) : List V → List (Str × Str) → Prop := Paired (PSt H)
theorem PrS.same {H H' : Hp} (s : Same H H') {xs : List V} {zs : List (Str × Str)} (h : PrS H xs zs) : PrS H' xs zs := Paired.mono (fun _ _ ⟨p, e, q⟩ => ⟨p, e, s _ _ q⟩) h
theorem PrS.mono {H H' : Hp} (s : ∀ p u, H p = some (.tup u) → H' p = some (.tup u)) {xs : List V} {zs : List (Str × Str)} (h : PrS H xs zs) : PrS H' xs zs := Paired.mono (fun _ _ ⟨p, e, q⟩ => ⟨p, e, s _ _ q⟩) h
theorem name_at {rs : List Str} {j : Nat} (h : j < rs.length) : (rs.map V.str)[j]? = some (.str (rs.getD j "")) := by
  rw [List.getElem?_map, List.getElem?_eq_getElem h, List.getD_eq_getElem?_getD, List.getElem?_eq_getElem h]
  rfl
theorem atN_len (rs : List Str) (ks : List Nat) : (atN rs ks).length = ks.length := by
  unfold atN
  rw [List.length_map]
theorem cut_dropLast (l : List V) : cutV l none (some (-1)) = l.dropLast := by
  unfold cutV
  have e1 : HT.sIx l.length 0 none = 0 := rfl
  have e2 : HT.sIx l.length l.length (some (-1)) = l.length - 1 := by
    show (if (-1 : Int) < 0 then ((-1 : Int) + (l.length : Int)).toNat else min (-1 : Int).toNat l.length) = _
    rw [if_pos (by decide)]
    omega
  rw [e1, e2, List.drop_zero, List.dropLast_eq_take]
  rfl
theorem cut_tail (l : List V) : cutV l (some 1) none = l.tail := by
  unfold cutV
  have e1 : HT.sIx l.length 0 (some 1) = min 1 l.length := rfl
  have e2 : HT.sIx l.length l.length none = l.length := rfl
  rw [e1, e2]
  cases l with
  | nil => rfl
  | cons x l =>
    have : min 1 (x :: l).length = 1 := by simp
    rw [this]
    show List.take (l.length + 1 - 1) l = l
    rw [Nat.add_sub_cancel, List.take_length]
theorem kt_but {K : PySem.W.Frag} {H G : Hp} {o : Addr} {l : List V} (h : H o = some (.lst l)) (k : ∀ c u, c ≠ o → H c = some u → G c = some u) : KT K H G := fun a xs q => by
  rcases q with (q | ⟨ob, q⟩) | q
  · exact .inl (.inl (k _ _ (ne_of q h (by intro z; cases z)) q))
  · exact .inl (.inr ⟨ob, k _ _ (ne_of q h (by intro z; cases z)) q⟩)
  · exact .inr q
/-- the names at the places of a line -/
theorem lc_at {K : PySem.W.Frag} {t r : Addr} {rs : List Str} {ks : List Nat} {σ : L2.St} {H : Hp} {D : Addr} {j m : Nat} {Qd : Hp → Prop} (nD : H D = none)
    (ht : SqT K H t ((up ks).map V.int)) (hr : SqT K H r (rs.map V.str)) (hb : ∀ k ∈ ks, k < rs.length) (hl : ks.length ≤ 64) (hj : (wipe σ [j]).length > j) (ej : (wipe σ [j])[m]? = some (some (.ref r))) (nmj : j ≠ m)
    (hw : ∀ x, wipe ((wipe σ [j]).set j (some x)) [j] = wipe σ [j]) (q : Qd (upd H D (.lst ((atN rs ks).map V.str)))) :
    ∃ W : Nat → Nat → Hp → Prop, (∃ n, W 0 n (upd H D (.lst []))) ∧ ∀ i n G, W i n G →
      ((Itt K t).stop i G ∧ Qd G) ∨ ((Itt K t).go i G ∧ ∃ Nx : Hp → Prop, (∀ H', Nx H' → ∃ m', m' < n ∧ W (i + 1) m' H') ∧ ∀ x H', (Itt K t).yld i G x H' → gName j x (wipe σ [j]) H' fun σ2 H2 => wipe σ2 [j] = wipe σ [j] ∧ tYes σ2 H2 fun b H3 =>
        if b = true then (tOp (rIxT K) (tVar m) (tVar j)) σ2 H3 fun y H4 => ∃ acc, H4 D = some (.lst acc) ∧ acc.length < sizeLine ∧ Nx (upd H4 D (.lst (acc ++ [y]))) else Nx H3) := by
  refine lc_tup (K := K) (a := t) (xs := (up ks).map V.int) (fun n G => G = upd H D (.lst ((atN rs (ks.take n)).map V.str))) ?_ ?_ ?_ ?_
  · rfl
  · rintro n G _ rfl
    exact same_seqT (same_new nD) ht
  · rintro n x G hn rfl
    unfold up at hn
    rw [List.map_map, List.getElem?_map] at hn
    cases ek : ks[n]? with
    | none =>
      rw [ek] at hn
      cases hn
    | some k =>
      rw [ek] at hn
      cases hn
      have hk := hb k (List.mem_of_getElem? ek)
      refine ⟨hw _, ?_⟩
      refine ⟨.ref r, by rw [List.getElem?_set_ne nmj]; exact ej, .int (k : Int), by rw [List.getElem?_set_self hj]; rfl, r, _, (k : Int), .str (rs.getD k ""), rfl, rfl, same_seqT (same_new nD) hr, atI_nat (name_at hk), _, upd_same, ?_, ?_⟩
      · rw [List.length_map, atN_len, List.length_take]
        exact small64 (by omega)
      · rw [upd_upd, List.take_add_one, ek]
        unfold atN
        rw [List.map_append, List.map_append]
        rfl
  · rintro G rfl
    have e : List.take ((up ks).map V.int).length ks = ks := List.take_of_length_le (by simp [up])
    rw [e]
    exact q
theorem prs_of {H : Hp} : ∀ {as : List Addr} {xs ys : List Str}, as.length = xs.length → xs.length = ys.length →
    (∀ (j : Nat) (p : Addr) (x y : V), as[j]? = some p → (xs.map V.str)[j]? = some x → (ys.map V.str)[j]? = some y → H p = some (.tup [x, y])) → PrS H (as.map V.ref) (xs.zip ys)
  | [], [], [], _, _, _ => .nil
  | [], [], _ :: _, _, h, _ => by cases h
  | [], _ :: _, _, h, _, _ => by cases h
  | _ :: _, [], _, h, _, _ => by cases h
  | _ :: _, _ :: _, [], _, h, _ => by cases h
  | a :: as, x :: xs, y :: ys, h1, h2, h => .cons ⟨a, rfl, h 0 a _ _ rfl rfl rfl⟩ (prs_of (Nat.succ.inj h1) (Nat.succ.inj h2) fun j p u v e1 e2 e3 => h (j + 1) p u v e1 e2 e3)
theorem ln_len {b : Bool} {cs : List Cell} {ks : List Nat} (h : ks ∈ lnsN b cs) : ks.length ≤ cs.length := by
  have h1 := nodup_len_le (asc_nodup ((lns_parts b cs).asc ks h)) (m := List.range cs.length) fun i hi => List.mem_range.mpr ((lns_parts b cs).bd ks h i hi)
  rw [List.length_range] at h1
  exact h1
theorem prsL_len (rs : List Str) : ∀ {ls : List (List Nat)}, (∀ ks ∈ ls, ks.length ≤ 12) → (prsL rs ls).length ≤ 12 * ls.length
  | [], _ => Nat.zero_le _
  | ks :: ls, h => by
    have ih := prsL_len rs (ls := ls) fun k hk => h k (List.mem_cons_of_mem _ hk)
    have h1 := h ks List.mem_cons_self
    have e : prsL rs (ks :: ls) = prsOf (atN rs ks) ++ prsL rs ls := rfl
    have h2 : (prsOf (atN rs ks)).length ≤ ks.length := by
      unfold prsOf
      rw [List.length_zip, List.length_tail, List.length_dropLast, atN_len]
      omega
    rw [e, List.length_append, List.length_cons]
    omega
theorem lnsN_len (b : Bool) (cs : List Cell) : (lnsN b cs).length ≤ 8 := by
  unfold lnsN
  refine Nat.le_trans (List.length_filter_le _ _) ?_
  rw [List.length_map, List.length_range]
  exact Nat.le_refl _
abbrev sSeen : Stmt := topS 25
abbrev nSeen : List Str := ["record", "plan", "before", "kind", "result", "pairs", "line", "names", "index"]
theorem scSeen : FnScope nSeen ["record"] (defScope sSeen) := ⟨rfl, rfl, rfl, by decide +kernel, rfl, by decide +kernel, by decide +kernel⟩
def spSeen (K : PySem.W.Frag) : Sp := fun vs H Q _ => ∃ (v : Addr) (cs : List Cell) (bs rs : List Str) (k : Bool) (p b r : Addr), vs = [.ref v] ∧ Rec K H v cs bs rs k p b r ∧
  (okLn bs rs (lnsN k cs) = false → ∀ H', Same H H' → Q .non H') ∧
  (okLn bs rs (lnsN k cs) = true → ∀ H' D xs, Same H H' → H' D = some (.lst xs) → H D = none → PrS H' xs (prsL rs (lnsN k cs)) → Q (.ref D) H')
section
variable {P : Program} {w : World} {K : PySem.W.Frag} {mg : Str → Option Value} {base : Heap}
theorem ok_seen {f fL : Addr} {fd fdL : FuncData} (F : Fun K "seen_pairs" "seen_pairs" sSeen f fd)
    (GL : FnOk P w K mg base CX0 6 fL fdL ["plan", "kind"] (spLines K)) (bL : Binds K fdL ["plan", "kind"] []) (gL : mg "lines" = some (.ref fL)) (kL : PySem.W.keepIn K (.ref fL) = true)
    (ms : mg "sorted" = none) (mL : mg "list" = none) (mz : mg "zip" = none) :
    FnOk P w K mg base CX0 7 f fd ["record"] (spSeen K) := by
  refine F.ok scSeen (fun vs H Q E h => ?_) (fun cdv A outer s H vs Q E hr h => ?_)
  · obtain ⟨v, cs, bs, rs, k, p, b, r, rfl, _⟩ := h
    rfl
  · obtain ⟨v, cs, bs, rs, k, p, b, r, rfl, R, qn, qs⟩ := h
    have nd := scSeen.nd
    refine ⟨_, pss_cons (ps_asg (pv 0) (pg_tup (by rfl) (pgs_cons (pg_name (i := 1) nd rfl (.inl rfl)) (pgs_cons (pg_name (i := 2) nd rfl (.inr rfl)) (pgs_cons (pg_name (i := 3) nd rfl (.inl rfl)) (pgs_cons (pg_name (i := 4) nd rfl (.inr rfl)) pgs_nil))))))
      (pss_cons (ps_set (i := 5) nd rfl (.inl rfl) (pe_lst pa_nil))
      (pss_cons (ps_for PassesOwn.never rfl (pi_tup (pe_call GL hr (by rfl) gL kL bL .nil pass0 (pa_cons (pv 1) (pa_cons (pv 3) pa_nil)))) (pg_name (i := 6) nd rfl (.inl rfl))
        (pss_cons (ps_setLc (i := 7) (own := [("index", 8)]) (g := gName 8) (tt := tYes) rfl nd rfl rfl (sw_true rfl rfl rfl (by decide +kernel))
            (pi_tup (pv 6)) (blkOk_by (N := nSeen) (sc := defScope sSeen) (by decide +kernel))
            (fun _ _ _ _ _ => pg_name (i := 8) nd rfl (Or.inl rfl)) (fun _ _ _ _ _ => pts_nil) (fun _ _ _ _ _ => pe_ix (r := rIxT K) ix_tup (pv 4) (pv 8) (fun _ _ => rfl)))
        (pss_cons (ps_if (pt_cmpR (op_neD hr.units) (pe_callB (id := "sorted") (r := rSortedS K) cr_sortedS (by rfl) ms (by decide +kernel) (pa_cons (pv 7) pa_nil))
            (pe_callB (id := "sorted") (r := rSortedS K) cr_sortedS (by rfl) ms (by decide +kernel) (pa_cons
              (pe_lc (own := [("index", 8)]) (g := gName 8) (tt := tYes) rfl nd (pi_tup (pv 6)) (blkOk_by (N := nSeen) (sc := defScope sSeen) (by decide +kernel))
                (fun _ _ _ _ _ => pg_name (i := 8) nd rfl (Or.inl rfl)) (fun _ _ _ _ _ => pts_nil) (fun _ _ _ _ _ => pe_ix (r := rIxT K) ix_tup (pv 2) (pv 8) (fun _ _ => rfl))) pa_nil)) (nomark _))
            (pss_one (ps_ret pe_non)) pss_nil)
        (pss_one (ps_aug (i := 5) nd rfl (.inl rfl) (pe_listZipL rfl (by rfl) mL (by rfl) mz
            (pa_cons (pe_slice (r := rSlL K) sl_list (pv 7) po_none (po_some (pe_un un_neg pe_int))) (pa_cons (pe_slice (r := rSlL K) sl_list (pv 7) (po_some pe_int) po_none) pa_nil))) iop_ext)))))
      (pss_one (ps_ret (pv 5))))), ?_⟩
    refine ⟨_, rfl, v, _, rfl, R.val, rfl, _, _, rfl, _, _, rfl, _, _, rfl, _, _, rfl, rfl, ?_⟩
    refine ⟨Nat.zero_le _, fun o no => ?_⟩
    have s1 := same_new (o := .lst []) no
    have ho1 : upd H o (.lst []) o = some (.lst []) := upd_same
    generalize hH1 : upd H o (.lst []) = H1 at s1 ho1
    have two := R.two
    have most := R.most
    have blen := R.bl
    have rl : rs.length = cs.length := by rw [R.pm.length_eq, R.bl]
    refine ⟨_, rfl, _, rfl, p, k, cs, rfl, R.plan.kt (.of_same s1), R.good, by omega, fun H2 pl ys s2 hpl hy => ?_⟩
    have s12 := s1.trans s2
    have ho2 := s2 _ _ ho1
    refine ⟨pl, rfl, ⟨_, hpl⟩, for_tup (K := K) (a := pl) (xs := ys) (fun i σ G => ∃ (y6 y7 : Option V) (xs : List V),
      σ = [some (.ref v), some (.ref p), some (.ref b), some (.str (if k = true then "C" else "R")), some (.ref r), some (.ref o), y6, y7, none] ∧ (∀ c u, c ≠ o → H2 c = some u → G c = some u) ∧ G o = some (.lst xs) ∧
      PrS G xs (prsL rs ((lnsN k cs).take i)) ∧ okLn bs rs ((lnsN k cs).take i) = true) ?_ ?_ ?_ ?_⟩
    · exact ⟨none, none, [], rfl, fun c u _ e => e, ho2, .nil, rfl⟩
    · rintro i σ G _ ⟨_, _, _, _, kG, _⟩
      exact kt_but ho2 kG _ _ hpl
    · rintro i x σ G hi ⟨y6, y7, xs, rfl, kG, hoG, hpr, hok⟩
      have kt := kt_but (K := K) ho2 kG
      obtain ⟨l, hli, t, rfl, ht⟩ := paired_get hy hi
      rw [lns_up, List.getElem?_map] at hli
      cases eks : (lnsN k cs)[i]? with
      | none =>
        rw [eks] at hli
        cases hli
      | some ks =>
        rw [eks] at hli
        cases hli
        have hb := (lns_parts k cs).bd ks (List.mem_of_getElem? eks)
        have hkl : ks.length ≤ 12 := by
          have h1 := nodup_len_le (asc_nodup ((lns_parts k cs).asc ks (List.mem_of_getElem? eks))) (m := List.range cs.length) fun i hi => List.mem_range.mpr (hb i hi)
          rw [List.length_range] at h1
          omega
        refine ⟨_, rfl, t, rfl, ⟨_, kt _ _ ht⟩, fun D nD => ?_⟩
        refine lc_at nD (kt _ _ ht) (kt _ _ (same_seqT s12 R.af)) (by rw [rl]; exact hb) (by omega) (by show 8 < 9; decide) rfl (by decide) (fun _ => rfl) ?_
        refine ⟨_, rfl, D, atN rs ks, rfl, SqL.of upd_same, by rw [atN_len]; omega, fun nS P1 pS oS nP1 => ?_⟩
        have sD := same_new (o := .lst ((atN rs ks).map V.str)) nD
        have sP1 := same_new (o := .lst (nS.map V.str)) nP1
        have hD1 := sP1 _ _ (show upd G D (.lst ((atN rs ks).map V.str)) D = _ from upd_same)
        have hP1 : upd (upd G D (.lst ((atN rs ks).map V.str))) P1 (.lst (nS.map V.str)) P1 = some (.lst (nS.map V.str)) := upd_same
        have sG1 := sD.trans sP1
        generalize upd (upd G D (.lst ((atN rs ks).map V.str))) P1 (.lst (nS.map V.str)) = G1 at hD1 hP1 sG1 sP1
        have kt1 := kt.trans (.of_same sG1)
        refine ⟨_, rfl, t, rfl, ⟨_, kt1 _ _ ht⟩, fun D2 nD2 => ?_⟩
        refine lc_at nD2 (kt1 _ _ ht) (kt1 _ _ (same_seqT s12 R.bf)) (by rw [blen]; exact hb) (by omega) (by show 8 < 9; decide) rfl (by decide) (fun _ => rfl) ?_
        refine ⟨D2, atN bs ks, rfl, SqL.of upd_same, by rw [atN_len]; omega, fun nB P2 pB oB nP2 => ?_⟩
        have sD2 := same_new (o := .lst ((atN bs ks).map V.str)) nD2
        have sP2 := same_new (o := .lst (nB.map V.str)) nP2
        have hP2 : upd (upd G1 D2 (.lst ((atN bs ks).map V.str))) P2 (.lst (nB.map V.str)) P2 = some (.lst (nB.map V.str)) := upd_same
        have s2G := sD2.trans sP2
        generalize upd (upd G1 D2 (.lst ((atN bs ks).map V.str))) P2 (.lst (nB.map V.str)) = G2 at hP2 s2G sP2
        have nm1 : ∀ s ∈ nS, IsNm s := fun s hs => by
          have h1 := pS.mem_iff.mp hs
          unfold atN at h1
          obtain ⟨i', hi', rfl⟩ := List.mem_map.mp h1
          have hlt : i' < rs.length := by rw [rl]; exact hb i' hi'
          rw [List.getD_eq_getElem?_getD, List.getElem?_eq_getElem hlt]
          exact R.nm _ (R.pm.mem_iff.mp (List.getElem_mem hlt))
        have nm2 : ∀ s ∈ nB, IsNm s := fun s hs => by
          have h1 := pB.mem_iff.mp hs
          unfold atN at h1
          obtain ⟨i', hi', rfl⟩ := List.mem_map.mp h1
          have hlt : i' < bs.length := by rw [blen]; exact hb i' hi'
          rw [List.getD_eq_getElem?_getD, List.getElem?_eq_getElem hlt]
          exact R.nm _ (List.getElem_mem hlt)
        refine ⟨.list (nS.map PyData.str), .list (nB.map PyData.str), .lst (SqL.of (s2G _ _ hP1)) (nm_dp _), .lst (SqL.of hP2) (nm_dp _), nm_shaped nm1, nm_shaped nm2, _, rfl, ?_⟩
        rw [strs_eqL, sorted_same pS oS pB oB]
        have sG2 := sG1.trans s2G
        have smH : Same H G2 := fun c u e => sG2 _ _ (kG c u (ne_of_none e no) (s12 c u e))
        cases ep : (atN rs ks).isPerm (atN bs ks) with
        | false =>
          refine qn ?_ G2 smH
          unfold okLn
          rw [List.all_eq_false]
          exact ⟨ks, List.mem_of_getElem? eks, by rw [ep]; decide⟩
        | true =>
          have hD2 := s2G _ _ hD1
          refine ⟨.ref o, rfl, ?_⟩
          refine ⟨_, rfl, ?_⟩
          dsimp only [tNoPart, tPart, tUn, rU, tC]
          refine ⟨1, rfl, -1, rfl, D, _, rfl, SqL.of hD2, fun A1 nA1 => ?_⟩
          rw [cut_dropLast, ← List.map_dropLast]
          have sA1 := same_new (o := .lst ((atN rs ks).dropLast.map V.str)) nA1
          refine ⟨_, rfl, 1, rfl, D, _, rfl, SqL.of (sA1 _ _ hD2), fun A2 nA2 => ?_⟩
          rw [cut_tail, ← List.map_tail]
          have sA2 := same_new (o := .lst ((atN rs ks).tail.map V.str)) nA2
          have hlen : (atN rs ks).dropLast.length = (atN rs ks).tail.length := by rw [List.length_dropLast, List.length_tail]
          refine ⟨A1, A2, _, _, rfl, SqL.of (sA2 _ _ upd_same), SqL.of upd_same, by rw [List.length_map, List.length_map, hlen], fun G3 as Z s3 al af and' ap hZ nZ => ?_⟩
          have sG3 := ((sG2.trans sA1).trans sA2).trans s3
          rw [List.length_map] at al
          have pr3 := prs_of al hlen ap
          have ho3 := sG3 _ _ hoG
          refine ⟨o, Z, xs, _, rfl, rfl, ho3, hZ, ?_, ?_⟩
          · have h1 := Paired.length hpr
            have h2 := prsL_len rs (ls := (lnsN k cs).take i) fun ks hk => Nat.le_trans (ln_len (List.mem_of_mem_take hk)) most
            have h3 := lnsN_len k cs
            have h4 : ((lnsN k cs).take i).length ≤ 8 := by rw [List.length_take]; omega
            rw [List.length_map, al, List.length_dropLast, atN_len, sizeLine_eq, h1]
            omega
          refine ⟨_, _, xs ++ as.map V.ref, rfl, fun c u nc e => ?_, upd_same, ?_, ?_⟩
          · rw [upd_ne nc]
            exact sG3 _ _ (kG c u nc e)
          · have mono : ∀ p u, G3 p = some (.tup u) → upd G3 o (.lst (xs ++ as.map V.ref)) p = some (.tup u) := fun p u e => by
              rw [upd_ne fun z => by rw [z, ho3] at e; cases e]
              exact e
            unfold prsL
            rw [List.take_add_one, eks, List.flatMap_append]
            refine paired_append (PrS.mono mono (hpr.same sG3)) ?_
            refine PrS.mono mono ?_
            show PrS G3 (as.map V.ref) (prsOf (atN rs ks) ++ [])
            rw [List.append_nil]
            exact pr3
          · unfold okLn at hok ⊢
            rw [List.take_add_one, eks, List.all_append, hok]
            show (true && ((atN rs ks).isPerm (atN bs ks) && true)) = true
            rw [ep]
            rfl
    · rintro σ G ⟨y6, y7, xs, rfl, kG, hoG, hpr, hok⟩
      refine ⟨_, rfl, ?_⟩
      have e1 : ys.length = (lnsN k cs).length := by
        rw [Paired.length hy, lns_up, List.length_map]
      rw [e1, List.take_length] at hpr hok
      exact qs hok G o xs (fun c u e => kG c u (ne_of_none e no) (s12 c u e)) hoG no hpr
end
end KS
/-! what repr asks of its data -/
namespace KS
open PySem PySem.Spec PyProof.Rows L2
/-- what repr asks of its data -/
structure Rp (d : PyData) : Prop where
  s : d.showable = true
  n : d.hasDict = false
  l : d.shown.length ≤ sizeLine
  d : d.depth ≤ 64
theorem Shows.mono {d : PyData} {n m : Nat} (h : Shows d n) (k : n ≤ m) : Shows d m := ⟨h.short, h.show_, h.nod, Nat.le_trans h.wt k⟩
def rReprK (K : PySem.W.Frag) : List V → Hp → VK → Prop := fun xs H Q => ∃ (a : Addr) (d : PyData), xs = [.ref a] ∧ Dp K H (.ref a) d ∧ Rp d ∧ Q (.str d.shown) H
theorem call_reprK {X : Cx} {K : PySem.W.Frag} (hK : X.K = K) (hgd : X.A.guards = some []) (hu : X.A.units + 100 < cLine) : CallR X (.builtin "repr") (rReprK K) := by
  subst hK
  intro pins s σ H xs us Q I r h
  obtain ⟨a, d, e, hd, rp, q⟩ := h
  exact call_reprD hgd hu pins s σ H xs us Q I r ⟨a, d, e, hd, rp.s, rp.n, rp.l, rp.d, q⟩
end KS
/-! comparisons -/
namespace KS
open PySem PySem.Spec PyProof.Rows L2 RZ
open PySem.W (AllAlike Sortable dataLe dataLt)
theorem Rec.same {K : PySem.W.Frag} {H H' : Hp} (s : Same H H') {v : Addr} {cs : List Cell} {bs rs : List Str} {k : Bool} {p b r : Addr} (R : Rec K H v cs bs rs k p b r) : Rec K H' v cs bs rs k p b r :=
  ⟨same_seqT s R.val, R.plan.kt (.of_same s), R.good, R.two, R.most, same_seqT s R.bf, same_seqT s R.af, R.bl, R.nm, R.nd, R.pm⟩
def prP (z : Str × Str) : PyData := .tuple [.str z.1, .str z.2]
/-- pairs of names, sorted -/
def srtP (zs : List (Str × Str)) : List (Str × Str) := zs.mergeSort (dataLe false prP)
theorem PSt.dp {K : PySem.W.Frag} {H : Hp} {x : V} {z : Str × Str} (h : PSt H x z) : Dp K H x (prP z) := by
  obtain ⟨p, rfl, h⟩ := h
  exact .tup (SqT.of h) (.cons (.str _) (.cons (.str _) .nil))
theorem prP_depth (z : Str × Str) : (prP z).depth ≤ 30 := by
  unfold prP
  simp only [PyData.depth, PyData.depthAll]
  decide
theorem prP_sortable (bs : List (V × (Str × Str))) : AllAlike (bs.map fun b => prP b.2) ∧ Sortable (bs.map fun b => prP b.2) := by
  refine ⟨AllAlike.of fun a b => ?_, Sortable.tuples fun b => ⟨_, _, rfl⟩⟩
  unfold prP
  simp [PySem.W.alike, PySem.W.alikeAll]
theorem prs_mem {H : Hp} {xs : List V} {zs : List (Str × Str)} (h : PrS H xs zs) : ∀ b ∈ xs.zip zs, PSt H b.1 b.2 := by
  induction h with
  | nil => intro b hb; cases hb
  | cons h1 _ ih =>
    intro b hb
    rcases List.mem_cons.mp hb with e | hb
    · rw [e]
      exact h1
    · exact ih b hb
theorem prs_split {H : Hp} : ∀ {bs : List (V × (Str × Str))}, (∀ b ∈ bs, PSt H b.1 b.2) → PrS H (bs.map (·.1)) (bs.map (·.2))
  | [], _ => .nil
  | b :: bs, h => .cons (h b List.mem_cons_self) (prs_split fun c hc => h c (List.mem_cons_of_mem _ hc))
theorem srtd_prs {K : PySem.W.Frag} {H : Hp} {a : Addr} {xs : List V} {zs : List (Str × Str)} {Q : VK} (ha : H a = some (.lst xs)) (h : PrS H xs zs)
    (k : ∀ p ys, H p = none → PrS H ys (srtP zs) → Q (.ref p) (upd H p (.lst ys))) : rSortedD K [V.ref a] H Q := by
  have len := Paired.length h
  have e1 : (xs.zip zs).map (·.1) = xs := by
    rw [← List.unzip_fst, List.unzip_zip len]
  have e2 : (xs.zip zs).map (·.2) = zs := by
    rw [← List.unzip_snd, List.unzip_zip len]
  have mem := prs_mem h
  obtain ⟨al, so⟩ := prP_sortable (xs.zip zs)
  refine ⟨a, V × (Str × Str), xs.zip zs, (·.1), (fun b => prP b.2), rfl, by rw [e1]; exact SqL.of ha, fun b hb => ⟨?_, (mem b hb).dp, prP_depth _⟩, al, so, fun p np => ?_⟩
  · obtain ⟨t, e, _⟩ := mem b hb
    exact ⟨t, e⟩
  refine k p _ np ?_
  have e3 : ((xs.zip zs).mergeSort (dataLe false fun b => prP b.2)).map (·.2) = srtP zs := by
    rw [List.map_mergeSort (s := dataLe false prP) (f := fun x : V × (Str × Str) => x.2) (fun a _ b _ => by rw [PySem.W.dataLe_eq, PySem.W.dataLe_eq]), e2]
    rfl
  rw [← e3]
  exact prs_split fun b hb => mem b ((List.mergeSort_perm _ _).mem_iff.mp hb)
def SeenAt (H : Hp) (y : V) (o : Option (List (Str × Str))) : Prop := (o = none ∧ y = .non) ∨ ∃ zs t xs, o = some zs ∧ y = .ref t ∧ H t = some (.tup xs) ∧ PrS H xs (srtP zs)
theorem SeenAt.same {H H' : Hp} (s : Same H H') {y : V} {o : Option (List (Str × Str))} (h : SeenAt H y o) : SeenAt H' y o := by
  rcases h with h | ⟨zs, t, xs, e, ey, ht, hp⟩
  · exact .inl h
  · exact .inr ⟨zs, t, xs, e, ey, s _ _ ht, hp.same s⟩
abbrev sCompar : Stmt := topS 27
abbrev nCompar : List Str := ["record", "pairs"]
theorem scCompar : FnScope nCompar ["record"] (defScope sCompar) := ⟨rfl, rfl, rfl, by decide +kernel, rfl, by decide +kernel, by decide +kernel⟩
def spCompar (K : PySem.W.Frag) : Sp := fun vs H Q _ => ∃ (v : Addr) (cs : List Cell) (bs rs : List Str) (k : Bool) (p b r : Addr), vs = [.ref v] ∧ Rec K H v cs bs rs k p b r ∧
  ∀ H' y, Same H H' → SeenAt H' y (seenP k cs bs rs) → Q y H'
section
variable {P : Program} {w : World} {K : PySem.W.Frag} {mg : Str → Option Value} {base : Heap}
theorem ok_compar {f fR fS : Addr} {fd fdR fdS : FuncData} (F : Fun K "comparisons" "comparisons" sCompar f fd)
    (GR : FnOk P w K mg base CX0 7 fR fdR ["value"] (spIsRec K)) (bR : Binds K fdR ["value"] []) (gR : mg "is_record" = some (.ref fR)) (kR : PySem.W.keepIn K (.ref fR) = true)
    (GS : FnOk P w K mg base CX0 7 fS fdS ["record"] (spSeen K)) (bS : Binds K fdS ["record"] []) (gS' : mg "seen_pairs" = some (.ref fS)) (kS : PySem.W.keepIn K (.ref fS) = true)
    (ms : mg "sorted" = none) (mt : mg "tuple" = none) :
    FnOk P w K mg base CX0 8 f fd ["record"] (spCompar K) := by
  refine F.ok scCompar (fun vs H Q E h => ?_) (fun cdv A outer s H vs Q E hr h => ?_)
  · obtain ⟨v, cs, bs, rs, k, p, b, r, rfl, _⟩ := h
    rfl
  · obtain ⟨v, cs, bs, rs, k, p, b, r, rfl, R, q⟩ := h
    have nd := scCompar.nd
    have hu : (A.deeper (envOfC "comparisons" (defScope sCompar) s.heap.objs.size f cdv)).units + 65 < cLine := by
      have := hr.un
      omega
    refine ⟨_, pss_cons (ps_if (pt_not (pt_val (pe_call GR hr (by rfl) gR kR bR .nil pass0 (pa_cons (pv 0) pa_nil)))) (pss_one ps_never) pss_nil)
      (pss_cons (ps_set (i := 1) nd rfl (.inl rfl) (pe_call GS hr (by rfl) gS' kS bS .nil pass0 (pa_cons (pv 0) pa_nil)))
      (pss_one (ps_ret (pe_ifExp (pt_cmpR op_isN (pv 1) pe_non (nomark _)) pe_non (pe_callTy call_tuple_of (by rfl) mt (by decide +kernel) (pa_cons
        (pe_callB (id := "sorted") (r := rSortedD K) (cr_sortedD hu) (by rfl) ms (by decide +kernel) (pa_cons (pv 1) pa_nil)) pa_nil)))))), ?_⟩
    refine ⟨_, rfl, v, cs, bs, rs, k, p, b, r, rfl, R, fun H1 s1 => ⟨true, rfl, ?_⟩⟩
    refine ⟨_, rfl, v, cs, bs, rs, k, p, b, r, rfl, R.same s1, fun e H2 s2 => ?_, fun e H2 D xs s2 hD nD pr => ?_⟩
    · refine ⟨_, rfl, rfl, true, rfl, ?_⟩
      refine q H2 _ (s1.trans s2) (.inl ⟨?_, rfl⟩)
      unfold seenP
      rw [e]
      rfl
    · refine ⟨_, rfl, rfl, false, rfl, ?_⟩
      refine ⟨_, rfl, ?_⟩
      dsimp only [tNil]
      refine srtd_prs hD pr fun P1 ys nP hy => ?_
      have sP := same_new (o := .lst ys) nP
      refine ⟨P1, ys, rfl, .inl ⟨SqL.of upd_same, fun t nt => ?_⟩⟩
      have st := same_new (o := .tup ys) nt
      refine q _ _ (((s1.trans s2).trans sP).trans st) (.inr ⟨_, t, ys, ?_, rfl, upd_same, hy.same (sP.trans st)⟩)
      unfold seenP
      rw [e]
      rfl
end
end KS
/-! records and what they show, as data -/
namespace KS
open PySem PySem.Spec PyProof.Rows L2 RZ
theorem shows_list58 {n m : Nat} {ds : List PyData} (h : ShowsAll ds n) (hm : (n + 1) * ds.length ≤ m) : Shows (.list ds) m := by
  refine ⟨?_, ?_, ?_, ?_⟩
  · simp only [PyData.leavesShort, h.short]
  · simp only [PyData.showable, h.show_]
  · simp only [PyData.hasDict, h.nod]
  · simp only [PyData.weight]
    have := h.wt
    omega
theorem shows_nm {s : Str} (h : IsNm s) : Shows (.str s) 14 := by
  refine ⟨?_, by simp only [PyData.showable], by simp only [PyData.hasDict], ?_⟩
  · simp only [PyData.leavesShort]
    rw [List.all_eq_true]
    exact fun c hc => decide_eq_true (by
      have := h.2.2 c hc
      have : (16 : Nat) ^ 8 = 4294967296 := by decide
      omega)
  · simp only [PyData.weight]
    have := h.2.1
    show s.length ≤ 14
    omega
def NmP (z : Str × Str) : Prop := IsNm z.1 ∧ IsNm z.2
theorem shows_prP {z : Str × Str} (h : NmP z) : Shows (prP z) 30 := shows_tuple (n := 14) (showsAll_of fun d hd => by
  rcases List.mem_cons.mp hd with rfl | hd
  · exact shows_nm h.1
  · rw [List.mem_singleton.mp hd]
    exact shows_nm h.2) (by show (14 + 1) * 2 ≤ 30; decide)
def seenDt : Option (List (Str × Str)) → PyData
  | none => .none
  | some zs => .tuple ((srtP zs).map prP)
def SmallO (o : Option (List (Str × Str))) : Prop := ∀ zs, o = some zs → zs.length ≤ 96 ∧ ∀ z ∈ zs, NmP z
theorem srtP_perm (zs : List (Str × Str)) : (srtP zs).Perm zs := List.mergeSort_perm _ _
theorem shows_seen {o : Option (List (Str × Str))} (h : SmallO o) : Shows (seenDt o) 2976 := by
  cases o with
  | none => exact ⟨by simp only [seenDt, PyData.leavesShort], by simp only [seenDt, PyData.showable], by simp only [seenDt, PyData.hasDict], by simp only [seenDt, PyData.weight]; omega⟩
  | some zs =>
    obtain ⟨h1, h2⟩ := h zs rfl
    refine shows_tuple (n := 30) (showsAll_of fun d hd => ?_) ?_
    · obtain ⟨z, hz, rfl⟩ := List.mem_map.mp hd
      exact shows_prP (h2 z ((srtP_perm zs).mem_iff.mp hz))
    · rw [List.length_map, (srtP_perm zs).length_eq]
      omega
theorem depth_prs : ∀ zs : List (Str × Str), PyData.depthAll (zs.map prP) ≤ 1
  | [] => by simp [PyData.depthAll]
  | z :: zs => by
    have a := depth_prs zs
    simp only [List.map_cons, PyData.depthAll, prP, PyData.depth]
    omega
theorem depth_seen (o : Option (List (Str × Str))) : (seenDt o).depth ≤ 2 := by
  cases o with
  | none => simp only [seenDt, PyData.depth]; omega
  | some zs =>
    have := depth_prs (srtP zs)
    simp only [seenDt, PyData.depth]
    omega
theorem depth_all {ds : List PyData} {n : Nat} (h : ∀ d ∈ ds, d.depth ≤ n) : PyData.depthAll ds ≤ n := by
  induction ds with
  | nil => simp [PyData.depthAll]
  | cons d ds ih =>
    have a := h d List.mem_cons_self
    have b := ih fun e he => h e (List.mem_cons_of_mem _ he)
    simp only [PyData.depthAll]
    omega
theorem rp_list {ds : List PyData} (h : ∀ d ∈ ds, Shows d 2976 ∧ d.depth ≤ 2) (hl : ds.length ≤ 8) : Rp (.list ds) := by
  have s := shows_list58 (m := 23816) (showsAll_of (n := 2976) (ds := ds) fun d hd => (h d hd).1) (by omega)
  refine ⟨s.show_, s.nod, s.len (by decide), ?_⟩
  have := depth_all (n := 2) fun d hd => (h d hd).2
  simp only [PyData.depth]
  omega
theorem prs_dp {K : PySem.W.Frag} {H : Hp} {xs : List V} {zs : List (Str × Str)} (h : PrS H xs zs) : DpAll K H xs (zs.map prP) := by
  induction h with
  | nil => exact .nil
  | cons h _ ih => exact .cons h.dp ih
theorem SeenAt.dp {K : PySem.W.Frag} {H : Hp} {y : V} {o : Option (List (Str × Str))} (h : SeenAt H y o) : Dp K H y (seenDt o) := by
  rcases h with ⟨rfl, rfl⟩ | ⟨zs, t, xs, rfl, rfl, ht, hp⟩
  · exact .non
  · exact .tup (SqT.of ht) (prs_dp hp)
theorem seen_small {cs : List Cell} {bs rs : List Str} {k : Bool} (hl : cs.length ≤ 12) (rl : rs.length = cs.length) (nm : ∀ s ∈ rs, IsNm s) : SmallO (seenP k cs bs rs) := by
  intro zs e
  unfold seenP at e
  split at e
  · cases e
    refine ⟨?_, fun z hz => ?_⟩
    · have h2 := prsL_len rs (ls := lnsN k cs) fun ks hk => Nat.le_trans (ln_len hk) hl
      have h3 := lnsN_len k cs
      omega
    · unfold prsL at hz
      obtain ⟨ks, hk, hz⟩ := List.mem_flatMap.mp hz
      have hb := (lns_parts k cs).bd ks hk
      have nmAt : ∀ s ∈ atN rs ks, IsNm s := fun s hs => by
        unfold atN at hs
        obtain ⟨i', hi', rfl⟩ := List.mem_map.mp hs
        have hlt : i' < rs.length := by rw [rl]; exact hb i' hi'
        rw [List.getD_eq_getElem?_getD, List.getElem?_eq_getElem hlt]
        exact nm _ (List.getElem_mem hlt)
      unfold prsOf at hz
      obtain ⟨h1, h2⟩ := List.of_mem_zip (a := z.1) (b := z.2) hz
      exact ⟨nmAt _ (List.dropLast_subset _ h1), nmAt _ (List.mem_of_mem_tail h2)⟩
  · cases e
def kndS (k : Bool) : Str := if k = true then "C" else "R"
def recD (cs : List Cell) (bs : List Str) (k : Bool) (rs : List Str) : PyData := .tuple [planD cs, .tuple (bs.map PyData.str), .str (kndS k), .tuple (rs.map PyData.str)]
theorem Rec.dp {K : PySem.W.Frag} {H : Hp} {v : Addr} {cs : List Cell} {bs rs : List Str} {k : Bool} {p b r : Addr} (R : Rec K H v cs bs rs k p b r) : Dp K H (.ref v) (recD cs bs k rs) :=
  .tup R.val (.cons R.plan.dp (.cons (.tup R.bf (nm_dp _)) (.cons (.str _) (.cons (.tup R.af (nm_dp _)) .nil))))
theorem shows_nms {l : List Str} (h : ∀ s ∈ l, IsNm s) (hl : l.length ≤ 12) : Shows (.tuple (l.map PyData.str)) 180 := shows_tuple (n := 14) (showsAll_of fun d hd => by
  obtain ⟨s, hs, rfl⟩ := List.mem_map.mp hd
  exact shows_nm (h s hs)) (by rw [List.length_map]; omega)
theorem depth_nms (l : List Str) : (PyData.tuple (l.map PyData.str)).depth ≤ 1 := by
  have := depth_all (ds := l.map PyData.str) (n := 0) fun d hd => by
    obtain ⟨s, hs, rfl⟩ := List.mem_map.mp hd
    simp only [PyData.depth]
    omega
  simp only [PyData.depth]
  omega
theorem rp_rec {K : PySem.W.Frag} {H : Hp} {v : Addr} {cs : List Cell} {bs rs : List Str} {k : Bool} {p b r : Addr} (R : Rec K H v cs bs rs k p b r) : Rp (recD cs bs k rs) := by
  have most := R.most
  have rl : rs.length = cs.length := by rw [R.pm.length_eq, R.bl]
  obtain ⟨c1, c2⟩ := shows_plan (fun c hc => R.good.grid c hc) (show cs.length ≤ 64 by omega)
  have h1 := shows_nms (l := bs) R.nm (by rw [R.bl]; exact most)
  have h2 := shows_nms (l := rs) (fun s hs => R.nm s (R.pm.mem_iff.mp hs)) (by rw [rl]; exact most)
  have h3 : Shows (.str (kndS k)) 14 := by
    refine ⟨?_, by simp only [PyData.showable], by simp only [PyData.hasDict], ?_⟩
    · cases k <;> decide +kernel
    · cases k <;> decide +kernel
  have s : Shows (recD cs bs k rs) 7940 := shows_tuple (n := 1984) (showsAll_of fun d hd => by
    rcases List.mem_cons.mp hd with rfl | hd
    · exact c1
    rcases List.mem_cons.mp hd with rfl | hd
    · exact ⟨h1.short, h1.show_, h1.nod, Nat.le_trans h1.wt (by decide)⟩
    rcases List.mem_cons.mp hd with rfl | hd
    · exact ⟨h3.short, h3.show_, h3.nod, Nat.le_trans h3.wt (by decide)⟩
    rw [List.mem_singleton.mp hd]
    exact ⟨h2.short, h2.show_, h2.nod, Nat.le_trans h2.wt (by decide)⟩) (by show (1984 + 1) * 4 ≤ 7940; decide)
  refine ⟨s.show_, s.nod, s.len (by decide), ?_⟩
  have a := (cells_lay cs).2
  have := depth_all (ds := [planD cs, .tuple (bs.map PyData.str), .str (kndS k), .tuple (rs.map PyData.str)]) (n := 2) fun d hd => by
    rcases List.mem_cons.mp hd with rfl | hd
    · show (PyData.tuple (cs.map cellD)).depth ≤ 2
      simp only [PyData.depth]
      omega
    rcases List.mem_cons.mp hd with rfl | hd
    · exact Nat.le_trans (depth_nms bs) (by decide)
    rcases List.mem_cons.mp hd with rfl | hd
    · simp only [PyData.depth]
      omega
    rw [List.mem_singleton.mp hd]
    exact Nat.le_trans (depth_nms rs) (by decide)
  unfold recD
  simp only [PyData.depth]
  omega
def spTold58 (K : PySem.W.Frag) : Sp := fun vs H Q _ => ∃ (v : Addr) (y : V) (cs : List Cell) (bs rs : List Str) (k : Bool) (p b r : Addr), vs = [.ref v, y] ∧ Rec K H v cs bs rs k p b r ∧ SeenAt H y (seenP k cs bs rs) ∧
  ∀ H', Same H H' → Q (.bl true) H'
abbrev sTold58 : Stmt := topS 41
abbrev nTold58 : List Str := ["_law_seen", "_law_due", "_law_shown_here"]
theorem scTold58 : FnScope nTold58 ["_law_seen", "_law_due"] (defScope sTold58) := ⟨rfl, rfl, rfl, by decide +kernel, rfl, by decide +kernel, by decide +kernel⟩
section
variable {P : Program} {w : World} {K : PySem.W.Frag} {mg : Str → Option Value} {base : Heap}
theorem ok_told58 {f fC : Addr} {fd fdC : FuncData} (F : Fun K "_law_told_right" "_law_told_right" sTold58 f fd)
    (GC : FnOk P w K mg base CX0 8 fC fdC ["record"] (spCompar K)) (bC : Binds K fdC ["record"] []) {gV : List V → List V} {gF : List Value → List Value} (wC : KwBinds fdC ["record"] ["record"] gF gV) (gC : mg "comparisons" = some (.ref fC)) (kC : PySem.W.keepIn K (.ref fC) = true)
    (hgV : ∀ x : V, gV [x] = [x]) (mR : mg "repr" = none) :
    FnG P w K mg base 9 f fd ["_law_seen", "_law_due"] (spTold58 K) := by
  refine okG F scTold58 (fun vs H Q E h => ?_) (fun cdv A outer s H vs Q E hr hgd h => ?_)
  · obtain ⟨v, y, cs, bs, rs, k, p, b, r, rfl, _⟩ := h
    rfl
  · obtain ⟨v, y, cs, bs, rs, k, p, b, r, rfl, R, hy, q⟩ := h
    have nd := scTold58.nd
    have hu : (A.deeper (envOfC "_law_told_right" (defScope sTold58) s.heap.objs.size f cdv)).units + 100 < cLine := by
      have := hr.un
      omega
    refine ⟨_, pss_cons (ps_set (i := 2) nd rfl (.inl rfl) (pe_callB (id := "repr") (r := rReprK K) (call_reprK rfl hgd hu) (by rfl) mR (by decide +kernel) (pa_cons (pv 0) pa_nil)))
      (pss_cons (ps_if (pt_cmpR op_ne (pe_callB (id := "repr") (r := rReprK K) (call_reprK rfl hgd hu) (by rfl) mR (by decide +kernel) (pa_cons (pe_lst (pa_cons (pe_call GC hr (by rfl) gC kC bC .nil pass0 (pa_cons (pv 0) pa_nil))
            (pa_cons (pe_callKw GC hr (by rfl) gC kC wC pass0 (pk_cons (pv 0) pk_nil)) (pa_cons (pe_call GC hr (by rfl) gC kC bC .nil pass0 (pa_cons (pv 0) pa_nil)) pa_nil)))) pa_nil))
          (pe_callB (id := "repr") (r := rReprK K) (call_reprK rfl hgd hu) (by rfl) mR (by decide +kernel) (pa_cons (pe_op op_rep (pe_lst (pa_cons (pv 1) pa_nil)) pe_int) pa_nil)) (nomark _)) (pss_one ps_never) pss_nil)
      (pss_one (ps_ret (pe_cmpR op_eq (pe_callB (id := "repr") (r := rReprK K) (call_reprK rfl hgd hu) (by rfl) mR (by decide +kernel) (pa_cons (pv 0) pa_nil)) (pv 2) (nomark _))))), ?_⟩
    have sm := seen_small (k := k) (bs := bs) R.most (show rs.length = cs.length by rw [R.pm.length_eq, R.bl]) fun s hs => R.nm s (R.pm.mem_iff.mp hs)
    have rp3 : Rp (.list [seenDt (seenP k cs bs rs), seenDt (seenP k cs bs rs), seenDt (seenP k cs bs rs)]) := rp_list (fun d hd => by
      have : d = seenDt (seenP k cs bs rs) := by simpa using hd
      rw [this]
      exact ⟨shows_seen sm, depth_seen _⟩) (by show 3 ≤ 8; decide)
    refine ⟨_, rfl, v, _, rfl, R.dp, rp_rec R, ?_⟩
    refine ⟨_, rfl, v, cs, bs, rs, k, p, b, r, rfl, R, fun H1 y1 s1 h1 => ?_⟩
    refine ⟨_, rfl, v, cs, bs, rs, k, p, b, r, hgV _, R.same s1, fun H2 y2 s2 h2 => ?_⟩
    refine ⟨_, rfl, v, cs, bs, rs, k, p, b, r, rfl, R.same (s1.trans s2), fun H3 y3 s3 h3 => ?_⟩
    refine ⟨by show 3 ≤ sizeLine; decide, fun L nL => ?_⟩
    have sL := same_new (o := .lst [y1, y2, y3]) nL
    refine ⟨L, _, rfl, .lst (SqL.of upd_same) (.cons (((h1.same s2).same s3).same sL).dp (.cons ((h2.same s3).same sL).dp (.cons (h3.same sL).dp .nil))), rp3, ?_⟩
    have s4 := ((s1.trans s2).trans s3).trans sL
    generalize upd H3 L (.lst [y1, y2, y3]) = H4 at s4
    refine ⟨_, rfl, by show 1 ≤ sizeLine; decide, fun L2 nL2 => ?_⟩
    have sL2 := same_new (o := .lst [y]) nL2
    refine ⟨L2, 3, [y], rfl, rfl, upd_same, by decide, by decide, by show 1 * 3 ≤ sizeLine; decide, fun L3 nL3 => ?_⟩
    have sL3 := same_new (o := .lst (List.replicate (3 : Int).toNat [y]).flatten) nL3
    have s5 := (s4.trans sL2).trans sL3
    have hy5 := (hy.same s5).dp (K := K)
    have hL3 : upd (upd H4 L2 (.lst [y])) L3 (.lst (List.replicate (3 : Int).toNat [y]).flatten) L3 = some (.lst [y, y, y]) := upd_same
    generalize upd (upd H4 L2 (.lst [y])) L3 (.lst (List.replicate (3 : Int).toNat [y]).flatten) = H5 at s5 hy5 hL3
    refine ⟨L3, _, rfl, .lst (SqL.of hL3) (.cons hy5 (.cons hy5 (.cons hy5 .nil))), rp3, ?_⟩
    refine ⟨rfl, false, ?_, ?_⟩
    · rw [decide_eq_true rfl]
      rfl
    have R5 := R.same s5
    refine ⟨_, rfl, v, _, rfl, R5.dp, rp_rec R, _, rfl, rfl, ?_⟩
    rw [decide_eq_true rfl]
    exact q _ s5
end
end KS
namespace KS
open PySem PySem.Spec PyProof.Rows L2
/-! ### a filling whose marked cells get the great values -/
def isM (ms : List Bool) (i : Nat) : Bool := ms.getD i false
def smallM (ms : List Bool) : List Nat := (List.range ms.length).filter fun i => !isM ms i
def greatM (ms : List Bool) : List Nat := (List.range ms.length).filter fun i => isM ms i
def orderM (ms : List Bool) : List Nat := smallM ms ++ greatM ms
/-- the place of i in the order -/
def posM (ms : List Bool) (i : Nat) : Nat :=
  if isM ms i = true then (smallM ms).length + ((List.range i).filter fun j => isM ms j).length else ((List.range i).filter fun j => !isM ms j).length
def filM (ms : List Bool) : List Int := (List.range ms.length).map fun i => ((posM ms i : Nat) : Int) + 1
theorem range_split {n i : Nat} (h : i < n) : ∃ l, List.range n = List.range i ++ i :: l := by
  refine ⟨(List.range n).drop (i + 1), ?_⟩
  have e1 := (List.take_append_drop i (List.range n)).symm
  rw [List.take_range, Nat.min_eq_left (Nat.le_of_lt h)] at e1
  rw [List.drop_eq_getElem_cons (by rw [List.length_range]; exact h), List.getElem_range] at e1
  exact e1
theorem filter_at {n i : Nat} {p : Nat → Bool} (h : i < n) (hp : p i = true) : ((List.range n).filter p)[((List.range i).filter p).length]? = some i := by
  obtain ⟨l, e⟩ := range_split h
  rw [e, List.filter_append, List.filter_cons, if_pos hp, List.getElem?_append_right (Nat.le_refl _), Nat.sub_self]
  rfl
theorem order_at {ms : List Bool} {i : Nat} (h : i < ms.length) : (orderM ms)[posM ms i]? = some i := by
  unfold orderM posM
  by_cases c : isM ms i = true
  · rw [if_pos c, List.getElem?_append_right (Nat.le_add_right _ _), Nat.add_sub_cancel_left]
    exact filter_at h c
  · rw [if_neg c]
    have z := filter_at (p := fun j => !isM ms j) h (by simpa using c)
    rw [List.getElem?_append_left]
    · exact z
    · exact (List.getElem?_eq_some_iff.mp z).1
theorem order_nodup (ms : List Bool) : (orderM ms).Nodup := by
  unfold orderM smallM greatM
  rw [List.nodup_append]
  refine ⟨List.nodup_range.filter _, List.nodup_range.filter _, fun a ha b hb e => ?_⟩
  subst e
  have h1 := (List.mem_filter.mp ha).2
  have h2 := (List.mem_filter.mp hb).2
  rw [h2] at h1
  exact absurd h1 (by decide)
theorem order_first {ms : List Bool} {i m k : Nat} (h : i < ms.length) (hm : m < posM ms i) (e : (orderM ms)[m]? = some k) : k ≠ i := by
  intro z
  subst z
  have h1 := order_at h
  obtain ⟨l1, e1⟩ := List.getElem?_eq_some_iff.mp e
  obtain ⟨l2, e2⟩ := List.getElem?_eq_some_iff.mp h1
  have := (List.getElem_inj (order_nodup ms)).mp (e1.trans e2.symm)
  omega
theorem order_len (ms : List Bool) : (orderM ms).length = ms.length := by
  unfold orderM smallM greatM
  rw [List.length_append, ← List.countP_eq_length_filter, ← List.countP_eq_length_filter]
  have := List.length_eq_countP_add_countP (fun i => isM ms i) (l := List.range ms.length)
  rw [List.length_range] at this
  have e : List.countP (fun i => !isM ms i) (List.range ms.length) = List.countP (fun a => decide ¬ isM ms a = true) (List.range ms.length) := by
    refine List.countP_congr fun x _ => ?_
    simp
  omega
theorem pos_lt {ms : List Bool} {i : Nat} (h : i < ms.length) : posM ms i < ms.length := by
  have := (List.getElem?_eq_some_iff.mp (order_at h)).1
  rw [order_len] at this
  exact this
theorem fil_len (ms : List Bool) : (filM ms).length = ms.length := by
  unfold filM
  rw [List.length_map, List.length_range]
theorem fil_at {ms : List Bool} {i : Nat} (h : i < ms.length) : vI (filM ms) i = ((posM ms i : Nat) : Int) + 1 := by
  unfold vI filM
  rw [List.getD_eq_getElem?_getD, List.getElem?_map, List.getElem?_range h]
  rfl
theorem fil9 {ms : List Bool} (h : ms.length ≤ 24) : Vals9 ms.length (filM ms) := by
  refine ⟨fil_len ms, ?_, fun v hv => ?_⟩
  · unfold filM
    rw [List.nodup_iff_pairwise_ne, List.pairwise_map]
    refine List.pairwise_lt_range.imp_of_mem fun {a b} ha hb hab z => ?_
    have h1 := order_at (List.mem_range.mp ha)
    have h2 := order_at (List.mem_range.mp hb)
    have e : posM ms a = posM ms b := by omega
    rw [e, h2] at h1
    have := Option.some.inj h1
    omega
  · obtain ⟨i, hi, rfl⟩ := List.mem_map.mp hv
    have := pos_lt (List.mem_range.mp hi)
    omega
theorem filt_mono {p : Nat → Bool} {i j : Nat} (h : i ≤ j) : ((List.range i).filter p).length ≤ ((List.range j).filter p).length := by
  rw [← List.countP_eq_length_filter, ← List.countP_eq_length_filter]
  exact (List.range_sublist.mpr h).countP_le
theorem pos_mono {ms : List Bool} {i j : Nat} (h : i ≤ j) (e : isM ms i = isM ms j) : posM ms i ≤ posM ms j := by
  unfold posM
  rw [e]
  split
  · exact Nat.add_le_add_left (filt_mono h) _
  · exact filt_mono h
theorem pos_great {ms : List Bool} {i : Nat} (h : i < ms.length) : ((smallM ms).length : Int) + 1 ≤ vI (filM ms) i ↔ isM ms i = true := by
  rw [fil_at h]
  unfold posM
  by_cases c : isM ms i = true
  · rw [if_pos c]
    exact ⟨fun _ => c, fun _ => by omega⟩
  · rw [if_neg c]
    refine ⟨fun z => ?_, fun z => absurd z c⟩
    have z2 := (List.getElem?_eq_some_iff.mp (filter_at (p := fun j => !isM ms j) h (by simpa using c))).1
    unfold smallM at z
    omega
/-- marks that only look at the line: the filling's lines rise -/
theorem fil_rises {b : Bool} {cs : List Cell} {ms : List Bool} (g : Good cs) (hl : ms.length = cs.length) (hm : ∀ i j, i < cs.length → j < cs.length → gB b cs i = gB b cs j → isM ms i = isM ms j) : rises b cs (filM ms) = true := by
  rw [rises_pairs g]
  intro i j hij hj e
  rw [fil_at (by omega), fil_at (by omega)]
  have := pos_mono (ms := ms) (Nat.le_of_lt hij) (hm i j (by omega) hj e)
  omega
end KS
namespace KS
open PySem PySem.Spec PyProof.Rows L2
/-! ### t[::-1], t a tuple -/
section
variable {prog : Program} {w : World} {A : Around} {E : Value → Shared → Prop} {s : Shared}
theorem adjust_rev (n : Nat) : Builtin.Slice.sliceAdjust none none (-1) (n : Int) = ((n : Int) - 1, -1) := by
  first
  | rfl
  | simp [Builtin.Slice.sliceAdjust]
theorem places_rev (n : Nat) : Builtin.Slice.slicePlaces ((n : Int) - 1) (-1) (-1) = n := by
  unfold Builtin.Slice.slicePlaces
  by_cases h : n = 0
  · subst h
    decide
  · simp
    omega
theorem applied_rev {sl : Addr} {vl vu vs : Value} {n : Nat} {Q : Int × Int × Nat → Shared → Prop} (hs : s.heap.IsSliceOf sl vl vu vs) (pl : IsPart vl none) (pu : IsPart vu none) (ps : IsPart vs (some (-1)))
    (h : Q ((n : Int) - 1, -1, n) s) : wpAny (model prog w) A (Builtin.Slice.sliceApplied (.ref sl) (pure (n : Int))) Q E s := by
  obtain ⟨os, hos, hcs, hds⟩ := id hs
  unfold Builtin.Slice.sliceApplied Builtin.Slice.sliceFields
  refine wpAny_bind (wpAny_bind (wpAny_field hos hds (x := vl) rfl
    (wpAny_bind (wpAny_field hos hds (x := vu) rfl (wpAny_bind (wpAny_field hos hds (x := vs) rfl (wpAny_pure ?_)))))))
  refine wpAny_bind (HT.slicePart_ ps ?_)
  show wpAny _ _ (if ((-1 : Int) == 0) = true then _ else _) _ _ s
  rw [if_neg (by decide)]
  refine wpAny_bind (HT.slicePart_ pl (wpAny_bind (HT.slicePart_ pu (wpAny_bind (wpAny_pure ?_)))))
  show wpAny _ _ (match Builtin.Slice.sliceAdjust none none (-1) (n : Int) with | (lo, hi) => pure (lo, (-1 : Int), Builtin.Slice.slicePlaces lo hi (-1))) _ _ s
  rw [adjust_rev n]
  show wpAny _ _ (pure ((n : Int) - 1, (-1 : Int), Builtin.Slice.slicePlaces ((n : Int) - 1) (-1) (-1))) _ _ s
  rw [places_rev]
  exact wpAny_pure h
theorem pick_rev (xs : Array Value) : ((List.range xs.size).filterMap fun (k : Nat) => xs[(((xs.size : Int) - 1) + (k : Int) * (-1)).toNat]?).toArray = xs.toList.reverse.toArray := by
  have e : (fun (k : Nat) => xs[(((xs.size : Int) - 1) + (k : Int) * (-1)).toNat]?) = (xs[·]?) ∘ fun k => xs.size - 1 - k := by
    funext k
    show xs[(((xs.size : Int) - 1) + (k : Int) * (-1)).toNat]? = xs[xs.size - 1 - k]?
    have z : (((xs.size : Int) - 1) + (k : Int) * (-1)).toNat = xs.size - 1 - k := by omega
    rw [z]
  rw [e, ← List.filterMap_map, PySem.W.krv_range, List.filterMap_reverse, PySem.W.krv_all]
theorem getItem_tuple_rev {t sl : Addr} {items : Array Value} {vl vu vs : Value} {Q : Value → Shared → Prop} (ht : IsTup s.heap t items) (hs : s.heap.IsSliceOf sl vl vu vs) (pl : IsPart vl none) (pu : IsPart vu none)
    (ps : IsPart vs (some (-1))) (h : Q (.ref s.heap.objs.size) { s with heap := s.heap.push { cls := .type "tuple", data := .seq items.toList.reverse.toArray } }) (hsz : items.size ≤ sizeLine) :
    wpAny (model prog w) A (getItem (.ref t) (.ref sl)) Q E s := by
  have htake : sizeOk (.seq items.toList.reverse.toArray) := by
    show items.toList.reverse.toArray.size ≤ sizeLine
    rw [List.size_toArray, List.length_reverse, Array.length_toList]
    exact hsz
  obtain ⟨os, hos, hcs, hds⟩ := id hs
  have hTs : s.TypeIs (.ref sl) "slice" := ⟨os, hos, hcs⟩
  unfold getItem
  try with_reducible refine wpAny_holding ?_
  first | refine wpAny_bind (wpAny_pure ?_) | skip
  refine wpAny_bind (wpAny_sequenceKey ht.typeIs (by decide) ?_)
  refine wpAny_bind (wpAny_callSpecial?_slot (name := Str.ofString "__getitem__") ht.typeIs PyProof.Rows.slot_tuple_getitem (wpAny_call_entry PyProof.Rows.slot_tuple_getitem ht.typeIs entry_tuple_getitem ?_ (args_tuple_getitem _ _)))
  show wpAny _ _ (Builtin.Tuple.tupleItemsOf (.ref t) >>= _) _ _ s
  refine wpAny_bind (tupleItemsOf_ ht (wpAny_bind (wpAny_typeOf hTs ?_)))
  rw [if_pos (by decide)]
  refine wpAny_bind (applied_rev hs pl pu ps ?_)
  have hno : ¬ ((((items.size : Int) - 1) == 0 && (-1 : Int) == 1 && items.size == items.size) = true) := by
    simp
  show wpAny _ _ (if (((items.size : Int) - 1) == 0 && (-1 : Int) == 1 && items.size == items.size) = true then _ else _) _ _ s
  rw [if_neg hno, pick_rev]
  first
    | exact wpAny_bind (m := Builtin.Tuple.tupleExact _) (wpAny_newObj_type (wpAny_pure ⟨_, rfl, wpAny_pure h⟩) htake)
    | exact wpAny_bind (m := Builtin.Tuple.tupleExact _) (wpAny_newObj_type (wpAny_bind (wpAny_pure (wpAny_pure ⟨_, rfl, wpAny_pure h⟩))) htake)
    | exact wpAny_bind (wpAny_bind (m := Builtin.Tuple.tupleExact _) (wpAny_newObj_type (wpAny_pure (wpAny_pure ⟨_, rfl, wpAny_pure h⟩)) htake))
    | exact wpAny_bind (wpAny_bind (m := Builtin.Tuple.tupleExact _) (wpAny_newObj_type (wpAny_pure ⟨_, rfl, wpAny_pure h⟩) htake))
end
def tRevT (K : PySem.W.Frag) (te : TE) : TE := fun σ H Q => te σ H fun x H1 => ∃ a xs, x = .ref a ∧ SqT K H1 a xs ∧ ∀ p, H1 p = none → Q (.ref p) (upd H1 p (.tup xs.reverse))
theorem pe_revT {X : Cx} {e : Expr} {te : TE} {k : Nat} {p1 p2 p3 pos : Pos} (he : PE X e te) :
    PE X (.Subscript e (.Slice none none (some (.UnaryOp .USub (.Constant (.int 1) k p1) p2)) p3) pos) (tRevT X.K te) := by
  refine ⟨fun pins s σ H Q I h => Subscript_ (thn (he.run pins s σ H _ I h) fun v s1 hh => ?_)⟩
  obtain ⟨x, H1, I1, r1, a, xs, ex, hx, q⟩ := hh
  subst ex
  cases r1
  have hst : PO X (some (.UnaryOp .USub (.Constant (.int 1) k p1) p2)) (tPart (tUn (rU fun i => .int (-i)) (tC (.int 1)))) := po_some (pe_un un_neg pe_int)
  refine wpAny_Slice (thn (po_none.run pins s1 σ H1 (fun o H2 => o = none ∧ H2 = H1) I1 ⟨rfl, rfl⟩) fun vl s2 h2 => ?_)
  obtain ⟨l, H2, I2, pl, el, e2⟩ := h2
  subst el e2
  refine thn (po_none.run pins s2 σ H2 (fun o H3 => o = none ∧ H3 = H2) I2 ⟨rfl, rfl⟩) fun vu s3 h3 => ?_
  obtain ⟨u, H3, I3, pu, eu, e3⟩ := h3
  subst eu e3
  refine thn (hst.run pins s3 σ H3 (fun o H4 => o = some (-1) ∧ H4 = H3) I3 ⟨1, rfl, -1, rfl, rfl, rfl⟩) fun vs s4 h4 => ?_
  obtain ⟨o, H4, I4, ps, eo, e4⟩ := h4
  subst eo e4
  have I5 : Inv X pins σ H4 { s4 with heap := s4.heap.push { cls := .type "slice", data := .fields #[vl, vu, vs] } } :=
    I4.kept (t' := s4.toks) fun b ob q => Heap.get?_push_of_some _ q
  obtain ⟨its, r, ht, hz⟩ := I5.tuple hx
  have hlen := r.length
  show wpAny (model X.prog X.w) X.A (subscriptTail e (.Slice none none (some (.UnaryOp .USub (.Constant (.int 1) k p1) p2)) p3) (.ref a) (.ref s4.heap.objs.size)) (EP X pins σ Q) X.xe
    { s4 with heap := s4.heap.push { cls := .type "slice", data := .fields #[vl, vu, vs] } }
  refine tail_any (ops := [.ref a, .ref s4.heap.objs.size]) ht.typeIs PyProof.Rows.slot_tuple_getitem.lookup ?_ (by with_unfolding_all rfl)
  refine getItem_tuple_rev ht (Heap.IsSliceOf.new _ vl vu vs) pl pu ps ?_ (by rw [List.size_toArray]; omega)
  refine ⟨.ref _, _, I5.laid (t' := s4.toks) (o := .tup xs.reverse) (fun b ob q => Heap.get?_push_of_some _ q) (Nat.le_refl _) ?_, rfl, q _ (I5.hok.fresh (Nat.le_refl _))⟩
  exact ⟨by rw [List.length_reverse]; exact hz, _, r.reverse, IsTup.new _ _⟩
end KS
namespace PySem
namespace XInvalidPlan
open PySem.W PySem.Calls PyProof.Rows PySem.HandSPX
/-! ### the text of __init__ -/
def iA (p1 p2 : Pos) : Arguments := { posonlyargs := [], args := [{ arg := "self", annotation := none, pos := p1 }, { arg := "index", annotation := none, pos := p2 }], vararg := none, kwonlyargs := [], kw_defaults := [], kwarg := none, defaults := [] }
def iB (q1 q2 q3 q4 : Pos) : List Stmt := [.Assign [.Attribute (.Name "self" q1) "index" q2] (.Name "index" q3) q4]
def iS : Scope := { kind := .function, names := [(PySem.Str.ofString "self", .local), (PySem.Str.ofString "index", .local)], isGenerator := false, isCoroutine := false, more := [] }
/-- what the written part says of Low, at C, and of its __init__, at fI -/
structure InvalidPlanTxt (K : Frag) (mg : Str → Option Value) (C fI : Addr) : Prop where
  gC : mg "InvalidPlan" = some (.ref C)
  cls : ∃ nm q N bs bm sn sub ab col dd k0 k1 k2 k3 k5, K.lookup C = some (excClassObj nm q C N bs bm true sn sub ab col dd k0 k1 k2 k3 k5 "ValueError.__new__") ∧ refsVE bm = true
  sa : findIn K (.ref C) "__setattr__" = some (some (.builtin "object.__setattr__"))
  ga : findIn K (.ref C) "__getattribute__" = some (some (.builtin "BaseException.__getattribute__"))
  gg : findIn K (.ref C) "__getattr__" = some none
  noN : findIn K (.ref C) "index" = some none
  iC : findIn K (.ref C) "__init__" = some (some (.ref fI))
  tC : typeIn K (.ref fI) = some (.type "function")
  kC : keepIn K (.ref C) = true
  exC : subIn K (.ref C) (.type "BaseException") = some true
  tyC : typeIn K (.ref C) = some (.type "type")
  hdC : hasDictIn K C = true
  te : exmOne K (.ref C) (.ref C) = some true
  fn : ∃ (oc : Value) (od : Option Addr) (doc pm : Value) (an : Option Addr) (cdv ct : Value) (osl : Array (Option Value)) (p1 p2 q1 q2 q3 q4 : Pos),
    K.lookup fI = some ⟨oc, od, .func (fnOf "__init__" "InvalidPlan.__init__" (iA p1 p2) (iB q1 q2 q3 q4) iS .none .none doc pm an cdv ct), osl⟩ ∧ codeIn K cdv "InvalidPlan.__init__" = true
theorem one_size (v : Value) : [v].length ≤ sizeLine := by
  rw [sizeLine_eq]
  exact (by decide : 1 ≤ 16777216)
theorem kept_but {K : Frag} {h h' : Heap} {x : Addr} (X : K.In h) (hx : K.lookup x = none) (k : ∀ b o, b ≠ x → h.get? b = some o → h'.get? b = some o) : K.In h' := fun a o e =>
  k a o (fun z => by rw [z, hx] at e; cases e) (X a o e)
theorem ldC {M : Model} {s : Shared} {name : Str} {scope : Scope} {L a : Addr} {cd : Value} {m : Str → Option Value} {x : Str} {pos : Pos} {v : Value} {Q : Value → Shared → Prop} {A : Around} {E : Value → Shared → Prop} (hn : s.heap.Ns L m) (hv : m x = some v) (h : Q v s)
    (hk : scope.kind = .function := by rfl) (hl : (envOfC name scope L a cd).kindOf x = some .local := by rfl) (hd : (x == ("__debug__" : Str)) = false := by decide) :
    wpAny M A (eval (.Name x pos) (envOfC name scope L a cd)) Q E s := wpAny_Name (wpAny_loadName_local hk hl hn hv h) hd
/-- what __init__ leaves of a fresh exception at x -/
structure InitEnd (h h' : Heap) (x C dx t1 : Addr) (v : Value) : Prop where
  keep : ∀ b o, b ≠ x → h.get? b = some o → h'.get? b = some o
  obj : h'.get? x = some { cls := .ref C, dict := some dx, data := .fields #[.ref t1, .none, .none, .none, .bool false, .none] }
  dbig : h.objs.size ≤ dx
  dne : dx ≠ x
  ns : h'.Ns1 dx (fun y => if y = "index" then some v else none)
/-- made -/
structure OwnMade (h h' : Heap) (e C d : Addr) (v : Value) : Prop where
  keep : ∀ b o, h.get? b = some o → h'.get? b = some o
  new : h.objs.size ≤ e
  obj : ∃ oe vs, h'.get? e = some oe ∧ oe.cls = .ref C ∧ oe.dict = some d ∧ oe.data = .fields vs ∧ vs[1]? = some .none
  dbig : h.objs.size ≤ d
  dne : d ≠ e
  ns : h'.Ns1 d (fun y => if y = "index" then some v else none)
section
variable {prog : Program} {w : World} {A : Around} {E : Value → Shared → Prop} {R : Result → Shared → Prop} {s : Shared} {K : Frag} {mg : Str → Option Value} {C fI : Addr}
theorem _initInvalidPlan (T : InvalidPlanTxt K mg C fI) {x t0 : Addr} {v : Value} (X : K.In s.heap) (hlim : s.heap.NoLimit) (hx : s.heap.get? x = some (excO C t0)) (hnx : K.lookup x = none) (hroom : A.depth < recursionLimit)
    (hq : ∀ h' tk dx, InitEnd s.heap h' x C dx t0 v → R (.ok (.ret .none)) { s with heap := h', toks := tk }) :
    codeAny (model prog w) A (.call (.ref fI) ⟨[.ref x, v], []⟩) R s := by
  obtain ⟨oc, od, doc, pm, an, cdv, ct, osl, p1, p2, q1, q2, q3, q4, ho, hcd⟩ := T.fn
  obtain ⟨nm, q, N, bs, bm, sn, sub, ab, col, dd, k0, k1, k2, k3, k5, hC, hbm⟩ := T.cls
  have hcl : clsIn K C = some { name := nm, bases := bs, mro := .ref C :: bm, ns := N, qualname := q, hasDict := true, slotNames := sn, subclasses := sub, abstract := ab, collection := col, hasDel := false } := by unfold clsIn; rw [hC] <;> rfl
  refine Att.call_fn (binds := [("self", .ref x), ("index", v)]) X hlim ho hcd hroom (BindsTo.of_eq (by first | rfl | with_unfolding_all rfl)) (by first | rfl | decide | with_unfolding_all rfl) (fun s₁ IC => ?_) rfl rfl rfl
  obtain ⟨h₁, tk₁, rfl⟩ := IC.toInCall.same
  have k : ∀ b o, s.heap.get? b = some o → h₁.get? b = some o := IC.toInCall.keep
  have hn := IC.toInCall.ns
  have hxL : s.heap.objs.size ≠ x := Nat.ne_of_gt (Heap.lt_size hx)
  have X₁ : K.In h₁ := X.keeps k
  have hx₁ := k _ _ hx
  -- self.f = f
  show wpAny _ _ (execs _ _) _ _ _
  refine wpAny_execs_cons (plainObj_wpAny_Assign_Attribute ?_)
  refine ldC (v := v) hn (by first | rfl | with_unfolding_all rfl | kernel_rfl) (ldC (v := .ref x) hn (by first | rfl | with_unfolding_all rfl | kernel_rfl) ?_)
  refine set_plain X₁ (ox := excO C t0) (od := none) ⟨hx₁, rfl, rfl, trivial⟩ T.sa ?_
  refine exc_osa X₁ hx₁ hcl (show refsVE (.ref C :: bm) = true from hbm) rfl T.noN (fun h₃ tk₃ dx k₃ dn dne hx₃ hn₃ => ?_)
  show wpAny _ _ (execs _ _) _ _ _
  have z : s.heap.objs.size < h₁.objs.size := hn.lt
  exact wpAny_execs_nil (hq h₃ tk₃ dx ⟨fun b o hb e => k₃ b o hb (k b o e), hx₃, Nat.le_of_lt (Nat.lt_of_lt_of_le z dn), dne, hn₃⟩)
theorem _madeInvalidPlan (T : InvalidPlanTxt K mg C fI) {v : Value} (X : K.In s.heap) (hlim : s.heap.NoLimit) (hroom : A.depth + 1 < recursionLimit)
    (hq : ∀ h' tk e d, OwnMade s.heap h' e C d v → R (.ok (.ret (.ref e))) { s with heap := h', toks := tk }) :
    codeAny (model prog w) A (.call (.ref C) ⟨[v], []⟩) R s := by
  obtain ⟨nm, q, N, bs, bm, sn, sub, ab, col, dd, k0, k1, k2, k3, k5, hC, hbm⟩ := T.cls
  obtain ⟨hp, g, dr, tk, os⟩ := s
  have k : ∀ b o, hp.get? b = some o → ((hp.push (kdv_tup [v])).push (excO C hp.objs.size)).get? b = some o := fun b o e => Heap.get?_push_of_some _ (Heap.get?_push_of_some _ e)
  have hget : ((hp.push (kdv_tup [v])).push (excO C hp.objs.size)).get? (hp.objs.size + 1) = some (excO C hp.objs.size) := by heap_get
  have hnx : K.lookup (hp.objs.size + 1) = none := by
    cases e : K.lookup (hp.objs.size + 1) with
    | none => rfl
    | some o =>
      have z : hp.get? (hp.objs.size + 1) = some o := X _ _ e
      exact absurd (Nat.lt_of_succ_lt (Heap.lt_size z)) (Nat.lt_irrefl _)
  refine call_own F.excBase_ValueError (fun X => refsVE_contains X bm hbm) (X _ _ hC) (looks_findIn X T.iC) (fun self => bind_fn X self T.tC) (one_size v) ?_
  refine _initInvalidPlan (s := ⟨(hp.push (kdv_tup [v])).push (excO C hp.objs.size), g, dr, tk, os⟩) T (X.keeps k) (hlim.keeps k) hget hnx ?_ fun h' tk' dx ⟨k', hx, dn, dne, hns⟩ => ?_
  · show A.depth + 1 < recursionLimit
    exact hroom
  · have old : ∀ b o, hp.get? b = some o → h'.get? b = some o := fun b o e => k' b o (Nat.ne_of_lt (Nat.lt_succ_of_lt (Heap.lt_size e))) (k b o e)
    have z : hp.objs.size + 1 + 1 ≤ dx := by
      first
        | (simpa only [Heap.size_push] using dn)
        | exact dn
        | (have q := dn; rw [Heap.size_push, Heap.size_push] at q; exact q)
    exact ⟨rfl, hq h' tk' (hp.objs.size + 1) dx ⟨old, Nat.le_succ _, ⟨_, _, hx, rfl, rfl, rfl, rfl⟩, Nat.le_trans (Nat.le_trans (Nat.le_succ _) (Nat.le_succ _)) z, dne, hns⟩⟩
end
end XInvalidPlan
end PySem
namespace L2
open PySem PySem.Spec PyProof.Rows
theorem relO_InvalidPlan {v : V} {v' : Value} (r : RelV v v') (f : Str) : RelO (List.lookup f [(("index" : Str), v)]) (if f = "index" then some v' else none) := by
  by_cases hw : f = "index"
  · subst hw
    rw [if_pos rfl]
    have q : List.lookup ("index" : Str) [(("index" : Str), v)] = some v := by simp [List.lookup]
    rw [q]
    exact r
  · rw [if_neg hw]
    have qw : (f == ("index" : Str)) = false := by simpa using hw
    have q2 : List.lookup f [(("index" : Str), v)] = none := by simp [List.lookup, qw]
    rw [q2]
    trivial
section
variable {X : Cx} {C fI : Addr}
/-- Low(e) -/
def tMkInvalidPlan (C : Addr) (ta : TA) : St → Hp → XK → Prop := fun σ H Q => ta σ H fun vs H1 => ∃ v, vs = [v] ∧ ∀ d, H1 d = none → Q (.ref C) (some d) (upd H1 d (.xd [(("index" : Str), v)]))
theorem pmk_InvalidPlan {a : Expr} {ta : TA} {p pos : Pos} {k : Nat} (T : PySem.XInvalidPlan.InvalidPlanTxt X.K X.mg C fI) (hr : Room k X.A) (ha : PA X [a] ta) (hg : Gl X "InvalidPlan" := by rfl)
    (he : starEach (a :: []) X.env = (false, eval a X.env) :: starEach [] X.env := by rfl) (hpl : (backTo pos (starEach [] X.env)).any (·.1) = false := by rfl) :
    PMk X (.Call (.Name "InvalidPlan" p) [a] [] pos) (tMkInvalidPlan C ta) := by
  intro pins s σ H Q I h
  refine wpAny_Call_Name_kw (ld_glob I hg T.gC ?_)
  refine PySem.W.callWith_K (h₀ := X.base) I.ok.mod.kin T.kC (thn (ha.run pos pins s σ H _ I h) fun us s1 hh => ?_) he hpl
  obtain ⟨vs, H1, I1, r1, v, ev, q1⟩ := hh
  subst ev
  refine ⟨I1.kIn, ?_⟩
  cases r1 with
  | cons rv rn =>
    rename_i v' us'
    cases rn
    show wpAny _ _ (call (.ref C) [v']) _ _ _
    have hlim := I1.nolimit
    obtain ⟨hp, g, dr, tk, os⟩ := s1
    refine wpAny_call (PySem.XInvalidPlan._madeInvalidPlan T I1.kIn hlim (by have := hr.dp; omega) fun h' tk' e d M => ?_)
    show MkP X pins σ Q (.ref e) ⟨h', g, dr, tk', os⟩
    obtain ⟨oe, fv, hoe, hc, hd, hdat, h1⟩ := M.obj
    have hns := M.ns
    obtain ⟨G', g1, g2⟩ := restrict h' fun b => decide (b ≠ e)
    have gk : ∀ b, b ≠ e → G'.get? b = h'.get? b := fun b hb => g1 b (decide_eq_true hb)
    have ge : G'.get? e = none := g2 e (by simp)
    have old : ∀ b o, hp.get? b = some o → G'.get? b = some o := fun b o q => (gk b (Nat.ne_of_lt (Nat.lt_of_lt_of_le (Heap.lt_size q) M.new))).trans (M.keep b o q)
    have ob : ObjOk X.prog X.w (upd H1 d (.xd [(("index" : Str), v)])) G' d (.xd [(("index" : Str), v)]) :=
      ⟨_, hns.at (fun o q => (gk d M.dne).trans q), fun f => relO_InvalidPlan rv f⟩
    have J : Inv X pins σ (upd H1 d (.xd [(("index" : Str), v)])) ⟨G', g, dr, tk', os⟩ := I1.laid (t' := tk') old M.dbig ob
    refine ⟨e, oe, fv, ⟨G', g, dr, tk', os⟩, _, .ref C, some d, rfl, J, fun b o q => ?_, ge, hoe, ⟨hc, hd⟩, hdat, h1, ?_, rfl, I1.bare, raises_own T.exC T.tyC, q1 d (I1.hok.fresh M.dbig)⟩
    · by_cases hb : b = e
      · have q' : G'.get? b = some o := q
        rw [hb, ge] at q'; cases q'
      · exact (gk b hb).symm.trans q
    · rw [upd_ne (Ne.symm M.dne)]
      exact I1.hok.fresh M.new
/-- raise C(e) -/
def tRaiseInvalidPlan (C : Addr) (W : WX) (ta : TA) : TS := fun _ σ H => tMkInvalidPlan C ta σ H fun cls d H' => W cls d σ H'
theorem ps_raiseInvalidPlan {a : Expr} {ta : TA} {W : WX} {p pos pos2 : Pos} {k : Nat} (hc : X.calm = true) (T : PySem.XInvalidPlan.InvalidPlanTxt X.K X.mg C fI) (hr : Room k X.A) (tk : Takes X W) (ha : PA X [a] ta) (hg : Gl X "InvalidPlan" := by rfl)
    (he : starEach (a :: []) X.env = (false, eval a X.env) :: starEach [] X.env := by rfl) (hpl : (backTo pos (starEach [] X.env)).any (·.1) = false := by rfl) :
    PS X (.Raise (some (.Call (.Name "InvalidPlan" p) [a] [] pos)) none pos2) (tRaiseInvalidPlan C W ta) := ps_raise hc tk (pmk_InvalidPlan T hr ha hg he hpl)
/-- x.f, low the exception that the suite holds (at a; its class cls, its dict d) -/
def tByInvalidPlan (C : Addr) (a : Addr) (cls : Value) (d : Option Addr) (te : TE) : TE := fun σ H Q => te σ H fun x H1 => x = .ref a ∧ cls = .ref C ∧ ∃ (dd : Addr) (v : V), d = some dd ∧ H1 dd = some (.xd [(("index" : Str), v)]) ∧ Q v H1
theorem pe_byInvalidPlan {a : Addr} {oe : Obj} {cls : Value} {d : Option Addr} {pn : List (Addr × Obj)} {e : Expr} {te : TE} {pos : Pos} (T : PySem.XInvalidPlan.InvalidPlanTxt X.K X.mg C fI) (hz : Zc cls d oe) (hf : ∃ vs, oe.data = .fields vs) (he : PE (X.suite a ((a, oe) :: pn)) e te)
    (hb : attributeBase e "index" X.env (eval e X.env) = eval e X.env := by rfl) :
    PE (X.suite a ((a, oe) :: pn)) (.Attribute e "index" pos) (tByInvalidPlan C a cls d te) := by
  refine ⟨fun pins s σ H Q I h => ?_⟩
  refine attr_of hb (thn (he.run pins s σ H _ I h) fun u s1 hh => ?_)
  obtain ⟨x, H1, I1, rx, ex, ec, dd, v, ed, ea, q⟩ := hh
  subst ex
  obtain rfl : u = Value.ref a := rx
  subst ec
  subst ed
  obtain ⟨ha, _⟩ := I1.pin (a, oe) (List.mem_append_left _ List.mem_cons_self)
  obtain ⟨vs, hd⟩ := hf
  have hx : ObjOk X.prog X.w H1 s1.heap dd (.xd [(("index" : Str), v)]) := I1.hok dd _ ea
  obtain ⟨mA, hns, hr⟩ := hx
  obtain ⟨od, ho, hl⟩ := lookIn_ns hns
  have l : List.lookup ("index" : Str) [(("index" : Str), v)] = some v := by simp [List.lookup]
  obtain ⟨u, hu, ru⟩ := RelO.some_of (v := v) (o := mA "index") (by rw [← l]; exact hr "index")
  have J : PySem.W.InstAt s1.heap a oe C (some od) := ⟨ha, hz.1, by unfold PySem.W.notCls; rw [hd] <;> rfl, by rw [hz.2]; exact ho⟩
  exact HandSPX.exc_get I1.kIn J T.ga T.gg T.exC (PySem.W.findObj_own T.hdC T.noN rfl (by rw [hl, hu])) (handed_of ru) ⟨v, H1, I1.tok _, ru, q⟩
end
end L2

namespace KS
open PySem PySem.Spec PyProof.Rows L2
theorem exm_self {K : PySem.W.Frag} {S : Addr} (h1 : PySem.W.subIn K (.ref S) (.type "BaseException") = some true) (h2 : PySem.W.isClsIn K S = true) (h3 : PySem.W.typeIn K (.ref S) = some (.type "type")) (h4 : PySem.W.subIn K (.ref S) (.ref S) = some true) :
    PySem.W.exmOne K (.ref S) (.ref S) = some true := by
  have e1 : (PySem.W.subIn K (.ref S) (.type "BaseException") == some true) = true := by rw [h1] <;> rfl
  have e2 : ((PySem.W.clsIn K S).isSome && PySem.W.typeIn K (.ref S) == some (.type "type")) = true := by
    have h2' : (PySem.W.clsIn K S).isSome = true := h2
    rw [h2', h3] <;> rfl
  show (if (PySem.W.subIn K (.ref S) (.type "BaseException") == some true) = true then (if ((PySem.W.clsIn K S).isSome && PySem.W.typeIn K (.ref S) == some (.type "type")) = true then PySem.W.subIn K (.ref S) (.ref S) else none) else none) = some true
  rw [if_pos e1, if_pos e2]
  exact h4
end KS
namespace KS
open PySem PySem.Spec PyProof.Rows L2
/-! ### things of any kind, as is_plan and its law look at them -/
inductive Oth (K : PySem.W.Frag) (H : Hp) : V → String → Prop
  | non : Oth K H .non "NoneType"
  | bl (b : Bool) : Oth K H (.bl b) "bool"
  | int (i : Int) : Oth K H (.int i) "int"
  | str (x : Str) : Oth K H (.str x) "str"
  | lst {a : Addr} {xs : List V} : H a = some (.lst xs) → Oth K H (.ref a) "list"
  | dct {a : Addr} {kvs : List (Key × V)} : H a = some (.dK kvs) → Oth K H (.ref a) "dict"
  | tup {a : Addr} {xs : List V} : SqT K H a xs → Oth K H (.ref a) "tuple"
theorem Oth.ty {K : PySem.W.Frag} {H : Hp} {v : V} {t : String} (h : Oth K H v t) : TyX K H v (.type t) := by
  cases h with
  | non => exact .base .non
  | bl b => exact .base (.bl b)
  | int i => exact .base (.int i)
  | str x => exact .base (.str x)
  | lst e => exact .base (.lst e)
  | dct e => exact .base (.dK e)
  | tup e => exact tyx_tup e
/-- a number of a row or column (true), or a known other thing -/
def PlR (K : PySem.W.Frag) (H : Hp) (v : V) : Bool → Prop
  | true => ∃ i, v = .int i ∧ 0 ≤ i ∧ i ≤ 7
  | false => (∃ i, v = .int i ∧ ¬ (0 ≤ i ∧ i ≤ 7)) ∨ ∃ t, Oth K H v t ∧ t ≠ "int"
/-- an int between bounds (true), or a known other thing -/
def BwR (K : PySem.W.Frag) (H : Hp) (v : V) (lo hi : Int) : Bool → Prop
  | true => ∃ i, v = .int i ∧ lo ≤ i ∧ i ≤ hi
  | false => (∃ i, v = .int i ∧ ¬ (lo ≤ i ∧ i ≤ hi)) ∨ ∃ t, Oth K H v t ∧ t ≠ "int"
def spBetweenG (K : PySem.W.Frag) : Sp := fun vs H Q _ => ∃ (v : V) (lo hi : Int) (b : Bool), vs = [v, .int lo, .int hi] ∧ BwR K H v lo hi b ∧ Q (.bl b) H
theorem bw_of_pl {K : PySem.W.Frag} {H : Hp} {v : V} {b : Bool} (h : PlR K H v b) : BwR K H v 0 7 b := by
  cases b <;> exact h
/-- a cell, or a known other thing -/
def ElR (K : PySem.W.Frag) (H : Hp) (x : V) : Option Cell → Prop
  | some c => CellAt K H x c ∧ InGrid c
  | none => (∃ t, Oth K H x t ∧ t ≠ "tuple") ∨ (∃ t ys, x = .ref t ∧ SqT K H t ys ∧ ys.length ≠ 2) ∨
      ∃ t y0 y1 b0 b1, x = .ref t ∧ SqT K H t [y0, y1] ∧ PlR K H y0 b0 ∧ PlR K H y1 b1 ∧ (b0 && b1) = false
abbrev Els (K : PySem.W.Frag) (H : Hp) : List V → List (Option Cell) → Prop := Paired (ElR K H)
/-- the first i elements are cells that ascend -/
def OkTo (rs : List (Option Cell)) (i : Nat) : Prop := ∀ j, j < i → ∃ c, rs[j]? = some (some c) ∧ ∀ k, j = k + 1 → ∃ c', rs[k]? = some (some c') ∧ lt2 c' c
def BadAt (rs : List (Option Cell)) (i : Nat) : Prop := rs[i]? = some none ∨ ∃ c c' k, rs[i]? = some (some c) ∧ i = k + 1 ∧ rs[k]? = some (some c') ∧ ¬ lt2 c' c
inductive Verd | ok | non | at (i : Nat)
/-- what a thing is worth as a plan -/
def PlanV (K : PySem.W.Frag) (H : Hp) (v : V) : Verd → Prop
  | .ok => ∃ a xs rs, v = .ref a ∧ SqT K H a xs ∧ 1 ≤ xs.length ∧ xs.length ≤ 24 ∧ Els K H xs rs ∧ OkTo rs rs.length
  | .non => (∃ t, Oth K H v t ∧ t ≠ "tuple") ∨ ∃ a xs, v = .ref a ∧ SqT K H a xs ∧ (xs.length = 0 ∨ 24 < xs.length)
  | .at i => ∃ a xs rs, v = .ref a ∧ SqT K H a xs ∧ 1 ≤ xs.length ∧ xs.length ≤ 24 ∧ Els K H xs rs ∧ OkTo rs i ∧ BadAt rs i
def Verd.good : Verd → Bool
  | .ok => true
  | _ => false
theorem lt2_dec (a b : Cell) : lt2 a b ∨ ¬ lt2 a b := Classical.em _
/-- each list of verdicts has a first fault, or none -/
theorem first_bad (rs : List (Option Cell)) : ∀ n, n ≤ rs.length → OkTo rs n ∨ ∃ i, i < n ∧ OkTo rs i ∧ BadAt rs i
  | 0, _ => .inl fun j hj => absurd hj (Nat.not_lt_zero _)
  | n + 1, h => by
    rcases first_bad rs n (by omega) with ok | ⟨i, h1, h2, h3⟩
    · have hn : n < rs.length := by omega
      cases e : rs[n]? with
      | none =>
        have := List.getElem?_eq_none_iff.mp e
        omega
      | some o =>
        cases o with
        | none => exact .inr ⟨n, by omega, ok, .inl e⟩
        | some c =>
          have fin : (∀ k, n = k + 1 → ∃ c', rs[k]? = some (some c') ∧ lt2 c' c) → OkTo rs (n + 1) := fun q j hj => by
            by_cases z : j < n
            · exact ok j z
            · have : j = n := by omega
              subst this
              exact ⟨c, e, q⟩
          cases n with
          | zero => exact .inl (fin fun k z => by omega)
          | succ m =>
            obtain ⟨c', e', _⟩ := ok m (by omega)
            rcases lt2_dec c' c with z | z
            · exact .inl (fin fun k hk => by
                have : k = m := by omega
                subst this
                exact ⟨c', e', z⟩)
            · exact .inr ⟨m + 1, by omega, ok, .inr ⟨c, c', m, e, rfl, e', z⟩⟩
    · exact .inr ⟨i, by omega, h2, h3⟩
/-- a tuple whose elements are known has a worth -/
theorem planV_of {K : PySem.W.Frag} {H : Hp} {a : Addr} {xs : List V} {rs : List (Option Cell)} (h : SqT K H a xs) (e : Els K H xs rs) : ∃ v, PlanV K H (.ref a) v := by
  by_cases c : xs.length = 0 ∨ 24 < xs.length
  · exact ⟨.non, .inr ⟨a, xs, rfl, h, c⟩⟩
  · have hl := Paired.length e
    rcases first_bad rs rs.length (Nat.le_refl _) with ok | ⟨i, _, h2, h3⟩
    · exact ⟨.ok, a, xs, rs, rfl, h, by omega, by omega, e, ok⟩
    · exact ⟨.at i, a, xs, rs, rfl, h, by omega, by omega, e, h2, h3⟩
theorem els_cells {K : PySem.W.Frag} {H : Hp} : ∀ {xs : List V} {cs : List Cell}, CellsAt K H xs cs → (∀ c ∈ cs, InGrid c) → Els K H xs (cs.map some)
  | _, _, .nil, _ => .nil
  | _, _, .cons r t, g => .cons ⟨r, g _ List.mem_cons_self⟩ (els_cells t fun c hc => g c (List.mem_cons_of_mem _ hc))
theorem okTo_good {cs : List Cell} (h : cs.Pairwise lt2) : OkTo (cs.map some) (cs.map some).length := by
  intro j hj
  rw [List.length_map] at hj
  refine ⟨cs[j], by rw [List.getElem?_map, List.getElem?_eq_getElem hj]; rfl, fun k hk => ?_⟩
  subst hk
  have hk : k < cs.length := by omega
  exact ⟨cs[k], by rw [List.getElem?_map, List.getElem?_eq_getElem hk]; rfl, (List.pairwise_iff_getElem.mp h) k (k + 1) hk hj (by omega)⟩
theorem planV_good {K : PySem.W.Frag} {H : Hp} {a : Addr} {cs : List Cell} (h : PlanAt K H a cs) (g : Good cs) (hl : cs.length ≤ 24) : PlanV K H (.ref a) .ok := by
  obtain ⟨xs, h1, h2⟩ := h
  have hlen := Paired.length h2
  have hpos : 0 < cs.length := by
    rcases Nat.eq_zero_or_pos cs.length with z | z
    · exact absurd (List.eq_nil_of_length_eq_zero z) g.ne
    · exact z
  exact ⟨a, xs, cs.map some, rfl, h1, by omega, by omega, els_cells h2 g.grid, okTo_good g.asc⟩
/-! ### what stays -/
theorem Oth.same {K : PySem.W.Frag} {H H' : Hp} {v : V} {t : String} (s : Same H H') (h : Oth K H v t) : Oth K H' v t := by
  cases h with
  | non => exact .non
  | bl b => exact .bl b
  | int i => exact .int i
  | str x => exact .str x
  | lst e => exact .lst (s _ _ e)
  | dct e => exact .dct (s _ _ e)
  | tup e => exact .tup (same_seqT s e)
theorem PlR.same {K : PySem.W.Frag} {H H' : Hp} {v : V} {b : Bool} (s : Same H H') (h : PlR K H v b) : PlR K H' v b := by
  cases b with
  | true => exact h
  | false =>
    rcases h with h | ⟨t, h, n⟩
    · exact .inl h
    · exact .inr ⟨t, h.same s, n⟩
theorem ElR.same {K : PySem.W.Frag} {H H' : Hp} {x : V} {o : Option Cell} (s : Same H H') (h : ElR K H x o) : ElR K H' x o := by
  cases o with
  | some c => exact ⟨h.1.kt (.of_same s), h.2⟩
  | none =>
    rcases h with ⟨t, h, n⟩ | ⟨t, ys, e, h, n⟩ | ⟨t, y0, y1, b0, b1, e, h, p0, p1, n⟩
    · exact .inl ⟨t, h.same s, n⟩
    · exact .inr (.inl ⟨t, ys, e, same_seqT s h, n⟩)
    · exact .inr (.inr ⟨t, y0, y1, b0, b1, e, same_seqT s h, p0.same s, p1.same s, n⟩)
theorem els_same {K : PySem.W.Frag} {H H' : Hp} (s : Same H H') {xs : List V} {rs : List (Option Cell)} (h : Els K H xs rs) : Els K H' xs rs := Paired.mono (fun _ _ q => q.same s) h
theorem PlanV.same {K : PySem.W.Frag} {H H' : Hp} {v : V} {b : Verd} (s : Same H H') (h : PlanV K H v b) : PlanV K H' v b := by
  cases b with
  | ok =>
    obtain ⟨a, xs, rs, e, h1, h2, h3, h4, h5⟩ := h
    exact ⟨a, xs, rs, e, same_seqT s h1, h2, h3, els_same s h4, h5⟩
  | non =>
    rcases h with ⟨t, h, n⟩ | ⟨a, xs, e, h, n⟩
    · exact .inl ⟨t, h.same s, n⟩
    · exact .inr ⟨a, xs, e, same_seqT s h, n⟩
  | «at» i =>
    obtain ⟨a, xs, rs, e, h1, h2, h3, h4, h5⟩ := h
    exact ⟨a, xs, rs, e, same_seqT s h1, h2, h3, els_same s h4, h5⟩
/-! ### the promises -/
def spWholeG (K : PySem.W.Frag) : Sp := fun vs H Q _ => ∃ (v : V) (t : String), vs = [v] ∧ Oth K H v t ∧ Q (.bl (decide (t = "int"))) H
def spPlaceG (K : PySem.W.Frag) : Sp := fun vs H Q _ => ∃ (v : V) (b : Bool), vs = [v] ∧ PlR K H v b ∧ Q (.bl b) H
def spIsCellG (K : PySem.W.Frag) : Sp := fun vs H Q _ => ∃ (v : V) (o : Option Cell), vs = [v] ∧ ElR K H v o ∧ ∀ H', Same H H' → Q (.bl o.isSome) H'
def vIdx : Verd → V
  | .at i => .int (i : Nat)
  | _ => .non
def spCheckG (K : PySem.W.Frag) (C : Addr) : Sp := fun vs H Q E => ∃ (v : V) (b : Verd), vs = [v] ∧ PlanV K H v b ∧ (b.good = true → ∀ H', Same H H' → Q .non H') ∧
  (b.good = false → ∀ H' d, Same H H' → H d = none → H' d = some (.xd [(("index" : Str), vIdx b)]) → E (.ref C) (some d) H')
def spIsPlan (K : PySem.W.Frag) : Sp := fun vs H Q _ => ∃ (v : V) (b : Verd), vs = [v] ∧ PlanV K H v b ∧ ∀ H', Same H H' → Q (.bl b.good) H'
theorem le2_iff {a b : Cell} : Ob.lexAt (fun j => decide (([b.1, b.2] : List Int).getD j 0 = ([a.1, a.2] : List Int).getD j 0)) (fun j => decide (([b.1, b.2] : List Int).getD j 0 ≤ ([a.1, a.2] : List Int).getD j 0)) (decide (([b.1, b.2] : List Int).length ≤ ([a.1, a.2] : List Int).length)) 0 (min ([b.1, b.2] : List Int).length ([a.1, a.2] : List Int).length) = true ↔ ¬ lt2 a b := by
  constructor
  · intro h z
    rw [not_le2 z] at h
    cases h
  · intro h
    show Ob.lexAt _ _ _ 0 2 = true
    rw [Ob.lexAt_succ, Ob.lexAt_succ]
    show (if decide (b.1 = a.1) = true then (if decide (b.2 = a.2) = true then _ else decide (b.2 ≤ a.2)) else decide (b.1 ≤ a.1)) = true
    unfold lt2 at h
    by_cases e1 : b.1 = a.1
    · rw [if_pos (by simpa using e1)]
      by_cases e2 : b.2 = a.2
      · rw [if_pos (by simpa using e2)]
        rfl
      · rw [if_neg (by simpa using e2)]
        simp
        omega
    · rw [if_neg (by simpa using e1)]
      simp
      omega
/-- isinstance's answers -/
theorem kit_int {K : PySem.W.Frag} {H : Hp} {v : V} {t : String} (h : Oth K H v t) : PySem.W.kitOne K (.type t) (.type "int") = some (decide (t = "int" ∨ t = "bool")) := by
  cases h <;> exact kit_ty (by decide +kernel)
theorem kit_bool {K : PySem.W.Frag} {H : Hp} {v : V} {t : String} (h : Oth K H v t) : PySem.W.kitOne K (.type t) (.type "bool") = some (decide (t = "bool")) := by
  cases h <;> exact kit_ty (by decide +kernel)
theorem kit_tuple {K : PySem.W.Frag} {H : Hp} {v : V} {t : String} (h : Oth K H v t) : PySem.W.kitOne K (.type t) (.type "tuple") = some (decide (t = "tuple")) := by
  cases h <;> exact kit_ty (by decide +kernel)
end KS
namespace KS
open PySem PySem.Spec PyProof.Rows L2
theorem ok_notBad {rs : List (Option Cell)} {n i : Nat} (h : OkTo rs n) (hi : i < n) : ¬ BadAt rs i := by
  obtain ⟨c, e, k⟩ := h i hi
  rintro (z | ⟨c1, c2, j, e1, e2, e3, e4⟩)
  · rw [e] at z
    cases z
  · rw [e] at e1
    cases e1
    obtain ⟨c3, e5, e6⟩ := k j e2
    rw [e3] at e5
    cases e5
    exact e4 e6
theorem bad_lt {rs : List (Option Cell)} {i : Nat} (h : BadAt rs i) : i < rs.length := by
  rcases h with z | ⟨c1, c2, j, e1, _⟩
  · exact (List.getElem?_eq_some_iff.mp z).1
  · exact (List.getElem?_eq_some_iff.mp e1).1
/-- the two ways of a tuple of a right length -/
def TwoWays (rs : List (Option Cell)) (b : Verd) : Prop := (b.good = true ∧ OkTo rs rs.length) ∨ ∃ i, b = .at i ∧ OkTo rs i ∧ BadAt rs i
theorem TwoWays.bad {rs : List (Option Cell)} {b : Verd} {i : Nat} (h : TwoWays rs b) (ok : OkTo rs i) (bad : BadAt rs i) : b = .at i := by
  rcases h with ⟨_, h⟩ | ⟨j, e, h1, h2⟩
  · exact absurd bad (ok_notBad h (bad_lt bad))
  · have : i = j := by
      rcases Nat.lt_trichotomy i j with z | z | z
      · exact absurd bad (ok_notBad h1 z)
      · exact z
      · exact absurd h2 (ok_notBad ok z)
    rw [this]
    exact e
theorem TwoWays.ok {rs : List (Option Cell)} {b : Verd} (h : TwoWays rs b) (ok : OkTo rs rs.length) : b.good = true := by
  rcases h with ⟨h, _⟩ | ⟨j, e, h1, h2⟩
  · exact h
  · exact absurd h2 (ok_notBad ok (bad_lt h2))
theorem PlanV.split {K : PySem.W.Frag} {H : Hp} {v : V} {b : Verd} (h : PlanV K H v b) : (b = .non ∧ ((∃ t, Oth K H v t ∧ t ≠ "tuple") ∨ ∃ a xs, v = .ref a ∧ SqT K H a xs ∧ (xs.length = 0 ∨ 24 < xs.length))) ∨
    ∃ a xs rs, v = .ref a ∧ SqT K H a xs ∧ 1 ≤ xs.length ∧ xs.length ≤ 24 ∧ Els K H xs rs ∧ TwoWays rs b := by
  cases b with
  | ok =>
    obtain ⟨a, xs, rs, e, h1, h2, h3, h4, h5⟩ := h
    exact .inr ⟨a, xs, rs, e, h1, h2, h3, h4, .inl ⟨rfl, h5⟩⟩
  | non => exact .inl ⟨rfl, h⟩
  | «at» i =>
    obtain ⟨a, xs, rs, e, h1, h2, h3, h4, h5, h6⟩ := h
    exact .inr ⟨a, xs, rs, e, h1, h2, h3, h4, .inr ⟨i, rfl, h5, h6⟩⟩
theorem okTo_succ {rs : List (Option Cell)} {i : Nat} {c : Cell} (h : OkTo rs i) (e : rs[i]? = some (some c)) (k : ∀ j, i = j + 1 → ∃ c', rs[j]? = some (some c') ∧ lt2 c' c) : OkTo rs (i + 1) := fun j hj => by
  by_cases z : j < i
  · exact h j z
  · have : j = i := by omega
    subst this
    exact ⟨c, e, k⟩
end KS
namespace KS
open PySem PySem.Spec PyProof.Rows L2
section
variable {K : PySem.W.Frag} {H H' : Hp} {p : Addr}
theorem Oth.keepX {v : V} {t : String} (hp : PoolO (H p)) (hp' : PoolO (H' p)) (k : KeepX p H H') (h : Oth K H v t) : Oth K H' v t := by
  obtain ⟨x1, x2, x3, e1, _⟩ := hp
  cases h with
  | non => exact .non
  | bl b => exact .bl b
  | int i => exact .int i
  | str x => exact .str x
  | @lst a xs e =>
    by_cases z : a = p
    · subst z
      obtain ⟨y1, y2, y3, e2, _⟩ := hp'
      exact .lst e2
    · exact .lst (k _ _ z e)
  | @dct a kvs e => exact .dct (k _ _ (ne_of e e1 (by intro q; cases q)) e)
  | tup e => exact .tup (keepX_seqT ⟨x1, x2, x3, e1, by assumption⟩ k e)
theorem PlR.keepX {v : V} {b : Bool} (hp : PoolO (H p)) (hp' : PoolO (H' p)) (k : KeepX p H H') (h : PlR K H v b) : PlR K H' v b := by
  cases b with
  | true => exact h
  | false =>
    rcases h with h | ⟨t, h, n⟩
    · exact .inl h
    · exact .inr ⟨t, h.keepX hp hp' k, n⟩
theorem ElR.keepX {x : V} {o : Option Cell} (hp : PoolO (H p)) (hp' : PoolO (H' p)) (k : KeepX p H H') (h : ElR K H x o) : ElR K H' x o := by
  cases o with
  | some c => exact ⟨h.1.kt (.of_keepX hp k), h.2⟩
  | none =>
    rcases h with ⟨t, h, n⟩ | ⟨t, ys, e, h, n⟩ | ⟨t, y0, y1, b0, b1, e, h, p0, p1, n⟩
    · exact .inl ⟨t, h.keepX hp hp' k, n⟩
    · exact .inr (.inl ⟨t, ys, e, keepX_seqT hp k h, n⟩)
    · exact .inr (.inr ⟨t, y0, y1, b0, b1, e, keepX_seqT hp k h, p0.keepX hp hp' k, p1.keepX hp hp' k, n⟩)
theorem PlanV.keepX {v : V} {b : Verd} (hp : PoolO (H p)) (hp' : PoolO (H' p)) (k : KeepX p H H') (h : PlanV K H v b) : PlanV K H' v b := by
  have lift : ∀ {xs : List V} {rs : List (Option Cell)}, Els K H xs rs → Els K H' xs rs := fun h => Paired.mono (fun _ _ q => q.keepX hp hp' k) h
  cases b with
  | ok =>
    obtain ⟨a, xs, rs, e, h1, h2, h3, h4, h5⟩ := h
    exact ⟨a, xs, rs, e, keepX_seqT hp k h1, h2, h3, lift h4, h5⟩
  | non =>
    rcases h with ⟨t, h, n⟩ | ⟨a, xs, e, h, n⟩
    · exact .inl ⟨t, h.keepX hp hp' k, n⟩
    · exact .inr ⟨a, xs, e, keepX_seqT hp k h, n⟩
  | «at» i =>
    obtain ⟨a, xs, rs, e, h1, h2, h3, h4, h5⟩ := h
    exact ⟨a, xs, rs, e, keepX_seqT hp k h1, h2, h3, lift h4, h5⟩
/-- odd things -/
theorem odd2 {t : Addr} {y0 y1 : V} {b0 b1 : Bool} (h : H t = some (.tup [y0, y1])) (p0 : PlR K H y0 b0) (p1 : PlR K H y1 b1) (n : (b0 && b1) = false) : ElR K H (.ref t) none :=
  .inr (.inr ⟨t, y0, y1, b0, b1, rfl, SqT.of h, p0, p1, n⟩)
theorem oddN {t : Addr} {ys : List V} (h : SqT K H t ys) (n : ys.length ≠ 2) : ElR K H (.ref t) none := .inr (.inl ⟨t, ys, rfl, h, n⟩)
theorem oddO {x : V} {t : String} (h : Oth K H x t) (n : t ≠ "tuple") : ElR K H x none := .inl ⟨t, h, n⟩
theorem pl_yes {i : Int} (h : 0 ≤ i ∧ i ≤ 7) : PlR K H (.int i) true := ⟨i, rfl, h.1, h.2⟩
theorem pl_no {i : Int} (h : ¬ (0 ≤ i ∧ i ≤ 7)) : PlR K H (.int i) false := .inl ⟨i, rfl, h⟩
theorem pl_oth {x : V} {t : String} (h : Oth K H x t) (n : t ≠ "int") : PlR K H x false := .inr ⟨t, h, n⟩
theorem odd_plan {a : Addr} {cs : List Cell} (h : PlanAt K H a cs) : ElR K H (.ref a) none := by
  obtain ⟨xs, h1, h2⟩ := h
  by_cases c : xs.length = 2
  · cases h2 with
    | nil => cases c
    | @cons x c0 xs1 cs1 r0 h3 =>
      cases h3 with
      | nil => cases c
      | @cons y c1 xs2 cs2 r1 h4 =>
        cases h4 with
        | cons _ _ =>
          simp at c
        | nil =>
          obtain ⟨t0, e0, q0⟩ := r0
          obtain ⟨t1, e1, q1⟩ := r1
          subst e0
          subst e1
          exact .inr (.inr ⟨a, _, _, false, false, rfl, h1, pl_oth (.tup q0) (by decide), pl_oth (.tup q1) (by decide), rfl⟩)
  · exact oddN h1 c
end
def spBent (K : PySem.W.Frag) : Sp := fun vs H Q _ => ∃ (p a : Addr) (cs : List Cell), vs = [.ref p, .ref a] ∧ PoolO (H p) ∧ PlanAt K H a cs ∧ Good cs ∧ cs.length ≤ 24 ∧
  ∀ H' v b, KeepX p H H' → PoolO (H' p) → PlanV K H' v b → Q v H'
end KS
namespace KS
open PySem PySem.Spec PyProof.Rows L2
section
variable {K : PySem.W.Frag} {σ : L2.St} {H : Hp} {Q : VK} {ta : TA}
/-- a display of values that are at hand: a new object -/
theorem tup_ok (vs : List V) (h : ∀ R : List V → Hp → Prop, R vs H → ta σ H R) (hl : vs.length ≤ 64) (k : ∀ H' t, Same H H' → H' t = some (.tup vs) → H t = none → Q (.ref t) H') : tTup ta σ H Q :=
  h _ ⟨Nat.le_of_lt (small64 hl), fun p np => k _ p (same_new np) upd_same np⟩
theorem lst_ok (vs : List V) (h : ∀ R : List V → Hp → Prop, R vs H → ta σ H R) (hl : vs.length ≤ 64) (k : ∀ H' t, Same H H' → H' t = some (.lst vs) → H t = none → Q (.ref t) H') : tLst ta σ H Q :=
  h _ ⟨Nat.le_of_lt (small64 hl), fun p np => k _ p (same_new np) upd_same np⟩
theorem dnew_ok (k : ∀ H' t, Same H H' → H' t = some (.dK []) → H t = none → Q (.ref t) H') : tDNewK σ H Q :=
  fun p np => k _ p (same_new np) upd_same np
theorem catA_ok {a b : Addr} {xs ys : List V} (ha : SqT K H a xs) (hb : SqT K H b ys) (hl : xs.length + ys.length ≤ 64)
    (k : ∀ H' u, Same H H' → SqT K H' u (xs ++ ys) → Q (.ref u) H') : rCatA K (.ref a) (.ref b) H Q := by
  refine ⟨a, b, xs, ys, rfl, rfl, ha, hb, Nat.le_of_lt (small64 hl), fun e => ?_, fun _ e => ?_, fun _ _ p np => ?_⟩
  · subst e
    exact k H b (Same.refl _) hb
  · subst e
    exact k H a (Same.refl _) (by rw [List.append_nil]; exact ha)
  · exact k _ p (same_new np) (SqT.of upd_same)
theorem cut_to {xs : List V} {k : Nat} (h : k ≤ xs.length) : cutV xs none (some (k : Int)) = xs.take k := by
  unfold cutV
  rw [HT.sIx_none, HT.sIx_nat, Nat.min_eq_left h]
  simp
theorem cut_from {xs : List V} {k : Nat} (h : k ≤ xs.length) : cutV xs (some (k : Int)) none = xs.drop k := by
  unfold cutV
  rw [HT.sIx_none, HT.sIx_nat, Nat.min_eq_left h]
  exact List.take_of_length_le (by rw [List.length_drop]; exact Nat.le_refl _)
/-- t[:k], t[k:], whatever object comes -/
theorem slTo_ok {a : Addr} {xs : List V} {n : Nat} (ha : SqT K H a xs) (hn : n ≤ xs.length) (k : ∀ H' u, Same H H' → SqT K H' u (xs.take n) → Q (.ref u) H') : rSlA K (.ref a) none (some (n : Int)) H Q := by
  refine ⟨a, xs, rfl, ha, fun z => ?_, fun _ p np => ?_⟩
  · obtain ⟨_, z2⟩ := z
    rw [show HT.sIx xs.length xs.length (some (n : Int)) = min n xs.length from HT.sIx_nat _ _ n] at z2
    have e : n = xs.length := by omega
    refine k H a (Same.refl _) ?_
    rw [e, List.take_length]
    exact ha
  · refine k _ p (same_new np) (SqT.of ?_)
    rw [upd_same, cut_to hn]
theorem slFrom_ok {a : Addr} {xs : List V} {n : Nat} (ha : SqT K H a xs) (hn : n ≤ xs.length) (k : ∀ H' u, Same H H' → SqT K H' u (xs.drop n) → Q (.ref u) H') : rSlA K (.ref a) (some (n : Int)) none H Q := by
  refine ⟨a, xs, rfl, ha, fun z => ?_, fun _ p np => ?_⟩
  · obtain ⟨z1, _⟩ := z
    rw [show HT.sIx xs.length 0 (some (n : Int)) = min n xs.length from HT.sIx_nat _ _ n] at z1
    refine k H a (Same.refl _) ?_
    rcases Nat.eq_zero_or_pos n with e | e
    · subst e
      exact ha
    · have e2 : xs.length = 0 := by omega
      have e3 := List.eq_nil_of_length_eq_zero e2
      subst e3
      simpa using ha
  · refine k _ p (same_new np) (SqT.of ?_)
    rw [upd_same, cut_from hn]
theorem paired_take {α β : Type} {F : α → β → Prop} : ∀ {l₁ : List α} {l₂ : List β} (i : Nat), Paired F l₁ l₂ → Paired F (l₁.take i) (l₂.take i)
  | _, _, 0, _ => .nil
  | _, _, _ + 1, .nil => .nil
  | _, _, i + 1, .cons r t => .cons r (paired_take i t)
theorem paired_drop {α β : Type} {F : α → β → Prop} : ∀ {l₁ : List α} {l₂ : List β} (i : Nat), Paired F l₁ l₂ → Paired F (l₁.drop i) (l₂.drop i)
  | _, _, 0, h => h
  | _, _, _ + 1, .nil => .nil
  | _, _, i + 1, .cons _ t => paired_drop i t
theorem paired_rev {α β : Type} {F : α → β → Prop} : ∀ {l₁ : List α} {l₂ : List β}, Paired F l₁ l₂ → Paired F l₁.reverse l₂.reverse
  | _, _, .nil => .nil
  | _, _, .cons r t => by
    rw [List.reverse_cons, List.reverse_cons]
    exact paired_append (paired_rev t) (.cons r .nil)
end
end KS
namespace KS
open PySem PySem.Spec PyProof.Rows L2
theorem new_ok {H : Hp} {o : HO} {Q : VK} (k : ∀ H' t, Same H H' → H' t = some o → H t = none → Q (.ref t) H') : ∀ p, H p = none → Q (.ref p) (upd H p o) := fun p np => k _ p (same_new np) upd_same np
theorem pick_ok {items : List V} {r : Int} (h0 : 0 ≤ r) (h1 : r < (items.length : Int)) : ∃ x, x ∈ items ∧ atI items r = some x := by
  obtain ⟨n, rfl⟩ := Int.eq_ofNat_of_zero_le h0
  have hn : n < items.length := by omega
  exact ⟨items[n], List.getElem_mem hn, atI_nat (List.getElem?_eq_getElem hn)⟩
end KS
namespace KS
open PySem PySem.Spec PyProof.Rows L2
/-! ### anything held against a text by != -/
theorem dct_ne_txt {prog : Program} {w : World} {A : Around} {E : Value → Shared → Prop} {s : Shared} {d : Addr} {z : Str} {u : Tok} {od : Option Addr} {es : Array DictEntry} {ep : Nat} {sl : Array (Option Value)} (ho : s.heap.get? d = some { cls := .type "dict", dict := od, data := .dict es ep, slots := sl }) (hu : A.units < cLine) {Q : Value → Shared → Prop} (h : Q (.bool true) s) :
    wpAny (model prog w) A (compareOp .NotEq (.ref d) (.str z u)) Q E s := by
  have hd : s.TypeIs (.ref d) "dict" := ⟨_, ho, rfl⟩
  refine SeqAt.rc_ne_decline_or (k := false) hd (typeIs_str s z u) (by decide) PySem.F.sub_str_dict PySem.F.slot_dict_ne PySem.F.slot_str_ne_refl (fun Q' hq => ?_) (fun Q' hq => ?_)
    (fun Q' hq => wpAny_of_eq (rfl : isSame (.ref d) (.str z u) = pure false) hq) (.inr hu) h
  · refine wpAny_call_entry PySem.F.slot_dict_ne hd PySem.F.entry_dict_ne ?_ (PySem.F.args_dict_ne_2 _ _)
    show wpAny _ _ (Builtin.Dict.dictSlotArgs "__ne__" ⟨[.ref d, .str z u], []⟩ >>= _) _ _ s
    refine wpAny_bind ?_
    unfold Builtin.Dict.dictSlotArgs
    refine wpAny_bind (wpAny_notOrdered_dict hd ?_)
    show wpAny _ _ (pure (Value.ref d, Value.str z u)) _ _ s
    refine wpAny_pure ?_
    refine wpAny_bind (wpAny_isInstance (T := "str") (typeIs_str s z u) PySem.F.sub_str_dict ?_)
    simp only [Bool.not_false, if_true]
    exact wpAny_bind (wpAny_rule (wpAny_pure ⟨_, rfl, hq⟩))
  · have hs : Meets (Builtin.«str.__ne__» ⟨[.str z u, .ref d], []⟩) (fun _ R s => s.heap.get? d = some { cls := .type "dict", dict := od, data := .dict es ep, slots := sl } ∧ R (.ok (.ret .notImplemented)) s) :=
      .of_wp fun prog w A R s h => by
        obtain ⟨hp, g, dd, tk, os⟩ := s
        obtain ⟨hl, h⟩ := h
        wp_walk using wpAny_load hl
        exact ⟨_, rfl, h⟩
    exact call_meets PySem.F.slot_str_ne_refl (typeIs_str s z u) PySem.F.entry_str_ne (PySem.F.args_str_ne_2 _ _) hs ⟨ho, hq⟩
def rNeA (K : PySem.W.Frag) : R2 := fun x y H Q => ∃ (t : String) (z : Str), y = .str z ∧ Oth K H x t ∧ Q (.bl (!decide (x = .str z))) H
theorem op_neA {X : Cx} (hu : X.A.units < cLine) : OpR X (compareOp .NotEq) (rNeA X.K) := by
  intro pins s σ H x y v u Q I rx ry h
  obtain ⟨t, z, rfl, ho, q⟩ := h
  have sc : ∀ {x : V}, scal x (.str z) = true → RelV x v → Q (.bl (!decide (x = .str z))) H → wpAny (model X.prog X.w) X.A (compareOp .NotEq v u) (EP X pins σ Q) X.xe s := fun {x} hs r q => op_ne pins s σ H x (.str z) v u Q I r ry ⟨hs, q⟩
  have rf : ∀ a : Addr, decide (V.ref a = V.str z) = false := fun a => decide_eq_false (fun e => by cases e)
  cases ho with
  | non => exact sc rfl rx q
  | bl b => exact sc rfl rx q
  | int i => exact sc rfl rx q
  | str w => exact sc rfl rx q
  | lst e =>
    rw [rf] at q
    obtain ⟨tk, rfl⟩ := ry
    cases rx
    obtain ⟨its, r, ⟨o, n, ho, hc, _, hd⟩, _⟩ := I.list (SqL.of e)
    exact SeqAt.RcNeAt.list_str z tk ⟨o, ho, hc, n, hd⟩ hu _ _ _ _ ⟨.bl true, H, I, rfl, q⟩
  | tup e =>
    rw [rf] at q
    obtain ⟨tk, rfl⟩ := ry
    cases rx
    obtain ⟨its, r, ⟨o, ho, hc, n, hd⟩, _⟩ := I.tuple e
    exact SeqAt.RcNeAt.tuple_str z tk ⟨o, ho, hc, n, hd⟩ hu _ _ _ _ ⟨.bl true, H, I, rfl, q⟩
  | dct e =>
    rw [rf] at q
    obtain ⟨tk, rfl⟩ := ry
    cases rx
    obtain ⟨_, _, _, _, ⟨cls, dd, data, sl⟩, _, _, e1, ex, dat, _⟩ := I.hok _ _ e
    have hc := ex.1
    simp only at hc dat
    subst hc dat
    exact dct_ne_txt e1 hu ⟨.bl true, H, I, rfl, q⟩
/-! ### the tuple without elements, times a number -/
theorem tup0_mul (l : Addr) (n : Nat) (dd : Option Addr) (sl : Array (Option Value)) (x : Int) (u : Tok) (c0 : (decide (x < -(2 ^ 63)) || decide (x ≥ 2 ^ 63)) = false) :
    Meets (Builtin.«tuple.__mul__» ⟨[.ref l, .int x u], []⟩) (fun _ R s => s.heap.get? l = some { cls := .type "tuple", dict := dd, data := .seq #[] n, slots := sl } ∧ R (.ok (.ret (Value.ref l))) s) :=
  .of_wp fun prog w A R s h => by
    obtain ⟨hp, g, d, tk, os⟩ := s
    obtain ⟨hl, h⟩ := h
    have f1 := AutoSeq1.idx_int
    wp_walk using wpAny_loadPart' hl
    repeat (first
      | (refine wpAny_ite_false (decide_eq_false (by rw [c0]; exact Bool.false_ne_true)) ?_; wp_walk using wpAny_loadPart' hl)
      | (refine wpAny_ite_true (by first | rfl | decide) ?_; wp_walk using wpAny_loadPart' hl))
    exact ⟨_, rfl, h⟩
def rRepA (K : PySem.W.Frag) : R2 := fun x y H Q => ∃ l k xs, x = .ref l ∧ y = .int k ∧ SqT K H l xs ∧ 2 ≤ k ∧ k ≤ 1000 ∧ xs.length ≤ 1000 ∧ (xs = [] → Q (.ref l) H) ∧ (xs ≠ [] → ∀ p, H p = none → Q (.ref p) (upd H p (.tup (List.replicate k.toNat xs).flatten)))
theorem op_repA {X : Cx} : OpR X (binaryOp .Mult) (rRepA X.K) := by
  intro pins s σ H x y v u Q I rx ry h
  obtain ⟨l, k, xs, rfl, rfl, hT, h1, h2, hz, q0, q1⟩ := h
  by_cases he : xs = []
  · subst he
    have q := q0 rfl
    cases rx
    obtain ⟨t, rfl⟩ := ry
    obtain ⟨its, r, ⟨⟨cls, dd, data, sl⟩, ho, hc, n, hd⟩, hs⟩ := I.tuple hT
    simp only at hc hd
    subst hc hd
    have e0 : its = [] := by
      have := r.length
      exact List.eq_nil_of_length_eq_zero this.symm
    subst e0
    have c0 : (decide (k < -(2 ^ 63)) || decide (k ≥ 2 ^ 63)) = false := by
      rw [decide_eq_false (by omega), decide_eq_false (by omega)] <;> rfl
    exact wpAny_binaryOp_repeat_ref (T := "tuple") (U := "int") (by decide) ⟨_, ho, rfl⟩ (fun s' => typeIs_int s' k t) noFill_tuple_mul F.fills_int_mul F.slot_int_rmul repeat_tuple F.slot_int_index.lookup
      (call_meets F.slot_int_rmul (typeIs_int s k t) F.entry_int_rmul (F.args_int_rmul_2 _ _) (int_rmul_tuple k t l #[] n dd sl)
        ⟨ho, rfl, ⟨_, ho, rfl⟩, call_meets F.slot_tuple_mul ⟨_, ho, rfl⟩ F.entry_tuple_mul (F.args_tuple_mul_2 _ _) (tup0_mul l n dd sl k t c0) ⟨ho, .ref l, H, I, rfl, q⟩⟩)
  · exact op_repT pins s σ H _ _ v u Q I rx ry ⟨l, k, xs, rfl, rfl, hT, he, h1, h2, hz, q1 he⟩
end KS
namespace KS
open PySem PySem.Spec PyProof.Rows L2
/-! ### a tuple times a number from 1 on -/
theorem tup1_mul (l : Addr) (its : Array Value) (n : Nat) (dd : Option Addr) (sl : Array (Option Value)) (u : Tok) :
    Meets (Builtin.«tuple.__mul__» ⟨[.ref l, .int 1 u], []⟩) (fun _ R s => s.heap.get? l = some { cls := .type "tuple", dict := dd, data := .seq its n, slots := sl } ∧ R (.ok (.ret (Value.ref l))) s) :=
  .of_wp fun prog w A R s h => by
    obtain ⟨hp, g, d, tk, os⟩ := s
    obtain ⟨hl, h⟩ := h
    have f1 := AutoSeq1.idx_int
    wp_walk using wpAny_loadPart' hl
    repeat (first
      | (refine wpAny_ite_false (by decide) ?_; wp_walk using wpAny_loadPart' hl)
      | (refine wpAny_ite_true (by first | rfl | decide | simp) ?_; wp_walk using wpAny_loadPart' hl))
    exact ⟨_, rfl, h⟩
/-- (..) * n, not empty: for 1 the tuple itself -/
def rRep1 (K : PySem.W.Frag) : R2 := fun x y H Q => ∃ l k xs, x = .ref l ∧ y = .int k ∧ H l = some (.tup xs) ∧ 1 ≤ k ∧ k ≤ 1000 ∧ xs.length ≤ 1000 ∧ xs ≠ [] ∧ ∀ H' p, Same H H' → H' p = some (.tup (List.replicate k.toNat xs).flatten) → Q (.ref p) H'
theorem op_rep1 {X : Cx} : OpR X (binaryOp .Mult) (rRep1 X.K) := by
  intro pins s σ H x y v u Q I rx ry h
  obtain ⟨l, k, xs, rfl, rfl, hT, h1, h2, hz, hne, q⟩ := h
  by_cases he : k = 1
  · subst he
    cases rx
    obtain ⟨t, rfl⟩ := ry
    obtain ⟨its, r, ⟨⟨cls, dd, data, sl⟩, ho, hc, n, hd⟩, hs⟩ := I.tuple (SqT.of hT)
    simp only at hc hd
    subst hc hd
    refine wpAny_binaryOp_repeat_ref (T := "tuple") (U := "int") (by decide) ⟨_, ho, rfl⟩ (fun s' => typeIs_int s' 1 t) noFill_tuple_mul F.fills_int_mul F.slot_int_rmul repeat_tuple F.slot_int_index.lookup
      (call_meets F.slot_int_rmul (typeIs_int s 1 t) F.entry_int_rmul (F.args_int_rmul_2 _ _) (int_rmul_tuple 1 t l its.toArray n dd sl)
        ⟨ho, rfl, ⟨_, ho, rfl⟩, call_meets F.slot_tuple_mul ⟨_, ho, rfl⟩ F.entry_tuple_mul (F.args_tuple_mul_2 _ _) (tup1_mul l its.toArray n dd sl t) ⟨ho, .ref l, H, I, rfl, q H l (Same.refl _) ?_⟩⟩)
    rw [hT]
    simp
  · exact op_repT pins s σ H _ _ v u Q I rx ry ⟨l, k, xs, rfl, rfl, SqT.of hT, hne, by omega, h2, hz, fun p np => q _ p (same_new np) upd_same⟩
section
variable {K : PySem.W.Frag} {H : Hp} {Q : VK}
/-- a + b, b made at run time and not empty -/
theorem catL_ok {a b : Addr} {xs ys : List V} (ha : SqT K H a xs) (hb : H b = some (.tup ys)) (ne : ys ≠ []) (hl : xs.length + ys.length ≤ 64)
    (k : ∀ H' u, Same H H' → H' u = some (.tup (xs ++ ys)) → Q (.ref u) H') : rCatA K (.ref a) (.ref b) H Q := by
  refine ⟨a, b, xs, ys, rfl, rfl, ha, SqT.of hb, Nat.le_of_lt (small64 hl), fun e => ?_, fun _ e => absurd e ne, fun _ _ p np => ?_⟩
  · subst e
    exact k H b (Same.refl _) hb
  · exact k _ p (same_new np) upd_same
/-- a + b, a made at run time and not empty -/
theorem catR_ok {a b : Addr} {xs ys : List V} (ha : H a = some (.tup xs)) (hb : SqT K H b ys) (ne : xs ≠ []) (hl : xs.length + ys.length ≤ 64)
    (k : ∀ H' u, Same H H' → H' u = some (.tup (xs ++ ys)) → Q (.ref u) H') : rCatA K (.ref a) (.ref b) H Q := by
  refine ⟨a, b, xs, ys, rfl, rfl, SqT.of ha, hb, Nat.le_of_lt (small64 hl), fun e => absurd e ne, fun _ e => ?_, fun _ _ p np => ?_⟩
  · subst e
    exact k H a (Same.refl _) (by rw [List.append_nil]; exact ha)
  · exact k _ p (same_new np) upd_same
end
end KS
namespace KS
open PySem PySem.Spec PyProof.Rows L2
/-! ### lists of natural numbers as values -/
def natV (k : List Nat) : List V := k.map fun n : Nat => V.int (n : Int)
theorem natV_len (k : List Nat) : (natV k).length = k.length := List.length_map ..
theorem natV_take (k : List Nat) (i : Nat) : (natV k).take i = natV (k.take i) := (List.map_take ..).symm
theorem natV_drop (k : List Nat) (i : Nat) : (natV k).drop i = natV (k.drop i) := (List.map_drop ..).symm
theorem natV_app (a b : List Nat) : natV a ++ natV b = natV (a ++ b) := (List.map_append ..).symm
theorem natV_get {k : List Nat} {i : Nat} (h : i < k.length) : (natV k)[i]? = some (V.int ((k.getD i 0 : Nat) : Int)) := by
  unfold natV
  rw [List.getElem?_map, List.getElem?_eq_getElem h, List.getD_eq_getElem?_getD, List.getElem?_eq_getElem h]
  rfl
theorem natV_ints (k : List Nat) : natV k = (k.map fun n : Nat => (n : Int)).map V.int := by
  unfold natV
  rw [List.map_map]
  rfl
theorem natV_sum : ∀ k : List Nat, (k.map fun n : Nat => (n : Int)).sum = ((k.sum : Nat) : Int)
  | [] => rfl
  | x :: k => by
    rw [List.map_cons, List.sum_cons, natV_sum k, List.sum_cons]
    omega
end KS
namespace KS
open PySem PySem.Spec PyProof.Rows L2
section
variable {K : PySem.W.Frag} {H : Hp} {Q : VK}
/-- t[i:j] -/
theorem slMid_ok2 {a : Addr} {xs : List V} {i j : Nat} (ha : SqT K H a xs) (hj : j ≤ xs.length) (hij : i ≤ j) (k : ∀ H' u, Same H H' → SqT K H' u ((xs.take j).drop i) → Q (.ref u) H') : rSlA K (.ref a) (some (i : Int)) (some (j : Int)) H Q := by
  have e1 : HT.sIx xs.length 0 (some (i : Int)) = min i xs.length := HT.sIx_nat _ _ i
  have e2 : HT.sIx xs.length xs.length (some (j : Int)) = min j xs.length := HT.sIx_nat _ _ j
  refine ⟨a, xs, rfl, ha, fun z => ?_, fun _ p np => ?_⟩
  · rw [e1, e2] at z
    have a2 : j = xs.length := by omega
    refine k H a (Same.refl _) ?_
    rw [a2, List.take_length]
    rcases Nat.eq_zero_or_pos i with q | q
    · rw [q]
      exact ha
    · have e0 : xs = [] := List.eq_nil_of_length_eq_zero (by omega)
      subst e0
      simpa using ha
  · refine k _ p (same_new np) (SqT.of ?_)
    rw [upd_same]
    unfold cutV
    rw [e1, e2, Nat.min_eq_left hj, Nat.min_eq_left (Nat.le_trans hij hj), List.drop_take]
end
end KS
namespace KS
open PySem PySem.Spec PyProof.Rows L2
/-- a comprehension over enumerate of a list -/
theorem lc_enum {K : PySem.W.Frag} {a : Addr} {xs : List V} {g : TG} {tt : TT} {te : TE} {vs : List Nat} {σ : L2.St} {H1 : Hp} {D : Addr} {Qd : Hp → Prop} (Pv : Nat → Hp → Prop) (h0 : Pv 0 (upd H1 D (.lst []))) (hl : ∀ i H, i ≤ xs.length → Pv i H → SqL K H a xs)
    (hs : ∀ i x H T, xs[i]? = some x → Pv i H → H T = none → g (.ref T) (wipe σ vs) (upd H T (.tup [.int (i : Nat), x])) fun σ2 H2 => wipe σ2 vs = wipe σ vs ∧ tt σ2 H2 fun b H3 =>
      if b = true then te σ2 H3 fun y H4 => ∃ acc, H4 D = some (.lst acc) ∧ acc.length < sizeLine ∧ Pv (i + 1) (upd H4 D (.lst (acc ++ [y]))) else Pv (i + 1) H3) (hd : ∀ H, Pv xs.length H → Qd H) :
    ∃ W : Nat → Nat → Hp → Prop, (∃ m, W 0 m (upd H1 D (.lst []))) ∧ ∀ i m H, W i m H →
      ((Ite K a).stop i H ∧ Qd H) ∨ ((Ite K a).go i H ∧ ∃ Nx : Hp → Prop, (∀ H', Nx H' → ∃ m', m' < m ∧ W (i + 1) m' H') ∧ ∀ x H', (Ite K a).yld i H x H' → g x (wipe σ vs) H' fun σ2 H2 => wipe σ2 vs = wipe σ vs ∧ tt σ2 H2 fun b H3 =>
        if b = true then te σ2 H3 fun y H4 => ∃ acc, H4 D = some (.lst acc) ∧ acc.length < sizeLine ∧ Nx (upd H4 D (.lst (acc ++ [y]))) else Nx H3) := by
  refine ⟨fun i m H => m = xs.length - i ∧ i ≤ xs.length ∧ Pv i H, ⟨xs.length, by simp, Nat.zero_le _, h0⟩, ?_⟩
  rintro i m H ⟨rfl, hi, p⟩
  have q := hl i H hi p
  by_cases hlt : i < xs.length
  · refine .inr ⟨⟨xs, xs[i], q, by simp [hlt]⟩, Pv (i + 1), fun H' p' => ⟨xs.length - (i + 1), by omega, rfl, hlt, p'⟩, fun x H' y => ?_⟩
    obtain ⟨T, x1, rfl, nT, rfl, hx⟩ := y
    exact hs i x1 H T (hx _ q) p nT
  · have e : i = xs.length := by omega
    subst e
    exact .inl ⟨⟨xs, q, Nat.le_refl _⟩, hd H p⟩
/-- what filling_of_marks must keep -/
def spMarks (K : PySem.W.Frag) : Sp := fun xs H Q _ => ∃ (a : Addr) (ms : List Bool), xs = [.ref a] ∧ H a = some (.lst (ms.map V.bl)) ∧ ms.length ≤ 24 ∧ ∀ H' u, Same H H' → SqT K H' u ((filM ms).map V.int) → Q (.ref u) H'
theorem filt_succ {p : Nat → Bool} (i : Nat) : (List.range (i + 1)).filter p = (List.range i).filter p ++ (if p i = true then [i] else []) := by
  rw [List.range_succ, List.filter_append, List.filter_cons]
  rfl
theorem filt_len {p : Nat → Bool} {i : Nat} : ((List.range i).filter p).length ≤ i := by
  have := List.length_filter_le p (List.range i)
  rw [List.length_range] at this
  exact this
end KS
namespace KS
open PySem PySem.Spec PyProof.Rows L2
/-- t.index(x), t a tuple of plain data, x plain data -/
def rIndexD (K : PySem.W.Frag) : V → List V → Hp → VK → Prop := fun x xs H Q => ∃ (y : V) (d : PyData) (ds : List PyData) (j : Nat) (z : PyData), xs = [y] ∧ Dp K H y d ∧ Dp K H x (.tuple ds) ∧ SeqAt.shaped d = true ∧ SeqAt.shaped (.tuple ds) = true ∧
  ds[j]? = some z ∧ PyData.eqv z d = true ∧ (∀ (m : Nat) (z' : PyData), m < j → ds[m]? = some z' → PyData.eqv z' d = false) ∧ Q (.int (j : Nat)) H
theorem mt_indexD {X : Cx} (hu : X.A.units + 65 < cLine) : MtR X "tuple.index" (rIndexD X.K) := by
  intro pins s σ H x xs v us Q I rx rs h
  obtain ⟨y, d, ds, j, z, rfl, hd, he, sd, se, hz, hzd, hno, q⟩ := h
  cases rs with
  | cons ry rt =>
    rename_i uy ut
    cases rt
    obtain ⟨as, r1⟩ := Dp.reads I d y _ hd ry
    obtain ⟨bs, r2⟩ := Dp.reads I (.tuple ds) x v he rx
    cases r2 with
    | @tuple a o vs n ds' as' h1 h2 h3 h4 =>
      obtain ⟨cls, dd, dt, sl⟩ := o
      simp only at h2 h3
      subst h2
      subst h3
      have hm := SeqAt.readsAll_map ds _ _ (SeqAt.canLay_of_shaped se) h4
      have hat : ∀ (m : Nat) (hm' : m < vs.size), ds[m]? = some (SeqAt.readOf s.heap vs[m]) := fun m hm' => by
        rw [← hm, List.getElem?_map, Array.getElem?_toList, Array.getElem?_eq_getElem hm']
        rfl
      have hsz : vs.size = ds.length := by
        rw [← hm, List.length_map]
        simp
      have hj : j < vs.size := by
        rw [hsz]
        exact (List.getElem?_eq_some_iff.mp hz).1
      refine call_meets PySem.F.slot_tuple_index ⟨_, h1, rfl⟩ PySem.F.entry_tuple_index (PySem.F.args_tuple_index_2 _ _)
        (TI.tuple_indexAt a vs n dd sl uy (fun y => PyData.eqv (SeqAt.readOf s.heap y) d) j hj ?_ ?_)
        ⟨h1, SeqAt.items_eqAt h4 r1 (SeqAt.canLay_of_shaped se) (SeqAt.canLay_of_shaped sd) ?_, ⟨.int (j : Nat), H, I.tok _, ⟨_, rfl⟩, q⟩⟩
      · have e := hat j hj
        rw [hz] at e
        show PyData.eqv (SeqAt.readOf s.heap vs[j]) d = true
        rw [← Option.some.inj e]
        exact hzd
      · intro m hm' hmj
        exact hno m _ hmj (hat m hm')
      · have := SeqAt.depth_of_shaped sd
        have h2 : min (PyData.depthAll ds) d.depth ≤ d.depth := Nat.min_le_right _ _
        omega
end KS
namespace KS
open PySem PySem.Spec PyProof.Rows L2
/-- a tuple of xs that is known to have no dict of its own -/
def TupN (H : Hp) (p : Addr) (xs : List V) : Prop := ∃ ob : Obj, H p = some (.frz ob (.tup xs)) ∧ ob.cls = .type "tuple" ∧ ob.dict = none
theorem TupN.sq {K : PySem.W.Frag} {H : Hp} {p : Addr} {xs : List V} (h : TupN H p xs) : SqT K H p xs := by
  obtain ⟨ob, e, _⟩ := h
  exact .inl (.inr ⟨ob, e⟩)
theorem TupN.same {H H' : Hp} {p : Addr} {xs : List V} (s : Same H H') (h : TupN H p xs) : TupN H' p xs := by
  obtain ⟨ob, e, c⟩ := h
  exact ⟨ob, s _ _ e, c⟩
/-- tuple(list): the new tuple has no dict -/
def rTupFz (K : PySem.W.Frag) : List V → Hp → VK → Prop := fun xs H Q => ∃ p ys, xs = [.ref p] ∧ SqL K H p ys ∧ ∀ l ob, H l = none → ob.cls = Value.type "tuple" → ob.dict = none → Q (.ref l) (upd H l (.frz ob (.tup ys)))
theorem cr_tupFz {X : Cx} : CallR X (.type "tuple") (rTupFz X.K) := by
  rintro pins s σ H xs us Q I r ⟨p, ys, rfl, hq, q⟩
  obtain ⟨u, rfl, rx⟩ := vals1 r
  cases rx
  obtain ⟨its, r', pl, hz⟩ := I.list hq
  have hlen := r'.length
  refine call_tuple_list pl.isList (fun h' kp => ?_) (by simp only [List.size_toArray] <;> omega)
  have I1 : Inv X pins σ H { s with heap := h' } := I.kept (t' := s.toks) kp
  have new : ObjOk X.prog X.w (upd H h'.objs.size (.frz { cls := .type "tuple", data := .seq its.toArray } (.tup ys))) (h'.push { cls := .type "tuple", data := .seq its.toArray }) h'.objs.size (.frz { cls := .type "tuple", data := .seq its.toArray } (.tup ys)) :=
    ⟨Heap.get?_push_size _ rfl, hz, its, r', IsTup.new _ _⟩
  exact ⟨.ref h'.objs.size, _, I1.laid (t' := s.toks) (fun b o e => Heap.get?_push_of_some _ e) (Nat.le_refl _) new, rfl, q _ _ (I1.hok.fresh (Nat.le_refl _)) rfl rfl⟩
/-- t.m(..) of such a tuple -/
def tBMT (r : V → List V → Hp → VK → Prop) (to : TE) (t : TA) : TE := fun σ H Q => to σ H fun x H1 => (∃ p ys, x = .ref p ∧ TupN H1 p ys) ∧ t σ H1 fun xs H2 => r x xs H2 Q
theorem pe_bmT {X : Cx} {o e : Expr} {es : List Expr} {to : TE} {t : TA} {name : Str} {apos cpos : Pos} {id : String} {r : V → List V → Hp → VK → Prop} (pa : PlainAttrs "tuple") (slot : Slot "tuple" name id)
    (hty : typeOf (.builtin id) = pure (.type "method_descriptor")) (hm : MtR X id r) (ho : PE X o to) (ha : PA X (e :: es) t)
    (hbase : attributeBase o name X.env (eval o X.env) = eval o X.env := by rfl)
    (hfew : ((backTo cpos (starEach (e :: es) X.env)).all (fun x => !x.1) && (backToKw cpos (keywordEach [] X.env)).all (fun x => x.1.isSome) && decide ((e :: es).length + ([] : List Keyword).length + (if ([] : List Keyword).isEmpty then 0 else 1) < 30)) = true := by rfl)
    (hline : (apos.endLine == cpos.line) = true := by rfl) (hs : starEach (e :: es) X.env = (false, eval e X.env) :: starEach es X.env := by rfl) (hplain : (backTo cpos (starEach es X.env)).any (·.1) = false := by rfl) :
    PE X (.Call (.Attribute o name apos) (e :: es) [] cpos) (tBMT r to t) := by
  constructor
  intro pins s σ H Q I h
  refine wpAny_Call_method_late hbase hfew hline rfl (thn (ho.run pins s σ H _ I h) ?_)
  rintro v s1 ⟨x, H1, I1, r1, ⟨p, ys, rfl, ob, hp, hc, hd⟩, q1⟩
  cases r1
  have hob : s1.heap.get? p = some ob := (I1.hok p _ hp).1
  refine ⟨"tuple", id, pa, slot, hty, ⟨ob, hob, hc⟩, ?_, ?_⟩
  · intro a ea
    cases ea
    exact ⟨ob, hob, hd⟩
  have hA := ha.run cpos pins s1 σ H1 _ I1 q1
  rw [hs] at hA ⊢
  refine Calls.callWith_builtin (by show (false || (backTo cpos (starEach es X.env)).any (·.1)) = false; rw [hplain] <;> rfl) (Calls.evalArgs_plain (thn hA ?_))
  rintro us s2 ⟨vs, H2, I2, r2, q2⟩
  exact hm pins s2 σ H2 (.ref p) vs (.ref p) us Q I2 rfl r2 q2
end KS
/-! the draws of records: things in a drawn order, plans of so many cells -/
namespace KS
open PySem PySem.Spec PyProof.Rows L2
theorem sqL_same {K : PySem.W.Frag} {H H' : Hp} {a : Addr} {xs : List V} (e : Same H H') (h : SqL K H a xs) : SqL K H' a xs := by
  rcases h with (h | ⟨ob, h⟩) | h
  · exact .inl (.inl (e _ _ h))
  · exact .inl (.inr ⟨ob, e _ _ h⟩)
  · exact .inr h
theorem map_eraseS {f : Str → V} : ∀ (l : List Str) (k : Nat), (l.map f).eraseIdx k = (l.eraseIdx k).map f
  | [], _ => rfl
  | _ :: _, 0 => rfl
  | x :: l, k + 1 => by
    show f x :: (l.map f).eraseIdx k = f x :: (l.eraseIdx k).map f
    rw [map_eraseS l k]
theorem eraseS_perm : ∀ {l : List Str} {k : Nat} (h : k < l.length), l.Perm (l[k] :: l.eraseIdx k)
  | [], _, h => by cases h
  | _ :: _, 0, _ => .refl _
  | x :: l, k + 1, h => by
    have h' : k < l.length := Nat.lt_of_succ_lt_succ h
    exact (List.Perm.cons x (eraseS_perm h')).trans (.swap ..)
/-- if draw(4) == 0: high, wide = 8, 8 -/
theorem if_88 {K : PySem.W.Frag} {p : Addr} {m wide high : Int} {σr : L2.St} {H2 : Hp} {D : Ends} (po : PoolO (H2 p)) (hm : m ≤ 64) (hw : 1 ≤ wide ∧ wide ≤ 8) (hh : 1 ≤ high ∧ high ≤ 8) (hp : m ≤ high * wide)
    (k : ∀ (wide' high' : Int) (H3 : Hp), KeepX p H2 H3 → PoolO (H3 p) → 1 ≤ wide' ∧ wide' ≤ 8 → 1 ≤ high' ∧ high' ≤ 8 → m ≤ high' * wide' → D.nx (some (.ref p) :: some (.int m) :: some (.int wide') :: some (.int high') :: σr) H3) :
    tIfS (tTest (tOp rEq (tDr (tC (.int 4))) (tC (.int 0)))) (tAsg (tTup (tCons (tC (.int 8)) (tCons (tC (.int 8)) tNil))) (gTup K 2 (gCons (gName 3) (gCons (gName 2) gNil)))) tNext D
      (some (.ref p) :: some (.int m) :: some (.int wide) :: some (.int high) :: σr) H2 := by
  refine ⟨_, rfl, p, 4, rfl, po, by decide, by decide, fun H3 a k3 po3 a0 a1 => ⟨rfl, _, rfl, ite2 (fun e => ?_) (fun e => ?_)⟩⟩
  · refine ⟨(by show 2 ≤ sizeLine; decide), fun T nT => ?_⟩
    have s4 := same_new (o := .tup [.int 8, .int 8]) nT
    refine ⟨T, _, rfl, SqT.of upd_same, rfl, _, _, rfl, _, _, rfl, rfl, ?_⟩
    exact k 8 8 _ (k3.trans (.of_same s4)) (po3.same s4) (by decide) (by decide) (by omega)
  · exact k wide high H3 k3 po3 hw hh hp
theorem high_ok {m wd r : Int} (hm : 1 ≤ m) (hm12 : m ≤ 12) (hw : 1 ≤ wd ∧ wd ≤ 8) (h8 : 8 < m → 2 ≤ wd) (hr : 0 ≤ r) {hg : Int} (e : hg = if (m + wd - 1) / wd + r < 8 then (m + wd - 1) / wd + r else 8) :
    (1 ≤ hg ∧ hg ≤ 8) ∧ m ≤ hg * wd := by
  have q1 : m ≤ (m + wd - 1) / wd * wd := by
    have h := Int.lt_ediv_add_one_mul_self (m + wd - 1) (show 0 < wd by omega)
    have e2 : ((m + wd - 1) / wd + 1) * wd = (m + wd - 1) / wd * wd + wd := by rw [Int.add_mul, Int.one_mul]
    omega
  have q0 : 1 ≤ (m + wd - 1) / wd := by
    rcases Int.lt_or_le 0 ((m + wd - 1) / wd) with h | h
    · omega
    · have := Int.mul_le_mul_of_nonneg_right h (show 0 ≤ wd by omega)
      rw [Int.zero_mul] at this
      omega
  split at e
  · refine ⟨by omega, ?_⟩
    have : (m + wd - 1) / wd * wd ≤ hg * wd := Int.mul_le_mul_of_nonneg_right (by omega) (by omega)
    omega
  · refine ⟨by omega, ?_⟩
    subst e
    omega
def spMixedS (K : PySem.W.Frag) : Sp := fun vs H Q _ => ∃ (p a : Addr) (ss : List Str), vs = [.ref p, .ref a] ∧ PoolO (H p) ∧ (SqL K H a (ss.map V.str) ∨ SqT K H a (ss.map V.str)) ∧ a ≠ p ∧ ss.length ≤ 60 ∧
  ∀ (H' : Hp) (t : Addr) (ss' : List Str), KeepX p H H' → PoolO (H' p) → TupN H' t (ss'.map V.str) → H t = none → ss'.Perm ss → Q (.ref t) H'
abbrev sMixedS : Stmt := topS 33
abbrev nMixedS : List Str := ["_law_pool_here", "_law_things", "_law_left", "_law_found", "_law_k"]
theorem scMixedS : FnScope nMixedS ["_law_pool_here", "_law_things"] (defScope sMixedS) := ⟨rfl, rfl, rfl, by decide +kernel, rfl, by decide +kernel, by decide +kernel⟩
section
variable {P : Program} {w : World} {K : PySem.W.Frag} {mg : Str → Option Value} {base : Heap}
theorem ok_mixedS {f fD : Addr} {fd fdD : FuncData} (F : Fun K "_law_mixed" "_law_mixed" sMixedS f fd)
    (GD : FnOk P w K mg base CX0 1 fD fdD ["_law_pool_here", "_law_most"] spDraw) (bD : Binds K fdD ["_law_pool_here", "_law_most"] []) (gD : mg "_law_draw" = some (.ref fD)) (kD : PySem.W.keepIn K (.ref fD) = true)
    (mL : mg "list" = none) (mr : mg "range" = none) (ml : mg "len" = none) (mt : mg "tuple" = none) : FnOk P w K mg base CX0 2 f fd ["_law_pool_here", "_law_things"] (spMixedS K) := by
  refine F.ok scMixedS (fun vs H Q E h => ?_) (fun cdv A outer s H vs Q E hr h => ?_)
  · obtain ⟨p, m, ss, rfl, _⟩ := h
    rfl
  · obtain ⟨p, a, ss, rfl, po, ha, nap, n1, q⟩ := h
    have nd := scMixedS.nd
    refine ⟨_, pss_cons (ps_par (i := 2) (j := 3) (by rfl) nd rfl rfl (by decide) rfl rfl
        (pa_cons (pe_callTy call_list_of (by rfl) mL (by decide +kernel) (pa_cons (pv 1) pa_nil)) (pa_cons (pe_lst pa_nil) pa_nil)) (by rfl))
      (pss_cons (ps_for PassesOwn.never rfl (pi_range1 (by rfl) mr (pa_cons (pe_callB call_len_seq (by rfl) ml PySem.boot_len (pa_cons (pv 1) pa_nil)) pa_nil)) (pg_name (i := 4) nd rfl (.inl rfl))
        (pss_one (ps_expr (pe_bm PySem.F.plainAttrs_list PySem.F.slot_list_append PySem.F.type_list_append mt_append (pv 3)
          (pa_cons (pe_bm PySem.F.plainAttrs_list PySem.F.slot_list_pop PySem.F.type_list_pop mt_popAt (pv 2)
            (pa_cons (pe_call GD hr (by rfl) gD kD bD .nil pass0 (pa_cons (pv 0) (pa_cons (pe_callB call_len_seq (by rfl) ml PySem.boot_len (pa_cons (pv 2) pa_nil)) pa_nil))) pa_nil)) pa_nil)))))
      (pss_one (ps_ret (pe_callTy cr_tupFz (by rfl) mt (by decide +kernel) (pa_cons (pv 3) pa_nil))))), ?_⟩
    refine ⟨_, rfl, a, _, rfl, ha, fun e ne => ?_⟩
    have s2 := same_new (o := .lst (ss.map V.str)) ne
    refine ⟨Nat.zero_le _, fun o no => ⟨_, _, rfl, ?_⟩⟩
    have so := same_new (o := .lst []) no
    have he : upd H e (.lst (ss.map V.str)) e = some (.lst (ss.map V.str)) := upd_same
    have neo : e ≠ o := ne_of_none he no
    have hep : e ≠ p := Ne.symm (po.ne ne)
    have npo : p ≠ o := (po.same s2).ne no
    have ho0 : H o = none := s2.free no
    have ha2 : SqL K (upd (upd H e (.lst (ss.map V.str))) o (.lst [])) a (ss.map V.str) ∨ SqT K (upd (upd H e (.lst (ss.map V.str))) o (.lst [])) a (ss.map V.str) :=
      ha.imp (fun z => sqL_same (s2.trans so) z) (fun z => same_seqT (s2.trans so) z)
    refine ⟨_, rfl, a, _, rfl, ha2, _, rfl, by omega, by rw [List.length_map]; omega, for_range (lo := 0) (n := (((ss.map V.str).length : Nat) : Int).toNat) (fun i σ G' => ∃ (y6 : Option V) (ls fs : List Str),
      σ = [some (.ref p), some (.ref a), some (.ref e), some (.ref o), y6] ∧ KeepX p H G' ∧ PoolO (G' p) ∧ G' e = some (.lst (ls.map V.str)) ∧ G' o = some (.lst (fs.map V.str)) ∧
      fs.length = i ∧ (fs ++ ls).Perm ss) ?_ ?_ ?_⟩
    · exact ⟨none, ss, [], rfl, (KeepX.of_same s2).trans (.of_same so), (po.same s2).same so, so _ _ he, upd_same, rfl, .refl _⟩
    · rintro i σ G' hi ⟨y6, ls, fs, rfl, kx', po2, he', ho', fl, v9'⟩
      have hlen := v9'.length_eq
      rw [List.length_append] at hlen
      have hll : (ls.map V.str).length = ls.length := List.length_map ..
      rw [Int.toNat_natCast, List.length_map] at hi
      refine ⟨_, rfl, .inl ⟨rfl, _, SqL.of ho'⟩, _, rfl, .inl ⟨rfl, _, SqL.of he'⟩, _, rfl, _, rfl, e, _, rfl, .inl (SqL.of he'), p, _, rfl, po2, by omega, by omega, fun G5 r k5 po5 r0 r1 => ?_⟩
      have hlt : r.toNat < ls.length := by omega
      have he5 := k5 _ _ hep he'
      have ho5 := k5 _ _ (Ne.symm npo) ho'
      refine ⟨e, ls.map V.str, r, r.toNat, .str ls[r.toNat], rfl, rfl, he5, by omega, by omega, ?_, ?_, ?_⟩
      · unfold seqIndex?
        have e1 : ¬ r < 0 := by omega
        simp only [if_neg e1]
        rw [if_pos]
        simp only [Bool.and_eq_true, decide_eq_true_eq]
        exact ⟨r0, r1⟩
      · rw [List.getElem?_map, List.getElem?_eq_getElem hlt]
        rfl
      · refine ⟨o, fs.map V.str, _, rfl, rfl, by rw [upd_ne (Ne.symm neo)]; exact ho5, ?_, ?_⟩
        · rw [List.length_map]
          exact small64 (by omega)
        · refine ⟨_, ls.eraseIdx r.toNat, fs ++ [ls[r.toNat]], rfl, ?_, ?_, ?_, ?_, ?_, ?_⟩
          · intro b u nb z
            rw [upd_ne (ne_of_none z ho0), upd_ne (ne_of_none z ne)]
            exact k5 _ _ nb (kx' _ _ nb z)
          · rw [upd_ne npo, upd_ne (Ne.symm hep)]
            exact po5
          · rw [upd_ne neo, upd_same, map_eraseS]
          · rw [upd_same, List.map_append]
            rfl
          · rw [List.length_append, fl]
            rfl
          · refine List.Perm.trans ?_ v9'
            rw [List.append_assoc]
            refine List.Perm.append_left _ ?_
            exact (eraseS_perm hlt).symm
    · rintro σ G' ⟨y6, ls, fs, rfl, kx', po2, he', ho', fl, v9'⟩
      have hlen := v9'.length_eq
      rw [List.length_append] at hlen
      rw [Int.toNat_natCast, List.length_map] at fl
      have e0 : ls = [] := List.eq_nil_of_length_eq_zero (by omega)
      subst e0
      rw [List.append_nil] at v9'
      refine ⟨_, rfl, o, _, rfl, SqL.of ho', fun l ob nl oc od => ?_⟩
      have sl := same_new (o := .frz ob (.tup (fs.map V.str))) nl
      have nlp : l ≠ p := Ne.symm (po2.ne nl)
      exact q _ l fs (kx'.trans (.of_same sl)) (po2.same sl) ⟨ob, upd_same, oc, od⟩ (by
        cases z : H l with
        | none => rfl
        | some u =>
          have := kx' l u nlp z
          rw [nl] at this
          cases this) v9'
end
def spSpots58 (K : PySem.W.Frag) : Sp := fun vs H Q _ => ∃ (p : Addr) (m : Nat), vs = [.ref p, .int (m : Nat)] ∧ PoolO (H p) ∧ 2 ≤ m ∧ m ≤ 12 ∧
  ∀ H' a cs, KeepX p H H' → PoolO (H' p) → PlanAt K H' a cs → Good cs → cs.length = m → Q (.ref a) H'
abbrev sSpots58 : Stmt := topS 34
abbrev nSpots58 : List Str := ["_law_pool_here", "_law_many", "_law_wide", "_law_high", "_law_top", "_law_left", "_law_every", "_law_step", "_law_side"]
theorem scSpots58 : FnScope nSpots58 ["_law_pool_here", "_law_many"] (defScope sSpots58) := ⟨rfl, rfl, rfl, by decide +kernel, rfl, by decide +kernel, by decide +kernel⟩
section
variable {P : Program} {w : World} {K : PySem.W.Frag} {mg : Str → Option Value} {base : Heap}
theorem ok_spots58 {f fD : Addr} {fd fdD : FuncData} (F : Fun K "_law_spots" "_law_spots" sSpots58 f fd) (GD : FnOk P w K mg base CX0 1 fD fdD ["_law_pool_here", "_law_most"] spDraw)
    (bD : Binds K fdD ["_law_pool_here", "_law_most"] []) (gD : mg "_law_draw" = some (.ref fD)) (kD : PySem.W.keepIn K (.ref fD) = true)
    (mn : mg "min" = none) (mx : mg "max" = none) (mI : mg "int" = none) (mr : mg "range" = none) (ml : mg "len" = none) (mt : mg "tuple" = none) :
    FnOk P w K mg base CX0 2 f fd ["_law_pool_here", "_law_many"] (spSpots58 K) := by
  refine F.ok scSpots58 (fun vs H Q E h => ?_) (fun cdv A outer s H vs Q E hr h => ?_)
  · obtain ⟨p, m, rfl, _⟩ := h
    rfl
  · obtain ⟨p, m, rfl, po, m0, m1, q⟩ := h
    have nd := scSpots58.nd
    refine ⟨_, pss_cons (ps_set (i := 2) nd rfl (.inl rfl) (pe_callB (call_max2 rfl) (by rfl) mx (by decide +kernel) (pa_cons
          (pe_op op_add pe_int (pe_callTy call_int1 (by rfl) mI (by decide +kernel) (pa_cons (pe_cmpR op_gt (pv 1) pe_int (nomark _)) pa_nil)))
          (pa_cons (pe_op op_add pe_int (pe_call GD hr (by rfl) gD kD bD .nil pass0 (pa_cons (pv 0) (pa_cons (pe_callB (call_min2 rfl) (by rfl) mn (by decide +kernel) (pa_cons pe_int (pa_cons (pv 1) pa_nil))) pa_nil)))) pa_nil))))
      (pss_cons (ps_set (i := 3) nd rfl (.inl rfl) (pe_callB (call_min2 rfl) (by rfl) mn (by decide +kernel) (pa_cons pe_int (pa_cons
          (pe_op op_add (pe_op op_fdiv (pe_op op_sub (pe_op op_add (pv 1) (pv 2)) pe_int) (pv 2)) (pe_call GD hr (by rfl) gD kD bD .nil pass0 (pa_cons (pv 0) (pa_cons pe_int pa_nil)))) pa_nil))))
      (pss_cons (ps_if (pt_cmpR op_eq (pe_call GD hr (by rfl) gD kD bD .nil pass0 (pa_cons (pv 0) (pa_cons pe_int pa_nil))) pe_int (nomark _)) (pss_one (ps_asg (pe_tup (pa_cons pe_int (pa_cons pe_int pa_nil))) (pg_tup (by rfl) (pgs_cons (pg_name (i := 3) nd rfl (.inl rfl)) (pgs_cons (pg_name (i := 2) nd rfl (.inl rfl)) pgs_nil))))) pss_nil)
      (pss_cons (ps_asg (pe_tup (pa_cons (pe_call GD hr (by rfl) gD kD bD .nil pass0 (pa_cons (pv 0) (pa_cons (pe_op op_sub pe_int (pv 3)) pa_nil)))
            (pa_cons (pe_call GD hr (by rfl) gD kD bD .nil pass0 (pa_cons (pv 0) (pa_cons (pe_op op_sub pe_int (pv 2)) pa_nil))) (pa_cons (pe_lst pa_nil) pa_nil))))
          (pg_tup (by rfl) (pgs_cons (pg_name (i := 4) nd rfl (.inr rfl)) (pgs_cons (pg_name (i := 5) nd rfl (.inr rfl)) (pgs_cons (pg_name (i := 6) nd rfl (.inl rfl)) pgs_nil)))))
      (pss_cons (ps_for PassesOwn.never rfl (pi_range1 (by rfl) mr (pa_cons (pv 3) pa_nil)) (pg_name (i := 7) nd rfl (.inr rfl))
          (pss_one (ps_expr (pe_bm PySem.F.plainAttrs_list PySem.F.slot_list_extend PySem.F.type_list_extend mt_extend (pv 6)
            (pa_cons (pe_lc (own := [("_law_side", 8)]) (g := gName 8) (tt := tYes) rfl nd (pi_range1 (by rfl) mr (pa_cons (pv 2) pa_nil)) (blkOk_by (N := nSpots58) (sc := defScope sSpots58) (by decide +kernel))
              (fun _ _ _ _ _ => pg_name (i := 8) nd rfl (Or.inl rfl)) (fun _ _ _ _ _ => pts_nil) (fun _ _ _ _ _ => pe_tup (pa_cons (pe_op op_add (pv 4) (pv 7)) (pa_cons (pe_op op_add (pv 5) (pv 8)) pa_nil)))) pa_nil)))))
      (pss_cons (ps_while PassesOwn.never (pt_cmpR op_gt (pe_callB call_len_seq (by rfl) ml PySem.boot_len (pa_cons (pv 6) pa_nil)) (pv 1) (nomark _))
          (pss_one (ps_expr (pe_bm PySem.F.plainAttrs_list PySem.F.slot_list_pop PySem.F.type_list_pop mt_popAt (pv 6)
            (pa_cons (pe_call GD hr (by rfl) gD kD bD .nil pass0 (pa_cons (pv 0) (pa_cons (pe_callB call_len_seq (by rfl) ml PySem.boot_len (pa_cons (pv 6) pa_nil)) pa_nil))) pa_nil)))))
      (pss_one (ps_ret (pe_callTy call_tuple_of (by rfl) mt (by decide +kernel) (pa_cons (pv 6) pa_nil))))))))), ?_⟩
    -- wide
    have mb : 0 < (if (m : Int) < 8 then (m : Int) else 8 : Int) ∧ (if (m : Int) < 8 then (m : Int) else 8 : Int) ≤ 8 ∧ (if (m : Int) < 8 then (m : Int) else 8 : Int) ≤ m := by
      split <;> omega
    refine ⟨_, rfl, _, _, rfl, rfl, .inr ⟨_, rfl, _, _, rfl, rfl, ?_⟩⟩
    refine ⟨_, rfl, _, rfl, 8, (m : Int), rfl, p, _, rfl, po, mb.1, by omega, fun H1 r1 k1 po1 r10 r11 => ?_⟩
    refine ⟨_, _, rfl, rfl, _, _, rfl, ?_⟩
    obtain ⟨wd, hwd, hw1, hw2⟩ : ∃ wd : Int, wd = (if 1 + r1 > 1 + (if decide ((8 : Int) < (m : Int)) = true then 1 else 0) then 1 + r1 else 1 + (if decide ((8 : Int) < (m : Int)) = true then 1 else 0)) ∧ (1 ≤ wd ∧ wd ≤ 8) ∧ (8 < (m : Int) → 2 ≤ wd) := by
      refine ⟨_, rfl, ?_, ?_⟩
      · by_cases c : (8 : Int) < m
        · rw [decide_eq_true c, if_pos rfl]
          split <;> omega
        · rw [decide_eq_false c]
          simp only [Bool.false_eq_true, if_false]
          split <;> omega
      · intro c
        rw [decide_eq_true c, if_pos rfl]
        split <;> omega
    show gName 2 (V.int (if 1 + r1 > 1 + (if decide ((8 : Int) < (m : Int)) = true then 1 else 0) then 1 + r1 else 1 + (if decide ((8 : Int) < (m : Int)) = true then 1 else 0))) _ _ _
    rw [← hwd]
    refine ⟨_, rfl, _, rfl, _, _, rfl, rfl, _, _, rfl, rfl, ?_⟩
    refine ⟨_, rfl, _, _, rfl, rfl, ⟨by omega, by omega⟩, _, rfl, p, 2, rfl, po1, by decide, by decide, fun H2 r2 k2 po2 r20 r21 => ?_⟩
    refine ⟨_, _, rfl, rfl, _, _, rfl, ?_⟩
    obtain ⟨⟨hh0, hh1⟩, hhp⟩ := high_ok (m := m) (wd := wd) (r := r2) (by omega) (by omega) hw1 hw2 r20 rfl
    refine if_88 (K := K) po2 (by omega) hw1 ⟨hh0, hh1⟩ hhp fun wide high H3 k3 po3 hw hh hp => ?_
    clear hhp hh1 hh0 hw2 hw1 hwd
    have kx3 := (k1.trans k2).trans k3
    -- top, left, every
    refine ⟨_, rfl, _, rfl, _, _, rfl, rfl, p, _, rfl, po3, by omega, by omega, fun H5 top k5 po5 t0 t1 => ?_⟩
    refine ⟨_, rfl, _, rfl, _, _, rfl, rfl, p, _, rfl, po5, by omega, by omega, fun H6 left k6 po6 l0 l1 => ?_⟩
    refine ⟨Nat.zero_le _, fun e ne => ⟨(by show 3 ≤ sizeLine; decide), fun T nT => ?_⟩⟩
    have kx6 : KeepX p H H6 := (kx3.trans k5).trans k6
    have s7 := same_new (o := .lst []) ne
    have s8 := same_new (o := .tup [.int top, .int left, .ref e]) nT
    have po8 := (po6.same s7).same s8
    have he8 := s8 _ _ (show upd H6 e (.lst []) e = _ from upd_same)
    refine ⟨T, _, rfl, SqT.of upd_same, rfl, _, _, rfl, _, _, rfl, _, _, rfl, rfl, ?_⟩
    have nep : e ≠ p := Ne.symm (po6.ne ne)
    have heH : H e = none := by
      cases z : H e with
      | none => rfl
      | some o =>
        have := kx6 e o nep z
        rw [ne] at this
        cases this
    -- the rows
    refine ⟨_, rfl, high, rfl, by omega, by omega, for_range (lo := 0) (n := high.toNat) (fun i σ H' => ∃ (y8 : Option V) (xs : List V) (cs : List Cell),
      σ = [some (.ref p), some (.int m), some (.int wide), some (.int high), some (.int top), some (.int left), some (.ref e), y8, none] ∧
      KeepX p H H' ∧ PoolO (H' p) ∧ H' e = some (.lst xs) ∧ CellsAt K H' xs cs ∧ cs.Pairwise lt2 ∧ (∀ c ∈ cs, top ≤ c.1 ∧ c.1 < top + i ∧ left ≤ c.2 ∧ c.2 < left + wide) ∧ cs.length = i * wide.toNat) ?_ ?_ ?_⟩
    · exact ⟨none, [], [], rfl, (kx6.trans (.of_same s7)).trans (.of_same s8), po8, he8, .nil, .nil, (fun c hc => nomatch hc), by simp⟩
    · rintro i σ H' hi ⟨y8, xs, cs, rfl, kx, po', he, hc, pw, bd, c0⟩
      have hi' : (i : Int) < high := by omega
      have hlen := Paired.length hc
      have cb : cs.length ≤ 64 := by
        rw [c0]
        exact Nat.mul_le_mul (show i ≤ 8 by omega) (show wide.toNat ≤ 8 by omega)
      refine ⟨_, rfl, .inl ⟨rfl, _, SqL.of he⟩, _, rfl, wide, rfl, by omega, by omega, fun d nd2 => ?_⟩
      have ned : e ≠ d := ne_of_none he nd2
      have npd : p ≠ d := po'.ne nd2
      refine lc_range (lo := 0) (n := wide.toNat) (fun j H2 => ∃ acc : List V, H2 d = some (.lst acc) ∧ CellsAt K H2 acc (rowCells (top + i) left j) ∧ (∀ b o, b ≠ d → H' b = some o → H2 b = some o)) ?_ ?_ ?_
      · exact ⟨[], upd_same, .nil, fun b o n z => by rw [upd_ne n]; exact z⟩
      · rintro j H2 hj ⟨acc, a1, a2, a3⟩
        refine ⟨rfl, _, rfl, _, rfl, _, _, rfl, rfl, _, rfl, _, rfl, _, _, rfl, rfl, (by show 2 ≤ sizeLine; decide), fun t nt => ?_⟩
        have ndt : d ≠ t := ne_of_none a1 nt
        have st := same_new (o := .tup [.int (top + (0 + (i : Int))), .int (left + (0 + (j : Int)))]) nt
        have hal : acc.length = j := by
          rw [Paired.length a2, rowCells_len]
        refine ⟨acc, st _ _ a1, small64 (by omega), acc ++ [.ref t], upd_same, ?_, fun b o n z => ?_⟩
        · rw [rowCells_succ]
          refine paired_append (cells_kt ((KT.of_same st).trans (KT.upd (st _ _ a1))) a2) (.cons ⟨t, rfl, SqT.of ?_⟩ .nil)
          rw [upd_ne (Ne.symm ndt), upd_same, Int.zero_add, Int.zero_add]
        · rw [upd_ne n]
          exact st _ _ (a3 b o n z)
      · rintro H2 ⟨acc, a1, a2, a3⟩
        have hw' : (wide.toNat : Int) = wide := Int.toNat_of_nonneg (by omega)
        have hal : acc.length = wide.toNat := by
          rw [Paired.length a2, rowCells_len]
        have kt2 : KT K H' H2 := KT.of_same fun b o z => a3 b o (ne_of_none z nd2) z
        have he2 := a3 _ _ ned he
        refine ⟨e, d, xs, acc, rfl, rfl, he2, a1, by
          rw [sizeLine_eq]
          omega, ?_⟩
        refine ⟨_, xs ++ acc, cs ++ rowCells (top + i) left wide.toNat, rfl, ?_, ?_, upd_same, ?_, ?_, ?_, ?_⟩
        · intro b o n z
          have nbe : b ≠ e := ne_of_none z heH
          rw [upd_ne nbe]
          have z' := kx b o n z
          exact a3 b o (ne_of_none z' nd2) z'
        · rw [upd_ne (Ne.symm nep)]
          obtain ⟨x1, x2, x3, x4, x5⟩ := po'
          exact ⟨x1, x2, x3, a3 _ _ npd x4, x5⟩
        · exact cells_kt (KT.upd he2) (paired_append (cells_kt kt2 hc) a2)
        · rw [List.pairwise_append]
          refine ⟨pw, rowCells_asc _ _ _, fun x hx y hy => ?_⟩
          have b1 := bd x hx
          have b2 := rowCells_mem hy
          exact .inl (by omega)
        · intro c hc'
          rcases List.mem_append.mp hc' with z | z
          · have := bd c z
            omega
          · have := rowCells_mem z
            omega
        · rw [List.length_append, rowCells_len, c0, Nat.succ_mul]
    · rintro σ H' ⟨y8, xs, cs, rfl, kx, po', he, hc, pw, bd, c0⟩
      have hh' : (high.toNat : Int) = high := Int.toNat_of_nonneg (by omega)
      have hw' : (wide.toNat : Int) = wide := Int.toNat_of_nonneg (by omega)
      have hm : m ≤ cs.length := by
        have : (m : Int) ≤ ((high.toNat * wide.toNat : Nat) : Int) := by
          rw [Int.natCast_mul, hh', hw']
          exact hp
        rw [c0]
        omega
      have h64 : cs.length ≤ 64 := by
        rw [c0]
        exact Nat.mul_le_mul (show high.toNat ≤ 8 by omega) (show wide.toNat ≤ 8 by omega)
      have hgr : ∀ c ∈ cs, InGrid c := fun c z => by
        have := bd c z
        exact ⟨by omega, by omega, by omega, by omega⟩
      -- while len(every) > many
      refine ⟨fun n σ G => ∃ (xs : List V) (cs : List Cell),
        σ = [some (.ref p), some (.int m), some (.int wide), some (.int high), some (.int top), some (.int left), some (.ref e), y8, none] ∧
        G e = some (.lst xs) ∧ CellsAt K G xs cs ∧ cs.Pairwise lt2 ∧ (∀ c ∈ cs, InGrid c) ∧ m ≤ cs.length ∧ cs.length ≤ 64 ∧ KeepX p H G ∧ PoolO (G p) ∧ n = xs.length, ?_, ?_⟩
      · exact ⟨xs.length, xs, cs, rfl, he, hc, pw, hgr, hm, h64, kx, po', rfl⟩
      · rintro n σ4 G4 ⟨xs4, cs4, rfl, he4, hc4, pw4, hg4, hm4, hl4, kx4, po4', rfl⟩
        have hlen := Paired.length hc4
        refine ⟨_, rfl, e, xs4, rfl, .inl (SqL.of he4), _, rfl, _, _, rfl, rfl, _, rfl, ite2 (fun c => ?_) (fun c => ?_)⟩
        · have c' : (m : Int) < (xs4.length : Int) := of_decide_eq_true c
          refine ⟨fun σ' G' => ∃ n', n' < xs4.length ∧ ∃ (xs : List V) (cs : List Cell),
            σ' = [some (.ref p), some (.int m), some (.int wide), some (.int high), some (.int top), some (.int left), some (.ref e), y8, none] ∧
            G' e = some (.lst xs) ∧ CellsAt K G' xs cs ∧ cs.Pairwise lt2 ∧ (∀ c ∈ cs, InGrid c) ∧ m ≤ cs.length ∧ cs.length ≤ 64 ∧ KeepX p H G' ∧ PoolO (G' p) ∧ n' = xs.length, fun σ' G' z => z, ?_⟩
          refine ⟨_, rfl, .inl ⟨rfl, _, SqL.of he4⟩, _, rfl, _, rfl, e, xs4, rfl, .inl (SqL.of he4), p, _, rfl, po4', by omega, by omega, fun G5 r k5 po5 r0 r1 => ?_⟩
          have hr' : ((r.toNat : Nat) : Int) = r := Int.toNat_of_nonneg r0
          have hlt : r.toNat < xs4.length := by omega
          have he5 := k5 _ _ nep he4
          refine ⟨e, xs4, r, r.toNat, xs4[r.toNat], rfl, rfl, he5, by omega, by omega, ?_, List.getElem?_eq_getElem hlt, ?_⟩
          · unfold seqIndex?
            have e1 : ¬ r < 0 := by omega
            simp only [if_neg e1]
            rw [if_pos]
            simp only [Bool.and_eq_true, decide_eq_true_eq]
            exact ⟨r0, r1⟩
          · have hel : (xs4.eraseIdx r.toNat).length = xs4.length - 1 := List.length_eraseIdx_of_lt hlt
            have hpe := paired_erase r.toNat hc4
            have hsub := List.eraseIdx_sublist cs4 r.toNat
            have hce : (cs4.eraseIdx r.toNat).length = (xs4.eraseIdx r.toNat).length := (Paired.length hpe).symm
            refine ⟨(xs4.eraseIdx r.toNat).length, by omega, _, cs4.eraseIdx r.toNat, rfl, upd_same, cells_kt ((KT.of_keepX po4' k5).trans (KT.upd he5)) hpe,
              pw4.sublist hsub, fun c hc => hg4 c (hsub.subset hc), by omega, Nat.le_trans hsub.length_le hl4, ?_, ?_, rfl⟩
            · intro b o n z
              rw [upd_ne (ne_of_none z heH)]
              exact k5 _ _ n (kx4 _ _ n z)
            · rw [upd_ne (Ne.symm nep)]
              exact po5
        · have c' : ¬ (m : Int) < (xs4.length : Int) := fun z => c (decide_eq_true z)
          refine ⟨_, rfl, e, xs4, rfl, .inl ⟨SqL.of he4, fun l nl => ?_⟩⟩
          have sl := same_new (o := .tup xs4) nl
          have ec : cs4.length = m := by omega
          refine q _ l cs4 (kx4.trans (.of_same sl)) (po4'.same sl) ⟨xs4, SqT.of upd_same, cells_kt (.of_same sl) hc4⟩ ⟨pw4, hg4, fun z => ?_⟩ ec
          rw [z] at ec
          have : 0 = m := ec
          omega
end
end KS
/-! t + u, whose new tuple is known to have no dict -/
namespace KS
open PySem PySem.Spec PyProof.Rows L2 HT
def rCatFz (K : PySem.W.Frag) : R2 := fun x y H Q => ∃ a b xs ys, x = .ref a ∧ y = .ref b ∧ SqT K H a xs ∧ SqT K H b ys ∧ xs.length + ys.length ≤ sizeLine ∧ ys ≠ [] ∧
  (xs = [] → Q (.ref b) H) ∧ (xs ≠ [] → ∀ p ob, H p = none → ob.cls = Value.type "tuple" → ob.dict = none → Q (.ref p) (upd H p (.frz ob (.tup (xs ++ ys)))))
theorem op_catFz {X : Cx} : OpR X (binaryOp .Add) (rCatFz X.K) := by
  intro pins s σ H x y v u Q I rx ry h
  obtain ⟨a, b, xs, ys, rfl, rfl, ha, hb, hz, hy, q0, q2⟩ := h
  cases rx
  cases ry
  obtain ⟨its, r1, p1, _⟩ := I.tuple ha
  obtain ⟨its2, r2, p2, _⟩ := I.tuple hb
  by_cases hx : xs = []
  · subst hx
    cases r1
    exact cat_tup0 p1 p2 ⟨.ref b, H, I, rfl, q0 rfl⟩
  · refine HT.cat_tup p1 p2 (fun z => hx (r1.nil_iff.mp z)) (fun z => absurd (r2.nil_iff.mp z) hy) (fun z => ?_) (by rw [← r1.length, ← r2.length]; exact hz)
    refine ⟨.ref s.heap.objs.size, _, I.laid (t' := s.toks) (o := .frz { cls := .type "tuple", data := .seq (its ++ its2).toArray } (.tup (xs ++ ys))) (fun b ob q => Heap.get?_push_of_some _ q) (Nat.le_refl _) ?_, rfl, q2 hx _ _ (I.hok.fresh (Nat.le_refl _)) rfl rfl⟩
    exact ⟨Heap.get?_push_size _ rfl, by show (xs ++ ys).length ≤ sizeLine; rw [List.length_append]; exact hz, _, r1.append r2, IsTup.new _ _⟩
theorem TupN.keep {H H' : Hp} {p : Addr} {xs : List V} (k : ∀ b o, H b = some o → b = p → H' b = some o) (h : TupN H p xs) : TupN H' p xs := by
  obtain ⟨ob, e, c⟩ := h
  exact ⟨ob, k _ _ e rfl, c⟩
end KS
namespace KS
open PySem PySem.Spec PyProof.Rows L2
def LstN (H H' : Hp) (x : V) (l : List Int) : Prop := ∃ t, x = .ref t ∧ H' t = some (.lst (l.map V.int)) ∧ H t = none
/-- the law's own lines: new lists -/
def spLawLinesN (K : PySem.W.Frag) : Sp := fun vs H Q _ => ∃ (a : Addr) (b : Bool) (cs : List Cell), vs = [.ref a, .str (if b = true then "C" else "R")] ∧ PlanAt K H a cs ∧ cs.length ≤ 24 ∧
  ∀ H' p xs, Same H H' → H' p = some (.lst xs) → H p = none → Paired (LstN H H') xs (lnsOf b cs) → Q (.ref p) H'
abbrev sLawLines : Stmt := topS 35
abbrev nLawLines : List Str := ["_law_spots_here", "_law_sort", "_law_at", "_law_found", "_law_side", "_law_strip", "_law_k"]
theorem scLawLines : FnScope nLawLines ["_law_spots_here", "_law_sort"] (defScope sLawLines) := ⟨rfl, rfl, rfl, by decide +kernel, rfl, by decide +kernel, by decide +kernel⟩
section
variable {P : Program} {w : World} {K : PySem.W.Frag} {mg : Str → Option Value} {base : Heap}
theorem ok_lawLinesN {f : Addr} {fd : FuncData} (F : Fun K "_law_lines" "_law_lines" sLawLines f fd) (mI : mg "int" = none) (mr : mg "range" = none) (ml : mg "len" = none) : FnOk P w K mg base CX0 1 f fd ["_law_spots_here", "_law_sort"] (spLawLinesN K) := by
  refine F.ok scLawLines (fun vs H Q E h => ?_) (fun cdv A outer s H vs Q E hr h => ?_)
  · obtain ⟨a, b, cs, rfl, _⟩ := h
    rfl
  · obtain ⟨a, b, cs, rfl, ⟨xs, hx, hc⟩, hl, q⟩ := h
    have nd := scLawLines.nd
    refine ⟨_, pss_cons (ps_set (i := 2) nd rfl (.inr rfl) (pe_callTy call_int1 (by rfl) mI (by decide +kernel) (pa_cons (pe_cmpR op_eq (pv 1) pe_str (nomark _)) pa_nil)))
      (pss_cons (ps_set (i := 3) nd rfl (.inl rfl) (pe_lst pa_nil))
      (pss_cons (ps_for PassesOwn.never rfl (pi_range1 (by rfl) mr (pa_cons pe_int pa_nil)) (pg_name (i := 4) nd rfl (.inr rfl))
        (pss_cons (ps_setLc (i := 5) (own := [("_law_k", 6)]) (g := gName 6) rfl nd rfl rfl (sw_true rfl rfl rfl (by decide +kernel))
            (pi_range1 (by rfl) mr (pa_cons (pe_callB call_len_seq (by rfl) ml PySem.boot_len (pa_cons (pv 0) pa_nil)) pa_nil)) (blkOk_by (N := nLawLines) (sc := defScope sLawLines) (by decide +kernel))
            (fun _ _ _ _ _ => pg_name (i := 6) nd rfl (Or.inl rfl))
            (fun _ _ _ _ _ => pts_one (pt_cmpR op_eq (pe_ix (r := rIxT K) ix_tup (pe_ix (r := rIxT K) ix_tup (pv 0) (pv 6) (fun _ _ => rfl)) (pv 2) (fun _ _ => rfl)) (pv 4) (nomark _))) (fun _ _ _ _ _ => pv 6))
        (pss_one (ps_if (pt_cmpR (op_neD hr.units) (pv 5) (pe_lst pa_nil) (nomark _))
          (pss_one (ps_expr (pe_bm PySem.F.plainAttrs_list PySem.F.slot_list_append PySem.F.type_list_append mt_append (pv 3) (pa_cons (pv 5) pa_nil)))) pss_nil))))
      (pss_one (ps_ret (pv 3))))), ?_⟩
    refine ⟨_, rfl, by cases b <;> rfl, .inr ⟨_, rfl, ?_⟩⟩
    rw [kind_test]
    refine ⟨Nat.zero_le _, fun o no => ?_⟩
    have s1 := same_new (o := .lst []) no
    have hlen := Paired.length hc
    refine ⟨8, rfl, by decide, by decide, for_range (lo := 0) (n := 8) (fun i σ H' => ∃ (y4 y5 : Option V) (fs : List V),
      σ = [some (.ref a), some (.str (if b = true then "C" else "R")), some (.int (if b = true then 1 else 0)), some (.ref o), y4, y5, none] ∧ Same H H' ∧ H' o = some (.lst fs) ∧
      Paired (fun x l => ∃ t, x = .ref t ∧ H' t = some (.lst (l.map V.int)) ∧ t ≠ o ∧ H t = none) fs (lnsTo b cs i)) ?_ ?_ ?_⟩
    · exact ⟨none, none, [], rfl, s1, upd_same, .nil⟩
    · rintro i σ H' hi ⟨y4, y5, fs, rfl, sm, ho, hp⟩
      refine ⟨_, rfl, a, xs, rfl, .inr (same_seqT sm hx), _, rfl, by omega, by omega, fun D nD => ?_⟩
      have noD : o ≠ D := ne_of_none ho nD
      refine lc_range (lo := 0) (n := xs.length) (fun j H2 => H2 D = some (.lst ((idxs b cs j (i : Int)).map V.int)) ∧ (∀ q u, q ≠ D → H' q = some u → H2 q = some u)) ?_ ?_ ?_
      · exact ⟨upd_same, fun q u n e => by rw [upd_ne n]; exact e⟩
      · rintro j H2 hj ⟨a1, a2⟩
        have sD : Same H' H2 := fun q u e => a2 q u (ne_of_none e nD) e
        obtain ⟨c, hcj, tt, ett, ht⟩ := paired_get hc (List.getElem?_eq_getElem hj)
        have gx : xs[j]? = some (.ref tt) := by rw [List.getElem?_eq_getElem hj, ett]
        have hal : ((idxs b cs j (i : Int)).map V.int).length < sizeLine := by
          rw [List.length_map]
          have := idxs_len b cs j (i : Int)
          exact small64 (by omega)
        refine ⟨rfl, _, rfl, _, rfl, a, xs, _, .ref tt, rfl, rfl, same_seqT (sm.trans sD) hx, ?_, _, rfl, tt, _, _, _, rfl, rfl, same_seqT (sm.trans sD) ht, at_pick, _, rfl, rfl, _, rfl, ite2 (fun e => ?_) (fun e => ?_)⟩
        · show atI xs (0 + (j : Int)) = _
          rw [Int.zero_add]
          exact atI_nat gx
        · have e' : pick b c = 0 + (i : Int) := V.int.inj (of_decide_eq_true e)
          rw [Int.zero_add] at e'
          refine ⟨_, rfl, _, a1, hal, ?_, fun q u n z => ?_⟩
          · rw [upd_same, ← e', idxs_hit hcj, List.map_append, Int.zero_add]
            rfl
          · rw [upd_ne n]
            exact a2 q u n z
        · have e' : pick b c ≠ (i : Int) := fun z => e (decide_eq_true (by rw [z, Int.zero_add]))
          refine ⟨?_, a2⟩
          rw [idxs_miss hcj e']
          exact a1
      · rintro H2 ⟨a1, a2⟩
        have sD : Same H' H2 := fun q u e => a2 q u (ne_of_none e nD) e
        rw [hlen] at a1
        have hp2 : Paired (fun x l => ∃ t, x = .ref t ∧ H2 t = some (.lst (l.map V.int)) ∧ t ≠ o ∧ H t = none) fs (lnsTo b cs i) := Paired.mono (fun _ _ ⟨t, e1, e2, e3⟩ => ⟨t, e1, sD _ _ e2, e3⟩) hp
        refine ⟨_, rfl, Nat.zero_le _, fun z nz => ?_⟩
        have sz := same_new (o := .lst []) nz
        have hp3 : Paired (fun x l => ∃ t, x = .ref t ∧ upd H2 z (.lst []) t = some (.lst (l.map V.int)) ∧ t ≠ o ∧ H t = none) fs (lnsTo b cs i) := Paired.mono (fun _ _ ⟨t, e1, e2, e3⟩ => ⟨t, e1, sz _ _ e2, e3⟩) hp2
        have ho3 := sz _ _ (sD _ _ ho)
        have a1' := sz _ _ a1
        refine ⟨_, _, .lst (SqL.of a1') (dp_ints _), .lst (SqL.of upd_same) .nil, ints_shaped _, by decide, _, rfl, ?_⟩
        rw [ints_eqv_nil]
        have hfl : fs.length ≤ 8 := by
          rw [Paired.length hp]
          have := lnsTo_len b cs i
          omega
        have sall := (sm.trans sD).trans sz
        cases el : idxs b cs cs.length (i : Int) with
        | nil =>
          refine ⟨_, _, fs, rfl, sall, ho3, ?_⟩
          rw [lnsTo_miss el]
          exact hp3
        | cons y l =>
          have hne : idxs b cs cs.length (i : Int) ≠ [] := by
            rw [el]
            simp
          refine ⟨_, rfl, .inl ⟨rfl, _, SqL.of ho3⟩, _, rfl, o, fs, _, rfl, rfl, ho3, small64 (by omega), ?_⟩
          refine ⟨_, _, fs ++ [.ref D], rfl, fun q u e => ?_, upd_same, ?_⟩
          · rw [upd_ne (ne_of_none e no)]
            exact sall _ _ e
          · rw [lnsTo_hit hne]
            refine paired_append (Paired.mono (fun _ _ ⟨t, e1, e2, e3⟩ => ⟨t, e1, by rw [upd_ne e3.1]; exact e2, e3⟩) hp3) (.cons ⟨D, rfl, ?_, Ne.symm noD, sm.free nD⟩ .nil)
            rw [upd_ne (Ne.symm noD)]
            exact a1'
    · rintro σ H' ⟨y4, y5, fs, rfl, sm, ho, hp⟩
      refine ⟨_, rfl, q H' o fs sm ho no ?_⟩
      exact Paired.mono (fun _ _ ⟨t, e1, e2, e3, e4⟩ => ⟨t, e1, e2, e4⟩) hp
end
end KS
namespace KS
open PySem PySem.Spec PyProof.Rows L2 RZ
abbrev sSorted : Stmt := topS 36
abbrev nSorted : List Str := ["_law_spots_here", "_law_some", "_law_sort", "_law_found", "_law_strip", "_law_at", "_law_one", "_law_k"]
theorem scSorted : FnScope nSorted ["_law_spots_here", "_law_some", "_law_sort"] (defScope sSorted) := ⟨rfl, rfl, rfl, by decide +kernel, rfl, by decide +kernel, by decide +kernel⟩
section
variable {P : Program} {w : World} {K : PySem.W.Frag} {mg : Str → Option Value} {base : Heap}
theorem ok_lsorted {f fL : Addr} {fd fdL : FuncData} (F : Fun K "_law_sorted" "_law_sorted" sSorted f fd) (GL : FnOk P w K mg base CX0 1 fL fdL ["_law_spots_here", "_law_sort"] (spLawLinesN K))
    (bL : Binds K fdL ["_law_spots_here", "_law_sort"] []) (gL : mg "_law_lines" = some (.ref fL)) (kL : PySem.W.keepIn K (.ref fL) = true)
    (mL : mg "list" = none) (mz : mg "zip" = none) (ms : mg "sorted" = none) (mt : mg "tuple" = none) :
    FnOk P w K mg base CX0 2 f fd ["_law_spots_here", "_law_some", "_law_sort"] (spLSorted K) := by
  refine F.ok scSorted (fun vs H Q E h => ?_) (fun cdv A outer s H vs Q E hr h => ?_)
  · obtain ⟨a, t, b, cs, vs, rfl, _⟩ := h
    rfl
  · obtain ⟨a, t, b, cs, vs, rfl, hp, hl, ht, hv, q⟩ := h
    have nd := scSorted.nd
    refine ⟨_, pss_cons (ps_set (i := 3) nd rfl (.inl rfl) (pe_callTy call_list_of (by rfl) mL (by decide +kernel) (pa_cons (pv 1) pa_nil)))
      (pss_cons (ps_for PassesOwn.never rfl (pi_list (pe_call GL hr (by rfl) gL kL bL .nil pass0 (pa_cons (pv 0) (pa_cons (pv 2) pa_nil)))) (pg_name (i := 4) nd rfl (.inl rfl))
        (pss_one (ps_for PassesOwn.never rfl (pi_zip (by rfl) mz (pa_cons (pv 4) (pa_cons (pe_callB cr_sortedI (by rfl) ms (by decide +kernel) (pa_cons
            (pe_lc (own := [("_law_k", 7)]) (g := gName 7) (tt := tYes) rfl nd (pi_list (pv 4)) (blkOk_by (N := nSorted) (sc := defScope sSorted) (by decide +kernel))
              (fun _ _ _ _ _ => pg_name (i := 7) nd rfl (Or.inl rfl)) (fun _ _ _ _ _ => pts_nil) (fun _ _ _ _ _ => pe_ix (r := rIxT K) ix_tup (pv 1) (pv 7) (fun _ _ => rfl))) pa_nil)) pa_nil)))
          (pg_tup (by rfl) (pgs_cons (pg_name (i := 5) nd rfl (.inl rfl)) (pgs_cons (pg_name (i := 6) nd rfl (.inl rfl)) pgs_nil)))
          (pss_one (ps_asg (pv 6) (pg_sub (pv 3) (pv 5) set_list))))))
      (pss_one (ps_ret (pe_callTy call_tuple_of (by rfl) mt (by decide +kernel) (pa_cons (pv 3) pa_nil))))), ?_⟩
    refine ⟨_, rfl, t, _, rfl, .inr ht, fun o no => ?_⟩
    have so := same_new (o := .lst (vs.map V.int)) no
    refine ⟨_, rfl, _, rfl, a, b, cs, rfl, hp.kt (.of_same so), hl, fun H1 p xs s1 hp1 np hx => ?_⟩
    have npo : p ≠ o := Ne.symm (ne_of_none (H := upd H o (.lst (vs.map V.int))) upd_same np)
    refine ⟨p, rfl, ⟨_, SqL.of hp1⟩, for_list (K := K) (a := p) (xs := xs) (fun i σ H' => ∃ (y4 y5 y6 : Option V), σ = [some (.ref a), some (.ref t), some (.str (if b = true then "C" else "R")), some (.ref o), y4, y5, y6, none] ∧
      (∀ c u, c ≠ o → H1 c = some u → H' c = some u) ∧ H' o = some (.lst ((srtTo vs ((lnsOf b cs).take i)).map V.int))) ?_ ?_ ?_ ?_⟩
    · exact ⟨none, none, none, rfl, fun c u _ e => e, s1 _ _ upd_same⟩
    · rintro i σ H' _ ⟨y4, y5, y6, rfl, k', ho⟩
      exact SqL.of (k' _ _ npo hp1)
    · rintro i x σ H' hi ⟨y4, y5, y6, rfl, k', ho⟩
      obtain ⟨l, hli, t', rfl, hl', hn'⟩ := paired_get hx hi
      have nto : t' ≠ o := Ne.symm (ne_of_none (H := upd H o (.lst (vs.map V.int))) upd_same hn')
      have sm : Same H H' := fun c u e => k' c u (ne_of_none e no) (s1 c u (so c u e))
      have hlt := k' _ _ nto hl'
      have hm := lns_mem (List.mem_of_getElem? hli)
      refine ⟨_, rfl, _, rfl, t', rfl, ⟨_, SqL.of hlt⟩, fun D nD => ?_⟩
      have ntD : t' ≠ D := ne_of_none hlt nD
      have noD : o ≠ D := ne_of_none ho nD
      refine lc_list (K := K) (a := t') (xs := l.map V.int) (fun j G => G = upd H' D (.lst (((l.take j).map (getI vs)).map V.int))) ?_ ?_ ?_ ?_
      · rfl
      · rintro j G _ rfl
        exact SqL.of (by rw [upd_ne ntD]; exact hlt)
      · rintro j x G hj rfl
        rw [List.getElem?_map] at hj
        cases ev : l[j]? with
        | none =>
          rw [ev] at hj
          cases hj
        | some k =>
          rw [ev] at hj
          cases hj
          obtain ⟨j', rfl, hj'⟩ := hm.1 k (List.mem_of_getElem? ev)
          refine ⟨rfl, _, rfl, _, rfl, t, _, _, .int (getI vs (j' : Int)), rfl, rfl, same_seqT (sm.trans (same_new nD)) ht, atI_nat (getI_at (by omega)), _, upd_same, ?_, ?_⟩
          · rw [List.length_map, List.length_map, List.length_take]
            exact small64 (by omega)
          · rw [upd_upd, List.take_add_one, ev, List.map_append, List.map_append]
            rfl
      · rintro G rfl
        rw [List.length_map, List.take_length]
        refine ⟨D, _, rfl, SqL.of upd_same, fun ys P' perm asc nP => ?_⟩
        have ey := sortI_eq perm asc
        have yl : ys.length = l.length := by
          rw [perm.length_eq, List.length_map]
        have ntP : t' ≠ P' := fun e => by
          rw [← e, upd_ne ntD, hlt] at nP
          cases nP
        have noP : o ≠ P' := fun e => by
          rw [← e, upd_ne noD, ho] at nP
          cases nP
        have sP := (same_new (o := .lst ((l.map (getI vs)).map V.int)) nD).trans (same_new (o := .lst (ys.map V.int)) nP)
        generalize hG : upd (upd H' D (.lst ((l.map (getI vs)).map V.int))) P' (.lst (ys.map V.int)) = G0 at sP
        have hP0 : G0 P' = some (.lst (ys.map V.int)) := by rw [← hG, upd_same]
        refine ⟨t', P', _, _, rfl, SqL.of (sP _ _ hlt), SqL.of hP0, for_zipL (K := K) (a := t') (b := P') (xs := l.map V.int) (ys := ys.map V.int) (by rw [List.length_map, List.length_map, yl])
          (fun j σ G => ∃ (y5 y6 : Option V), σ = [some (.ref a), some (.ref t), some (.str (if b = true then "C" else "R")), some (.ref o), some (.ref t'), y5, y6, none] ∧
            (∀ c u, c ≠ o → G0 c = some u → G c = some u) ∧ G o = some (.lst ((putZ (srtTo vs ((lnsOf b cs).take i)) ((l.zip ys).take j)).map V.int))) ?_ ?_ ?_ ?_⟩
        · exact ⟨y5, y6, rfl, fun c u _ e => e, sP _ _ ho⟩
        · rintro j σ G ⟨y5, y6, rfl, kG, hoG⟩
          exact ⟨SqL.of (kG _ _ nto (sP _ _ hlt)), SqL.of (kG _ _ (Ne.symm noP) hP0)⟩
        · rintro j x y T σ G hx' hy' ⟨y5, y6, rfl, kG, hoG⟩ nT
          rw [List.getElem?_map] at hx' hy'
          cases ex : l[j]? with
          | none =>
            rw [ex] at hx'
            cases hx'
          | some k =>
            cases ey' : ys[j]? with
            | none =>
              rw [ey'] at hy'
              cases hy'
            | some v =>
              rw [ex] at hx'
              rw [ey'] at hy'
              cases hx'
              cases hy'
              obtain ⟨j', rfl, hj'⟩ := hm.1 k (List.mem_of_getElem? ex)
              have noT : o ≠ T := ne_of_none hoG nT
              refine ⟨T, _, rfl, SqT.of upd_same, rfl, _, _, rfl, _, _, rfl, rfl, ?_⟩
              refine ⟨_, rfl, _, rfl, _, rfl, o, _, (j' : Int), j', rfl, rfl, by rw [upd_ne noT]; exact hoG, ixN_at ?_, ?_⟩
              · rw [List.length_map, putZ_len, srtTo_len]
                omega
              · refine ⟨_, _, rfl, fun c u nc e => ?_, ?_⟩
                · rw [upd_ne nc, upd_ne (ne_of_none (kG c u nc e) nT)]
                  exact kG c u nc e
                · have ez : (l.zip ys)[j]? = some ((j' : Int), v) := by
                    rw [List.getElem?_zip_eq_some]
                    exact ⟨ex, ey'⟩
                  rw [upd_same, List.take_add_one, ez]
                  show _ = some (HO.lst ((putZ _ (List.take j (l.zip ys) ++ [((j' : Int), v)])).map V.int))
                  rw [putZ_more, List.map_set]
                  rfl
        · rintro σ G ⟨y5, y6, rfl, kG, hoG⟩
          refine ⟨_, _, _, rfl, fun c u nc e => kG c u nc (sP c u (k' c u nc e)), ?_⟩
          have et : List.take (List.map V.int l).length (l.zip ys) = l.zip ys := List.take_of_length_le (by rw [List.length_zip, List.length_map]; omega)
          rw [hoG, et, List.take_add_one, hli, ey]
          show _ = some (HO.lst ((srtTo vs (List.take i (lnsOf b cs) ++ [l])).map V.int))
          rw [srtTo_more]
          rfl
    · rintro σ H' ⟨y4, y5, y6, rfl, k', ho⟩
      rw [Paired.length hx, List.take_length] at ho
      refine ⟨_, rfl, o, _, rfl, .inl ⟨SqL.of ho, fun u nu => ?_⟩⟩
      have sm : Same H H' := fun c u e => k' c u (ne_of_none e no) (s1 c u (so c u e))
      exact q _ u (sm.trans (same_new nu)) (SqT.of upd_same) (sm.free nu)
end
end KS
/-! the law's own: the names after a sort, what a record shows -/
namespace KS
open PySem PySem.Spec PyProof.Rows L2 RZ
theorem nm_shapedT {l : List Str} (h : ∀ x ∈ l, IsNm x) : SeqAt.shaped (.tuple (l.map PyData.str)) = true := by
  obtain ⟨h1, h2⟩ := nm_lay l h
  unfold SeqAt.shaped
  simp only [PyData.canLay0, PyData.depth, h1, h2]
  decide
theorem nm_shaped1 {s : Str} (h : IsNm s) : SeqAt.shaped (.str s) = true := by
  have := nm_strOk h
  unfold SeqAt.shaped
  simp only [PyData.canLay0, PyData.depth, this]
  rfl
theorem eqv_str (x y : Str) : PyData.eqv (.str x) (.str y) = decide (x = y) := by
  by_cases e : x = y <;> simp [PyData.eqv, e]
theorem idx_not {o : List Str} {p : Str} {m : Nat} (h : m < o.idxOf p) : o[m]? ≠ some p := fun e => by
  have hm := (List.getElem?_eq_some_iff.mp e).1
  have h2 := List.not_of_lt_findIdx (p := fun x => x == p) h
  have e2 := (List.getElem?_eq_some_iff.mp e).2
  rw [e2] at h2
  simp at h2
def spLater58 (K : PySem.W.Frag) : Sp := fun vs H Q _ => ∃ (a r o : Addr) (b : Bool) (cs : List Cell) (row os : List Str), vs = [.ref a, .ref r, .str (if b = true then "C" else "R"), .ref o] ∧ PlanAt K H a cs ∧ cs.length ≤ 24 ∧
  SqT K H r (row.map V.str) ∧ row.length = cs.length ∧ TupN H o (os.map V.str) ∧ os.length ≤ 24 ∧ (∀ s ∈ os, IsNm s) ∧ (∀ s ∈ row, s ∈ os) ∧
  ∀ H' u, Same H H' → SqT K H' u ((laterN b cs row os).map V.str) → Q (.ref u) H'
abbrev sLater58 : Stmt := topS 37
abbrev nLater58 : List Str := ["_law_spots_here", "_law_row", "_law_sort", "_law_order", "_law_graded", "_law_person", "_law_k"]
theorem scLater58 : FnScope nLater58 ["_law_spots_here", "_law_row", "_law_sort", "_law_order"] (defScope sLater58) := ⟨rfl, rfl, rfl, by decide +kernel, rfl, by decide +kernel, by decide +kernel⟩
section
variable {P : Program} {w : World} {K : PySem.W.Frag} {mg : Str → Option Value} {base : Heap}
theorem ok_later58 {f fS : Addr} {fd fdS : FuncData} (F : Fun K "_law_later" "_law_later" sLater58 f fd)
    (GS : FnOk P w K mg base CX0 2 fS fdS ["_law_spots_here", "_law_some", "_law_sort"] (spLSorted K)) (bS : Binds K fdS ["_law_spots_here", "_law_some", "_law_sort"] []) (gS' : mg "_law_sorted" = some (.ref fS)) (kS : PySem.W.keepIn K (.ref fS) = true)
    (mt : mg "tuple" = none) : FnOk P w K mg base CX0 3 f fd ["_law_spots_here", "_law_row", "_law_sort", "_law_order"] (spLater58 K) := by
  refine F.ok scLater58 (fun vs H Q E h => ?_) (fun cdv A outer s H vs Q E hr h => ?_)
  · obtain ⟨a, r, o, b, cs, row, os, rfl, _⟩ := h
    rfl
  · obtain ⟨a, r, o, b, cs, row, os, rfl, hp, hl, hrw, rl, ho, ol, onm, sub, q⟩ := h
    have nd := scLater58.nd
    have hu : (A.deeper (envOfC "_law_later" (defScope sLater58) s.heap.objs.size f cdv)).units + 65 < cLine := by
      have := hr.un
      omega
    refine ⟨_, pss_cons (ps_set (i := 4) nd rfl (.inl rfl) (pe_callTy call_tuple_of (by rfl) mt (by decide +kernel) (pa_cons
        (pe_lc (own := [("_law_person", 5)]) (g := gName 5) (tt := tYes) rfl nd (pi_tup (pv 1)) (blkOk_by (N := nLater58) (sc := defScope sLater58) (by decide +kernel))
          (fun _ _ _ _ _ => pg_name (i := 5) nd rfl (Or.inl rfl)) (fun _ _ _ _ _ => pts_nil)
          (fun _ _ _ _ _ => pe_bmT (r := rIndexD K) PySem.F.plainAttrs_tuple PySem.F.slot_tuple_index PySem.F.type_tuple_index (mt_indexD hu) (pv 3) (pa_cons (pv 5) pa_nil))) pa_nil)))
      (pss_one (ps_ret (pe_callTy call_tuple_of (by rfl) mt (by decide +kernel) (pa_cons
        (pe_lc (own := [("_law_k", 6)]) (g := gName 6) (tt := tYes) rfl nd (pi_tup (pe_call GS hr (by rfl) gS' kS bS .nil pass0 (pa_cons (pv 0) (pa_cons (pv 4) (pa_cons (pv 2) pa_nil))))) (blkOk_by (N := nLater58) (sc := defScope sLater58) (by decide +kernel))
          (fun _ _ _ _ _ => pg_name (i := 6) nd rfl (Or.inl rfl)) (fun _ _ _ _ _ => pts_nil)
          (fun _ _ _ _ _ => pe_ix (r := rIxT K) ix_tup (pv 3) (pv 6) (fun _ _ => rfl))) pa_nil)))), ?_⟩
    have hos := ho.sq (K := K)
    refine ⟨_, rfl, r, rfl, ⟨_, hrw⟩, fun D nD => ?_⟩
    refine lc_tup (K := K) (a := r) (xs := row.map V.str) (fun i G => G = upd H D (.lst ((gradeN os (row.take i)).map V.int))) ?_ ?_ ?_ ?_
    · rfl
    · rintro i G _ rfl
      exact same_seqT (same_new nD) hrw
    · rintro i x G hi rfl
      rw [List.getElem?_map] at hi
      cases ez : row[i]? with
      | none =>
        rw [ez] at hi
        cases hi
      | some z =>
        rw [ez] at hi
        cases hi
        have hz := sub z (List.mem_of_getElem? ez)
        have hlt := List.idxOf_lt_length_of_mem hz
        have sD := same_new (o := .lst ((gradeN os (row.take i)).map V.int)) nD
        refine ⟨rfl, _, rfl, ⟨o, _, rfl, ho.same sD⟩, _, rfl, ?_⟩
        refine ⟨.str z, .str z, os.map PyData.str, os.idxOf z, .str z, rfl, .str z, .tup (same_seqT sD hos) (nm_dp _), nm_shaped1 (onm z hz), nm_shapedT onm, ?_, by rw [eqv_str]; exact decide_eq_true rfl, fun m z' hm ez' => ?_, ?_⟩
        · rw [List.getElem?_map, List.getElem?_eq_getElem hlt]
          show some (PyData.str _) = _
          rw [List.getElem_idxOf]
        · rw [List.getElem?_map] at ez'
          cases e3 : os[m]? with
          | none =>
            rw [e3] at ez'
            cases ez'
          | some y =>
            rw [e3] at ez'
            cases ez'
            rw [eqv_str]
            exact decide_eq_false fun e4 => idx_not hm (by rw [e3, e4])
        · refine ⟨_, upd_same, ?_, ?_⟩
          · have il := (List.getElem?_eq_some_iff.mp ez).1
            unfold gradeN
            rw [List.length_map, List.length_map, List.length_take, sizeLine_eq]
            omega
          · rw [upd_upd, List.take_add_one, ez]
            unfold gradeN
            rw [List.map_append, List.map_append]
            rfl
    · rintro G rfl
      rw [List.length_map, List.take_length]
      have sD := same_new (o := .lst ((gradeN os row).map V.int)) nD
      refine ⟨D, _, rfl, .inl ⟨SqL.of upd_same, fun g ng => ?_⟩⟩
      have sg := same_new (o := .tup ((gradeN os row).map V.int)) ng
      have s2 := sD.trans sg
      have hg : upd (upd H D (.lst ((gradeN os row).map V.int))) g (.tup ((gradeN os row).map V.int)) g = some (.tup ((gradeN os row).map V.int)) := upd_same
      generalize upd (upd H D (.lst ((gradeN os row).map V.int))) g (.tup ((gradeN os row).map V.int)) = G at s2 hg
      refine ⟨_, rfl, _, rfl, _, rfl, a, g, b, cs, gradeN os row, rfl, hp.kt (.of_same s2), hl, SqT.of hg, by rw [gradeN, List.length_map, rl], fun G2 u s3 hu2 nu => ?_⟩
      have s23 := s2.trans s3
      have bd : ∀ v ∈ srt b cs (gradeN os row), ∃ n : Nat, v = (n : Int) ∧ n < os.length := fun v hv => by
        have h1 := (srt_perm (b := b) (cs := cs) (vs := gradeN os row) (by rw [gradeN, List.length_map, rl])).mem_iff.mp hv
        unfold gradeN at h1
        obtain ⟨p, hp', rfl⟩ := List.mem_map.mp h1
        exact ⟨os.idxOf p, rfl, List.idxOf_lt_length_of_mem (sub p hp')⟩
      have sl : (srt b cs (gradeN os row)).length = cs.length := by rw [srt_len, gradeN, List.length_map, rl]
      refine ⟨u, rfl, ⟨_, hu2⟩, fun D2 nD2 => ?_⟩
      refine lc_tup (K := K) (a := u) (xs := (srt b cs (gradeN os row)).map V.int) (fun i G3 => G3 = upd G2 D2 (.lst ((((srt b cs (gradeN os row)).take i).map (unG os)).map V.str))) ?_ ?_ ?_ ?_
      · rfl
      · rintro i G3 _ rfl
        exact same_seqT (same_new nD2) hu2
      · rintro i x G3 hi rfl
        rw [List.getElem?_map] at hi
        cases ez : (srt b cs (gradeN os row))[i]? with
        | none =>
          rw [ez] at hi
          cases hi
        | some z =>
          rw [ez] at hi
          cases hi
          obtain ⟨n, rfl, hn⟩ := bd z (List.mem_of_getElem? ez)
          have il := (List.getElem?_eq_some_iff.mp ez).1
          refine ⟨rfl, _, rfl, _, rfl, o, _, (n : Int), .str (os.getD n ""), rfl, rfl, same_seqT (s23.trans (same_new nD2)) hos, atI_nat (name_at hn), _, upd_same, ?_, ?_⟩
          · rw [List.length_map, List.length_map, List.length_take, sizeLine_eq]
            omega
          · rw [upd_upd, List.take_add_one, ez, List.map_append, List.map_append]
            rfl
      · rintro G3 rfl
        rw [List.length_map, List.take_length]
        have s4 := same_new (o := .lst (((srt b cs (gradeN os row)).map (unG os)).map V.str)) nD2
        refine ⟨D2, _, rfl, .inl ⟨SqL.of upd_same, fun t nt => ?_⟩⟩
        have st := same_new (o := .tup (((srt b cs (gradeN os row)).map (unG os)).map V.str)) nt
        exact q _ t ((s23.trans s4).trans st) (SqT.of upd_same)
end
end KS
/-! the law's own: what a record shows -/
namespace KS
open PySem PySem.Spec PyProof.Rows L2 RZ
theorem atI0 {α : Type} {xs : List α} {j : Nat} {v : α} (h : xs[j]? = some v) : atI xs (0 + (j : Int)) = some v := by
  rw [Int.zero_add]
  exact atI_nat h
theorem atI1 {α : Type} {xs : List α} {j : Nat} {v : α} (h : xs[j + 1]? = some v) : atI xs (0 + (j : Int) + 1) = some v := by
  rw [Int.zero_add]
  exact atI_nat h
def prsTo (ns : List Str) (j : Nat) : List (Str × Str) := (List.range j).map fun i => (ns.getD i "", ns.getD (i + 1) "")
theorem prsOf_to (ns : List Str) : prsTo ns (ns.length - 1) = prsOf ns := by
  unfold prsTo prsOf
  refine List.ext_getElem (by simp) fun i h1 h2 => ?_
  have hi : i < ns.length - 1 := by simpa using h1
  rw [List.getElem_map, List.getElem_range, List.getElem_zip, List.getElem_dropLast, List.getElem_tail]
  have a : i < ns.length := by omega
  have b : i + 1 < ns.length := by omega
  simp [List.getD_eq_getElem?_getD, a, b]
theorem isPerm_comm (l m : List Str) : l.isPerm m = m.isPerm l := by
  rw [Bool.eq_iff_iff, List.isPerm_iff, List.isPerm_iff]
  exact List.perm_comm
/-- the names at the places of a line, which is a list -/
theorem lc_atL {K : PySem.W.Frag} {t r : Addr} {rs : List Str} {ks : List Nat} {σ : L2.St} {H : Hp} {D : Addr} {j m : Nat} {Qd : Hp → Prop} (nD : H D = none)
    (ht : H t = some (.lst ((up ks).map V.int))) (hr : SqT K H r (rs.map V.str)) (hb : ∀ k ∈ ks, k < rs.length) (hl : ks.length ≤ 64) (hj : (wipe σ [j]).length > j) (ej : (wipe σ [j])[m]? = some (some (.ref r))) (nmj : j ≠ m)
    (hw : ∀ x, wipe ((wipe σ [j]).set j (some x)) [j] = wipe σ [j]) (q : Qd (upd H D (.lst ((atN rs ks).map V.str)))) :
    ∃ W : Nat → Nat → Hp → Prop, (∃ n, W 0 n (upd H D (.lst []))) ∧ ∀ i n G, W i n G →
      ((Itl K t).stop i G ∧ Qd G) ∨ ((Itl K t).go i G ∧ ∃ Nx : Hp → Prop, (∀ H', Nx H' → ∃ m', m' < n ∧ W (i + 1) m' H') ∧ ∀ x H', (Itl K t).yld i G x H' → gName j x (wipe σ [j]) H' fun σ2 H2 => wipe σ2 [j] = wipe σ [j] ∧ tYes σ2 H2 fun b H3 =>
        if b = true then (tOp (rIxT K) (tVar m) (tVar j)) σ2 H3 fun y H4 => ∃ acc, H4 D = some (.lst acc) ∧ acc.length < sizeLine ∧ Nx (upd H4 D (.lst (acc ++ [y]))) else Nx H3) := by
  refine lc_list (K := K) (a := t) (xs := (up ks).map V.int) (fun n G => G = upd H D (.lst ((atN rs (ks.take n)).map V.str))) ?_ ?_ ?_ ?_
  · rfl
  · rintro n G _ rfl
    exact SqL.of (same_new nD _ _ ht)
  · rintro n x G hn rfl
    unfold up at hn
    rw [List.map_map, List.getElem?_map] at hn
    cases ek : ks[n]? with
    | none =>
      rw [ek] at hn
      cases hn
    | some k =>
      rw [ek] at hn
      cases hn
      have hk := hb k (List.mem_of_getElem? ek)
      refine ⟨hw _, ?_⟩
      refine ⟨.ref r, by rw [List.getElem?_set_ne nmj]; exact ej, .int (k : Int), by rw [List.getElem?_set_self hj]; rfl, r, _, (k : Int), .str (rs.getD k ""), rfl, rfl, same_seqT (same_new nD) hr, atI_nat (name_at hk), _, upd_same, ?_, ?_⟩
      · rw [List.length_map, atN_len, List.length_take]
        exact small64 (by omega)
      · rw [upd_upd, List.take_add_one, ek]
        unfold atN
        rw [List.map_append, List.map_append]
        rfl
  · rintro G rfl
    have e : List.take ((up ks).map V.int).length ks = ks := List.take_of_length_le (by simp [up])
    rw [e]
    exact q
def spShown58 (K : PySem.W.Frag) : Sp := fun vs H Q _ => ∃ (a r l : Addr) (b : Bool) (cs : List Cell) (bs rs : List Str), vs = [.ref a, .ref r, .str (if b = true then "C" else "R"), .ref l] ∧ PlanAt K H a cs ∧ Good cs ∧ cs.length ≤ 12 ∧
  SqT K H r (bs.map V.str) ∧ SqT K H l (rs.map V.str) ∧ bs.length = cs.length ∧ rs.length = cs.length ∧ (∀ s ∈ bs, IsNm s) ∧ (∀ s ∈ rs, IsNm s) ∧
  ∀ H' y, Same H H' → SeenAt H' y (seenP b cs bs rs) → Q y H'
abbrev sShown58 : Stmt := topS 38
abbrev nShown58 : List Str := ["_law_spots_here", "_law_row", "_law_sort", "_law_later_here", "_law_found", "_law_strip", "_law_k"]
theorem scShown58 : FnScope nShown58 ["_law_spots_here", "_law_row", "_law_sort", "_law_later_here"] (defScope sShown58) := ⟨rfl, rfl, rfl, by decide +kernel, rfl, by decide +kernel, by decide +kernel⟩
section
variable {P : Program} {w : World} {K : PySem.W.Frag} {mg : Str → Option Value} {base : Heap}
theorem ok_shown58 {f fL : Addr} {fd fdL : FuncData} (F : Fun K "_law_shown" "_law_shown" sShown58 f fd)
    (GL : FnOk P w K mg base CX0 1 fL fdL ["_law_spots_here", "_law_sort"] (spLawLinesN K)) (bL : Binds K fdL ["_law_spots_here", "_law_sort"] []) (gL : mg "_law_lines" = some (.ref fL)) (kL : PySem.W.keepIn K (.ref fL) = true)
    (ms : mg "sorted" = none) (mr : mg "range" = none) (ml : mg "len" = none) (mt : mg "tuple" = none) :
    FnOk P w K mg base CX0 2 f fd ["_law_spots_here", "_law_row", "_law_sort", "_law_later_here"] (spShown58 K) := by
  refine F.ok scShown58 (fun vs H Q E h => ?_) (fun cdv A outer s H vs Q E hr h => ?_)
  · obtain ⟨a, r, l, b, cs, bs, rs, rfl, _⟩ := h
    rfl
  · obtain ⟨a, r, l, b, cs, bs, rs, rfl, hp, gd, hl, hrw, hla, rl, ll, nmb, nmr, q⟩ := h
    have nd := scShown58.nd
    have hu : (A.deeper (envOfC "_law_shown" (defScope sShown58) s.heap.objs.size f cdv)).units + 65 < cLine := by
      have := hr.un
      omega
    refine ⟨_, pss_cons (ps_set (i := 4) nd rfl (.inl rfl) (pe_lst pa_nil))
      (pss_cons (ps_for PassesOwn.never rfl (pi_list (pe_call GL hr (by rfl) gL kL bL .nil pass0 (pa_cons (pv 0) (pa_cons (pv 2) pa_nil)))) (pg_name (i := 5) nd rfl (.inr rfl))
        (pss_cons (ps_if (pt_cmpR (op_neD hr.units) (pe_callB (id := "sorted") (r := rSortedS K) cr_sortedS (by rfl) ms (by decide +kernel) (pa_cons
              (pe_lc (own := [("_law_k", 6)]) (g := gName 6) (tt := tYes) rfl nd (pi_list (pv 5)) (blkOk_by (N := nShown58) (sc := defScope sShown58) (by decide +kernel))
                (fun _ _ _ _ _ => pg_name (i := 6) nd rfl (Or.inl rfl)) (fun _ _ _ _ _ => pts_nil) (fun _ _ _ _ _ => pe_ix (r := rIxT K) ix_tup (pv 1) (pv 6) (fun _ _ => rfl))) pa_nil))
            (pe_callB (id := "sorted") (r := rSortedS K) cr_sortedS (by rfl) ms (by decide +kernel) (pa_cons
              (pe_lc (own := [("_law_k", 6)]) (g := gName 6) (tt := tYes) rfl nd (pi_list (pv 5)) (blkOk_by (N := nShown58) (sc := defScope sShown58) (by decide +kernel))
                (fun _ _ _ _ _ => pg_name (i := 6) nd rfl (Or.inl rfl)) (fun _ _ _ _ _ => pts_nil) (fun _ _ _ _ _ => pe_ix (r := rIxT K) ix_tup (pv 3) (pv 6) (fun _ _ => rfl))) pa_nil)) (nomark _))
            (pss_one (ps_ret pe_non)) pss_nil)
        (pss_one (ps_expr (pe_bm PySem.F.plainAttrs_list PySem.F.slot_list_extend PySem.F.type_list_extend mt_extend (pv 4) (pa_cons
          (pe_lc (own := [("_law_k", 6)]) (g := gName 6) (tt := tYes) rfl nd (pi_range1 (by rfl) mr (pa_cons (pe_op op_sub (pe_callB call_len_seq (by rfl) ml PySem.boot_len (pa_cons (pv 5) pa_nil)) pe_int) pa_nil)) (blkOk_by (N := nShown58) (sc := defScope sShown58) (by decide +kernel))
            (fun _ _ _ _ _ => pg_name (i := 6) nd rfl (Or.inl rfl)) (fun _ _ _ _ _ => pts_nil)
            (fun _ _ _ _ _ => pe_tup (pa_cons (pe_ix (r := rIxT K) ix_tup (pv 3) (pe_ix (r := rIxL K) ix_list (pv 5) (pv 6) (fun _ _ => rfl)) (fun _ _ => rfl))
              (pa_cons (pe_ix (r := rIxT K) ix_tup (pv 3) (pe_ix (r := rIxL K) ix_list (pv 5) (pe_op op_add (pv 6) pe_int) (fun _ _ => rfl)) (fun _ _ => rfl)) pa_nil)))) pa_nil))))))
      (pss_one (ps_ret (pe_callTy call_tuple_of (by rfl) mt (by decide +kernel) (pa_cons (pe_callB (id := "sorted") (r := rSortedD K) (cr_sortedD hu) (by rfl) ms (by decide +kernel) (pa_cons (pv 4) pa_nil)) pa_nil))))), ?_⟩
    refine ⟨Nat.zero_le _, fun o no => ?_⟩
    have s1 := same_new (o := .lst []) no
    have ho1 : upd H o (.lst []) o = some (.lst []) := upd_same
    refine ⟨_, rfl, _, rfl, a, b, cs, rfl, hp.kt (.of_same s1), by omega, fun H1 pl ys s2 hpl npl hy => ?_⟩
    have s12 := s1.trans s2
    have ho2 := s2 _ _ ho1
    have npo : pl ≠ o := Ne.symm (ne_of_none ho1 npl)
    refine ⟨pl, rfl, ⟨_, SqL.of hpl⟩, for_list (K := K) (a := pl) (xs := ys) (fun i σ G => ∃ (y5 : Option V) (xs : List V),
      σ = [some (.ref a), some (.ref r), some (.str (if b = true then "C" else "R")), some (.ref l), some (.ref o), y5, none] ∧ (∀ c u, c ≠ o → H1 c = some u → G c = some u) ∧ G o = some (.lst xs) ∧
      PrS G xs (prsL rs ((lnsN b cs).take i)) ∧ okLn bs rs ((lnsN b cs).take i) = true) ?_ ?_ ?_ ?_⟩
    · exact ⟨none, [], rfl, fun c u _ e => e, ho2, .nil, rfl⟩
    · rintro i σ G _ ⟨_, _, _, kG, _⟩
      exact SqL.of (kG _ _ npo hpl)
    · rintro i x σ G hi ⟨y5, xs, rfl, kG, hoG, hpr, hok⟩
      have kt := kt_but (K := K) ho2 kG
      obtain ⟨li, hli, t, rfl, ht, nt⟩ := paired_get hy hi
      have nto : t ≠ o := Ne.symm (ne_of_none ho1 nt)
      rw [lns_up, List.getElem?_map] at hli
      cases eks : (lnsN b cs)[i]? with
      | none =>
        rw [eks] at hli
        cases hli
      | some ks =>
        rw [eks] at hli
        cases hli
        have hb := (lns_parts b cs).bd ks (List.mem_of_getElem? eks)
        have hkl : ks.length ≤ 12 := Nat.le_trans (ln_len (List.mem_of_getElem? eks)) hl
        have htG := kG _ _ nto ht
        refine ⟨_, rfl, t, rfl, ⟨_, SqL.of htG⟩, fun D nD => ?_⟩
        refine lc_atL nD htG (kt _ _ (same_seqT s12 hrw)) (by rw [rl]; exact hb) (by omega) (by show 6 < 7; decide) rfl (by decide) (fun _ => rfl) ?_
        refine ⟨D, atN bs ks, rfl, SqL.of upd_same, by rw [atN_len]; omega, fun nS P1 pS oS nP1 => ?_⟩
        have sD := same_new (o := .lst ((atN bs ks).map V.str)) nD
        have sP1 := same_new (o := .lst (nS.map V.str)) nP1
        have hP1 : upd (upd G D (.lst ((atN bs ks).map V.str))) P1 (.lst (nS.map V.str)) P1 = some (.lst (nS.map V.str)) := upd_same
        have sG1 := sD.trans sP1
        generalize upd (upd G D (.lst ((atN bs ks).map V.str))) P1 (.lst (nS.map V.str)) = G1 at hP1 sG1 sP1
        have kt1 := kt.trans (.of_same sG1)
        refine ⟨_, rfl, t, rfl, ⟨_, SqL.of (sG1 _ _ htG)⟩, fun D2 nD2 => ?_⟩
        refine lc_atL nD2 (sG1 _ _ htG) (kt1 _ _ (same_seqT s12 hla)) (by rw [ll]; exact hb) (by omega) (by show 6 < 7; decide) rfl (by decide) (fun _ => rfl) ?_
        refine ⟨D2, atN rs ks, rfl, SqL.of upd_same, by rw [atN_len]; omega, fun nB P2 pB oB nP2 => ?_⟩
        have sD2 := same_new (o := .lst ((atN rs ks).map V.str)) nD2
        have sP2 := same_new (o := .lst (nB.map V.str)) nP2
        have hP2 : upd (upd G1 D2 (.lst ((atN rs ks).map V.str))) P2 (.lst (nB.map V.str)) P2 = some (.lst (nB.map V.str)) := upd_same
        have s2G := sD2.trans sP2
        generalize upd (upd G1 D2 (.lst ((atN rs ks).map V.str))) P2 (.lst (nB.map V.str)) = G2 at hP2 s2G sP2
        have nmAt : ∀ (us : List Str), us.length = cs.length → (∀ s ∈ us, IsNm s) → ∀ s ∈ atN us ks, IsNm s := fun us hus hn s hs => by
          unfold atN at hs
          obtain ⟨i', hi', rfl⟩ := List.mem_map.mp hs
          have hlt : i' < us.length := by rw [hus]; exact hb i' hi'
          rw [List.getD_eq_getElem?_getD, List.getElem?_eq_getElem hlt]
          exact hn _ (List.getElem_mem hlt)
        refine ⟨.list (nS.map PyData.str), .list (nB.map PyData.str), .lst (SqL.of (s2G _ _ hP1)) (nm_dp _), .lst (SqL.of hP2) (nm_dp _), nm_shaped (fun s hs => nmAt bs rl nmb s (pS.mem_iff.mp hs)), nm_shaped (fun s hs => nmAt rs ll nmr s (pB.mem_iff.mp hs)), _, rfl, ?_⟩
        rw [strs_eqL, sorted_same pS oS pB oB, isPerm_comm]
        have sG2 := sG1.trans s2G
        have smH : Same H G2 := fun c u e => sG2 _ _ (kG c u (ne_of_none e no) (s12 c u e))
        cases ep : (atN rs ks).isPerm (atN bs ks) with
        | false =>
          refine q G2 _ smH (.inl ⟨?_, rfl⟩)
          have : okLn bs rs (lnsN b cs) = false := by
            unfold okLn
            rw [List.all_eq_false]
            exact ⟨ks, List.mem_of_getElem? eks, by rw [ep]; decide⟩
          unfold seenP
          rw [this]
          rfl
        | true =>
          have hoG2 := sG2 _ _ hoG
          have htG2 := sG2 _ _ htG
          have hlaG2 : SqT K G2 l (rs.map V.str) := (kt.trans (.of_same sG2)) _ _ (same_seqT s12 hla)
          refine ⟨_, rfl, .inl ⟨rfl, _, SqL.of hoG2⟩, ?_⟩
          have ukl : ((up ks).map V.int).length = ks.length := by simp [up]
          refine ⟨_, rfl, t, _, rfl, .inl (SqL.of htG2), _, _, rfl, rfl, _, rfl, by rw [ukl]; omega, by rw [ukl]; omega, fun D3 nD3 => ?_⟩
          have noD3 : o ≠ D3 := ne_of_none hoG2 nD3
          rw [ukl]
          have en : ((ks.length : Int) - 1).toNat = ks.length - 1 := by omega
          rw [en]
          refine lc_range (lo := 0) (n := ks.length - 1) (fun j G3 => ∃ acc : List V, G3 D3 = some (.lst acc) ∧ PrS G3 acc (prsTo (atN rs ks) j) ∧ (∀ b o, b ≠ D3 → G2 b = some o → G3 b = some o)) ?_ ?_ ?_
          · exact ⟨[], upd_same, .nil, fun b o n e => by rw [upd_ne n]; exact e⟩
          · rintro j G3 hj ⟨acc, a1, a2, a3⟩
            have s3 : Same G2 G3 := fun b o e => a3 b o (ne_of_none e nD3) e
            have al : acc.length = j := by
              rw [Paired.length a2]
              simp [prsTo]
            have g1 : j < ks.length := by omega
            have g2 : j + 1 < ks.length := by omega
            have at1 : ((up ks).map V.int)[j]? = some (.int ((ks[j] : Nat) : Int)) := by simp [up, g1]
            have at2 : ((up ks).map V.int)[j + 1]? = some (.int ((ks[j + 1] : Nat) : Int)) := by simp [up, g2]
            have b1 : ks[j] < rs.length := by rw [ll]; exact hb _ (List.getElem_mem g1)
            have b2 : ks[j + 1] < rs.length := by rw [ll]; exact hb _ (List.getElem_mem g2)
            refine ⟨rfl, _, rfl, _, rfl, _, rfl, t, _, _, _, rfl, rfl, SqL.of (s3 _ _ htG2), atI0 at1, l, _, _, _, rfl, rfl, same_seqT s3 hlaG2, atI_nat (name_at b1), ?_⟩
            refine ⟨_, rfl, _, rfl, _, rfl, _, _, rfl, rfl, t, _, _, _, rfl, rfl, SqL.of (s3 _ _ htG2), atI1 at2, l, _, _, _, rfl, rfl, same_seqT s3 hlaG2, atI_nat (name_at b2), ?_⟩
            refine ⟨(by show 2 ≤ sizeLine; decide), fun Z nZ => ?_⟩
            have sZ := same_new (o := .tup [.str (rs.getD ks[j] ""), .str (rs.getD ks[j + 1] "")]) nZ
            have aZ := sZ _ _ a1
            have nDZ : D3 ≠ Z := ne_of_none a1 nZ
            have kp : ∀ p u, upd G3 Z (.tup [.str (rs.getD ks[j] ""), .str (rs.getD ks[j + 1] "")]) p = some (.tup u) → upd (upd G3 Z (.tup [.str (rs.getD ks[j] ""), .str (rs.getD ks[j + 1] "")])) D3 (.lst (acc ++ [V.ref Z])) p = some (.tup u) := fun p u e => by
              rw [upd_ne fun z => by rw [z, aZ] at e; cases e]
              exact e
            refine ⟨acc, aZ, by rw [sizeLine_eq]; omega, acc ++ [.ref Z], upd_same, ?_, fun b o n e => by rw [upd_ne n]; exact sZ _ _ (a3 b o n e)⟩
            have ex : prsTo (atN rs ks) (j + 1) = prsTo (atN rs ks) j ++ [(rs.getD ks[j] "", rs.getD ks[j + 1] "")] := by
              unfold prsTo
              rw [List.range_succ, List.map_append]
              congr 1
              have e1 : (atN rs ks).getD j "" = rs.getD ks[j] "" := by
                unfold atN
                rw [List.getD_eq_getElem?_getD, List.getElem?_map, List.getElem?_eq_getElem g1]
                rfl
              have e2 : (atN rs ks).getD (j + 1) "" = rs.getD ks[j + 1] "" := by
                unfold atN
                rw [List.getD_eq_getElem?_getD, List.getElem?_map, List.getElem?_eq_getElem g2]
                rfl
              show [((atN rs ks).getD j "", (atN rs ks).getD (j + 1) "")] = _
              rw [e1, e2]
            rw [ex]
            exact paired_append (PrS.mono kp (a2.same sZ)) (.cons ⟨Z, rfl, kp _ _ upd_same⟩ .nil)
          · rintro G3 ⟨acc, a1, a2, a3⟩
            have s3 : Same G2 G3 := fun b o e => a3 b o (ne_of_none e nD3) e
            have ho3 := s3 _ _ hoG2
            have e0 : prsTo (atN rs ks) (ks.length - 1) = prsOf (atN rs ks) := by
              rw [← prsOf_to, atN_len]
            rw [e0] at a2
            have sG3 := sG2.trans s3
            refine ⟨o, D3, xs, acc, rfl, rfl, ho3, a1, ?_, ?_⟩
            · have h1 := Paired.length hpr
              have h2 := prsL_len rs (ls := (lnsN b cs).take i) fun ks hk => Nat.le_trans (ln_len (List.mem_of_mem_take hk)) hl
              have h3 := lnsN_len b cs
              have h4 : ((lnsN b cs).take i).length ≤ 8 := by rw [List.length_take]; omega
              have h5 := Paired.length a2
              have h6 : (prsOf (atN rs ks)).length ≤ ks.length := by
                unfold prsOf
                rw [List.length_zip, List.length_tail, List.length_dropLast, atN_len]
                omega
              rw [sizeLine_eq, h1]
              omega
            have mono : ∀ p u, G3 p = some (.tup u) → upd G3 o (.lst (xs ++ acc)) p = some (.tup u) := fun p u e => by
              rw [upd_ne fun z => by rw [z, ho3] at e; cases e]
              exact e
            refine ⟨_, xs ++ acc, rfl, fun c u nc e => ?_, upd_same, ?_, ?_⟩
            · rw [upd_ne nc]
              exact sG3 _ _ (kG c u nc e)
            · unfold prsL
              rw [List.take_add_one, eks, List.flatMap_append]
              refine paired_append (PrS.mono mono (hpr.same sG3)) (PrS.mono mono ?_)
              show PrS G3 acc (prsOf (atN rs ks) ++ [])
              rw [List.append_nil]
              exact a2
            · unfold okLn at hok ⊢
              rw [List.take_add_one, eks, List.all_append, hok]
              show (true && ((atN rs ks).isPerm (atN bs ks) && true)) = true
              rw [ep]
              rfl
    · rintro σ G ⟨y5, xs, rfl, kG, hoG, hpr, hok⟩
      have e1 : ys.length = (lnsN b cs).length := by
        rw [Paired.length hy, lns_up, List.length_map]
      rw [e1, List.take_length] at hpr hok
      refine ⟨_, rfl, ?_⟩
      dsimp only [tNil]
      refine srtd_prs hoG hpr fun P1 zs nP hz => ?_
      have sP := same_new (o := .lst zs) nP
      refine ⟨P1, zs, rfl, .inl ⟨SqL.of upd_same, fun t nt => ?_⟩⟩
      have st := same_new (o := .tup zs) nt
      have smH : Same H G := fun c u e => kG c u (ne_of_none e no) (s12 c u e)
      refine q _ _ ((smH.trans sP).trans st) (.inr ⟨_, t, zs, ?_, rfl, upd_same, hz.same (sP.trans st)⟩)
      unfold seenP
      rw [hok]
      rfl
end
end KS
/-! all orders of names -/
namespace KS
open PySem PySem.Spec PyProof.Rows L2
open Classical in
/-- the names, sorted -/
noncomputable def sfOf (ss : List Str) : List Str := if h : ∃ sf : List Str, sf.Perm ss ∧ sortedS sf = true then h.choose else []
theorem sfOf_eq {ss ss' : List Str} (p : ss'.Perm ss) (o : sortedS ss' = true) : ss' = sfOf ss := by
  have h : ∃ sf : List Str, sf.Perm ss ∧ sortedS sf = true := ⟨ss', p, o⟩
  unfold sfOf
  rw [dif_pos h]
  exact sortedS_eq (p.trans h.choose_spec.1.symm) o h.choose_spec.2
theorem ordS_len (sf : List Str) : ∀ n, (ordS sf n).length ≤ sf.length ^ n
  | 0 => Nat.le_refl _
  | n + 1 => by
    have h : ∀ L : List (List Str), (L.flatMap (extS sf)).length ≤ L.length * sf.length := fun L => by
      induction L with
      | nil => exact Nat.zero_le _
      | cons l L ih =>
        rw [List.flatMap_cons, List.length_append, List.length_cons, Nat.succ_mul]
        have : (extS sf l).length ≤ sf.length := by
          unfold extS
          rw [List.length_map]
          exact List.length_filter_le _ _
        omega
    have h2 := h (ordS sf n)
    have h3 := Nat.mul_le_mul_right sf.length (ordS_len sf n)
    rw [Nat.pow_succ]
    exact Nat.le_trans h2 h3
theorem extS_len (sf l : List Str) : (extS sf l).length ≤ sf.length := by
  unfold extS
  rw [List.length_map]
  exact List.length_filter_le _ _
theorem flatS_len (sf : List Str) (L : List (List Str)) : (L.flatMap (extS sf)).length ≤ L.length * sf.length := by
  induction L with
  | nil => exact Nat.zero_le _
  | cons l L ih =>
    rw [List.flatMap_cons, List.length_append, List.length_cons, Nat.succ_mul]
    have := extS_len sf l
    omega
/-- a row of names; known to have no dict where it is long enough -/
def RowN (K : PySem.W.Frag) (G : Hp) (x : V) (l : List Str) : Prop := ∃ t, x = .ref t ∧ SqT K G t (l.map V.str) ∧ (2 ≤ l.length → TupN G t (l.map V.str))
theorem RowN.keep {K : PySem.W.Frag} {G G' : Hp} {L : Addr} {ls : List V} (hL : G L = some (.lst ls)) (k : ∀ b o, b ≠ L → G b = some o → G' b = some o) {x : V} {l : List Str} (h : RowN K G x l) : RowN K G' x l := by
  obtain ⟨t, e, h1, h2⟩ := h
  refine ⟨t, e, ?_, fun z => ?_⟩
  · rcases h1 with (q | ⟨ob, q⟩) | q
    · exact .inl (.inl (k _ _ (ne_of q hL (by intro z; cases z)) q))
    · exact .inl (.inr ⟨ob, k _ _ (ne_of q hL (by intro z; cases z)) q⟩)
    · exact .inr q
  · obtain ⟨ob, q, c⟩ := h2 z
    exact ⟨ob, k _ _ (ne_of q hL (by intro z; cases z)) q, c⟩
theorem RowN.same {K : PySem.W.Frag} {G G' : Hp} (s : Same G G') {x : V} {l : List Str} (h : RowN K G x l) : RowN K G' x l := by
  obtain ⟨t, e, h1, h2⟩ := h
  exact ⟨t, e, same_seqT s h1, fun z => (h2 z).same s⟩
def spOrders58 (K : PySem.W.Frag) : Sp := fun vs H Q _ => ∃ (a : Addr) (ss : List Str), vs = [.ref a] ∧ SqL K H a (ss.map V.str) ∧ 2 ≤ ss.length ∧ ss.length ≤ 5 ∧
  ∀ H' F ys, Same H H' → H' F = some (.lst ys) → (sfOf ss).Perm ss → Paired (RowN K H') ys (ordS (sfOf ss) ss.length) → Q (.ref F) H'
abbrev sOrders58 : Stmt := topS 39
abbrev nOrders58 : List Str := ["_law_folk", "_law_found", "_law_turn", "_law_longer", "_law_row", "_law_person"]
theorem scOrders58 : FnScope nOrders58 ["_law_folk"] (defScope sOrders58) := ⟨rfl, rfl, rfl, by decide +kernel, rfl, by decide +kernel, by decide +kernel⟩
section
variable {P : Program} {w : World} {K : PySem.W.Frag} {mg : Str → Option Value} {base : Heap}
theorem ok_orders58 {f : Addr} {fd : FuncData} (F : Fun K "_law_orders" "_law_orders" sOrders58 f fd) (ms : mg "sorted" = none) : FnOk P w K mg base CX0 1 f fd ["_law_folk"] (spOrders58 K) := by
  refine F.ok scOrders58 (fun vs H Q E h => ?_) (fun cdv A outer s H vs Q E hr h => ?_)
  · obtain ⟨n, ss, rfl, _⟩ := h
    rfl
  · obtain ⟨a, ss, rfl, ha, l2, l5, q⟩ := h
    have nd := scOrders58.nd
    refine ⟨_, pss_cons (ps_set (i := 1) nd rfl (.inl rfl) (pe_lst (pa_cons (pe_tup pa_nil) pa_nil)))
      (pss_cons (ps_for PassesOwn.never rfl (pi_list (pv 0)) (pg_name (i := 2) nd rfl (.inl rfl))
        (pss_cons (ps_set (i := 3) nd rfl (.inl rfl) (pe_lst pa_nil))
        (pss_cons (ps_for PassesOwn.never rfl (pi_list (pv 1)) (pg_name (i := 4) nd rfl (.inr rfl))
          (pss_one (ps_expr (pe_bm PySem.F.plainAttrs_list PySem.F.slot_list_extend PySem.F.type_list_extend mt_extend (pv 3) (pa_cons
            (pe_lc (own := [("_law_person", 5)]) (g := gName 5) rfl nd (pi_list (pe_callB (id := "sorted") (r := rSortedS K) cr_sortedS (by rfl) ms (by decide +kernel) (pa_cons (pv 0) pa_nil))) (blkOk_by (N := nOrders58) (sc := defScope sOrders58) (by decide +kernel))
              (fun _ _ _ _ _ => pg_name (i := 5) nd rfl (Or.inl rfl)) (fun _ _ _ _ _ => pts_one (pt_cmpR (r := rIn K true) op_notIn_seq (pv 5) (pv 4) (by rfl)))
              (fun _ _ _ _ _ => pe_op (r := rCatFz K) op_catFz (pv 4) (pe_tup (pa_cons (pv 5) pa_nil)))) pa_nil)))))
        (pss_one (ps_set (i := 1) nd rfl (.inl rfl) (pv 3))))))
      (pss_one (ps_ret (pv 1)))), ?_⟩
    refine ⟨(by show 0 ≤ sizeLine; decide), fun T0 n0 => ?_⟩
    have s0 := same_new (o := .tup []) n0
    refine ⟨(by show 1 ≤ sizeLine; decide), fun F0 nF0 => ?_⟩
    have s1 := same_new (o := .lst [.ref T0]) nF0
    have hss : (ss.map V.str).length = ss.length := List.length_map ..
    refine ⟨_, rfl, a, rfl, ⟨_, sqL_same (s0.trans s1) ha⟩, for_list (K := K) (a := a) (xs := ss.map V.str) (fun i σ G => ∃ (F : Addr) (ys : List V) (y2 y3 y4 : Option V), σ = [some (.ref a), some (.ref F), y2, y3, y4, none] ∧
      Same H G ∧ G F = some (.lst ys) ∧ (i ≠ 0 → (sfOf ss).Perm ss) ∧ Paired (RowN K G) ys (ordS (sfOf ss) i)) ?_ ?_ ?_ ?_⟩
    · exact ⟨F0, [.ref T0], none, none, none, rfl, s0.trans s1, upd_same, (fun z => absurd rfl z), .cons ⟨T0, rfl, same_seqT s1 (SqT.of upd_same), (fun z => absurd z (by decide))⟩ .nil⟩
    · rintro i σ G _ ⟨F, ys, y2, y3, y4, rfl, sG, hF, hp, hy⟩
      exact sqL_same sG ha
    · rintro i x σ G hi ⟨F, ys, y2, y3, y4, rfl, sG, hF, hp, hy⟩
      have hi' : i < ss.length := by
        rw [← hss]
        exact (List.getElem?_eq_some_iff.mp hi).1
      refine ⟨(by show 0 ≤ sizeLine; decide), fun L nL => ?_⟩
      have sL := same_new (o := .lst []) nL
      have nFL : F ≠ L := ne_of_none hF nL
      refine ⟨_, rfl, F, rfl, ⟨_, SqL.of (sL _ _ hF)⟩, for_list (K := K) (a := F) (xs := ys) (fun j σ G' => ∃ (ls : List V) (y4 : Option V), σ = [some (.ref a), some (.ref F), some x, some (.ref L), y4, none] ∧ (∀ b o, b ≠ L → G b = some o → G' b = some o) ∧ G' L = some (.lst ls) ∧
        ((i ≠ 0 ∨ j ≠ 0) → (sfOf ss).Perm ss) ∧ Paired (RowN K G') ls (((ordS (sfOf ss) i).take j).flatMap (extS (sfOf ss)))) ?_ ?_ ?_ ?_⟩
      · exact ⟨[], y4, rfl, fun b o n e => sL b o e, upd_same, (fun z => z.elim hp (fun z => absurd rfl z)), .nil⟩
      · rintro j σ G' _ ⟨ls, _, _, k', _⟩
        exact SqL.of (k' _ _ nFL hF)
      · rintro j x2 σ G' hj ⟨ls, y4, rfl, k', hL, hpj, hq⟩
        have sm : Same G G' := fun b o e => k' b o (ne_of_none e nL) e
        obtain ⟨l, hlj, hrow⟩ := paired_get hy hj
        have hrow' := hrow.same sm
        obtain ⟨t, rfl, ht, _⟩ := hrow'
        refine ⟨_, rfl, .inl ⟨rfl, _, SqL.of hL⟩, ?_⟩
        refine ⟨_, rfl, a, ss, rfl, sqL_same (sG.trans sm) ha, by omega, fun sf S pS oS nS => ?_⟩
        obtain rfl := sfOf_eq pS oS
        have sS := same_new (o := .lst ((sfOf ss).map V.str)) nS
        have hS : upd G' S (.lst ((sfOf ss).map V.str)) S = some (.lst ((sfOf ss).map V.str)) := upd_same
        have hL1 := sS _ _ hL
        generalize upd G' S (.lst ((sfOf ss).map V.str)) = G1 at sS hS hL1
        have hll : (mem_ordS.mp (List.mem_of_getElem? hlj)).1 = (mem_ordS.mp (List.mem_of_getElem? hlj)).1 := rfl
        have lli := (mem_ordS.mp (List.mem_of_getElem? hlj)).1
        refine ⟨S, rfl, ⟨_, SqL.of hS⟩, fun D nD => ?_⟩
        have nSD : S ≠ D := ne_of_none hS nD
        have nLD : L ≠ D := ne_of_none hL1 nD
        have sfl : (sfOf ss).length = ss.length := pS.length_eq
        refine lc_list (K := K) (a := S) (xs := (sfOf ss).map V.str) (fun k G2 => ∃ acc : List V, G2 D = some (.lst acc) ∧ Paired (RowN K G2) acc (extS ((sfOf ss).take k) l) ∧ (∀ b o, b ≠ D → G1 b = some o → G2 b = some o)) ?_ ?_ ?_ ?_
        · exact ⟨[], upd_same, .nil, fun b o n e => by rw [upd_ne n]; exact e⟩
        · rintro k G2 _ ⟨acc, a1, a2, a3⟩
          exact SqL.of (a3 _ _ nSD hS)
        · rintro k x3 G2 hk ⟨acc, a1, a2, a3⟩
          have s2 : Same G1 G2 := fun b o e => a3 b o (ne_of_none e nD) e
          rw [List.getElem?_map] at hk
          cases ez : (sfOf ss)[k]? with
          | none =>
            rw [ez] at hk
            cases hk
          | some z =>
            rw [ez] at hk
            cases hk
            have al : acc.length ≤ 5 := by
              rw [Paired.length a2]
              have := extS_len ((sfOf ss).take k) l
              rw [List.length_take] at this
              omega
            have ht2 := same_seqT (sS.trans s2) ht
            have ext : extS ((sfOf ss).take (k + 1)) l = extS ((sfOf ss).take k) l ++ (if z ∈ l then [] else [l ++ [z]]) := by
              unfold extS
              rw [List.take_add_one, ez, List.filter_append, List.map_append]
              congr 1
              show List.map _ (List.filter _ [z]) = _
              by_cases c : z ∈ l
              · rw [if_pos c, List.filter_cons_of_neg (by simpa using c)]
                rfl
              · rw [if_neg c, List.filter_cons_of_pos (by simpa using c)]
                rfl
            refine ⟨rfl, _, rfl, _, rfl, t, _, rfl, .inr ht2, rfl, strs_flat _, ?_⟩
            rw [inV_strs]
            refine ⟨_, rfl, ?_⟩
            rw [ext]
            by_cases c : z ∈ l
            · rw [decide_eq_true c, if_pos c, List.append_nil]
              exact ⟨acc, a1, a2, a3⟩
            · rw [decide_eq_false c, if_neg c]
              refine ⟨_, rfl, _, rfl, (by show 1 ≤ sizeLine; decide), fun Z nZ => ?_⟩
              have sZ := same_new (o := .tup [.str z]) nZ
              have fin : ∀ (G4 : Hp) (u : Addr), Same G2 G4 → RowN K G4 (.ref u) (l ++ [z]) → ∃ acc_1, G4 D = some (.lst acc_1) ∧ acc_1.length < sizeLine ∧ ∃ acc, upd G4 D (.lst (acc_1 ++ [V.ref u])) D = some (.lst acc) ∧ Paired (RowN K (upd G4 D (.lst (acc_1 ++ [V.ref u])))) acc (extS ((sfOf ss).take k) l ++ [l ++ [z]]) ∧ (∀ b o, b ≠ D → G1 b = some o → upd G4 D (.lst (acc_1 ++ [V.ref u])) b = some o) := fun G4 u s4 hu => by
                have a4 := s4 _ _ a1
                refine ⟨acc, a4, by rw [sizeLine_eq]; omega, acc ++ [.ref u], upd_same, ?_, fun b o n e => by rw [upd_ne n]; exact s4 _ _ (a3 b o n e)⟩
                have kp : ∀ b o, b ≠ D → G4 b = some o → upd G4 D (.lst (acc ++ [V.ref u])) b = some o := fun b o n e => by
                  rw [upd_ne n]
                  exact e
                exact paired_append (Paired.mono (fun _ _ h => (h.same s4).keep a4 kp) a2) (.cons (hu.keep a4 kp) .nil)
              refine ⟨t, Z, l.map V.str, [.str z], rfl, rfl, same_seqT sZ ht2, SqT.of upd_same, ?_, by simp, fun e => ?_, fun e p ob np oc od => ?_⟩
              · rw [List.length_map, sizeLine_eq]
                show l.length + 1 ≤ _
                omega
              · have e' : l = [] := List.map_eq_nil_iff.mp e
                subst e'
                exact fin _ Z sZ ⟨Z, rfl, SqT.of upd_same, fun h => absurd h (by show ¬ 2 ≤ 1; decide)⟩
              · have sp := same_new (o := .frz ob (.tup (l.map V.str ++ [V.str z]))) np
                have tn : TupN (upd (upd G2 Z (.tup [.str z])) p (.frz ob (.tup (l.map V.str ++ [V.str z])))) p ((l ++ [z]).map V.str) := by
                  rw [List.map_append]
                  exact ⟨ob, upd_same, oc, od⟩
                exact fin _ p (sZ.trans sp) ⟨p, rfl, tn.sq, fun _ => tn⟩
        · rintro G2 ⟨acc, a1, a2, a3⟩
          rw [List.take_of_length_le (by rw [List.length_map]; exact Nat.le_refl _)] at a2
          have s2 : Same G1 G2 := fun b o e => a3 b o (ne_of_none e nD) e
          have hL2 := s2 _ _ hL1
          have lb : ls.length + acc.length ≤ sizeLine := by
            rw [Paired.length hq, Paired.length a2]
            have h1 := flatS_len (sfOf ss) ((ordS (sfOf ss) i).take j)
            have h2 : ((ordS (sfOf ss) i).take j).length ≤ (ordS (sfOf ss) i).length := by
              rw [List.length_take]
              exact Nat.min_le_right _ _
            have h3 := ordS_len (sfOf ss) i
            have h4 := extS_len (sfOf ss) l
            have h5 : (sfOf ss).length ^ i ≤ 5 ^ 5 := Nat.le_trans (Nat.pow_le_pow_left (by omega) i) (Nat.pow_le_pow_right (by decide) (by omega))
            have h6 : ((ordS (sfOf ss) i).take j).length * (sfOf ss).length ≤ 5 ^ 5 * 5 := Nat.mul_le_mul (by omega) (by omega)
            rw [sizeLine_eq]
            have h7 : 5 ^ 5 * 5 = 15625 := by decide
            omega
          refine ⟨L, D, ls, acc, rfl, rfl, hL2, a1, lb, ?_⟩
          have kp : ∀ b o, b ≠ L → G2 b = some o → upd G2 L (.lst (ls ++ acc)) b = some o := fun b o n e => by
            rw [upd_ne n]
            exact e
          refine ⟨ls ++ acc, _, rfl, fun b o n e => kp _ _ n ((sS.trans s2) _ _ (k' b o n e)), upd_same, fun _ => pS, ?_⟩
          rw [List.take_add_one, hlj, List.flatMap_append]
          refine paired_append (Paired.mono (fun _ _ h => (h.same (sS.trans s2)).keep hL2 kp) hq) ?_
          show Paired (RowN K _) acc (extS (sfOf ss) l ++ [])
          rw [List.append_nil]
          exact Paired.mono (fun _ _ h => h.keep hL2 kp) a2
      · rintro σ G' ⟨ls, y4, rfl, k', hL, hpj, hq⟩
        rw [Paired.length hy, List.take_length] at hq
        have sm : Same G G' := fun b o e => k' b o (ne_of_none e nL) e
        refine ⟨_, rfl, L, ls, _, _, _, rfl, sG.trans sm, hL, fun _ => ?_, hq⟩
        refine hpj ?_
        by_cases c : i = 0
        · subst c
          right
          rw [Paired.length hy]
          exact Nat.one_ne_zero
        · exact .inl c
    · rintro σ G ⟨F, ys, y2, y3, y4, rfl, sG, hF, hp, hy⟩
      rw [hss] at hp hy
      exact ⟨_, rfl, q G F ys sG hF (hp (by omega)) hy⟩
end
end KS
/-! the law's own names -/
namespace KS
open PySem PySem.Spec PyProof.Rows L2 RZ
theorem cut58 {R : L2.St → Hp → Prop} {Pm : L2.St → Hp → Prop} {goal : Prop} (main : (∀ σ' H', Pm σ' H' → R σ' H') → goal) (fin : ∀ σ' H', Pm σ' H' → R σ' H') : goal := main fin
def ch1 (c : Nat) : Str := ⟨#[c]⟩
theorem join_cps : ∀ l : List Nat, Str.join "" (l.map ch1) = ⟨l.toArray⟩
  | [] => by decide +kernel
  | [c] => rfl
  | b :: c :: r => by
    have h := join_cps (c :: r)
    show ch1 b ++ "" ++ Str.join "" ((c :: r).map ch1) = _
    rw [h]
    show (⟨(#[b] ++ #[]) ++ (c :: r).toArray⟩ : Str) = ⟨(b :: c :: r).toArray⟩
    congr 1
    simp
theorem join_cpsT (l : List Nat) : Txt.join "" (l.map ch1) = ⟨l.toArray⟩ := by
  show Builtin.Str.glued "" (l.map ch1) = _
  rw [StrLaws.glued_eq_join, join_cps]
theorem ch1_sum : ∀ l : List Nat, ((l.map ch1).map (·.length)).sum = l.length
  | [] => rfl
  | b :: w => by
    show 1 + ((w.map ch1).map (·.length)).sum = _
    rw [ch1_sum w, List.length_cons]
    omega
theorem abc_at {r : Int} (h0 : 0 ≤ r) (h1 : r < 26) : ∃ c, atI abcS.cps.toList r = some c ∧ 97 ≤ c ∧ c ≤ 122 := by
  obtain ⟨n, rfl⟩ := Int.eq_ofNat_of_zero_le h0
  have all : ∀ n : Nat, n < 26 → atI abcS.cps.toList (n : Int) = some (97 + n) := by decide +kernel
  have hn : n < 26 := by omega
  exact ⟨_, all n hn, by omega, by omega⟩
def ownS : List Str := ["set", "swap", "undo", "table", "value", "edits", "keeps", "word", "order", "never", "row", "repeat"]
def isNmB (s : Str) : Bool := decide (1 ≤ s.length) && decide (s.length ≤ 6) && s.cps.toList.all fun c => decide (97 ≤ c) && decide (c ≤ 122)
theorem isNm_of {s : Str} (h : isNmB s = true) : IsNm s := by
  unfold isNmB at h
  rw [Bool.and_eq_true, Bool.and_eq_true, decide_eq_true_eq, decide_eq_true_eq, List.all_eq_true] at h
  exact ⟨h.1.1, h.1.2, fun c hc => by
    have := h.2 c hc
    rw [Bool.and_eq_true, decide_eq_true_eq, decide_eq_true_eq] at this
    exact this⟩
theorem own_ok : ∀ s ∈ ownS, IsNm s := by
  have h : ownS.all isNmB = true := by decide +kernel
  rw [List.all_eq_true] at h
  exact fun s hs => isNm_of (h s hs)
def preC (s : Str) : Str := cutS s none (some 5)
def abcN : List Nat := abcS.cps.toList
def cand (s : Str) : List Str := s :: abcN.map fun c => preC s ++ ch1 c
theorem preC_list (s : Str) : (preC s).cps.toList = s.cps.toList.take 5 := by
  unfold preC cutS
  rw [HT.sIx_none]
  show List.take (HT.sIx s.length s.length (some ((5 : Nat) : Int)) - 0) (s.cps.toList.drop 0) = _
  rw [HT.sIx_nat, List.drop_zero]
  show List.take (min 5 s.cps.size) s.cps.toList = _
  rw [← Array.length_toList, Nat.min_comm]
  exact (List.take_eq_take_min (l := s.cps.toList) (i := 5)).symm ▸ by rw [Nat.min_comm]
theorem cand_list (s : Str) (c : Nat) : (preC s ++ ch1 c).cps.toList = s.cps.toList.take 5 ++ [c] := by
  show ((preC s).cps ++ #[c]).toList = _
  rw [Array.toList_append, preC_list]
theorem len_list (s : Str) : s.length = s.cps.toList.length := (Array.length_toList).symm
theorem abcN_nd : abcN.Nodup := by decide +kernel
theorem abcN_bd : ∀ c ∈ abcN, 97 ≤ c ∧ c ≤ 122 := by
  have h : abcN.all (fun c => decide (97 ≤ c) && decide (c ≤ 122)) = true := by decide +kernel
  rw [List.all_eq_true] at h
  exact fun c hc => by
    have := h c hc
    rw [Bool.and_eq_true, decide_eq_true_eq, decide_eq_true_eq] at this
    exact this
theorem abcN_len : abcN.length = 26 := by decide +kernel
theorem cand_nm {s : Str} (h : IsNm s) : ∀ z ∈ cand s, IsNm z := by
  intro z hz
  rcases List.mem_cons.mp hz with rfl | hz
  · exact h
  · obtain ⟨c, hc, rfl⟩ := List.mem_map.mp hz
    have e := cand_list s c
    have hb := abcN_bd c hc
    obtain ⟨h1, h2, h3⟩ := h
    rw [len_list] at h1 h2
    refine ⟨?_, ?_, fun d hd => ?_⟩
    · rw [len_list, e, List.length_append]
      show 1 ≤ _ + 1
      omega
    · rw [len_list, e, List.length_append, List.length_take]
      show _ + 1 ≤ 6
      omega
    · rw [e] at hd
      rcases List.mem_append.mp hd with q | q
      · exact h3 d (List.mem_of_mem_take q)
      · rw [List.mem_singleton.mp q]
        exact hb
theorem cand_tail_nd (s : Str) : (abcN.map fun c => preC s ++ ch1 c).Nodup := by
  rw [List.nodup_iff_pairwise_ne, List.pairwise_map]
  refine (List.nodup_iff_pairwise_ne.mp abcN_nd).imp fun {a b} q e => q ?_
  have e1 := congrArg (fun z : Str => z.cps.toList) e
  rw [cand_list, cand_list] at e1
  have := List.append_cancel_left e1
  exact (List.cons.inj this).1
theorem nodup_lenS {l m : List Str} (h : l.Nodup) (k : ∀ x ∈ l, x ∈ m) : l.length ≤ m.length := by
  induction l generalizing m with
  | nil => exact Nat.zero_le _
  | cons x l ih =>
    rw [List.nodup_cons] at h
    have hx := k x List.mem_cons_self
    have := ih (m := m.erase x) h.2 fun y hy => (List.mem_erase_of_ne (fun e => h.1 (by rw [← e]; exact hy))).mpr (k y (List.mem_cons_of_mem _ hy))
    rw [List.length_erase_of_mem hx] at this
    have h0 := List.length_pos_of_mem hx
    rw [List.length_cons]
    omega
theorem fresh_ok {s : Str} {fs : List Str} (h : IsNm s) (hl : fs.length ≤ 11) : ∃ z, ((cand s).filter fun z => !decide (z ∈ fs))[0]? = some z ∧ IsNm z ∧ z ∉ fs := by
  cases e : (cand s).filter fun z => !decide (z ∈ fs) with
  | nil =>
    exfalso
    rw [List.filter_eq_nil_iff] at e
    have := nodup_lenS (cand_tail_nd s) (m := fs) fun x hx => by
      have := e x (List.mem_cons_of_mem _ hx)
      simpa using this
    rw [List.length_map, abcN_len] at this
    omega
  | cons z l =>
    have hz : z ∈ (cand s).filter fun z => !decide (z ∈ fs) := by rw [e]; exact List.mem_cons_self
    rw [List.mem_filter] at hz
    exact ⟨z, rfl, cand_nm h z hz.1, by simpa using hz.2⟩
def spNames58 (K : PySem.W.Frag) : Sp := fun vs H Q _ => ∃ (p : Addr) (m : Nat), vs = [.ref p, .int (m : Nat)] ∧ PoolO (H p) ∧ m ≤ 12 ∧
  ∀ (H' : Hp) (t : Addr) (ss : List Str), KeepX p H H' → PoolO (H' p) → H' t = some (.lst (ss.map V.str)) → t ≠ p → ss.length = m → (∀ s ∈ ss, IsNm s) → ss.Nodup → Q (.ref t) H'
abbrev sNames58 : Stmt := topS 32
abbrev nNames58 : List Str := ["_law_pool_here", "_law_many", "_law_own", "_law_letters", "_law_found", "_law_turn", "_law_spelt", "_law_some", "_law_k", "_law_letter", "_law_call"]
theorem scNames58 : FnScope nNames58 ["_law_pool_here", "_law_many"] (defScope sNames58) := ⟨rfl, rfl, rfl, by decide +kernel, rfl, by decide +kernel, by decide +kernel⟩
section
variable {P : Program} {w : World} {K : PySem.W.Frag} {mg : Str → Option Value} {base : Heap}
theorem ok_names58 {f fD : Addr} {fd fdD : FuncData} (F : Fun K "_law_names" "_law_names" sNames58 f fd)
    (GD : FnOk P w K mg base CX0 1 fD fdD ["_law_pool_here", "_law_most"] spDraw) (bD : Binds K fdD ["_law_pool_here", "_law_most"] []) (gD : mg "_law_draw" = some (.ref fD)) (kD : PySem.W.keepIn K (.ref fD) = true)
    (mr : mg "range" = none) : FnOk P w K mg base CX0 2 f fd ["_law_pool_here", "_law_many"] (spNames58 K) := by
  refine F.ok scNames58 (fun vs H Q E h => ?_) (fun cdv A outer s H vs Q E hr h => ?_)
  · obtain ⟨p, m, rfl, _⟩ := h
    rfl
  · obtain ⟨p, m, rfl, po, hm, q⟩ := h
    have nd := scNames58.nd
    refine ⟨_, pss_cons (ps_set (i := 2) nd rfl (.inl rfl) (pe_lst (pa_cons pe_str (pa_cons pe_str (pa_cons pe_str (pa_cons pe_str (pa_cons pe_str (pa_cons pe_str (pa_cons pe_str (pa_cons pe_str (pa_cons pe_str (pa_cons pe_str (pa_cons pe_str (pa_cons pe_str pa_nil))))))))))))))
      (pss_cons (ps_asg (pe_tup (pa_cons pe_str (pa_cons (pe_lst pa_nil) pa_nil))) (pg_tup (by rfl) (pgs_cons (pg_name (i := 3) nd rfl (.inr rfl)) (pgs_cons (pg_name (i := 4) nd rfl (.inr rfl)) pgs_nil))))
      (pss_cons (ps_for PassesOwn.never rfl (pi_range1 (by rfl) mr (pa_cons (pv 1) pa_nil)) (pg_name (i := 5) nd rfl (.inl rfl))
        (pss_cons (ps_set (i := 6) nd rfl (.inr rfl) (pe_ix (r := rIxL K) ix_list (pv 2) (pe_call GD hr (by rfl) gD kD bD .nil pass0 (pa_cons (pv 0) (pa_cons pe_int pa_nil))) (fun _ _ => rfl)))
        (pss_cons (ps_if (pt_cmpR op_gt (pe_call GD hr (by rfl) gD kD bD .nil pass0 (pa_cons (pv 0) (pa_cons pe_int pa_nil))) pe_int (nomark _))
          (pss_one (ps_set (i := 6) nd rfl (.inr rfl) (pe_join pe_str (pe_lc (own := [("_law_k", 8)]) (g := gName 8) (tt := tYes) rfl nd (pi_range1 (by rfl) mr (pa_cons (pe_op op_add pe_int (pe_call GD hr (by rfl) gD kD bD .nil pass0 (pa_cons (pv 0) (pa_cons pe_int pa_nil)))) pa_nil)) (blkOk_by (N := nNames58) (sc := defScope sNames58) (by decide +kernel))
            (fun _ _ _ _ _ => pg_name (i := 8) nd rfl (Or.inl rfl)) (fun _ _ _ _ _ => pts_nil)
            (fun _ _ _ _ _ => pe_ix ix_str (pv 3) (pe_call GD hr (by rfl) gD kD bD .nil pass0 (pa_cons (pv 0) (pa_cons pe_int pa_nil))) (fun _ _ => rfl)))))) pss_nil)
        (pss_cons (ps_set (i := 7) nd rfl (.inl rfl) (pe_op op_cat (pe_lst (pa_cons (pv 6) pa_nil)) (pe_lc (own := [("_law_letter", 9)]) (g := gName 9) (tt := tYes) rfl nd (pi_str (pv 3)) (blkOk_by (N := nNames58) (sc := defScope sNames58) (by decide +kernel))
            (fun _ _ _ _ _ => pg_name (i := 9) nd rfl (Or.inl rfl)) (fun _ _ _ _ _ => pts_nil)
            (fun _ _ _ _ _ => pe_op op_add_str (pe_slice sl_str (pv 6) po_none (po_some pe_int)) (pv 9)))))
        (pss_one (ps_expr (pe_bm PySem.F.plainAttrs_list PySem.F.slot_list_append PySem.F.type_list_append mt_append (pv 4) (pa_cons
          (pe_ix (r := rIxL K) ix_list (pe_lc (own := [("_law_call", 10)]) (g := gName 10) rfl nd (pi_list (pv 7)) (blkOk_by (N := nNames58) (sc := defScope sNames58) (by decide +kernel))
            (fun _ _ _ _ _ => pg_name (i := 10) nd rfl (Or.inl rfl)) (fun _ _ _ _ _ => pts_one (pt_cmpR (r := rIn K true) op_notIn_seq (pv 10) (pv 4) (by rfl)))
            (fun _ _ _ _ _ => pv 10)) pe_int (fun _ _ => rfl)) pa_nil))))))))
      (pss_one (ps_ret (pv 4))))), ?_⟩
    refine ⟨(by show 12 ≤ sizeLine; decide), fun W nW => ?_⟩
    have sW := same_new (o := .lst (ownS.map V.str)) nW
    have hW : upd H W (.lst (ownS.map V.str)) W = some (.lst (ownS.map V.str)) := upd_same
    show _
    have eown : ([V.str "set", V.str "swap", V.str "undo", V.str "table", V.str "value", V.str "edits", V.str "keeps", V.str "word", V.str "order", V.str "never", V.str "row", V.str "repeat"] : List V) = ownS.map V.str := rfl
    rw [eown]
    refine ⟨Nat.zero_le _, fun F0 nF => ⟨(by show 2 ≤ sizeLine; decide), fun T nT => ?_⟩⟩
    have sF := same_new (o := .lst []) nF
    have sT := same_new (o := .tup [.str abcS, .ref F0]) nT
    have s3 := (sW.trans sF).trans sT
    have hW3 := sT _ _ (sF _ _ hW)
    have hF3 := sT _ _ (show upd (upd H W (.lst (ownS.map V.str))) F0 (.lst []) F0 = some (.lst []) from upd_same)
    have nWp : W ≠ p := Ne.symm (po.ne nW)
    have nFp : F0 ≠ p := Ne.symm ((po.same sW).ne nF)
    have nFW : F0 ≠ W := Ne.symm (ne_of_none hW nF)
    have po3 := po.same s3
    have hFH : H F0 = none := sW.free nF
    refine ⟨T, _, rfl, SqT.of upd_same, rfl, _, _, rfl, _, _, rfl, rfl, ?_⟩
    refine ⟨_, rfl, _, rfl, by omega, by omega, for_range (lo := 0) (n := ((m : Nat) : Int).toNat) (fun i σ G => ∃ (y5 y6 y7 : Option V) (fs : List Str),
      σ = [some (.ref p), some (.int m), some (.ref W), some (.str abcS), some (.ref F0), y5, y6, y7, none, none, none] ∧ KeepX p H G ∧ PoolO (G p) ∧ G W = some (.lst (ownS.map V.str)) ∧ G F0 = some (.lst (fs.map V.str)) ∧
      fs.length = i ∧ (∀ s ∈ fs, IsNm s) ∧ fs.Nodup) ?_ ?_ ?_⟩
    · exact ⟨none, none, none, [], rfl, .of_same s3, po3, hW3, hF3, rfl, (fun s hs => nomatch hs), List.nodup_nil⟩
    · rintro i σ G hi ⟨y5, y6, y7, fs, rfl, kG, pG, hWG, hFG, fl, fn, fnd⟩
      have hi' : i < m := by omega
      refine ⟨_, rfl, _, rfl, p, 12, rfl, pG, by decide, by decide, fun G1 r1 k1 p1 r10 r11 => ?_⟩
      have hW1 := k1 _ _ nWp hWG
      have hF1 := k1 _ _ nFp hFG
      obtain ⟨w1, hw1⟩ : ∃ w1, ownS[r1.toNat]? = some w1 := ⟨_, List.getElem?_eq_getElem (show r1.toNat < 12 by omega)⟩
      have hat1 : atI (ownS.map V.str) r1 = some (.str w1) := by
        obtain ⟨n, rfl⟩ := Int.eq_ofNat_of_zero_le r10
        refine atI_nat ?_
        rw [List.getElem?_map]
        rw [Int.toNat_natCast] at hw1
        rw [hw1]
        rfl
      have hn1 := own_ok w1 (List.mem_of_getElem? hw1)
      refine ⟨W, _, r1, .str w1, rfl, rfl, SqL.of hW1, hat1, ?_⟩
      have kG1 := kG.trans k1
      refine' cut58 (Pm := fun σ' H' => ∃ (s : Str), σ' = [some (.ref p), some (.int m), some (.ref W), some (.str abcS), some (.ref F0), some (.int (0 + (i : Int))), some (.str s), y7, none, none, none] ∧ IsNm s ∧ KeepX p H H' ∧ PoolO (H' p) ∧ H' W = some (.lst (ownS.map V.str)) ∧ H' F0 = some (.lst (fs.map V.str))) (fun fin => ?_) ?_
      rotate_left
      · refine ⟨_, rfl, p, 3, rfl, p1, by decide, by decide, fun G2 r2 k2 p2 r20 r21 => ?_⟩
        refine ⟨_, _, rfl, rfl, ?_⟩
        have hW2 := k2 _ _ nWp hW1
        have hF2 := k2 _ _ nFp hF1
        have kG2 := kG1.trans k2
        refine ⟨_, rfl, ite2 (fun c => ?_) (fun c => ?_)⟩
        · refine ⟨⟨_, rfl⟩, ?_⟩
          refine ⟨_, rfl, p, 6, rfl, p2, by decide, by decide, fun G3 r3 k3 p3 r30 r31 => ?_⟩
          refine ⟨_, _, rfl, rfl, _, rfl, by omega, by omega, fun D nD => ?_⟩
          have hW3' := k3 _ _ nWp hW2
          have hF3' := k3 _ _ nFp hF2
          have kG3 := kG2.trans k3
          have nDp : D ≠ p := Ne.symm (p3.ne nD)
          refine lc_range (lo := 0) (n := (1 + r3).toNat) (fun j G4 => ∃ cs : List Nat, cs.length = j ∧ (∀ c ∈ cs, 97 ≤ c ∧ c ≤ 122) ∧ G4 D = some (.lst ((cs.map ch1).map V.str)) ∧ PoolO (G4 p) ∧ (∀ b o, b ≠ p → b ≠ D → G3 b = some o → G4 b = some o)) ?_ ?_ ?_
          · exact ⟨[], rfl, (fun c hc => nomatch hc), upd_same, by rw [upd_ne (Ne.symm nDp)]; exact p3, fun b o n1 n2 e => by rw [upd_ne n2]; exact e⟩
          · rintro j G4 hj ⟨cs, cl, cb, hD, p4, k4⟩
            refine ⟨rfl, ?_⟩
            refine ⟨_, rfl, _, rfl, p, 26, rfl, p4, by decide, by decide, fun G5 r5 k5 p5 r50 r51 => ?_⟩
            obtain ⟨c5, hc5, b5⟩ := abc_at r50 r51
            have hD5 := k5 _ _ nDp hD
            refine ⟨abcS, r5, c5, rfl, rfl, by decide, hc5, _, hD5, ?_, cs ++ [c5], ?_, ?_, ?_, ?_, ?_⟩
            · rw [List.length_map, List.length_map, cl, sizeLine_eq]
              omega
            · rw [List.length_append, cl]
              rfl
            · intro c hc
              rcases List.mem_append.mp hc with z | z
              · exact cb c z
              · rw [List.mem_singleton.mp z]
                exact b5
            · rw [upd_same, List.map_append, List.map_append]
              rfl
            · rw [upd_ne (Ne.symm nDp)]
              exact p5
            · intro b o n1 n2 e
              rw [upd_ne n2]
              exact k5 _ _ n1 (k4 b o n1 n2 e)
          · rintro G4 ⟨cs, cl, cb, hD, p4, k4⟩
            refine ⟨"", D, cs.map ch1, rfl, rfl, .inl (SqL.of hD), ?_, ?_⟩
            · rw [ch1_sum, List.length_map, cl]
              show (1 + r3).toNat + (1 + r3).toNat * 0 ≤ _
              omega
            · rw [join_cpsT]
              try dsimp only []
              refine fin _ _ ⟨⟨cs.toArray⟩, rfl, ⟨?_, ?_, ?_⟩, ?_, p4, ?_, ?_⟩
              · show 1 ≤ cs.toArray.size
                rw [List.size_toArray, cl]
                omega
              · show cs.toArray.size ≤ 6
                rw [List.size_toArray, cl]
                omega
              · exact cb
              · exact fun b o n e => k4 b o n (ne_of_none (kG3 b o n e) nD) (kG3 b o n e)
              · exact k4 _ _ nWp (ne_of_none hW3' nD) hW3'
              · exact k4 _ _ nFp (ne_of_none hF3' nD) hF3'
        · try dsimp only []
          exact fin _ _ ⟨w1, rfl, hn1, kG2, p2, hW2, hF2⟩
      · rintro σ' G3 ⟨s, rfl, hs, kG3, p3, hW3', hF3'⟩
        refine ⟨_, rfl, (by show 1 ≤ sizeLine; decide), fun A1 nA1 => ?_⟩
        have sA := same_new (o := .lst [.str s]) nA1
        refine ⟨_, rfl, _, rfl, fun D nD => ?_⟩
        have nAD : A1 ≠ D := ne_of_none (H := upd G3 A1 (.lst [.str s])) upd_same nD
        refine lc_it walk_str (fun i G => G D = some (.lst (((abcN.take i).map fun c => preC s ++ ch1 c).map V.str)) ∧ (∀ b o, b ≠ D → upd G3 A1 (.lst [.str s]) b = some o → G b = some o)) ?_ ?_ ?_ ?_
        · exact ⟨upd_same, fun b o n e => by rw [upd_ne n]; exact e⟩
        · intros
          trivial
        · rintro j x G4 G5 hj ⟨a1, a2⟩ ⟨rfl, c, hc, rfl⟩
          have hcN : abcN[j]? = some c := by
            rw [← Array.getElem?_toList] at hc
            exact hc
          have jl : j < 26 := by
            have := (List.getElem?_eq_some_iff.mp hcN).1
            rw [abcN_len] at this
            exact this
          obtain ⟨hs1, hs2, hs3⟩ := hs
          refine ⟨rfl, _, rfl, ?_⟩
          dsimp only [tNoPart]
          refine ⟨5, rfl, s, rfl, by rw [sizeLine_eq]; omega, _, rfl, _, _, rfl, rfl, ?_, ?_⟩
          · have := cutS_length s none (some 5)
            show (cutS s none (some 5)).length + 1 ≤ _
            rw [sizeLine_eq]
            omega
          · refine ⟨_, a1, ?_, ?_, fun b o n e => by rw [upd_ne n]; exact a2 b o n e⟩
            · rw [List.length_map, List.length_map, List.length_take, sizeLine_eq]
              omega
            · rw [upd_same, List.take_add_one, hcN, List.map_append, List.map_append]
              rfl
        · rintro G4 ⟨a1, a2⟩
          have e26 : List.take abcS.cps.size abcN = abcN := List.take_of_length_le (by rw [abcN_len]; decide)
          rw [e26] at a1
          have hA4 := a2 _ _ nAD (show upd G3 A1 (.lst [.str s]) A1 = some (.lst [.str s]) from upd_same)
          refine ⟨A1, D, [.str s], _, rfl, rfl, hA4, a1, ?_, fun C nC => ?_⟩
          · rw [List.length_map, List.length_map, abcN_len]
            show 1 + 26 ≤ sizeLine
            decide
          have sC := same_new (o := .lst ([V.str s] ++ ((abcN.map fun c => preC s ++ ch1 c).map V.str))) nC
          have eC : [V.str s] ++ ((abcN.map fun c => preC s ++ ch1 c).map V.str) = (cand s).map V.str := rfl
          rw [eC] at sC ⊢
          have s34 : Same G3 G4 := fun b o e => a2 b o (ne_of_none (sA b o e) nD) (sA b o e)
          have s35 := s34.trans sC
          have hC5 : upd G4 C (.lst ((cand s).map V.str)) C = some (.lst ((cand s).map V.str)) := upd_same
          have hF5 := s35 _ _ hF3'
          have hW5 := s35 _ _ hW3'
          have p5 := p3.same s35
          generalize upd G4 C (.lst ((cand s).map V.str)) = G5 at sC s35 hC5 hF5 hW5 p5
          refine ⟨_, rfl, .inl ⟨rfl, _, SqL.of hF5⟩, ?_⟩
          refine ⟨_, rfl, C, rfl, ⟨_, SqL.of hC5⟩, fun D2 nD2 => ?_⟩
          have nCD2 : C ≠ D2 := ne_of_none hC5 nD2
          have nFD2 : F0 ≠ D2 := ne_of_none hF5 nD2
          have cl : (cand s).length = 27 := by
            show (abcN.map _).length + 1 = 27
            rw [List.length_map, abcN_len]
          refine lc_list (K := K) (a := C) (xs := (cand s).map V.str) (fun k G6 => G6 = upd G5 D2 (.lst ((((cand s).take k).filter fun z => !decide (z ∈ fs)).map V.str))) ?_ ?_ ?_ ?_
          · rfl
          · rintro k G6 _ rfl
            exact SqL.of (by rw [upd_ne nCD2]; exact hC5)
          · rintro k x G6 hk rfl
            rw [List.getElem?_map] at hk
            cases ez : (cand s)[k]? with
            | none =>
              rw [ez] at hk
              cases hk
            | some z =>
              rw [ez] at hk
              cases hk
              refine ⟨rfl, _, rfl, _, rfl, F0, _, rfl, .inl (SqL.of (by rw [upd_ne nFD2]; exact hF5)), rfl, strs_flat _, ?_⟩
              rw [inV_strs]
              refine ⟨_, rfl, ?_⟩
              have ext : ((cand s).take (k + 1)).filter (fun z => !decide (z ∈ fs)) = ((cand s).take k).filter (fun z => !decide (z ∈ fs)) ++ (if z ∈ fs then [] else [z]) := by
                rw [List.take_add_one, ez, List.filter_append]
                congr 1
                show List.filter _ [z] = _
                by_cases c : z ∈ fs
                · rw [if_pos c, List.filter_cons_of_neg (by simpa using c)]
                  rfl
                · rw [if_neg c, List.filter_cons_of_pos (by simpa using c)]
                  rfl
              rw [ext]
              by_cases c : z ∈ fs
              · rw [decide_eq_true c, if_pos c, List.append_nil]
                exact rfl
              · rw [decide_eq_false c, if_neg c]
                refine ⟨_, rfl, _, upd_same, ?_, ?_⟩
                · rw [List.length_map, sizeLine_eq]
                  have h1 := List.length_filter_le (fun z => !decide (z ∈ fs)) ((cand s).take k)
                  rw [List.length_take] at h1
                  omega
                · rw [upd_upd, List.map_append]
                  rfl
          · rintro G6 rfl
            rw [List.length_map, List.take_length]
            obtain ⟨z, hz, nz, zf⟩ := fresh_ok (s := s) (fs := fs) hs (by omega)
            have s56 := same_new (o := .lst (((cand s).filter fun z => !decide (z ∈ fs)).map V.str)) nD2
            refine ⟨D2, _, 0, .str z, rfl, rfl, SqL.of upd_same, ?_, ?_⟩
            · refine atI_nat (j := 0) ?_
              rw [List.getElem?_map, hz]
              rfl
            have hF6 := s56 _ _ hF5
            have hW6 := s56 _ _ hW5
            have p6 := p5.same s56
            have kG6 : KeepX p H (upd G5 D2 (.lst (((cand s).filter fun z => !decide (z ∈ fs)).map V.str))) := kG3.trans (.of_same (s35.trans s56))
            generalize upd G5 D2 (.lst (((cand s).filter fun z => !decide (z ∈ fs)).map V.str)) = G6 at hF6 hW6 p6 kG6
            refine ⟨F0, _, _, rfl, rfl, hF6, by rw [List.length_map, sizeLine_eq]; omega, ?_⟩
            refine ⟨_, _, _, fs ++ [z], rfl, ?_, ?_, ?_, ?_, ?_, ?_, ?_⟩
            · intro b o n e
              rw [upd_ne (ne_of_none e hFH)]
              exact kG6 b o n e
            · rw [upd_ne (Ne.symm nFp)]
              exact p6
            · rw [upd_ne (Ne.symm nFW)]
              exact hW6
            · rw [upd_same, List.map_append]
              rfl
            · rw [List.length_append, fl]
              rfl
            · intro y hy
              rcases List.mem_append.mp hy with q1 | q1
              · exact fn y q1
              · rw [List.mem_singleton.mp q1]
                exact nz
            · rw [List.nodup_append]
              exact ⟨fnd, by simp, fun a ha b hb e => zf (by rw [← List.mem_singleton.mp hb, ← e]; exact ha)⟩
    · rintro σ G ⟨y5, y6, y7, fs, rfl, kG, pG, hWG, hFG, fl, fn, fnd⟩
      rw [Int.toNat_natCast] at fl
      exact ⟨_, rfl, q G F0 fs kG pG hFG nFp fl fn fnd⟩
end
end KS
/-! the law's own: another table after the sort -/
namespace KS
open PySem PySem.Spec PyProof.Rows L2 RZ
theorem cut58g {R : L2.St → Hp → Prop} {Pm : L2.St → Hp → Prop} {goal : Prop} (main : (∀ σ' H', Pm σ' H' → R σ' H') → goal) (fin : ∀ σ' H', Pm σ' H' → R σ' H') : goal := main fin
theorem lns_ne {b : Bool} {cs : List Cell} {l : List Int} (h : l ∈ lnsOf b cs) : l ≠ [] := by
  unfold lnsOf at h
  exact of_decide_eq_true (List.mem_filter.mp h).2
theorem lns_pos {b : Bool} {cs : List Cell} (g : Good cs) : 0 < (lnsOf b cs).length := by
  rw [lns_up, List.length_map]
  have h0 : 0 < cs.length := by
    cases cs with
    | nil => exact absurd rfl g.ne
    | cons _ _ => simp
  exact List.length_pos_of_mem (lineN_mem (b := b) g h0)
theorem atI_endG {α : Type} {xs : List α} {v : α} (h : xs.getLast? = some v) : atI xs (-1) = some v := by
  obtain ⟨ys, rfl⟩ := List.getLast?_eq_some_iff.mp h
  unfold atI ixN
  rw [if_neg (by decide), if_pos (by rw [List.length_append]; show -(((ys.length + 1 : Nat)) : Int) ≤ -1; omega)]
  show (ys ++ [v])[(-1 + ((ys ++ [v]).length : Int)).toNat]? = some v
  have e : (-1 + ((ys ++ [v]).length : Int)).toNat = ys.length := by
    rw [List.length_append]
    show (-1 + ((ys.length + 1 : Nat) : Int)).toNat = ys.length
    omega
  rw [e, List.getElem?_append_right (Nat.le_refl _), Nat.sub_self]
  rfl
/-- the first and the last place of a line -/
theorem line_ends {b : Bool} {cs : List Cell} {l : List Int} (h : l ∈ lnsOf b cs) : ∃ x y : Nat, x < cs.length ∧ y < cs.length ∧ atI (l.map V.int) 0 = some (.int x) ∧ atI (l.map V.int) (-1) = some (.int y) := by
  have hne := lns_ne h
  have bd : ∀ v ∈ l, ∃ n : Nat, v = (n : Int) ∧ n < cs.length := fun v hv => by
    rw [lns_up] at h
    obtain ⟨ks, hk, rfl⟩ := List.mem_map.mp h
    unfold up at hv
    obtain ⟨n, hn, rfl⟩ := List.mem_map.mp hv
    exact ⟨n, rfl, (lns_parts b cs).bd ks hk n hn⟩
  have hl := List.getLast?_eq_getLast hne
  obtain ⟨y, ey, hy⟩ := bd _ (List.getLast_mem hne)
  cases l with
  | nil => exact absurd rfl hne
  | cons v l =>
    obtain ⟨x, ex, hx⟩ := bd v List.mem_cons_self
    refine ⟨x, y, hx, hy, ?_, ?_⟩
    · refine atI_nat (j := 0) ?_
      rw [ex]
      rfl
    · refine atI_endG ?_
      rw [List.getLast?_map, hl, ey]
      rfl
def spChg58 (K : PySem.W.Frag) : Sp := fun vs H Q _ => ∃ (p a r l : Addr) (b : Bool) (cs : List Cell) (bs rs : List Str), vs = [.ref p, .ref a, .ref r, .str (if b = true then "C" else "R"), .ref l] ∧ PoolO (H p) ∧ PlanAt K H a cs ∧ Good cs ∧ cs.length ≤ 12 ∧
  SqT K H r (bs.map V.str) ∧ SqT K H l (rs.map V.str) ∧ r ≠ p ∧ bs.length = cs.length ∧ rs.Perm bs ∧
  ∀ (H' : Hp) (u : Addr) (rs' : List Str), KeepX p H H' → PoolO (H' p) → SqT K H' u (rs'.map V.str) → rs'.Perm bs → Q (.ref u) H'
abbrev sChg58 : Stmt := topS 40
abbrev nChg58 : List Str := ["_law_pool_here", "_law_spots_here", "_law_row", "_law_sort", "_law_later_here", "_law_way", "_law_found", "_law_k", "_law_j", "_law_bands", "_law_strip"]
theorem scChg58 : FnScope nChg58 ["_law_pool_here", "_law_spots_here", "_law_row", "_law_sort", "_law_later_here"] (defScope sChg58) := ⟨rfl, rfl, rfl, by decide +kernel, rfl, by decide +kernel, by decide +kernel⟩
section
variable {P : Program} {w : World} {K : PySem.W.Frag} {mg : Str → Option Value} {base : Heap}
theorem ok_chg58 {f fD fM fL : Addr} {fd fdD fdM fdL : FuncData} (F : Fun K "_law_changed" "_law_changed" sChg58 f fd)
    (GD : FnOk P w K mg base CX0 1 fD fdD ["_law_pool_here", "_law_most"] spDraw) (bD : Binds K fdD ["_law_pool_here", "_law_most"] []) (gD : mg "_law_draw" = some (.ref fD)) (kD : PySem.W.keepIn K (.ref fD) = true)
    (GM : FnOk P w K mg base CX0 2 fM fdM ["_law_pool_here", "_law_things"] (spMixedS K)) (bM : Binds K fdM ["_law_pool_here", "_law_things"] []) (gM : mg "_law_mixed" = some (.ref fM)) (kM : PySem.W.keepIn K (.ref fM) = true)
    (GL : FnOk P w K mg base CX0 1 fL fdL ["_law_spots_here", "_law_sort"] (spLawLinesN K)) (bL : Binds K fdL ["_law_spots_here", "_law_sort"] []) (gL : mg "_law_lines" = some (.ref fL)) (kL : PySem.W.keepIn K (.ref fL) = true)
    (mL : mg "list" = none) (ml : mg "len" = none) (mt : mg "tuple" = none) :
    FnOk P w K mg base CX0 3 f fd ["_law_pool_here", "_law_spots_here", "_law_row", "_law_sort", "_law_later_here"] (spChg58 K) := by
  refine F.ok scChg58 (fun vs H Q E h => ?_) (fun cdv A outer s H vs Q E hr h => ?_)
  · obtain ⟨p, a, r, l, b, cs, bs, rs, rfl, _⟩ := h
    rfl
  · obtain ⟨p, a, r, l, b, cs, bs, rs, rfl, po, hp, gd, hl, hrw, hla, nrp, rl, pm, q⟩ := h
    have nd := scChg58.nd
    have hr1 : Room 1 _ := hr.mono (by omega)
    refine ⟨_, pss_cons (ps_par (i := 5) (j := 6) (by rfl) nd rfl rfl (by decide) rfl rfl
        (pa_cons (pe_call GD hr1 (by rfl) gD kD bD .nil pass0 (pa_cons (pv 0) (pa_cons pe_int pa_nil))) (pa_cons (pe_callTy call_list_of (by rfl) mL (by decide +kernel) (pa_cons (pv 4) pa_nil)) pa_nil)) (by rfl))
      (pss_cons (ps_par (i := 7) (j := 8) (by rfl) nd rfl rfl (by decide) rfl rfl
        (pa_cons (pe_call GD hr1 (by rfl) gD kD bD .nil pass0 (pa_cons (pv 0) (pa_cons (pe_callB call_len_seq (by rfl) ml PySem.boot_len (pa_cons (pv 4) pa_nil)) pa_nil)))
          (pa_cons (pe_call GD hr1 (by rfl) gD kD bD .nil pass0 (pa_cons (pv 0) (pa_cons (pe_callB call_len_seq (by rfl) ml PySem.boot_len (pa_cons (pv 4) pa_nil)) pa_nil))) pa_nil)) (by rfl))
      (pss_cons (ps_if (pt_cmpR op_eq (pv 5) pe_int (nomark _)) (pss_one (ps_ret (pe_revT (pv 4)))) pss_nil)
      (pss_cons (ps_if (pt_cmpR op_eq (pv 5) pe_int (nomark _)) (pss_one (ps_ret (pe_call GM hr (by rfl) gM kM bM .nil pass0 (pa_cons (pv 0) (pa_cons (pv 2) pa_nil))))) pss_nil)
      (pss_cons (ps_if (pt_cmpR op_eq (pv 5) pe_int (nomark _)) (pss_one (ps_ret (pv 2))) pss_nil)
      (pss_cons (ps_set (i := 9) nd rfl (.inl rfl) (pe_call GL hr1 (by rfl) gL kL bL .nil pass0 (pa_cons (pv 1) (pa_cons (pv 3) pa_nil))))
      (pss_cons (ps_if (pt_cmpR op_gt (pv 5) pe_int (nomark _))
          (pss_cons (ps_set (i := 10) nd rfl (.inl rfl) (pe_ix (r := rIxL K) ix_list (pv 9) (pe_call GD hr1 (by rfl) gD kD bD .nil pass0 (pa_cons (pv 0) (pa_cons (pe_callB call_len_seq (by rfl) ml PySem.boot_len (pa_cons (pv 9) pa_nil)) pa_nil))) (fun _ _ => rfl)))
          (pss_one (ps_par (i := 7) (j := 8) (by rfl) nd rfl rfl (by decide) rfl rfl (pa_cons (pe_ix (r := rIxL K) ix_list (pv 10) pe_int (fun _ _ => rfl)) (pa_cons (pe_ix (r := rIxL K) ix_list (pv 10) (pe_un un_neg pe_int) (fun _ _ => rfl)) pa_nil)) (by rfl)))) pss_nil)
      (pss_cons (ps_asg (pe_tup (pa_cons (pe_ix (r := rIxT K) ix_tup (pv 4) (pv 8) (fun _ _ => rfl)) (pa_cons (pe_ix (r := rIxT K) ix_tup (pv 4) (pv 7) (fun _ _ => rfl)) pa_nil)))
          (pg_tup (by rfl) (pgs_cons (pg_sub (pv 6) (pv 7) set_list) (pgs_cons (pg_sub (pv 6) (pv 8) set_list) pgs_nil))))
      (pss_one (ps_ret (pe_callTy call_tuple_of (by rfl) mt (by decide +kernel) (pa_cons (pv 6) pa_nil))))))))))), ?_⟩
    have ll : rs.length = cs.length := by rw [pm.length_eq, rl]
    have n0 : 0 < cs.length := by
      cases cs with
      | nil => exact absurd rfl gd.ne
      | cons _ _ => simp
    refine ⟨_, rfl, p, 7, rfl, po, by decide, by decide, fun H1 r1 k1 p1 r10 r11 => ?_⟩
    have hla1 := keepX_seqT po k1 hla
    refine ⟨_, rfl, l, _, rfl, .inr hla1, fun o no => ?_⟩
    have so := same_new (o := .lst (rs.map V.str)) no
    have ho2 : upd H1 o (.lst (rs.map V.str)) o = some (.lst (rs.map V.str)) := upd_same
    have po2 := p1.same so
    have k2 : KeepX p H (upd H1 o (.lst (rs.map V.str))) := k1.trans (.of_same so)
    have nop : o ≠ p := Ne.symm (p1.ne no)
    have noH : H o = none := by
      cases z : H o with
      | none => rfl
      | some u =>
        have := k1 o u nop z
        rw [no] at this
        cases this
    have hla2 := same_seqT so hla1
    generalize upd H1 o (.lst (rs.map V.str)) = H2 at ho2 po2 k2 hla2
    have rml : (rs.map V.str).length = cs.length := by rw [List.length_map, ll]
    refine ⟨_, _, rfl, _, rfl, _, rfl, l, _, rfl, .inr hla2, p, _, rfl, po2, by rw [rml]; omega, by rw [rml]; omega, fun H3 r3 k3 p3 r30 r31 => ?_⟩
    have hla3 := keepX_seqT po2 k3 hla2
    refine ⟨_, rfl, _, rfl, l, _, rfl, .inr hla3, p, _, rfl, p3, by rw [rml]; omega, by rw [rml]; omega, fun H4 r4 k4 p4 r40 r41 => ?_⟩
    rw [rml] at r31 r41
    have kx4 := (k2.trans k3).trans k4
    have hla4 := keepX_seqT p3 k4 hla3
    have hrw4 := keepX_seqT po kx4 hrw
    have ho4 := k4 _ _ nop (k3 _ _ nop ho2)
    refine ⟨_, _, rfl, ?_⟩
    refine ⟨_, rfl, rfl, _, rfl, ite2 (fun c => ?_) (fun c => ?_)⟩
    · refine ⟨_, rfl, l, _, rfl, hla4, fun u nu => ?_⟩
      have su := same_new (o := .tup (rs.map V.str).reverse) nu
      refine q _ u rs.reverse (kx4.trans (.of_same su)) (p4.same su) (SqT.of ?_) ((List.reverse_perm rs).trans pm)
      rw [upd_same, List.map_reverse]
    refine ⟨_, rfl, rfl, _, rfl, ite2 (fun c => ?_) (fun c => ?_)⟩
    · refine ⟨_, rfl, _, rfl, p, r, bs, rfl, p4, .inr hrw4, nrp, by omega, fun H5 t ss k5 p5 ht _ pt => ?_⟩
      exact q _ t ss (kx4.trans k5) p5 ht.sq pt
    refine ⟨_, rfl, rfl, _, rfl, ite2 (fun c => ?_) (fun c => ?_)⟩
    · exact ⟨_, rfl, q _ r bs kx4 p4 hrw4 (.refl _)⟩
    refine ⟨_, rfl, _, rfl, a, b, cs, rfl, hp.kt (.of_keepX po kx4), by omega, fun H5 pl ys s5 hpl npl hy => ?_⟩
    have p5 := p4.same s5
    have ho5 := s5 _ _ ho4
    have hla5 := same_seqT s5 hla4
    have kx5 : KeepX p H H5 := kx4.trans (.of_same s5)
    have nplp : pl ≠ p := Ne.symm (p4.ne npl)
    refine' cut58g (Pm := fun σ' H' => ∃ (x y : Nat) (y10 : Option V), σ' = [some (.ref p), some (.ref a), some (.ref r), some (.str (if b = true then "C" else "R")), some (.ref l), some (.int r1), some (.ref o), some (.int x), some (.int y), some (.ref pl), y10] ∧ x < cs.length ∧ y < cs.length ∧ KeepX p H H' ∧ PoolO (H' p) ∧ H' o = some (.lst (rs.map V.str)) ∧ SqT K H' l (rs.map V.str)) (fun fin => ?_) ?_
    rotate_left
    · refine ⟨_, rfl, _, _, rfl, rfl, ?_⟩
      refine ⟨_, rfl, ite2 (fun c => ?_) (fun c => ?_)⟩
      · refine ⟨_, rfl, _, rfl, _, rfl, pl, _, rfl, .inl (SqL.of hpl), ?_⟩
        have yl : ys.length = (lnsOf b cs).length := Paired.length hy
        have y0 := lns_pos (b := b) gd
        have y8 := lnsTo_len b cs 8
        refine ⟨p, _, rfl, p5, by omega, ?_, fun H6 r6 k6 p6 r60 r61 => ?_⟩
        · rw [yl]
          have : (lnsOf b cs).length ≤ 8 := y8
          omega
        obtain ⟨n6, rfl⟩ := Int.eq_ofNat_of_zero_le r60
        have hn6 : n6 < ys.length := by omega
        obtain ⟨li, hli, t, et, ht, nt⟩ := paired_get hy (List.getElem?_eq_getElem hn6)
        obtain ⟨x, y, hx, hy', ax, ay⟩ := line_ends (List.mem_of_getElem? hli)
        have ntp : t ≠ p := Ne.symm (p4.ne nt)
        have ht6 := k6 _ _ ntp ht
        refine ⟨pl, _, (n6 : Int), .ref t, rfl, rfl, SqL.of (k6 _ _ nplp hpl), ?_, ?_⟩
        · refine atI_nat ?_
          rw [List.getElem?_eq_getElem hn6, et]
        refine ⟨_, rfl, t, _, 0, .int x, rfl, rfl, SqL.of ht6, ax, _, rfl, _, rfl, t, _, -1, .int y, rfl, rfl, SqL.of ht6, ay, _, _, rfl, ?_⟩
        try dsimp only []
        refine fin _ _ ⟨x, y, some (.ref t), rfl, hx, hy', kx5.trans k6, p6, k6 _ _ nop ho5, keepX_seqT p5 k6 hla5⟩
      · try dsimp only []
        obtain ⟨x, rfl⟩ := Int.eq_ofNat_of_zero_le r30
        obtain ⟨y, rfl⟩ := Int.eq_ofNat_of_zero_le r40
        refine fin _ _ ⟨x, y, none, rfl, by omega, by omega, kx5, p5, ho5, hla5⟩
    · rintro σ' H6 ⟨x, y, y10, rfl, hx, hy', kx6, p6, ho6, hla6⟩
      have l1 : x < rs.length := by omega
      have l2 : y < rs.length := by omega
      have g1 : (rs.map V.str)[x]? = some (.str rs[x]) := by rw [List.getElem?_map, List.getElem?_eq_getElem l1]; rfl
      have g2 : (rs.map V.str)[y]? = some (.str rs[y]) := by rw [List.getElem?_map, List.getElem?_eq_getElem l2]; rfl
      refine ⟨_, rfl, _, rfl, l, _, _, _, rfl, rfl, hla6, atI_nat g2, _, rfl, _, rfl, l, _, _, _, rfl, rfl, hla6, atI_nat g1, by show 2 ≤ sizeLine; decide, fun T2 nT2 => ?_⟩
      have sT2 := same_new (o := .tup [.str rs[y], .str rs[x]]) nT2
      have hT2 : upd H6 T2 (.tup [.str rs[y], .str rs[x]]) T2 = some (.tup [.str rs[y], .str rs[x]]) := upd_same
      have ho8 := sT2 _ _ ho6
      have p8 := p6.same sT2
      have k8 := kx6.trans (.of_same sT2)
      generalize upd H6 T2 (.tup [.str rs[y], .str rs[x]]) = G8 at hT2 ho8 p8 k8 ⊢
      refine ⟨T2, _, rfl, SqT.of hT2, rfl, _, _, rfl, _, rfl, _, rfl, o, _, (x : Int), x, rfl, rfl, ho8, ixN_at (by rw [List.length_map]; exact l1), ?_⟩
      refine ⟨_, _, rfl, _, rfl, _, rfl, o, _, (y : Int), y, rfl, rfl, upd_same, ixN_at (by rw [List.length_set, List.length_map]; exact l2), rfl, ?_⟩
      rw [upd_upd]
      have eS : (((rs.map V.str).set x (.str rs[y])).set y (.str rs[x])) = ((rs.set x rs[y]).set y rs[x]).map V.str := by rw [List.map_set, List.map_set]
      have pmS : ((rs.set x rs[y]).set y rs[x]).Perm bs := (List.set_set_perm l1 l2).trans pm
      rw [eS]
      generalize (rs.set x rs[y]).set y rs[x] = S at pmS ⊢
      have ho9 : upd G8 o (.lst (S.map V.str)) o = some (.lst (S.map V.str)) := upd_same
      have p9 : PoolO (upd G8 o (.lst (S.map V.str)) p) := by rw [upd_ne (Ne.symm nop)]; exact p8
      have k9 : KeepX p H (upd G8 o (.lst (S.map V.str))) := fun c u n e => by
        rw [upd_ne (ne_of_none e noH)]
        exact k8 c u n e
      generalize upd G8 o (.lst (S.map V.str)) = G9 at ho9 p9 k9 ⊢
      refine ⟨_, rfl, o, _, rfl, .inl ⟨SqL.of ho9, fun u nu => ?_⟩⟩
      have su := same_new (o := .tup (S.map V.str)) nu
      exact q _ u S (k9.trans (.of_same su)) (p9.same su) (SqT.of upd_same) pmS
end
end KS
/-! the law's right and its parts -/
namespace KS
open PySem PySem.Spec PyProof.Rows L2 RZ
theorem later_mem {b : Bool} {cs : List Cell} {row os : List Str} (rl : row.length = cs.length) (sub : ∀ s ∈ row, s ∈ os) : ∀ s ∈ laterN b cs row os, s ∈ row := fun s hs => by
  unfold laterN at hs
  obtain ⟨v, hv, rfl⟩ := List.mem_map.mp hs
  have h1 := (srt_perm (b := b) (cs := cs) (vs := gradeN os row) (by rw [gradeN, List.length_map, rl])).mem_iff.mp hv
  unfold gradeN at h1
  obtain ⟨p, hp, rfl⟩ := List.mem_map.mp h1
  rw [unG_idx (sub p hp)]
  exact hp
def rowD (o : List Str) : PyData := .tuple (o.map PyData.str)
theorem rows_dp {K : PySem.W.Frag} {H : Hp} {xs : List V} {os : List (List Str)} (h : Paired (RowN K H) xs os) : DpAll K H xs (os.map rowD) := by
  induction h with
  | nil => exact .nil
  | cons h _ ih =>
    obtain ⟨t, rfl, ht, _⟩ := h
    exact .cons (.tup ht (nm_dp _)) ih
theorem rows_layN {os : List (List Str)} (h : ∀ o ∈ os, ∀ s ∈ o, IsNm s) : PyData.canLayAll0 (os.map rowD) = true ∧ PyData.depthAll (os.map rowD) ≤ 1 := by
  induction os with
  | nil => exact ⟨by simp only [List.map_nil, PyData.canLayAll0], by simp [PyData.depthAll]⟩
  | cons o os ih =>
    obtain ⟨a, b⟩ := ih fun z hz => h z (List.mem_cons_of_mem _ hz)
    obtain ⟨c, d⟩ := nm_lay o (h o List.mem_cons_self)
    refine ⟨?_, ?_⟩
    · simp only [List.map_cons, PyData.canLayAll0, rowD, PyData.canLay0, a, c, Bool.and_self]
    · simp only [List.map_cons, PyData.depthAll, rowD, PyData.depth, d]
      omega
theorem rows_shaped {os : List (List Str)} (h : ∀ o ∈ os, ∀ s ∈ o, IsNm s) : SeqAt.shaped (.list (os.map rowD)) = true := by
  obtain ⟨a, b⟩ := rows_layN h
  unfold SeqAt.shaped
  rw [Bool.and_eq_true]
  refine ⟨by simp only [PyData.canLay0, a], decide_eq_true ?_⟩
  simp only [PyData.depth]
  omega
theorem rows_nil (os : List (List Str)) : PyData.eqv (.list (os.map rowD)) (.list []) = os.isEmpty := by
  cases os <;> simp [PyData.eqv, PyData.eqvAll]
def spOne58 (K : PySem.W.Frag) : Sp := fun vs H Q _ => ∃ (fo a r l : Addr) (cs : List Cell) (ss bs rs : List Str) (k : Bool), vs = [.ref fo, .ref a, .ref r, .str (if k = true then "C" else "R"), .ref l] ∧ SqL K H fo (ss.map V.str) ∧ ss.Perm bs ∧
  PlanAt K H a cs ∧ Good cs ∧ 2 ≤ cs.length ∧ cs.length ≤ 12 ∧ SqT K H r (bs.map V.str) ∧ SqT K H l (rs.map V.str) ∧ bs.length = cs.length ∧ (∀ s ∈ bs, IsNm s) ∧ bs.Nodup ∧ rs.Perm bs ∧ ∀ H', Same H H' → Q (.bl true) H'
abbrev sOne58 : Stmt := topS 42
abbrev nOne58 : List Str := ["_law_folk", "_law_spots_here", "_law_row", "_law_sort", "_law_later_here", "_law_due", "_law_fitting", "_law_order"]
theorem scOne58 : FnScope nOne58 ["_law_folk", "_law_spots_here", "_law_row", "_law_sort", "_law_later_here"] (defScope sOne58) := ⟨rfl, rfl, rfl, by decide +kernel, rfl, by decide +kernel, by decide +kernel⟩
section
variable {P : Program} {w : World} {K : PySem.W.Frag} {mg : Str → Option Value} {base : Heap}
theorem ok_one58 {f fS fO fL fT : Addr} {fd fdS fdO fdL fdT : FuncData} (F : Fun K "_law_one_right" "_law_one_right" sOne58 f fd)
    (GS : FnOk P w K mg base CX0 2 fS fdS ["_law_spots_here", "_law_row", "_law_sort", "_law_later_here"] (spShown58 K)) (bS : Binds K fdS ["_law_spots_here", "_law_row", "_law_sort", "_law_later_here"] []) (gS' : mg "_law_shown" = some (.ref fS)) (kS : PySem.W.keepIn K (.ref fS) = true)
    (GO : FnOk P w K mg base CX0 1 fO fdO ["_law_folk"] (spOrders58 K)) (bO : Binds K fdO ["_law_folk"] []) (gO : mg "_law_orders" = some (.ref fO)) (kO : PySem.W.keepIn K (.ref fO) = true)
    (GL : FnOk P w K mg base CX0 3 fL fdL ["_law_spots_here", "_law_row", "_law_sort", "_law_order"] (spLater58 K)) (bL : Binds K fdL ["_law_spots_here", "_law_row", "_law_sort", "_law_order"] []) (gL : mg "_law_later" = some (.ref fL)) (kL : PySem.W.keepIn K (.ref fL) = true)
    (GT : FnG P w K mg base 9 fT fdT ["_law_seen", "_law_due"] (spTold58 K)) (bT : Binds K fdT ["_law_seen", "_law_due"] []) (gT : mg "_law_told_right" = some (.ref fT)) (kT : PySem.W.keepIn K (.ref fT) = true)
    (ml : mg "len" = none) :
    FnG P w K mg base 10 f fd ["_law_folk", "_law_spots_here", "_law_row", "_law_sort", "_law_later_here"] (spOne58 K) := by
  refine okG F scOne58 (fun vs H Q E h => ?_) (fun cdv A outer s H vs Q E hr hgd h => ?_)
  · obtain ⟨fo, a, r, l, cs, ss, bs, rs, k, rfl, _⟩ := h
    rfl
  · obtain ⟨fo, a, r, l, cs, ss, bs, rs, k, rfl, hfo, ps, hp, gd, l2, l12, hrw, hla, bl, nm, ndb, pm, q⟩ := h
    have nd := scOne58.nd
    have hr1 : Room 1 _ := hr.mono (by omega)
    have hr2 : Room 2 _ := hr.mono (by omega)
    have hr3 : Room 3 _ := hr.mono (by omega)
    refine ⟨_, pss_cons (ps_set (i := 5) nd rfl (.inl rfl) (pe_call GS hr2 (by rfl) gS' kS bS .nil pass0 (pa_cons (pv 1) (pa_cons (pv 2) (pa_cons (pv 3) (pa_cons (pv 4) pa_nil))))))
      (pss_cons (ps_if (pt_cmpR op_lt (pe_callB call_len_seq (by rfl) ml PySem.boot_len (pa_cons (pv 0) pa_nil)) pe_int (nomark _))
        (pss_cons (ps_setLc (i := 6) (own := [("_law_order", 7)]) (g := gName 7) rfl nd rfl rfl (sw_true rfl rfl rfl (by decide +kernel))
            (pi_list (pe_call GO hr1 (by rfl) gO kO bO .nil pass0 (pa_cons (pv 0) pa_nil))) (blkOk_by (N := nOne58) (sc := defScope sOne58) (by decide +kernel))
            (fun _ _ _ _ _ => pg_name (i := 7) nd rfl (Or.inl rfl))
            (fun _ _ _ _ _ => pts_one (pt_cmpR (r := rEqD K) (op_eqD hr.units) (pe_call GL hr3 (by rfl) gL kL bL .nil pass0 (pa_cons (pv 1) (pa_cons (pv 2) (pa_cons (pv 3) (pa_cons (pv 7) pa_nil))))) (pv 4) (nomark _))) (fun _ _ _ _ _ => pv 7))
        (pss_one (ps_if (pt_cmpR op_ne (pe_cmpR (op_eqD hr.units) (pv 6) (pe_lst pa_nil) (nomark _)) (pe_cmpR op_isN (pv 5) pe_non (nomark _)) (nomark _)) (pss_one ps_never) pss_nil))) pss_nil)
      (pss_one (ps_ret (pe_callG GT hr hgd (by rfl) gT kT bT (pa_cons (pe_tup (pa_cons (pv 1) (pa_cons (pv 2) (pa_cons (pv 3) (pa_cons (pv 4) pa_nil))))) (pa_cons (pv 5) pa_nil)))))), ?_⟩
    have rl : rs.length = cs.length := by rw [pm.length_eq, bl]
    have nmr : ∀ s ∈ rs, IsNm s := fun s hs => nm s (pm.mem_iff.mp hs)
    refine ⟨_, rfl, _, rfl, _, rfl, _, rfl, a, r, l, k, cs, bs, rs, rfl, hp, gd, l12, hrw, hla, bl, rl, nm, nmr, fun H1 y s1 hyS => ?_⟩
    have ssl : ss.length = cs.length := by rw [ps.length_eq, bl]
    have ssl' : (ss.map V.str).length = cs.length := by rw [List.length_map, ssl]
    refine' cut58 (Pm := fun σ' H' => ∃ y6 : Option V, σ' = [some (.ref fo), some (.ref a), some (.ref r), some (.str (if k = true then "C" else "R")), some (.ref l), some y, y6, none] ∧ Same H1 H') (fun fin => ?_) ?_
    rotate_left
    · refine ⟨_, rfl, fo, _, rfl, .inl (sqL_same s1 hfo), _, _, rfl, rfl, ?_⟩
      refine ⟨_, rfl, ite2 (fun c => ?_) (fun c => ?_)⟩
      rotate_left
      · try dsimp only []
        exact fin _ _ ⟨none, rfl, Same.refl _⟩
      have c' : ((ss.map V.str).length : Int) < 6 := of_decide_eq_true c
      rw [ssl'] at c'
      refine ⟨_, rfl, fo, ss, rfl, sqL_same s1 hfo, by omega, by omega, fun H2 FF ys s2 hF psf hy => ?_⟩
      have s12 := s1.trans s2
      refine ⟨FF, rfl, ⟨_, SqL.of hF⟩, fun D nD => ?_⟩
      have nFD : FF ≠ D := ne_of_none hF nD
      refine lc_list (K := K) (a := FF) (xs := ys) (fun j G => ∃ acc : List V, G D = some (.lst acc) ∧ Paired (RowN K G) acc (((ordS (sfOf ss) ss.length).take j).filter fun o => decide (laterN k cs bs o = rs)) ∧ (∀ b o, b ≠ D → H2 b = some o → G b = some o)) ?_ ?_ ?_ ?_
      · exact ⟨[], upd_same, .nil, fun b o n e => by rw [upd_ne n]; exact e⟩
      · rintro j G _ ⟨acc, a1, a2, a3⟩
        exact SqL.of (a3 _ _ nFD hF)
      · rintro j x G hj ⟨acc, a1, a2, a3⟩
        have sG : Same H2 G := fun b o e => a3 b o (ne_of_none e nD) e
        obtain ⟨o, ho, hrow⟩ := paired_get hy hj
        obtain ⟨t, rfl, ht, htn⟩ := hrow.same sG
        obtain ⟨m1, m2, m3⟩ := mem_ordS.mp (List.mem_of_getElem? ho)
        have s1G := s12.trans sG
        have po : o.Perm bs := (perm_of_sub m2 m3 (by rw [m1, psf.length_eq]; exact Nat.le_refl _)).trans (psf.trans ps)
        have sub : ∀ s ∈ bs, s ∈ o := fun s hs => po.mem_iff.mpr hs
        refine ⟨rfl, _, rfl, _, rfl, _, rfl, _, rfl, a, r, t, k, cs, bs, o, rfl, hp.kt (.of_same s1G), by omega, same_seqT s1G hrw, bl, htn (by omega), by omega, fun s hs => nm s (po.mem_iff.mp hs), sub, fun G2 u s2' hu => ?_⟩
        have nml : ∀ s ∈ laterN k cs bs o, IsNm s := fun s hs => nm s (later_mem bl sub s hs)
        refine ⟨_, rfl, rowD _, rowD _, .tup hu (nm_dp _), .tup (same_seqT (s1G.trans s2') hla) (nm_dp _), nm_shapedT nml, nm_shapedT nmr, ?_⟩
        have e0 : PyData.eqv (rowD (laterN k cs bs o)) (rowD rs) = decide (laterN k cs bs o = rs) := strs_eqT _ _
        rw [e0]
        have ext : ((ordS (sfOf ss) ss.length).take (j + 1)).filter (fun o => decide (laterN k cs bs o = rs)) = ((ordS (sfOf ss) ss.length).take j).filter (fun o => decide (laterN k cs bs o = rs)) ++ (if laterN k cs bs o = rs then [o] else []) := by
          rw [List.take_add_one, ho, List.filter_append]
          congr 1
          show List.filter _ [o] = _
          by_cases c : laterN k cs bs o = rs
          · rw [if_pos c, List.filter_cons_of_pos (by simpa using c)]
            rfl
          · rw [if_neg c, List.filter_cons_of_neg (by simpa using c)]
            rfl
        rw [ext]
        have hD2 := s2' _ _ a1
        have al : acc.length ≤ 3125 := by
          rw [Paired.length a2]
          have h1 := List.length_filter_le (fun o => decide (laterN k cs bs o = rs)) ((ordS (sfOf ss) ss.length).take j)
          have h2 : (List.take j (ordS (sfOf ss) ss.length)).length ≤ (ordS (sfOf ss) ss.length).length := by
            rw [List.length_take]
            exact Nat.min_le_right _ _
          have h3 := ordS_len (sfOf ss) ss.length
          have h5 : (sfOf ss).length ^ ss.length ≤ 5 ^ 5 := Nat.le_trans (Nat.pow_le_pow_left (by rw [psf.length_eq]; omega) _) (Nat.pow_le_pow_right (by decide) (by omega))
          have h7 : 5 ^ 5 = 3125 := by decide
          omega
        refine ⟨_, rfl, ?_⟩
        by_cases c : laterN k cs bs o = rs
        · rw [decide_eq_true c, if_pos c]
          refine ⟨_, rfl, acc, hD2, by rw [sizeLine_eq]; omega, acc ++ [.ref t], upd_same, ?_, fun b o n e => by rw [upd_ne n]; exact s2' _ _ (a3 b o n e)⟩
          have kp : ∀ b o, b ≠ D → G2 b = some o → upd G2 D (.lst (acc ++ [V.ref t])) b = some o := fun b o n e => by
            rw [upd_ne n]
            exact e
          exact paired_append (Paired.mono (fun _ _ h => (h.same s2').keep hD2 kp) a2) (.cons (((hrow.same sG).same s2').keep hD2 kp) .nil)
        · rw [decide_eq_false c, if_neg c, List.append_nil]
          exact ⟨acc, hD2, Paired.mono (fun _ _ h => h.same s2') a2, fun b o n e => s2' _ _ (a3 b o n e)⟩
      · rintro G ⟨acc, a1, a2, a3⟩
        have sG : Same H2 G := fun b o e => a3 b o (ne_of_none e nD) e
        rw [Paired.length hy, List.take_length] at a2
        refine ⟨_, rfl, Nat.zero_le _, fun Z nZ => ?_⟩
        have sZ := same_new (o := .lst []) nZ
        have onm : ∀ o ∈ (ordS (sfOf ss) ss.length).filter (fun o => decide (laterN k cs bs o = rs)), ∀ s ∈ o, IsNm s := fun o ho s hs => by
          have h1 := (List.mem_filter.mp ho).1
          obtain ⟨m1, m2, m3⟩ := mem_ordS.mp h1
          exact nm s (ps.mem_iff.mp (psf.mem_iff.mp (m3 s hs)))
        refine ⟨.list _, .list [], .lst (SqL.of (sZ _ _ a1)) (rows_dp (Paired.mono (fun _ _ h => h.same sZ) a2)), .lst (SqL.of upd_same) .nil, rows_shaped onm, by decide, ?_⟩
        rw [rows_nil]
        refine ⟨_, rfl, rfl, ?_⟩
        refine ⟨rfl, false, ?_, ?_⟩
        · have hf := fit_iff (b := k) (cs := cs) (bs := bs) (rs := rs) (sf := sfOf ss) gd bl ndb pm (psf.trans ps)
          rw [← ssl] at hf
          rw [hf]
          have e1 : (!okLn bs rs (lnsN k cs)) = decide (y = V.non) := by
            unfold seenP at hyS
            cases eo : okLn bs rs (lnsN k cs) with
            | true =>
              rw [eo, if_pos rfl] at hyS
              rcases hyS with ⟨h1, _⟩ | ⟨zs, t, xs, _, ey, _⟩
              · cases h1
              · rw [ey]
                rfl
            | false =>
              rw [eo] at hyS
              rcases hyS with ⟨_, ey⟩ | ⟨zs, t, xs, h1, _⟩
              · rw [ey]
                rfl
              · cases h1
          rw [e1, decide_eq_true rfl]
          rfl
        · try dsimp only []
          exact fin _ _ ⟨some (.ref D), rfl, (s2.trans sG).trans sZ⟩
    · rintro σ' H2 ⟨y6, rfl, s2⟩
      have s12 := s1.trans s2
      refine ⟨_, rfl, _, rfl, _, rfl, _, rfl, by show 4 ≤ sizeLine; decide, fun T nT => ?_⟩
      have sT := same_new (o := .tup [.ref a, .ref r, .str (if k = true then "C" else "R"), .ref l]) nT
      have s13 := s12.trans sT
      refine ⟨_, rfl, T, y, cs, bs, rs, k, a, r, l, rfl, ⟨SqT.of upd_same, hp.kt (.of_same s13), gd, l2, l12, same_seqT s13 hrw, same_seqT s13 hla, bl, nm, ndb, pm⟩, hyS.same (s2.trans sT), fun H3 s3 => q H3 (s13.trans s3)⟩
end
end KS
/-! the law: two plans in turns, its right, itself -/
namespace KS
open PySem PySem.Spec PyProof.Rows L2 RZ
theorem SeenAt.keep {G G' : Hp} {D : Addr} {ls : List V} (hD : G D = some (.lst ls)) (k : ∀ b o, b ≠ D → G b = some o → G' b = some o) {y : V} {o : Option (List (Str × Str))} (h : SeenAt G y o) : SeenAt G' y o := by
  have kt : ∀ p u, G p = some (.tup u) → G' p = some (.tup u) := fun p u e => k _ _ (fun z => by rw [z, hD] at e; cases e) e
  rcases h with h | ⟨zs, t, xs, e, ey, ht, hp⟩
  · exact .inl h
  · exact .inr ⟨zs, t, xs, e, ey, kt _ _ ht, hp.mono kt⟩
theorem seens_dp {K : PySem.W.Frag} {H : Hp} {xs : List V} {os : List (Option (List (Str × Str)))} (h : Paired (SeenAt H) xs os) : DpAll K H xs (os.map seenDt) := by
  induction h with
  | nil => exact .nil
  | cons h _ ih => exact .cons h.dp ih
def spTwo58 (K : PySem.W.Frag) : Sp := fun vs H Q _ => ∃ (p fo a r l : Addr) (cs : List Cell) (ss bs rs : List Str) (k : Bool), vs = [.ref p, .ref fo, .ref a, .ref r, .str (if k = true then "C" else "R"), .ref l] ∧ PoolO (H p) ∧ SqL K H fo (ss.map V.str) ∧ fo ≠ p ∧ ss.length = cs.length ∧
  PlanAt K H a cs ∧ Good cs ∧ 2 ≤ cs.length ∧ cs.length ≤ 12 ∧ SqT K H r (bs.map V.str) ∧ SqT K H l (rs.map V.str) ∧ bs.length = cs.length ∧ (∀ s ∈ bs, IsNm s) ∧ bs.Nodup ∧ rs.Perm bs ∧ ∀ H', KeepX p H H' → PoolO (H' p) → Q (.bl true) H'
abbrev sTwo58 : Stmt := topS 43
abbrev nTwo58 : List Str := ["_law_pool_here", "_law_folk", "_law_spots_here", "_law_row", "_law_sort", "_law_later_here", "_law_mates", "_law_dues", "_law_seen", "_law_k"]
theorem scTwo58 : FnScope nTwo58 ["_law_pool_here", "_law_folk", "_law_spots_here", "_law_row", "_law_sort", "_law_later_here"] (defScope sTwo58) := ⟨rfl, rfl, rfl, by decide +kernel, rfl, by decide +kernel, by decide +kernel⟩
section
variable {P : Program} {w : World} {K : PySem.W.Frag} {mg : Str → Option Value} {base : Heap}
theorem ok_two58 {f fP fS fC : Addr} {fd fdP fdS fdC : FuncData} (F : Fun K "_law_two_plans_right" "_law_two_plans_right" sTwo58 f fd)
    (GP : FnOk P w K mg base CX0 2 fP fdP ["_law_pool_here", "_law_many"] (spSpots58 K)) (bP : Binds K fdP ["_law_pool_here", "_law_many"] []) (gP : mg "_law_spots" = some (.ref fP)) (kP : PySem.W.keepIn K (.ref fP) = true)
    (GS : FnOk P w K mg base CX0 2 fS fdS ["_law_spots_here", "_law_row", "_law_sort", "_law_later_here"] (spShown58 K)) (bS : Binds K fdS ["_law_spots_here", "_law_row", "_law_sort", "_law_later_here"] []) (gS' : mg "_law_shown" = some (.ref fS)) (kS : PySem.W.keepIn K (.ref fS) = true)
    (GC : FnOk P w K mg base CX0 8 fC fdC ["record"] (spCompar K)) (bC : Binds K fdC ["record"] []) (gC : mg "comparisons" = some (.ref fC)) (kC : PySem.W.keepIn K (.ref fC) = true)
    (ml : mg "len" = none) (mR : mg "repr" = none) :
    FnG P w K mg base 9 f fd ["_law_pool_here", "_law_folk", "_law_spots_here", "_law_row", "_law_sort", "_law_later_here"] (spTwo58 K) := by
  refine okG F scTwo58 (fun vs H Q E h => ?_) (fun cdv A outer s H vs Q E hr hgd h => ?_)
  · obtain ⟨p, fo, a, r, l, cs, ss, bs, rs, k, rfl, _⟩ := h
    rfl
  · obtain ⟨p, fo, a, r, l, cs, ss, bs, rs, k, rfl, po, hfo, nfp, ssl, hp, gd, l2, l12, hrw, hla, bl, nm, ndb, pm, q⟩ := h
    have nd := scTwo58.nd
    have hr2 : Room 2 _ := hr.mono (by omega)
    have hu : (A.deeper (envOfC "_law_two_plans_right" (defScope sTwo58) s.heap.objs.size f cdv)).units + 100 < cLine := by
      have := hr.un
      omega
    refine ⟨_, pss_cons (ps_set (i := 6) nd rfl (.inl rfl) (pe_call GP hr2 (by rfl) gP kP bP .nil pass0 (pa_cons (pv 0) (pa_cons (pe_callB call_len_seq (by rfl) ml PySem.boot_len (pa_cons (pv 1) pa_nil)) pa_nil))))
      (pss_cons (ps_set (i := 7) nd rfl (.inl rfl) (pe_lst (pa_cons (pe_call GS hr2 (by rfl) gS' kS bS .nil pass0 (pa_cons (pv 2) (pa_cons (pv 3) (pa_cons (pv 4) (pa_cons (pv 5) pa_nil)))))
          (pa_cons (pe_call GS hr2 (by rfl) gS' kS bS .nil pass0 (pa_cons (pv 6) (pa_cons (pv 3) (pa_cons (pv 4) (pa_cons (pv 5) pa_nil))))) pa_nil))))
      (pss_cons (ps_set (i := 8) nd rfl (.inr rfl) (pe_lst (pa_cons (pe_tup (pa_cons (pv 2) (pa_cons (pv 3) (pa_cons (pv 4) (pa_cons (pv 5) pa_nil))))) (pa_cons (pe_tup (pa_cons (pv 6) (pa_cons (pv 3) (pa_cons (pv 4) (pa_cons (pv 5) pa_nil))))) pa_nil))))
      (pss_one (ps_ret (pe_cmpR op_eq (pe_callB (id := "repr") (r := rReprK K) (call_reprK rfl hgd hu) (by rfl) mR (by decide +kernel) (pa_cons
          (pe_lc (own := [("_law_k", 9)]) (g := gName 9) (tt := tYes) rfl nd (pi_list (pe_lst (pa_cons pe_int (pa_cons pe_int (pa_cons pe_int (pa_cons pe_int pa_nil)))))) (blkOk_by (N := nTwo58) (sc := defScope sTwo58) (by decide +kernel))
            (fun _ _ _ _ _ => pg_name (i := 9) nd rfl (Or.inl rfl)) (fun _ _ _ _ _ => pts_nil)
            (fun _ _ _ _ _ => pe_call GC hr (by rfl) gC kC bC .nil pass0 (pa_cons (pe_ix (r := rIxL K) ix_list (pv 8) (pv 9) (fun _ _ => rfl)) pa_nil))) pa_nil))
        (pe_callB (id := "repr") (r := rReprK K) (call_reprK rfl hgd hu) (by rfl) mR (by decide +kernel) (pa_cons (pe_op op_rep (pv 7) pe_int) pa_nil)) (nomark _)))))), ?_⟩
    have rl : rs.length = cs.length := by rw [pm.length_eq, bl]
    have nmr : ∀ s ∈ rs, IsNm s := fun s hs => nm s (pm.mem_iff.mp hs)
    have ssl' : (ss.map V.str).length = cs.length := by rw [List.length_map, ssl]
    refine ⟨_, rfl, _, rfl, fo, _, rfl, .inl hfo, p, cs.length, by rw [ssl']; rfl, po, l2, l12, fun H1 aZ cs2 k1 p1 hp2 gd2 cl2 => ?_⟩
    have hp1 := hp.kt (.of_keepX po k1)
    have hrw1 := keepX_seqT po k1 hrw
    have hla1 := keepX_seqT po k1 hla
    refine ⟨_, rfl, _, rfl, _, rfl, _, rfl, a, r, l, k, cs, bs, rs, rfl, hp1, gd, l12, hrw1, hla1, bl, rl, nm, nmr, fun H2 y1 s2 hy1 => ?_⟩
    refine ⟨_, rfl, _, rfl, _, rfl, _, rfl, aZ, r, l, k, cs2, bs, rs, rfl, hp2.kt (.of_same s2), gd2, by omega, same_seqT s2 hrw1, same_seqT s2 hla1, by rw [bl, cl2], by rw [rl, cl2], nm, nmr, fun H3 y2 s3 hy2 => ?_⟩
    refine ⟨by show 2 ≤ sizeLine; decide, fun L nL => ?_⟩
    have sL := same_new (o := .lst [y1, y2]) nL
    have hL4 : upd H3 L (.lst [y1, y2]) L = some (.lst [y1, y2]) := upd_same
    have s14 := (s2.trans s3).trans sL
    have hy1' := (hy1.same s3).same sL
    have hy2' := hy2.same sL
    generalize upd H3 L (.lst [y1, y2]) = H4 at hL4 s14 hy1' hy2'
    refine ⟨_, rfl, _, rfl, _, rfl, _, rfl, by show 4 ≤ sizeLine; decide, fun T1 nT1 => ?_⟩
    have sT1 := same_new (o := .tup [.ref a, .ref r, .str (if k = true then "C" else "R"), .ref l]) nT1
    have hT1 : upd H4 T1 (.tup [.ref a, .ref r, .str (if k = true then "C" else "R"), .ref l]) T1 = some (.tup [.ref a, .ref r, .str (if k = true then "C" else "R"), .ref l]) := upd_same
    generalize upd H4 T1 (.tup [.ref a, .ref r, .str (if k = true then "C" else "R"), .ref l]) = H5 at sT1 hT1
    refine ⟨_, rfl, _, rfl, _, rfl, _, rfl, by show 4 ≤ sizeLine; decide, fun T2 nT2 => ?_⟩
    have sT2 := same_new (o := .tup [.ref aZ, .ref r, .str (if k = true then "C" else "R"), .ref l]) nT2
    have hT2 : upd H5 T2 (.tup [.ref aZ, .ref r, .str (if k = true then "C" else "R"), .ref l]) T2 = some (.tup [.ref aZ, .ref r, .str (if k = true then "C" else "R"), .ref l]) := upd_same
    generalize upd H5 T2 (.tup [.ref aZ, .ref r, .str (if k = true then "C" else "R"), .ref l]) = H6 at sT2 hT2
    refine ⟨by show 2 ≤ sizeLine; decide, fun S nS => ?_⟩
    have sS := same_new (o := .lst [.ref T1, .ref T2]) nS
    have hS : upd H6 S (.lst [.ref T1, .ref T2]) S = some (.lst [.ref T1, .ref T2]) := upd_same
    have hT1' := sS _ _ (sT2 _ _ hT1)
    have hT2' := sS _ _ hT2
    have s47 := (sT1.trans sT2).trans sS
    generalize upd H6 S (.lst [.ref T1, .ref T2]) = H7 at hS hT1' hT2' s47
    have s17 := s14.trans s47
    have hL7 := s47 _ _ hL4
    have R1 : Rec K H7 T1 cs bs rs k a r l := ⟨SqT.of hT1', hp1.kt (.of_same s17), gd, l2, l12, same_seqT s17 hrw1, same_seqT s17 hla1, bl, nm, ndb, pm⟩
    have R2 : Rec K H7 T2 cs2 bs rs k aZ r l := ⟨SqT.of hT2', hp2.kt (.of_same s17), gd2, by omega, by omega, same_seqT s17 hrw1, same_seqT s17 hla1, by rw [bl, cl2], nm, ndb, pm⟩
    have sm1 := seen_small (k := k) (bs := bs) l12 rl nmr
    have sm2 := seen_small (cs := cs2) (k := k) (bs := bs) (by omega) (by rw [rl, cl2]) nmr
    have z1 := hy1'.same s47
    have z2 := hy2'.same s47
    generalize ho1 : seenP k cs bs rs = o1 at sm1 z1
    generalize ho2 : seenP k cs2 bs rs = o2 at sm2 z2
    have rp4 : Rp (.list ([o1, o2, o1, o2].map seenDt)) := rp_list (fun d hd => by
      have : d = seenDt o1 ∨ d = seenDt o2 := by
        rw [List.map_cons, List.map_cons, List.map_cons, List.map_cons, List.map_nil] at hd
        simp only [List.mem_cons, List.not_mem_nil, or_false] at hd
        rcases hd with h | h | h | h
        · exact .inl h
        · exact .inr h
        · exact .inl h
        · exact .inr h
      rcases this with e | e <;> rw [e]
      · exact ⟨shows_seen sm1, depth_seen _⟩
      · exact ⟨shows_seen sm2, depth_seen _⟩) (by show 4 ≤ 8; decide)
    refine ⟨by show 4 ≤ sizeLine; decide, fun J nJ => ?_⟩
    have sJ := same_new (o := .lst [.int 0, .int 1, .int 0, .int 1]) nJ
    have hJ : upd H7 J (.lst [.int 0, .int 1, .int 0, .int 1]) J = some (.lst [.int 0, .int 1, .int 0, .int 1]) := upd_same
    generalize upd H7 J (.lst [.int 0, .int 1, .int 0, .int 1]) = H8 at sJ hJ
    refine ⟨J, rfl, ⟨_, SqL.of hJ⟩, fun D nD => ?_⟩
    have nJD : J ≠ D := ne_of_none hJ nD
    refine lc_list (K := K) (a := J) (xs := [.int 0, .int 1, .int 0, .int 1]) (fun j G => ∃ acc : List V, G D = some (.lst acc) ∧ Paired (SeenAt G) acc ([o1, o2, o1, o2].take j) ∧ (∀ b o, b ≠ D → H8 b = some o → G b = some o)) ?_ ?_ ?_ ?_
    · exact ⟨[], upd_same, .nil, fun b o n e => by rw [upd_ne n]; exact e⟩
    · rintro j G _ ⟨acc, a1, a2, a3⟩
      exact SqL.of (a3 _ _ nJD hJ)
    · rintro j x G hj ⟨acc, a1, a2, a3⟩
      have sG : Same H8 G := fun b o e => a3 b o (ne_of_none e nD) e
      have s7G := sJ.trans sG
      have jl : j < 4 := (List.getElem?_eq_some_iff.mp hj).1
      obtain ⟨n, T, csn, pn, on, rfl, hat, RT, hon, htk⟩ : ∃ (n : Nat) (T : Addr) (csn : List Cell) (pn : Addr) (on : Option (List (Str × Str))), x = .int (n : Nat) ∧ ([.ref T1, .ref T2] : List V)[n]? = some (.ref T) ∧ Rec K H7 T csn bs rs k pn r l ∧ seenP k csn bs rs = on ∧ [o1, o2, o1, o2][j]? = some on := by
        match j, hj with
        | 0, hj => cases hj; exact ⟨0, T1, cs, a, o1, rfl, rfl, R1, ho1, rfl⟩
        | 1, hj => cases hj; exact ⟨1, T2, cs2, aZ, o2, rfl, rfl, R2, ho2, rfl⟩
        | 2, hj => cases hj; exact ⟨0, T1, cs, a, o1, rfl, rfl, R1, ho1, rfl⟩
        | 3, hj => cases hj; exact ⟨1, T2, cs2, aZ, o2, rfl, rfl, R2, ho2, rfl⟩
      refine ⟨rfl, _, rfl, _, rfl, S, _, (n : Int), .ref T, rfl, rfl, SqL.of (s7G _ _ hS), atI_nat hat, T, csn, bs, rs, k, pn, r, l, rfl, RT.same s7G, fun G2 y s2' hy => ?_⟩
      rw [hon] at hy
      have a12 := s2' _ _ a1
      have kp : ∀ b o, b ≠ D → G2 b = some o → upd G2 D (.lst (acc ++ [y])) b = some o := fun b o n e => by
        rw [upd_ne n]
        exact e
      have al : acc.length ≤ 4 := by
        rw [Paired.length a2, List.length_take]
        exact Nat.min_le_right _ _
      refine ⟨acc, a12, by rw [sizeLine_eq]; omega, acc ++ [y], upd_same, ?_, fun b o n e => kp _ _ n (s2' _ _ (a3 b o n e))⟩
      rw [List.take_add_one, htk]
      exact paired_append (Paired.mono (fun _ _ h => (h.same s2').keep a12 kp) a2) (.cons (hy.keep a12 kp) .nil)
    · rintro G ⟨acc, a1, a2, a3⟩
      have sG : Same H8 G := fun b o e => a3 b o (ne_of_none e nD) e
      have s7G := sJ.trans sG
      refine ⟨D, _, rfl, .lst (SqL.of a1) (seens_dp a2), rp4, ?_⟩
      refine ⟨_, rfl, L, 2, _, rfl, rfl, s7G _ _ hL7, by decide, by decide, by show 2 * 2 ≤ sizeLine; decide, fun L3 nL3 => ?_⟩
      have sL3 := same_new (o := .lst (List.replicate (2 : Int).toNat [y1, y2]).flatten) nL3
      have hL3 : upd G L3 (.lst (List.replicate (2 : Int).toNat [y1, y2]).flatten) L3 = some (.lst [y1, y2, y1, y2]) := upd_same
      generalize upd G L3 (.lst (List.replicate (2 : Int).toNat [y1, y2]).flatten) = G5 at sL3 hL3
      have w1 := (z1.same s7G).same sL3
      have w2 := (z2.same s7G).same sL3
      refine ⟨L3, _, rfl, .lst (SqL.of hL3) (seens_dp (os := [o1, o2, o1, o2]) (.cons w1 (.cons w2 (.cons w1 (.cons w2 .nil))))), rp4, ?_⟩
      refine ⟨rfl, ?_⟩
      have e4 : List.take ([V.int 0, V.int 1, V.int 0, V.int 1] : List V).length [o1, o2, o1, o2] = [o1, o2, o1, o2] := rfl
      rw [e4, decide_eq_true rfl]
      have sF := (s17.trans s7G).trans sL3
      exact q _ (k1.trans (.of_same sF)) (p1.same sF)
end
end KS
/-! the law's right, the law -/
namespace KS
open PySem PySem.Spec PyProof.Rows L2 RZ
theorem tupN_keepX {p t : Addr} {H H' : Hp} {xs : List V} (po : PoolO (H p)) (k : KeepX p H H') (h : TupN H t xs) : TupN H' t xs := by
  obtain ⟨ob, e, c⟩ := h
  refine ⟨ob, k _ _ (fun z => ?_) e, c⟩
  obtain ⟨x, y, zz, e2, _⟩ := po
  rw [z, e2] at e
  cases e
def spRight58 : Sp := fun vs H Q _ => ∃ p : Addr, vs = [.ref p] ∧ PoolO (H p) ∧ ∀ H', KeepX p H H' → PoolO (H' p) → Q (.bl true) H'
abbrev sRight58 : Stmt := topS 44
abbrev nRight58 : List Str := ["_law_pool_here", "_law_folk", "_law_spots_here", "_law_row", "_law_sort", "_law_later_here"]
theorem scRight58 : FnScope nRight58 ["_law_pool_here"] (defScope sRight58) := ⟨rfl, rfl, rfl, by decide +kernel, rfl, by decide +kernel, by decide +kernel⟩
abbrev sLaw : Stmt := topS 45
abbrev nLaw58 : List Str := ["_law_script", "_law_k", "_law_pool_here", "_law_turn"]
theorem scLaw58 : FnScope nLaw58 ["_law_script"] (defScope sLaw) := ⟨rfl, rfl, rfl, by decide +kernel, rfl, by decide +kernel, by decide +kernel⟩
section
variable {P : Program} {w : World} {K : PySem.W.Frag} {mg : Str → Option Value} {base : Heap}
theorem ok_right58 {f fN fD fP fM fL fO fT fG : Addr} {fd fdN fdD fdP fdM fdL fdO fdT fdG : FuncData} (F : Fun K "_law_right" "_law_right" sRight58 f fd)
    (GN : FnOk P w K mg base CX0 2 fN fdN ["_law_pool_here", "_law_many"] (spNames58 K)) (bN : Binds K fdN ["_law_pool_here", "_law_many"] []) (gN : mg "_law_names" = some (.ref fN)) (kN : PySem.W.keepIn K (.ref fN) = true)
    (GD : FnOk P w K mg base CX0 1 fD fdD ["_law_pool_here", "_law_most"] spDraw) (bD : Binds K fdD ["_law_pool_here", "_law_most"] []) (gD : mg "_law_draw" = some (.ref fD)) (kD : PySem.W.keepIn K (.ref fD) = true)
    (GP : FnOk P w K mg base CX0 2 fP fdP ["_law_pool_here", "_law_many"] (spSpots58 K)) (bP : Binds K fdP ["_law_pool_here", "_law_many"] []) (gP : mg "_law_spots" = some (.ref fP)) (kP : PySem.W.keepIn K (.ref fP) = true)
    (GM : FnOk P w K mg base CX0 2 fM fdM ["_law_pool_here", "_law_things"] (spMixedS K)) (bM : Binds K fdM ["_law_pool_here", "_law_things"] []) (gM : mg "_law_mixed" = some (.ref fM)) (kM : PySem.W.keepIn K (.ref fM) = true)
    (GL : FnOk P w K mg base CX0 3 fL fdL ["_law_spots_here", "_law_row", "_law_sort", "_law_order"] (spLater58 K)) (bL : Binds K fdL ["_law_spots_here", "_law_row", "_law_sort", "_law_order"] []) (gL : mg "_law_later" = some (.ref fL)) (kL : PySem.W.keepIn K (.ref fL) = true)
    (GO : FnG P w K mg base 10 fO fdO ["_law_folk", "_law_spots_here", "_law_row", "_law_sort", "_law_later_here"] (spOne58 K)) (bO : Binds K fdO ["_law_folk", "_law_spots_here", "_law_row", "_law_sort", "_law_later_here"] []) (gO : mg "_law_one_right" = some (.ref fO)) (kO : PySem.W.keepIn K (.ref fO) = true)
    (GT : FnG P w K mg base 9 fT fdT ["_law_pool_here", "_law_folk", "_law_spots_here", "_law_row", "_law_sort", "_law_later_here"] (spTwo58 K)) (bT : Binds K fdT ["_law_pool_here", "_law_folk", "_law_spots_here", "_law_row", "_law_sort", "_law_later_here"] []) (gT : mg "_law_two_plans_right" = some (.ref fT)) (kT : PySem.W.keepIn K (.ref fT) = true)
    (GG : FnOk P w K mg base CX0 3 fG fdG ["_law_pool_here", "_law_spots_here", "_law_row", "_law_sort", "_law_later_here"] (spChg58 K)) (bG : Binds K fdG ["_law_pool_here", "_law_spots_here", "_law_row", "_law_sort", "_law_later_here"] []) (gG : mg "_law_changed" = some (.ref fG)) (kG : PySem.W.keepIn K (.ref fG) = true)
    (ml : mg "len" = none) :
    FnG P w K mg base 11 f fd ["_law_pool_here"] spRight58 := by
  refine okG F scRight58 (fun vs H Q E h => ?_) (fun cdv A outer s H vs Q E hr hgd h => ?_)
  · obtain ⟨p, rfl, _⟩ := h
    rfl
  · obtain ⟨p, rfl, po, q⟩ := h
    have nd := scRight58.nd
    have hr1 : Room 1 _ := hr.mono (by omega)
    have hr2 : Room 2 _ := hr.mono (by omega)
    have hr3 : Room 3 _ := hr.mono (by omega)
    have hr9 : Room 9 _ := hr.mono (by omega)
    refine ⟨_, pss_cons (ps_set (i := 1) nd rfl (.inl rfl) (pe_call GN hr2 (by rfl) gN kN bN .nil pass0 (pa_cons (pv 0) (pa_cons (pe_op op_add pe_int (pe_call GD hr1 (by rfl) gD kD bD .nil pass0 (pa_cons (pv 0) (pa_cons
          (pe_ix (r := rIxL K) ix_list (pe_lst (pa_cons pe_int (pa_cons pe_int pa_nil))) (pe_call GD hr1 (by rfl) gD kD bD .nil pass0 (pa_cons (pv 0) (pa_cons pe_int pa_nil))) (fun _ _ => rfl)) pa_nil)))) pa_nil))))
      (pss_cons (ps_par (i := 2) (j := 3) (by rfl) nd rfl rfl (by decide) rfl rfl
          (pa_cons (pe_call GP hr2 (by rfl) gP kP bP .nil pass0 (pa_cons (pv 0) (pa_cons (pe_callB call_len_seq (by rfl) ml PySem.boot_len (pa_cons (pv 1) pa_nil)) pa_nil)))
            (pa_cons (pe_call GM hr2 (by rfl) gM kM bM .nil pass0 (pa_cons (pv 0) (pa_cons (pv 1) pa_nil))) pa_nil)) (by rfl))
      (pss_cons (ps_set (i := 4) nd rfl (.inl rfl) (pe_ix (r := rIxL K) ix_list (pe_lst (pa_cons pe_str (pa_cons pe_str pa_nil))) (pe_call GD hr1 (by rfl) gD kD bD .nil pass0 (pa_cons (pv 0) (pa_cons pe_int pa_nil))) (fun _ _ => rfl)))
      (pss_cons (ps_set (i := 5) nd rfl (.inl rfl) (pe_call GL hr3 (by rfl) gL kL bL .nil pass0 (pa_cons (pv 2) (pa_cons (pv 3) (pa_cons (pv 4) (pa_cons (pe_call GM hr2 (by rfl) gM kM bM .nil pass0 (pa_cons (pv 0) (pa_cons (pv 1) pa_nil))) pa_nil))))))
      (pss_cons (ps_if (pt_not (pt_val (pe_callG GO hr hgd (by rfl) gO kO bO (pa_cons (pv 1) (pa_cons (pv 2) (pa_cons (pv 3) (pa_cons (pv 4) (pa_cons (pv 5) pa_nil)))))))) (pss_one ps_never) pss_nil)
      (pss_cons (ps_if (pt_not (pt_val (pe_callG GT hr9 hgd (by rfl) gT kT bT (pa_cons (pv 0) (pa_cons (pv 1) (pa_cons (pv 2) (pa_cons (pv 3) (pa_cons (pv 4) (pa_cons (pv 5) pa_nil))))))))) (pss_one ps_never) pss_nil)
      (pss_one (ps_ret (pe_callG GO hr hgd (by rfl) gO kO bO (pa_cons (pv 1) (pa_cons (pv 2) (pa_cons (pv 3) (pa_cons (pv 4) (pa_cons
          (pe_call GG hr3 (by rfl) gG kG bG .nil pass0 (pa_cons (pv 0) (pa_cons (pv 2) (pa_cons (pv 3) (pa_cons (pv 4) (pa_cons (pv 5) pa_nil)))))) pa_nil))))))))))))), ?_⟩
    -- how many
    refine ⟨_, rfl, _, rfl, by show 2 ≤ sizeLine; decide, fun L nL => ?_⟩
    have sL := same_new (o := .lst [.int 4, .int 11]) nL
    have po0 := po.same sL
    have nLp : L ≠ p := Ne.symm (po.ne nL)
    refine ⟨_, rfl, p, 2, rfl, po0, by decide, by decide, fun H1 r1 k1 p1 r10 r11 => ?_⟩
    have hL1 := k1 _ _ nLp (show upd H L (.lst [.int 4, .int 11]) L = some (.lst [.int 4, .int 11]) from upd_same)
    obtain ⟨mm, hm1, hm2, hat⟩ : ∃ mm : Int, 0 < mm ∧ mm ≤ 11 ∧ atI ([.int 4, .int 11] : List V) r1 = some (.int mm) := by
      have : r1 = 0 ∨ r1 = 1 := by omega
      rcases this with rfl | rfl
      · exact ⟨4, by decide, by decide, rfl⟩
      · exact ⟨11, by decide, by decide, rfl⟩
    refine ⟨L, _, r1, .int mm, rfl, rfl, SqL.of hL1, hat, p, mm, rfl, p1, hm1, by omega, fun H2 r2 k2 p2 r20 r21 => ?_⟩
    refine ⟨_, _, rfl, rfl, ?_⟩
    obtain ⟨n2, rfl⟩ := Int.eq_ofNat_of_zero_le r20
    have em : (2 : Int) + (n2 : Int) = ((2 + n2 : Nat) : Int) := by omega
    refine ⟨p, 2 + n2, by
      show [V.ref p, V.int ((2 : Int) + (n2 : Int))] = _
      rw [em], p2, by omega, fun H3 fo ss k3 p3 hfo nfp sl snm snd' => ?_⟩
    have m2 : 2 ≤ 2 + n2 := by omega
    have m12 : 2 + n2 ≤ 12 := by omega
    clear em
    generalize 2 + n2 = m at sl m2 m12
    have kx3 : KeepX p H H3 := (((KeepX.of_same sL).trans k1).trans k2).trans k3
    have ssl : (ss.map V.str).length = m := by rw [List.length_map, sl]
    clear hL1 hat k1 k2 k3 p1 p2 sL
    refine ⟨_, rfl, _, rfl, fo, _, rfl, .inl (SqL.of hfo), p, m, by rw [ssl]; rfl, p3, m2, m12, fun H4 a cs k4 p4 hp gd cl => ?_⟩
    have hfo4 := k4 _ _ nfp hfo
    refine ⟨_, rfl, _, rfl, p, fo, ss, rfl, p4, .inl (SqL.of hfo4), nfp, by omega, fun H5 r bs k5 p5 hr5 nr5 pmb => ⟨_, _, rfl, ?_⟩⟩
    have hfo5 := k5 _ _ nfp hfo4
    have hp5 := hp.kt (.of_keepX p4 k5)
    have nrp : r ≠ p := Ne.symm (p4.ne nr5)
    refine ⟨by show 2 ≤ sizeLine; decide, fun L2 nL2 => ?_⟩
    have sL2 := same_new (o := .lst [.str "R", .str "C"]) nL2
    have nL2p : L2 ≠ p := Ne.symm (p5.ne nL2)
    refine ⟨_, rfl, p, 2, rfl, p5.same sL2, by decide, by decide, fun H6 r6 k6 p6 r60 r61 => ?_⟩
    have hL6 := k6 _ _ nL2p (show upd H5 L2 (.lst [.str "R", .str "C"]) L2 = some (.lst [.str "R", .str "C"]) from upd_same)
    obtain ⟨k, hk⟩ : ∃ k : Bool, atI ([.str "R", .str "C"] : List V) r6 = some (.str (if k = true then "C" else "R")) := by
      have : r6 = 0 ∨ r6 = 1 := by omega
      rcases this with rfl | rfl
      · exact ⟨false, rfl⟩
      · exact ⟨true, rfl⟩
    refine ⟨L2, _, r6, _, rfl, rfl, SqL.of hL6, hk, ?_⟩
    have k56 : KeepX p H5 H6 := (KeepX.of_same sL2).trans k6
    have hfo6 := k56 _ _ nfp hfo5
    have hp6 := hp5.kt (.of_keepX p5 k56)
    have hr6 := tupN_keepX p5 k56 hr5
    have bl : bs.length = cs.length := by rw [pmb.length_eq, sl, cl]
    have nm : ∀ s ∈ bs, IsNm s := fun s hs => snm s (pmb.mem_iff.mp hs)
    have ndb : bs.Nodup := pmb.nodup_iff.mpr snd'
    refine ⟨_, rfl, _, rfl, _, rfl, _, rfl, _, rfl, p, fo, ss, rfl, p6, .inl (SqL.of hfo6), nfp, by omega, fun H7 o os k7 p7 ho7 no7 pmo => ?_⟩
    have hfo7 := k7 _ _ nfp hfo6
    have hp7 := hp6.kt (.of_keepX p6 k7)
    have hr7 := tupN_keepX p6 k7 hr6
    have sub : ∀ s ∈ bs, s ∈ os := fun s hs => pmo.mem_iff.mpr (pmb.mem_iff.mp hs)
    refine ⟨a, r, o, k, cs, bs, os, rfl, hp7, by omega, hr7.sq, bl, ho7, by rw [pmo.length_eq]; omega, fun s hs => snm s (pmo.mem_iff.mp hs), sub, fun H8 l s8 hl8 => ?_⟩
    have p8 := p7.same s8
    have hfo8 := s8 _ _ hfo7
    have hp8 := hp7.kt (.of_same s8)
    have hr8 := (hr7.same s8).sq (K := K)
    have pmL : (laterN k cs bs os).Perm bs := by
      have h1 : (laterN k cs bs os).Perm ((gradeN os bs).map (unG os)) := (srt_perm (b := k) (cs := cs) (vs := gradeN os bs) (by rw [gradeN, List.length_map, bl])).map _
      rw [un_grade sub] at h1
      exact h1
    have kx8 : KeepX p H H8 := ((((kx3.trans k4).trans k5).trans k56).trans k7).trans (.of_same s8)
    generalize laterN k cs bs os = rs at hl8 pmL
    clear ho7 hL6 hk hr7 hr6 hr5 hp7 hp6 hp5 hp hfo7 hfo6 hfo5 hfo4 hfo s8 k7 k56 k6 sL2 k5 k4 p7 p6 p5 p4 p3
    have c2 : 2 ≤ cs.length := by omega
    have c12 : cs.length ≤ 12 := by omega
    refine ⟨_, rfl, _, rfl, _, rfl, _, rfl, _, rfl, fo, a, r, l, cs, ss, bs, rs, k, rfl, SqL.of hfo8, pmb.symm, hp8, gd, c2, c12, hr8, hl8, bl, nm, ndb, pmL, fun H9 s9 => ⟨true, rfl, ?_⟩⟩
    have p9 := p8.same s9
    have hfo9 := s9 _ _ hfo8
    have hp9 := hp8.kt (.of_same s9)
    have hr9' := same_seqT s9 hr8
    have hl9 := same_seqT s9 hl8
    refine ⟨_, rfl, _, rfl, _, rfl, _, rfl, _, rfl, _, rfl, p, fo, a, r, l, cs, ss, bs, rs, k, rfl, p9, SqL.of hfo9, nfp, by rw [sl, cl], hp9, gd, c2, c12, hr9', hl9, bl, nm, ndb, pmL, fun HA kA pA => ⟨true, rfl, ?_⟩⟩
    have hfoA := kA _ _ nfp hfo9
    have hpA := hp9.kt (.of_keepX p9 kA)
    have hrA := keepX_seqT p9 kA hr9'
    have hlA := keepX_seqT p9 kA hl9
    refine ⟨_, rfl, _, rfl, _, rfl, _, rfl, _, rfl, _, rfl, _, rfl, _, rfl, _, rfl, p, a, r, l, k, cs, bs, rs, rfl, pA, hpA, gd, c12, hrA, hlA, nrp, bl, pmL, fun HB u rs' kB pB hu pmU => ?_⟩
    have hfoB := kB _ _ nfp hfoA
    have hpB := hpA.kt (.of_keepX pA kB)
    have hrB := keepX_seqT pA kB hrA
    refine ⟨fo, a, r, u, cs, ss, bs, rs', k, rfl, SqL.of hfoB, pmb.symm, hpB, gd, c2, c12, hrB, hu, bl, nm, ndb, pmU, fun HC sC => ?_⟩
    exact q HC ((((kx8.trans (.of_same s9)).trans kA).trans kB).trans (.of_same sC)) (pB.same sC)
theorem ok_law58 {f fC fP fR : Addr} {fd fdC fdP fdR : FuncData} (F : Fun K "law" "law" sLaw f fd)
    (GC : FnOk P w K mg base CX0 1 fC fdC ["_law_script", "_law_k"] (spCell K)) (bC : Binds K fdC ["_law_script", "_law_k"] []) (gC : mg "_law_cell" = some (.ref fC)) (kC : PySem.W.keepIn K (.ref fC) = true)
    (GP : FnOk P w K mg base CX0 1 fP fdP ["_law_number"] spPool) (bP : Binds K fdP ["_law_number"] []) (gP : mg "_law_pool" = some (.ref fP)) (kP : PySem.W.keepIn K (.ref fP) = true)
    (GR : FnG P w K mg base 11 fR fdR ["_law_pool_here"] spRight58) (bR : Binds K fdR ["_law_pool_here"] []) (gR : mg "_law_right" = some (.ref fR)) (kR : PySem.W.keepIn K (.ref fR) = true)
    (ma : mg "all" = none) (mr : mg "range" = none) (mx : mg "max" = none) (mn : mg "min" = none) (ml : mg "len" = none) : FnG P w K mg base 12 f fd ["_law_script"] (spLaw K) := by
  refine okG F scLaw58 (fun vs H Q E h => ?_) (fun cdv A outer s H vs Q E hr hgd h => ?_)
  · obtain ⟨a, ns, rfl, _⟩ := h
    rfl
  · obtain ⟨a, ns, rfl, hS, hl, q⟩ := h
    have nd := scLaw58.nd
    have hr1 : Room 1 _ := hr.mono (by omega)
    refine ⟨_, pss_cons (ps_for PassesOwn.never rfl (pi_range1 (by rfl) mr (pa_cons (pe_callB (call_max2 rfl) (by rfl) mx (by decide +kernel) (pa_cons pe_int (pa_cons (pe_callB (call_min2 rfl) (by rfl) mn (by decide +kernel)
          (pa_cons (pe_callB call_len_seq (by rfl) ml PySem.boot_len (pa_cons (pv 0) pa_nil)) (pa_cons pe_int pa_nil))) pa_nil))) pa_nil)) (pg_name (i := 1) nd rfl (.inl rfl))
        (pss_cons (ps_set (i := 2) nd rfl (.inr rfl) (pe_call GP hr1 (by rfl) gP kP bP .nil pass0 (pa_cons (pe_call GC hr1 (by rfl) gC kC bC .nil pass0 (pa_cons (pv 0) (pa_cons (pv 1) pa_nil))) pa_nil)))
        (pss_one (ps_if (pt_not (pt_val (pe_callB (cr_all rfl) (by rfl) ma (by decide +kernel) (pa_cons
          (pe_lc (own := [("_law_turn", 3)]) (g := gName 3) (tt := tYes) rfl nd (pi_range1 (by rfl) mr (pa_cons pe_int pa_nil)) (blkOk_by (N := nLaw58) (sc := defScope sLaw) (by decide +kernel))
            (fun _ _ _ _ _ => pg_name (i := 3) nd rfl (Or.inl rfl)) (fun _ _ _ _ _ => pts_nil)
            (fun _ _ _ _ _ => pe_callG GR hr hgd (by rfl) gR kR bR (pa_cons (pv 2) pa_nil))) pa_nil)))) (pss_one ps_never) pss_nil))))
      (pss_one (ps_ret pe_bl)), ?_⟩
    refine ⟨_, rfl, a, _, rfl, .inl hS, _, _, rfl, _, _, rfl, _, rfl, ?_, ?_, ?_⟩
    · split <;> split <;> omega
    · split <;> split <;> omega
    generalize hN : (if (if (6 : Int) < ((ns.map V.int).length : Int) then (6 : Int) else ((ns.map V.int).length : Int)) > 2 then (if (6 : Int) < ((ns.map V.int).length : Int) then (6 : Int) else ((ns.map V.int).length : Int)) else 2) = N
    have hNb : 0 ≤ N ∧ N ≤ 6 := by
      rw [← hN]
      split <;> split <;> omega
    refine for_range (lo := 0) (n := N.toNat) (fun i σ G => ∃ y1 y2 : Option V, σ = [some (.ref a), y1, y2, none] ∧ Same H G) ?_ ?_ ?_
    · exact ⟨none, none, rfl, Same.refl _⟩
    · rintro i σ G hi ⟨y1, y2, rfl, sG⟩
      refine ⟨_, rfl, _, rfl, a, ns, i, by
        show [V.ref a, V.int (0 + (i : Int))] = _
        rw [Int.zero_add], sG.seq hS, by omega, fun H1 n s1 => ⟨n, rfl, fun H2 p s2 np po => ?_⟩⟩
      have s02 := (sG.trans s1).trans s2
      have npH : H p = none := (sG.trans s1).free np
      refine ⟨_, rfl, by decide, by decide, fun D nD => ?_⟩
      have nDp : D ≠ p := Ne.symm (po.ne nD)
      refine lc_range (lo := 0) (n := (6 : Int).toNat) (fun j G3 => G3 D = some (.lst ((List.replicate j true).map V.bl)) ∧ PoolO (G3 p) ∧ (∀ b o, b ≠ D → b ≠ p → H2 b = some o → G3 b = some o)) ?_ ?_ ?_
      · exact ⟨upd_same, by rw [upd_ne (Ne.symm nDp)]; exact po, fun b o n _ e => by rw [upd_ne n]; exact e⟩
      · rintro j G3 hj ⟨a1, p3, a2⟩
        refine ⟨rfl, _, rfl, p, rfl, p3, fun G4 k4 p4 => ?_⟩
        refine ⟨_, k4 _ _ nDp a1, ?_, ?_, ?_, fun b o n1 n2 e => ?_⟩
        · rw [List.length_map, List.length_replicate]
          exact small64 (by omega)
        · rw [upd_same, List.replicate_succ', List.map_append]
          rfl
        · rw [upd_ne (Ne.symm nDp)]
          exact p4
        · rw [upd_ne n1]
          exact k4 _ _ n2 (a2 b o n1 n2 e)
      · rintro G3 ⟨a1, p3, a2⟩
        refine ⟨D, _, rfl, SqL.of a1, ?_⟩
        rw [show (List.replicate (6 : Int).toNat true).all id = true by simp]
        refine ⟨true, rfl, ?_⟩
        refine ⟨_, _, rfl, fun b o e => ?_⟩
        have e2 := s02 _ _ e
        exact a2 _ _ (ne_of_none e2 nD) (ne_of_none e npH) e2
    · rintro σ G ⟨y1, y2, rfl, sG⟩
      exact q G
end
end KS
namespace KS
open PySem PySem.Spec PyProof.Rows L2
-- topS
theorem all_mk {l : PySem.W.OpenLaw} {w : World} {K : PySem.W.Frag} {h : Heap} {mg : Str → Option Value} {fa f0 f1 f2 f3 f4 f5 f6 f7 f8 f9 f10 f11 f12 f13 f14 f15 f16 f17 f18 f19 f20 f21 f22 f23 f24 f25 f26 f27 f28 f29 f30 : Addr} (X : K.In h) (G : h.Ns mainGlobals mg) (hfa : mg "law" = some (.ref fa))
    {od0 an0 od1 an1 od2 an2 od3 an3 od4 an4 od5 an5 od6 an6 od7 an7 od8 an8 od9 an9 od10 an10 od11 an11 od12 an12 od13 an13 od14 an14 od15 an15 od16 an16 od17 an17 od18 an18 od19 an19 od20 an20 od21 an21 od22 an22 od23 an23 od24 an24 od25 an25 od26 an26 od27 an27 od28 an28 od29 an29 od30 an30 : Option Addr} {sl0 sl1 sl2 sl3 sl4 sl5 sl6 sl7 sl8 sl9 sl10 sl11 sl12 sl13 sl14 sl15 sl16 sl17 sl18 sl19 sl20 sl21 sl22 sl23 sl24 sl25 sl26 sl27 sl28 sl29 sl30 : Array (Option Value)}
    {oc0 kV0 dc0 pm0 cd0 ct0 oc1 kV1 dc1 pm1 cd1 ct1 oc2 kV2 dc2 pm2 cd2 ct2 oc3 kV3 dc3 pm3 cd3 ct3 oc4 kV4 dc4 pm4 cd4 ct4 oc5 kV5 dc5 pm5 cd5 ct5 oc6 kV6 dc6 pm6 cd6 ct6 oc7 kV7 dc7 pm7 cd7 ct7 oc8 kV8 dc8 pm8 cd8 ct8 oc9 kV9 dc9 pm9 cd9 ct9 oc10 kV10 dc10 pm10 cd10 ct10 oc11 kV11 dc11 pm11 cd11 ct11 oc12 kV12 dc12 pm12 cd12 ct12 oc13 kV13 dc13 pm13 cd13 ct13 oc14 kV14 dc14 pm14 cd14 ct14 oc15 kV15 dc15 pm15 cd15 ct15 oc16 kV16 dc16 pm16 cd16 ct16 oc17 kV17 dc17 pm17 cd17 ct17 oc18 kV18 dc18 pm18 cd18 ct18 oc19 kV19 dc19 pm19 cd19 ct19 oc20 kV20 dc20 pm20 cd20 ct20 oc21 kV21 dc21 pm21 cd21 ct21 oc22 kV22 dc22 pm22 cd22 ct22 oc23 kV23 dc23 pm23 cd23 ct23 oc24 kV24 dc24 pm24 cd24 ct24 oc25 kV25 dc25 pm25 cd25 ct25 oc26 kV26 dc26 pm26 cd26 ct26 oc27 kV27 dc27 pm27 cd27 ct27 oc28 kV28 dc28 pm28 cd28 ct28 oc29 kV29 dc29 pm29 cd29 ct29 oc30 kV30 dc30 pm30 cd30 ct30 : Value} {tk0 tk1 tk2 tk3 tk4 : Tok}
    (a0 : PySem.W.nsIn K mainGlobals "is_whole" = some (some (.ref f0)))
    (l0 : K.lookup f0 = some ⟨oc0, od0, .func (PySem.W.fnOf "is_whole" "is_whole" (defArgs sWhole) (defBody sWhole) (defScope sWhole) .none kV0 dc0 pm0 an0 cd0 ct0), sl0⟩)
    (c0 : PySem.W.codeIn K cd0 "is_whole" = true) (k0 : PySem.W.keepIn K (.ref f0) = true)
    (a1 : PySem.W.nsIn K mainGlobals "is_between" = some (some (.ref f1)))
    (l1 : K.lookup f1 = some ⟨oc1, od1, .func (PySem.W.fnOf "is_between" "is_between" (defArgs sBetween) (defBody sBetween) (defScope sBetween) .none kV1 dc1 pm1 an1 cd1 ct1), sl1⟩)
    (c1 : PySem.W.codeIn K cd1 "is_between" = true) (k1 : PySem.W.keepIn K (.ref f1) = true)
    (a2 : PySem.W.nsIn K mainGlobals "is_place" = some (some (.ref f2)))
    (l2 : K.lookup f2 = some ⟨oc2, od2, .func (PySem.W.fnOf "is_place" "is_place" (defArgs sPlace) (defBody sPlace) (defScope sPlace) .none kV2 dc2 pm2 an2 cd2 ct2), sl2⟩)
    (c2 : PySem.W.codeIn K cd2 "is_place" = true) (k2 : PySem.W.keepIn K (.ref f2) = true)
    (a3 : PySem.W.nsIn K mainGlobals "is_cell" = some (some (.ref f3)))
    (l3 : K.lookup f3 = some ⟨oc3, od3, .func (PySem.W.fnOf "is_cell" "is_cell" (defArgs sIsCell) (defBody sIsCell) (defScope sIsCell) .none kV3 dc3 pm3 an3 cd3 ct3), sl3⟩)
    (c3 : PySem.W.codeIn K cd3 "is_cell" = true) (k3 : PySem.W.keepIn K (.ref f3) = true)
    (a4 : PySem.W.nsIn K mainGlobals "check_plan" = some (some (.ref f4)))
    (l4 : K.lookup f4 = some ⟨oc4, od4, .func (PySem.W.fnOf "check_plan" "check_plan" (defArgs sCheck) (defBody sCheck) (defScope sCheck) .none kV4 dc4 pm4 an4 cd4 ct4), sl4⟩)
    (c4 : PySem.W.codeIn K cd4 "check_plan" = true) (k4 : PySem.W.keepIn K (.ref f4) = true)
    (a5 : PySem.W.nsIn K mainGlobals "is_kind" = some (some (.ref f5)))
    (l5 : K.lookup f5 = some ⟨oc5, od5, .func (PySem.W.fnOf "is_kind" "is_kind" (defArgs sIsKind) (defBody sIsKind) (defScope sIsKind) .none kV5 dc5 pm5 an5 cd5 ct5), sl5⟩)
    (c5 : PySem.W.codeIn K cd5 "is_kind" = true) (k5 : PySem.W.keepIn K (.ref f5) = true)
    (a6 : PySem.W.nsIn K mainGlobals "check_kind" = some (some (.ref f6)))
    (l6 : K.lookup f6 = some ⟨oc6, od6, .func (PySem.W.fnOf "check_kind" "check_kind" (defArgs sKind) (defBody sKind) (defScope sKind) .none kV6 dc6 pm6 an6 cd6 ct6), sl6⟩)
    (c6 : PySem.W.codeIn K cd6 "check_kind" = true) (k6 : PySem.W.keepIn K (.ref f6) = true)
    (a7 : PySem.W.nsIn K mainGlobals "is_plan" = some (some (.ref f7)))
    (l7 : K.lookup f7 = some ⟨oc7, od7, .func (PySem.W.fnOf "is_plan" "is_plan" (defArgs sIsPlan) (defBody sIsPlan) (defScope sIsPlan) .none kV7 dc7 pm7 an7 cd7 ct7), sl7⟩)
    (c7 : PySem.W.codeIn K cd7 "is_plan" = true) (k7 : PySem.W.keepIn K (.ref f7) = true)
    (a8 : PySem.W.nsIn K mainGlobals "lines" = some (some (.ref f8)))
    (l8 : K.lookup f8 = some ⟨oc8, od8, .func (PySem.W.fnOf "lines" "lines" (defArgs sLines) (defBody sLines) (defScope sLines) .none kV8 dc8 pm8 an8 cd8 ct8), sl8⟩)
    (c8 : PySem.W.codeIn K cd8 "lines" = true) (k8 : PySem.W.keepIn K (.ref f8) = true)
    (a9 : PySem.W.nsIn K mainGlobals "is_name" = some (some (.ref f9)))
    (l9 : K.lookup f9 = some ⟨oc9, od9, .func (PySem.W.fnOf "is_name" "is_name" (defArgs sIsName) (defBody sIsName) (defScope sIsName) .none kV9 dc9 pm9 an9 cd9 ct9), sl9⟩)
    (c9 : PySem.W.codeIn K cd9 "is_name" = true) (k9 : PySem.W.keepIn K (.ref f9) = true)
    (a10 : PySem.W.nsIn K mainGlobals "is_name_table" = some (some (.ref f10)))
    (l10 : K.lookup f10 = some ⟨oc10, od10, .func (PySem.W.fnOf "is_name_table" "is_name_table" (defArgs sIsNmT) (defBody sIsNmT) (defScope sIsNmT) .none kV10 dc10 pm10 an10 cd10 ct10), sl10⟩)
    (c10 : PySem.W.codeIn K cd10 "is_name_table" = true) (k10 : PySem.W.keepIn K (.ref f10) = true)
    (a11 : PySem.W.nsIn K mainGlobals "is_record" = some (some (.ref f11)))
    (l11 : K.lookup f11 = some ⟨oc11, od11, .func (PySem.W.fnOf "is_record" "is_record" (defArgs sIsRec) (defBody sIsRec) (defScope sIsRec) .none kV11 dc11 pm11 an11 cd11 ct11), sl11⟩)
    (c11 : PySem.W.codeIn K cd11 "is_record" = true) (k11 : PySem.W.keepIn K (.ref f11) = true)
    (a12 : PySem.W.nsIn K mainGlobals "seen_pairs" = some (some (.ref f12)))
    (l12 : K.lookup f12 = some ⟨oc12, od12, .func (PySem.W.fnOf "seen_pairs" "seen_pairs" (defArgs sSeen) (defBody sSeen) (defScope sSeen) .none kV12 dc12 pm12 an12 cd12 ct12), sl12⟩)
    (c12 : PySem.W.codeIn K cd12 "seen_pairs" = true) (k12 : PySem.W.keepIn K (.ref f12) = true)
    (a13 : PySem.W.nsIn K mainGlobals "comparisons" = some (some (.ref f13)))
    (l13 : K.lookup f13 = some ⟨oc13, od13, .func (PySem.W.fnOf "comparisons" "comparisons" (defArgs sCompar) (defBody sCompar) (defScope sCompar) .none kV13 dc13 pm13 an13 cd13 ct13), sl13⟩)
    (c13 : PySem.W.codeIn K cd13 "comparisons" = true) (k13 : PySem.W.keepIn K (.ref f13) = true)
    (a14 : PySem.W.nsIn K mainGlobals "_law_cell" = some (some (.ref f14)))
    (l14 : K.lookup f14 = some ⟨oc14, od14, .func (PySem.W.fnOf "_law_cell" "_law_cell" (defArgs sCell) (defBody sCell) (defScope sCell) .none kV14 dc14 pm14 an14 cd14 ct14), sl14⟩)
    (c14 : PySem.W.codeIn K cd14 "_law_cell" = true) (k14 : PySem.W.keepIn K (.ref f14) = true)
    (a15 : PySem.W.nsIn K mainGlobals "_law_pool" = some (some (.ref f15)))
    (l15 : K.lookup f15 = some ⟨oc15, od15, .func (PySem.W.fnOf "_law_pool" "_law_pool" (defArgs sPool) (defBody sPool) (defScope sPool) .none kV15 dc15 pm15 an15 cd15 ct15), sl15⟩)
    (c15 : PySem.W.codeIn K cd15 "_law_pool" = true) (k15 : PySem.W.keepIn K (.ref f15) = true)
    (a16 : PySem.W.nsIn K mainGlobals "_law_draw" = some (some (.ref f16)))
    (l16 : K.lookup f16 = some ⟨oc16, od16, .func (PySem.W.fnOf "_law_draw" "_law_draw" (defArgs sDraw) (defBody sDraw) (defScope sDraw) .none kV16 dc16 pm16 an16 cd16 ct16), sl16⟩)
    (c16 : PySem.W.codeIn K cd16 "_law_draw" = true) (k16 : PySem.W.keepIn K (.ref f16) = true)
    (a17 : PySem.W.nsIn K mainGlobals "_law_names" = some (some (.ref f17)))
    (l17 : K.lookup f17 = some ⟨oc17, od17, .func (PySem.W.fnOf "_law_names" "_law_names" (defArgs sNames58) (defBody sNames58) (defScope sNames58) .none kV17 dc17 pm17 an17 cd17 ct17), sl17⟩)
    (c17 : PySem.W.codeIn K cd17 "_law_names" = true) (k17 : PySem.W.keepIn K (.ref f17) = true)
    (a18 : PySem.W.nsIn K mainGlobals "_law_mixed" = some (some (.ref f18)))
    (l18 : K.lookup f18 = some ⟨oc18, od18, .func (PySem.W.fnOf "_law_mixed" "_law_mixed" (defArgs sMixedS) (defBody sMixedS) (defScope sMixedS) .none kV18 dc18 pm18 an18 cd18 ct18), sl18⟩)
    (c18 : PySem.W.codeIn K cd18 "_law_mixed" = true) (k18 : PySem.W.keepIn K (.ref f18) = true)
    (a19 : PySem.W.nsIn K mainGlobals "_law_spots" = some (some (.ref f19)))
    (l19 : K.lookup f19 = some ⟨oc19, od19, .func (PySem.W.fnOf "_law_spots" "_law_spots" (defArgs sSpots58) (defBody sSpots58) (defScope sSpots58) .none kV19 dc19 pm19 an19 cd19 ct19), sl19⟩)
    (c19 : PySem.W.codeIn K cd19 "_law_spots" = true) (k19 : PySem.W.keepIn K (.ref f19) = true)
    (a20 : PySem.W.nsIn K mainGlobals "_law_lines" = some (some (.ref f20)))
    (l20 : K.lookup f20 = some ⟨oc20, od20, .func (PySem.W.fnOf "_law_lines" "_law_lines" (defArgs sLawLines) (defBody sLawLines) (defScope sLawLines) .none kV20 dc20 pm20 an20 cd20 ct20), sl20⟩)
    (c20 : PySem.W.codeIn K cd20 "_law_lines" = true) (k20 : PySem.W.keepIn K (.ref f20) = true)
    (a21 : PySem.W.nsIn K mainGlobals "_law_sorted" = some (some (.ref f21)))
    (l21 : K.lookup f21 = some ⟨oc21, od21, .func (PySem.W.fnOf "_law_sorted" "_law_sorted" (defArgs sSorted) (defBody sSorted) (defScope sSorted) .none kV21 dc21 pm21 an21 cd21 ct21), sl21⟩)
    (c21 : PySem.W.codeIn K cd21 "_law_sorted" = true) (k21 : PySem.W.keepIn K (.ref f21) = true)
    (a22 : PySem.W.nsIn K mainGlobals "_law_later" = some (some (.ref f22)))
    (l22 : K.lookup f22 = some ⟨oc22, od22, .func (PySem.W.fnOf "_law_later" "_law_later" (defArgs sLater58) (defBody sLater58) (defScope sLater58) .none kV22 dc22 pm22 an22 cd22 ct22), sl22⟩)
    (c22 : PySem.W.codeIn K cd22 "_law_later" = true) (k22 : PySem.W.keepIn K (.ref f22) = true)
    (a23 : PySem.W.nsIn K mainGlobals "_law_shown" = some (some (.ref f23)))
    (l23 : K.lookup f23 = some ⟨oc23, od23, .func (PySem.W.fnOf "_law_shown" "_law_shown" (defArgs sShown58) (defBody sShown58) (defScope sShown58) .none kV23 dc23 pm23 an23 cd23 ct23), sl23⟩)
    (c23 : PySem.W.codeIn K cd23 "_law_shown" = true) (k23 : PySem.W.keepIn K (.ref f23) = true)
    (a24 : PySem.W.nsIn K mainGlobals "_law_orders" = some (some (.ref f24)))
    (l24 : K.lookup f24 = some ⟨oc24, od24, .func (PySem.W.fnOf "_law_orders" "_law_orders" (defArgs sOrders58) (defBody sOrders58) (defScope sOrders58) .none kV24 dc24 pm24 an24 cd24 ct24), sl24⟩)
    (c24 : PySem.W.codeIn K cd24 "_law_orders" = true) (k24 : PySem.W.keepIn K (.ref f24) = true)
    (a25 : PySem.W.nsIn K mainGlobals "_law_changed" = some (some (.ref f25)))
    (l25 : K.lookup f25 = some ⟨oc25, od25, .func (PySem.W.fnOf "_law_changed" "_law_changed" (defArgs sChg58) (defBody sChg58) (defScope sChg58) .none kV25 dc25 pm25 an25 cd25 ct25), sl25⟩)
    (c25 : PySem.W.codeIn K cd25 "_law_changed" = true) (k25 : PySem.W.keepIn K (.ref f25) = true)
    (a26 : PySem.W.nsIn K mainGlobals "_law_told_right" = some (some (.ref f26)))
    (l26 : K.lookup f26 = some ⟨oc26, od26, .func (PySem.W.fnOf "_law_told_right" "_law_told_right" (defArgs sTold58) (defBody sTold58) (defScope sTold58) .none kV26 dc26 pm26 an26 cd26 ct26), sl26⟩)
    (c26 : PySem.W.codeIn K cd26 "_law_told_right" = true) (k26 : PySem.W.keepIn K (.ref f26) = true)
    (a27 : PySem.W.nsIn K mainGlobals "_law_one_right" = some (some (.ref f27)))
    (l27 : K.lookup f27 = some ⟨oc27, od27, .func (PySem.W.fnOf "_law_one_right" "_law_one_right" (defArgs sOne58) (defBody sOne58) (defScope sOne58) .none kV27 dc27 pm27 an27 cd27 ct27), sl27⟩)
    (c27 : PySem.W.codeIn K cd27 "_law_one_right" = true) (k27 : PySem.W.keepIn K (.ref f27) = true)
    (a28 : PySem.W.nsIn K mainGlobals "_law_two_plans_right" = some (some (.ref f28)))
    (l28 : K.lookup f28 = some ⟨oc28, od28, .func (PySem.W.fnOf "_law_two_plans_right" "_law_two_plans_right" (defArgs sTwo58) (defBody sTwo58) (defScope sTwo58) .none kV28 dc28 pm28 an28 cd28 ct28), sl28⟩)
    (c28 : PySem.W.codeIn K cd28 "_law_two_plans_right" = true) (k28 : PySem.W.keepIn K (.ref f28) = true)
    (a29 : PySem.W.nsIn K mainGlobals "_law_right" = some (some (.ref f29)))
    (l29 : K.lookup f29 = some ⟨oc29, od29, .func (PySem.W.fnOf "_law_right" "_law_right" (defArgs sRight58) (defBody sRight58) (defScope sRight58) .none kV29 dc29 pm29 an29 cd29 ct29), sl29⟩)
    (c29 : PySem.W.codeIn K cd29 "_law_right" = true) (k29 : PySem.W.keepIn K (.ref f29) = true)
    (a30 : PySem.W.nsIn K mainGlobals "law" = some (some (.ref f30)))
    (l30 : K.lookup f30 = some ⟨oc30, od30, .func (PySem.W.fnOf "law" "law" (defArgs sLaw) (defBody sLaw) (defScope sLaw) .none kV30 dc30 pm30 an30 cd30 ct30), sl30⟩)
    (c30 : PySem.W.codeIn K cd30 "law" = true) (k30 : PySem.W.keepIn K (.ref f30) = true)
    (z0 : PySem.W.nsIn K mainGlobals "isinstance" = some none)
    (z1 : PySem.W.nsIn K mainGlobals "int" = some none)
    (z2 : PySem.W.nsIn K mainGlobals "bool" = some none)
    (z3 : PySem.W.nsIn K mainGlobals "tuple" = some none)
    (z4 : PySem.W.nsIn K mainGlobals "len" = some none)
    (z5 : PySem.W.nsIn K mainGlobals "enumerate" = some none)
    (z6 : PySem.W.nsIn K mainGlobals "str" = some none)
    (z7 : PySem.W.nsIn K mainGlobals "sorted" = some none)
    (z8 : PySem.W.nsIn K mainGlobals "all" = some none)
    (z9 : PySem.W.nsIn K mainGlobals "list" = some none)
    (z10 : PySem.W.nsIn K mainGlobals "zip" = some none)
    (z11 : PySem.W.nsIn K mainGlobals "abs" = some none)
    (z12 : PySem.W.nsIn K mainGlobals "divmod" = some none)
    (z13 : PySem.W.nsIn K mainGlobals "range" = some none)
    (z14 : PySem.W.nsIn K mainGlobals "min" = some none)
    (z15 : PySem.W.nsIn K mainGlobals "max" = some none)
    (z16 : PySem.W.nsIn K mainGlobals "repr" = some none)
    (w0 : PySem.W.nsIn K mainGlobals "MOST_INDEX" = some (some (.int 7 tk0)))
    (w1 : PySem.W.nsIn K mainGlobals "MOST_CELLS" = some (some (.int 24 tk1)))
    (w2 : PySem.W.nsIn K mainGlobals "NAME_LETTERS" = some (some (.str "abcdefghijklmnopqrstuvwxyz" tk2)))
    (w3 : PySem.W.nsIn K mainGlobals "MOST_NAME_LETTERS" = some (some (.int 6 tk3)))
    (w4 : PySem.W.nsIn K mainGlobals "MOST_NAMES" = some (some (.int 12 tk4)))
    {C0 : Addr} (aC0 : PySem.W.nsIn K mainGlobals "InvalidPlan" = some (some (.ref C0)))
    : ∃ fd : FuncData, (∀ (s : Shared) (v : Value), BindsTo s fd ⟨[v], []⟩ [("_law_script", v)]) ∧ ∀ base : Heap, K.In base → base.Ns mainGlobals mg → FnG l.prog w K mg base 12 fa fd ["_law_script"] (spLaw K) := by
  have e := hfa.symm.trans (PySem.W.mg_of X G a30)
  cases e
  have F0 := fun_mk (st := sWhole) l0 c0 k0
  have m0 := PySem.W.mg_of X G a0
  have F1 := fun_mk (st := sBetween) l1 c1 k1
  have m1 := PySem.W.mg_of X G a1
  have F2 := fun_mk (st := sPlace) l2 c2 k2
  have m2 := PySem.W.mg_of X G a2
  have F3 := fun_mk (st := sIsCell) l3 c3 k3
  have m3 := PySem.W.mg_of X G a3
  have F4 := fun_mk (st := sCheck) l4 c4 k4
  have m4 := PySem.W.mg_of X G a4
  have F5 := fun_mk (st := sIsKind) l5 c5 k5
  have m5 := PySem.W.mg_of X G a5
  have F6 := fun_mk (st := sKind) l6 c6 k6
  have m6 := PySem.W.mg_of X G a6
  have F7 := fun_mk (st := sIsPlan) l7 c7 k7
  have m7 := PySem.W.mg_of X G a7
  have F8 := fun_mk (st := sLines) l8 c8 k8
  have m8 := PySem.W.mg_of X G a8
  have F9 := fun_mk (st := sIsName) l9 c9 k9
  have m9 := PySem.W.mg_of X G a9
  have F10 := fun_mk (st := sIsNmT) l10 c10 k10
  have m10 := PySem.W.mg_of X G a10
  have F11 := fun_mk (st := sIsRec) l11 c11 k11
  have m11 := PySem.W.mg_of X G a11
  have F12 := fun_mk (st := sSeen) l12 c12 k12
  have m12 := PySem.W.mg_of X G a12
  have F13 := fun_mk (st := sCompar) l13 c13 k13
  have m13 := PySem.W.mg_of X G a13
  have F14 := fun_mk (st := sCell) l14 c14 k14
  have m14 := PySem.W.mg_of X G a14
  have F15 := fun_mk (st := sPool) l15 c15 k15
  have m15 := PySem.W.mg_of X G a15
  have F16 := fun_mk (st := sDraw) l16 c16 k16
  have m16 := PySem.W.mg_of X G a16
  have F17 := fun_mk (st := sNames58) l17 c17 k17
  have m17 := PySem.W.mg_of X G a17
  have F18 := fun_mk (st := sMixedS) l18 c18 k18
  have m18 := PySem.W.mg_of X G a18
  have F19 := fun_mk (st := sSpots58) l19 c19 k19
  have m19 := PySem.W.mg_of X G a19
  have F20 := fun_mk (st := sLawLines) l20 c20 k20
  have m20 := PySem.W.mg_of X G a20
  have F21 := fun_mk (st := sSorted) l21 c21 k21
  have m21 := PySem.W.mg_of X G a21
  have F22 := fun_mk (st := sLater58) l22 c22 k22
  have m22 := PySem.W.mg_of X G a22
  have F23 := fun_mk (st := sShown58) l23 c23 k23
  have m23 := PySem.W.mg_of X G a23
  have F24 := fun_mk (st := sOrders58) l24 c24 k24
  have m24 := PySem.W.mg_of X G a24
  have F25 := fun_mk (st := sChg58) l25 c25 k25
  have m25 := PySem.W.mg_of X G a25
  have F26 := fun_mk (st := sTold58) l26 c26 k26
  have m26 := PySem.W.mg_of X G a26
  have F27 := fun_mk (st := sOne58) l27 c27 k27
  have m27 := PySem.W.mg_of X G a27
  have F28 := fun_mk (st := sTwo58) l28 c28 k28
  have m28 := PySem.W.mg_of X G a28
  have F29 := fun_mk (st := sRight58) l29 c29 k29
  have m29 := PySem.W.mg_of X G a29
  have F30 := fun_mk (st := sLaw) l30 c30 k30
  have m30 := PySem.W.mg_of X G a30
  have n_isinstance := PySem.W.mg_none_of X G z0
  have n_int := PySem.W.mg_none_of X G z1
  have n_bool := PySem.W.mg_none_of X G z2
  have n_tuple := PySem.W.mg_none_of X G z3
  have n_len := PySem.W.mg_none_of X G z4
  have n_enumerate := PySem.W.mg_none_of X G z5
  have n_str := PySem.W.mg_none_of X G z6
  have n_sorted := PySem.W.mg_none_of X G z7
  have n_all := PySem.W.mg_none_of X G z8
  have n_list := PySem.W.mg_none_of X G z9
  have n_zip := PySem.W.mg_none_of X G z10
  have n_abs := PySem.W.mg_none_of X G z11
  have n_divmod := PySem.W.mg_none_of X G z12
  have n_range := PySem.W.mg_none_of X G z13
  have n_min := PySem.W.mg_none_of X G z14
  have n_max := PySem.W.mg_none_of X G z15
  have n_repr := PySem.W.mg_none_of X G z16
  have c_MOST_INDEX := PySem.W.mg_of X G w0
  have c_MOST_CELLS := PySem.W.mg_of X G w1
  have c_NAME_LETTERS := PySem.W.mg_of X G w2
  have c_MOST_NAME_LETTERS := PySem.W.mg_of X G w3
  have c_MOST_NAMES := PySem.W.mg_of X G w4
  have b0 := F0.binds (ps := ["value"]) fun _ _ _ _ _ _ us hl => match us, hl with | [_], _ => rfl
  have b1 := F1.binds (ps := ["value", "least", "most"]) fun _ _ _ _ _ _ us hl => match us, hl with | [_, _, _], _ => rfl
  have b2 := F2.binds (ps := ["value"]) fun _ _ _ _ _ _ us hl => match us, hl with | [_], _ => rfl
  have b3 := F3.binds (ps := ["value"]) fun _ _ _ _ _ _ us hl => match us, hl with | [_], _ => rfl
  have b4 := F4.binds (ps := ["plan"]) fun _ _ _ _ _ _ us hl => match us, hl with | [_], _ => rfl
  have b5 := F5.binds (ps := ["value"]) fun _ _ _ _ _ _ us hl => match us, hl with | [_], _ => rfl
  have b6 := F6.binds (ps := ["kind"]) fun _ _ _ _ _ _ us hl => match us, hl with | [_], _ => rfl
  have b7 := F7.binds (ps := ["value"]) fun _ _ _ _ _ _ us hl => match us, hl with | [_], _ => rfl
  have b8 := F8.binds (ps := ["plan", "kind"]) fun _ _ _ _ _ _ us hl => match us, hl with | [_, _], _ => rfl
  have b9 := F9.binds (ps := ["value"]) fun _ _ _ _ _ _ us hl => match us, hl with | [_], _ => rfl
  have b10 := F10.binds (ps := ["size", "value"]) fun _ _ _ _ _ _ us hl => match us, hl with | [_, _], _ => rfl
  have b11 := F11.binds (ps := ["value"]) fun _ _ _ _ _ _ us hl => match us, hl with | [_], _ => rfl
  have b12 := F12.binds (ps := ["record"]) fun _ _ _ _ _ _ us hl => match us, hl with | [_], _ => rfl
  have b13 := F13.binds (ps := ["record"]) fun _ _ _ _ _ _ us hl => match us, hl with | [_], _ => rfl
  have w13 : KwBinds _ ["record"] ["record"] id id := kw_binds F13 (fun _ _ _ _ _ _ ws hl => match ws, hl with | [_], _ => rfl) (fun r => r)
  have b14 := F14.binds (ps := ["_law_script", "_law_k"]) fun _ _ _ _ _ _ us hl => match us, hl with | [_, _], _ => rfl
  have b15 := F15.binds (ps := ["_law_number"]) fun _ _ _ _ _ _ us hl => match us, hl with | [_], _ => rfl
  have b16 := F16.binds (ps := ["_law_pool_here", "_law_most"]) fun _ _ _ _ _ _ us hl => match us, hl with | [_, _], _ => rfl
  have b17 := F17.binds (ps := ["_law_pool_here", "_law_many"]) fun _ _ _ _ _ _ us hl => match us, hl with | [_, _], _ => rfl
  have b18 := F18.binds (ps := ["_law_pool_here", "_law_things"]) fun _ _ _ _ _ _ us hl => match us, hl with | [_, _], _ => rfl
  have b19 := F19.binds (ps := ["_law_pool_here", "_law_many"]) fun _ _ _ _ _ _ us hl => match us, hl with | [_, _], _ => rfl
  have b20 := F20.binds (ps := ["_law_spots_here", "_law_sort"]) fun _ _ _ _ _ _ us hl => match us, hl with | [_, _], _ => rfl
  have b21 := F21.binds (ps := ["_law_spots_here", "_law_some", "_law_sort"]) fun _ _ _ _ _ _ us hl => match us, hl with | [_, _, _], _ => rfl
  have b22 := F22.binds (ps := ["_law_spots_here", "_law_row", "_law_sort", "_law_order"]) fun _ _ _ _ _ _ us hl => match us, hl with | [_, _, _, _], _ => rfl
  have b23 := F23.binds (ps := ["_law_spots_here", "_law_row", "_law_sort", "_law_later_here"]) fun _ _ _ _ _ _ us hl => match us, hl with | [_, _, _, _], _ => rfl
  have b24 := F24.binds (ps := ["_law_folk"]) fun _ _ _ _ _ _ us hl => match us, hl with | [_], _ => rfl
  have b25 := F25.binds (ps := ["_law_pool_here", "_law_spots_here", "_law_row", "_law_sort", "_law_later_here"]) fun _ _ _ _ _ _ us hl => match us, hl with | [_, _, _, _, _], _ => rfl
  have b26 := F26.binds (ps := ["_law_seen", "_law_due"]) fun _ _ _ _ _ _ us hl => match us, hl with | [_, _], _ => rfl
  have b27 := F27.binds (ps := ["_law_folk", "_law_spots_here", "_law_row", "_law_sort", "_law_later_here"]) fun _ _ _ _ _ _ us hl => match us, hl with | [_, _, _, _, _], _ => rfl
  have b28 := F28.binds (ps := ["_law_pool_here", "_law_folk", "_law_spots_here", "_law_row", "_law_sort", "_law_later_here"]) fun _ _ _ _ _ _ us hl => match us, hl with | [_, _, _, _, _, _], _ => rfl
  have b29 := F29.binds (ps := ["_law_pool_here"]) fun _ _ _ _ _ _ us hl => match us, hl with | [_], _ => rfl
  have gInvalidPlan : mg "InvalidPlan" = some (.ref C0) := PySem.W.mg_of X G aC0
  refine ⟨PySem.W.fnOf "law" "law" (defArgs sLaw) (defBody sLaw) (defScope sLaw) .none kV30 dc30 pm30 an30 cd30 ct30, fun s v => .of_eq rfl, fun base _ _ => ?_⟩
  have G0 := ok_whole (P := l.prog) (w := w) (mg := mg) (base := base) F0 n_isinstance n_int n_bool
  have G1 := ok_between (P := l.prog) (w := w) (mg := mg) (base := base) F1 G0 b0 m0 k0
  have G2 := ok_place (P := l.prog) (w := w) (mg := mg) (base := base) F2 G1 b1 m1 k1 c_MOST_INDEX
  have G3 := ok_isCell (P := l.prog) (w := w) (mg := mg) (base := base) F3 G2 b2 m2 k2 n_isinstance n_tuple n_len
  have G4 := ok_check (P := l.prog) (w := w) (mg := mg) (base := base) F4 G3 b3 m3 k3 n_isinstance n_tuple n_len n_enumerate c_MOST_CELLS
  have G5 := ok_isKind (P := l.prog) (w := w) (mg := mg) (base := base) F5 n_isinstance n_str
  have G6 := ok_kind (P := l.prog) (w := w) (mg := mg) (base := base) F6 G5 b5 m5 k5
  have G7 := ok_isPlanT (P := l.prog) (w := w) (mg := mg) (base := base) F7 G4 b4 m4 k4 gInvalidPlan
  have G8 := ok_lines (P := l.prog) (w := w) (mg := mg) (base := base) F8 G4 b4 m4 k4 G6 b6 m6 k6 n_enumerate n_tuple n_sorted
  have G9 := ok_isName (P := l.prog) (w := w) (mg := mg) (base := base) F9 n_isinstance n_str n_len n_all c_NAME_LETTERS c_MOST_NAME_LETTERS
  have G10 := ok_isNmT (P := l.prog) (w := w) (mg := mg) (base := base) F10 G9 b9 m9 k9 n_isinstance n_tuple n_len n_all n_enumerate
  have G11 := ok_isRec (P := l.prog) (w := w) (mg := mg) (base := base) F11 G7 b7 m7 k7 G5 b5 m5 k5 G1 b1 m1 k1 G10 b10 m10 k10 n_isinstance n_tuple n_len n_sorted c_MOST_NAMES
  have G12 := ok_seen (P := l.prog) (w := w) (mg := mg) (base := base) F12 G8 b8 m8 k8 n_sorted n_list n_zip
  have G13 := ok_compar (P := l.prog) (w := w) (mg := mg) (base := base) F13 G11 b11 m11 k11 G12 b12 m12 k12 n_sorted n_tuple
  have G14 := ok_cell (P := l.prog) (w := w) (mg := mg) (base := base) F14 n_len
  have G15 := ok_pool (P := l.prog) (w := w) (mg := mg) (base := base) F15 n_abs
  have G16 := ok_draw (P := l.prog) (w := w) (mg := mg) (base := base) F16 n_divmod
  have G17 := ok_names58 (P := l.prog) (w := w) (mg := mg) (base := base) F17 G16 b16 m16 k16 n_range
  have G18 := ok_mixedS (P := l.prog) (w := w) (mg := mg) (base := base) F18 G16 b16 m16 k16 n_list n_range n_len n_tuple
  have G19 := ok_spots58 (P := l.prog) (w := w) (mg := mg) (base := base) F19 G16 b16 m16 k16 n_min n_max n_int n_range n_len n_tuple
  have G20 := ok_lawLinesN (P := l.prog) (w := w) (mg := mg) (base := base) F20 n_int n_range n_len
  have G21 := ok_lsorted (P := l.prog) (w := w) (mg := mg) (base := base) F21 G20 b20 m20 k20 n_list n_zip n_sorted n_tuple
  have G22 := ok_later58 (P := l.prog) (w := w) (mg := mg) (base := base) F22 G21 b21 m21 k21 n_tuple
  have G23 := ok_shown58 (P := l.prog) (w := w) (mg := mg) (base := base) F23 G20 b20 m20 k20 n_sorted n_range n_len n_tuple
  have G24 := ok_orders58 (P := l.prog) (w := w) (mg := mg) (base := base) F24 n_sorted
  have G25 := ok_chg58 (P := l.prog) (w := w) (mg := mg) (base := base) F25 G16 b16 m16 k16 G18 b18 m18 k18 G20 b20 m20 k20 n_list n_len n_tuple
  have G26 := ok_told58 (P := l.prog) (w := w) (mg := mg) (base := base) F26 G13 b13 w13 m13 k13 (fun _ => rfl) n_repr
  have G27 := ok_one58 (P := l.prog) (w := w) (mg := mg) (base := base) F27 G23 b23 m23 k23 G24 b24 m24 k24 G22 b22 m22 k22 G26 b26 m26 k26 n_len
  have G28 := ok_two58 (P := l.prog) (w := w) (mg := mg) (base := base) F28 G19 b19 m19 k19 G23 b23 m23 k23 G13 b13 m13 k13 n_len n_repr
  have G29 := ok_right58 (P := l.prog) (w := w) (mg := mg) (base := base) F29 G17 b17 m17 k17 G16 b16 m16 k16 G19 b19 m19 k19 G18 b18 m18 k18 G22 b22 m22 k22 G27 b27 m27 k27 G28 b28 m28 k28 G25 b25 m25 k25 n_len
  exact ok_law58 F30 G14 b14 m14 k14 G15 b15 m15 k15 G29 b29 m29 k29 n_all n_range n_max n_min n_len
end KS
open PySem PySem.W PyProof.Rows
set_option maxHeartbeats 0 in
theorem PySem.Challenge.cw_keepsort_k58_comparisons_holds : PySem.Challenge.rw_keepsort_k58_comparisons.Holds := by
  w_on; o_law; k_head; (case hw => w_witness2)
  k_fill
  refine KS.walk_ofG (l := PySem.Challenge.rw_keepsort_k58_comparisons) (n := 63) (k := 12) (x := "_law_script") (sp := fun w => KS.spLaw _) rfl (by decide) rfl ⟨rfl, by decide, by decide⟩ (fun w h Y => PySem.W.kIn_of Y) ?F (fun _ _ a ns hl _ hS => ⟨a, ns, rfl, hS, hl, fun _ => rfl⟩)
  case F =>
    intro w mg fa h KX G hmg
    refine' KS.all_mk KX G hmg ?a0 ?l0 ?c0 ?k0 ?a1 ?l1 ?c1 ?k1 ?a2 ?l2 ?c2 ?k2 ?a3 ?l3 ?c3 ?k3 ?a4 ?l4 ?c4 ?k4 ?a5 ?l5 ?c5 ?k5 ?a6 ?l6 ?c6 ?k6 ?a7 ?l7 ?c7 ?k7 ?a8 ?l8 ?c8 ?k8 ?a9 ?l9 ?c9 ?k9 ?a10 ?l10 ?c10 ?k10 ?a11 ?l11 ?c11 ?k11 ?a12 ?l12 ?c12 ?k12 ?a13 ?l13 ?c13 ?k13 ?a14 ?l14 ?c14 ?k14 ?a15 ?l15 ?c15 ?k15 ?a16 ?l16 ?c16 ?k16 ?a17 ?l17 ?c17 ?k17 ?a18 ?l18 ?c18 ?k18 ?a19 ?l19 ?c19 ?k19 ?a20 ?l20 ?c20 ?k20 ?a21 ?l21 ?c21 ?k21 ?a22 ?l22 ?c22 ?k22 ?a23 ?l23 ?c23 ?k23 ?a24 ?l24 ?c24 ?k24 ?a25 ?l25 ?c25 ?k25 ?a26 ?l26 ?c26 ?k26 ?a27 ?l27 ?c27 ?k27 ?a28 ?l28 ?c28 ?k28 ?a29 ?l29 ?c29 ?k29 ?a30 ?l30 ?c30 ?k30 ?z0 ?z1 ?z2 ?z3 ?z4 ?z5 ?z6 ?z7 ?z8 ?z9 ?z10 ?z11 ?z12 ?z13 ?z14 ?z15 ?z16 ?w0 ?w1 ?w2 ?w3 ?w4 ?xaC0
    (case a0 => k_is)
    (case l0 => k_is)
    (case c0 => k_is)
    (case k0 => k_is)
    (case a1 => k_is)
    (case l1 => k_is)
    (case c1 => k_is)
    (case k1 => k_is)
    (case a2 => k_is)
    (case l2 => k_is)
    (case c2 => k_is)
    (case k2 => k_is)
    (case a3 => k_is)
    (case l3 => k_is)
    (case c3 => k_is)
    (case k3 => k_is)
    (case a4 => k_is)
    (case l4 => k_is)
    (case c4 => k_is)
    (case k4 => k_is)
    (case a5 => k_is)
    (case l5 => k_is)
    (case c5 => k_is)
    (case k5 => k_is)
    (case a6 => k_is)
    (case l6 => k_is)
    (case c6 => k_is)
    (case k6 => k_is)
    (case a7 => k_is)
    (case l7 => k_is)
    (case c7 => k_is)
    (case k7 => k_is)
    (case a8 => k_is)
    (case l8 => k_is)
    (case c8 => k_is)
    (case k8 => k_is)
    (case a9 => k_is)
    (case l9 => k_is)
    (case c9 => k_is)
    (case k9 => k_is)
    (case a10 => k_is)
    (case l10 => k_is)
    (case c10 => k_is)
    (case k10 => k_is)
    (case a11 => k_is)
    (case l11 => k_is)
    (case c11 => k_is)
    (case k11 => k_is)
    (case a12 => k_is)
    (case l12 => k_is)
    (case c12 => k_is)
    (case k12 => k_is)
    (case a13 => k_is)
    (case l13 => k_is)
    (case c13 => k_is)
    (case k13 => k_is)
    (case a14 => k_is)
    (case l14 => k_is)
    (case c14 => k_is)
    (case k14 => k_is)
    (case a15 => k_is)
    (case l15 => k_is)
    (case c15 => k_is)
    (case k15 => k_is)
    (case a16 => k_is)
    (case l16 => k_is)
    (case c16 => k_is)
    (case k16 => k_is)
    (case a17 => k_is)
    (case l17 => k_is)
    (case c17 => k_is)
    (case k17 => k_is)
    (case a18 => k_is)
    (case l18 => k_is)
    (case c18 => k_is)
    (case k18 => k_is)
    (case a19 => k_is)
    (case l19 => k_is)
    (case c19 => k_is)
    (case k19 => k_is)
    (case a20 => k_is)
    (case l20 => k_is)
    (case c20 => k_is)
    (case k20 => k_is)
    (case a21 => k_is)
    (case l21 => k_is)
    (case c21 => k_is)
    (case k21 => k_is)
    (case a22 => k_is)
    (case l22 => k_is)
    (case c22 => k_is)
    (case k22 => k_is)
    (case a23 => k_is)
    (case l23 => k_is)
    (case c23 => k_is)
    (case k23 => k_is)
    (case a24 => k_is)
    (case l24 => k_is)
    (case c24 => k_is)
    (case k24 => k_is)
    (case a25 => k_is)
    (case l25 => k_is)
    (case c25 => k_is)
    (case k25 => k_is)
    (case a26 => k_is)
    (case l26 => k_is)
    (case c26 => k_is)
    (case k26 => k_is)
    (case a27 => k_is)
    (case l27 => k_is)
    (case c27 => k_is)
    (case k27 => k_is)
    (case a28 => k_is)
    (case l28 => k_is)
    (case c28 => k_is)
    (case k28 => k_is)
    (case a29 => k_is)
    (case l29 => k_is)
    (case c29 => k_is)
    (case k29 => k_is)
    (case a30 => k_is)
    (case l30 => k_is)
    (case c30 => k_is)
    (case k30 => k_is)
    (case z0 => k_is)
    (case z1 => k_is)
    (case z2 => k_is)
    (case z3 => k_is)
    (case z4 => k_is)
    (case z5 => k_is)
    (case z6 => k_is)
    (case z7 => k_is)
    (case z8 => k_is)
    (case z9 => k_is)
    (case z10 => k_is)
    (case z11 => k_is)
    (case z12 => k_is)
    (case z13 => k_is)
    (case z14 => k_is)
    (case z15 => k_is)
    (case z16 => k_is)
    (case w0 => k_is)
    (case w1 => k_is)
    (case w2 => k_is)
    (case w3 => k_is)
    (case w4 => k_is)
    (case xaC0 => k_is)
