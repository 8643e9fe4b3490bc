/-
  Trees: whether they are valid, for the model.
-/
import Derived.Test.YtnienahjfocalabTrV
namespace Go.Proofs.Ytnienahjfocalab
open Go.RowKit

attribute [local go_sem] run_store_f

theorem fit_split (x : Tr) : (inI 0 255 x.1 = false ∧ fitT x = false) ∨ (inI 0 255 x.1 = true ∧ inI 0 128 x.2.1 = false ∧ fitT x = false) ∨ (inI 0 255 x.1 = true ∧ inI 0 128 x.2.1 = true ∧ inI 0 64 x.2.2 = fitT x) := by
  unfold fitT
  cases inI 0 255 x.1 <;> cases inI 0 128 x.2.1 <;> simp
theorem okTs_all {ts : List Tr} (h : ts.all fitT = true) : okTs ts = decide ((ts.length : Int) ≤ 8) := by
  unfold okTs
  rw [h, Bool.and_true, Bool.eq_iff_iff, decide_eq_true_iff, decide_eq_true_iff]; omega
theorem okTs_bad {ts : List Tr} {x : Tr} {k : Nat} (h : ts[k]? = some x) (hf : fitT x = false) : okTs ts = false := by
  unfold okTs
  have hall : ts.all fitT = false := by
    rw [Bool.eq_false_iff]
    intro ha
    have := List.all_eq_true.1 ha x (List.mem_of_getElem? h)
    rw [hf] at this; cases this
  rw [hall, Bool.and_false]
theorem l00In_tr (a lo hi : Int) (r : Bool) (h : inI lo hi a = r) (w : World) : Calls Try.prog 80 #[.int .i64 a, .int .i64 lo, .int .i64 hi] w fun e w' => e = .returned (.bool r) ∧ w = w' := by subst h; exact l00In_ban a lo hi w
theorem facedT_is (a : Int) (r : Bool) (h : inI 0 255 a = r) (w : World) : Calls Try.prog 79 #[.int .i64 a] w fun e w' => e = .returned (.bool r) ∧ w = w' := by subst h; exact facedT_any a w

set_option maxRecDepth 100000 in
set_option maxHeartbeats 8000000 in
theorem l04Trees_any (sv : Value) (ts : List Tr) (hwf : ∀ x ∈ ts, TrWf x) (w : World) (hts : TreesAt w sv ts) :
    Calls Try.prog 38 #[sv] w fun e w' => e = .returned (.bool (okTs ts)) ∧ Below w.heap.size w w' := by
  have HW := Lib.hid hts
  have HF := Lib.hid hwf
  obtain ⟨a, cap, rfl, hl1, hl2, _⟩ := hts
  unfold maxLen at hl2
  generalize hn : ts.length = n at *
  have HN := Lib.hid hn
  clear hn hwf
  go_enter Try.func38, Try.ntmps38
  go_wp2
  go_loopw [3] (fun i wr => ∃ k : Nat, k ≤ n ∧ i = .int .i64 k ∧ Below w.heap.size w wr ∧ (ts.take k).all fitT = true) (fun i _ => n - (intOf i).toNat)
  case atStart => exact ⟨0, Nat.zero_le _, rfl, Below.refl _ _, rfl⟩
  case round =>
    obtain ⟨k, hk, rfl, hb, hall⟩ := hrel
    have HA := Lib.hid hall
    clear hall
    by_cases hlt : k < n
    · have hx : ts[k]? = some (ts[k]'(by rw [HN.out]; exact hlt)) := List.getElem?_eq_getElem _
      obtain ⟨g, o, rfl, hc⟩ := tree_at (trees_below HW.out hb) hx
      have HC := Lib.hid hc
      have hts : ts.take (k + 1) = ts.take k ++ [ts[k]'(by rw [HN.out]; exact hlt)] := by rw [List.take_succ_eq_append_getElem]
      have HT := Lib.hid hts
      have hwx := HF.out _ (List.mem_of_getElem? hx)
      generalize (ts[k]'(by rw [HN.out]; exact hlt)) = x at *
      have HD := Lib.hid hx
      obtain ⟨⟨x0, x1⟩, ⟨y0, y1⟩, u0, u1⟩ := hwx
      have z1 : (k : Int) < (n : Int) := by omega
      have z2 : (0 : Int) ≤ (k : Int) := by omega
      clear hc hts hx
      rcases fit_split x with ⟨e0, ef⟩ | ⟨e0, e1, ef⟩ | ⟨e0, e1, ef⟩
      · have E0 := Lib.hid e0
        have EF := Lib.hid ef
        clear e0 ef
        go_upto_region 5 with (first | (refine wpList_load_cells rfl 79 _ rfl g (o + k * 3) 3 rfl _ Try.underlying79 rfl info_tree (treeC x) rfl HC.out ?_) | (refine wpList_store_part rfl 79 _ _ rfl _ 0 (treeC x) rfl rfl 79 _ (heap_alloc_new _ _) (by kernel_rfl) (Nat.le_refl _) (tree_one _) ?_; rw [laid_allr _ _ (by rfl)]))
        refine abs_world (fun V => Below w.heap.size w V ∧ V.heap[wr.heap.size]? = some (.cells (treeC x) 79 (0, 0))) ⟨below_setRow (hb.alloc hb.size _) hb.size _, setRow_heap _ _ _ _ _ _ (heap_alloc_new _ _)⟩ ?_
        rintro V ⟨hbv, hr⟩
        obtain ⟨k0, k1, k2⟩ := tree_cells hr
        clear hr
        generalize wr.heap.size = tb at *
        go_wp2_with (go_at_call 79; refine (facedT_is _ _ E0.out _).mono ?_; rintro e w' ⟨rfl, rfl⟩)
        go_ret
        exact ⟨by rw [okTs_bad HD.out EF.out]; rfl, hbv⟩
      · have E0 := Lib.hid e0
        have E1 := Lib.hid e1
        have EF := Lib.hid ef
        have E2 := E1
        clear e0 e1 ef
        go_upto_region 5 with (first | (refine wpList_load_cells rfl 79 _ rfl g (o + k * 3) 3 rfl _ Try.underlying79 rfl info_tree (treeC x) rfl HC.out ?_) | (refine wpList_store_part rfl 79 _ _ rfl _ 0 (treeC x) rfl rfl 79 _ (heap_alloc_new _ _) (by kernel_rfl) (Nat.le_refl _) (tree_one _) ?_; rw [laid_allr _ _ (by rfl)]))
        refine abs_world (fun V => Below w.heap.size w V ∧ V.heap[wr.heap.size]? = some (.cells (treeC x) 79 (0, 0))) ⟨below_setRow (hb.alloc hb.size _) hb.size _, setRow_heap _ _ _ _ _ _ (heap_alloc_new _ _)⟩ ?_
        rintro V ⟨hbv, hr⟩
        obtain ⟨k0, k1, k2⟩ := tree_cells hr
        clear hr
        generalize wr.heap.size = tb at *
        go_wp2_with (first | (go_at_call 79; refine (facedT_is _ _ E0.out _).mono ?_; rintro e w' ⟨rfl, rfl⟩) | (go_at_call 80; refine (l00In_ban _ _ _ _).mono ?_; (first | rw [E1.out] | rw [E2.out]); rintro e w' ⟨rfl, rfl⟩))
        go_ret
        exact ⟨by rw [okTs_bad HD.out EF.out]; rfl, hbv⟩
      · cases hft : fitT x with
        | true =>
          rw [hft] at ef
          have E0 := Lib.hid e0
          have E1 := Lib.hid e1
          have E2 := Lib.hid ef
          have EF := Lib.hid hft
          clear e0 e1 ef hft
          go_upto_region 5 with (first | (refine wpList_load_cells rfl 79 _ rfl g (o + k * 3) 3 rfl _ Try.underlying79 rfl info_tree (treeC x) rfl HC.out ?_) | (refine wpList_store_part rfl 79 _ _ rfl _ 0 (treeC x) rfl rfl 79 _ (heap_alloc_new _ _) (by kernel_rfl) (Nat.le_refl _) (tree_one _) ?_; rw [laid_allr _ _ (by rfl)]))
          refine abs_world (fun V => Below w.heap.size w V ∧ V.heap[wr.heap.size]? = some (.cells (treeC x) 79 (0, 0))) ⟨below_setRow (hb.alloc hb.size _) hb.size _, setRow_heap _ _ _ _ _ _ (heap_alloc_new _ _)⟩ ?_
          rintro V ⟨hbv, hr⟩
          obtain ⟨k0, k1, k2⟩ := tree_cells hr
          clear hr
          generalize wr.heap.size = tb at *
          go_wp2_with (first | (go_at_call 79; refine (facedT_is _ _ E0.out _).mono ?_; rintro e w' ⟨rfl, rfl⟩) | (go_at_call 80; refine (l00In_ban _ _ _ _).mono ?_; (first | rw [E1.out] | rw [E2.out]); rintro e w' ⟨rfl, rfl⟩))
          go_roundw
          case rel => exact ⟨k + 1, by omega, by go_num, hbv, by rw [HT.out, List.all_append, HA.out]; simp [EF.out]⟩
          case measure => simp [intOf]; omega
        | false =>
          rw [hft] at ef
          have E0 := Lib.hid e0
          have E1 := Lib.hid e1
          have E2 := Lib.hid ef
          have EF := Lib.hid hft
          clear e0 e1 ef hft
          go_upto_region 5 with (first | (refine wpList_load_cells rfl 79 _ rfl g (o + k * 3) 3 rfl _ Try.underlying79 rfl info_tree (treeC x) rfl HC.out ?_) | (refine wpList_store_part rfl 79 _ _ rfl _ 0 (treeC x) rfl rfl 79 _ (heap_alloc_new _ _) (by kernel_rfl) (Nat.le_refl _) (tree_one _) ?_; rw [laid_allr _ _ (by rfl)]))
          refine abs_world (fun V => Below w.heap.size w V ∧ V.heap[wr.heap.size]? = some (.cells (treeC x) 79 (0, 0))) ⟨below_setRow (hb.alloc hb.size _) hb.size _, setRow_heap _ _ _ _ _ _ (heap_alloc_new _ _)⟩ ?_
          rintro V ⟨hbv, hr⟩
          obtain ⟨k0, k1, k2⟩ := tree_cells hr
          clear hr
          generalize wr.heap.size = tb at *
          go_wp2_with (first | (go_at_call 79; refine (facedT_is _ _ E0.out _).mono ?_; rintro e w' ⟨rfl, rfl⟩) | (go_at_call 80; refine (l00In_ban _ _ _ _).mono ?_; (first | rw [E1.out] | rw [E2.out]); rintro e w' ⟨rfl, rfl⟩))
          go_ret
          exact ⟨by rw [okTs_bad HD.out EF.out]; rfl, hbv⟩
    · obtain rfl : k = n := by omega
      have hall := HA.out
      rw [List.take_of_length_le (by rw [HN.out]; exact Nat.le_refl _)] at hall
      have HL := Lib.hid (okTs_all hall)
      have hnn := HN.out
      rw [hnn] at HL
      clear hall hnn
      go_wp2
      go_ret
      exact ⟨ret_boolR HL.out.symm, hb⟩

set_option maxRecDepth 100000 in
set_option maxHeartbeats 1000000 in
theorem specValidTrees_any (sv : Value) (ts : List Tr) (hwf : ∀ x ∈ ts, TrWf x) (w : World) (hts : TreesAt w sv ts) :
    Calls Try.prog 10 #[sv] w fun e w' => e = .returned (.bool (okTs ts)) ∧ Below w.heap.size w w' := by
  have HC := Lib.hid (fun w h => l04Trees_any sv ts hwf w h)
  have HW := Lib.hid hts
  clear hwf hts
  go_enter Try.func10, Try.ntmps10
  go_wp2_with (go_at_call 38; refine (HC.out _ HW.out).mono ?_; rintro e W1 ⟨rfl, hb1⟩)
  go_ret
  exact ⟨rfl, hb1⟩

end Go.Proofs.Ytnienahjfocalab
