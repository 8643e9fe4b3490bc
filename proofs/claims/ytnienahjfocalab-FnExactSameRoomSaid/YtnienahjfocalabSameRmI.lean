/-
  Whether two windows, and two lists of windows, are the same: the program.
-/
import Derived.Test.YtnienahjfocalabSameF
import Derived.Test.YtnienahjfocalabRoomL
import Derived.Test.YtnienahjfocalabRoomK
import Derived.Test.YtnienahjfocalabBox
import Derived.Test.YtnienahjfocalabTake
namespace Go.Proofs.Ytnienahjfocalab
open Go.ChangeShapes Go.WideShapes Go.ChangeAt Go.RowKit Go.Deep Go.Joins

attribute [local go_sem] run_store_f
theorem ret_boolS {a b : Bool} (h : a = b) : Ending.returned (.bool a) = .returned (.bool b) := by rw [h]
/-- Are two windows the same, and two lists of them as far as both go? -/
def sWn (x y : Wn) : Bool := (x.1 == y.1 && x.2.1 == y.2.1) && sameB x.2.2 y.2.2
def allZ {α : Type} (f : α → α → Bool) (xs ys : List α) : Bool := (xs.zip ys).all fun p => f p.1 p.2
theorem allZ_take {α : Type} (f : α → α → Bool) {xs ys : List α} {k : Nat} {x y : α} (hx : xs[k]? = some x) (hy : ys[k]? = some y) : allZ f (xs.take (k + 1)) (ys.take (k + 1)) = (allZ f (xs.take k) (ys.take k) && f x y) := by
  obtain ⟨h1, rfl⟩ := List.getElem?_eq_some_iff.1 hx
  obtain ⟨h2, rfl⟩ := List.getElem?_eq_some_iff.1 hy
  unfold allZ
  rw [List.take_succ_eq_append_getElem h1, List.take_succ_eq_append_getElem h2, List.zip_append (by simp; omega)]
  simp
theorem allZ_miss {α : Type} (f : α → α → Bool) {xs ys : List α} {k : Nat} {x y : α} (hx : xs[k]? = some x) (hy : ys[k]? = some y) (h : f x y = false) : allZ f xs ys = false := by
  unfold allZ
  have hz : (xs.zip ys)[k]? = some (x, y) := by rw [List.getElem?_zip_eq_some]; exact ⟨hx, hy⟩
  rw [List.all_eq_false]
  exact ⟨(x, y), List.mem_of_getElem? hz, by simp [h]⟩
def sWs (xs ys : List Wn) : Bool := xs.length == ys.length && allZ sWn xs ys

set_option maxRecDepth 100000 in
set_option maxHeartbeats 1000000 in
theorem sameWindow_any (x y : Wn) (w : World) : Calls Try.prog 48 #[.agg (winC x), .agg (winC y)] w fun e w' => e = .returned (.bool (sWn x y)) ∧ Below w.heap.size w w' := by
  have HN := Lib.hid (fun w => SameNumber_is x.2.2 y.2.2 w)
  have HR := Lib.hid (show sWn x y = ((x.1 == y.1 && x.2.1 == y.2.1) && sameB x.2.2 y.2.2) from rfl)
  cases h1 : (x.1 == y.1) <;> cases h2 : (x.2.1 == y.2.1)
  all_goals
    unfold Hid at HR
    rw [h1, h2] at HR
    simp only [Bool.false_and, Bool.true_and, Bool.and_false] at HR
    have HR2 := Lib.hid HR
    clear HR
    go_enter Try.func48, Try.ntmps48
    go_upto_region 1 with (fail)
    refine abs_world (fun W => W.heap[w.heap.size]? = some (.cells (winC x) 87 (0, 0)) ∧ W.heap[w.heap.size + 1]? = some (.cells (winC y) 87 (0, 0)) ∧ Below w.heap.size w W) (box2 w (.cells (winC x) 87) (.cells (winC y) 87)) ?_
    rintro W ⟨h0, h1, hb⟩
    generalize w.heap.size + 1 = b1 at *
    have H0 := Lib.hid h0
    have H1 := Lib.hid h1
    obtain ⟨x0, x1, x2⟩ := win_cells h0
    obtain ⟨y0, y1, y2⟩ := win_cells h1
    clear h0 h1
    clear H0 H1
    go_wp2_with (go_at_call 85; refine (HN.out _).mono ?_; rintro e w' ⟨rfl, rfl⟩)
    go_ret
    exact ⟨ret_boolS HR2.out.symm, hb⟩

set_option maxRecDepth 100000 in
set_option maxHeartbeats 1000000 in
theorem eqFn_any (v1 v2 : Value) (xs ys : List Wn) (w : World) (hx1 : WinsAt w v1 xs) (hy1 : WinsAt w v2 ys) :
    Calls Try.prog 47 #[v1, v2, .func (.func 48) #[] #[]] w fun e w' => e = .returned (.bool (sWs xs ys)) ∧ Below w.heap.size w w' := by
  have HX := Lib.hid hx1
  have HY := Lib.hid hy1
  obtain ⟨a, cap, rfl, p1, p2, _⟩ := hx1
  obtain ⟨b, cbp, rfl, q1, q2, _⟩ := hy1
  unfold maxLen at p2 q2
  generalize hn : xs.length = n at *
  generalize hm : ys.length = m at *
  have HN := Lib.hid hn
  have HM := Lib.hid hm
  by_cases hnm : n = m
  · subst hnm
    have HR : Hid (sWs xs ys = allZ sWn xs ys) := by unfold Hid sWs; rw [HN.out, HM.out]; simp
    have zn : ((n : Int) != (n : Int)) = false := by simp
    clear hn hm
    go_enter Try.func47, Try.ntmps47
    go_wp2
    go_loopw [17] (fun i wr => ∃ k : Nat, k ≤ n ∧ i = .int .i64 k ∧ allZ sWn (xs.take k) (ys.take k) = true ∧ Below w.heap.size w wr) (fun i _ => n - (intOf i).toNat)
    case atStart => exact ⟨0, Nat.zero_le _, rfl, rfl, Below.refl _ _⟩
    case round =>
      obtain ⟨k, hk, rfl, hs, hb⟩ := hrel
      have HS := Lib.hid hs
      clear hs
      by_cases hlt : k < n
      · have hx : xs[k]? = some (xs[k]'(by rw [HN.out]; exact hlt)) := List.getElem?_eq_getElem _
        have hy : ys[k]? = some (ys[k]'(by rw [HM.out]; exact hlt)) := List.getElem?_eq_getElem _
        generalize (xs[k]'(by rw [HN.out]; exact hlt)) = x at *
        generalize (ys[k]'(by rw [HM.out]; exact hlt)) = y at *
        obtain ⟨g, o, rfl, hc1⟩ := win_at (wins_below HX.out hb) hx
        obtain ⟨g', o', rfl, hc2⟩ := win_at (wins_below HY.out hb) hy
        have C1 := Lib.hid hc1
        have C2 := Lib.hid hc2
        have KX := Lib.hid hx
        have KY := Lib.hid hy
        have HC := Lib.hid (fun w => sameWindow_any x y w)
        have z1 : (k : Int) < (n : Int) := by omega
        have z2 : (0 : Int) ≤ (k : Int) := by omega
        clear hc1 hc2 hx hy
        go_upto_region 6 with (first | (refine wpList_load_cells rfl 87 _ rfl g (o + k * 3) 3 rfl _ Try.underlying87 rfl info_win (winC x) rfl C1.out ?_) | (refine wpList_store_part rfl 87 _ _ rfl _ 0 (winC x) rfl rfl 87 _ (heap_alloc_new _ _) (by kernel_rfl) (Nat.le_refl _) (win_one _) ?_; rw [laid_allr _ _ (by rfl)]))
        refine abs_world (fun V => Below wr.heap.size wr V ∧ V.heap[wr.heap.size]? = some (.cells (winC x) 87 (0, 0))) ⟨below_setRow ((Below.refl _ _).alloc (Nat.le_refl _) _) (Nat.le_refl _) _, setRow_heap _ _ _ _ _ _ (heap_alloc_new _ _)⟩ ?_
        rintro xbW ⟨hb1, h9⟩
        replace C2 := Lib.hid (fun j v h => cell_below hb1 (C2.out j v h))
        replace hb := hb.trans (hb1.mono hb.size)
        have R1 := Lib.hid h9
        clear hb1 h9
        generalize wr.heap.size = xb at *
        go_upto_region 7 with (first | (refine wpList_load_cells rfl 87 _ rfl g' (o' + k * 3) 3 rfl _ Try.underlying87 rfl info_win (winC y) rfl C2.out ?_) | (refine wpList_store_part rfl 87 _ _ rfl _ 0 (winC y) rfl rfl 87 _ (heap_alloc_new _ _) (by kernel_rfl) (Nat.le_refl _) (win_one _) ?_; rw [laid_allr _ _ (by rfl)]))
        refine abs_world (fun V => Below xbW.heap.size xbW V ∧ V.heap[xbW.heap.size]? = some (.cells (winC y) 87 (0, 0))) ⟨below_setRow ((Below.refl _ _).alloc (Nat.le_refl _) _) (Nat.le_refl _) _, setRow_heap _ _ _ _ _ _ (heap_alloc_new _ _)⟩ ?_
        rintro ybW ⟨hb1, h9⟩
        replace R1 := Lib.hid (below_row hb1 R1.out)
        replace hb := hb.trans (hb1.mono hb.size)
        have R2 := Lib.hid h9
        clear hb1 h9
        generalize xbW.heap.size = yb at *
        cases hbb : sWn x y with
        | true =>
          have HB := Lib.hid hbb
          unfold Hid at HC
          rw [hbb] at HC
          have HC2 := Lib.hid HC
          clear hbb HC
          go_wp2_with (first | (refine wpList_load_partG 87 _ rfl xb 0 3 rfl rfl 87 (winC x) (0, 0) _ R1.out Try.underlying87 rfl info_win (win_fits _) _ (win_all _) ?_) | (refine wpList_load_partG 87 _ rfl yb 0 3 rfl rfl 87 (winC y) (0, 0) _ R2.out Try.underlying87 rfl info_win (win_fits _) _ (win_all _) ?_) | (go_at_call 48; refine (HC2.out _).mono ?_; rintro e W7 ⟨rfl, hb7⟩; replace hb := hb.trans (hb7.mono hb.size); clear hb7))
          go_roundw
          case rel => exact ⟨k + 1, by omega, by go_num, by rw [allZ_take sWn KX.out KY.out, HS.out, HB.out]; rfl, hb⟩
          case measure => simp [intOf]; omega
        | false =>
          have HB := Lib.hid (allZ_miss sWn KX.out KY.out hbb)
          unfold Hid at HC
          rw [hbb] at HC
          have HC2 := Lib.hid HC
          clear hbb HC
          go_wp2_with (first | (refine wpList_load_partG 87 _ rfl xb 0 3 rfl rfl 87 (winC x) (0, 0) _ R1.out Try.underlying87 rfl info_win (win_fits _) _ (win_all _) ?_) | (refine wpList_load_partG 87 _ rfl yb 0 3 rfl rfl 87 (winC y) (0, 0) _ R2.out Try.underlying87 rfl info_win (win_fits _) _ (win_all _) ?_) | (go_at_call 48; refine (HC2.out _).mono ?_; rintro e W7 ⟨rfl, hb7⟩; replace hb := hb.trans (hb7.mono hb.size); clear hb7))
          go_ret
          exact ⟨ret_boolS (by rw [HR.out, HB.out]), hb⟩
      · obtain rfl : k = n := by omega
        have HE : Hid (allZ sWn xs ys = true) := by
          unfold Hid
          have h := HS.out
          rwa [List.take_of_length_le (by rw [HN.out]; exact Nat.le_refl _), List.take_of_length_le (by rw [HM.out]; exact Nat.le_refl _)] at h
        go_wp2
        go_ret
        exact ⟨ret_boolS (by rw [HR.out, HE.out]), hb⟩
  · have HR : Hid (sWs xs ys = false) := by unfold Hid sWs; rw [HN.out, HM.out]; simp [hnm]
    have zn : ((n : Int) != (m : Int)) = true := by rw [bne_iff_ne]; omega
    clear hn hm hnm
    go_enter Try.func47, Try.ntmps47
    go_wp2
    go_ret
    exact ⟨ret_boolS HR.out.symm, Below.refl _ _⟩

/-- Are two rooms the same? -/
def sRm (wd hg wd' hg' : Int) (xs ys : List Wn) : Bool := (wd == wd' && hg == hg') && sWs xs ys

set_option maxRecDepth 100000 in
set_option maxHeartbeats 1000000 in
theorem implSameRoom_any (wd hg : Int) (sv : Value) (xs : List Wn) (wd2 hg2 : Int) (sv2 : Value) (ys : List Wn) (w : World) (hx : WinsAt w sv xs) (hy : WinsAt w sv2 ys) :
    Calls Try.prog 17 #[.agg (roomC wd hg sv), .agg (roomC wd2 hg2 sv2)] w fun e w' => e = .returned (.bool (sRm wd hg wd2 hg2 xs ys)) ∧ Below w.heap.size w w' := by
  have HX := Lib.hid hx
  have HY := Lib.hid hy
  have HE := Lib.hid (fun w (h1 : WinsAt w sv xs) (h2 : WinsAt w sv2 ys) => eqFn_any sv sv2 xs ys w h1 h2)
  have HR := Lib.hid (show sRm wd hg wd2 hg2 xs ys = ((wd == wd2 && hg == hg2) && sWs xs ys) from rfl)
  clear hx hy
  cases h1 : (wd == wd2) <;> cases h2 : (hg == hg2)
  all_goals
    unfold Hid at HR
    rw [h1, h2] at HR
    simp only [Bool.false_and, Bool.true_and, Bool.and_false] at HR
    have HR2 := Lib.hid HR
    clear HR
    go_enter Try.func17, Try.ntmps17
    go_upto_region 1 with (fail)
    refine abs_world (fun W => W.heap[w.heap.size]? = some (.cells (roomC wd hg sv) 37 (0, 0)) ∧ W.heap[w.heap.size + 1]? = some (.cells (roomC wd2 hg2 sv2) 37 (0, 0)) ∧ Below w.heap.size w W) (box2 w (.cells (roomC wd hg sv) 37) (.cells (roomC wd2 hg2 sv2) 37)) ?_
    rintro W ⟨h0, h1, hb⟩
    generalize w.heap.size + 1 = b1 at *
    have H0 := Lib.hid h0
    have H1 := Lib.hid h1
    obtain ⟨x0, x1, x2⟩ := room_cells h0
    obtain ⟨y0, y1, y2⟩ := room_cells h1
    replace HX := Lib.hid (wins_below HX.out hb)
    replace HY := Lib.hid (wins_below HY.out hb)
    clear h0 h1
    clear H0 H1
    go_wp2_with (go_at_call 47; refine (HE.out _ HX.out HY.out).mono ?_; rintro e W7 ⟨rfl, hb7⟩; replace hb := hb.trans (hb7.mono hb.size); clear hb7)
    go_ret
    exact ⟨ret_boolS HR2.out.symm, hb⟩

end Go.Proofs.Ytnienahjfocalab
