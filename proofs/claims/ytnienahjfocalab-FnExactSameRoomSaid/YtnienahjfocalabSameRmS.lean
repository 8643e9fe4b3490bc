/-
  Whether two rooms are the same: the model.
-/
import Derived.Test.YtnienahjfocalabSameRmI
namespace Go.Proofs.Ytnienahjfocalab
open Go.ChangeShapes Go.WideShapes Go.ChangeAt Go.RowKit Go.Deep Go.Joins

attribute [local go_sem] run_store_f

set_option maxRecDepth 100000 in
set_option maxHeartbeats 1000000 in
theorem sSameRoom_no (wd hg : Int) (a : Option Addr) (n cap : Nat) (xs : List Wn) (wd2 hg2 : Int) (b : Option Addr) (m cbp : Nat) (ys : List Wn) (w : World) (hx : WinsAt w (.slice a n cap) xs) (hy : WinsAt w (.slice b m cbp) ys) (hne : ¬ (wd = wd2 ∧ hg = hg2 ∧ n = m)) :
    Calls Try.prog 15 #[.agg (roomC wd hg (.slice a n cap)), .agg (roomC wd2 hg2 (.slice b m cbp))] w fun e w' => e = .returned (.bool false) ∧ Below w.heap.size w w' := by
  have n2 := (wins_len hx).2.1
  have n3 := (wins_len hx).2.2
  have m2 := (wins_len hy).2.1
  have m3 := (wins_len hy).2.2
  unfold maxLen at n3 m3
  clear hx hy
  cases h1 : (wd != wd2)
  · cases h2 : (hg != hg2)
    · have h3 : ((n : Int) != (m : Int)) = true := by
        rw [bne_iff_ne]
        intro e
        exact hne ⟨by simpa using h1, by simpa using h2, by omega⟩
      clear hne
      go_enter Try.func15, Try.ntmps15
      go_upto_region 1 with (fail)
      refine abs_world (fun W => W.heap[w.heap.size]? = some (.cells (roomC wd hg (.slice a n cap)) 37 (0, 0)) ∧ W.heap[w.heap.size + 1]? = some (.cells (roomC wd2 hg2 (.slice b m cbp)) 37 (0, 0)) ∧ Below w.heap.size w W) (box2 w (.cells (roomC wd hg (.slice a n cap)) 37) (.cells (roomC wd2 hg2 (.slice b m cbp)) 37)) ?_
      rintro W ⟨h0, h1, hb⟩
      generalize w.heap.size + 1 = b1 at *
      have H0 := Lib.hid h0
      have H1 := Lib.hid h1
      obtain ⟨x0, x1, x2⟩ := room_cells h0
      obtain ⟨y0, y1, y2⟩ := room_cells h1
      clear h0 h1
      clear H0 H1
      go_wp2
      go_ret
      exact ⟨rfl, hb⟩
    · clear hne
      go_enter Try.func15, Try.ntmps15
      go_upto_region 1 with (fail)
      refine abs_world (fun W => W.heap[w.heap.size]? = some (.cells (roomC wd hg (.slice a n cap)) 37 (0, 0)) ∧ W.heap[w.heap.size + 1]? = some (.cells (roomC wd2 hg2 (.slice b m cbp)) 37 (0, 0)) ∧ Below w.heap.size w W) (box2 w (.cells (roomC wd hg (.slice a n cap)) 37) (.cells (roomC wd2 hg2 (.slice b m cbp)) 37)) ?_
      rintro W ⟨h0, h1, hb⟩
      generalize w.heap.size + 1 = b1 at *
      have H0 := Lib.hid h0
      have H1 := Lib.hid h1
      obtain ⟨x0, x1, x2⟩ := room_cells h0
      obtain ⟨y0, y1, y2⟩ := room_cells h1
      clear h0 h1
      clear H0 H1
      go_wp2
      go_ret
      exact ⟨rfl, hb⟩
  · clear hne
    go_enter Try.func15, Try.ntmps15
    go_upto_region 1 with (fail)
    refine abs_world (fun W => W.heap[w.heap.size]? = some (.cells (roomC wd hg (.slice a n cap)) 37 (0, 0)) ∧ W.heap[w.heap.size + 1]? = some (.cells (roomC wd2 hg2 (.slice b m cbp)) 37 (0, 0)) ∧ Below w.heap.size w W) (box2 w (.cells (roomC wd hg (.slice a n cap)) 37) (.cells (roomC wd2 hg2 (.slice b m cbp)) 37)) ?_
    rintro W ⟨h0, h1, hb⟩
    generalize w.heap.size + 1 = b1 at *
    have H0 := Lib.hid h0
    have H1 := Lib.hid h1
    obtain ⟨x0, x1, x2⟩ := room_cells h0
    obtain ⟨y0, y1, y2⟩ := room_cells h1
    clear h0 h1
    clear H0 H1
    go_wp2
    go_ret
    exact ⟨rfl, hb⟩

set_option maxRecDepth 100000 in
set_option maxHeartbeats 1000000 in
theorem sSameRoom_yes (wd hg : Int) (a : Option Addr) (n cap : Nat) (xs : List Wn) (b : Option Addr) (cbp : Nat) (ys : List Wn) (w : World) (hx : WinsAt w (.slice a n cap) xs) (hy : WinsAt w (.slice b n cbp) ys) :
    Calls Try.prog 15 #[.agg (roomC wd hg (.slice a n cap)), .agg (roomC wd hg (.slice b n cbp))] w fun e w' => e = .returned (.bool (allZ sWn xs ys)) ∧ Below w.heap.size w w' := by
  have HX := Lib.hid hx
  have HY := Lib.hid hy
  obtain ⟨n1, n2, n3⟩ := wins_len hx
  obtain ⟨m1, m2, m3⟩ := wins_len hy
  unfold maxLen at n3 m3
  have HN1 := Lib.hid n1
  have HM1 := Lib.hid m1
  have HX0 := Lib.hid hx
  have HY0 := Lib.hid hy
  clear hx hy n1 m1
  have z1 : (wd != wd) = false := by simp
  have z2 : (hg != hg) = false := by simp
  have z3 : ((n : Int) != (n : Int)) = false := by simp
  go_enter Try.func15, Try.ntmps15
  go_upto_region 1 with (fail)
  refine abs_world (fun W => W.heap[w.heap.size]? = some (.cells (roomC wd hg (.slice a n cap)) 37 (0, 0)) ∧ W.heap[w.heap.size + 1]? = some (.cells (roomC wd hg (.slice b n cbp)) 37 (0, 0)) ∧ Below w.heap.size w W) (box2 w (.cells (roomC wd hg (.slice a n cap)) 37) (.cells (roomC wd hg (.slice b n cbp)) 37)) ?_
  rintro W ⟨h0, h1, hb⟩
  generalize w.heap.size + 1 = b1 at *
  have H0 := Lib.hid h0
  have H1 := Lib.hid h1
  replace HX := Lib.hid (wins_below HX.out hb)
  replace HY := Lib.hid (wins_below HY.out hb)
  obtain ⟨x0, x1, x2⟩ := room_cells h0
  obtain ⟨y0, y1, y2⟩ := room_cells h1
  clear h0 h1
  go_wp2
  go_loopw [5] (fun i wr => ∃ k : Nat, k ≤ n ∧ i = .int .i64 k ∧ allZ sWn (xs.take k) (ys.take k) = true ∧ Below w.heap.size w wr ∧ wr.heap[w.heap.size]? = some (.cells (roomC wd hg (.slice a n cap)) 37 (0, 0)) ∧ wr.heap[b1]? = some (.cells (roomC wd hg (.slice b n cbp)) 37 (0, 0))) (fun i _ => n - (intOf i).toNat)
  case atStart => exact ⟨0, Nat.zero_le _, rfl, rfl, hb, H0.out, H1.out⟩
  case round =>
    clear H0 H1 hb x0 x1 x2 y0 y1 y2 HX HY
    obtain ⟨k, hk, rfl, hs, hb, h0, h1⟩ := hrel
    have HS := Lib.hid hs
    have HX := Lib.hid (wins_below HX0.out hb)
    have HY := Lib.hid (wins_below HY0.out hb)
    have H0 := Lib.hid h0
    have H1 := Lib.hid h1
    obtain ⟨_, _, x2⟩ := room_cells h0
    obtain ⟨_, _, y2⟩ := room_cells h1
    clear hs h0 h1
    by_cases hlt : k < n
    · have hx : xs[k]? = some (xs[k]'(by rw [← HN1.out]; exact hlt)) := List.getElem?_eq_getElem _
      have hy : ys[k]? = some (ys[k]'(by rw [← HM1.out]; exact hlt)) := List.getElem?_eq_getElem _
      generalize (xs[k]'(by rw [← HN1.out]; exact hlt)) = x at *
      generalize (ys[k]'(by rw [← HM1.out]; exact hlt)) = y at *
      obtain ⟨g, o, rfl, hc1⟩ := win_at HX.out hx
      obtain ⟨g', o', rfl, hc2⟩ := win_at HY.out hy
      have C1 := Lib.hid hc1
      have C2 := Lib.hid hc2
      have KX := Lib.hid hx
      have KY := Lib.hid hy
      have z4 : (k : Int) < (n : Int) := by omega
      have z5 : (0 : Int) ≤ (k : Int) := by omega
      have z6 : decide ((k : Int) < (n : Int)) = true := decide_eq_true z4
      clear hc1 hc2 hx hy
      go_upto_region 7 with (first | (refine wpList_load_cells rfl 87 _ rfl g (o + k * 3) 3 rfl _ Try.underlying87 rfl info_win (winC x) rfl C1.out ?_) | (refine wpList_store_part rfl 87 _ _ rfl _ 0 (winC x) rfl rfl 87 _ (heap_alloc_new _ _) (by kernel_rfl) (Nat.le_refl _) (win_one _) ?_; rw [laid_allr _ _ (by rfl)]))
      refine abs_world (fun V => Below wr.heap.size wr V ∧ V.heap[wr.heap.size]? = some (.cells (winC x) 87 (0, 0))) ⟨below_setRow ((Below.refl _ _).alloc (Nat.le_refl _) _) (Nat.le_refl _) _, setRow_heap _ _ _ _ _ _ (heap_alloc_new _ _)⟩ ?_
      rintro xbW ⟨hb1, h9⟩
      replace C2 := Lib.hid ((fun j v h => cell_below hb1 (C2.out j v h)))
      replace H0 := Lib.hid (below_row hb1 H0.out)
      replace H1 := Lib.hid (below_row hb1 H1.out)
      replace y2 := cell_belowB hb1 y2
      replace hb := hb.trans (hb1.mono hb.size)
      have R1 := Lib.hid h9
      clear hb1 h9
      generalize wr.heap.size = xb at *
      go_upto_region 8 with (first | (refine wpList_load_cells rfl 87 _ rfl g' (o' + k * 3) 3 rfl _ Try.underlying87 rfl info_win (winC y) rfl C2.out ?_) | (refine wpList_store_part rfl 87 _ _ rfl _ 0 (winC y) rfl rfl 87 _ (heap_alloc_new _ _) (by kernel_rfl) (Nat.le_refl _) (win_one _) ?_; rw [laid_allr _ _ (by rfl)]))
      refine abs_world (fun V => Below xbW.heap.size xbW V ∧ V.heap[xbW.heap.size]? = some (.cells (winC y) 87 (0, 0))) ⟨below_setRow ((Below.refl _ _).alloc (Nat.le_refl _) _) (Nat.le_refl _) _, setRow_heap _ _ _ _ _ _ (heap_alloc_new _ _)⟩ ?_
      rintro ybW ⟨hb1, h9⟩
      replace R1 := Lib.hid (below_row hb1 R1.out)
      replace H0 := Lib.hid (below_row hb1 H0.out)
      replace H1 := Lib.hid (below_row hb1 H1.out)
      replace hb := hb.trans (hb1.mono hb.size)
      have R2 := Lib.hid h9
      clear hb1 h9
      generalize xbW.heap.size = yb at *
      obtain ⟨p0, p1, p2⟩ := win_cells R1.out
      obtain ⟨q0, q1, q2⟩ := win_cells R2.out
      clear x2 y2 C1 C2 R1 R2
      have HN := Lib.hid (fun w => l01Same_is x.2.2 y.2.2 w)
      cases e1 : (x.1 != y.1)
      · cases e2 : (x.2.1 != y.2.1)
        · cases e3 : sameB x.2.2 y.2.2
          · have HM := Lib.hid (allZ_miss sWn KX.out KY.out (by unfold sWn; rw [e3, Bool.and_false]))
            unfold Hid at HN
            rw [e3] at HN
            have HN2 := Lib.hid HN
            clear HN e3
            go_wp2_with (go_at_call 45; refine (HN2.out _).mono ?_; rintro e w7 ⟨rfl, rfl⟩)
            go_ret
            exact ⟨ret_boolS HM.out.symm, hb⟩
          · have HB : Hid (sWn x y = true) := by
              unfold Hid sWn
              rw [e3, show (x.1 == y.1) = true by simpa using e1, show (x.2.1 == y.2.1) = true by simpa using e2]; rfl
            unfold Hid at HN
            rw [e3] at HN
            have HN2 := Lib.hid HN
            clear HN e3
            go_wp2_with (go_at_call 45; refine (HN2.out _).mono ?_; rintro e w7 ⟨rfl, rfl⟩)
            go_roundw
            case rel => exact ⟨k + 1, by omega, by go_num, by rw [allZ_take sWn KX.out KY.out, HS.out, HB.out]; rfl, hb, H0.out, H1.out⟩
            case measure => simp [intOf]; omega
        · have HM := Lib.hid (allZ_miss sWn KX.out KY.out (by unfold sWn; rw [show (x.2.1 == y.2.1) = false by simpa using e2]; simp))
          clear HN
          go_wp2
          go_ret
          exact ⟨ret_boolS HM.out.symm, hb⟩
      · have HM := Lib.hid (allZ_miss sWn KX.out KY.out (by unfold sWn; rw [show (x.1 == y.1) = false by simpa using e1]; simp))
        clear HN
        go_wp2
        go_ret
        exact ⟨ret_boolS HM.out.symm, hb⟩
    · obtain rfl : k = n := by omega
      have HE : Hid (allZ sWn xs ys = true) := by
        unfold Hid
        have h := HS.out
        rwa [List.take_of_length_le (by rw [← HN1.out]; exact Nat.le_refl _), List.take_of_length_le (by rw [← HM1.out]; exact Nat.le_refl _)] at h
      go_wp2
      go_ret
      exact ⟨ret_boolS HE.out.symm, hb⟩

theorem specSameRoom_any (wd hg : Int) (sv : Value) (xs : List Wn) (wd2 hg2 : Int) (sv2 : Value) (ys : List Wn) (w : World) (hx : WinsAt w sv xs) (hy : WinsAt w sv2 ys) :
    Calls Try.prog 15 #[.agg (roomC wd hg sv), .agg (roomC wd2 hg2 sv2)] w fun e w' => e = .returned (.bool (sRm wd hg wd2 hg2 xs ys)) ∧ Below w.heap.size w w' := by
  have hx' := hx
  have hy' := hy
  obtain ⟨a, cap, rfl, _, _, _⟩ := hx'
  obtain ⟨b, cbp, rfl, _, _, _⟩ := hy'
  by_cases h : wd = wd2 ∧ hg = hg2 ∧ xs.length = ys.length
  · obtain ⟨rfl, rfl, h3⟩ := h
    rw [show sRm wd hg wd hg xs ys = allZ sWn xs ys by unfold sRm sWs; rw [h3]; simp]
    rw [← h3] at hy ⊢
    exact sSameRoom_yes wd hg a _ cap xs b cbp ys w hx hy
  · rw [show sRm wd hg wd2 hg2 xs ys = false by
      unfold sRm sWs
      by_cases h1 : wd = wd2
      · by_cases h2 : hg = hg2
        · have h3 : ¬ xs.length = ys.length := fun e => h ⟨h1, h2, e⟩
          simp [h3]
        · simp [h2]
      · simp [h1]]
    exact sSameRoom_no wd hg a _ cap xs wd2 hg2 b _ cbp ys w hx hy h

end Go.Proofs.Ytnienahjfocalab
