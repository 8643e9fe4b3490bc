/-
  FwL, FwF, YrG, BpA, SameN, FlA, YrA.
-/
import Derived.Test.YtmniodfdoidffaaGreatDoorMz4
import Derived.Test.YtmniodfdoidffaaGreatDoorLawH
import Derived.Test.YtmniodfdoidffaaGreatDoorMz1
import Derived.Test.YtmniodfdoidffaaGreatDoorMul
import Derived.Test.YtmniodfdoidffaaGreatDoorMz3
import Derived.Test.YtmniodfdoidffaaGreatDoorSgn
import Derived.Test.YtmniodfdoidffaaGreatDoorRows
import Derived.Test.YtmniodfdoidffaaGreatDoorLaw
import Derived.Deep.Slices
import Derived.Deep.OwnRows

namespace Go.Proofs.YtmniodfdoidffaaGreatDoor
open Go.ChangeShapes Go.WideShapes Go.ChangeAt Go.RowKit Go.Deep Go.Joins

attribute [local go_sem] run_store_f

set_option maxRecDepth 100000 in
set_option maxHeartbeats 2000000 in
theorem eqPlan_same (xs : List Int) (hx : xs.length = 24) (w : World) :
    Calls Tryz.prog 9 #[.agg (i16s xs), .agg (i16s xs)] w fun e w' => e = .returned (.bool true) ∧ Below w.heap.size w w' := by
  have Hx := Lib.hid hx
  clear hx
  go_enter Tryz.func9, Tryz.ntmps9
  go_upto_region 1 with (fail)
  refine abs_code (fun W => W.heap[w.heap.size]? = some (.cells (i16s xs) 30 (0, 0)) ∧ W.heap[w.heap.size + 1]? = some (.cells (i16s xs) 30 (0, 0)) ∧ Below w.heap.size w W) ⟨(two_newQ _ _ _).1, (two_newQ _ _ _).2.1, (two_newQ _ _ _).2.2⟩ ?_
  rintro W ⟨h0, h1, hb⟩
  generalize w.heap.size + 1 = b1 at *
  have H0 := Lib.hid h0
  have H1 := Lib.hid h1
  clear h0 h1
  go_wp2
  go_loopw [5] (fun i wr => ∃ k : Nat, k ≤ 24 ∧ i = .int .i64 k ∧ Below w.heap.size w wr ∧ wr.heap[w.heap.size]? = some (.cells (i16s xs) 30 (0, 0)) ∧ wr.heap[b1]? = some (.cells (i16s xs) 30 (0, 0))) (fun i _ => 24 - (intOf i).toNat)
  case atStart => exact ⟨0, Nat.zero_le _, rfl, hb, H0.out, H1.out⟩
  case round =>
    clear hb H0 H1
    obtain ⟨k, hk, rfl, hb, h0, h1⟩ := hrel
    have H0 := Lib.hid h0
    have H1 := Lib.hid h1
    by_cases hlt : k < 24
    · have c0 := cell_of_i16s h0 k (by rw [Hx.out]; exact hlt)
      have c1 := cell_of_i16s h1 k (by rw [Hx.out]; exact hlt)
      have z1 : (k : Int) < 24 := by omega
      have z2 : (0 : Int) ≤ (k : Int) := by omega
      clear h0 h1
      go_wp2
      go_quiet (fail)
      go_wp2
      go_roundw
      case rel => exact ⟨k + 1, by omega, by go_num, ⟨hb.os, hb.tape, hb.output, hb.size, hb.block⟩, H0.out, H1.out⟩
      case measure => simp [intOf]; omega
    · obtain rfl : k = 24 := by omega
      clear h0 h1
      go_wp2
      go_ret
      exact ⟨rfl, hb⟩

set_option maxRecDepth 100000 in
set_option maxHeartbeats 16000000 in
theorem FnExactFewestChanges_core (n : Int) (wd gp : Nat) (t : Int) (sh : Nat) (hs ts : List Int) (hh : hs.length = 24) (ht : ts.length = 24) (fc : Int) (lo hi : Nat) (xp : List Int) (hxp : xp.length = 24) (v1 : Int) (v2 : Int)
    (hspec : ∀ w, Calls Tryz.prog 5 #[.agg (blindC n wd gp t sh), .agg (sunC hs ts), .int .i64 fc, .float .f32 lo, .float .f32 hi] w fun e w' => e = .returned (.tuple #[.agg (i16s xp), .int .i64 v1, .int .i64 v2]) ∧ Below w.heap.size w w')
    (himpl : ∀ w, ErrT w → Calls Tryz.prog 8 #[.agg (blindC n wd gp t sh), .agg (sunC hs ts), .int .i64 fc, .float .f32 lo, .float .f32 hi] w fun e w' => e = .returned (.tuple #[.agg (i16s xp), .int .i64 v1, .int .i64 v2]) ∧ Below w.heap.size w w') (w : World) (hE : ErrT w) :
    Calls Tryz.prog 3 #[.agg (blindC n wd gp t sh), .agg (sunC hs ts), .int .i64 fc, .float .f32 lo, .float .f32 hi] w fun e w' => e = .returned (.bool true) ∧ Below w.heap.size w w' := by
  have HS := Lib.hid hspec
  have HI := Lib.hid himpl
  have Hxp := Lib.hid hxp
  have Hh := Lib.hid hh
  have Ht := Lib.hid ht
  have HX := Lib.hid hE
  have zc0 : (v2 != v2) = false := by simp
  have zc1 : (v1 != v1) = false := by simp
  clear hspec himpl hxp hh ht hE
  go_enter Tryz.func3, Tryz.ntmps3
  go_upto_region 1 with (fail)
  refine abs_code (fun W => W.heap[w.heap.size]? = some (.cells (blindC n wd gp t sh) 26 (0, 0)) ∧ W.heap[w.heap.size + 1]? = some (.cells (sunC hs ts) 29 (0, 0)) ∧ Below w.heap.size w W) ⟨(two_newQ _ _ _).1, (two_newQ _ _ _).2.1, (two_newQ _ _ _).2.2⟩ ?_
  rintro W ⟨h0, h1, hb⟩
  generalize w.heap.size + 1 = b1 at *
  have H0 := Lib.hid h0
  have H1 := Lib.hid h1
  clear h0 h1
  go_cut [11, 12, 13] (fun s sa sb wx => ∃ g : Nat, s = .pointer (some ⟨g, 0, none⟩) ∧ sa = .int .i64 v1 ∧ sb = .int .i64 v2 ∧ W.heap.size ≤ g ∧ wx.heap[g]? = some (.cells (i16s xp) 30 (0, 0)) ∧ Below W.heap.size W wx)
  case first =>
    refine wp_region_held_drew (S := (fun V => Below W.heap.size W V)) (by kernel_rfl) (Below.refl _ _).drew (fun hHeld => ?_)
    generalize W.drew = Y0 at *
    refine take_op (i := 0) (d := 18) (v := .agg (blindC n wd gp t sh)) rfl rfl (by kernel_rfl) (by kernel_rfl) (by kernel_rfl) (fun _ _ _ h => h) (yields_row (by rfl) 26 (.tmp 5) (by rfl) w.heap.size 0 5 (by rfl) 26 (blindC n wd gp t sh) (0, 0) _ (fun _ h => below_row h H0.out) Tryz.underlying26 rfl info_blindL (blind_fits _ _ _ _ _) (blindC n wd gp t sh) (blind_all _ _ _ _ _)) hHeld ?_
    simp only [List.setIfInBounds_toArray, List.set_cons_zero, List.set_cons_succ]
    refine take_op (i := 2) (d := 20) (v := .agg (sunC hs ts)) rfl rfl (by kernel_rfl) (by kernel_rfl) (by kernel_rfl) (fun _ _ _ h => h) (yields_row (by rfl) 29 (.tmp 6) (by rfl) b1 0 48 (by rfl) 29 (sunC hs ts) (0, 0) _ (fun _ h => below_row h H1.out) Tryz.underlying29 rfl info_sunL (sun_fits _ _ Hh.out Ht.out) (sunC hs ts) (sun_all _ _ Hh.out Ht.out)) hHeld ?_
    simp only [List.setIfInBounds_toArray, List.set_cons_zero, List.set_cons_succ]
    refine take_op (i := 4) (d := 22) (v := ?_) rfl rfl (by kernel_rfl) (by kernel_rfl) (by kernel_rfl) (fun _ _ _ h => h) (Or.inl ⟨by rfl, ?hy4u245⟩) hHeld ?rest4u245
    case hy4u245 =>
      intro w' hS'
      go_simp
      try with_reducible rfl
    simp only [List.setIfInBounds_toArray, List.set_cons_zero, List.set_cons_succ]
    refine take_op (i := 5) (d := 23) (v := ?_) rfl rfl (by kernel_rfl) (by kernel_rfl) (by kernel_rfl) (fun _ _ _ h => h) (Or.inl ⟨by rfl, ?hy5u246⟩) hHeld ?rest5u246
    case hy5u246 =>
      intro w' hS'
      go_simp
      try with_reducible rfl
    simp only [List.setIfInBounds_toArray, List.set_cons_zero, List.set_cons_succ]
    refine take_op (i := 6) (d := 24) (v := ?_) rfl rfl (by kernel_rfl) (by kernel_rfl) (by kernel_rfl) (fun _ _ _ h => h) (Or.inl ⟨by rfl, ?hy6u247⟩) hHeld ?rest6u247
    case hy6u247 =>
      intro w' hS'
      go_simp
      try with_reducible rfl
    simp only [List.setIfInBounds_toArray, List.set_cons_zero, List.set_cons_succ]
    refine wpAnyH_ready (rs := [1, 12]) (by kernel_rfl) (by simp) ?_
    refine AllReadyH.cons rfl (fun K hK => ?_) (AllReadyH.cons rfl (fun K hK => ?_) (AllReadyH.nil))
    · go_simp
      refine (toBlind_any _ _ _ _ _ _).mono ?_
      rintro e Y1a ⟨rfl, hb1⟩
      refine hK.out _ _ (hHeld.trans (hb1.mono hHeld.size)) (fun hHeld2 => ?_)
      clear hK K
      replace hHeld := hHeld2
      clear hHeld2
      clear hb1
      refine wpAnyH_ready (rs := [3, 12]) (by kernel_rfl) (by simp) ?_
      refine AllReadyH.cons rfl (fun K hK => ?_) (AllReadyH.cons rfl (fun K hK => ?_) (AllReadyH.nil))
      · go_simp
        refine (toSun_any hs ts Hh.out Ht.out _).mono ?_
        rintro e Y2a ⟨rfl, hb1⟩
        refine hK.out _ _ (hHeld.trans (hb1.mono hHeld.size)) (fun hHeld2 => ?_)
        clear hK K
        replace hHeld := hHeld2
        clear hHeld2
        clear hb1
        refine wpAnyH_ready (rs := [7, 12]) (by kernel_rfl) (by simp) ?_
        refine AllReadyH.cons rfl (fun K hK => ?_) (AllReadyH.cons rfl (fun K hK => ?_) (AllReadyH.nil))
        · go_simp
          refine (HS.out _).mono ?_
          rintro e Y3a ⟨rfl, hb1⟩
          refine hK.out _ _ (hHeld.trans (hb1.mono hHeld.size)) (fun hHeld2 => ?_)
          clear hK K
          replace hHeld := hHeld2
          clear hHeld2
          clear hb1
          refine take_op (i := 8) (d := 17) (v := ?_) rfl rfl (by kernel_rfl) (by kernel_rfl) (by kernel_rfl) (fun _ _ _ h => h) (Or.inl ⟨by rfl, ?hy8u248⟩) hHeld ?rest8u248
          case hy8u248 =>
            intro w' hS'
            go_simp
            try with_reducible rfl
          simp only [List.setIfInBounds_toArray, List.set_cons_zero, List.set_cons_succ]
          refine take_op (i := 9) (d := 26) (v := ?_) rfl rfl (by kernel_rfl) (by kernel_rfl) (by kernel_rfl) (fun _ _ _ h => h) (Or.inl ⟨by rfl, ?hy9u249⟩) hHeld ?rest9u249
          case hy9u249 =>
            intro w' hS'
            go_simp
            try with_reducible rfl
          simp only [List.setIfInBounds_toArray, List.set_cons_zero, List.set_cons_succ]
          refine take_op (i := 10) (d := 27) (v := ?_) rfl rfl (by kernel_rfl) (by kernel_rfl) (by kernel_rfl) (fun _ _ _ h => h) (Or.inl ⟨by rfl, ?hy10u250⟩) hHeld ?rest10u250
          case hy10u250 =>
            intro w' hS'
            go_simp
            try with_reducible rfl
          simp only [List.setIfInBounds_toArray, List.set_cons_zero, List.set_cons_succ]
          refine take_op (i := 11) (d := 28) (v := ?_) rfl rfl (by kernel_rfl) (by kernel_rfl) (by kernel_rfl) (fun _ _ _ h => h) (Or.inl ⟨by rfl, ?hy11u251⟩) hHeld ?rest11u251
          case hy11u251 =>
            intro w' hS'
            go_simp
            try with_reducible rfl
          simp only [List.setIfInBounds_toArray, List.set_cons_zero, List.set_cons_succ]
          refine wpAnyH_ready (rs := [12]) (by kernel_rfl) (by simp) ?_
          refine AllReadyH.cons rfl (fun K hK => ?_) (AllReadyH.nil)
          go_simp
          obtain ⟨g, hq⟩ : ∃ g, g = Y3a.heap.size := ⟨_, rfl⟩
          rw [← hq]
          refine hK.out _ (Y3a.alloc (.cells (i16s zP) 30 (0, 0))) (hHeld.alloc hHeld.size _) (fun hHeld2 => ?_)
          have HB : Hid ((Y3a.alloc (.cells (i16s zP) 30 (0, 0))).heap[g]? = some (.cells (i16s zP) 30 (0, 0))) := Lib.hid (by rw [hq]; exact heap_alloc_new _ _)
          have hlg : W.heap.size ≤ g := by rw [hq]; exact hHeld.size
          clear hK K hHeld hq
          have hHeld := hHeld2
          clear hHeld2
          generalize (Y3a.alloc (.cells (i16s zP) 30 (0, 0))) = Y4a at *
          have hxp : xp.length = 24 := Hxp.out
          have hst := run_store_rowC (P := Tryz.prog) _ g 30 (i16s xp) _ HB.out (by rw [i16s_size, i16s_size, Hxp.out]; rfl) (i16s_one _)
          refine wpAnyH_ready (rs := [13]) (by kernel_rfl) (by simp) ?_
          refine AllReadyH.cons rfl (fun K hK => ?_) AllReadyH.nil
          go_simp
          refine hK.out _ _ (below_setRow hHeld hlg _) (fun hHeld2 => ?_)
          clear hK K hst hxp
          have HR := Lib.hid (setRow_heap _ _ _ (i16s xp) _ _ HB.out)
          clear hHeld HB
          have hHeld := hHeld2
          clear hHeld2
          refine take_op (i := 14) (d := 12) (v := ?_) rfl rfl (by kernel_rfl) (by kernel_rfl) (by kernel_rfl) (fun _ _ _ h => h) (Or.inl ⟨by rfl, ?hy14u252⟩) hHeld ?rest14u252
          case hy14u252 =>
            intro w' hS'
            go_simp
            try with_reducible rfl
          simp only [List.setIfInBounds_toArray, List.set_cons_zero, List.set_cons_succ]
          refine take_op (i := 15) (d := 13) (v := ?_) rfl rfl (by kernel_rfl) (by kernel_rfl) (by kernel_rfl) (fun _ _ _ h => h) (Or.inl ⟨by rfl, ?hy15u253⟩) hHeld ?rest15u253
          case hy15u253 =>
            intro w' hS'
            go_simp
            try with_reducible rfl
          simp only [List.setIfInBounds_toArray, List.set_cons_zero, List.set_cons_succ]
          refine wpAnyH_done (by kernel_rfl) ?_ _
          go_wp2
          go_meet
          case rel => exact ⟨g, rfl, rfl, rfl, hlg, HR.out, hHeld⟩
        · go_simp
          obtain ⟨g, hq⟩ : ∃ g, g = Y2a.heap.size := ⟨_, rfl⟩
          rw [← hq]
          refine hK.out _ (Y2a.alloc (.cells (i16s zP) 30 (0, 0))) (hHeld.alloc hHeld.size _) (fun hHeld2 => ?_)
          have HB : Hid ((Y2a.alloc (.cells (i16s zP) 30 (0, 0))).heap[g]? = some (.cells (i16s zP) 30 (0, 0))) := Lib.hid (by rw [hq]; exact heap_alloc_new _ _)
          have hlg : W.heap.size ≤ g := by rw [hq]; exact hHeld.size
          clear hK K hHeld hq
          have hHeld := hHeld2
          clear hHeld2
          generalize (Y2a.alloc (.cells (i16s zP) 30 (0, 0))) = Y5a at *
          refine wpAnyH_ready (rs := [7]) (by kernel_rfl) (by simp) ?_
          refine AllReadyH.cons rfl (fun K hK => ?_) (AllReadyH.nil)
          go_simp
          refine (HS.out _).mono ?_
          rintro e Y6a ⟨rfl, hb1⟩
          refine hK.out _ _ (hHeld.trans (hb1.mono hHeld.size)) (fun hHeld2 => ?_)
          clear hK K
          replace hHeld := hHeld2
          clear hHeld2
          replace HB := Lib.hid (below_row hb1 HB.out)
          clear hb1
          refine take_op (i := 8) (d := 17) (v := ?_) rfl rfl (by kernel_rfl) (by kernel_rfl) (by kernel_rfl) (fun _ _ _ h => h) (Or.inl ⟨by rfl, ?hy8u254⟩) hHeld ?rest8u254
          case hy8u254 =>
            intro w' hS'
            go_simp
            try with_reducible rfl
          simp only [List.setIfInBounds_toArray, List.set_cons_zero, List.set_cons_succ]
          refine take_op (i := 9) (d := 26) (v := ?_) rfl rfl (by kernel_rfl) (by kernel_rfl) (by kernel_rfl) (fun _ _ _ h => h) (Or.inl ⟨by rfl, ?hy9u255⟩) hHeld ?rest9u255
          case hy9u255 =>
            intro w' hS'
            go_simp
            try with_reducible rfl
          simp only [List.setIfInBounds_toArray, List.set_cons_zero, List.set_cons_succ]
          refine take_op (i := 10) (d := 27) (v := ?_) rfl rfl (by kernel_rfl) (by kernel_rfl) (by kernel_rfl) (fun _ _ _ h => h) (Or.inl ⟨by rfl, ?hy10u256⟩) hHeld ?rest10u256
          case hy10u256 =>
            intro w' hS'
            go_simp
            try with_reducible rfl
          simp only [List.setIfInBounds_toArray, List.set_cons_zero, List.set_cons_succ]
          refine take_op (i := 11) (d := 28) (v := ?_) rfl rfl (by kernel_rfl) (by kernel_rfl) (by kernel_rfl) (fun _ _ _ h => h) (Or.inl ⟨by rfl, ?hy11u257⟩) hHeld ?rest11u257
          case hy11u257 =>
            intro w' hS'
            go_simp
            try with_reducible rfl
          simp only [List.setIfInBounds_toArray, List.set_cons_zero, List.set_cons_succ]
          have hxp : xp.length = 24 := Hxp.out
          have hst := run_store_rowC (P := Tryz.prog) _ g 30 (i16s xp) _ HB.out (by rw [i16s_size, i16s_size, Hxp.out]; rfl) (i16s_one _)
          refine wpAnyH_ready (rs := [13]) (by kernel_rfl) (by simp) ?_
          refine AllReadyH.cons rfl (fun K hK => ?_) AllReadyH.nil
          go_simp
          refine hK.out _ _ (below_setRow hHeld hlg _) (fun hHeld2 => ?_)
          clear hK K hst hxp
          have HR := Lib.hid (setRow_heap _ _ _ (i16s xp) _ _ HB.out)
          clear hHeld HB
          have hHeld := hHeld2
          clear hHeld2
          refine take_op (i := 14) (d := 12) (v := ?_) rfl rfl (by kernel_rfl) (by kernel_rfl) (by kernel_rfl) (fun _ _ _ h => h) (Or.inl ⟨by rfl, ?hy14u258⟩) hHeld ?rest14u258
          case hy14u258 =>
            intro w' hS'
            go_simp
            try with_reducible rfl
          simp only [List.setIfInBounds_toArray, List.set_cons_zero, List.set_cons_succ]
          refine take_op (i := 15) (d := 13) (v := ?_) rfl rfl (by kernel_rfl) (by kernel_rfl) (by kernel_rfl) (fun _ _ _ h => h) (Or.inl ⟨by rfl, ?hy15u259⟩) hHeld ?rest15u259
          case hy15u259 =>
            intro w' hS'
            go_simp
            try with_reducible rfl
          simp only [List.setIfInBounds_toArray, List.set_cons_zero, List.set_cons_succ]
          refine wpAnyH_done (by kernel_rfl) ?_ _
          go_wp2
          go_meet
          case rel => exact ⟨g, rfl, rfl, rfl, hlg, HR.out, hHeld⟩
      · go_simp
        obtain ⟨g, hq⟩ : ∃ g, g = Y1a.heap.size := ⟨_, rfl⟩
        rw [← hq]
        refine hK.out _ (Y1a.alloc (.cells (i16s zP) 30 (0, 0))) (hHeld.alloc hHeld.size _) (fun hHeld2 => ?_)
        have HB : Hid ((Y1a.alloc (.cells (i16s zP) 30 (0, 0))).heap[g]? = some (.cells (i16s zP) 30 (0, 0))) := Lib.hid (by rw [hq]; exact heap_alloc_new _ _)
        have hlg : W.heap.size ≤ g := by rw [hq]; exact hHeld.size
        clear hK K hHeld hq
        have hHeld := hHeld2
        clear hHeld2
        generalize (Y1a.alloc (.cells (i16s zP) 30 (0, 0))) = Y7a at *
        refine wpAnyH_ready (rs := [3]) (by kernel_rfl) (by simp) ?_
        refine AllReadyH.cons rfl (fun K hK => ?_) (AllReadyH.nil)
        go_simp
        refine (toSun_any hs ts Hh.out Ht.out _).mono ?_
        rintro e Y8a ⟨rfl, hb1⟩
        refine hK.out _ _ (hHeld.trans (hb1.mono hHeld.size)) (fun hHeld2 => ?_)
        clear hK K
        replace hHeld := hHeld2
        clear hHeld2
        replace HB := Lib.hid (below_row hb1 HB.out)
        clear hb1
        refine wpAnyH_ready (rs := [7]) (by kernel_rfl) (by simp) ?_
        refine AllReadyH.cons rfl (fun K hK => ?_) (AllReadyH.nil)
        go_simp
        refine (HS.out _).mono ?_
        rintro e Y9a ⟨rfl, hb1⟩
        refine hK.out _ _ (hHeld.trans (hb1.mono hHeld.size)) (fun hHeld2 => ?_)
        clear hK K
        replace hHeld := hHeld2
        clear hHeld2
        replace HB := Lib.hid (below_row hb1 HB.out)
        clear hb1
        refine take_op (i := 8) (d := 17) (v := ?_) rfl rfl (by kernel_rfl) (by kernel_rfl) (by kernel_rfl) (fun _ _ _ h => h) (Or.inl ⟨by rfl, ?hy8u260⟩) hHeld ?rest8u260
        case hy8u260 =>
          intro w' hS'
          go_simp
          try with_reducible rfl
        simp only [List.setIfInBounds_toArray, List.set_cons_zero, List.set_cons_succ]
        refine take_op (i := 9) (d := 26) (v := ?_) rfl rfl (by kernel_rfl) (by kernel_rfl) (by kernel_rfl) (fun _ _ _ h => h) (Or.inl ⟨by rfl, ?hy9u261⟩) hHeld ?rest9u261
        case hy9u261 =>
          intro w' hS'
          go_simp
          try with_reducible rfl
        simp only [List.setIfInBounds_toArray, List.set_cons_zero, List.set_cons_succ]
        refine take_op (i := 10) (d := 27) (v := ?_) rfl rfl (by kernel_rfl) (by kernel_rfl) (by kernel_rfl) (fun _ _ _ h => h) (Or.inl ⟨by rfl, ?hy10u262⟩) hHeld ?rest10u262
        case hy10u262 =>
          intro w' hS'
          go_simp
          try with_reducible rfl
        simp only [List.setIfInBounds_toArray, List.set_cons_zero, List.set_cons_succ]
        refine take_op (i := 11) (d := 28) (v := ?_) rfl rfl (by kernel_rfl) (by kernel_rfl) (by kernel_rfl) (fun _ _ _ h => h) (Or.inl ⟨by rfl, ?hy11u263⟩) hHeld ?rest11u263
        case hy11u263 =>
          intro w' hS'
          go_simp
          try with_reducible rfl
        simp only [List.setIfInBounds_toArray, List.set_cons_zero, List.set_cons_succ]
        have hxp : xp.length = 24 := Hxp.out
        have hst := run_store_rowC (P := Tryz.prog) _ g 30 (i16s xp) _ HB.out (by rw [i16s_size, i16s_size, Hxp.out]; rfl) (i16s_one _)
        refine wpAnyH_ready (rs := [13]) (by kernel_rfl) (by simp) ?_
        refine AllReadyH.cons rfl (fun K hK => ?_) AllReadyH.nil
        go_simp
        refine hK.out _ _ (below_setRow hHeld hlg _) (fun hHeld2 => ?_)
        clear hK K hst hxp
        have HR := Lib.hid (setRow_heap _ _ _ (i16s xp) _ _ HB.out)
        clear hHeld HB
        have hHeld := hHeld2
        clear hHeld2
        refine take_op (i := 14) (d := 12) (v := ?_) rfl rfl (by kernel_rfl) (by kernel_rfl) (by kernel_rfl) (fun _ _ _ h => h) (Or.inl ⟨by rfl, ?hy14u264⟩) hHeld ?rest14u264
        case hy14u264 =>
          intro w' hS'
          go_simp
          try with_reducible rfl
        simp only [List.setIfInBounds_toArray, List.set_cons_zero, List.set_cons_succ]
        refine take_op (i := 15) (d := 13) (v := ?_) rfl rfl (by kernel_rfl) (by kernel_rfl) (by kernel_rfl) (fun _ _ _ h => h) (Or.inl ⟨by rfl, ?hy15u265⟩) hHeld ?rest15u265
        case hy15u265 =>
          intro w' hS'
          go_simp
          try with_reducible rfl
        simp only [List.setIfInBounds_toArray, List.set_cons_zero, List.set_cons_succ]
        refine wpAnyH_done (by kernel_rfl) ?_ _
        go_wp2
        go_meet
        case rel => exact ⟨g, rfl, rfl, rfl, hlg, HR.out, hHeld⟩
    · go_simp
      obtain ⟨g, hq⟩ : ∃ g, g = Y0.heap.size := ⟨_, rfl⟩
      rw [← hq]
      refine hK.out _ (Y0.alloc (.cells (i16s zP) 30 (0, 0))) (hHeld.alloc hHeld.size _) (fun hHeld2 => ?_)
      have HB : Hid ((Y0.alloc (.cells (i16s zP) 30 (0, 0))).heap[g]? = some (.cells (i16s zP) 30 (0, 0))) := Lib.hid (by rw [hq]; exact heap_alloc_new _ _)
      have hlg : W.heap.size ≤ g := by rw [hq]; exact hHeld.size
      clear hK K hHeld hq
      have hHeld := hHeld2
      clear hHeld2
      generalize (Y0.alloc (.cells (i16s zP) 30 (0, 0))) = Y10a at *
      refine wpAnyH_ready (rs := [1]) (by kernel_rfl) (by simp) ?_
      refine AllReadyH.cons rfl (fun K hK => ?_) (AllReadyH.nil)
      go_simp
      refine (toBlind_any _ _ _ _ _ _).mono ?_
      rintro e Y11a ⟨rfl, hb1⟩
      refine hK.out _ _ (hHeld.trans (hb1.mono hHeld.size)) (fun hHeld2 => ?_)
      clear hK K
      replace hHeld := hHeld2
      clear hHeld2
      replace HB := Lib.hid (below_row hb1 HB.out)
      clear hb1
      refine wpAnyH_ready (rs := [3]) (by kernel_rfl) (by simp) ?_
      refine AllReadyH.cons rfl (fun K hK => ?_) (AllReadyH.nil)
      go_simp
      refine (toSun_any hs ts Hh.out Ht.out _).mono ?_
      rintro e Y12a ⟨rfl, hb1⟩
      refine hK.out _ _ (hHeld.trans (hb1.mono hHeld.size)) (fun hHeld2 => ?_)
      clear hK K
      replace hHeld := hHeld2
      clear hHeld2
      replace HB := Lib.hid (below_row hb1 HB.out)
      clear hb1
      refine wpAnyH_ready (rs := [7]) (by kernel_rfl) (by simp) ?_
      refine AllReadyH.cons rfl (fun K hK => ?_) (AllReadyH.nil)
      go_simp
      refine (HS.out _).mono ?_
      rintro e Y13a ⟨rfl, hb1⟩
      refine hK.out _ _ (hHeld.trans (hb1.mono hHeld.size)) (fun hHeld2 => ?_)
      clear hK K
      replace hHeld := hHeld2
      clear hHeld2
      replace HB := Lib.hid (below_row hb1 HB.out)
      clear hb1
      refine take_op (i := 8) (d := 17) (v := ?_) rfl rfl (by kernel_rfl) (by kernel_rfl) (by kernel_rfl) (fun _ _ _ h => h) (Or.inl ⟨by rfl, ?hy8u266⟩) hHeld ?rest8u266
      case hy8u266 =>
        intro w' hS'
        go_simp
        try with_reducible rfl
      simp only [List.setIfInBounds_toArray, List.set_cons_zero, List.set_cons_succ]
      refine take_op (i := 9) (d := 26) (v := ?_) rfl rfl (by kernel_rfl) (by kernel_rfl) (by kernel_rfl) (fun _ _ _ h => h) (Or.inl ⟨by rfl, ?hy9u267⟩) hHeld ?rest9u267
      case hy9u267 =>
        intro w' hS'
        go_simp
        try with_reducible rfl
      simp only [List.setIfInBounds_toArray, List.set_cons_zero, List.set_cons_succ]
      refine take_op (i := 10) (d := 27) (v := ?_) rfl rfl (by kernel_rfl) (by kernel_rfl) (by kernel_rfl) (fun _ _ _ h => h) (Or.inl ⟨by rfl, ?hy10u268⟩) hHeld ?rest10u268
      case hy10u268 =>
        intro w' hS'
        go_simp
        try with_reducible rfl
      simp only [List.setIfInBounds_toArray, List.set_cons_zero, List.set_cons_succ]
      refine take_op (i := 11) (d := 28) (v := ?_) rfl rfl (by kernel_rfl) (by kernel_rfl) (by kernel_rfl) (fun _ _ _ h => h) (Or.inl ⟨by rfl, ?hy11u269⟩) hHeld ?rest11u269
      case hy11u269 =>
        intro w' hS'
        go_simp
        try with_reducible rfl
      simp only [List.setIfInBounds_toArray, List.set_cons_zero, List.set_cons_succ]
      have hxp : xp.length = 24 := Hxp.out
      have hst := run_store_rowC (P := Tryz.prog) _ g 30 (i16s xp) _ HB.out (by rw [i16s_size, i16s_size, Hxp.out]; rfl) (i16s_one _)
      refine wpAnyH_ready (rs := [13]) (by kernel_rfl) (by simp) ?_
      refine AllReadyH.cons rfl (fun K hK => ?_) AllReadyH.nil
      go_simp
      refine hK.out _ _ (below_setRow hHeld hlg _) (fun hHeld2 => ?_)
      clear hK K hst hxp
      have HR := Lib.hid (setRow_heap _ _ _ (i16s xp) _ _ HB.out)
      clear hHeld HB
      have hHeld := hHeld2
      clear hHeld2
      refine take_op (i := 14) (d := 12) (v := ?_) rfl rfl (by kernel_rfl) (by kernel_rfl) (by kernel_rfl) (fun _ _ _ h => h) (Or.inl ⟨by rfl, ?hy14u270⟩) hHeld ?rest14u270
      case hy14u270 =>
        intro w' hS'
        go_simp
        try with_reducible rfl
      simp only [List.setIfInBounds_toArray, List.set_cons_zero, List.set_cons_succ]
      refine take_op (i := 15) (d := 13) (v := ?_) rfl rfl (by kernel_rfl) (by kernel_rfl) (by kernel_rfl) (fun _ _ _ h => h) (Or.inl ⟨by rfl, ?hy15u271⟩) hHeld ?rest15u271
      case hy15u271 =>
        intro w' hS'
        go_simp
        try with_reducible rfl
      simp only [List.setIfInBounds_toArray, List.set_cons_zero, List.set_cons_succ]
      refine wpAnyH_done (by kernel_rfl) ?_ _
      go_wp2
      go_meet
      case rel => exact ⟨g, rfl, rfl, rfl, hlg, HR.out, hHeld⟩
  case rest =>
    obtain ⟨g1, rfl, rfl, rfl, hl1, hr1, hbx⟩ := hcut
    have G1 := Lib.hid hr1
    replace H0 := Lib.hid (below_row hbx H0.out)
    replace H1 := Lib.hid (below_row hbx H1.out)
    replace hb := hb.trans (hbx.mono hb.size)
    clear hr1 hbx hl1
    go_upto_region 2 with (fail)
    go_cut [14, 15, 16] (fun s sa sb wy => ∃ g : Nat, s = .pointer (some ⟨g, 0, none⟩) ∧ sa = .int .i64 v1 ∧ sb = .int .i64 v2 ∧ wc.heap.size ≤ g ∧ wy.heap[g]? = some (.cells (i16s xp) 30 (0, 0)) ∧ Below wc.heap.size wc wy)
    case first =>
      refine wp_region_held_drew (S := (fun V => Below wc.heap.size wc V)) (by kernel_rfl) (Below.refl _ _).drew (fun hHeld => ?_)
      generalize wc.drew = Y0 at *
      refine take_op (i := 0) (d := 30) (v := .agg (blindC n wd gp t sh)) rfl rfl (by kernel_rfl) (by kernel_rfl) (by kernel_rfl) (fun _ _ _ h => h) (yields_row (by rfl) 26 (.tmp 5) (by rfl) w.heap.size 0 5 (by rfl) 26 (blindC n wd gp t sh) (0, 0) _ (fun _ h => below_row h H0.out) Tryz.underlying26 rfl info_blindL (blind_fits _ _ _ _ _) (blindC n wd gp t sh) (blind_all _ _ _ _ _)) hHeld ?_
      simp only [List.setIfInBounds_toArray, List.set_cons_zero, List.set_cons_succ]
      refine take_op (i := 2) (d := 32) (v := .agg (sunC hs ts)) rfl rfl (by kernel_rfl) (by kernel_rfl) (by kernel_rfl) (fun _ _ _ h => h) (yields_row (by rfl) 29 (.tmp 6) (by rfl) b1 0 48 (by rfl) 29 (sunC hs ts) (0, 0) _ (fun _ h => below_row h H1.out) Tryz.underlying29 rfl info_sunL (sun_fits _ _ Hh.out Ht.out) (sunC hs ts) (sun_all _ _ Hh.out Ht.out)) hHeld ?_
      simp only [List.setIfInBounds_toArray, List.set_cons_zero, List.set_cons_succ]
      refine take_op (i := 4) (d := 34) (v := ?_) rfl rfl (by kernel_rfl) (by kernel_rfl) (by kernel_rfl) (fun _ _ _ h => h) (Or.inl ⟨by rfl, ?hy4u272⟩) hHeld ?rest4u272
      case hy4u272 =>
        intro w' hS'
        go_simp
        try with_reducible rfl
      simp only [List.setIfInBounds_toArray, List.set_cons_zero, List.set_cons_succ]
      refine take_op (i := 5) (d := 35) (v := ?_) rfl rfl (by kernel_rfl) (by kernel_rfl) (by kernel_rfl) (fun _ _ _ h => h) (Or.inl ⟨by rfl, ?hy5u273⟩) hHeld ?rest5u273
      case hy5u273 =>
        intro w' hS'
        go_simp
        try with_reducible rfl
      simp only [List.setIfInBounds_toArray, List.set_cons_zero, List.set_cons_succ]
      refine take_op (i := 6) (d := 36) (v := ?_) rfl rfl (by kernel_rfl) (by kernel_rfl) (by kernel_rfl) (fun _ _ _ h => h) (Or.inl ⟨by rfl, ?hy6u274⟩) hHeld ?rest6u274
      case hy6u274 =>
        intro w' hS'
        go_simp
        try with_reducible rfl
      simp only [List.setIfInBounds_toArray, List.set_cons_zero, List.set_cons_succ]
      refine wpAnyH_ready (rs := [1, 12]) (by kernel_rfl) (by simp) ?_
      refine AllReadyH.cons rfl (fun K hK => ?_) (AllReadyH.cons rfl (fun K hK => ?_) (AllReadyH.nil))
      · go_simp
        refine (toBlind_any _ _ _ _ _ _).mono ?_
        rintro e Y1b ⟨rfl, hb1⟩
        refine hK.out _ _ (hHeld.trans (hb1.mono hHeld.size)) (fun hHeld2 => ?_)
        clear hK K
        replace hHeld := hHeld2
        clear hHeld2
        clear hb1
        refine wpAnyH_ready (rs := [3, 12]) (by kernel_rfl) (by simp) ?_
        refine AllReadyH.cons rfl (fun K hK => ?_) (AllReadyH.cons rfl (fun K hK => ?_) (AllReadyH.nil))
        · go_simp
          refine (toSun_any hs ts Hh.out Ht.out _).mono ?_
          rintro e Y2b ⟨rfl, hb1⟩
          refine hK.out _ _ (hHeld.trans (hb1.mono hHeld.size)) (fun hHeld2 => ?_)
          clear hK K
          replace hHeld := hHeld2
          clear hHeld2
          clear hb1
          refine wpAnyH_ready (rs := [7, 12]) (by kernel_rfl) (by simp) ?_
          refine AllReadyH.cons rfl (fun K hK => ?_) (AllReadyH.cons rfl (fun K hK => ?_) (AllReadyH.nil))
          · go_simp
            refine (HI.out _ (errT_below HX.out (hb.trans (hHeld.mono hb.size)))).mono ?_
            rintro e Y3b ⟨rfl, hb1⟩
            refine hK.out _ _ (hHeld.trans (hb1.mono hHeld.size)) (fun hHeld2 => ?_)
            clear hK K
            replace hHeld := hHeld2
            clear hHeld2
            clear hb1
            refine take_op (i := 8) (d := 29) (v := ?_) rfl rfl (by kernel_rfl) (by kernel_rfl) (by kernel_rfl) (fun _ _ _ h => h) (Or.inl ⟨by rfl, ?hy8u275⟩) hHeld ?rest8u275
            case hy8u275 =>
              intro w' hS'
              go_simp
              try with_reducible rfl
            simp only [List.setIfInBounds_toArray, List.set_cons_zero, List.set_cons_succ]
            refine take_op (i := 9) (d := 38) (v := ?_) rfl rfl (by kernel_rfl) (by kernel_rfl) (by kernel_rfl) (fun _ _ _ h => h) (Or.inl ⟨by rfl, ?hy9u276⟩) hHeld ?rest9u276
            case hy9u276 =>
              intro w' hS'
              go_simp
              try with_reducible rfl
            simp only [List.setIfInBounds_toArray, List.set_cons_zero, List.set_cons_succ]
            refine take_op (i := 10) (d := 39) (v := ?_) rfl rfl (by kernel_rfl) (by kernel_rfl) (by kernel_rfl) (fun _ _ _ h => h) (Or.inl ⟨by rfl, ?hy10u277⟩) hHeld ?rest10u277
            case hy10u277 =>
              intro w' hS'
              go_simp
              try with_reducible rfl
            simp only [List.setIfInBounds_toArray, List.set_cons_zero, List.set_cons_succ]
            refine take_op (i := 11) (d := 40) (v := ?_) rfl rfl (by kernel_rfl) (by kernel_rfl) (by kernel_rfl) (fun _ _ _ h => h) (Or.inl ⟨by rfl, ?hy11u278⟩) hHeld ?rest11u278
            case hy11u278 =>
              intro w' hS'
              go_simp
              try with_reducible rfl
            simp only [List.setIfInBounds_toArray, List.set_cons_zero, List.set_cons_succ]
            refine wpAnyH_ready (rs := [12]) (by kernel_rfl) (by simp) ?_
            refine AllReadyH.cons rfl (fun K hK => ?_) (AllReadyH.nil)
            go_simp
            obtain ⟨g, hq⟩ : ∃ g, g = Y3b.heap.size := ⟨_, rfl⟩
            rw [← hq]
            refine hK.out _ (Y3b.alloc (.cells (i16s zP) 30 (0, 0))) (hHeld.alloc hHeld.size _) (fun hHeld2 => ?_)
            have HB : Hid ((Y3b.alloc (.cells (i16s zP) 30 (0, 0))).heap[g]? = some (.cells (i16s zP) 30 (0, 0))) := Lib.hid (by rw [hq]; exact heap_alloc_new _ _)
            have hlg : wc.heap.size ≤ g := by rw [hq]; exact hHeld.size
            clear hK K hHeld hq
            have hHeld := hHeld2
            clear hHeld2
            generalize (Y3b.alloc (.cells (i16s zP) 30 (0, 0))) = Y4b at *
            have hxp : xp.length = 24 := Hxp.out
            have hst := run_store_rowC (P := Tryz.prog) _ g 30 (i16s xp) _ HB.out (by rw [i16s_size, i16s_size, Hxp.out]; rfl) (i16s_one _)
            refine wpAnyH_ready (rs := [13]) (by kernel_rfl) (by simp) ?_
            refine AllReadyH.cons rfl (fun K hK => ?_) AllReadyH.nil
            go_simp
            refine hK.out _ _ (below_setRow hHeld hlg _) (fun hHeld2 => ?_)
            clear hK K hst hxp
            have HR := Lib.hid (setRow_heap _ _ _ (i16s xp) _ _ HB.out)
            clear hHeld HB
            have hHeld := hHeld2
            clear hHeld2
            refine take_op (i := 14) (d := 15) (v := ?_) rfl rfl (by kernel_rfl) (by kernel_rfl) (by kernel_rfl) (fun _ _ _ h => h) (Or.inl ⟨by rfl, ?hy14u279⟩) hHeld ?rest14u279
            case hy14u279 =>
              intro w' hS'
              go_simp
              try with_reducible rfl
            simp only [List.setIfInBounds_toArray, List.set_cons_zero, List.set_cons_succ]
            refine take_op (i := 15) (d := 16) (v := ?_) rfl rfl (by kernel_rfl) (by kernel_rfl) (by kernel_rfl) (fun _ _ _ h => h) (Or.inl ⟨by rfl, ?hy15u280⟩) hHeld ?rest15u280
            case hy15u280 =>
              intro w' hS'
              go_simp
              try with_reducible rfl
            simp only [List.setIfInBounds_toArray, List.set_cons_zero, List.set_cons_succ]
            refine wpAnyH_done (by kernel_rfl) ?_ _
            go_wp2
            go_meet
            case rel => exact ⟨g, rfl, rfl, rfl, hlg, HR.out, hHeld⟩
          · go_simp
            obtain ⟨g, hq⟩ : ∃ g, g = Y2b.heap.size := ⟨_, rfl⟩
            rw [← hq]
            refine hK.out _ (Y2b.alloc (.cells (i16s zP) 30 (0, 0))) (hHeld.alloc hHeld.size _) (fun hHeld2 => ?_)
            have HB : Hid ((Y2b.alloc (.cells (i16s zP) 30 (0, 0))).heap[g]? = some (.cells (i16s zP) 30 (0, 0))) := Lib.hid (by rw [hq]; exact heap_alloc_new _ _)
            have hlg : wc.heap.size ≤ g := by rw [hq]; exact hHeld.size
            clear hK K hHeld hq
            have hHeld := hHeld2
            clear hHeld2
            generalize (Y2b.alloc (.cells (i16s zP) 30 (0, 0))) = Y5b at *
            refine wpAnyH_ready (rs := [7]) (by kernel_rfl) (by simp) ?_
            refine AllReadyH.cons rfl (fun K hK => ?_) (AllReadyH.nil)
            go_simp
            refine (HI.out _ (errT_below HX.out (hb.trans (hHeld.mono hb.size)))).mono ?_
            rintro e Y6b ⟨rfl, hb1⟩
            refine hK.out _ _ (hHeld.trans (hb1.mono hHeld.size)) (fun hHeld2 => ?_)
            clear hK K
            replace hHeld := hHeld2
            clear hHeld2
            replace HB := Lib.hid (below_row hb1 HB.out)
            clear hb1
            refine take_op (i := 8) (d := 29) (v := ?_) rfl rfl (by kernel_rfl) (by kernel_rfl) (by kernel_rfl) (fun _ _ _ h => h) (Or.inl ⟨by rfl, ?hy8u281⟩) hHeld ?rest8u281
            case hy8u281 =>
              intro w' hS'
              go_simp
              try with_reducible rfl
            simp only [List.setIfInBounds_toArray, List.set_cons_zero, List.set_cons_succ]
            refine take_op (i := 9) (d := 38) (v := ?_) rfl rfl (by kernel_rfl) (by kernel_rfl) (by kernel_rfl) (fun _ _ _ h => h) (Or.inl ⟨by rfl, ?hy9u282⟩) hHeld ?rest9u282
            case hy9u282 =>
              intro w' hS'
              go_simp
              try with_reducible rfl
            simp only [List.setIfInBounds_toArray, List.set_cons_zero, List.set_cons_succ]
            refine take_op (i := 10) (d := 39) (v := ?_) rfl rfl (by kernel_rfl) (by kernel_rfl) (by kernel_rfl) (fun _ _ _ h => h) (Or.inl ⟨by rfl, ?hy10u283⟩) hHeld ?rest10u283
            case hy10u283 =>
              intro w' hS'
              go_simp
              try with_reducible rfl
            simp only [List.setIfInBounds_toArray, List.set_cons_zero, List.set_cons_succ]
            refine take_op (i := 11) (d := 40) (v := ?_) rfl rfl (by kernel_rfl) (by kernel_rfl) (by kernel_rfl) (fun _ _ _ h => h) (Or.inl ⟨by rfl, ?hy11u284⟩) hHeld ?rest11u284
            case hy11u284 =>
              intro w' hS'
              go_simp
              try with_reducible rfl
            simp only [List.setIfInBounds_toArray, List.set_cons_zero, List.set_cons_succ]
            have hxp : xp.length = 24 := Hxp.out
            have hst := run_store_rowC (P := Tryz.prog) _ g 30 (i16s xp) _ HB.out (by rw [i16s_size, i16s_size, Hxp.out]; rfl) (i16s_one _)
            refine wpAnyH_ready (rs := [13]) (by kernel_rfl) (by simp) ?_
            refine AllReadyH.cons rfl (fun K hK => ?_) AllReadyH.nil
            go_simp
            refine hK.out _ _ (below_setRow hHeld hlg _) (fun hHeld2 => ?_)
            clear hK K hst hxp
            have HR := Lib.hid (setRow_heap _ _ _ (i16s xp) _ _ HB.out)
            clear hHeld HB
            have hHeld := hHeld2
            clear hHeld2
            refine take_op (i := 14) (d := 15) (v := ?_) rfl rfl (by kernel_rfl) (by kernel_rfl) (by kernel_rfl) (fun _ _ _ h => h) (Or.inl ⟨by rfl, ?hy14u285⟩) hHeld ?rest14u285
            case hy14u285 =>
              intro w' hS'
              go_simp
              try with_reducible rfl
            simp only [List.setIfInBounds_toArray, List.set_cons_zero, List.set_cons_succ]
            refine take_op (i := 15) (d := 16) (v := ?_) rfl rfl (by kernel_rfl) (by kernel_rfl) (by kernel_rfl) (fun _ _ _ h => h) (Or.inl ⟨by rfl, ?hy15u286⟩) hHeld ?rest15u286
            case hy15u286 =>
              intro w' hS'
              go_simp
              try with_reducible rfl
            simp only [List.setIfInBounds_toArray, List.set_cons_zero, List.set_cons_succ]
            refine wpAnyH_done (by kernel_rfl) ?_ _
            go_wp2
            go_meet
            case rel => exact ⟨g, rfl, rfl, rfl, hlg, HR.out, hHeld⟩
        · go_simp
          obtain ⟨g, hq⟩ : ∃ g, g = Y1b.heap.size := ⟨_, rfl⟩
          rw [← hq]
          refine hK.out _ (Y1b.alloc (.cells (i16s zP) 30 (0, 0))) (hHeld.alloc hHeld.size _) (fun hHeld2 => ?_)
          have HB : Hid ((Y1b.alloc (.cells (i16s zP) 30 (0, 0))).heap[g]? = some (.cells (i16s zP) 30 (0, 0))) := Lib.hid (by rw [hq]; exact heap_alloc_new _ _)
          have hlg : wc.heap.size ≤ g := by rw [hq]; exact hHeld.size
          clear hK K hHeld hq
          have hHeld := hHeld2
          clear hHeld2
          generalize (Y1b.alloc (.cells (i16s zP) 30 (0, 0))) = Y7b at *
          refine wpAnyH_ready (rs := [3]) (by kernel_rfl) (by simp) ?_
          refine AllReadyH.cons rfl (fun K hK => ?_) (AllReadyH.nil)
          go_simp
          refine (toSun_any hs ts Hh.out Ht.out _).mono ?_
          rintro e Y8b ⟨rfl, hb1⟩
          refine hK.out _ _ (hHeld.trans (hb1.mono hHeld.size)) (fun hHeld2 => ?_)
          clear hK K
          replace hHeld := hHeld2
          clear hHeld2
          replace HB := Lib.hid (below_row hb1 HB.out)
          clear hb1
          refine wpAnyH_ready (rs := [7]) (by kernel_rfl) (by simp) ?_
          refine AllReadyH.cons rfl (fun K hK => ?_) (AllReadyH.nil)
          go_simp
          refine (HI.out _ (errT_below HX.out (hb.trans (hHeld.mono hb.size)))).mono ?_
          rintro e Y9b ⟨rfl, hb1⟩
          refine hK.out _ _ (hHeld.trans (hb1.mono hHeld.size)) (fun hHeld2 => ?_)
          clear hK K
          replace hHeld := hHeld2
          clear hHeld2
          replace HB := Lib.hid (below_row hb1 HB.out)
          clear hb1
          refine take_op (i := 8) (d := 29) (v := ?_) rfl rfl (by kernel_rfl) (by kernel_rfl) (by kernel_rfl) (fun _ _ _ h => h) (Or.inl ⟨by rfl, ?hy8u287⟩) hHeld ?rest8u287
          case hy8u287 =>
            intro w' hS'
            go_simp
            try with_reducible rfl
          simp only [List.setIfInBounds_toArray, List.set_cons_zero, List.set_cons_succ]
          refine take_op (i := 9) (d := 38) (v := ?_) rfl rfl (by kernel_rfl) (by kernel_rfl) (by kernel_rfl) (fun _ _ _ h => h) (Or.inl ⟨by rfl, ?hy9u288⟩) hHeld ?rest9u288
          case hy9u288 =>
            intro w' hS'
            go_simp
            try with_reducible rfl
          simp only [List.setIfInBounds_toArray, List.set_cons_zero, List.set_cons_succ]
          refine take_op (i := 10) (d := 39) (v := ?_) rfl rfl (by kernel_rfl) (by kernel_rfl) (by kernel_rfl) (fun _ _ _ h => h) (Or.inl ⟨by rfl, ?hy10u289⟩) hHeld ?rest10u289
          case hy10u289 =>
            intro w' hS'
            go_simp
            try with_reducible rfl
          simp only [List.setIfInBounds_toArray, List.set_cons_zero, List.set_cons_succ]
          refine take_op (i := 11) (d := 40) (v := ?_) rfl rfl (by kernel_rfl) (by kernel_rfl) (by kernel_rfl) (fun _ _ _ h => h) (Or.inl ⟨by rfl, ?hy11u290⟩) hHeld ?rest11u290
          case hy11u290 =>
            intro w' hS'
            go_simp
            try with_reducible rfl
          simp only [List.setIfInBounds_toArray, List.set_cons_zero, List.set_cons_succ]
          have hxp : xp.length = 24 := Hxp.out
          have hst := run_store_rowC (P := Tryz.prog) _ g 30 (i16s xp) _ HB.out (by rw [i16s_size, i16s_size, Hxp.out]; rfl) (i16s_one _)
          refine wpAnyH_ready (rs := [13]) (by kernel_rfl) (by simp) ?_
          refine AllReadyH.cons rfl (fun K hK => ?_) AllReadyH.nil
          go_simp
          refine hK.out _ _ (below_setRow hHeld hlg _) (fun hHeld2 => ?_)
          clear hK K hst hxp
          have HR := Lib.hid (setRow_heap _ _ _ (i16s xp) _ _ HB.out)
          clear hHeld HB
          have hHeld := hHeld2
          clear hHeld2
          refine take_op (i := 14) (d := 15) (v := ?_) rfl rfl (by kernel_rfl) (by kernel_rfl) (by kernel_rfl) (fun _ _ _ h => h) (Or.inl ⟨by rfl, ?hy14u291⟩) hHeld ?rest14u291
          case hy14u291 =>
            intro w' hS'
            go_simp
            try with_reducible rfl
          simp only [List.setIfInBounds_toArray, List.set_cons_zero, List.set_cons_succ]
          refine take_op (i := 15) (d := 16) (v := ?_) rfl rfl (by kernel_rfl) (by kernel_rfl) (by kernel_rfl) (fun _ _ _ h => h) (Or.inl ⟨by rfl, ?hy15u292⟩) hHeld ?rest15u292
          case hy15u292 =>
            intro w' hS'
            go_simp
            try with_reducible rfl
          simp only [List.setIfInBounds_toArray, List.set_cons_zero, List.set_cons_succ]
          refine wpAnyH_done (by kernel_rfl) ?_ _
          go_wp2
          go_meet
          case rel => exact ⟨g, rfl, rfl, rfl, hlg, HR.out, hHeld⟩
      · go_simp
        obtain ⟨g, hq⟩ : ∃ g, g = Y0.heap.size := ⟨_, rfl⟩
        rw [← hq]
        refine hK.out _ (Y0.alloc (.cells (i16s zP) 30 (0, 0))) (hHeld.alloc hHeld.size _) (fun hHeld2 => ?_)
        have HB : Hid ((Y0.alloc (.cells (i16s zP) 30 (0, 0))).heap[g]? = some (.cells (i16s zP) 30 (0, 0))) := Lib.hid (by rw [hq]; exact heap_alloc_new _ _)
        have hlg : wc.heap.size ≤ g := by rw [hq]; exact hHeld.size
        clear hK K hHeld hq
        have hHeld := hHeld2
        clear hHeld2
        generalize (Y0.alloc (.cells (i16s zP) 30 (0, 0))) = Y10b at *
        refine wpAnyH_ready (rs := [1]) (by kernel_rfl) (by simp) ?_
        refine AllReadyH.cons rfl (fun K hK => ?_) (AllReadyH.nil)
        go_simp
        refine (toBlind_any _ _ _ _ _ _).mono ?_
        rintro e Y11b ⟨rfl, hb1⟩
        refine hK.out _ _ (hHeld.trans (hb1.mono hHeld.size)) (fun hHeld2 => ?_)
        clear hK K
        replace hHeld := hHeld2
        clear hHeld2
        replace HB := Lib.hid (below_row hb1 HB.out)
        clear hb1
        refine wpAnyH_ready (rs := [3]) (by kernel_rfl) (by simp) ?_
        refine AllReadyH.cons rfl (fun K hK => ?_) (AllReadyH.nil)
        go_simp
        refine (toSun_any hs ts Hh.out Ht.out _).mono ?_
        rintro e Y12b ⟨rfl, hb1⟩
        refine hK.out _ _ (hHeld.trans (hb1.mono hHeld.size)) (fun hHeld2 => ?_)
        clear hK K
        replace hHeld := hHeld2
        clear hHeld2
        replace HB := Lib.hid (below_row hb1 HB.out)
        clear hb1
        refine wpAnyH_ready (rs := [7]) (by kernel_rfl) (by simp) ?_
        refine AllReadyH.cons rfl (fun K hK => ?_) (AllReadyH.nil)
        go_simp
        refine (HI.out _ (errT_below HX.out (hb.trans (hHeld.mono hb.size)))).mono ?_
        rintro e Y13b ⟨rfl, hb1⟩
        refine hK.out _ _ (hHeld.trans (hb1.mono hHeld.size)) (fun hHeld2 => ?_)
        clear hK K
        replace hHeld := hHeld2
        clear hHeld2
        replace HB := Lib.hid (below_row hb1 HB.out)
        clear hb1
        refine take_op (i := 8) (d := 29) (v := ?_) rfl rfl (by kernel_rfl) (by kernel_rfl) (by kernel_rfl) (fun _ _ _ h => h) (Or.inl ⟨by rfl, ?hy8u293⟩) hHeld ?rest8u293
        case hy8u293 =>
          intro w' hS'
          go_simp
          try with_reducible rfl
        simp only [List.setIfInBounds_toArray, List.set_cons_zero, List.set_cons_succ]
        refine take_op (i := 9) (d := 38) (v := ?_) rfl rfl (by kernel_rfl) (by kernel_rfl) (by kernel_rfl) (fun _ _ _ h => h) (Or.inl ⟨by rfl, ?hy9u294⟩) hHeld ?rest9u294
        case hy9u294 =>
          intro w' hS'
          go_simp
          try with_reducible rfl
        simp only [List.setIfInBounds_toArray, List.set_cons_zero, List.set_cons_succ]
        refine take_op (i := 10) (d := 39) (v := ?_) rfl rfl (by kernel_rfl) (by kernel_rfl) (by kernel_rfl) (fun _ _ _ h => h) (Or.inl ⟨by rfl, ?hy10u295⟩) hHeld ?rest10u295
        case hy10u295 =>
          intro w' hS'
          go_simp
          try with_reducible rfl
        simp only [List.setIfInBounds_toArray, List.set_cons_zero, List.set_cons_succ]
        refine take_op (i := 11) (d := 40) (v := ?_) rfl rfl (by kernel_rfl) (by kernel_rfl) (by kernel_rfl) (fun _ _ _ h => h) (Or.inl ⟨by rfl, ?hy11u296⟩) hHeld ?rest11u296
        case hy11u296 =>
          intro w' hS'
          go_simp
          try with_reducible rfl
        simp only [List.setIfInBounds_toArray, List.set_cons_zero, List.set_cons_succ]
        have hxp : xp.length = 24 := Hxp.out
        have hst := run_store_rowC (P := Tryz.prog) _ g 30 (i16s xp) _ HB.out (by rw [i16s_size, i16s_size, Hxp.out]; rfl) (i16s_one _)
        refine wpAnyH_ready (rs := [13]) (by kernel_rfl) (by simp) ?_
        refine AllReadyH.cons rfl (fun K hK => ?_) AllReadyH.nil
        go_simp
        refine hK.out _ _ (below_setRow hHeld hlg _) (fun hHeld2 => ?_)
        clear hK K hst hxp
        have HR := Lib.hid (setRow_heap _ _ _ (i16s xp) _ _ HB.out)
        clear hHeld HB
        have hHeld := hHeld2
        clear hHeld2
        refine take_op (i := 14) (d := 15) (v := ?_) rfl rfl (by kernel_rfl) (by kernel_rfl) (by kernel_rfl) (fun _ _ _ h => h) (Or.inl ⟨by rfl, ?hy14u297⟩) hHeld ?rest14u297
        case hy14u297 =>
          intro w' hS'
          go_simp
          try with_reducible rfl
        simp only [List.setIfInBounds_toArray, List.set_cons_zero, List.set_cons_succ]
        refine take_op (i := 15) (d := 16) (v := ?_) rfl rfl (by kernel_rfl) (by kernel_rfl) (by kernel_rfl) (fun _ _ _ h => h) (Or.inl ⟨by rfl, ?hy15u298⟩) hHeld ?rest15u298
        case hy15u298 =>
          intro w' hS'
          go_simp
          try with_reducible rfl
        simp only [List.setIfInBounds_toArray, List.set_cons_zero, List.set_cons_succ]
        refine wpAnyH_done (by kernel_rfl) ?_ _
        go_wp2
        go_meet
        case rel => exact ⟨g, rfl, rfl, rfl, hlg, HR.out, hHeld⟩
    case rest =>
      obtain ⟨g2, rfl, rfl, rfl, hl2, hr2, hbx⟩ := hcut
      have G2 := Lib.hid hr2
      replace G1 := Lib.hid (below_row hbx G1.out)
      replace hb := hb.trans (hbx.mono hb.size)
      clear hr2 hbx hl2 H0 H1
      go_wp2_with (first | (refine wpList_load_part rfl 30 _ rfl g1 0 24 rfl 30 (i16s xp) (0, 0) _ G1.out Tryz.underlying30 rfl info_plan (by rw [i16s_size, Hxp.out]; decide) (i16s xp) (i16s_all _ 24 Hxp.out) ?_) | (refine wpList_load_part rfl 30 _ rfl g2 0 24 rfl 30 (i16s xp) (0, 0) _ G2.out Tryz.underlying30 rfl info_plan (by rw [i16s_size, Hxp.out]; decide) (i16s xp) (i16s_all _ 24 Hxp.out) ?_) | (go_at_call 9; refine (eqPlan_same xp Hxp.out _).mono ?_; rintro e W9 ⟨rfl, hb1⟩; replace hb := hb.trans (hb1.mono hb.size); clear hb1))
      go_ret
      exact ⟨rfl, hb⟩

end Go.Proofs.YtmniodfdoidffaaGreatDoor

namespace Go.Proofs.YtmniodfdoidffaaGreatDoor
open Go.ChangeShapes Go.WideShapes Go.ChangeAt Go.RowKit Go.Deep Go.Joins

attribute [local go_sem] run_store_f

set_option maxRecDepth 100000 in
set_option maxHeartbeats 4000000 in
theorem sFew_F (n : Int) (wd gp : Nat) (t : Int) (sh : Nat) (hs ts : List Int) (hh : hs.length = 24) (ht : ts.length = 24) (fc : Int) (lo hi : Nat) (T0 : -32768 ≤ t) (T1 : t ≤ 32767) (N0 : -128 ≤ n) (N1 : n ≤ 127) (rb : ∀ x ∈ hs ++ ts, -32768 ≤ x ∧ x ≤ 32767) (hf : inF fc = false) (c : Int) (hc : cdP true (okBl n wd gp t sh) (okB hs ts) false = c) (hne : c ≠ 0) (w : World) :
    Calls Tryz.prog 5 #[.agg (blindC n wd gp t sh), .agg (sunC hs ts), .int .i64 fc, .float .f32 lo, .float .f32 hi] w fun e w' => e = .returned (.tuple #[.agg (i16s zP), .int .i64 0, .int .i64 c]) ∧ Below w.heap.size w w' := by
  have HA := Lib.hid (fun g1 g2 g3 w q1 q2 q3 => l07Asked_is n wd gp t sh hs ts hh ht zP zP_len T0 T1 N0 N1 rb zP_b false c (by rw [zP_ok]; exact hc) g1 g2 g3 w q1 q2 q3)
  have HF := Lib.hid hf
  have HZB : Hid (Tryz.prog.built 30 [] = some (i16s zP)) := by unfold Hid; kernel_rfl
  clear hh ht hc hf T0 T1 N0 N1 rb
  go_enter Tryz.func5, Tryz.ntmps5
  go_upto_region 1 with (fail)
  refine abs_code (fun W => W.heap[w.heap.size]? = some (.cells (blindC n wd gp t sh) 33 (0, 0)) ∧ W.heap[w.heap.size + 1]? = some (.cells (sunC hs ts) 35 (0, 0)) ∧ W.heap[w.heap.size + 1 + 1]? = some (.cells (i16s zP) 30 (0, 0)) ∧ Below w.heap.size w W) ⟨(three_new _ _ _ _).1, (three_new _ _ _ _).2.1, (three_new _ _ _ _).2.2.1, (three_new _ _ _ _).2.2.2⟩ ?_
  rintro W ⟨h0, h1, h2, hb⟩
  have n01 : w.heap.size < w.heap.size + 1 := by omega
  have n12 : w.heap.size + 1 < w.heap.size + 1 + 1 := by omega
  have hle2 : w.heap.size ≤ w.heap.size + 1 + 1 := by omega
  generalize w.heap.size + 1 + 1 = b2 at *
  generalize w.heap.size + 1 = b1 at *
  have H0 := Lib.hid h0
  have H1 := Lib.hid h1
  have H2 := Lib.hid h2
  clear h0 h1 h2
  go_upto_region 2 with (first | (refine wpList_buildL rfl 30 _ rfl _ rfl [] rfl (i16s zP) HZB.out ?_) | (refine wpList_store_part rfl 30 _ _ rfl _ 0 (i16s zP) rfl rfl 30 _ (heap_alloc_new _ _) info_plan (Nat.le_refl _) zP_one ?_; rw [laid_all _ _ (by rfl)]))
  refine abs_code (fun V => V.heap[w.heap.size]? = some (.cells (blindC n wd gp t sh) 33 (0, 0)) ∧ V.heap[b1]? = some (.cells (sunC hs ts) 35 (0, 0)) ∧ V.heap[b2]? = some (.cells (i16s zP) 30 (0, 0)) ∧ V.heap[W.heap.size]? = some (.cells (i16s zP) 30 (0, 0)) ∧ Below w.heap.size w V) ⟨below_row (zbel _ _ _) H0.out, below_row (zbel _ _ _) H1.out, below_row (zbel _ _ _) H2.out, setRow_heap _ _ _ _ _ _ (heap_alloc_new _ _), below_setRow (hb.alloc hb.size _) hb.size _⟩ ?_
  have hb23 := row_lt H2.out
  have hle3 := hb.size
  clear H0 H1 H2 hb
  generalize W.heap.size = b3 at *
  rintro V ⟨h0, h1, h2, h3, hb⟩
  have H0 := Lib.hid h0
  have H1 := Lib.hid h1
  have H2 := Lib.hid h2
  have H3 := Lib.hid h3
  clear h0 h1 h2 h3
  go_wp2_with (first | (go_at_call 14; refine (l01Faced_is fc false HF.out _).mono ?_; rintro e w' ⟨rfl, rfl⟩) | (go_at_call 13; refine (HA.out _ _ _ _ H0.out H1.out H3.out).mono ?_; rintro e w' ⟨rfl, rfl⟩) | (refine wpList_buildL rfl 30 _ rfl _ rfl [] rfl (i16s zP) HZB.out ?_) | (refine wpList_store_part rfl 30 _ _ rfl b2 0 (i16s zP) rfl rfl 30 (i16s zP) H2.out info_plan (Nat.le_refl _) zP_one ?_; rw [laid_all _ _ (by rfl)]))
  refine bodyPost_ret (results_plan rfl _ _ b2 zP zP_len rfl (setRow_heap _ _ _ _ _ _ H2.out)) rfl ?_
  exact ⟨rfl, below_setRow hb hle2 _⟩

set_option maxRecDepth 100000 in
set_option maxHeartbeats 4000000 in
theorem sFew_T (n : Int) (wd gp : Nat) (t : Int) (sh : Nat) (hs ts : List Int) (hh : hs.length = 24) (ht : ts.length = 24) (fc : Int) (lo hi : Nat) (T0 : -32768 ≤ t) (T1 : t ≤ 32767) (N0 : -128 ≤ n) (N1 : n ≤ 127) (rb : ∀ x ∈ hs ++ ts, -32768 ≤ x ∧ x ≤ 32767) (hf : inF fc = true) (hlo : partB lo = false) (c : Int) (hc : cdP true (okBl n wd gp t sh) (okB hs ts) false = c) (hne : c ≠ 0) (w : World) :
    Calls Tryz.prog 5 #[.agg (blindC n wd gp t sh), .agg (sunC hs ts), .int .i64 fc, .float .f32 lo, .float .f32 hi] w fun e w' => e = .returned (.tuple #[.agg (i16s zP), .int .i64 0, .int .i64 c]) ∧ Below w.heap.size w w' := by
  have HA := Lib.hid (fun g1 g2 g3 w q1 q2 q3 => l07Asked_is n wd gp t sh hs ts hh ht zP zP_len T0 T1 N0 N1 rb zP_b false c (by rw [zP_ok]; exact hc) g1 g2 g3 w q1 q2 q3)
  have HF := Lib.hid hf
  have HLo := Lib.hid (fun w => l01Part_is lo false hlo w)
  have HZB : Hid (Tryz.prog.built 30 [] = some (i16s zP)) := by unfold Hid; kernel_rfl
  clear hh ht hc hf hlo T0 T1 N0 N1 rb
  go_enter Tryz.func5, Tryz.ntmps5
  go_upto_region 1 with (fail)
  refine abs_code (fun W => W.heap[w.heap.size]? = some (.cells (blindC n wd gp t sh) 33 (0, 0)) ∧ W.heap[w.heap.size + 1]? = some (.cells (sunC hs ts) 35 (0, 0)) ∧ W.heap[w.heap.size + 1 + 1]? = some (.cells (i16s zP) 30 (0, 0)) ∧ Below w.heap.size w W) ⟨(three_new _ _ _ _).1, (three_new _ _ _ _).2.1, (three_new _ _ _ _).2.2.1, (three_new _ _ _ _).2.2.2⟩ ?_
  rintro W ⟨h0, h1, h2, hb⟩
  have n01 : w.heap.size < w.heap.size + 1 := by omega
  have n12 : w.heap.size + 1 < w.heap.size + 1 + 1 := by omega
  have hle2 : w.heap.size ≤ w.heap.size + 1 + 1 := by omega
  generalize w.heap.size + 1 + 1 = b2 at *
  generalize w.heap.size + 1 = b1 at *
  have H0 := Lib.hid h0
  have H1 := Lib.hid h1
  have H2 := Lib.hid h2
  clear h0 h1 h2
  go_upto_region 2 with (first | (refine wpList_buildL rfl 30 _ rfl _ rfl [] rfl (i16s zP) HZB.out ?_) | (refine wpList_store_part rfl 30 _ _ rfl _ 0 (i16s zP) rfl rfl 30 _ (heap_alloc_new _ _) info_plan (Nat.le_refl _) zP_one ?_; rw [laid_all _ _ (by rfl)]))
  refine abs_code (fun V => V.heap[w.heap.size]? = some (.cells (blindC n wd gp t sh) 33 (0, 0)) ∧ V.heap[b1]? = some (.cells (sunC hs ts) 35 (0, 0)) ∧ V.heap[b2]? = some (.cells (i16s zP) 30 (0, 0)) ∧ V.heap[W.heap.size]? = some (.cells (i16s zP) 30 (0, 0)) ∧ Below w.heap.size w V) ⟨below_row (zbel _ _ _) H0.out, below_row (zbel _ _ _) H1.out, below_row (zbel _ _ _) H2.out, setRow_heap _ _ _ _ _ _ (heap_alloc_new _ _), below_setRow (hb.alloc hb.size _) hb.size _⟩ ?_
  have hb23 := row_lt H2.out
  have hle3 := hb.size
  clear H0 H1 H2 hb
  generalize W.heap.size = b3 at *
  rintro V ⟨h0, h1, h2, h3, hb⟩
  have H0 := Lib.hid h0
  have H1 := Lib.hid h1
  have H2 := Lib.hid h2
  have H3 := Lib.hid h3
  clear h0 h1 h2 h3
  go_wp2_with (first | (go_at_call 14; refine (l01Faced_is fc true HF.out _).mono ?_; rintro e w' ⟨rfl, rfl⟩) | (go_at_call 15; refine (HLo.out _).mono ?_; rintro e w' ⟨rfl, rfl⟩) | (go_at_call 13; refine (HA.out _ _ _ _ H0.out H1.out H3.out).mono ?_; rintro e w' ⟨rfl, rfl⟩) | (refine wpList_buildL rfl 30 _ rfl _ rfl [] rfl (i16s zP) HZB.out ?_) | (refine wpList_store_part rfl 30 _ _ rfl b2 0 (i16s zP) rfl rfl 30 (i16s zP) H2.out info_plan (Nat.le_refl _) zP_one ?_; rw [laid_all _ _ (by rfl)]))
  refine bodyPost_ret (results_plan rfl _ _ b2 zP zP_len rfl (setRow_heap _ _ _ _ _ _ H2.out)) rfl ?_
  exact ⟨rfl, below_setRow hb hle2 _⟩

set_option maxRecDepth 100000 in
set_option maxHeartbeats 4000000 in
theorem sFew_TT (n : Int) (wd gp : Nat) (t : Int) (sh : Nat) (hs ts : List Int) (hh : hs.length = 24) (ht : ts.length = 24) (fc : Int) (lo hi : Nat) (T0 : -32768 ≤ t) (T1 : t ≤ 32767) (N0 : -128 ≤ n) (N1 : n ≤ 127) (rb : ∀ x ∈ hs ++ ts, -32768 ≤ x ∧ x ≤ 32767) (hf : inF fc = true) (hlo : partB lo = true) (hgh : Bool) (hhi : partB hi = hgh) (c : Int) (hc : cdP true (okBl n wd gp t sh) (okB hs ts) hgh = c) (hne : c ≠ 0) (w : World) :
    Calls Tryz.prog 5 #[.agg (blindC n wd gp t sh), .agg (sunC hs ts), .int .i64 fc, .float .f32 lo, .float .f32 hi] w fun e w' => e = .returned (.tuple #[.agg (i16s zP), .int .i64 0, .int .i64 c]) ∧ Below w.heap.size w w' := by
  have HA := Lib.hid (fun g1 g2 g3 w q1 q2 q3 => l07Asked_is n wd gp t sh hs ts hh ht zP zP_len T0 T1 N0 N1 rb zP_b hgh c (by rw [zP_ok]; exact hc) g1 g2 g3 w q1 q2 q3)
  have HF := Lib.hid hf
  have HLo := Lib.hid (fun w => l01Part_is lo true hlo w)
  have HHi := Lib.hid (fun w => l01Part_is hi hgh hhi w)
  have HZB : Hid (Tryz.prog.built 30 [] = some (i16s zP)) := by unfold Hid; kernel_rfl
  clear hh ht hc hf hlo hhi T0 T1 N0 N1 rb
  go_enter Tryz.func5, Tryz.ntmps5
  go_upto_region 1 with (fail)
  refine abs_code (fun W => W.heap[w.heap.size]? = some (.cells (blindC n wd gp t sh) 33 (0, 0)) ∧ W.heap[w.heap.size + 1]? = some (.cells (sunC hs ts) 35 (0, 0)) ∧ W.heap[w.heap.size + 1 + 1]? = some (.cells (i16s zP) 30 (0, 0)) ∧ Below w.heap.size w W) ⟨(three_new _ _ _ _).1, (three_new _ _ _ _).2.1, (three_new _ _ _ _).2.2.1, (three_new _ _ _ _).2.2.2⟩ ?_
  rintro W ⟨h0, h1, h2, hb⟩
  have n01 : w.heap.size < w.heap.size + 1 := by omega
  have n12 : w.heap.size + 1 < w.heap.size + 1 + 1 := by omega
  have hle2 : w.heap.size ≤ w.heap.size + 1 + 1 := by omega
  generalize w.heap.size + 1 + 1 = b2 at *
  generalize w.heap.size + 1 = b1 at *
  have H0 := Lib.hid h0
  have H1 := Lib.hid h1
  have H2 := Lib.hid h2
  clear h0 h1 h2
  go_upto_region 2 with (first | (refine wpList_buildL rfl 30 _ rfl _ rfl [] rfl (i16s zP) HZB.out ?_) | (refine wpList_store_part rfl 30 _ _ rfl _ 0 (i16s zP) rfl rfl 30 _ (heap_alloc_new _ _) info_plan (Nat.le_refl _) zP_one ?_; rw [laid_all _ _ (by rfl)]))
  refine abs_code (fun V => V.heap[w.heap.size]? = some (.cells (blindC n wd gp t sh) 33 (0, 0)) ∧ V.heap[b1]? = some (.cells (sunC hs ts) 35 (0, 0)) ∧ V.heap[b2]? = some (.cells (i16s zP) 30 (0, 0)) ∧ V.heap[W.heap.size]? = some (.cells (i16s zP) 30 (0, 0)) ∧ Below w.heap.size w V) ⟨below_row (zbel _ _ _) H0.out, below_row (zbel _ _ _) H1.out, below_row (zbel _ _ _) H2.out, setRow_heap _ _ _ _ _ _ (heap_alloc_new _ _), below_setRow (hb.alloc hb.size _) hb.size _⟩ ?_
  have hb23 := row_lt H2.out
  have hle3 := hb.size
  clear H0 H1 H2 hb
  generalize W.heap.size = b3 at *
  rintro V ⟨h0, h1, h2, h3, hb⟩
  have H0 := Lib.hid h0
  have H1 := Lib.hid h1
  have H2 := Lib.hid h2
  have H3 := Lib.hid h3
  clear h0 h1 h2 h3
  go_wp2_with (first | (go_at_call 14; refine (l01Faced_is fc true HF.out _).mono ?_; rintro e w' ⟨rfl, rfl⟩) | (go_at_call 15; (first | (with_reducible refine (HLo.out _).mono ?_) | (with_reducible refine (HHi.out _).mono ?_)); rintro e w' ⟨rfl, rfl⟩) | (go_at_call 13; refine (HA.out _ _ _ _ H0.out H1.out H3.out).mono ?_; rintro e w' ⟨rfl, rfl⟩) | (refine wpList_buildL rfl 30 _ rfl _ rfl [] rfl (i16s zP) HZB.out ?_) | (refine wpList_store_part rfl 30 _ _ rfl b2 0 (i16s zP) rfl rfl 30 (i16s zP) H2.out info_plan (Nat.le_refl _) zP_one ?_; rw [laid_all _ _ (by rfl)]))
  refine bodyPost_ret (results_plan rfl _ _ b2 zP zP_len rfl (setRow_heap _ _ _ _ _ _ H2.out)) rfl ?_
  exact ⟨rfl, below_setRow hb hle2 _⟩

set_option maxRecDepth 100000 in
set_option maxHeartbeats 8000000 in
theorem sFew_yes (n : Int) (wd gp : Nat) (t : Int) (sh : Nat) (hs ts : List Int) (hh : hs.length = 24) (ht : ts.length = 24) (fc : Int) (lo hi : Nat) (bw : BlWf n wd gp t sh) (T0 : -32768 ≤ t) (T1 : t ≤ 32767) (N0 : -128 ≤ n) (N1 : n ≤ 127) (rb : ∀ x ∈ hs ++ ts, -32768 ≤ x ∧ x ≤ 32767) (hf : inF fc = true) (hlo : partB lo = true) (hhi : partB hi = true) (wlo : (Lit.float .f32 lo).wf = true) (whi : (Lit.float .f32 hi).wf = true) (hc : cdP true (okBl n wd gp t sh) (okB hs ts) true = 0) (T : Nat → List Int) (hT : T = (fun h : Nat => wantT (kpB hs ts fc lo hi wd gp sh (h : Int)) (tls 129)))
    (p : List Int) (hp : ∀ k, k = 24 → (stF T (T 0) k).plan = p) (pl : List Int) (nn cc : Int) (hA : (∀ h, h < 24 → T h ≠ []) → pl = p ∧ nn = (cntR p 24 : Int) - 1 ∧ cc = 0) (hB : (∃ h, h < 24 ∧ T h = []) → pl = zP ∧ nn = 0 ∧ cc = 6) (w : World) :
    Calls Tryz.prog 5 #[.agg (blindC n wd gp t sh), .agg (sunC hs ts), .int .i64 fc, .float .f32 lo, .float .f32 hi] w fun e w' => e = .returned (.tuple #[.agg (i16s pl), .int .i64 nn, .int .i64 cc]) ∧ Below w.heap.size w w' := by
  have HA := Lib.hid (fun g1 g2 g3 w q1 q2 q3 => l07Asked_is n wd gp t sh hs ts hh ht zP zP_len T0 T1 N0 N1 rb zP_b true 0 (by rw [zP_ok]; exact hc) g1 g2 g3 w q1 q2 q3)
  obtain ⟨_, hk, hos, _⟩ := cdP_yes hc
  have OK := blok_of bw hk
  have dh : ∀ k : Nat, k < 24 → HrOk hs ts (k : Int) fc := fun k hk => hrok_of hh ht hos (by omega) (by omega) hf
  have HTI : Hid (∀ k : Nat, k < 24 → ∀ (g1 g2 : Nat) (w : World), w.heap[g1]? = some (.cells (blindC n wd gp t sh) 33 (0, 0)) → w.heap[g2]? = some (.cells (sunC hs ts) 35 (0, 0)) → Calls Tryz.prog 16 #[.pointer (some ⟨g1, 0, none⟩), .pointer (some ⟨g2, 0, none⟩), .int .i64 fc, .int .i64 (k : Int), .float .f32 lo, .float .f32 hi] w fun e w' => (∃ v, e = .returned v ∧ Own w' w.heap.size 2 (Value.int .i64) v (T k)) ∧ Below w.heap.size w w') := by
    rw [hT]
    exact fun k hk g1 g2 w q1 q2 => l07Tilts_any n wd gp t sh hs ts hh ht OK fc (k : Int) (dh k hk) lo hi (part_fin wlo hlo) (part_fin whi hhi) g1 g2 w q1 q2
  have hb64 : ∀ j, j < 24 → ∀ x ∈ T j, -64 ≤ x ∧ x ≤ 64 := by rw [hT]; exact fun j _ x hx => want_tilt hx
  have hlen : ∀ j, (T j).length ≤ 129 := by
    rw [hT]
    intro j
    refine Nat.le_trans (wantT_len _ _) ?_
    simp [tls]
  have hpl : p.length = 24 := by rw [← hp 24 rfl]; exact stF_len T (T 0) 24
  have HPL := Lib.hid hpl
  have HCH := Lib.hid (fun g w q => l07Changes_any p hpl g w q)
  have HSB := Lib.hid (stF_mem T (T 0) (fun x => -64 ≤ x ∧ x ≤ 64) hb64 (hb64 0 (by decide)))
  have HSL := Lib.hid (stF_len T (T 0))
  have HSF := Lib.hid (stF_first T (T 0))
  have HSLEN : Hid (∀ k, k ≤ 24 → (stF T (T 0) k).shared.length ≤ 1000) := Lib.hid (stF_short T (T 0) hlen (hlen 0))
  have HBO := Lib.hid (fun v1 v2 xs ys hl w a b => l07Both_any v1 v2 xs ys hl w a b)
  have HLEN := Lib.hid hlen
  have HB64 := Lib.hid hb64
  have HP := Lib.hid hp
  have HF := Lib.hid hf
  have HLo := Lib.hid (fun w => l01Part_is lo true hlo w)
  have HHi := Lib.hid (fun w => l01Part_is hi true hhi w)
  have HAA := Lib.hid hA
  have HBB := Lib.hid hB
  have HST0 : Hid (stF T (T 0) 0 = ⟨0, T 0, List.replicate 24 0⟩) := Lib.hid rfl
  have HSTK : Hid (∀ k, stF T (T 0) (k + 1) = stepF (T k) k (stF T (T 0) k)) := Lib.hid (fun k => rfl)
  have HZB : Hid (Tryz.prog.built 30 [] = some (i16s zP)) := by unfold Hid; kernel_rfl
  clear hh ht hc hf hlo hhi OK dh bw hA hB hp hb64 hlen hpl hT T0 T1 N0 N1 rb wlo whi
  generalize hst : stF T (T 0) = st at *
  clear hst
  go_enter Tryz.func5, Tryz.ntmps5
  go_upto_region 1 with (fail)
  refine abs_code (fun W => W.heap[w.heap.size]? = some (.cells (blindC n wd gp t sh) 33 (0, 0)) ∧ W.heap[w.heap.size + 1]? = some (.cells (sunC hs ts) 35 (0, 0)) ∧ W.heap[w.heap.size + 1 + 1]? = some (.cells (i16s zP) 30 (0, 0)) ∧ Below w.heap.size w W) ⟨(three_new _ _ _ _).1, (three_new _ _ _ _).2.1, (three_new _ _ _ _).2.2.1, (three_new _ _ _ _).2.2.2⟩ ?_
  rintro W ⟨h0, h1, h2, hb⟩
  have n01 : w.heap.size < w.heap.size + 1 := by omega
  have n12 : w.heap.size + 1 < w.heap.size + 1 + 1 := by omega
  have hle2 : w.heap.size ≤ w.heap.size + 1 + 1 := by omega
  generalize w.heap.size + 1 + 1 = b2 at *
  generalize w.heap.size + 1 = b1 at *
  have H0 := Lib.hid h0
  have H1 := Lib.hid h1
  have H2 := Lib.hid h2
  clear h0 h1 h2
  go_upto_region 2 with (first | (refine wpList_buildL rfl 30 _ rfl _ rfl [] rfl (i16s zP) HZB.out ?_) | (refine wpList_store_part rfl 30 _ _ rfl _ 0 (i16s zP) rfl rfl 30 _ (heap_alloc_new _ _) info_plan (Nat.le_refl _) zP_one ?_; rw [laid_all _ _ (by rfl)]))
  refine abs_code (fun V => V.heap[w.heap.size]? = some (.cells (blindC n wd gp t sh) 33 (0, 0)) ∧ V.heap[b1]? = some (.cells (sunC hs ts) 35 (0, 0)) ∧ V.heap[b2]? = some (.cells (i16s zP) 30 (0, 0)) ∧ V.heap[W.heap.size]? = some (.cells (i16s zP) 30 (0, 0)) ∧ Below w.heap.size w V) ⟨below_row (zbel _ _ _) H0.out, below_row (zbel _ _ _) H1.out, below_row (zbel _ _ _) H2.out, setRow_heap _ _ _ _ _ _ (heap_alloc_new _ _), below_setRow (hb.alloc hb.size _) hb.size _⟩ ?_
  have hb23 := row_lt H2.out
  have hle3 := hb.size
  clear H0 H1 H2 hb
  generalize W.heap.size = b3 at *
  rintro V ⟨h0, h1, h2, h3, hb⟩
  have H0 := Lib.hid h0
  have H1 := Lib.hid h1
  have H2 := Lib.hid h2
  have H3 := Lib.hid h3
  clear h0 h1 h2 h3
  have HTI0 := Lib.hid (HTI.out 0 (by decide))
  go_upto_region 7 with (first | (go_at_call 14; refine (l01Faced_is fc true HF.out _).mono ?_; rintro e w' ⟨rfl, rfl⟩) | (go_at_call 15; (first | (with_reducible refine (HLo.out _).mono ?_) | (with_reducible refine (HHi.out _).mono ?_)); rintro e w' ⟨rfl, rfl⟩) | (go_at_call 13; refine (HA.out _ _ _ _ H0.out H1.out H3.out).mono ?_; rintro e w' ⟨rfl, rfl⟩) | (go_at_call 16; refine (HTI0.out _ _ _ H0.out H1.out).mono ?_; rintro e W4 ⟨⟨vt, rfl, hvt⟩, hb1⟩; have HB1 := Lib.hid hb1; have HVT := Lib.hid hvt; clear hb1 hvt))
  have hbV : Below V.heap.size V W4 := HB1.out
  have hbz : b3 < V.heap.size := row_lt H3.out
  replace H0 := Lib.hid (below_row hbV H0.out)
  replace H1 := Lib.hid (below_row hbV H1.out)
  replace H2 := Lib.hid (below_row hbV H2.out)
  replace H3 := Lib.hid (below_row hbV H3.out)
  replace hb := hb.trans (hbV.mono hb.size)
  have HVN := Lib.hid (intsNe_own HVT.out hbz)
  clear hbV HB1 HVT HTI0 HA HF HLo HHi
  go_wp2
  go_loopw [15, 16, 17] (fun f s i wr => ∃ k : Nat, k ≤ 24 ∧ i = .int .i64 (k : Int) ∧ f = .int .i64 ((st k).first : Int) ∧ IntsNe wr b3 s (st k).shared ∧ wr.heap[w.heap.size]? = some (.cells (blindC n wd gp t sh) 33 (0, 0)) ∧ wr.heap[b1]? = some (.cells (sunC hs ts) 35 (0, 0)) ∧ wr.heap[b2]? = some (.cells (i16s zP) 30 (0, 0)) ∧ wr.heap[b3]? = some (.cells (i16s (st k).plan) 30 (0, 0)) ∧ Below w.heap.size w wr ∧ (∀ j, j < k → T j ≠ [])) (fun _ _ i _ => 24 - (intOf i).toNat)
  case atStart => exact ⟨0, Nat.zero_le _, rfl, by rw [HST0.out]; rfl, by rw [HST0.out]; exact HVN.out, H0.out, H1.out, H2.out, by rw [HST0.out]; exact H3.out, hb, fun j hj => absurd hj (Nat.not_lt_zero j)⟩
  case round =>
    clear H0 H1 H2 H3 hb HVN HST0
    obtain ⟨k, hk, rfl, rfl, hsn, h0, h1, h2, h3, hb, hne⟩ := hrel
    have HS := Lib.hid hsn
    have H0 := Lib.hid h0
    have H1 := Lib.hid h1
    have H2 := Lib.hid h2
    have H3 := Lib.hid h3
    have HNE0 := Lib.hid hne
    clear hsn h0 h1 h2 h3 hne
    by_cases hlt : k < 24
    · have HTK0 := Lib.hid (HTI.out k hlt)
      have HLS := Lib.hid (HSLEN.out k hk)
      have HXB : Hid (∀ x ∈ T k, -64 ≤ x ∧ x ≤ 64) := Lib.hid (HB64.out k hlt)
      have HXS := Lib.hid (HSB.out k hk)
      have hpl := HSL.out k
      have hfk := HSF.out k
      have HST := Lib.hid (HSTK.out k)
      have HLT := Lib.hid (HLEN.out k)
      have HTE : Hid (T k = [] → pl = zP ∧ nn = 0 ∧ cc = 6) := Lib.hid (fun h => HBB.out ⟨k, hlt, h⟩)
      have HNE1 : Hid (T k ≠ [] → ∀ j, j < k + 1 → T j ≠ []) := Lib.hid (fun h j hj => by
        by_cases e : j = k
        · rw [e]; exact h
        · exact HNE0.out j (by omega))
      generalize hs0 : st k = s0 at *
      clear hs0
      obtain ⟨f, sr, pn⟩ := s0
      dsimp only at *
      generalize htk : T k = tk at *
      clear htk
      have z1 : (k : Int) < 24 := by omega
      have z2 : (0 : Int) ≤ (k : Int) := by omega
      go_upto_region 11 with (go_at_call 16; refine (HTK0.out _ _ _ H0.out H1.out).mono ?_; rintro e W5 ⟨⟨vt, rfl, hvt⟩, hb5⟩; obtain ⟨at_, ct_, evt, hct1, hct2, -⟩ := id hvt; subst evt; have HB5 := Lib.hid hb5; have HVT := Lib.hid hvt; clear hb5 hvt)
      have hb3w : b3 < wr.heap.size := row_lt H3.out
      replace H0 := Lib.hid (below_row HB5.out H0.out)
      replace H1 := Lib.hid (below_row HB5.out H1.out)
      replace H2 := Lib.hid (below_row HB5.out H2.out)
      replace H3 := Lib.hid (below_row HB5.out H3.out)
      replace HS := Lib.hid (intsNe_below HS.out HB5.out)
      replace hb := hb.trans (HB5.out.mono hb.size)
      have HVN := Lib.hid (intsNe_own HVT.out hb3w)
      clear HB5 HTK0
      have HLN : Hid (tk.length = 0 ↔ tk = []) := Lib.hid List.length_eq_zero_iff
      by_cases hte : tk = []
      · obtain ⟨e1, e2, e3⟩ := HTE.out hte
        subst e1 e2 e3
        have hl0 : tk.length = 0 := HLN.out.2 hte
        have hl0b : ((tk.length : Int) == 0) = true := by rw [hl0]; rfl
        clear hte hl0
        go_wp2_with (first | (refine wpList_buildL rfl 30 _ rfl _ rfl [] rfl (i16s zP) HZB.out ?_) | (refine wpList_store_part rfl 30 _ _ rfl b2 0 (i16s zP) rfl rfl 30 (i16s zP) H2.out info_plan (Nat.le_refl _) zP_one ?_; rw [laid_all _ _ (by rfl)]))
        refine bodyPost_ret (results_plan rfl _ _ b2 zP zP_len rfl (setRow_heap _ _ _ _ _ _ H2.out)) rfl ?_
        exact ⟨rfl, below_setRow hb hle2 _⟩
      · have HTK := Lib.hid hte
        have hl0b : ((tk.length : Int) == 0) = false := by have := List.length_pos_iff.2 hte; simp; omega
        clear hte
        go_upto_region 14 with (go_at_call 17; refine (HBO.out _ _ _ _ HLS.out _ HS.out.1 (own_intsF HVT.out)).mono ?_; rintro e W6 ⟨⟨vb, rfl, hvb⟩, hb6⟩; obtain ⟨ab_, cb_, evb, hcb1, hcb2, -⟩ := id hvb; subst evb; have HB6 := Lib.hid hb6; have HVB := Lib.hid hvb; clear hb6 hvb)
        have hb36 : b3 < W5.heap.size := row_lt H3.out
        have HVN1 := Lib.hid (intsNe_below HVN.out HB6.out)
        have HS1 := Lib.hid (intsNe_own HVB.out hb36)
        have H0b := Lib.hid (below_row HB6.out H0.out)
        have H1b := Lib.hid (below_row HB6.out H1.out)
        have H2b := Lib.hid (below_row HB6.out H2.out)
        have H3b := Lib.hid (below_row HB6.out H3.out)
        have hbw := hb.trans (HB6.out.mono hb.size)
        have hlen1 := bothL_len sr tk
        clear HVN HB6 H0 H1 H2 H3 hb HS HVB HVT hl0b HTE
        by_cases hem : bothL sr tk = []
        · have HST2 : Hid (st (k + 1) = ⟨k, tk, fillP pn k k ((tk).headD 0)⟩) := Lib.hid (by rw [HST.out]; unfold stepF; rw [if_pos hem])

          have hg0 := head_get HTK.out
          have hxb := (HXB.out) _ (List.mem_of_getElem? hg0)
          have HG0 := Lib.hid hg0
          have hl0 : (bothL sr tk).length = 0 := by rw [hem]; rfl
          have hl0b : (((bothL sr tk).length : Int) == 0) = true := by rw [hl0]; rfl
          have hpos : (0 : Int) < ((tk).length : Int) := by have := List.length_pos_iff.2 HTK.out; omega
          clear hg0 hem hl0 HST
          generalize hxv : (tk).headD 0 = x0 at *
          have hwx : IntKind.i16.wrap x0 = x0 := by rw [IntWalk.i16_in _ (by omega)]
          clear hxv
          go_upto_region 19 with (fail)
          clear hl0b
          obtain ⟨wo, hwo⟩ : ∃ wo : World, wo = W6 := ⟨_, rfl⟩
          clear hwo
          go_loopw [20] (fun i wq => ∃ m : Nat, k ≤ m ∧ m ≤ k + 1 ∧ i = .int .i64 (m : Int) ∧ IntsNe wq b3 (.slice at_ tk.length ct_) (tk) ∧ wq.heap[w.heap.size]? = some (.cells (blindC n wd gp t sh) 33 (0, 0)) ∧ wq.heap[b1]? = some (.cells (sunC hs ts) 35 (0, 0)) ∧ wq.heap[b2]? = some (.cells (i16s zP) 30 (0, 0)) ∧ wq.heap[b3]? = some (.cells (i16s (fillTo pn k x0 m)) 30 (0, 0)) ∧ Below w.heap.size w wq) (fun i _ => k + 1 - (intOf i).toNat)
          case atStart => exact ⟨k, Nat.le_refl _, by omega, rfl, HVN1.out, H0b.out, H1b.out, H2b.out, by rw [fillTo_start]; exact H3b.out, hbw⟩
          case round =>
            clear H0b H1b H2b H3b hbw HVN1
            obtain ⟨m, hfm, hmk, rfl, hsn, h0, h1, h2, h3, hbq⟩ := hrel
            have HQ := Lib.hid hsn
            have H0 := Lib.hid h0
            have H1 := Lib.hid h1
            have H2 := Lib.hid h2
            have H3 := Lib.hid h3
            clear hsn h0 h1 h2 h3
            by_cases hlm : m ≤ k
            · obtain ⟨g, o, esl, hcell⟩ := int_atF HQ.out.1 HG0.out
              subst esl
              rw [Nat.add_zero] at hcell
              have y1 : (m : Int) ≤ (k : Int) := by omega
              have y2 : (0 : Int) ≤ (m : Int) := by omega
              have y3 : (m : Int) < 24 := by omega
              have hfl := fillTo_len pn k x0 m
              have hd := cell_of_i16s H3.out m (by rw [hfl, hpl]; omega)
              have hf := frozen_of_row _ b3 m _ _ H3.out
              go_wp2
              go_roundw
              case rel => exact ⟨m + 1, by omega, by omega, by go_num, intsNe_setCell HQ.out, (heap_setCell_other _ _ _ _ (by simp; omega)).trans H0.out, (heap_setCell_other _ _ _ _ (by simp; omega)).trans H1.out, (heap_setCell_other _ _ _ _ (by simp; omega)).trans H2.out, by rw [heap_setCell_same _ _ _ _ _ _ H3.out, i16s_set, fillTo_step _ _ _ hfm (by rw [hpl]; omega)], hbq.setCell (p := ⟨b3, m, none⟩) hle3 _⟩
              case measure => simp [intOf]; omega
            · obtain rfl : m = k + 1 := by omega
              rw [fillTo_end] at H3
              have y1 : ¬ ((k : Int) + 1 ≤ (k : Int)) := by omega
              go_wp2
              go_roundw
              case rel => exact ⟨k + 1, by omega, by first | (simp; done) | (simp; omega), by rw [HST2.out], by rw [HST2.out]; exact HQ.out, H0.out, H1.out, H2.out, by rw [HST2.out]; exact H3.out, hbq, HNE1.out HTK.out⟩
              case measure => simp [intOf]; omega
        · have HST2 : Hid (st (k + 1) = ⟨f, (bothL sr tk), fillP pn f k (((bothL sr tk)).headD 0)⟩) := Lib.hid (by rw [HST.out]; unfold stepF; rw [if_neg hem])
          have HNE := Lib.hid hem
          have hg0 := head_get HNE.out
          have hxb := ((fun x hx => HXS.out x (bothL_mem hx))) _ (List.mem_of_getElem? hg0)
          have HG0 := Lib.hid hg0
          have hl0 : ((bothL sr tk).length : Int) ≠ 0 := by have := List.length_pos_iff.2 hem; omega
          have hl0b : (((bothL sr tk).length : Int) == 0) = false := by simpa using hl0
          have hpos : (0 : Int) < (((bothL sr tk)).length : Int) := by have := List.length_pos_iff.2 HNE.out; omega
          clear hg0 hem hl0 HST
          generalize hxv : ((bothL sr tk)).headD 0 = x0 at *
          have hwx : IntKind.i16.wrap x0 = x0 := by rw [IntWalk.i16_in _ (by omega)]
          clear hxv
          go_upto_region 19 with (fail)
          clear hl0b
          obtain ⟨wo, hwo⟩ : ∃ wo : World, wo = W6 := ⟨_, rfl⟩
          clear hwo
          go_loopw [20] (fun i wq => ∃ m : Nat, f ≤ m ∧ m ≤ k + 1 ∧ i = .int .i64 (m : Int) ∧ IntsNe wq b3 (.slice ab_ (bothL sr tk).length cb_) ((bothL sr tk)) ∧ wq.heap[w.heap.size]? = some (.cells (blindC n wd gp t sh) 33 (0, 0)) ∧ wq.heap[b1]? = some (.cells (sunC hs ts) 35 (0, 0)) ∧ wq.heap[b2]? = some (.cells (i16s zP) 30 (0, 0)) ∧ wq.heap[b3]? = some (.cells (i16s (fillTo pn f x0 m)) 30 (0, 0)) ∧ Below w.heap.size w wq) (fun i _ => k + 1 - (intOf i).toNat)
          case atStart => exact ⟨f, Nat.le_refl _, by omega, rfl, HS1.out, H0b.out, H1b.out, H2b.out, by rw [fillTo_start]; exact H3b.out, hbw⟩
          case round =>
            clear H0b H1b H2b H3b hbw HS1
            obtain ⟨m, hfm, hmk, rfl, hsn, h0, h1, h2, h3, hbq⟩ := hrel
            have HQ := Lib.hid hsn
            have H0 := Lib.hid h0
            have H1 := Lib.hid h1
            have H2 := Lib.hid h2
            have H3 := Lib.hid h3
            clear hsn h0 h1 h2 h3
            by_cases hlm : m ≤ k
            · obtain ⟨g, o, esl, hcell⟩ := int_atF HQ.out.1 HG0.out
              subst esl
              rw [Nat.add_zero] at hcell
              have y1 : (m : Int) ≤ (k : Int) := by omega
              have y2 : (0 : Int) ≤ (m : Int) := by omega
              have y3 : (m : Int) < 24 := by omega
              have hfl := fillTo_len pn f x0 m
              have hd := cell_of_i16s H3.out m (by rw [hfl, hpl]; omega)
              have hf := frozen_of_row _ b3 m _ _ H3.out
              go_wp2
              go_roundw
              case rel => exact ⟨m + 1, by omega, by omega, by go_num, intsNe_setCell HQ.out, (heap_setCell_other _ _ _ _ (by simp; omega)).trans H0.out, (heap_setCell_other _ _ _ _ (by simp; omega)).trans H1.out, (heap_setCell_other _ _ _ _ (by simp; omega)).trans H2.out, by rw [heap_setCell_same _ _ _ _ _ _ H3.out, i16s_set, fillTo_step _ _ _ hfm (by rw [hpl]; omega)], hbq.setCell (p := ⟨b3, m, none⟩) hle3 _⟩
              case measure => simp [intOf]; omega
            · obtain rfl : m = k + 1 := by omega
              rw [fillTo_end] at H3
              have y1 : ¬ ((k : Int) + 1 ≤ (k : Int)) := by omega
              go_wp2
              go_roundw
              case rel => exact ⟨k + 1, by omega, by first | (simp; done) | (simp; omega), by rw [HST2.out], by rw [HST2.out]; exact HQ.out, H0.out, H1.out, H2.out, by rw [HST2.out]; exact H3.out, hbq, HNE1.out HTK.out⟩
              case measure => simp [intOf]; omega
    · have e24 : k = 24 := by omega
      obtain ⟨e1, e2, e3⟩ := HAA.out (fun h hh => HNE0.out h (by omega))
      subst e1 e2 e3
      rw [HP.out k e24] at H3
      have H6 := H3
      clear H3 HS HSB HSL HSF HSLEN HP HB64 HLEN HTI HSTK HAA HBB HNE0 HBO
      generalize st k = s0 at *
      have z1 : ¬ (k : Int) < 24 := by omega
      clear e24 hlt hk
      go_wp2
      try dsimp only [Act.put]
      refine wp_region_held_drew (S := (fun X => X.heap[b3]? = some (.cells (i16s pl) 30 (0, 0)) ∧ (∃ zz : Array Value, zz.size = 24 ∧ X.heap[b2]? = some (.cells zz 30 (0, 0))) ∧ Below w.heap.size w X)) (by kernel_rfl) ⟨H6.out, ⟨_, rfl, H2.out⟩, hb.drew⟩ (fun hHeld => ?_)
      refine take_op (i := 0) (d := 75) (v := .agg (i16s pl)) rfl rfl (by kernel_rfl) (by kernel_rfl) (by kernel_rfl) (fun _ _ _ h => h) (yields_row (by rfl) 30 (.tmp 13) (by rfl) b3 0 24 (by rfl) 30 (i16s pl) (0, 0) _ (fun _ h => h.1) Tryz.underlying30 rfl info_plan (by rw [i16s_size, HPL.out]; decide) (i16s pl) (i16s_all _ 24 HPL.out)) hHeld ?_
      simp only [List.setIfInBounds_toArray, List.set_cons_zero, List.set_cons_succ]
      have H2d : Hid (wr.drew.heap[b2]? = some (.cells (i16s zP) 30 (0, 0))) := H2.out
      generalize wr.drew = X0 at *
      refine wpAnyH_ready (rs := [1]) (by kernel_rfl) (by simp) ?_
      refine AllReadyH.cons rfl (fun K hK => ?_) AllReadyH.nil
      go_simp
      refine (HCH.out _ _ hHeld.1).mono ?_
      rintro e X1 ⟨rfl, hb1⟩
      have H2x1 := Lib.hid (below_row hb1 H2d.out)
      refine hK.out _ _ ⟨below_row hb1 hHeld.1, ⟨_, rfl, H2x1.out⟩, hHeld.2.2.trans (hb1.mono hHeld.2.2.size)⟩ (fun hHeld2 => ?_)
      clear hK K hb1
      replace hHeld := hHeld2
      clear hHeld2
      have hst := run_store_rowC (P := Tryz.prog) _ b2 30 (i16s pl) _ H2x1.out (by rw [i16s_size, i16s_size, HPL.out]; rfl) (i16s_one _)
      refine wpAnyH_ready (rs := [2]) (by kernel_rfl) (by simp) ?_
      refine AllReadyH.cons rfl (fun K hK => ?_) AllReadyH.nil
      have hpl24 : pl.length = 24 := HPL.out
      go_simp
      refine hK.out _ _ ⟨(setRow_other _ _ _ _ (by omega)).trans hHeld.1, ⟨_, (by rw [i16s_size]; exact HPL.out), setRow_heap _ _ _ _ _ _ H2x1.out⟩, below_setRow hHeld.2.2 hle2 _⟩ (fun hHeld2 => ?_)
      clear hK K hst hpl24
      have HR1 := Lib.hid (setRow_heap _ _ _ (i16s pl) _ _ H2x1.out)
      replace hHeld := hHeld2
      clear hHeld2
      refine take_op (i := 3) (d := 11) (v := ?_) rfl rfl (by kernel_rfl) (by kernel_rfl) (by kernel_rfl) (fun _ _ _ h => h) (Or.inl ⟨by rfl, ?hy3u241⟩) hHeld ?rest3u241
      case hy3u241 =>
        intro w' hS'
        go_simp
        try with_reducible rfl
      simp only [List.setIfInBounds_toArray, List.set_cons_zero, List.set_cons_succ]
      refine take_op (i := 4) (d := 12) (v := ?_) rfl rfl (by kernel_rfl) (by kernel_rfl) (by kernel_rfl) (fun _ _ _ h => h) (Or.inl ⟨by rfl, ?hy4u242⟩) hHeld ?rest4u242
      case hy4u242 =>
        intro w' hS'
        go_simp
        try with_reducible rfl
      simp only [List.setIfInBounds_toArray, List.set_cons_zero, List.set_cons_succ]
      refine wpAnyH_done (by kernel_rfl) ?_ _
      have hbx := hHeld.2.2
      have hr := HR1.out
      clear hHeld
      go_wp2
      refine bodyPost_ret (results_plan rfl _ _ b2 pl HPL.out rfl hr) rfl ?_
      exact ⟨rfl, hbx⟩

end Go.Proofs.YtmniodfdoidffaaGreatDoor

namespace Go.Proofs.YtmniodfdoidffaaGreatDoor
open Go.RowKit

def gtY (x y : Nat) : Bool := FloatKind.f32.format.order x y == some .gt

def bstI (zs : List Nat) : Nat → Nat
  | 0 => 0
  | k + 1 => if gtY (zs.getD k 0) (zs.getD (bstI zs k) 0) then k else bstI zs k

theorem bstI_lt (zs : List Nat) {n : Nat} (hn : 0 < n) : ∀ k, k ≤ n → bstI zs k < n
  | 0, _ => hn
  | k + 1, h => by
    rw [bstI]
    split
    · omega
    · exact bstI_lt zs hn k (by omega)

theorem bstI_up {zs : List Nat} {k : Nat} (h : gtY (zs.getD k 0) (zs.getD (bstI zs k) 0) = true) : bstI zs (k + 1) = k := by rw [bstI, if_pos h]

theorem bstI_stay {zs : List Nat} {k : Nat} (h : gtY (zs.getD k 0) (zs.getD (bstI zs k) 0) = false) : bstI zs (k + 1) = bstI zs k := by rw [bstI, if_neg (by rw [h]; decide)]

theorem bstI_one (zs : List Nat) : bstI zs 1 = 0 := by
  rw [bstI]
  split <;> rfl

/-- A sum of numbers from the first one on. -/
def sumL (zs : List Nat) (k : Nat) : Nat := sumTo (fun i => zs.getD i 0) k

theorem sumL_pos {zs : List Nat} (h : ∀ z ∈ zs, pos32 z = true) {k : Nat} (hk : k ≤ zs.length) : pos32 (sumL zs k) = true := by
  refine sumTo_pos _ zs.length (fun i hi => ?_) k hk
  have e : zs[i]? = some zs[i] := List.getElem?_eq_getElem hi
  rw [List.getD, e]
  exact h _ (List.getElem_mem _)

theorem sumL_step {zs : List Nat} (h : ∀ z ∈ zs, pos32 z = true) {k x : Nat} (hx : zs[k]? = some x) : floatBits .add .f32 (sumL zs k) x = some (sumL zs (k + 1)) := by
  have hk := (List.getElem?_eq_some_iff.1 hx).1
  have e : sumL zs (k + 1) = fadd (sumL zs k) x := by
    unfold sumL
    rw [sumTo_succ, List.getD, hx]
    rfl
  rw [e]
  exact (add_ok (sumL_pos h (by omega)) (h x (List.mem_of_getElem? hx))).1

theorem pos_above {x : Nat} (h : pos32 x = true) : FloatKind.f32.format.order x 3212836864 = some .gt := by
  show (Ieee.single.read x).order (Ieee.single.read 3212836864) = some .gt
  rw [show Ieee.single.read 3212836864 = .number true 8388608 (-23) by decide +kernel]
  unfold pos32 at h
  cases hr : Ieee.single.read x with
  | nan s f => rw [hr] at h; cases h
  | infinity s =>
    rw [hr] at h
    cases s
    · rfl
    · cases h
  | number s m e =>
    rw [hr] at h
    cases s
    · have h1 : 0 ≤ Ieee.signed false m (e - min e (-23)).toNat := signed_nonneg _ _
      have h2 : Ieee.signed true 8388608 (-23 - min e (-23)).toNat < 0 := by
        unfold Ieee.signed
        rw [if_pos rfl]
        have h3 : 0 < 8388608 <<< (-23 - min e (-23)).toNat := by
          rw [Nat.shiftLeft_eq]
          exact Nat.mul_pos (by decide) (Nat.two_pow_pos _)
        omega
      show some (compare (Ieee.signed false m (e - min e (-23)).toNat) (Ieee.signed true 8388608 (-23 - min e (-23)).toNat)) = some .gt
      simp only [compare, compareOfLessAndEq]
      rw [if_neg (by omega), if_neg (by omega)]
    · cases h

end Go.Proofs.YtmniodfdoidffaaGreatDoor

namespace Go.Proofs.YtmniodfdoidffaaGreatDoor
open Go.RowKit

theorem bstI_app (zs ys : List Nat) : ∀ k, k ≤ zs.length → bstI (zs ++ ys) k = bstI zs k
  | 0, _ => rfl
  | k + 1, h => by
    have hb := bstI_lt zs (n := zs.length) (by omega) k (by omega)
    have e1 : (zs ++ ys).getD k 0 = zs.getD k 0 := by rw [List.getD, List.getD, List.getElem?_append_left (by omega)]
    have e2 : (zs ++ ys).getD (bstI zs k) 0 = zs.getD (bstI zs k) 0 := by rw [List.getD, List.getD, List.getElem?_append_left hb]
    rw [bstI, bstI, bstI_app zs ys k (by omega), e1, e2]

def mFz (zs : List Nat) : Nat := if zs = [] then 3212836864 else zs.getD (bstI zs zs.length) 0

theorem pos_not_lt {x : Nat} (h : pos32 x = true) : (FloatKind.f32.format.order x 0 == some .lt) = false := by
  have e0 : Ieee.single.read 0 = .number false 0 (-149) := by decide +kernel
  show ((Ieee.single.read x).order (Ieee.single.read 0) == some .lt) = false
  rw [e0]
  unfold pos32 at h
  cases hr : Ieee.single.read x with
  | nan s f => rw [hr] at h; cases h
  | infinity s =>
    rw [hr] at h
    cases s
    · rfl
    · cases h
  | number s m e =>
    rw [hr] at h
    cases s
    · have h1 : 0 ≤ Ieee.signed false m (e - min e (-149)).toNat := signed_nonneg _ _
      have h2 : Ieee.signed false 0 (-149 - min e (-149)).toNat = 0 := by
        unfold Ieee.signed
        rw [if_neg (by decide)]
        simp
      show (some (compare (Ieee.signed false m (e - min e (-149)).toNat) (Ieee.signed false 0 (-149 - min e (-149)).toNat)) == some .lt) = false
      rw [h2]
      simp only [compare, compareOfLessAndEq]
      rw [if_neg (by omega)]
      split <;> rfl
    · cases h

theorem neg_lt : (FloatKind.f32.format.order 3212836864 0 == some .lt) = true := by decide +kernel

/-- The tilt with the most light. -/
def bpT (g : Int → Nat) (L : List Int) : Int := L.getD (bstI (L.map g) L.length) 0

theorem mFz_best {g : Int → Nat} {L : List Int} (h : L ≠ []) : mFz (L.map g) = g (bpT g L) := by
  have hl : 0 < L.length := List.length_pos_iff.2 h
  have hb := bstI_lt (L.map g) (n := L.length) hl L.length (Nat.le_refl _)
  unfold mFz bpT
  rw [if_neg (by simpa using h), List.length_map, List.getD, List.getElem?_map, List.getD, List.getElem?_eq_getElem hb]
  rfl

theorem mFz_pos {zs : List Nat} (h : ∀ z ∈ zs, pos32 z = true) (h0 : zs ≠ []) : pos32 (mFz zs) = true := by
  have hb := bstI_lt zs (n := zs.length) (List.length_pos_iff.2 h0) zs.length (Nat.le_refl _)
  unfold mFz
  rw [if_neg h0, List.getD, List.getElem?_eq_getElem hb]
  exact h _ (List.getElem_mem _)

theorem mFz_fin {zs : List Nat} (h : ∀ z ∈ zs, pos32 z = true) : fin32 (mFz zs) = true := by
  by_cases h0 : zs = []
  · unfold mFz; rw [if_pos h0]; decide +kernel
  · exact pos_fin (mFz_pos h h0)

theorem bp_step {g : Int → Nat} {L : List Int} {x : Int} {od : Ordering} (hp : pos32 (g x) = true) (ho : FloatKind.f32.format.order (g x) (mFz (L.map g)) = some od) :
    (od = .gt → mFz ((L ++ [x]).map g) = g x ∧ bpT g (L ++ [x]) = x) ∧ (od ≠ .gt → mFz ((L ++ [x]).map g) = mFz (L.map g) ∧ L ≠ [] ∧ bpT g (L ++ [x]) = bpT g L) := by
  have hmap : (L ++ [x]).map g = L.map g ++ [g x] := by simp
  have hne : (L ++ [x]).map g ≠ [] := by simp
  have hgk : (L.map g ++ [g x]).getD L.length 0 = g x := by simp [List.getD]
  by_cases h0 : L = []
  · subst h0
    have e : mFz (([] : List Int).map g) = 3212836864 := rfl
    rw [e, pos_above hp] at ho
    injection ho with ho
    refine ⟨fun _ => ⟨?_, ?_⟩, fun h => absurd ho.symm h⟩
    · unfold mFz
      rw [if_neg hne]
      show [g x].getD (bstI [g x] 1) 0 = g x
      rw [bstI_one]; rfl
    · unfold bpT
      show [x].getD (bstI [g x] 1) 0 = x
      rw [bstI_one]; rfl
  · have hl : 0 < L.length := List.length_pos_iff.2 h0
    have hb := bstI_lt (L.map g) (n := L.length) hl L.length (Nat.le_refl _)
    have happ := bstI_app (L.map g) [g x] L.length (by simp)
    have hgb : (L.map g ++ [g x]).getD (bstI (L.map g) L.length) 0 = (L.map g).getD (bstI (L.map g) L.length) 0 := by rw [List.getD, List.getD, List.getElem?_append_left (by rw [List.length_map]; exact hb)]
    have em : mFz (L.map g) = (L.map g).getD (bstI (L.map g) L.length) 0 := by unfold mFz; rw [if_neg (by simpa using h0), List.length_map]
    have hlen : ((L ++ [x]).map g).length = L.length + 1 := by simp
    have hlen2 : (L ++ [x]).length = L.length + 1 := by simp
    rw [em] at ho
    constructor
    · intro h
      have e1 : gtY ((L.map g ++ [g x]).getD L.length 0) ((L.map g ++ [g x]).getD (bstI (L.map g ++ [g x]) L.length) 0) = true := by
        rw [happ, hgk, hgb]; unfold gtY; rw [ho, h]; rfl
      have e2 := bstI_up e1
      constructor
      · unfold mFz
        rw [if_neg hne, hlen, hmap, e2, hgk]
      · unfold bpT
        rw [hlen2, hmap, e2]
        simp [List.getD]
    · intro h
      have e1 : gtY ((L.map g ++ [g x]).getD L.length 0) ((L.map g ++ [g x]).getD (bstI (L.map g ++ [g x]) L.length) 0) = false := by
        rw [happ, hgk, hgb]; unfold gtY; rw [ho]; cases od <;> first | rfl | exact absurd rfl h
      have e2 := (bstI_stay e1).trans happ
      refine ⟨?_, h0, ?_⟩
      · unfold mFz
        rw [if_neg hne, if_neg (by simpa using h0), hlen, hmap, e2, hgb, List.length_map]
      · unfold bpT
        rw [hlen2, hmap, e2, List.getD, List.getElem?_append_left hb]
        rfl

theorem bpT_mem {g : Int → Nat} {L : List Int} (h : L ≠ []) : bpT g L ∈ L := by
  have hl : 0 < L.length := List.length_pos_iff.2 h
  have hb := bstI_lt (L.map g) (n := L.length) hl L.length (Nat.le_refl _)
  unfold bpT
  rw [List.getD, List.getElem?_eq_getElem hb]
  exact List.getElem_mem _

/-- The plan with the most light in each hour. -/
def bpL (g : Nat → Int → Nat) (T : Nat → List Int) (k : Nat) : List Int := (List.range k).map (fun h => bpT (g h) (T h)) ++ List.replicate (24 - k) 0

theorem bpL_len (g : Nat → Int → Nat) (T : Nat → List Int) {k : Nat} (h : k ≤ 24) : (bpL g T k).length = 24 := by
  unfold bpL
  simp
  omega

theorem bpL_set (g : Nat → Int → Nat) (T : Nat → List Int) {k : Nat} (h : k < 24) : (bpL g T k).set k (bpT (g k) (T k)) = bpL g T (k + 1) := by
  unfold bpL
  have e2 : 24 - k = (24 - (k + 1)) + 1 := by omega
  rw [List.set_append_right _ _ (by simp), e2, List.replicate_succ, List.length_map, List.length_range, Nat.sub_self, List.set_cons_zero, List.range_succ, List.map_append, List.append_assoc]
  rfl

theorem bpL_get (g : Nat → Int → Nat) (T : Nat → List Int) {k : Nat} (h : k < 24) : (bpL g T 24)[k]?.getD 0 = bpT (g k) (T k) := by
  unfold bpL
  rw [List.getElem?_append_left (by simpa using h), List.getElem?_map, List.getElem?_range h]
  rfl

theorem sumTo_congr {f h : Nat → Nat} : ∀ k, (∀ j, j < k → f j = h j) → sumTo f k = sumTo h k
  | 0, _ => rfl
  | k + 1, e => by rw [sumTo_succ, sumTo_succ, sumTo_congr k (fun j hj => e j (by omega)), e k (by omega)]

end Go.Proofs.YtmniodfdoidffaaGreatDoor

namespace Go.Proofs.YtmniodfdoidffaaGreatDoor
open Go.RowKit

/-- The word that a NaN is widened to. -/
def nanW (x : Nat) (w : World) : Nat := (Question.nanConv .f64 x).cut (w.tape w.drawn (.nanConv .f64 x))
theorem read_nan64 (s r : Nat) (hr : r < 4503599627370495) : ∃ a b, Ieee.double.read (s * 9223372036854775808 + 9218868437227405312 + 1 + r) = .nan a b := by
  have hb : Ieee.double.binade = 4503599627370496 := by decide
  have hi : Ieee.double.infRung = 9218868437227405312 := by decide
  have hw : Ieee.double.signWeight = 9223372036854775808 := by decide
  have em : (s * 9223372036854775808 + 9218868437227405312 + 1 + r) % 9223372036854775808 = 9218868437227405313 + r := by omega
  unfold Ieee.Format.read
  rw [hw, hb, hi]
  dsimp only
  rw [em, if_neg (by omega), if_neg (by omega), if_neg (by omega)]
  exact ⟨_, _, rfl⟩
theorem nanW_nan (x : Nat) (w : World) : FloatKind.f64.format.order (nanW x w) (nanW x w) = none := by
  have key : ∀ t, (Question.nanConv .f64 x).cut t = (t % 2) * 9223372036854775808 + 9218868437227405312 + 1 + (t / 2) % 4503599627370495 := fun t => rfl
  unfold nanW
  rw [key]
  generalize w.tape w.drawn (.nanConv .f64 x) = t
  obtain ⟨s, g, e⟩ := read_nan64 (t % 2) ((t / 2) % 4503599627370495) (Nat.mod_lt _ (by omega))
  generalize t % 2 * 9223372036854775808 + 9218868437227405312 + 1 + t / 2 % 4503599627370495 = p at *
  show (Ieee.double.read p).order (Ieee.double.read p) = none
  rw [e]; rfl
theorem run_wide_nan (x : Nat) (h : fin32 x = false) (w : World) : (convert 23 42 (.float .f32 x)).run Tryz.prog w = .ok (.float .f64 (nanW x w)) w.drew := by
  have hn : ∃ s g, FloatKind.f32.decode x = .nan s g := by
    unfold fin32 at h
    show ∃ s g, Ieee.single.read x = .nan s g
    cases hr : Ieee.single.read x with
    | nan s g => exact ⟨s, g, rfl⟩
    | infinity s => rw [hr] at h; cases h
    | number s m e => rw [hr] at h; cases h
  obtain ⟨s, g, hn⟩ := hn
  simp [convert, run_underlying Tryz.underlying23, run_underlying Tryz.underlying42, Conv.floatToFloat, hn, Question.forced, nanW]
set_option maxHeartbeats 400000 in
theorem same_nan (a b : Nat) (ha : FloatKind.f64.format.order a a = none) (hb : FloatKind.f64.format.order b b = none) (w : World) :
    Calls Tryz.prog 12 #[.float .f64 a, .float .f64 b] w fun e w' => e = .returned (.bool true) ∧ w = w' := by
  go_enter Tryz.func12, Tryz.ntmps12
  go_wp2
  go_ret
  exact ⟨rfl, rfl⟩

end Go.Proofs.YtmniodfdoidffaaGreatDoor

namespace Go.Proofs.YtmniodfdoidffaaGreatDoor
open Go.ChangeShapes Go.WideShapes Go.ChangeAt Go.RowKit Go.Deep Go.Joins

attribute [local go_sem] run_store_f

def FloatsAt (W : World) (v : Value) (zs : List Nat) : Prop :=
  ∃ a cap, v = .slice a zs.length cap ∧ zs.length ≤ cap ∧ cap ≤ maxLen ∧ ∀ i x, zs[i]? = some x → ∃ g o, a = some ⟨g, o, none⟩ ∧ W.cell? ⟨g, o + i, none⟩ = some (.float .f32 x)

theorem floats_below {W W' : World} {v : Value} {zs : List Nat} (h : FloatsAt W v zs) (hb : Below W.heap.size W W') : FloatsAt W' v zs := by
  obtain ⟨a, cap, h1, h2, h3, h4⟩ := h
  refine ⟨a, cap, h1, h2, h3, fun i x hx => ?_⟩
  obtain ⟨g, o, e, c0⟩ := h4 i x hx
  exact ⟨g, o, e, cell_below hb c0⟩

theorem floats_belowB {B : Nat} {W W' : World} {v : Value} {zs : List Nat} (h : FloatsAt W v zs) (hb : Below B W W') (hB : W.heap.size ≤ B) : FloatsAt W' v zs := floats_below h (hb.mono hB)

theorem float_at {W : World} {a : Option Addr} {n cap : Nat} {zs : List Nat} (h : FloatsAt W (.slice a n cap) zs) {k : Nat} {x : Nat} (hx : zs[k]? = some x) :
    ∃ g o, a = some ⟨g, o, none⟩ ∧ W.cell? ⟨g, o + k, none⟩ = some (.float .f32 x) := by
  obtain ⟨a', cap', e, _, _, h4⟩ := h
  injection e with e1 e2 e3
  subst e1
  exact h4 k x hx

set_option maxRecDepth 100000 in
theorem open_floatS {H : Type} {enc : TypeId × Value → H} {W : World} {b0 base : Nat} {spare : Nat → Bool} {held : Bool} {r : Reach} {v : Value} {d : DataW H} {p : List MemPlace}
    (hv : Value.okWide Tryz.prog W r b0 73 v) (h : DataW.Trod enc Tryz.prog W base spare held 73 v d p) : ∃ zs, FloatsAt W v zs ∧ ∀ z ∈ zs, (Lit.float .f32 z).wf = true := by
  obtain ⟨a0, len0, cap0, rfl⟩ := okWide_slice Tryz.underlying73 hv
  obtain ⟨fuel, hf⟩ := h
  rcases open_slice1 Tryz.underlying73 (by kernel_rfl) hf with ⟨hcs, _⟩ | ⟨a, len, cap, m, n, V, D, Pl, hcs, _, hl, hm, hmm, _, hi⟩
  · simp [Value.cells] at hcs
    obtain ⟨rfl, rfl, rfl⟩ := hcs
    exact ⟨[], ⟨none, 0, rfl, Nat.le_refl _, by unfold maxLen; omega, fun i x hx => by simp at hx⟩, fun x hx => by cases hx⟩
  · simp [Value.cells] at hcs
    obtain ⟨rfl, rfl, rfl⟩ := hcs
    have hspot : 0 < len0 → a.spot = none := by
      intro h0
      have g0 := (hi 0 (by rw [hmm]; split <;> omega)).1
      have := World.cell?_spot g0
      simpa [Addr.add] using this
    have key : ∀ i, i < len0 → ∃ x : Nat, (Lit.float .f32 x).wf = true ∧ ∃ g o, some a = some ⟨g, o, none⟩ ∧ W.cell? ⟨g, o + i, none⟩ = some (.float .f32 x) := by
      intro i hlt
      obtain ⟨hc, ht⟩ := hi i (by rw [hmm]; split <;> omega)
      obtain ⟨x, q, wx⟩ := trod_f Tryz.underlying23 ht
      simp only [List.cons.injEq, and_true] at q
      rw [q] at hc
      have hsp := hspot (by omega)
      obtain ⟨g, o, spot⟩ := a
      obtain rfl : spot = none := hsp
      rw [addr_add] at hc
      exact ⟨x, wx, g, o, rfl, hc⟩
    obtain ⟨ws, hlen, hall⟩ := list_of len0 key
    subst hlen
    refine ⟨ws, ⟨some a, cap0, rfl, hl, hm, fun i x hx => (hall i x hx).2⟩, fun x hx => ?_⟩
    obtain ⟨i, hi⟩ := List.mem_iff_getElem?.1 hx
    exact (hall i x hi).1

theorem info_f32 : (Tryz.prog.info? 23).map (fun i => (i.zero, i.size, i.bytes)) = some (some (.float .f32 0), 1, 4) := by kernel_rfl

theorem make_floats (n : Nat) (hn : n ≤ 1048576) (w : World) : (Instr.makeSlice 73 (.int .i64 (n : Int)) (.int .i64 (n : Int))).run Tryz.prog w = .ok (.slice (some ⟨w.heap.size, 0, none⟩) n n) (w.alloc (.cells (madeCells #[.float .f32 0] n) 23)) := by
  obtain ⟨i0, hi, hz0, hz1, hz2⟩ := info_parts info_f32
  have h := run_make (P := Tryz.prog) w 73 23 i0 _ Tryz.underlying73 hi hz0 .i64 .i64 (n : Int) (n : Int) (by omega) (Int.le_refl _) (by rw [hz2]; omega) (by omega)
  rw [hz1] at h
  simpa [Value.cells] using h

end Go.Proofs.YtmniodfdoidffaaGreatDoor

namespace Go.Proofs.YtmniodfdoidffaaGreatDoor
open Go.ChangeShapes Go.WideShapes Go.ChangeAt Go.RowKit Go.Deep Go.Joins

attribute [local go_sem] run_store_f

theorem getD_at {zs : List Nat} {k x : Nat} (h : zs[k]? = some x) : zs.getD k 0 = x := by rw [List.getD, h]; rfl

set_option maxRecDepth 100000 in
set_option maxHeartbeats 4000000 in
theorem greatestOf_any (sv : Value) (zs : List Nat) (hf : ∀ z ∈ zs, fin32 z = true) (h0 : 1 ≤ zs.length) (w : World) (hz : FloatsAt w sv zs) :
    Calls Tryz.prog 47 #[sv] w fun e w' => e = .returned (.tuple #[.int .i64 (bstI zs zs.length : Int), .float .f32 (zs.getD (bstI zs zs.length) 0)]) ∧ Below w.heap.size w w' := by
  have HW := Lib.hid hz
  have HF := Lib.hid hf
  obtain ⟨a, cap, rfl, hl, hm, _⟩ := hz
  unfold maxLen at hm
  generalize hn : zs.length = n' at *
  have HN := Lib.hid hn
  have HB := Lib.hid (fun k (hk : k ≤ n') => bstI_lt zs (n := n') (by omega) k hk)
  clear hn hf
  go_enter Tryz.func47, Tryz.ntmps47
  go_wp2
  go_loopw [4, 9] (fun b i wr => ∃ k : Nat, k ≤ n' ∧ i = .int .i64 k ∧ b = .int .i64 (bstI zs k : Int) ∧ w = wr) (fun _ i _ => n' - (intOf i).toNat)
  case atStart => exact ⟨0, Nat.zero_le _, rfl, rfl, rfl⟩
  case round =>
    obtain ⟨k, hk, rfl, rfl, rfl⟩ := hrel
    have hbl := HB.out k hk
    have hy : zs[bstI zs k]? = some (zs[bstI zs k]'(by rw [HN.out]; exact hbl)) := List.getElem?_eq_getElem _
    obtain ⟨g1, o1, rfl, hcy⟩ := float_at HW.out hy
    have HFY := Lib.hid (HF.out _ (List.mem_of_getElem? hy))
    generalize (zs[bstI zs k]'(by rw [HN.out]; exact hbl)) = y at *
    have HY := Lib.hid (getD_at hy)
    clear hy
    by_cases hlt : k < n'
    · have hx : zs[k]? = some (zs[k]'(by rw [HN.out]; exact hlt)) := List.getElem?_eq_getElem _
      obtain ⟨g2, o2, e2, hcx⟩ := float_at HW.out hx
      injection e2 with e2
      injection e2 with e2 e3
      subst e2 e3
      have HFX := Lib.hid (HF.out _ (List.mem_of_getElem? hx))
      generalize (zs[k]'(by rw [HN.out]; exact hlt)) = x at *
      have HX := Lib.hid (getD_at hx)
      obtain ⟨od, ho⟩ := order_some HFX.out HFY.out
      have hg : gtY (zs.getD k 0) (zs.getD (bstI zs k) 0) = (od == .gt) := by
        rw [HX.out, HY.out]
        unfold gtY
        rw [ho]
        rfl
      have HG := Lib.hid hg
      have z1 : (k : Int) < (n' : Int) := by omega
      have z2 : (0 : Int) ≤ (k : Int) := by omega
      have z3 : decide ((k : Int) < (n' : Int)) = true := decide_eq_true z1
      have y1 : ((bstI zs k : Nat) : Int) < (n' : Int) := by omega
      have y2 : (0 : Int) ≤ ((bstI zs k : Nat) : Int) := by omega
      have HSU := Lib.hid (fun h => bstI_up (zs := zs) (k := k) h)
      have HSS := Lib.hid (fun h => bstI_stay (zs := zs) (k := k) h)
      clear hx hg HFX HFY
      generalize bstI zs k = bi at *
      cases od with
      | gt =>
        have HE := Lib.hid (HSU.out HG.out)
        clear HSU HSS
        go_wp2
        go_roundw
        case rel => exact ⟨k + 1, by omega, by go_num, by rw [HE.out], by trivial⟩
        case measure => simp [intOf]; omega
      | lt =>
        have HE := Lib.hid (HSS.out HG.out)
        clear HSU HSS
        go_wp2
        go_roundw
        case rel => exact ⟨k + 1, by omega, by go_num, by rw [HE.out], by trivial⟩
        case measure => simp [intOf]; omega
      | eq =>
        have HE := Lib.hid (HSS.out HG.out)
        clear HSU HSS
        go_wp2
        go_roundw
        case rel => exact ⟨k + 1, by omega, by go_num, by rw [HE.out], by trivial⟩
        case measure => simp [intOf]; omega
    · obtain rfl : k = n' := by omega
      have HCB : Hid (w.cell? ⟨g1, o1 + bstI zs k, none⟩ = some (.float .f32 (zs.getD (bstI zs k) 0))) := by rw [HY.out]; exact hcy
      have y1 : ((bstI zs k : Nat) : Int) < (k : Int) := by omega
      have y2 : (0 : Int) ≤ ((bstI zs k : Nat) : Int) := by omega
      have z1 : decide ((k : Int) < (k : Int)) = false := decide_eq_false (by omega)
      clear hcy hlt
      go_wp2
      refine wp_region_held_drew (S := (fun V => V.cell? ⟨g1, o1 + bstI zs k, none⟩ = some (.float .f32 (zs.getD (bstI zs k) 0)) ∧ Below w.heap.size w V)) (by kernel_rfl) ⟨HCB.out, (Below.refl _ _).drew⟩ (fun hHeld => ?_)
      refine take_op (i := 0) (d := 22) (v := ?_) rfl rfl (by kernel_rfl) (by kernel_rfl) (by kernel_rfl) (fun _ _ _ h => h) (Or.inl ⟨by rfl, ?hy0u8⟩) hHeld ?rest0u8
      case hy0u8 =>
        intro w' hS'
        go_simp
        try with_reducible rfl
      simp only [List.setIfInBounds_toArray, List.set_cons_zero, List.set_cons_succ]
      refine take_op (i := 1) (d := 23) (v := ?_) rfl rfl (by kernel_rfl) (by kernel_rfl) (by kernel_rfl) (fun _ _ _ h => h) (Or.inl ⟨by rfl, ?hy1u9⟩) hHeld ?rest1u9
      case hy1u9 =>
        intro w' hS'
        go_simp
        try with_reducible rfl
      simp only [List.setIfInBounds_toArray, List.set_cons_zero, List.set_cons_succ]
      refine take_op (i := 2) (d := 24) (v := ?_) rfl rfl (by kernel_rfl) (by kernel_rfl) (by kernel_rfl) (fun _ _ _ h => h) (Or.inl ⟨by rfl, ?hy2u10⟩) hHeld ?rest2u10
      case hy2u10 =>
        intro w' hS'
        go_simp
        try with_reducible rfl
      simp only [List.setIfInBounds_toArray, List.set_cons_zero, List.set_cons_succ]
      refine take_op (i := 3) (d := 25) (v := ?_) rfl rfl (by kernel_rfl) (by kernel_rfl) (by kernel_rfl) (fun _ _ _ h => h) (Or.inl ⟨by rfl, ?hy3u11⟩) hHeld ?rest3u11
      case hy3u11 =>
        intro w' hS'
        go_simp
        try with_reducible rfl
      simp only [List.setIfInBounds_toArray, List.set_cons_zero, List.set_cons_succ]
      refine take_op (i := 4) (d := 26) (v := ?_) rfl rfl (by kernel_rfl) (by kernel_rfl) (by kernel_rfl) (fun _ _ _ h => h) (Or.inl ⟨by rfl, ?hy4u12⟩) hHeld ?rest4u12
      case hy4u12 =>
        intro w' hS'
        obtain ⟨s1, _⟩ := hS'
        go_simp
        try with_reducible rfl
      simp only [List.setIfInBounds_toArray, List.set_cons_zero, List.set_cons_succ]
      refine take_op (i := 5) (d := 2) (v := ?_) rfl rfl (by kernel_rfl) (by kernel_rfl) (by kernel_rfl) (fun _ _ _ h => h) (Or.inl ⟨by rfl, ?hy5u13⟩) hHeld ?rest5u13
      case hy5u13 =>
        intro w' hS'
        go_simp
        try with_reducible rfl
      simp only [List.setIfInBounds_toArray, List.set_cons_zero, List.set_cons_succ]
      refine take_op (i := 6) (d := 3) (v := ?_) rfl rfl (by kernel_rfl) (by kernel_rfl) (by kernel_rfl) (fun _ _ _ h => h) (Or.inl ⟨by rfl, ?hy6u14⟩) hHeld ?rest6u14
      case hy6u14 =>
        intro w' hS'
        go_simp
        try with_reducible rfl
      simp only [List.setIfInBounds_toArray, List.set_cons_zero, List.set_cons_succ]
      refine wpAnyH_done (by kernel_rfl) ?_ _
      have hbx := hHeld.2
      clear hHeld HCB
      go_wp2
      go_ret2
      exact ⟨rfl, hbx⟩

set_option maxRecDepth 100000 in
set_option maxHeartbeats 1000000 in
theorem addedP_any (sv : Value) (zs : List Nat) (hq : ∀ z ∈ zs, pos32 z = true) (w : World) (hz : FloatsAt w sv zs) :
    Calls Tryz.prog 30 #[sv] w fun e w' => e = .returned (.float .f32 (sumL zs zs.length)) ∧ w = w' := by
  have HT := Lib.hid (fun k x => sumL_step (k := k) (x := x) hq)
  have HW := Lib.hid hz
  obtain ⟨a, cap, rfl, hl, hm, _⟩ := hz
  unfold maxLen at hm
  generalize hn : zs.length = n at *
  have HN := Lib.hid hn
  clear hn hq
  go_enter Tryz.func30, Tryz.ntmps30
  go_wp2
  go_loopw [3, 8] (fun s i wr => ∃ k : Nat, k ≤ n ∧ i = .int .i64 k ∧ s = .float .f32 (sumL zs k) ∧ wr = w) (fun _ i _ => n - (intOf i).toNat)
  case atStart => exact ⟨0, Nat.zero_le _, rfl, rfl, rfl⟩
  case round =>
    obtain ⟨k, hk, rfl, rfl, rfl⟩ := hrel
    by_cases hlt : k < n
    · have hx : zs[k]? = some (zs[k]'(by rw [HN.out]; exact hlt)) := List.getElem?_eq_getElem _
      obtain ⟨g, o, rfl, hc⟩ := float_at HW.out hx
      generalize (zs[k]'(by rw [HN.out]; exact hlt)) = x at *
      have z1 : (k : Int) < (n : Int) := by omega
      have z2 : (0 : Int) ≤ (k : Int) := by omega
      have z3 : decide ((k : Int) < (n : Int)) = true := decide_eq_true z1
      have ra := fun T w => run_float_arith (P := Tryz.prog) w .add T .f32 _ _ _ (HT.out k x hx)
      clear hx
      go_wp2
      go_roundw
      case rel => exact ⟨k + 1, by omega, by go_num, by trivial, by trivial⟩
      case measure => simp [intOf]; omega
    · obtain rfl : k = n := by omega
      go_wp2
      go_ret
      exact ⟨rfl, rfl⟩

end Go.Proofs.YtmniodfdoidffaaGreatDoor
