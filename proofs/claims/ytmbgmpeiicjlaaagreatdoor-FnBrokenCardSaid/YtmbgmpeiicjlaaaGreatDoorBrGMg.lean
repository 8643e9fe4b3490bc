/-
  BrG.
-/
import Derived.Test.YtmbgmpeiicjlaaaGreatDoorBrFMg
import Derived.Test.YtmbgmpeiicjlaaaGreatDoorMt13
import Derived.Test.YtmbgmpeiicjlaaaGreatDoorMt8
import Derived.Test.YtmbgmpeiicjlaaaGreatDoorMt4

namespace Go.Proofs.YtmbgmpeiicjlaaaGreatDoor

open Go.ChangeShapes Go.WideShapes Go.ChangeAt Go.RowKit Go.Deep Go.Joins

attribute [local go_sem] run_store_f

theorem len24n {xs : List Nat} (h : xs.length = 24) : ∃ a0 a1 a2 a3 a4 a5 a6 a7 a8 a9 b0 b1 b2 b3 b4 b5 b6 b7 b8 b9 c0 c1 c2 c3 : Nat, xs = [a0, a1, a2, a3, a4, a5, a6, a7, a8, a9, b0, b1, b2, b3, b4, b5, b6, b7, b8, b9, c0, c1, c2, c3] := by
  match xs, h with
  | [a0, a1, a2, a3, a4, a5, a6, a7, a8, a9, b0, b1, b2, b3, b4, b5, b6, b7, b8, b9, c0, c1, c2, c3], _ => exact ⟨_, _, _, _, _, _, _, _, _, _, _, _, _, _, _, _, _, _, _, _, _, _, _, _, rfl⟩

set_option maxRecDepth 100000 in
theorem built_bf (xs : List Nat) (hx : xs.length = 24) : Tryz.prog.built 102 [(0, .agg (f32s xs))] = some (f32s xs) := by
  obtain ⟨a0, a1, a2, a3, a4, a5, a6, a7, a8, a9, b0, b1, b2, b3, b4, b5, b6, b7, b8, b9, c0, c1, c2, c3, rfl⟩ := len24n hx
  kernel_rfl

set_option maxRecDepth 100000 in
set_option maxHeartbeats 16000000 in
theorem brokenFrom_not (n : Int) (wd gp : Nat) (t : Int) (sh : Nat) (h : Int) (xs xa xb xc : List Nat) (hc : xc.length = 24) (hsm : sameL xc xs = false) (hx : xs.length = 24) (ha : xa.length = 24) (hb' : xb.length = 24) (al : Int)
    (hf0 : ∀ w, Calls Tryz.prog 33 #[.agg (blindC n wd gp t sh), .int .i64 h, .int .u32 0] w fun e w' => e = .returned (.agg (f32s xa)) ∧ Below w.heap.size w w')
    (hsl : ∀ w, Calls Tryz.prog 32 #[.agg (blindC n wd gp t sh)] w fun e w' => e = .returned (.int .u32 al) ∧ Below w.heap.size w w')
    (hf1 : ∀ w, Calls Tryz.prog 33 #[.agg (blindC n wd gp t sh), .int .i64 h, .int .u32 al] w fun e w' => e = .returned (.agg (f32s xb)) ∧ Below w.heap.size w w')
    (hf2 : ∀ w, Calls Tryz.prog 33 #[.agg (blindC n wd gp t sh), .int .i64 h, .int .u32 (bits .andNot .u32 (packP (alP xs xb) 24 : Int) (packP (alP xa xb) 24 : Int))] w fun e w' => e = .returned (.agg (f32s xc)) ∧ Below w.heap.size w w') (w : World) :
    Calls Tryz.prog 38 #[.agg (blindC n wd gp t sh), .int .i64 h, .agg (f32s xs)] w fun e w' => e = .returned (.tuple #[.int .u32 0, .iface 102 (.agg (f32s xs))]) ∧ Below w.heap.size w w' := by
  have HF2 := Lib.hid hf2
  have HSF := Lib.hid (fun w => SameFloor_any xc xs hc hx w)
  rw [hsm] at HSF
  have HF0 := Lib.hid hf0
  have HSL := Lib.hid hsl
  have HF1 := Lib.hid hf1
  have Hx := Lib.hid hx
  have Ha := Lib.hid ha
  have Hb := Lib.hid hb'
  have HAL1 := Lib.hid (fun w => alike_any xs xb hx hb' w)
  have HAL2 := Lib.hid (fun w => alike_any xa xb ha hb' w)
  clear hf0 hsl hf1 hf2 hx ha hb' hc hsm
  go_enter Tryz.func38, Tryz.ntmps38
  go_upto_region 1 with (fail)
  refine abs_code (fun W => W.heap[w.heap.size]? = some (.cells (blindC n wd gp t sh) 28 (0, 0)) ∧ W.heap[w.heap.size + 1]? = some (.cells (f32s xs) 35 (0, 0)) ∧ Below w.heap.size w W) ⟨(two_newB _ _ _).1, (two_newB _ _ _).2.1, (two_newB _ _ _).2.2⟩ ?_
  rintro W1 ⟨h0, h1, hb⟩
  generalize w.heap.size + 1 = b1 at *
  have H0 := Lib.hid h0
  have H1 := Lib.hid h1
  clear h0 h1
  go_cut [8, 9] (fun s8 s9 wx => ∃ g8 g9 : Nat, s8 = .pointer (some ⟨g8, 0, none⟩) ∧ s9 = .pointer (some ⟨g9, 0, none⟩) ∧ W1.heap.size ≤ g8 ∧ W1.heap.size ≤ g9 ∧ wx.heap[g8]? = some (.cells (f32s xa) 35 (0, 0)) ∧ wx.heap[g9]? = some (.cells (f32s xb) 35 (0, 0)) ∧ Below W1.heap.size W1 wx)
  case first =>
    refine wp_region_held_drew (S := (fun V => Below W1.heap.size W1 V)) (by kernel_rfl) (Below.refl _ _).drew (fun hHeld => ?_)
    generalize W1.drew = Y0 at *
    refine take_op (i := 0) (d := 11) (v := .agg (blindC n wd gp t sh)) rfl rfl (by kernel_rfl) (by kernel_rfl) (by kernel_rfl) (fun _ _ _ h => h) (yields_row (by rfl) 28 (.tmp 3) (by rfl) w.heap.size 0 5 (by rfl) 28 (blindC n wd gp t sh) (0, 0) _ (fun _ h => below_row h H0.out) Tryz.underlying28 rfl info_blind (blind_fits _ _ _ _ _) (blindC n wd gp t sh) (blind_all _ _ _ _ _)) hHeld ?_
    simp only [List.setIfInBounds_toArray, List.set_cons_zero, List.set_cons_succ]
    refine take_op (i := 1) (d := 12) (v := ?_) rfl rfl (by kernel_rfl) (by kernel_rfl) (by kernel_rfl) (fun _ _ _ h => h) (Or.inl ⟨by rfl, ?hy1u59⟩) hHeld ?rest1u59
    case hy1u59 =>
      intro w' hS'
      go_simp
      try with_reducible rfl
    simp only [List.setIfInBounds_toArray, List.set_cons_zero, List.set_cons_succ]
    refine take_op (i := 3) (d := 14) (v := .agg (blindC n wd gp t sh)) rfl rfl (by kernel_rfl) (by kernel_rfl) (by kernel_rfl) (fun _ _ _ h => h) (yields_row (by rfl) 28 (.tmp 3) (by rfl) w.heap.size 0 5 (by rfl) 28 (blindC n wd gp t sh) (0, 0) _ (fun _ h => below_row h H0.out) Tryz.underlying28 rfl info_blind (blind_fits _ _ _ _ _) (blindC n wd gp t sh) (blind_all _ _ _ _ _)) hHeld ?_
    simp only [List.setIfInBounds_toArray, List.set_cons_zero, List.set_cons_succ]
    refine take_op (i := 4) (d := 15) (v := ?_) rfl rfl (by kernel_rfl) (by kernel_rfl) (by kernel_rfl) (fun _ _ _ h => h) (Or.inl ⟨by rfl, ?hy4u60⟩) hHeld ?rest4u60
    case hy4u60 =>
      intro w' hS'
      go_simp
      try with_reducible rfl
    simp only [List.setIfInBounds_toArray, List.set_cons_zero, List.set_cons_succ]
    refine take_op (i := 5) (d := 16) (v := .agg (blindC n wd gp t sh)) rfl rfl (by kernel_rfl) (by kernel_rfl) (by kernel_rfl) (fun _ _ _ h => h) (yields_row (by rfl) 28 (.tmp 3) (by rfl) w.heap.size 0 5 (by rfl) 28 (blindC n wd gp t sh) (0, 0) _ (fun _ h => below_row h H0.out) Tryz.underlying28 rfl info_blind (blind_fits _ _ _ _ _) (blindC n wd gp t sh) (blind_all _ _ _ _ _)) hHeld ?_
    simp only [List.setIfInBounds_toArray, List.set_cons_zero, List.set_cons_succ]
    refine wpAnyH_ready (rs := [2, 8, 9]) (by kernel_rfl) (by simp) ?_
    refine AllReadyH.cons rfl (fun K hK => ?_) (AllReadyH.cons rfl (fun K hK => ?_) (AllReadyH.cons rfl (fun K hK => ?_) (AllReadyH.nil)))
    · go_simp
      refine (HF0.out _).mono ?_
      rintro e Y1 ⟨rfl, hb1⟩
      refine hK.out _ _ (hHeld.trans (hb1.mono hHeld.size)) (fun hHeld2 => ?_)
      clear hK K
      replace hHeld := hHeld2
      clear hHeld2
      clear hb1
      refine wpAnyH_ready (rs := [6, 8, 9]) (by kernel_rfl) (by simp) ?_
      refine AllReadyH.cons rfl (fun K hK => ?_) (AllReadyH.cons rfl (fun K hK => ?_) (AllReadyH.cons rfl (fun K hK => ?_) (AllReadyH.nil)))
      · go_simp
        refine (HSL.out _).mono ?_
        rintro e Y2 ⟨rfl, hb1⟩
        refine hK.out _ _ (hHeld.trans (hb1.mono hHeld.size)) (fun hHeld2 => ?_)
        clear hK K
        replace hHeld := hHeld2
        clear hHeld2
        clear hb1
        refine wpAnyH_ready (rs := [7, 8, 9]) (by kernel_rfl) (by simp) ?_
        refine AllReadyH.cons rfl (fun K hK => ?_) (AllReadyH.cons rfl (fun K hK => ?_) (AllReadyH.cons rfl (fun K hK => ?_) (AllReadyH.nil)))
        · go_simp
          refine (HF1.out _).mono ?_
          rintro e Y3 ⟨rfl, hb1⟩
          refine hK.out _ _ (hHeld.trans (hb1.mono hHeld.size)) (fun hHeld2 => ?_)
          clear hK K
          replace hHeld := hHeld2
          clear hHeld2
          clear hb1
          refine wpAnyH_ready (rs := [8, 9]) (by kernel_rfl) (by simp) ?_
          refine AllReadyH.cons rfl (fun K hK => ?_) (AllReadyH.cons rfl (fun K hK => ?_) (AllReadyH.nil))
          · go_simp
            obtain ⟨g8, hq⟩ : ∃ g, g = Y3.heap.size := ⟨_, rfl⟩
            rw [← hq]
            refine hK.out _ (Y3.alloc (.cells (f32s (List.replicate 24 0)) 35 (0, 0))) (hHeld.alloc hHeld.size _) (fun hHeld2 => ?_)
            have HB8 : Hid ((Y3.alloc (.cells (f32s (List.replicate 24 0)) 35 (0, 0))).heap[g8]? = some (.cells (f32s (List.replicate 24 0)) 35 (0, 0))) := Lib.hid (by rw [hq]; exact heap_alloc_new _ _)
            have hl8 : W1.heap.size ≤ g8 := by rw [hq]; exact hHeld.size
            clear hK K hHeld hq
            have hHeld := hHeld2
            clear hHeld2
            generalize (Y3.alloc (.cells (f32s (List.replicate 24 0)) 35 (0, 0))) = Y4 at *
            refine wpAnyH_ready (rs := [9]) (by kernel_rfl) (by simp) ?_
            refine AllReadyH.cons rfl (fun K hK => ?_) (AllReadyH.nil)
            go_simp
            obtain ⟨g9, hq⟩ : ∃ g, g = Y4.heap.size := ⟨_, rfl⟩
            rw [← hq]
            refine hK.out _ (Y4.alloc (.cells (f32s (List.replicate 24 0)) 35 (0, 0))) (hHeld.alloc hHeld.size _) (fun hHeld2 => ?_)
            have HB9 : Hid ((Y4.alloc (.cells (f32s (List.replicate 24 0)) 35 (0, 0))).heap[g9]? = some (.cells (f32s (List.replicate 24 0)) 35 (0, 0))) := Lib.hid (by rw [hq]; exact heap_alloc_new _ _)
            have hl9 : W1.heap.size ≤ g9 := by rw [hq]; exact hHeld.size
            have hne : g8 < g9 := by rw [hq]; exact row_lt HB8.out
            replace HB8 := Lib.hid (below_row ((Below.refl Y4.heap.size _).alloc (Nat.le_refl _) (.cells (f32s (List.replicate 24 0)) 35 (0, 0))) HB8.out)
            clear hK K hHeld hq
            have hHeld := hHeld2
            clear hHeld2
            generalize (Y4.alloc (.cells (f32s (List.replicate 24 0)) 35 (0, 0))) = Y5 at *
            have hn89 : g8 ≠ g9 := by omega
            clear hne
            have hxa : xa.length = 24 := Ha.out
            have hst := run_store_rowB (P := Tryz.prog) _ g8 35 (f32s xa) _ HB8.out (by rw [f32s_size, f32s_size, Ha.out]; rfl) (f32s_one _)
            refine wpAnyH_ready (rs := [10]) (by kernel_rfl) (by simp) ?_
            refine AllReadyH.cons rfl (fun K hK => ?_) (AllReadyH.nil)
            go_simp
            refine hK.out _ _ (below_setRow hHeld hl8 _) (fun hHeld2 => ?_)
            clear hK K hst
            have HC8 := Lib.hid (setRow_heap _ _ _ (f32s xa) _ _ HB8.out)
            have HC9 := Lib.hid ((setRow_other _ g8 g9 (f32s xa) hn89.symm).trans HB9.out)
            clear hHeld HB8 HB9
            have hHeld := hHeld2
            clear hHeld2
            have hxb : xb.length = 24 := Hb.out
            have hst := run_store_rowB (P := Tryz.prog) _ g9 35 (f32s xb) _ HC9.out (by rw [f32s_size, f32s_size, Hb.out]; rfl) (f32s_one _)
            refine wpAnyH_ready (rs := [11]) (by kernel_rfl) (by simp) ?_
            refine AllReadyH.cons rfl (fun K hK => ?_) (AllReadyH.nil)
            go_simp
            refine hK.out _ _ (below_setRow hHeld hl9 _) (fun hHeld2 => ?_)
            clear hK K hst
            refine wpAnyH_done (by kernel_rfl) ?_ _
            go_wp2
            go_meet
            case rel => exact ⟨g8, g9, rfl, rfl, hl8, hl9, (setRow_other _ _ _ _ hn89).trans HC8.out, setRow_heap _ _ _ _ _ _ HC9.out, hHeld2⟩
          · go_simp
            obtain ⟨g9, hq⟩ : ∃ g, g = Y3.heap.size := ⟨_, rfl⟩
            rw [← hq]
            refine hK.out _ (Y3.alloc (.cells (f32s (List.replicate 24 0)) 35 (0, 0))) (hHeld.alloc hHeld.size _) (fun hHeld2 => ?_)
            have HB9 : Hid ((Y3.alloc (.cells (f32s (List.replicate 24 0)) 35 (0, 0))).heap[g9]? = some (.cells (f32s (List.replicate 24 0)) 35 (0, 0))) := Lib.hid (by rw [hq]; exact heap_alloc_new _ _)
            have hl9 : W1.heap.size ≤ g9 := by rw [hq]; exact hHeld.size
            clear hK K hHeld hq
            have hHeld := hHeld2
            clear hHeld2
            generalize (Y3.alloc (.cells (f32s (List.replicate 24 0)) 35 (0, 0))) = Y6 at *
            refine wpAnyH_ready (rs := [8]) (by kernel_rfl) (by simp) ?_
            refine AllReadyH.cons rfl (fun K hK => ?_) (AllReadyH.nil)
            go_simp
            obtain ⟨g8, hq⟩ : ∃ g, g = Y6.heap.size := ⟨_, rfl⟩
            rw [← hq]
            refine hK.out _ (Y6.alloc (.cells (f32s (List.replicate 24 0)) 35 (0, 0))) (hHeld.alloc hHeld.size _) (fun hHeld2 => ?_)
            have HB8 : Hid ((Y6.alloc (.cells (f32s (List.replicate 24 0)) 35 (0, 0))).heap[g8]? = some (.cells (f32s (List.replicate 24 0)) 35 (0, 0))) := Lib.hid (by rw [hq]; exact heap_alloc_new _ _)
            have hl8 : W1.heap.size ≤ g8 := by rw [hq]; exact hHeld.size
            have hne : g9 < g8 := by rw [hq]; exact row_lt HB9.out
            replace HB9 := Lib.hid (below_row ((Below.refl Y6.heap.size _).alloc (Nat.le_refl _) (.cells (f32s (List.replicate 24 0)) 35 (0, 0))) HB9.out)
            clear hK K hHeld hq
            have hHeld := hHeld2
            clear hHeld2
            generalize (Y6.alloc (.cells (f32s (List.replicate 24 0)) 35 (0, 0))) = Y7 at *
            have hn89 : g8 ≠ g9 := by omega
            clear hne
            have hxa : xa.length = 24 := Ha.out
            have hst := run_store_rowB (P := Tryz.prog) _ g8 35 (f32s xa) _ HB8.out (by rw [f32s_size, f32s_size, Ha.out]; rfl) (f32s_one _)
            refine wpAnyH_ready (rs := [10]) (by kernel_rfl) (by simp) ?_
            refine AllReadyH.cons rfl (fun K hK => ?_) (AllReadyH.nil)
            go_simp
            refine hK.out _ _ (below_setRow hHeld hl8 _) (fun hHeld2 => ?_)
            clear hK K hst
            have HC8 := Lib.hid (setRow_heap _ _ _ (f32s xa) _ _ HB8.out)
            have HC9 := Lib.hid ((setRow_other _ g8 g9 (f32s xa) hn89.symm).trans HB9.out)
            clear hHeld HB8 HB9
            have hHeld := hHeld2
            clear hHeld2
            have hxb : xb.length = 24 := Hb.out
            have hst := run_store_rowB (P := Tryz.prog) _ g9 35 (f32s xb) _ HC9.out (by rw [f32s_size, f32s_size, Hb.out]; rfl) (f32s_one _)
            refine wpAnyH_ready (rs := [11]) (by kernel_rfl) (by simp) ?_
            refine AllReadyH.cons rfl (fun K hK => ?_) (AllReadyH.nil)
            go_simp
            refine hK.out _ _ (below_setRow hHeld hl9 _) (fun hHeld2 => ?_)
            clear hK K hst
            refine wpAnyH_done (by kernel_rfl) ?_ _
            go_wp2
            go_meet
            case rel => exact ⟨g8, g9, rfl, rfl, hl8, hl9, (setRow_other _ _ _ _ hn89).trans HC8.out, setRow_heap _ _ _ _ _ _ HC9.out, hHeld2⟩
        · go_simp
          obtain ⟨g8, hq⟩ : ∃ g, g = Y2.heap.size := ⟨_, rfl⟩
          rw [← hq]
          refine hK.out _ (Y2.alloc (.cells (f32s (List.replicate 24 0)) 35 (0, 0))) (hHeld.alloc hHeld.size _) (fun hHeld2 => ?_)
          have HB8 : Hid ((Y2.alloc (.cells (f32s (List.replicate 24 0)) 35 (0, 0))).heap[g8]? = some (.cells (f32s (List.replicate 24 0)) 35 (0, 0))) := Lib.hid (by rw [hq]; exact heap_alloc_new _ _)
          have hl8 : W1.heap.size ≤ g8 := by rw [hq]; exact hHeld.size
          clear hK K hHeld hq
          have hHeld := hHeld2
          clear hHeld2
          generalize (Y2.alloc (.cells (f32s (List.replicate 24 0)) 35 (0, 0))) = Y8 at *
          refine wpAnyH_ready (rs := [7, 9]) (by kernel_rfl) (by simp) ?_
          refine AllReadyH.cons rfl (fun K hK => ?_) (AllReadyH.cons rfl (fun K hK => ?_) (AllReadyH.nil))
          · go_simp
            refine (HF1.out _).mono ?_
            rintro e Y9 ⟨rfl, hb1⟩
            refine hK.out _ _ (hHeld.trans (hb1.mono hHeld.size)) (fun hHeld2 => ?_)
            clear hK K
            replace hHeld := hHeld2
            clear hHeld2
            replace HB8 := Lib.hid (below_row hb1 HB8.out)
            clear hb1
            refine wpAnyH_ready (rs := [9]) (by kernel_rfl) (by simp) ?_
            refine AllReadyH.cons rfl (fun K hK => ?_) (AllReadyH.nil)
            go_simp
            obtain ⟨g9, hq⟩ : ∃ g, g = Y9.heap.size := ⟨_, rfl⟩
            rw [← hq]
            refine hK.out _ (Y9.alloc (.cells (f32s (List.replicate 24 0)) 35 (0, 0))) (hHeld.alloc hHeld.size _) (fun hHeld2 => ?_)
            have HB9 : Hid ((Y9.alloc (.cells (f32s (List.replicate 24 0)) 35 (0, 0))).heap[g9]? = some (.cells (f32s (List.replicate 24 0)) 35 (0, 0))) := Lib.hid (by rw [hq]; exact heap_alloc_new _ _)
            have hl9 : W1.heap.size ≤ g9 := by rw [hq]; exact hHeld.size
            have hne : g8 < g9 := by rw [hq]; exact row_lt HB8.out
            replace HB8 := Lib.hid (below_row ((Below.refl Y9.heap.size _).alloc (Nat.le_refl _) (.cells (f32s (List.replicate 24 0)) 35 (0, 0))) HB8.out)
            clear hK K hHeld hq
            have hHeld := hHeld2
            clear hHeld2
            generalize (Y9.alloc (.cells (f32s (List.replicate 24 0)) 35 (0, 0))) = Y10 at *
            have hn89 : g8 ≠ g9 := by omega
            clear hne
            have hxa : xa.length = 24 := Ha.out
            have hst := run_store_rowB (P := Tryz.prog) _ g8 35 (f32s xa) _ HB8.out (by rw [f32s_size, f32s_size, Ha.out]; rfl) (f32s_one _)
            refine wpAnyH_ready (rs := [10]) (by kernel_rfl) (by simp) ?_
            refine AllReadyH.cons rfl (fun K hK => ?_) (AllReadyH.nil)
            go_simp
            refine hK.out _ _ (below_setRow hHeld hl8 _) (fun hHeld2 => ?_)
            clear hK K hst
            have HC8 := Lib.hid (setRow_heap _ _ _ (f32s xa) _ _ HB8.out)
            have HC9 := Lib.hid ((setRow_other _ g8 g9 (f32s xa) hn89.symm).trans HB9.out)
            clear hHeld HB8 HB9
            have hHeld := hHeld2
            clear hHeld2
            have hxb : xb.length = 24 := Hb.out
            have hst := run_store_rowB (P := Tryz.prog) _ g9 35 (f32s xb) _ HC9.out (by rw [f32s_size, f32s_size, Hb.out]; rfl) (f32s_one _)
            refine wpAnyH_ready (rs := [11]) (by kernel_rfl) (by simp) ?_
            refine AllReadyH.cons rfl (fun K hK => ?_) (AllReadyH.nil)
            go_simp
            refine hK.out _ _ (below_setRow hHeld hl9 _) (fun hHeld2 => ?_)
            clear hK K hst
            refine wpAnyH_done (by kernel_rfl) ?_ _
            go_wp2
            go_meet
            case rel => exact ⟨g8, g9, rfl, rfl, hl8, hl9, (setRow_other _ _ _ _ hn89).trans HC8.out, setRow_heap _ _ _ _ _ _ HC9.out, hHeld2⟩
          · go_simp
            obtain ⟨g9, hq⟩ : ∃ g, g = Y8.heap.size := ⟨_, rfl⟩
            rw [← hq]
            refine hK.out _ (Y8.alloc (.cells (f32s (List.replicate 24 0)) 35 (0, 0))) (hHeld.alloc hHeld.size _) (fun hHeld2 => ?_)
            have HB9 : Hid ((Y8.alloc (.cells (f32s (List.replicate 24 0)) 35 (0, 0))).heap[g9]? = some (.cells (f32s (List.replicate 24 0)) 35 (0, 0))) := Lib.hid (by rw [hq]; exact heap_alloc_new _ _)
            have hl9 : W1.heap.size ≤ g9 := by rw [hq]; exact hHeld.size
            have hne : g8 < g9 := by rw [hq]; exact row_lt HB8.out
            replace HB8 := Lib.hid (below_row ((Below.refl Y8.heap.size _).alloc (Nat.le_refl _) (.cells (f32s (List.replicate 24 0)) 35 (0, 0))) HB8.out)
            clear hK K hHeld hq
            have hHeld := hHeld2
            clear hHeld2
            generalize (Y8.alloc (.cells (f32s (List.replicate 24 0)) 35 (0, 0))) = Y11 at *
            refine wpAnyH_ready (rs := [7]) (by kernel_rfl) (by simp) ?_
            refine AllReadyH.cons rfl (fun K hK => ?_) (AllReadyH.nil)
            go_simp
            refine (HF1.out _).mono ?_
            rintro e Y12 ⟨rfl, hb1⟩
            refine hK.out _ _ (hHeld.trans (hb1.mono hHeld.size)) (fun hHeld2 => ?_)
            clear hK K
            replace hHeld := hHeld2
            clear hHeld2
            replace HB8 := Lib.hid (below_row hb1 HB8.out)
            replace HB9 := Lib.hid (below_row hb1 HB9.out)
            clear hb1
            have hn89 : g8 ≠ g9 := by omega
            clear hne
            have hxa : xa.length = 24 := Ha.out
            have hst := run_store_rowB (P := Tryz.prog) _ g8 35 (f32s xa) _ HB8.out (by rw [f32s_size, f32s_size, Ha.out]; rfl) (f32s_one _)
            refine wpAnyH_ready (rs := [10]) (by kernel_rfl) (by simp) ?_
            refine AllReadyH.cons rfl (fun K hK => ?_) (AllReadyH.nil)
            go_simp
            refine hK.out _ _ (below_setRow hHeld hl8 _) (fun hHeld2 => ?_)
            clear hK K hst
            have HC8 := Lib.hid (setRow_heap _ _ _ (f32s xa) _ _ HB8.out)
            have HC9 := Lib.hid ((setRow_other _ g8 g9 (f32s xa) hn89.symm).trans HB9.out)
            clear hHeld HB8 HB9
            have hHeld := hHeld2
            clear hHeld2
            have hxb : xb.length = 24 := Hb.out
            have hst := run_store_rowB (P := Tryz.prog) _ g9 35 (f32s xb) _ HC9.out (by rw [f32s_size, f32s_size, Hb.out]; rfl) (f32s_one _)
            refine wpAnyH_ready (rs := [11]) (by kernel_rfl) (by simp) ?_
            refine AllReadyH.cons rfl (fun K hK => ?_) (AllReadyH.nil)
            go_simp
            refine hK.out _ _ (below_setRow hHeld hl9 _) (fun hHeld2 => ?_)
            clear hK K hst
            refine wpAnyH_done (by kernel_rfl) ?_ _
            go_wp2
            go_meet
            case rel => exact ⟨g8, g9, rfl, rfl, hl8, hl9, (setRow_other _ _ _ _ hn89).trans HC8.out, setRow_heap _ _ _ _ _ _ HC9.out, hHeld2⟩
        · go_simp
          obtain ⟨g9, hq⟩ : ∃ g, g = Y2.heap.size := ⟨_, rfl⟩
          rw [← hq]
          refine hK.out _ (Y2.alloc (.cells (f32s (List.replicate 24 0)) 35 (0, 0))) (hHeld.alloc hHeld.size _) (fun hHeld2 => ?_)
          have HB9 : Hid ((Y2.alloc (.cells (f32s (List.replicate 24 0)) 35 (0, 0))).heap[g9]? = some (.cells (f32s (List.replicate 24 0)) 35 (0, 0))) := Lib.hid (by rw [hq]; exact heap_alloc_new _ _)
          have hl9 : W1.heap.size ≤ g9 := by rw [hq]; exact hHeld.size
          clear hK K hHeld hq
          have hHeld := hHeld2
          clear hHeld2
          generalize (Y2.alloc (.cells (f32s (List.replicate 24 0)) 35 (0, 0))) = Y13 at *
          refine wpAnyH_ready (rs := [7, 8]) (by kernel_rfl) (by simp) ?_
          refine AllReadyH.cons rfl (fun K hK => ?_) (AllReadyH.cons rfl (fun K hK => ?_) (AllReadyH.nil))
          · go_simp
            refine (HF1.out _).mono ?_
            rintro e Y14 ⟨rfl, hb1⟩
            refine hK.out _ _ (hHeld.trans (hb1.mono hHeld.size)) (fun hHeld2 => ?_)
            clear hK K
            replace hHeld := hHeld2
            clear hHeld2
            replace HB9 := Lib.hid (below_row hb1 HB9.out)
            clear hb1
            refine wpAnyH_ready (rs := [8]) (by kernel_rfl) (by simp) ?_
            refine AllReadyH.cons rfl (fun K hK => ?_) (AllReadyH.nil)
            go_simp
            obtain ⟨g8, hq⟩ : ∃ g, g = Y14.heap.size := ⟨_, rfl⟩
            rw [← hq]
            refine hK.out _ (Y14.alloc (.cells (f32s (List.replicate 24 0)) 35 (0, 0))) (hHeld.alloc hHeld.size _) (fun hHeld2 => ?_)
            have HB8 : Hid ((Y14.alloc (.cells (f32s (List.replicate 24 0)) 35 (0, 0))).heap[g8]? = some (.cells (f32s (List.replicate 24 0)) 35 (0, 0))) := Lib.hid (by rw [hq]; exact heap_alloc_new _ _)
            have hl8 : W1.heap.size ≤ g8 := by rw [hq]; exact hHeld.size
            have hne : g9 < g8 := by rw [hq]; exact row_lt HB9.out
            replace HB9 := Lib.hid (below_row ((Below.refl Y14.heap.size _).alloc (Nat.le_refl _) (.cells (f32s (List.replicate 24 0)) 35 (0, 0))) HB9.out)
            clear hK K hHeld hq
            have hHeld := hHeld2
            clear hHeld2
            generalize (Y14.alloc (.cells (f32s (List.replicate 24 0)) 35 (0, 0))) = Y15 at *
            have hn89 : g8 ≠ g9 := by omega
            clear hne
            have hxa : xa.length = 24 := Ha.out
            have hst := run_store_rowB (P := Tryz.prog) _ g8 35 (f32s xa) _ HB8.out (by rw [f32s_size, f32s_size, Ha.out]; rfl) (f32s_one _)
            refine wpAnyH_ready (rs := [10]) (by kernel_rfl) (by simp) ?_
            refine AllReadyH.cons rfl (fun K hK => ?_) (AllReadyH.nil)
            go_simp
            refine hK.out _ _ (below_setRow hHeld hl8 _) (fun hHeld2 => ?_)
            clear hK K hst
            have HC8 := Lib.hid (setRow_heap _ _ _ (f32s xa) _ _ HB8.out)
            have HC9 := Lib.hid ((setRow_other _ g8 g9 (f32s xa) hn89.symm).trans HB9.out)
            clear hHeld HB8 HB9
            have hHeld := hHeld2
            clear hHeld2
            have hxb : xb.length = 24 := Hb.out
            have hst := run_store_rowB (P := Tryz.prog) _ g9 35 (f32s xb) _ HC9.out (by rw [f32s_size, f32s_size, Hb.out]; rfl) (f32s_one _)
            refine wpAnyH_ready (rs := [11]) (by kernel_rfl) (by simp) ?_
            refine AllReadyH.cons rfl (fun K hK => ?_) (AllReadyH.nil)
            go_simp
            refine hK.out _ _ (below_setRow hHeld hl9 _) (fun hHeld2 => ?_)
            clear hK K hst
            refine wpAnyH_done (by kernel_rfl) ?_ _
            go_wp2
            go_meet
            case rel => exact ⟨g8, g9, rfl, rfl, hl8, hl9, (setRow_other _ _ _ _ hn89).trans HC8.out, setRow_heap _ _ _ _ _ _ HC9.out, hHeld2⟩
          · go_simp
            obtain ⟨g8, hq⟩ : ∃ g, g = Y13.heap.size := ⟨_, rfl⟩
            rw [← hq]
            refine hK.out _ (Y13.alloc (.cells (f32s (List.replicate 24 0)) 35 (0, 0))) (hHeld.alloc hHeld.size _) (fun hHeld2 => ?_)
            have HB8 : Hid ((Y13.alloc (.cells (f32s (List.replicate 24 0)) 35 (0, 0))).heap[g8]? = some (.cells (f32s (List.replicate 24 0)) 35 (0, 0))) := Lib.hid (by rw [hq]; exact heap_alloc_new _ _)
            have hl8 : W1.heap.size ≤ g8 := by rw [hq]; exact hHeld.size
            have hne : g9 < g8 := by rw [hq]; exact row_lt HB9.out
            replace HB9 := Lib.hid (below_row ((Below.refl Y13.heap.size _).alloc (Nat.le_refl _) (.cells (f32s (List.replicate 24 0)) 35 (0, 0))) HB9.out)
            clear hK K hHeld hq
            have hHeld := hHeld2
            clear hHeld2
            generalize (Y13.alloc (.cells (f32s (List.replicate 24 0)) 35 (0, 0))) = Y16 at *
            refine wpAnyH_ready (rs := [7]) (by kernel_rfl) (by simp) ?_
            refine AllReadyH.cons rfl (fun K hK => ?_) (AllReadyH.nil)
            go_simp
            refine (HF1.out _).mono ?_
            rintro e Y17 ⟨rfl, hb1⟩
            refine hK.out _ _ (hHeld.trans (hb1.mono hHeld.size)) (fun hHeld2 => ?_)
            clear hK K
            replace hHeld := hHeld2
            clear hHeld2
            replace HB9 := Lib.hid (below_row hb1 HB9.out)
            replace HB8 := Lib.hid (below_row hb1 HB8.out)
            clear hb1
            have hn89 : g8 ≠ g9 := by omega
            clear hne
            have hxa : xa.length = 24 := Ha.out
            have hst := run_store_rowB (P := Tryz.prog) _ g8 35 (f32s xa) _ HB8.out (by rw [f32s_size, f32s_size, Ha.out]; rfl) (f32s_one _)
            refine wpAnyH_ready (rs := [10]) (by kernel_rfl) (by simp) ?_
            refine AllReadyH.cons rfl (fun K hK => ?_) (AllReadyH.nil)
            go_simp
            refine hK.out _ _ (below_setRow hHeld hl8 _) (fun hHeld2 => ?_)
            clear hK K hst
            have HC8 := Lib.hid (setRow_heap _ _ _ (f32s xa) _ _ HB8.out)
            have HC9 := Lib.hid ((setRow_other _ g8 g9 (f32s xa) hn89.symm).trans HB9.out)
            clear hHeld HB8 HB9
            have hHeld := hHeld2
            clear hHeld2
            have hxb : xb.length = 24 := Hb.out
            have hst := run_store_rowB (P := Tryz.prog) _ g9 35 (f32s xb) _ HC9.out (by rw [f32s_size, f32s_size, Hb.out]; rfl) (f32s_one _)
            refine wpAnyH_ready (rs := [11]) (by kernel_rfl) (by simp) ?_
            refine AllReadyH.cons rfl (fun K hK => ?_) (AllReadyH.nil)
            go_simp
            refine hK.out _ _ (below_setRow hHeld hl9 _) (fun hHeld2 => ?_)
            clear hK K hst
            refine wpAnyH_done (by kernel_rfl) ?_ _
            go_wp2
            go_meet
            case rel => exact ⟨g8, g9, rfl, rfl, hl8, hl9, (setRow_other _ _ _ _ hn89).trans HC8.out, setRow_heap _ _ _ _ _ _ HC9.out, hHeld2⟩
      · go_simp
        obtain ⟨g8, hq⟩ : ∃ g, g = Y1.heap.size := ⟨_, rfl⟩
        rw [← hq]
        refine hK.out _ (Y1.alloc (.cells (f32s (List.replicate 24 0)) 35 (0, 0))) (hHeld.alloc hHeld.size _) (fun hHeld2 => ?_)
        have HB8 : Hid ((Y1.alloc (.cells (f32s (List.replicate 24 0)) 35 (0, 0))).heap[g8]? = some (.cells (f32s (List.replicate 24 0)) 35 (0, 0))) := Lib.hid (by rw [hq]; exact heap_alloc_new _ _)
        have hl8 : W1.heap.size ≤ g8 := by rw [hq]; exact hHeld.size
        clear hK K hHeld hq
        have hHeld := hHeld2
        clear hHeld2
        generalize (Y1.alloc (.cells (f32s (List.replicate 24 0)) 35 (0, 0))) = Y18 at *
        refine wpAnyH_ready (rs := [6, 9]) (by kernel_rfl) (by simp) ?_
        refine AllReadyH.cons rfl (fun K hK => ?_) (AllReadyH.cons rfl (fun K hK => ?_) (AllReadyH.nil))
        · go_simp
          refine (HSL.out _).mono ?_
          rintro e Y19 ⟨rfl, hb1⟩
          refine hK.out _ _ (hHeld.trans (hb1.mono hHeld.size)) (fun hHeld2 => ?_)
          clear hK K
          replace hHeld := hHeld2
          clear hHeld2
          replace HB8 := Lib.hid (below_row hb1 HB8.out)
          clear hb1
          refine wpAnyH_ready (rs := [7, 9]) (by kernel_rfl) (by simp) ?_
          refine AllReadyH.cons rfl (fun K hK => ?_) (AllReadyH.cons rfl (fun K hK => ?_) (AllReadyH.nil))
          · go_simp
            refine (HF1.out _).mono ?_
            rintro e Y20 ⟨rfl, hb1⟩
            refine hK.out _ _ (hHeld.trans (hb1.mono hHeld.size)) (fun hHeld2 => ?_)
            clear hK K
            replace hHeld := hHeld2
            clear hHeld2
            replace HB8 := Lib.hid (below_row hb1 HB8.out)
            clear hb1
            refine wpAnyH_ready (rs := [9]) (by kernel_rfl) (by simp) ?_
            refine AllReadyH.cons rfl (fun K hK => ?_) (AllReadyH.nil)
            go_simp
            obtain ⟨g9, hq⟩ : ∃ g, g = Y20.heap.size := ⟨_, rfl⟩
            rw [← hq]
            refine hK.out _ (Y20.alloc (.cells (f32s (List.replicate 24 0)) 35 (0, 0))) (hHeld.alloc hHeld.size _) (fun hHeld2 => ?_)
            have HB9 : Hid ((Y20.alloc (.cells (f32s (List.replicate 24 0)) 35 (0, 0))).heap[g9]? = some (.cells (f32s (List.replicate 24 0)) 35 (0, 0))) := Lib.hid (by rw [hq]; exact heap_alloc_new _ _)
            have hl9 : W1.heap.size ≤ g9 := by rw [hq]; exact hHeld.size
            have hne : g8 < g9 := by rw [hq]; exact row_lt HB8.out
            replace HB8 := Lib.hid (below_row ((Below.refl Y20.heap.size _).alloc (Nat.le_refl _) (.cells (f32s (List.replicate 24 0)) 35 (0, 0))) HB8.out)
            clear hK K hHeld hq
            have hHeld := hHeld2
            clear hHeld2
            generalize (Y20.alloc (.cells (f32s (List.replicate 24 0)) 35 (0, 0))) = Y21 at *
            have hn89 : g8 ≠ g9 := by omega
            clear hne
            have hxa : xa.length = 24 := Ha.out
            have hst := run_store_rowB (P := Tryz.prog) _ g8 35 (f32s xa) _ HB8.out (by rw [f32s_size, f32s_size, Ha.out]; rfl) (f32s_one _)
            refine wpAnyH_ready (rs := [10]) (by kernel_rfl) (by simp) ?_
            refine AllReadyH.cons rfl (fun K hK => ?_) (AllReadyH.nil)
            go_simp
            refine hK.out _ _ (below_setRow hHeld hl8 _) (fun hHeld2 => ?_)
            clear hK K hst
            have HC8 := Lib.hid (setRow_heap _ _ _ (f32s xa) _ _ HB8.out)
            have HC9 := Lib.hid ((setRow_other _ g8 g9 (f32s xa) hn89.symm).trans HB9.out)
            clear hHeld HB8 HB9
            have hHeld := hHeld2
            clear hHeld2
            have hxb : xb.length = 24 := Hb.out
            have hst := run_store_rowB (P := Tryz.prog) _ g9 35 (f32s xb) _ HC9.out (by rw [f32s_size, f32s_size, Hb.out]; rfl) (f32s_one _)
            refine wpAnyH_ready (rs := [11]) (by kernel_rfl) (by simp) ?_
            refine AllReadyH.cons rfl (fun K hK => ?_) (AllReadyH.nil)
            go_simp
            refine hK.out _ _ (below_setRow hHeld hl9 _) (fun hHeld2 => ?_)
            clear hK K hst
            refine wpAnyH_done (by kernel_rfl) ?_ _
            go_wp2
            go_meet
            case rel => exact ⟨g8, g9, rfl, rfl, hl8, hl9, (setRow_other _ _ _ _ hn89).trans HC8.out, setRow_heap _ _ _ _ _ _ HC9.out, hHeld2⟩
          · go_simp
            obtain ⟨g9, hq⟩ : ∃ g, g = Y19.heap.size := ⟨_, rfl⟩
            rw [← hq]
            refine hK.out _ (Y19.alloc (.cells (f32s (List.replicate 24 0)) 35 (0, 0))) (hHeld.alloc hHeld.size _) (fun hHeld2 => ?_)
            have HB9 : Hid ((Y19.alloc (.cells (f32s (List.replicate 24 0)) 35 (0, 0))).heap[g9]? = some (.cells (f32s (List.replicate 24 0)) 35 (0, 0))) := Lib.hid (by rw [hq]; exact heap_alloc_new _ _)
            have hl9 : W1.heap.size ≤ g9 := by rw [hq]; exact hHeld.size
            have hne : g8 < g9 := by rw [hq]; exact row_lt HB8.out
            replace HB8 := Lib.hid (below_row ((Below.refl Y19.heap.size _).alloc (Nat.le_refl _) (.cells (f32s (List.replicate 24 0)) 35 (0, 0))) HB8.out)
            clear hK K hHeld hq
            have hHeld := hHeld2
            clear hHeld2
            generalize (Y19.alloc (.cells (f32s (List.replicate 24 0)) 35 (0, 0))) = Y22 at *
            refine wpAnyH_ready (rs := [7]) (by kernel_rfl) (by simp) ?_
            refine AllReadyH.cons rfl (fun K hK => ?_) (AllReadyH.nil)
            go_simp
            refine (HF1.out _).mono ?_
            rintro e Y23 ⟨rfl, hb1⟩
            refine hK.out _ _ (hHeld.trans (hb1.mono hHeld.size)) (fun hHeld2 => ?_)
            clear hK K
            replace hHeld := hHeld2
            clear hHeld2
            replace HB8 := Lib.hid (below_row hb1 HB8.out)
            replace HB9 := Lib.hid (below_row hb1 HB9.out)
            clear hb1
            have hn89 : g8 ≠ g9 := by omega
            clear hne
            have hxa : xa.length = 24 := Ha.out
            have hst := run_store_rowB (P := Tryz.prog) _ g8 35 (f32s xa) _ HB8.out (by rw [f32s_size, f32s_size, Ha.out]; rfl) (f32s_one _)
            refine wpAnyH_ready (rs := [10]) (by kernel_rfl) (by simp) ?_
            refine AllReadyH.cons rfl (fun K hK => ?_) (AllReadyH.nil)
            go_simp
            refine hK.out _ _ (below_setRow hHeld hl8 _) (fun hHeld2 => ?_)
            clear hK K hst
            have HC8 := Lib.hid (setRow_heap _ _ _ (f32s xa) _ _ HB8.out)
            have HC9 := Lib.hid ((setRow_other _ g8 g9 (f32s xa) hn89.symm).trans HB9.out)
            clear hHeld HB8 HB9
            have hHeld := hHeld2
            clear hHeld2
            have hxb : xb.length = 24 := Hb.out
            have hst := run_store_rowB (P := Tryz.prog) _ g9 35 (f32s xb) _ HC9.out (by rw [f32s_size, f32s_size, Hb.out]; rfl) (f32s_one _)
            refine wpAnyH_ready (rs := [11]) (by kernel_rfl) (by simp) ?_
            refine AllReadyH.cons rfl (fun K hK => ?_) (AllReadyH.nil)
            go_simp
            refine hK.out _ _ (below_setRow hHeld hl9 _) (fun hHeld2 => ?_)
            clear hK K hst
            refine wpAnyH_done (by kernel_rfl) ?_ _
            go_wp2
            go_meet
            case rel => exact ⟨g8, g9, rfl, rfl, hl8, hl9, (setRow_other _ _ _ _ hn89).trans HC8.out, setRow_heap _ _ _ _ _ _ HC9.out, hHeld2⟩
        · go_simp
          obtain ⟨g9, hq⟩ : ∃ g, g = Y18.heap.size := ⟨_, rfl⟩
          rw [← hq]
          refine hK.out _ (Y18.alloc (.cells (f32s (List.replicate 24 0)) 35 (0, 0))) (hHeld.alloc hHeld.size _) (fun hHeld2 => ?_)
          have HB9 : Hid ((Y18.alloc (.cells (f32s (List.replicate 24 0)) 35 (0, 0))).heap[g9]? = some (.cells (f32s (List.replicate 24 0)) 35 (0, 0))) := Lib.hid (by rw [hq]; exact heap_alloc_new _ _)
          have hl9 : W1.heap.size ≤ g9 := by rw [hq]; exact hHeld.size
          have hne : g8 < g9 := by rw [hq]; exact row_lt HB8.out
          replace HB8 := Lib.hid (below_row ((Below.refl Y18.heap.size _).alloc (Nat.le_refl _) (.cells (f32s (List.replicate 24 0)) 35 (0, 0))) HB8.out)
          clear hK K hHeld hq
          have hHeld := hHeld2
          clear hHeld2
          generalize (Y18.alloc (.cells (f32s (List.replicate 24 0)) 35 (0, 0))) = Y24 at *
          refine wpAnyH_ready (rs := [6]) (by kernel_rfl) (by simp) ?_
          refine AllReadyH.cons rfl (fun K hK => ?_) (AllReadyH.nil)
          go_simp
          refine (HSL.out _).mono ?_
          rintro e Y25 ⟨rfl, hb1⟩
          refine hK.out _ _ (hHeld.trans (hb1.mono hHeld.size)) (fun hHeld2 => ?_)
          clear hK K
          replace hHeld := hHeld2
          clear hHeld2
          replace HB8 := Lib.hid (below_row hb1 HB8.out)
          replace HB9 := Lib.hid (below_row hb1 HB9.out)
          clear hb1
          refine wpAnyH_ready (rs := [7]) (by kernel_rfl) (by simp) ?_
          refine AllReadyH.cons rfl (fun K hK => ?_) (AllReadyH.nil)
          go_simp
          refine (HF1.out _).mono ?_
          rintro e Y26 ⟨rfl, hb1⟩
          refine hK.out _ _ (hHeld.trans (hb1.mono hHeld.size)) (fun hHeld2 => ?_)
          clear hK K
          replace hHeld := hHeld2
          clear hHeld2
          replace HB8 := Lib.hid (below_row hb1 HB8.out)
          replace HB9 := Lib.hid (below_row hb1 HB9.out)
          clear hb1
          have hn89 : g8 ≠ g9 := by omega
          clear hne
          have hxa : xa.length = 24 := Ha.out
          have hst := run_store_rowB (P := Tryz.prog) _ g8 35 (f32s xa) _ HB8.out (by rw [f32s_size, f32s_size, Ha.out]; rfl) (f32s_one _)
          refine wpAnyH_ready (rs := [10]) (by kernel_rfl) (by simp) ?_
          refine AllReadyH.cons rfl (fun K hK => ?_) (AllReadyH.nil)
          go_simp
          refine hK.out _ _ (below_setRow hHeld hl8 _) (fun hHeld2 => ?_)
          clear hK K hst
          have HC8 := Lib.hid (setRow_heap _ _ _ (f32s xa) _ _ HB8.out)
          have HC9 := Lib.hid ((setRow_other _ g8 g9 (f32s xa) hn89.symm).trans HB9.out)
          clear hHeld HB8 HB9
          have hHeld := hHeld2
          clear hHeld2
          have hxb : xb.length = 24 := Hb.out
          have hst := run_store_rowB (P := Tryz.prog) _ g9 35 (f32s xb) _ HC9.out (by rw [f32s_size, f32s_size, Hb.out]; rfl) (f32s_one _)
          refine wpAnyH_ready (rs := [11]) (by kernel_rfl) (by simp) ?_
          refine AllReadyH.cons rfl (fun K hK => ?_) (AllReadyH.nil)
          go_simp
          refine hK.out _ _ (below_setRow hHeld hl9 _) (fun hHeld2 => ?_)
          clear hK K hst
          refine wpAnyH_done (by kernel_rfl) ?_ _
          go_wp2
          go_meet
          case rel => exact ⟨g8, g9, rfl, rfl, hl8, hl9, (setRow_other _ _ _ _ hn89).trans HC8.out, setRow_heap _ _ _ _ _ _ HC9.out, hHeld2⟩
      · go_simp
        obtain ⟨g9, hq⟩ : ∃ g, g = Y1.heap.size := ⟨_, rfl⟩
        rw [← hq]
        refine hK.out _ (Y1.alloc (.cells (f32s (List.replicate 24 0)) 35 (0, 0))) (hHeld.alloc hHeld.size _) (fun hHeld2 => ?_)
        have HB9 : Hid ((Y1.alloc (.cells (f32s (List.replicate 24 0)) 35 (0, 0))).heap[g9]? = some (.cells (f32s (List.replicate 24 0)) 35 (0, 0))) := Lib.hid (by rw [hq]; exact heap_alloc_new _ _)
        have hl9 : W1.heap.size ≤ g9 := by rw [hq]; exact hHeld.size
        clear hK K hHeld hq
        have hHeld := hHeld2
        clear hHeld2
        generalize (Y1.alloc (.cells (f32s (List.replicate 24 0)) 35 (0, 0))) = Y27 at *
        refine wpAnyH_ready (rs := [6, 8]) (by kernel_rfl) (by simp) ?_
        refine AllReadyH.cons rfl (fun K hK => ?_) (AllReadyH.cons rfl (fun K hK => ?_) (AllReadyH.nil))
        · go_simp
          refine (HSL.out _).mono ?_
          rintro e Y28 ⟨rfl, hb1⟩
          refine hK.out _ _ (hHeld.trans (hb1.mono hHeld.size)) (fun hHeld2 => ?_)
          clear hK K
          replace hHeld := hHeld2
          clear hHeld2
          replace HB9 := Lib.hid (below_row hb1 HB9.out)
          clear hb1
          refine wpAnyH_ready (rs := [7, 8]) (by kernel_rfl) (by simp) ?_
          refine AllReadyH.cons rfl (fun K hK => ?_) (AllReadyH.cons rfl (fun K hK => ?_) (AllReadyH.nil))
          · go_simp
            refine (HF1.out _).mono ?_
            rintro e Y29 ⟨rfl, hb1⟩
            refine hK.out _ _ (hHeld.trans (hb1.mono hHeld.size)) (fun hHeld2 => ?_)
            clear hK K
            replace hHeld := hHeld2
            clear hHeld2
            replace HB9 := Lib.hid (below_row hb1 HB9.out)
            clear hb1
            refine wpAnyH_ready (rs := [8]) (by kernel_rfl) (by simp) ?_
            refine AllReadyH.cons rfl (fun K hK => ?_) (AllReadyH.nil)
            go_simp
            obtain ⟨g8, hq⟩ : ∃ g, g = Y29.heap.size := ⟨_, rfl⟩
            rw [← hq]
            refine hK.out _ (Y29.alloc (.cells (f32s (List.replicate 24 0)) 35 (0, 0))) (hHeld.alloc hHeld.size _) (fun hHeld2 => ?_)
            have HB8 : Hid ((Y29.alloc (.cells (f32s (List.replicate 24 0)) 35 (0, 0))).heap[g8]? = some (.cells (f32s (List.replicate 24 0)) 35 (0, 0))) := Lib.hid (by rw [hq]; exact heap_alloc_new _ _)
            have hl8 : W1.heap.size ≤ g8 := by rw [hq]; exact hHeld.size
            have hne : g9 < g8 := by rw [hq]; exact row_lt HB9.out
            replace HB9 := Lib.hid (below_row ((Below.refl Y29.heap.size _).alloc (Nat.le_refl _) (.cells (f32s (List.replicate 24 0)) 35 (0, 0))) HB9.out)
            clear hK K hHeld hq
            have hHeld := hHeld2
            clear hHeld2
            generalize (Y29.alloc (.cells (f32s (List.replicate 24 0)) 35 (0, 0))) = Y30 at *
            have hn89 : g8 ≠ g9 := by omega
            clear hne
            have hxa : xa.length = 24 := Ha.out
            have hst := run_store_rowB (P := Tryz.prog) _ g8 35 (f32s xa) _ HB8.out (by rw [f32s_size, f32s_size, Ha.out]; rfl) (f32s_one _)
            refine wpAnyH_ready (rs := [10]) (by kernel_rfl) (by simp) ?_
            refine AllReadyH.cons rfl (fun K hK => ?_) (AllReadyH.nil)
            go_simp
            refine hK.out _ _ (below_setRow hHeld hl8 _) (fun hHeld2 => ?_)
            clear hK K hst
            have HC8 := Lib.hid (setRow_heap _ _ _ (f32s xa) _ _ HB8.out)
            have HC9 := Lib.hid ((setRow_other _ g8 g9 (f32s xa) hn89.symm).trans HB9.out)
            clear hHeld HB8 HB9
            have hHeld := hHeld2
            clear hHeld2
            have hxb : xb.length = 24 := Hb.out
            have hst := run_store_rowB (P := Tryz.prog) _ g9 35 (f32s xb) _ HC9.out (by rw [f32s_size, f32s_size, Hb.out]; rfl) (f32s_one _)
            refine wpAnyH_ready (rs := [11]) (by kernel_rfl) (by simp) ?_
            refine AllReadyH.cons rfl (fun K hK => ?_) (AllReadyH.nil)
            go_simp
            refine hK.out _ _ (below_setRow hHeld hl9 _) (fun hHeld2 => ?_)
            clear hK K hst
            refine wpAnyH_done (by kernel_rfl) ?_ _
            go_wp2
            go_meet
            case rel => exact ⟨g8, g9, rfl, rfl, hl8, hl9, (setRow_other _ _ _ _ hn89).trans HC8.out, setRow_heap _ _ _ _ _ _ HC9.out, hHeld2⟩
          · go_simp
            obtain ⟨g8, hq⟩ : ∃ g, g = Y28.heap.size := ⟨_, rfl⟩
            rw [← hq]
            refine hK.out _ (Y28.alloc (.cells (f32s (List.replicate 24 0)) 35 (0, 0))) (hHeld.alloc hHeld.size _) (fun hHeld2 => ?_)
            have HB8 : Hid ((Y28.alloc (.cells (f32s (List.replicate 24 0)) 35 (0, 0))).heap[g8]? = some (.cells (f32s (List.replicate 24 0)) 35 (0, 0))) := Lib.hid (by rw [hq]; exact heap_alloc_new _ _)
            have hl8 : W1.heap.size ≤ g8 := by rw [hq]; exact hHeld.size
            have hne : g9 < g8 := by rw [hq]; exact row_lt HB9.out
            replace HB9 := Lib.hid (below_row ((Below.refl Y28.heap.size _).alloc (Nat.le_refl _) (.cells (f32s (List.replicate 24 0)) 35 (0, 0))) HB9.out)
            clear hK K hHeld hq
            have hHeld := hHeld2
            clear hHeld2
            generalize (Y28.alloc (.cells (f32s (List.replicate 24 0)) 35 (0, 0))) = Y31 at *
            refine wpAnyH_ready (rs := [7]) (by kernel_rfl) (by simp) ?_
            refine AllReadyH.cons rfl (fun K hK => ?_) (AllReadyH.nil)
            go_simp
            refine (HF1.out _).mono ?_
            rintro e Y32 ⟨rfl, hb1⟩
            refine hK.out _ _ (hHeld.trans (hb1.mono hHeld.size)) (fun hHeld2 => ?_)
            clear hK K
            replace hHeld := hHeld2
            clear hHeld2
            replace HB9 := Lib.hid (below_row hb1 HB9.out)
            replace HB8 := Lib.hid (below_row hb1 HB8.out)
            clear hb1
            have hn89 : g8 ≠ g9 := by omega
            clear hne
            have hxa : xa.length = 24 := Ha.out
            have hst := run_store_rowB (P := Tryz.prog) _ g8 35 (f32s xa) _ HB8.out (by rw [f32s_size, f32s_size, Ha.out]; rfl) (f32s_one _)
            refine wpAnyH_ready (rs := [10]) (by kernel_rfl) (by simp) ?_
            refine AllReadyH.cons rfl (fun K hK => ?_) (AllReadyH.nil)
            go_simp
            refine hK.out _ _ (below_setRow hHeld hl8 _) (fun hHeld2 => ?_)
            clear hK K hst
            have HC8 := Lib.hid (setRow_heap _ _ _ (f32s xa) _ _ HB8.out)
            have HC9 := Lib.hid ((setRow_other _ g8 g9 (f32s xa) hn89.symm).trans HB9.out)
            clear hHeld HB8 HB9
            have hHeld := hHeld2
            clear hHeld2
            have hxb : xb.length = 24 := Hb.out
            have hst := run_store_rowB (P := Tryz.prog) _ g9 35 (f32s xb) _ HC9.out (by rw [f32s_size, f32s_size, Hb.out]; rfl) (f32s_one _)
            refine wpAnyH_ready (rs := [11]) (by kernel_rfl) (by simp) ?_
            refine AllReadyH.cons rfl (fun K hK => ?_) (AllReadyH.nil)
            go_simp
            refine hK.out _ _ (below_setRow hHeld hl9 _) (fun hHeld2 => ?_)
            clear hK K hst
            refine wpAnyH_done (by kernel_rfl) ?_ _
            go_wp2
            go_meet
            case rel => exact ⟨g8, g9, rfl, rfl, hl8, hl9, (setRow_other _ _ _ _ hn89).trans HC8.out, setRow_heap _ _ _ _ _ _ HC9.out, hHeld2⟩
        · go_simp
          obtain ⟨g8, hq⟩ : ∃ g, g = Y27.heap.size := ⟨_, rfl⟩
          rw [← hq]
          refine hK.out _ (Y27.alloc (.cells (f32s (List.replicate 24 0)) 35 (0, 0))) (hHeld.alloc hHeld.size _) (fun hHeld2 => ?_)
          have HB8 : Hid ((Y27.alloc (.cells (f32s (List.replicate 24 0)) 35 (0, 0))).heap[g8]? = some (.cells (f32s (List.replicate 24 0)) 35 (0, 0))) := Lib.hid (by rw [hq]; exact heap_alloc_new _ _)
          have hl8 : W1.heap.size ≤ g8 := by rw [hq]; exact hHeld.size
          have hne : g9 < g8 := by rw [hq]; exact row_lt HB9.out
          replace HB9 := Lib.hid (below_row ((Below.refl Y27.heap.size _).alloc (Nat.le_refl _) (.cells (f32s (List.replicate 24 0)) 35 (0, 0))) HB9.out)
          clear hK K hHeld hq
          have hHeld := hHeld2
          clear hHeld2
          generalize (Y27.alloc (.cells (f32s (List.replicate 24 0)) 35 (0, 0))) = Y33 at *
          refine wpAnyH_ready (rs := [6]) (by kernel_rfl) (by simp) ?_
          refine AllReadyH.cons rfl (fun K hK => ?_) (AllReadyH.nil)
          go_simp
          refine (HSL.out _).mono ?_
          rintro e Y34 ⟨rfl, hb1⟩
          refine hK.out _ _ (hHeld.trans (hb1.mono hHeld.size)) (fun hHeld2 => ?_)
          clear hK K
          replace hHeld := hHeld2
          clear hHeld2
          replace HB9 := Lib.hid (below_row hb1 HB9.out)
          replace HB8 := Lib.hid (below_row hb1 HB8.out)
          clear hb1
          refine wpAnyH_ready (rs := [7]) (by kernel_rfl) (by simp) ?_
          refine AllReadyH.cons rfl (fun K hK => ?_) (AllReadyH.nil)
          go_simp
          refine (HF1.out _).mono ?_
          rintro e Y35 ⟨rfl, hb1⟩
          refine hK.out _ _ (hHeld.trans (hb1.mono hHeld.size)) (fun hHeld2 => ?_)
          clear hK K
          replace hHeld := hHeld2
          clear hHeld2
          replace HB9 := Lib.hid (below_row hb1 HB9.out)
          replace HB8 := Lib.hid (below_row hb1 HB8.out)
          clear hb1
          have hn89 : g8 ≠ g9 := by omega
          clear hne
          have hxa : xa.length = 24 := Ha.out
          have hst := run_store_rowB (P := Tryz.prog) _ g8 35 (f32s xa) _ HB8.out (by rw [f32s_size, f32s_size, Ha.out]; rfl) (f32s_one _)
          refine wpAnyH_ready (rs := [10]) (by kernel_rfl) (by simp) ?_
          refine AllReadyH.cons rfl (fun K hK => ?_) (AllReadyH.nil)
          go_simp
          refine hK.out _ _ (below_setRow hHeld hl8 _) (fun hHeld2 => ?_)
          clear hK K hst
          have HC8 := Lib.hid (setRow_heap _ _ _ (f32s xa) _ _ HB8.out)
          have HC9 := Lib.hid ((setRow_other _ g8 g9 (f32s xa) hn89.symm).trans HB9.out)
          clear hHeld HB8 HB9
          have hHeld := hHeld2
          clear hHeld2
          have hxb : xb.length = 24 := Hb.out
          have hst := run_store_rowB (P := Tryz.prog) _ g9 35 (f32s xb) _ HC9.out (by rw [f32s_size, f32s_size, Hb.out]; rfl) (f32s_one _)
          refine wpAnyH_ready (rs := [11]) (by kernel_rfl) (by simp) ?_
          refine AllReadyH.cons rfl (fun K hK => ?_) (AllReadyH.nil)
          go_simp
          refine hK.out _ _ (below_setRow hHeld hl9 _) (fun hHeld2 => ?_)
          clear hK K hst
          refine wpAnyH_done (by kernel_rfl) ?_ _
          go_wp2
          go_meet
          case rel => exact ⟨g8, g9, rfl, rfl, hl8, hl9, (setRow_other _ _ _ _ hn89).trans HC8.out, setRow_heap _ _ _ _ _ _ HC9.out, hHeld2⟩
    · go_simp
      obtain ⟨g8, hq⟩ : ∃ g, g = Y0.heap.size := ⟨_, rfl⟩
      rw [← hq]
      refine hK.out _ (Y0.alloc (.cells (f32s (List.replicate 24 0)) 35 (0, 0))) (hHeld.alloc hHeld.size _) (fun hHeld2 => ?_)
      have HB8 : Hid ((Y0.alloc (.cells (f32s (List.replicate 24 0)) 35 (0, 0))).heap[g8]? = some (.cells (f32s (List.replicate 24 0)) 35 (0, 0))) := Lib.hid (by rw [hq]; exact heap_alloc_new _ _)
      have hl8 : W1.heap.size ≤ g8 := by rw [hq]; exact hHeld.size
      clear hK K hHeld hq
      have hHeld := hHeld2
      clear hHeld2
      generalize (Y0.alloc (.cells (f32s (List.replicate 24 0)) 35 (0, 0))) = Y36 at *
      refine wpAnyH_ready (rs := [2, 9]) (by kernel_rfl) (by simp) ?_
      refine AllReadyH.cons rfl (fun K hK => ?_) (AllReadyH.cons rfl (fun K hK => ?_) (AllReadyH.nil))
      · go_simp
        refine (HF0.out _).mono ?_
        rintro e Y37 ⟨rfl, hb1⟩
        refine hK.out _ _ (hHeld.trans (hb1.mono hHeld.size)) (fun hHeld2 => ?_)
        clear hK K
        replace hHeld := hHeld2
        clear hHeld2
        replace HB8 := Lib.hid (below_row hb1 HB8.out)
        clear hb1
        refine wpAnyH_ready (rs := [6, 9]) (by kernel_rfl) (by simp) ?_
        refine AllReadyH.cons rfl (fun K hK => ?_) (AllReadyH.cons rfl (fun K hK => ?_) (AllReadyH.nil))
        · go_simp
          refine (HSL.out _).mono ?_
          rintro e Y38 ⟨rfl, hb1⟩
          refine hK.out _ _ (hHeld.trans (hb1.mono hHeld.size)) (fun hHeld2 => ?_)
          clear hK K
          replace hHeld := hHeld2
          clear hHeld2
          replace HB8 := Lib.hid (below_row hb1 HB8.out)
          clear hb1
          refine wpAnyH_ready (rs := [7, 9]) (by kernel_rfl) (by simp) ?_
          refine AllReadyH.cons rfl (fun K hK => ?_) (AllReadyH.cons rfl (fun K hK => ?_) (AllReadyH.nil))
          · go_simp
            refine (HF1.out _).mono ?_
            rintro e Y39 ⟨rfl, hb1⟩
            refine hK.out _ _ (hHeld.trans (hb1.mono hHeld.size)) (fun hHeld2 => ?_)
            clear hK K
            replace hHeld := hHeld2
            clear hHeld2
            replace HB8 := Lib.hid (below_row hb1 HB8.out)
            clear hb1
            refine wpAnyH_ready (rs := [9]) (by kernel_rfl) (by simp) ?_
            refine AllReadyH.cons rfl (fun K hK => ?_) (AllReadyH.nil)
            go_simp
            obtain ⟨g9, hq⟩ : ∃ g, g = Y39.heap.size := ⟨_, rfl⟩
            rw [← hq]
            refine hK.out _ (Y39.alloc (.cells (f32s (List.replicate 24 0)) 35 (0, 0))) (hHeld.alloc hHeld.size _) (fun hHeld2 => ?_)
            have HB9 : Hid ((Y39.alloc (.cells (f32s (List.replicate 24 0)) 35 (0, 0))).heap[g9]? = some (.cells (f32s (List.replicate 24 0)) 35 (0, 0))) := Lib.hid (by rw [hq]; exact heap_alloc_new _ _)
            have hl9 : W1.heap.size ≤ g9 := by rw [hq]; exact hHeld.size
            have hne : g8 < g9 := by rw [hq]; exact row_lt HB8.out
            replace HB8 := Lib.hid (below_row ((Below.refl Y39.heap.size _).alloc (Nat.le_refl _) (.cells (f32s (List.replicate 24 0)) 35 (0, 0))) HB8.out)
            clear hK K hHeld hq
            have hHeld := hHeld2
            clear hHeld2
            generalize (Y39.alloc (.cells (f32s (List.replicate 24 0)) 35 (0, 0))) = Y40 at *
            have hn89 : g8 ≠ g9 := by omega
            clear hne
            have hxa : xa.length = 24 := Ha.out
            have hst := run_store_rowB (P := Tryz.prog) _ g8 35 (f32s xa) _ HB8.out (by rw [f32s_size, f32s_size, Ha.out]; rfl) (f32s_one _)
            refine wpAnyH_ready (rs := [10]) (by kernel_rfl) (by simp) ?_
            refine AllReadyH.cons rfl (fun K hK => ?_) (AllReadyH.nil)
            go_simp
            refine hK.out _ _ (below_setRow hHeld hl8 _) (fun hHeld2 => ?_)
            clear hK K hst
            have HC8 := Lib.hid (setRow_heap _ _ _ (f32s xa) _ _ HB8.out)
            have HC9 := Lib.hid ((setRow_other _ g8 g9 (f32s xa) hn89.symm).trans HB9.out)
            clear hHeld HB8 HB9
            have hHeld := hHeld2
            clear hHeld2
            have hxb : xb.length = 24 := Hb.out
            have hst := run_store_rowB (P := Tryz.prog) _ g9 35 (f32s xb) _ HC9.out (by rw [f32s_size, f32s_size, Hb.out]; rfl) (f32s_one _)
            refine wpAnyH_ready (rs := [11]) (by kernel_rfl) (by simp) ?_
            refine AllReadyH.cons rfl (fun K hK => ?_) (AllReadyH.nil)
            go_simp
            refine hK.out _ _ (below_setRow hHeld hl9 _) (fun hHeld2 => ?_)
            clear hK K hst
            refine wpAnyH_done (by kernel_rfl) ?_ _
            go_wp2
            go_meet
            case rel => exact ⟨g8, g9, rfl, rfl, hl8, hl9, (setRow_other _ _ _ _ hn89).trans HC8.out, setRow_heap _ _ _ _ _ _ HC9.out, hHeld2⟩
          · go_simp
            obtain ⟨g9, hq⟩ : ∃ g, g = Y38.heap.size := ⟨_, rfl⟩
            rw [← hq]
            refine hK.out _ (Y38.alloc (.cells (f32s (List.replicate 24 0)) 35 (0, 0))) (hHeld.alloc hHeld.size _) (fun hHeld2 => ?_)
            have HB9 : Hid ((Y38.alloc (.cells (f32s (List.replicate 24 0)) 35 (0, 0))).heap[g9]? = some (.cells (f32s (List.replicate 24 0)) 35 (0, 0))) := Lib.hid (by rw [hq]; exact heap_alloc_new _ _)
            have hl9 : W1.heap.size ≤ g9 := by rw [hq]; exact hHeld.size
            have hne : g8 < g9 := by rw [hq]; exact row_lt HB8.out
            replace HB8 := Lib.hid (below_row ((Below.refl Y38.heap.size _).alloc (Nat.le_refl _) (.cells (f32s (List.replicate 24 0)) 35 (0, 0))) HB8.out)
            clear hK K hHeld hq
            have hHeld := hHeld2
            clear hHeld2
            generalize (Y38.alloc (.cells (f32s (List.replicate 24 0)) 35 (0, 0))) = Y41 at *
            refine wpAnyH_ready (rs := [7]) (by kernel_rfl) (by simp) ?_
            refine AllReadyH.cons rfl (fun K hK => ?_) (AllReadyH.nil)
            go_simp
            refine (HF1.out _).mono ?_
            rintro e Y42 ⟨rfl, hb1⟩
            refine hK.out _ _ (hHeld.trans (hb1.mono hHeld.size)) (fun hHeld2 => ?_)
            clear hK K
            replace hHeld := hHeld2
            clear hHeld2
            replace HB8 := Lib.hid (below_row hb1 HB8.out)
            replace HB9 := Lib.hid (below_row hb1 HB9.out)
            clear hb1
            have hn89 : g8 ≠ g9 := by omega
            clear hne
            have hxa : xa.length = 24 := Ha.out
            have hst := run_store_rowB (P := Tryz.prog) _ g8 35 (f32s xa) _ HB8.out (by rw [f32s_size, f32s_size, Ha.out]; rfl) (f32s_one _)
            refine wpAnyH_ready (rs := [10]) (by kernel_rfl) (by simp) ?_
            refine AllReadyH.cons rfl (fun K hK => ?_) (AllReadyH.nil)
            go_simp
            refine hK.out _ _ (below_setRow hHeld hl8 _) (fun hHeld2 => ?_)
            clear hK K hst
            have HC8 := Lib.hid (setRow_heap _ _ _ (f32s xa) _ _ HB8.out)
            have HC9 := Lib.hid ((setRow_other _ g8 g9 (f32s xa) hn89.symm).trans HB9.out)
            clear hHeld HB8 HB9
            have hHeld := hHeld2
            clear hHeld2
            have hxb : xb.length = 24 := Hb.out
            have hst := run_store_rowB (P := Tryz.prog) _ g9 35 (f32s xb) _ HC9.out (by rw [f32s_size, f32s_size, Hb.out]; rfl) (f32s_one _)
            refine wpAnyH_ready (rs := [11]) (by kernel_rfl) (by simp) ?_
            refine AllReadyH.cons rfl (fun K hK => ?_) (AllReadyH.nil)
            go_simp
            refine hK.out _ _ (below_setRow hHeld hl9 _) (fun hHeld2 => ?_)
            clear hK K hst
            refine wpAnyH_done (by kernel_rfl) ?_ _
            go_wp2
            go_meet
            case rel => exact ⟨g8, g9, rfl, rfl, hl8, hl9, (setRow_other _ _ _ _ hn89).trans HC8.out, setRow_heap _ _ _ _ _ _ HC9.out, hHeld2⟩
        · go_simp
          obtain ⟨g9, hq⟩ : ∃ g, g = Y37.heap.size := ⟨_, rfl⟩
          rw [← hq]
          refine hK.out _ (Y37.alloc (.cells (f32s (List.replicate 24 0)) 35 (0, 0))) (hHeld.alloc hHeld.size _) (fun hHeld2 => ?_)
          have HB9 : Hid ((Y37.alloc (.cells (f32s (List.replicate 24 0)) 35 (0, 0))).heap[g9]? = some (.cells (f32s (List.replicate 24 0)) 35 (0, 0))) := Lib.hid (by rw [hq]; exact heap_alloc_new _ _)
          have hl9 : W1.heap.size ≤ g9 := by rw [hq]; exact hHeld.size
          have hne : g8 < g9 := by rw [hq]; exact row_lt HB8.out
          replace HB8 := Lib.hid (below_row ((Below.refl Y37.heap.size _).alloc (Nat.le_refl _) (.cells (f32s (List.replicate 24 0)) 35 (0, 0))) HB8.out)
          clear hK K hHeld hq
          have hHeld := hHeld2
          clear hHeld2
          generalize (Y37.alloc (.cells (f32s (List.replicate 24 0)) 35 (0, 0))) = Y43 at *
          refine wpAnyH_ready (rs := [6]) (by kernel_rfl) (by simp) ?_
          refine AllReadyH.cons rfl (fun K hK => ?_) (AllReadyH.nil)
          go_simp
          refine (HSL.out _).mono ?_
          rintro e Y44 ⟨rfl, hb1⟩
          refine hK.out _ _ (hHeld.trans (hb1.mono hHeld.size)) (fun hHeld2 => ?_)
          clear hK K
          replace hHeld := hHeld2
          clear hHeld2
          replace HB8 := Lib.hid (below_row hb1 HB8.out)
          replace HB9 := Lib.hid (below_row hb1 HB9.out)
          clear hb1
          refine wpAnyH_ready (rs := [7]) (by kernel_rfl) (by simp) ?_
          refine AllReadyH.cons rfl (fun K hK => ?_) (AllReadyH.nil)
          go_simp
          refine (HF1.out _).mono ?_
          rintro e Y45 ⟨rfl, hb1⟩
          refine hK.out _ _ (hHeld.trans (hb1.mono hHeld.size)) (fun hHeld2 => ?_)
          clear hK K
          replace hHeld := hHeld2
          clear hHeld2
          replace HB8 := Lib.hid (below_row hb1 HB8.out)
          replace HB9 := Lib.hid (below_row hb1 HB9.out)
          clear hb1
          have hn89 : g8 ≠ g9 := by omega
          clear hne
          have hxa : xa.length = 24 := Ha.out
          have hst := run_store_rowB (P := Tryz.prog) _ g8 35 (f32s xa) _ HB8.out (by rw [f32s_size, f32s_size, Ha.out]; rfl) (f32s_one _)
          refine wpAnyH_ready (rs := [10]) (by kernel_rfl) (by simp) ?_
          refine AllReadyH.cons rfl (fun K hK => ?_) (AllReadyH.nil)
          go_simp
          refine hK.out _ _ (below_setRow hHeld hl8 _) (fun hHeld2 => ?_)
          clear hK K hst
          have HC8 := Lib.hid (setRow_heap _ _ _ (f32s xa) _ _ HB8.out)
          have HC9 := Lib.hid ((setRow_other _ g8 g9 (f32s xa) hn89.symm).trans HB9.out)
          clear hHeld HB8 HB9
          have hHeld := hHeld2
          clear hHeld2
          have hxb : xb.length = 24 := Hb.out
          have hst := run_store_rowB (P := Tryz.prog) _ g9 35 (f32s xb) _ HC9.out (by rw [f32s_size, f32s_size, Hb.out]; rfl) (f32s_one _)
          refine wpAnyH_ready (rs := [11]) (by kernel_rfl) (by simp) ?_
          refine AllReadyH.cons rfl (fun K hK => ?_) (AllReadyH.nil)
          go_simp
          refine hK.out _ _ (below_setRow hHeld hl9 _) (fun hHeld2 => ?_)
          clear hK K hst
          refine wpAnyH_done (by kernel_rfl) ?_ _
          go_wp2
          go_meet
          case rel => exact ⟨g8, g9, rfl, rfl, hl8, hl9, (setRow_other _ _ _ _ hn89).trans HC8.out, setRow_heap _ _ _ _ _ _ HC9.out, hHeld2⟩
      · go_simp
        obtain ⟨g9, hq⟩ : ∃ g, g = Y36.heap.size := ⟨_, rfl⟩
        rw [← hq]
        refine hK.out _ (Y36.alloc (.cells (f32s (List.replicate 24 0)) 35 (0, 0))) (hHeld.alloc hHeld.size _) (fun hHeld2 => ?_)
        have HB9 : Hid ((Y36.alloc (.cells (f32s (List.replicate 24 0)) 35 (0, 0))).heap[g9]? = some (.cells (f32s (List.replicate 24 0)) 35 (0, 0))) := Lib.hid (by rw [hq]; exact heap_alloc_new _ _)
        have hl9 : W1.heap.size ≤ g9 := by rw [hq]; exact hHeld.size
        have hne : g8 < g9 := by rw [hq]; exact row_lt HB8.out
        replace HB8 := Lib.hid (below_row ((Below.refl Y36.heap.size _).alloc (Nat.le_refl _) (.cells (f32s (List.replicate 24 0)) 35 (0, 0))) HB8.out)
        clear hK K hHeld hq
        have hHeld := hHeld2
        clear hHeld2
        generalize (Y36.alloc (.cells (f32s (List.replicate 24 0)) 35 (0, 0))) = Y46 at *
        refine wpAnyH_ready (rs := [2]) (by kernel_rfl) (by simp) ?_
        refine AllReadyH.cons rfl (fun K hK => ?_) (AllReadyH.nil)
        go_simp
        refine (HF0.out _).mono ?_
        rintro e Y47 ⟨rfl, hb1⟩
        refine hK.out _ _ (hHeld.trans (hb1.mono hHeld.size)) (fun hHeld2 => ?_)
        clear hK K
        replace hHeld := hHeld2
        clear hHeld2
        replace HB8 := Lib.hid (below_row hb1 HB8.out)
        replace HB9 := Lib.hid (below_row hb1 HB9.out)
        clear hb1
        refine wpAnyH_ready (rs := [6]) (by kernel_rfl) (by simp) ?_
        refine AllReadyH.cons rfl (fun K hK => ?_) (AllReadyH.nil)
        go_simp
        refine (HSL.out _).mono ?_
        rintro e Y48 ⟨rfl, hb1⟩
        refine hK.out _ _ (hHeld.trans (hb1.mono hHeld.size)) (fun hHeld2 => ?_)
        clear hK K
        replace hHeld := hHeld2
        clear hHeld2
        replace HB8 := Lib.hid (below_row hb1 HB8.out)
        replace HB9 := Lib.hid (below_row hb1 HB9.out)
        clear hb1
        refine wpAnyH_ready (rs := [7]) (by kernel_rfl) (by simp) ?_
        refine AllReadyH.cons rfl (fun K hK => ?_) (AllReadyH.nil)
        go_simp
        refine (HF1.out _).mono ?_
        rintro e Y49 ⟨rfl, hb1⟩
        refine hK.out _ _ (hHeld.trans (hb1.mono hHeld.size)) (fun hHeld2 => ?_)
        clear hK K
        replace hHeld := hHeld2
        clear hHeld2
        replace HB8 := Lib.hid (below_row hb1 HB8.out)
        replace HB9 := Lib.hid (below_row hb1 HB9.out)
        clear hb1
        have hn89 : g8 ≠ g9 := by omega
        clear hne
        have hxa : xa.length = 24 := Ha.out
        have hst := run_store_rowB (P := Tryz.prog) _ g8 35 (f32s xa) _ HB8.out (by rw [f32s_size, f32s_size, Ha.out]; rfl) (f32s_one _)
        refine wpAnyH_ready (rs := [10]) (by kernel_rfl) (by simp) ?_
        refine AllReadyH.cons rfl (fun K hK => ?_) (AllReadyH.nil)
        go_simp
        refine hK.out _ _ (below_setRow hHeld hl8 _) (fun hHeld2 => ?_)
        clear hK K hst
        have HC8 := Lib.hid (setRow_heap _ _ _ (f32s xa) _ _ HB8.out)
        have HC9 := Lib.hid ((setRow_other _ g8 g9 (f32s xa) hn89.symm).trans HB9.out)
        clear hHeld HB8 HB9
        have hHeld := hHeld2
        clear hHeld2
        have hxb : xb.length = 24 := Hb.out
        have hst := run_store_rowB (P := Tryz.prog) _ g9 35 (f32s xb) _ HC9.out (by rw [f32s_size, f32s_size, Hb.out]; rfl) (f32s_one _)
        refine wpAnyH_ready (rs := [11]) (by kernel_rfl) (by simp) ?_
        refine AllReadyH.cons rfl (fun K hK => ?_) (AllReadyH.nil)
        go_simp
        refine hK.out _ _ (below_setRow hHeld hl9 _) (fun hHeld2 => ?_)
        clear hK K hst
        refine wpAnyH_done (by kernel_rfl) ?_ _
        go_wp2
        go_meet
        case rel => exact ⟨g8, g9, rfl, rfl, hl8, hl9, (setRow_other _ _ _ _ hn89).trans HC8.out, setRow_heap _ _ _ _ _ _ HC9.out, hHeld2⟩
    · go_simp
      obtain ⟨g9, hq⟩ : ∃ g, g = Y0.heap.size := ⟨_, rfl⟩
      rw [← hq]
      refine hK.out _ (Y0.alloc (.cells (f32s (List.replicate 24 0)) 35 (0, 0))) (hHeld.alloc hHeld.size _) (fun hHeld2 => ?_)
      have HB9 : Hid ((Y0.alloc (.cells (f32s (List.replicate 24 0)) 35 (0, 0))).heap[g9]? = some (.cells (f32s (List.replicate 24 0)) 35 (0, 0))) := Lib.hid (by rw [hq]; exact heap_alloc_new _ _)
      have hl9 : W1.heap.size ≤ g9 := by rw [hq]; exact hHeld.size
      clear hK K hHeld hq
      have hHeld := hHeld2
      clear hHeld2
      generalize (Y0.alloc (.cells (f32s (List.replicate 24 0)) 35 (0, 0))) = Y50 at *
      refine wpAnyH_ready (rs := [2, 8]) (by kernel_rfl) (by simp) ?_
      refine AllReadyH.cons rfl (fun K hK => ?_) (AllReadyH.cons rfl (fun K hK => ?_) (AllReadyH.nil))
      · go_simp
        refine (HF0.out _).mono ?_
        rintro e Y51 ⟨rfl, hb1⟩
        refine hK.out _ _ (hHeld.trans (hb1.mono hHeld.size)) (fun hHeld2 => ?_)
        clear hK K
        replace hHeld := hHeld2
        clear hHeld2
        replace HB9 := Lib.hid (below_row hb1 HB9.out)
        clear hb1
        refine wpAnyH_ready (rs := [6, 8]) (by kernel_rfl) (by simp) ?_
        refine AllReadyH.cons rfl (fun K hK => ?_) (AllReadyH.cons rfl (fun K hK => ?_) (AllReadyH.nil))
        · go_simp
          refine (HSL.out _).mono ?_
          rintro e Y52 ⟨rfl, hb1⟩
          refine hK.out _ _ (hHeld.trans (hb1.mono hHeld.size)) (fun hHeld2 => ?_)
          clear hK K
          replace hHeld := hHeld2
          clear hHeld2
          replace HB9 := Lib.hid (below_row hb1 HB9.out)
          clear hb1
          refine wpAnyH_ready (rs := [7, 8]) (by kernel_rfl) (by simp) ?_
          refine AllReadyH.cons rfl (fun K hK => ?_) (AllReadyH.cons rfl (fun K hK => ?_) (AllReadyH.nil))
          · go_simp
            refine (HF1.out _).mono ?_
            rintro e Y53 ⟨rfl, hb1⟩
            refine hK.out _ _ (hHeld.trans (hb1.mono hHeld.size)) (fun hHeld2 => ?_)
            clear hK K
            replace hHeld := hHeld2
            clear hHeld2
            replace HB9 := Lib.hid (below_row hb1 HB9.out)
            clear hb1
            refine wpAnyH_ready (rs := [8]) (by kernel_rfl) (by simp) ?_
            refine AllReadyH.cons rfl (fun K hK => ?_) (AllReadyH.nil)
            go_simp
            obtain ⟨g8, hq⟩ : ∃ g, g = Y53.heap.size := ⟨_, rfl⟩
            rw [← hq]
            refine hK.out _ (Y53.alloc (.cells (f32s (List.replicate 24 0)) 35 (0, 0))) (hHeld.alloc hHeld.size _) (fun hHeld2 => ?_)
            have HB8 : Hid ((Y53.alloc (.cells (f32s (List.replicate 24 0)) 35 (0, 0))).heap[g8]? = some (.cells (f32s (List.replicate 24 0)) 35 (0, 0))) := Lib.hid (by rw [hq]; exact heap_alloc_new _ _)
            have hl8 : W1.heap.size ≤ g8 := by rw [hq]; exact hHeld.size
            have hne : g9 < g8 := by rw [hq]; exact row_lt HB9.out
            replace HB9 := Lib.hid (below_row ((Below.refl Y53.heap.size _).alloc (Nat.le_refl _) (.cells (f32s (List.replicate 24 0)) 35 (0, 0))) HB9.out)
            clear hK K hHeld hq
            have hHeld := hHeld2
            clear hHeld2
            generalize (Y53.alloc (.cells (f32s (List.replicate 24 0)) 35 (0, 0))) = Y54 at *
            have hn89 : g8 ≠ g9 := by omega
            clear hne
            have hxa : xa.length = 24 := Ha.out
            have hst := run_store_rowB (P := Tryz.prog) _ g8 35 (f32s xa) _ HB8.out (by rw [f32s_size, f32s_size, Ha.out]; rfl) (f32s_one _)
            refine wpAnyH_ready (rs := [10]) (by kernel_rfl) (by simp) ?_
            refine AllReadyH.cons rfl (fun K hK => ?_) (AllReadyH.nil)
            go_simp
            refine hK.out _ _ (below_setRow hHeld hl8 _) (fun hHeld2 => ?_)
            clear hK K hst
            have HC8 := Lib.hid (setRow_heap _ _ _ (f32s xa) _ _ HB8.out)
            have HC9 := Lib.hid ((setRow_other _ g8 g9 (f32s xa) hn89.symm).trans HB9.out)
            clear hHeld HB8 HB9
            have hHeld := hHeld2
            clear hHeld2
            have hxb : xb.length = 24 := Hb.out
            have hst := run_store_rowB (P := Tryz.prog) _ g9 35 (f32s xb) _ HC9.out (by rw [f32s_size, f32s_size, Hb.out]; rfl) (f32s_one _)
            refine wpAnyH_ready (rs := [11]) (by kernel_rfl) (by simp) ?_
            refine AllReadyH.cons rfl (fun K hK => ?_) (AllReadyH.nil)
            go_simp
            refine hK.out _ _ (below_setRow hHeld hl9 _) (fun hHeld2 => ?_)
            clear hK K hst
            refine wpAnyH_done (by kernel_rfl) ?_ _
            go_wp2
            go_meet
            case rel => exact ⟨g8, g9, rfl, rfl, hl8, hl9, (setRow_other _ _ _ _ hn89).trans HC8.out, setRow_heap _ _ _ _ _ _ HC9.out, hHeld2⟩
          · go_simp
            obtain ⟨g8, hq⟩ : ∃ g, g = Y52.heap.size := ⟨_, rfl⟩
            rw [← hq]
            refine hK.out _ (Y52.alloc (.cells (f32s (List.replicate 24 0)) 35 (0, 0))) (hHeld.alloc hHeld.size _) (fun hHeld2 => ?_)
            have HB8 : Hid ((Y52.alloc (.cells (f32s (List.replicate 24 0)) 35 (0, 0))).heap[g8]? = some (.cells (f32s (List.replicate 24 0)) 35 (0, 0))) := Lib.hid (by rw [hq]; exact heap_alloc_new _ _)
            have hl8 : W1.heap.size ≤ g8 := by rw [hq]; exact hHeld.size
            have hne : g9 < g8 := by rw [hq]; exact row_lt HB9.out
            replace HB9 := Lib.hid (below_row ((Below.refl Y52.heap.size _).alloc (Nat.le_refl _) (.cells (f32s (List.replicate 24 0)) 35 (0, 0))) HB9.out)
            clear hK K hHeld hq
            have hHeld := hHeld2
            clear hHeld2
            generalize (Y52.alloc (.cells (f32s (List.replicate 24 0)) 35 (0, 0))) = Y55 at *
            refine wpAnyH_ready (rs := [7]) (by kernel_rfl) (by simp) ?_
            refine AllReadyH.cons rfl (fun K hK => ?_) (AllReadyH.nil)
            go_simp
            refine (HF1.out _).mono ?_
            rintro e Y56 ⟨rfl, hb1⟩
            refine hK.out _ _ (hHeld.trans (hb1.mono hHeld.size)) (fun hHeld2 => ?_)
            clear hK K
            replace hHeld := hHeld2
            clear hHeld2
            replace HB9 := Lib.hid (below_row hb1 HB9.out)
            replace HB8 := Lib.hid (below_row hb1 HB8.out)
            clear hb1
            have hn89 : g8 ≠ g9 := by omega
            clear hne
            have hxa : xa.length = 24 := Ha.out
            have hst := run_store_rowB (P := Tryz.prog) _ g8 35 (f32s xa) _ HB8.out (by rw [f32s_size, f32s_size, Ha.out]; rfl) (f32s_one _)
            refine wpAnyH_ready (rs := [10]) (by kernel_rfl) (by simp) ?_
            refine AllReadyH.cons rfl (fun K hK => ?_) (AllReadyH.nil)
            go_simp
            refine hK.out _ _ (below_setRow hHeld hl8 _) (fun hHeld2 => ?_)
            clear hK K hst
            have HC8 := Lib.hid (setRow_heap _ _ _ (f32s xa) _ _ HB8.out)
            have HC9 := Lib.hid ((setRow_other _ g8 g9 (f32s xa) hn89.symm).trans HB9.out)
            clear hHeld HB8 HB9
            have hHeld := hHeld2
            clear hHeld2
            have hxb : xb.length = 24 := Hb.out
            have hst := run_store_rowB (P := Tryz.prog) _ g9 35 (f32s xb) _ HC9.out (by rw [f32s_size, f32s_size, Hb.out]; rfl) (f32s_one _)
            refine wpAnyH_ready (rs := [11]) (by kernel_rfl) (by simp) ?_
            refine AllReadyH.cons rfl (fun K hK => ?_) (AllReadyH.nil)
            go_simp
            refine hK.out _ _ (below_setRow hHeld hl9 _) (fun hHeld2 => ?_)
            clear hK K hst
            refine wpAnyH_done (by kernel_rfl) ?_ _
            go_wp2
            go_meet
            case rel => exact ⟨g8, g9, rfl, rfl, hl8, hl9, (setRow_other _ _ _ _ hn89).trans HC8.out, setRow_heap _ _ _ _ _ _ HC9.out, hHeld2⟩
        · go_simp
          obtain ⟨g8, hq⟩ : ∃ g, g = Y51.heap.size := ⟨_, rfl⟩
          rw [← hq]
          refine hK.out _ (Y51.alloc (.cells (f32s (List.replicate 24 0)) 35 (0, 0))) (hHeld.alloc hHeld.size _) (fun hHeld2 => ?_)
          have HB8 : Hid ((Y51.alloc (.cells (f32s (List.replicate 24 0)) 35 (0, 0))).heap[g8]? = some (.cells (f32s (List.replicate 24 0)) 35 (0, 0))) := Lib.hid (by rw [hq]; exact heap_alloc_new _ _)
          have hl8 : W1.heap.size ≤ g8 := by rw [hq]; exact hHeld.size
          have hne : g9 < g8 := by rw [hq]; exact row_lt HB9.out
          replace HB9 := Lib.hid (below_row ((Below.refl Y51.heap.size _).alloc (Nat.le_refl _) (.cells (f32s (List.replicate 24 0)) 35 (0, 0))) HB9.out)
          clear hK K hHeld hq
          have hHeld := hHeld2
          clear hHeld2
          generalize (Y51.alloc (.cells (f32s (List.replicate 24 0)) 35 (0, 0))) = Y57 at *
          refine wpAnyH_ready (rs := [6]) (by kernel_rfl) (by simp) ?_
          refine AllReadyH.cons rfl (fun K hK => ?_) (AllReadyH.nil)
          go_simp
          refine (HSL.out _).mono ?_
          rintro e Y58 ⟨rfl, hb1⟩
          refine hK.out _ _ (hHeld.trans (hb1.mono hHeld.size)) (fun hHeld2 => ?_)
          clear hK K
          replace hHeld := hHeld2
          clear hHeld2
          replace HB9 := Lib.hid (below_row hb1 HB9.out)
          replace HB8 := Lib.hid (below_row hb1 HB8.out)
          clear hb1
          refine wpAnyH_ready (rs := [7]) (by kernel_rfl) (by simp) ?_
          refine AllReadyH.cons rfl (fun K hK => ?_) (AllReadyH.nil)
          go_simp
          refine (HF1.out _).mono ?_
          rintro e Y59 ⟨rfl, hb1⟩
          refine hK.out _ _ (hHeld.trans (hb1.mono hHeld.size)) (fun hHeld2 => ?_)
          clear hK K
          replace hHeld := hHeld2
          clear hHeld2
          replace HB9 := Lib.hid (below_row hb1 HB9.out)
          replace HB8 := Lib.hid (below_row hb1 HB8.out)
          clear hb1
          have hn89 : g8 ≠ g9 := by omega
          clear hne
          have hxa : xa.length = 24 := Ha.out
          have hst := run_store_rowB (P := Tryz.prog) _ g8 35 (f32s xa) _ HB8.out (by rw [f32s_size, f32s_size, Ha.out]; rfl) (f32s_one _)
          refine wpAnyH_ready (rs := [10]) (by kernel_rfl) (by simp) ?_
          refine AllReadyH.cons rfl (fun K hK => ?_) (AllReadyH.nil)
          go_simp
          refine hK.out _ _ (below_setRow hHeld hl8 _) (fun hHeld2 => ?_)
          clear hK K hst
          have HC8 := Lib.hid (setRow_heap _ _ _ (f32s xa) _ _ HB8.out)
          have HC9 := Lib.hid ((setRow_other _ g8 g9 (f32s xa) hn89.symm).trans HB9.out)
          clear hHeld HB8 HB9
          have hHeld := hHeld2
          clear hHeld2
          have hxb : xb.length = 24 := Hb.out
          have hst := run_store_rowB (P := Tryz.prog) _ g9 35 (f32s xb) _ HC9.out (by rw [f32s_size, f32s_size, Hb.out]; rfl) (f32s_one _)
          refine wpAnyH_ready (rs := [11]) (by kernel_rfl) (by simp) ?_
          refine AllReadyH.cons rfl (fun K hK => ?_) (AllReadyH.nil)
          go_simp
          refine hK.out _ _ (below_setRow hHeld hl9 _) (fun hHeld2 => ?_)
          clear hK K hst
          refine wpAnyH_done (by kernel_rfl) ?_ _
          go_wp2
          go_meet
          case rel => exact ⟨g8, g9, rfl, rfl, hl8, hl9, (setRow_other _ _ _ _ hn89).trans HC8.out, setRow_heap _ _ _ _ _ _ HC9.out, hHeld2⟩
      · go_simp
        obtain ⟨g8, hq⟩ : ∃ g, g = Y50.heap.size := ⟨_, rfl⟩
        rw [← hq]
        refine hK.out _ (Y50.alloc (.cells (f32s (List.replicate 24 0)) 35 (0, 0))) (hHeld.alloc hHeld.size _) (fun hHeld2 => ?_)
        have HB8 : Hid ((Y50.alloc (.cells (f32s (List.replicate 24 0)) 35 (0, 0))).heap[g8]? = some (.cells (f32s (List.replicate 24 0)) 35 (0, 0))) := Lib.hid (by rw [hq]; exact heap_alloc_new _ _)
        have hl8 : W1.heap.size ≤ g8 := by rw [hq]; exact hHeld.size
        have hne : g9 < g8 := by rw [hq]; exact row_lt HB9.out
        replace HB9 := Lib.hid (below_row ((Below.refl Y50.heap.size _).alloc (Nat.le_refl _) (.cells (f32s (List.replicate 24 0)) 35 (0, 0))) HB9.out)
        clear hK K hHeld hq
        have hHeld := hHeld2
        clear hHeld2
        generalize (Y50.alloc (.cells (f32s (List.replicate 24 0)) 35 (0, 0))) = Y60 at *
        refine wpAnyH_ready (rs := [2]) (by kernel_rfl) (by simp) ?_
        refine AllReadyH.cons rfl (fun K hK => ?_) (AllReadyH.nil)
        go_simp
        refine (HF0.out _).mono ?_
        rintro e Y61 ⟨rfl, hb1⟩
        refine hK.out _ _ (hHeld.trans (hb1.mono hHeld.size)) (fun hHeld2 => ?_)
        clear hK K
        replace hHeld := hHeld2
        clear hHeld2
        replace HB9 := Lib.hid (below_row hb1 HB9.out)
        replace HB8 := Lib.hid (below_row hb1 HB8.out)
        clear hb1
        refine wpAnyH_ready (rs := [6]) (by kernel_rfl) (by simp) ?_
        refine AllReadyH.cons rfl (fun K hK => ?_) (AllReadyH.nil)
        go_simp
        refine (HSL.out _).mono ?_
        rintro e Y62 ⟨rfl, hb1⟩
        refine hK.out _ _ (hHeld.trans (hb1.mono hHeld.size)) (fun hHeld2 => ?_)
        clear hK K
        replace hHeld := hHeld2
        clear hHeld2
        replace HB9 := Lib.hid (below_row hb1 HB9.out)
        replace HB8 := Lib.hid (below_row hb1 HB8.out)
        clear hb1
        refine wpAnyH_ready (rs := [7]) (by kernel_rfl) (by simp) ?_
        refine AllReadyH.cons rfl (fun K hK => ?_) (AllReadyH.nil)
        go_simp
        refine (HF1.out _).mono ?_
        rintro e Y63 ⟨rfl, hb1⟩
        refine hK.out _ _ (hHeld.trans (hb1.mono hHeld.size)) (fun hHeld2 => ?_)
        clear hK K
        replace hHeld := hHeld2
        clear hHeld2
        replace HB9 := Lib.hid (below_row hb1 HB9.out)
        replace HB8 := Lib.hid (below_row hb1 HB8.out)
        clear hb1
        have hn89 : g8 ≠ g9 := by omega
        clear hne
        have hxa : xa.length = 24 := Ha.out
        have hst := run_store_rowB (P := Tryz.prog) _ g8 35 (f32s xa) _ HB8.out (by rw [f32s_size, f32s_size, Ha.out]; rfl) (f32s_one _)
        refine wpAnyH_ready (rs := [10]) (by kernel_rfl) (by simp) ?_
        refine AllReadyH.cons rfl (fun K hK => ?_) (AllReadyH.nil)
        go_simp
        refine hK.out _ _ (below_setRow hHeld hl8 _) (fun hHeld2 => ?_)
        clear hK K hst
        have HC8 := Lib.hid (setRow_heap _ _ _ (f32s xa) _ _ HB8.out)
        have HC9 := Lib.hid ((setRow_other _ g8 g9 (f32s xa) hn89.symm).trans HB9.out)
        clear hHeld HB8 HB9
        have hHeld := hHeld2
        clear hHeld2
        have hxb : xb.length = 24 := Hb.out
        have hst := run_store_rowB (P := Tryz.prog) _ g9 35 (f32s xb) _ HC9.out (by rw [f32s_size, f32s_size, Hb.out]; rfl) (f32s_one _)
        refine wpAnyH_ready (rs := [11]) (by kernel_rfl) (by simp) ?_
        refine AllReadyH.cons rfl (fun K hK => ?_) (AllReadyH.nil)
        go_simp
        refine hK.out _ _ (below_setRow hHeld hl9 _) (fun hHeld2 => ?_)
        clear hK K hst
        refine wpAnyH_done (by kernel_rfl) ?_ _
        go_wp2
        go_meet
        case rel => exact ⟨g8, g9, rfl, rfl, hl8, hl9, (setRow_other _ _ _ _ hn89).trans HC8.out, setRow_heap _ _ _ _ _ _ HC9.out, hHeld2⟩
  case rest =>
    obtain ⟨g8, g9, rfl, rfl, hl8, hl9, c8, c9, hbx⟩ := hcut
    replace H0 := Lib.hid (below_row hbx H0.out)
    replace H1 := Lib.hid (below_row hbx H1.out)
    replace hb := hb.trans (hbx.mono hb.size)
    have C8 := Lib.hid c8
    have C9 := Lib.hid c9
    clear c8 c9 hbx hl8 hl9 HF0 HSL HF1
    go_upto_region 2 with (fail)
    refine wp_region_held_drew (S := (fun V => Below wc.heap.size wc V)) (by kernel_rfl) (Below.refl _ _).drew (fun hHeld => ?_)
    refine take_op (i := 0) (d := 19) (v := .agg (f32s xs)) rfl rfl (by kernel_rfl) (by kernel_rfl) (by kernel_rfl) (fun _ _ _ h => h) (yields_row (by rfl) 35 (.tmp 5) (by rfl) b1 0 24 (by rfl) 35 (f32s xs) (0, 0) _ (fun _ h => below_row h H1.out) Tryz.underlying35 rfl info_floor (by rw [f32s_size, Hx.out]; decide) (f32s xs) (f32s_all _ 24 Hx.out)) hHeld ?_
    simp only [List.setIfInBounds_toArray, List.set_cons_zero, List.set_cons_succ]
    refine take_op (i := 1) (d := 20) (v := .agg (f32s xb)) rfl rfl (by kernel_rfl) (by kernel_rfl) (by kernel_rfl) (fun _ _ _ h => h) (yields_row (by rfl) 35 (.tmp 9) (by rfl) g9 0 24 (by rfl) 35 (f32s xb) (0, 0) _ (fun _ h => below_row h C9.out) Tryz.underlying35 rfl info_floor (by rw [f32s_size, Hb.out]; decide) (f32s xb) (f32s_all _ 24 Hb.out)) hHeld ?_
    simp only [List.setIfInBounds_toArray, List.set_cons_zero, List.set_cons_succ]
    refine take_op (i := 3) (d := 22) (v := .agg (f32s xa)) rfl rfl (by kernel_rfl) (by kernel_rfl) (by kernel_rfl) (fun _ _ _ h => h) (yields_row (by rfl) 35 (.tmp 8) (by rfl) g8 0 24 (by rfl) 35 (f32s xa) (0, 0) _ (fun _ h => below_row h C8.out) Tryz.underlying35 rfl info_floor (by rw [f32s_size, Ha.out]; decide) (f32s xa) (f32s_all _ 24 Ha.out)) hHeld ?_
    simp only [List.setIfInBounds_toArray, List.set_cons_zero, List.set_cons_succ]
    refine take_op (i := 4) (d := 23) (v := .agg (f32s xb)) rfl rfl (by kernel_rfl) (by kernel_rfl) (by kernel_rfl) (fun _ _ _ h => h) (yields_row (by rfl) 35 (.tmp 9) (by rfl) g9 0 24 (by rfl) 35 (f32s xb) (0, 0) _ (fun _ h => below_row h C9.out) Tryz.underlying35 rfl info_floor (by rw [f32s_size, Hb.out]; decide) (f32s xb) (f32s_all _ 24 Hb.out)) hHeld ?_
    simp only [List.setIfInBounds_toArray, List.set_cons_zero, List.set_cons_succ]
    refine wpAnyH_ready (rs := [2]) (by kernel_rfl) (by simp) ?_
    refine AllReadyH.cons rfl (fun K hK => ?_) AllReadyH.nil
    go_simp
    refine (HAL1.out _).mono ?_
    rintro e Z1 ⟨rfl, hb1⟩
    refine hK.out _ _ (hHeld.trans (hb1.mono hHeld.size)) (fun hHeld2 => ?_)
    clear hK K
    replace hHeld := hHeld2
    clear hHeld2
    clear hb1
    refine wpAnyH_ready (rs := [5]) (by kernel_rfl) (by simp) ?_
    refine AllReadyH.cons rfl (fun K hK => ?_) AllReadyH.nil
    go_simp
    refine (HAL2.out _).mono ?_
    rintro e Z2 ⟨rfl, hb1⟩
    refine hK.out _ _ (hHeld.trans (hb1.mono hHeld.size)) (fun hHeld2 => ?_)
    clear hK K
    replace hHeld := hHeld2
    clear hHeld2
    clear hb1
    refine take_op (i := 6) (d := 25) (v := ?_) rfl rfl (by kernel_rfl) (by kernel_rfl) (by kernel_rfl) (fun _ _ _ h => h) (Or.inl ⟨by rfl, ?hy6u61⟩) hHeld ?rest6u61
    case hy6u61 =>
      intro w' hS'
      go_simp
      try with_reducible rfl
    simp only [List.setIfInBounds_toArray, List.set_cons_zero, List.set_cons_succ]
    refine take_op (i := 7) (d := 10) (v := ?_) rfl rfl (by kernel_rfl) (by kernel_rfl) (by kernel_rfl) (fun _ _ _ h => h) (Or.inl ⟨by rfl, ?hy7u62⟩) hHeld ?rest7u62
    case hy7u62 =>
      intro w' hS'
      go_simp
      try with_reducible rfl
    simp only [List.setIfInBounds_toArray, List.set_cons_zero, List.set_cons_succ]
    refine wpAnyH_done (by kernel_rfl) ?_ _
    replace H0 := Lib.hid (below_row hHeld H0.out)
    replace H1 := Lib.hid (below_row hHeld H1.out)
    replace hb := hb.trans (hHeld.mono hb.size)
    clear hHeld HAL1 HAL2 C8 C9
    go_upto_region 3 with (fail)
    refine wp_region_held_drew (S := (fun V => Below Z2.heap.size Z2 V)) (by kernel_rfl) (Below.refl _ _).drew (fun hHeld => ?_)
    refine take_op (i := 0) (d := 26) (v := .agg (blindC n wd gp t sh)) rfl rfl (by kernel_rfl) (by kernel_rfl) (by kernel_rfl) (fun _ _ _ h => h) (yields_row (by rfl) 28 (.tmp 3) (by rfl) w.heap.size 0 5 (by rfl) 28 (blindC n wd gp t sh) (0, 0) _ (fun _ h => below_row h H0.out) Tryz.underlying28 rfl info_blind (blind_fits _ _ _ _ _) (blindC n wd gp t sh) (blind_all _ _ _ _ _)) hHeld ?_
    simp only [List.setIfInBounds_toArray, List.set_cons_zero, List.set_cons_succ]
    refine take_op (i := 1) (d := 27) (v := ?_) rfl rfl (by kernel_rfl) (by kernel_rfl) (by kernel_rfl) (fun _ _ _ h => h) (Or.inl ⟨by rfl, ?hy1u63⟩) hHeld ?rest1u63
    case hy1u63 =>
      intro w' hS'
      go_simp
      try with_reducible rfl
    simp only [List.setIfInBounds_toArray, List.set_cons_zero, List.set_cons_succ]
    refine take_op (i := 2) (d := 28) (v := ?_) rfl rfl (by kernel_rfl) (by kernel_rfl) (by kernel_rfl) (fun _ _ _ h => h) (Or.inl ⟨by rfl, ?hy2u64⟩) hHeld ?rest2u64
    case hy2u64 =>
      intro w' hS'
      go_simp
      try with_reducible rfl
    simp only [List.setIfInBounds_toArray, List.set_cons_zero, List.set_cons_succ]
    refine take_op (i := 4) (d := 30) (v := .agg (f32s xs)) rfl rfl (by kernel_rfl) (by kernel_rfl) (by kernel_rfl) (fun _ _ _ h => h) (yields_row (by rfl) 35 (.tmp 5) (by rfl) b1 0 24 (by rfl) 35 (f32s xs) (0, 0) _ (fun _ h => below_row h H1.out) Tryz.underlying35 rfl info_floor (by rw [f32s_size, Hx.out]; decide) (f32s xs) (f32s_all _ 24 Hx.out)) hHeld ?_
    simp only [List.setIfInBounds_toArray, List.set_cons_zero, List.set_cons_succ]
    refine wpAnyH_ready (rs := [3]) (by kernel_rfl) (by simp) ?_
    refine AllReadyH.cons rfl (fun K hK => ?_) AllReadyH.nil
    go_simp
    refine (HF2.out _).mono ?_
    rintro e Z3 ⟨rfl, hb1⟩
    refine hK.out _ _ (hHeld.trans (hb1.mono hHeld.size)) (fun hHeld2 => ?_)
    clear hK K
    replace hHeld := hHeld2
    clear hHeld2
    clear hb1
    refine wpAnyH_ready (rs := [5]) (by kernel_rfl) (by simp) ?_
    refine AllReadyH.cons rfl (fun K hK => ?_) AllReadyH.nil
    go_simp
    refine (HSF.out _).mono ?_
    rintro e Z4 ⟨rfl, hb1⟩
    refine hK.out _ _ (hHeld.trans (hb1.mono hHeld.size)) (fun hHeld2 => ?_)
    clear hK K
    replace hHeld := hHeld2
    clear hHeld2
    clear hb1
    refine take_op (i := 6) (d := 32) (v := ?_) rfl rfl (by kernel_rfl) (by kernel_rfl) (by kernel_rfl) (fun _ _ _ h => h) (Or.inl ⟨by rfl, ?hy6u65⟩) hHeld ?rest6u65
    case hy6u65 =>
      intro w' hS'
      go_simp
      try with_reducible rfl
    simp only [List.setIfInBounds_toArray, List.set_cons_zero, List.set_cons_succ]
    refine wpAnyH_done (by kernel_rfl) ?_ _
    replace hb := hb.trans (hHeld.mono hb.size)
    replace H1 := Lib.hid (below_row hHeld H1.out)
    clear hHeld H0 HF2 HSF
    have hbf := built_bf xs Hx.out
    go_upto_region 4 with (fail)
    refine wp_region_held_drew (S := (fun V => Below Z4.heap.size Z4 V)) (by kernel_rfl) (Below.refl _ _).drew (fun hHeld => ?_)
    refine take_op (i := 0) (d := 33) (v := .agg (f32s xs)) rfl rfl (by kernel_rfl) (by kernel_rfl) (by kernel_rfl) (fun _ _ _ h => h) (yields_row (by rfl) 35 (.tmp 5) (by rfl) b1 0 24 (by rfl) 35 (f32s xs) (0, 0) _ (fun _ h => below_row h H1.out) Tryz.underlying35 rfl info_floor (by rw [f32s_size, Hx.out]; decide) (f32s xs) (f32s_all _ 24 Hx.out)) hHeld ?_
    simp only [List.setIfInBounds_toArray, List.set_cons_zero, List.set_cons_succ]
    refine take_op (i := 1) (d := 34) (v := .agg (f32s xs)) rfl rfl (by kernel_rfl) (by kernel_rfl) (by kernel_rfl) (fun _ _ _ h => h) (yields_buildL (by rfl) 102 #[(0, .tmp 33)] (by rfl) [(0, .agg (f32s xs))] (by rfl) (f32s xs) hbf) hHeld ?_
    simp only [List.setIfInBounds_toArray, List.set_cons_zero, List.set_cons_succ]
    refine take_op (i := 2) (d := 35) (v := ?_) rfl rfl (by kernel_rfl) (by kernel_rfl) (by kernel_rfl) (fun _ _ _ h => h) (Or.inl ⟨by rfl, ?hy2u66⟩) hHeld ?rest2u66
    case hy2u66 =>
      intro w' hS'
      go_simp
      try with_reducible rfl
    simp only [List.setIfInBounds_toArray, List.set_cons_zero, List.set_cons_succ]
    refine take_op (i := 3) (d := 6) (v := ?_) rfl rfl (by kernel_rfl) (by kernel_rfl) (by kernel_rfl) (fun _ _ _ h => h) (Or.inl ⟨by rfl, ?hy3u67⟩) hHeld ?rest3u67
    case hy3u67 =>
      intro w' hS'
      go_simp
      try with_reducible rfl
    simp only [List.setIfInBounds_toArray, List.set_cons_zero, List.set_cons_succ]
    refine take_op (i := 4) (d := 7) (v := ?_) rfl rfl (by kernel_rfl) (by kernel_rfl) (by kernel_rfl) (fun _ _ _ h => h) (Or.inl ⟨by rfl, ?hy4u68⟩) hHeld ?rest4u68
    case hy4u68 =>
      intro w' hS'
      go_simp
      try with_reducible rfl
    simp only [List.setIfInBounds_toArray, List.set_cons_zero, List.set_cons_succ]
    refine wpAnyH_done (by kernel_rfl) ?_ _
    replace hb := hb.trans (hHeld.mono hb.size)
    clear hHeld H1
    go_wp2
    go_ret2
    exact ⟨rfl, hb⟩

theorem flB_get (n : Int) (wd gp : Nat) (t h : Int) (br : Nat) {k : Nat} (hk : k < 24) : (flB n wd gp t h br)[k]?.getD 0 = flP (opnB wd gp t h) (opnB wd gp (hgT t) h) br (mB n).toNat k := flK_get _ hk

theorem br_sum (n : Int) (wd gp : Nat) (t h : Int) (xs : List Nat) : bits .andNot .u32 (packP (alP xs (flB n wd gp t h (allP (mB n).toNat))) 24 : Int) (packP (alP (flB n wd gp t h 0) (flB n wd gp t h (allP (mB n).toNat))) 24 : Int) = ((brN xs (opnB wd gp t h) (opnB wd gp (hgT t) h) (mB n).toNat) : Int) := by
  have hm : (mB n).toNat ≤ 24 := by have := mB_le n; omega
  rw [u32_andNot_nat _ _ (packP_32 _ 24 (by omega)) (packP_32 _ 24 (by omega)), pack_andNot]
  have e : packP (fun k => alP xs (flB n wd gp t h (allP (mB n).toNat)) k && !alP (flB n wd gp t h 0) (flB n wd gp t h (allP (mB n).toNat)) k) 24 = (brN xs (opnB wd gp t h) (opnB wd gp (hgT t) h) (mB n).toNat) := by
    unfold brN
    refine packP_congr 24 (fun k hk => ?_)
    unfold alP
    rw [flB_get n wd gp t h _ hk, flB_get n wd gp t h _ hk]
    unfold flP
    by_cases h1 : k < (mB n).toNat
    · rw [if_pos h1, if_pos h1, if_pos h1, if_pos h1, allP_bit, decide_eq_true h1, Nat.zero_testBit, if_pos rfl, if_neg (by decide)]
    · rw [if_neg h1, if_neg h1, if_neg h1, if_neg h1]
  rw [e]

def brRf (xs : List Nat) (wh hg m : Nat) : Rf := if gdA xs wh hg m = true then .non else .floor (f32s xs)

theorem brRf_ok (xs : List Nat) (hx : xs.length = 24) (wh hg m : Nat) : rfOk (brRf xs wh hg m) := by
  unfold brRf
  split
  · trivial
  · exact ⟨by rw [f32s_size, hx], f32s_one xs⟩

theorem brRf_code (xs : List Nat) (wh hg m : Nat) : rfC (brRf xs wh hg m) = gdC xs wh hg m := by
  unfold brRf gdC
  split <;> rfl

set_option maxRecDepth 100000 in
set_option maxHeartbeats 1000000 in
theorem brokenFrom_any (n : Int) (wd gp : Nat) (t : Int) (sh : Nat) (ok : BlOk n wd gp t sh) (h : Int) (h0 : 1 ≤ h) (h1 : h ≤ 64) (xs : List Nat) (hx : xs.length = 24) (w : World) :
    Calls Tryz.prog 38 #[.agg (blindC n wd gp t sh), .int .i64 h, .agg (f32s xs)] w fun e w' => e = .returned (.tuple #[.int .u32 (gdR xs (opnB wd gp t h) (opnB wd gp (hgT t) h) (mB n).toNat), rfV (brRf xs (opnB wd gp t h) (opnB wd gp (hgT t) h) (mB n).toNat)]) ∧ Below w.heap.size w w' := by
  have hm : (mB n).toNat ≤ 24 := by have := mB_le n; omega
  have hf0 := fun w => floorOf_any n wd gp t sh ok h h0 h1 0 (by decide) (Nat.two_pow_pos _) w
  have hf1 := fun w => floorOf_any n wd gp t sh ok h h0 h1 (allP (mB n).toNat) (allP_lt hm) (packP_lt _ _) w
  have hlt := brN_lt xs (opnB wd gp t h) (opnB wd gp (hgT t) h) (mB n).toNat hm
  have hl32 : (brN xs (opnB wd gp t h) (opnB wd gp (hgT t) h) (mB n).toNat) < 4294967296 := Nat.lt_of_lt_of_le hlt (Nat.le_trans (Nat.pow_le_pow_right (by decide) hm) (by decide))
  have hf2 := fun w => floorOf_any n wd gp t sh ok h h0 h1 (brN xs (opnB wd gp t h) (opnB wd gp (hgT t) h) (mB n).toNat) hl32 hlt w
  rw [← br_sum] at hf2
  have hg := floor_good n wd gp t h xs hx
  unfold brRf gdR
  cases hgd : gdA xs (opnB wd gp t h) (opnB wd gp (hgT t) h) (mB n).toNat with
  | true =>
    rw [hgd] at hg
    rw [if_pos rfl, if_pos rfl, ← brN_good xs (opnB wd gp t h) (opnB wd gp (hgT t) h) (mB n).toNat hm, ← br_sum]
    exact brokenFrom_ok n wd gp t sh h xs (flB n wd gp t h 0) (flB n wd gp t h (allP (mB n).toNat)) _ (flB_len _ _ _ _ _ _) hg hx (flB_len _ _ _ _ _ _) (flB_len _ _ _ _ _ _) _ hf0 (fun w => slatsOf_any n wd gp t sh w) hf1 hf2 w
  | false =>
    rw [hgd] at hg
    rw [if_neg (by decide), if_neg (by decide)]
    exact brokenFrom_not n wd gp t sh h xs (flB n wd gp t h 0) (flB n wd gp t h (allP (mB n).toNat)) _ (flB_len _ _ _ _ _ _) hg hx (flB_len _ _ _ _ _ _) (flB_len _ _ _ _ _ _) _ hf0 (fun w => slatsOf_any n wd gp t sh w) hf1 hf2 w

end Go.Proofs.YtmbgmpeiicjlaaaGreatDoor
