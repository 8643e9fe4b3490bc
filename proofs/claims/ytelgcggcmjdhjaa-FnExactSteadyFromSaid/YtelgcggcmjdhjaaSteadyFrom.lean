/-
  For every control, blind, state and tick: the state that is steady, and behind how many ticks, are what the model says. No conditions.
-/
import Derived.Test.YtelgcggcmjdhjaaCoG
namespace Go.Proofs.Ytelgcggcmjdhjaa
open Go.ChangeShapes Go.WideShapes Go.ChangeAt Go.RowKit Go.Deep Go.Joins

theorem eqState_same (x y z : Int) (w : World) : Calls Try.prog 32 #[.agg (saC x y z), .agg (saC x y z)] w fun e w' => e = .returned (.bool true) ∧ Below w.heap.size w w' := by
  have z1 : (x != x) = false := by simp
  have z2 : (y != y) = false := by simp
  have z3 : (z != z) = false := by simp
  unfold saC
  go_enter Try.func32, Try.ntmps32
  go_wp2
  go_ret
  exact ⟨rfl, by (repeat' first | exact Below.refl _ _ | assumption | refine Below.alloc ?_ (by first | omega | (simp; done) | (simp; omega)) _ | refine Below.setCell ?_ (by first | omega | (simp; done) | (simp; omega)) _ | refine Below.drew ?_)⟩

set_option maxRecDepth 100000 in
set_option maxHeartbeats 8000000 in
theorem FnExactSteadyFrom_core (alo ahi awi : Nat) (ast ade aca : Int) (bn : Int) (bw bg : Nat) (bt : Int) (bs : Nat) (cti cwt csm : Int) (dlg dgu : Nat) (dhg : Int) (vt vw vs : Int) (v0 : Int) (v1 : Int) 
    (hspec : ∀ w, Calls Try.prog 35 #[.agg (ctC alo ahi awi ast ade aca), .agg (blindC bn bw bg bt bs), .agg (saC cti cwt csm), .agg (tkC dlg dgu dhg)] w fun e w' => e = .returned (.tuple #[.agg (saC vt vw vs), .int .i64 v0, .int .i64 v1]) ∧ Below w.heap.size w w')
    (himpl : ∀ w, Calls Try.prog 36 #[.agg (ctC alo ahi awi ast ade aca), .agg (blindC bn bw bg bt bs), .agg (saC cti cwt csm), .agg (tkC dlg dgu dhg)] w fun e w' => e = .returned (.tuple #[.agg (saC vt vw vs), .int .i64 v0, .int .i64 v1]) ∧ Below w.heap.size w w') (w : World) :
    Calls Try.prog 10 #[.agg (ctC alo ahi awi ast ade aca), .agg (blindC bn bw bg bt bs), .agg (saC cti cwt csm), .agg (tkC dlg dgu dhg)] w fun e w' => e = .returned (.bool true) ∧ Below w.heap.size w w' := by
  have HS := Lib.hid hspec
  have HI := Lib.hid himpl
  clear hspec himpl
  go_enter Try.func10, Try.ntmps10
  go_upto_region 1 with (fail)
  refine abs_world (fun W => W.heap[w.heap.size]? = some (.cells (ctC alo ahi awi ast ade aca) 25 (0, 0)) ∧ W.heap[w.heap.size + 1]? = some (.cells (blindC bn bw bg bt bs) 46 (0, 0)) ∧ W.heap[w.heap.size + 1 + 1]? = some (.cells (saC cti cwt csm) 32 (0, 0)) ∧ W.heap[w.heap.size + 1 + 1 + 1]? = some (.cells (tkC dlg dgu dhg) 38 (0, 0)) ∧ Below w.heap.size w W) (box4 w (.cells (ctC alo ahi awi ast ade aca) 25) (.cells (blindC bn bw bg bt bs) 46) (.cells (saC cti cwt csm) 32) (.cells (tkC dlg dgu dhg) 38)) ?_
  rintro W ⟨h0, h1, h2, h3, hb⟩
  have hl1 : w.heap.size < w.heap.size + 1 := by omega
  have hl2 : w.heap.size + 1 < w.heap.size + 1 + 1 := by omega
  have hl3 : w.heap.size + 1 + 1 < w.heap.size + 1 + 1 + 1 := by omega
  generalize w.heap.size + 1 + 1 + 1 = b3 at *
  generalize w.heap.size + 1 + 1 = b2 at *
  generalize w.heap.size + 1 = b1 at *
  have H0 := Lib.hid h0
  have H1 := Lib.hid h1
  have H2 := Lib.hid h2
  have H3 := Lib.hid h3
  clear h0 h1 h2 h3
  go_cut [9, 10, 11] (fun s9 s10 s11 wx => (∃ bb : Nat, s9 = .pointer (some ⟨bb, 0, none⟩) ∧ W.heap.size ≤ bb ∧ wx.heap[bb]? = some (.cells (saC vt vw vs) 34 (0, 0))) ∧ s10 = .int .i64 v0 ∧ s11 = .int .i64 v1 ∧ Below W.heap.size W wx)
  case first =>
    refine wp_region_held_drew (S := (fun V => Below W.heap.size W V)) (by kernel_rfl) ((Below.refl _ _).drew) (fun hHeld => ?_)
    generalize W.drew = Y0 at *
    refine take_op (i := 0) (d := 16) (v := .agg (ctC alo ahi awi ast ade aca)) rfl rfl (by kernel_rfl) (by kernel_rfl) (by kernel_rfl) (fun _ _ _ h => h) (yields_row (by rfl) 25 (.tmp 4) (by rfl) w.heap.size 0 6 (by rfl) 25 (ctC alo ahi awi ast ade aca) (0, 0) _ (fun _ h => below_row h H0.out) Try.underlying25 rfl info_ctL (ct_fits _ _ _ _ _ _) (ctC alo ahi awi ast ade aca) (ct_all _ _ _ _ _ _)) hHeld ?_
    simp only [List.setIfInBounds_toArray, List.set_cons_zero, List.set_cons_succ]
    refine take_op (i := 2) (d := 18) (v := .agg (blindC bn bw bg bt bs)) rfl rfl (by kernel_rfl) (by kernel_rfl) (by kernel_rfl) (fun _ _ _ h => h) (yields_row (by rfl) 46 (.tmp 5) (by rfl) b1 0 5 (by rfl) 46 (blindC bn bw bg bt bs) (0, 0) _ (fun _ h => below_row h H1.out) Try.underlying46 rfl info_blindL (blind_fits _ _ _ _ _) (blindC bn bw bg bt bs) (blind_all _ _ _ _ _)) hHeld ?_
    simp only [List.setIfInBounds_toArray, List.set_cons_zero, List.set_cons_succ]
    refine take_op (i := 4) (d := 20) (v := .agg (saC cti cwt csm)) rfl rfl (by kernel_rfl) (by kernel_rfl) (by kernel_rfl) (fun _ _ _ h => h) (yields_row (by rfl) 32 (.tmp 6) (by rfl) b2 0 3 (by rfl) 32 (saC cti cwt csm) (0, 0) _ (fun _ h => below_row h H2.out) Try.underlying32 rfl info_saL (sa_fits _ _ _) (saC cti cwt csm) (sa_all _ _ _)) hHeld ?_
    simp only [List.setIfInBounds_toArray, List.set_cons_zero, List.set_cons_succ]
    refine take_op (i := 6) (d := 22) (v := .agg (tkC dlg dgu dhg)) rfl rfl (by kernel_rfl) (by kernel_rfl) (by kernel_rfl) (fun _ _ _ h => h) (yields_row (by rfl) 38 (.tmp 7) (by rfl) b3 0 3 (by rfl) 38 (tkC dlg dgu dhg) (0, 0) _ (fun _ h => below_row h H3.out) Try.underlying38 rfl info_tkL (tk_fits _ _ _) (tkC dlg dgu dhg) (tk_all _ _ _)) hHeld ?_
    simp only [List.setIfInBounds_toArray, List.set_cons_zero, List.set_cons_succ]
    refine wpAnyH_ready (rs := [1, 13]) (by kernel_rfl) (by simp) ?_
    refine AllReadyH.cons rfl (fun K hK => ?_) (AllReadyH.cons rfl (fun K hK => ?_) AllReadyH.nil)
    · go_simp
      refine (toControl_any _ _ _ _ _ _ _).mono ?_
      rintro e Y1 ⟨rfl, hb1⟩
      refine hK.out _ _ (hHeld.trans (hb1.mono hHeld.size)) (fun hHeld2 => ?_)
      clear hK K
      replace hHeld := hHeld2
      clear hHeld2
      clear hb1
      refine wpAnyH_ready (rs := [3, 13]) (by kernel_rfl) (by simp) ?_
      refine AllReadyH.cons rfl (fun K hK => ?_) (AllReadyH.cons rfl (fun K hK => ?_) AllReadyH.nil)
      · go_simp
        refine (toBlind_any _ _ _ _ _ _).mono ?_
        rintro e Y2 ⟨rfl, hb1⟩
        refine hK.out _ _ (hHeld.trans (hb1.mono hHeld.size)) (fun hHeld2 => ?_)
        clear hK K
        replace hHeld := hHeld2
        clear hHeld2
        clear hb1
        refine wpAnyH_ready (rs := [5, 13]) (by kernel_rfl) (by simp) ?_
        refine AllReadyH.cons rfl (fun K hK => ?_) (AllReadyH.cons rfl (fun K hK => ?_) AllReadyH.nil)
        · go_simp
          refine (toState_any _ _ _ _).mono ?_
          rintro e Y3 ⟨rfl, hb1⟩
          refine hK.out _ _ (hHeld.trans (hb1.mono hHeld.size)) (fun hHeld2 => ?_)
          clear hK K
          replace hHeld := hHeld2
          clear hHeld2
          clear hb1
          refine wpAnyH_ready (rs := [7, 13]) (by kernel_rfl) (by simp) ?_
          refine AllReadyH.cons rfl (fun K hK => ?_) (AllReadyH.cons rfl (fun K hK => ?_) AllReadyH.nil)
          · go_simp
            refine (toTick_any _ _ _ _).mono ?_
            rintro e Y4 ⟨rfl, hb1⟩
            refine hK.out _ _ (hHeld.trans (hb1.mono hHeld.size)) (fun hHeld2 => ?_)
            clear hK K
            replace hHeld := hHeld2
            clear hHeld2
            clear hb1
            refine wpAnyH_ready (rs := [8, 13]) (by kernel_rfl) (by simp) ?_
            refine AllReadyH.cons rfl (fun K hK => ?_) (AllReadyH.cons rfl (fun K hK => ?_) AllReadyH.nil)
            · go_simp
              refine (HS.out _).mono ?_
              rintro e Y5 ⟨rfl, hb1⟩
              refine hK.out _ _ (hHeld.trans (hb1.mono hHeld.size)) (fun hHeld2 => ?_)
              clear hK K
              replace hHeld := hHeld2
              clear hHeld2
              clear hb1
              refine take_op (i := 9) (d := 15) (v := ?_) rfl rfl (by kernel_rfl) (by kernel_rfl) (by kernel_rfl) (fun _ _ _ h => h) (Or.inl ⟨by rfl, ?hy9u48⟩) hHeld ?rest9u48
              case hy9u48 =>
                intro w' hS'
                go_simp
                try with_reducible rfl
              simp only [List.setIfInBounds_toArray, List.set_cons_zero, List.set_cons_succ]
              refine take_op (i := 10) (d := 25) (v := ?_) rfl rfl (by kernel_rfl) (by kernel_rfl) (by kernel_rfl) (fun _ _ _ h => h) (Or.inl ⟨by rfl, ?hy10u49⟩) hHeld ?rest10u49
              case hy10u49 =>
                intro w' hS'
                go_simp
                try with_reducible rfl
              simp only [List.setIfInBounds_toArray, List.set_cons_zero, List.set_cons_succ]
              refine take_op (i := 11) (d := 26) (v := ?_) rfl rfl (by kernel_rfl) (by kernel_rfl) (by kernel_rfl) (fun _ _ _ h => h) (Or.inl ⟨by rfl, ?hy11u50⟩) hHeld ?rest11u50
              case hy11u50 =>
                intro w' hS'
                go_simp
                try with_reducible rfl
              simp only [List.setIfInBounds_toArray, List.set_cons_zero, List.set_cons_succ]
              refine take_op (i := 12) (d := 27) (v := ?_) rfl rfl (by kernel_rfl) (by kernel_rfl) (by kernel_rfl) (fun _ _ _ h => h) (Or.inl ⟨by rfl, ?hy12u51⟩) hHeld ?rest12u51
              case hy12u51 =>
                intro w' hS'
                go_simp
                try with_reducible rfl
              simp only [List.setIfInBounds_toArray, List.set_cons_zero, List.set_cons_succ]
              refine wpAnyH_ready (rs := [13]) (by kernel_rfl) (by simp) ?_
              refine AllReadyH.cons rfl (fun K hK => ?_) AllReadyH.nil
              go_simp
              obtain ⟨bb, hbq⟩ : ∃ bb, bb = Y5.heap.size := ⟨_, rfl⟩
              rw [← hbq]
              refine hK.out _ (Y5.alloc (.cells (saC 0 0 0) 34 (0, 0))) (hHeld.alloc hHeld.size _) (fun hHeld2 => ?_)
              have HB : Hid ((Y5.alloc (.cells (saC 0 0 0) 34 (0, 0))).heap[bb]? = some (.cells (saC 0 0 0) 34 (0, 0))) := Lib.hid (by rw [hbq]; exact heap_alloc_new _ _)
              have hbb : W.heap.size ≤ bb := by rw [hbq]; exact hHeld.size
              clear hK K hHeld hbq
              have hHeld := hHeld2
              clear hHeld2
              generalize (Y5.alloc (.cells (saC 0 0 0) 34 (0, 0))) = Y6 at *
              have hst := run_store_row5 (P := Try.prog) _ bb 34 (saC vt vw vs) _ HB.out rfl (sa_one _ _ _)
              refine wpAnyH_ready (rs := [14]) (by kernel_rfl) (by simp) ?_
              refine AllReadyH.cons rfl (fun K hK => ?_) AllReadyH.nil
              go_simp
              refine hK.out _ _ (below_setRow hHeld hbb _) (fun hHeld2 => ?_)
              clear hK K hst
              have HB2 := Lib.hid (setRow_heap _ _ _ (saC vt vw vs) _ _ HB.out)
              clear hHeld HB
              have hHeld := hHeld2
              clear hHeld2
              refine take_op (i := 15) (d := 10) (v := ?_) rfl rfl (by kernel_rfl) (by kernel_rfl) (by kernel_rfl) (fun _ _ _ h => h) (Or.inl ⟨by rfl, ?hy15u52⟩) hHeld ?rest15u52
              case hy15u52 =>
                intro w' hS'
                go_simp
                try with_reducible rfl
              refine take_op (i := 16) (d := 11) (v := ?_) rfl rfl (by kernel_rfl) (by kernel_rfl) (by kernel_rfl) (fun _ _ _ h => h) (Or.inl ⟨by rfl, ?hy16u53⟩) hHeld ?rest16u53
              case hy16u53 =>
                intro w' hS'
                go_simp
                try with_reducible rfl
              refine wpAnyH_done (by kernel_rfl) ?_ _
              go_wp2
              go_meet
              case rel => exact ⟨⟨bb, rfl, hbb, HB2.out⟩, rfl, rfl, hHeld⟩
            · go_simp
              obtain ⟨bb, hbq⟩ : ∃ bb, bb = Y4.heap.size := ⟨_, rfl⟩
              rw [← hbq]
              refine hK.out _ (Y4.alloc (.cells (saC 0 0 0) 34 (0, 0))) (hHeld.alloc hHeld.size _) (fun hHeld2 => ?_)
              have HB : Hid ((Y4.alloc (.cells (saC 0 0 0) 34 (0, 0))).heap[bb]? = some (.cells (saC 0 0 0) 34 (0, 0))) := Lib.hid (by rw [hbq]; exact heap_alloc_new _ _)
              have hbb : W.heap.size ≤ bb := by rw [hbq]; exact hHeld.size
              clear hK K hHeld hbq
              have hHeld := hHeld2
              clear hHeld2
              generalize (Y4.alloc (.cells (saC 0 0 0) 34 (0, 0))) = Y7 at *
              refine wpAnyH_ready (rs := [8]) (by kernel_rfl) (by simp) ?_
              refine AllReadyH.cons rfl (fun K hK => ?_) AllReadyH.nil
              go_simp
              refine (HS.out _).mono ?_
              rintro e Y8 ⟨rfl, hb1⟩
              refine hK.out _ _ (hHeld.trans (hb1.mono hHeld.size)) (fun hHeld2 => ?_)
              clear hK K
              replace hHeld := hHeld2
              clear hHeld2
              replace HB := Lib.hid (below_row hb1 HB.out)
              clear hb1
              refine take_op (i := 9) (d := 15) (v := ?_) rfl rfl (by kernel_rfl) (by kernel_rfl) (by kernel_rfl) (fun _ _ _ h => h) (Or.inl ⟨by rfl, ?hy9u54⟩) hHeld ?rest9u54
              case hy9u54 =>
                intro w' hS'
                go_simp
                try with_reducible rfl
              simp only [List.setIfInBounds_toArray, List.set_cons_zero, List.set_cons_succ]
              refine take_op (i := 10) (d := 25) (v := ?_) rfl rfl (by kernel_rfl) (by kernel_rfl) (by kernel_rfl) (fun _ _ _ h => h) (Or.inl ⟨by rfl, ?hy10u55⟩) hHeld ?rest10u55
              case hy10u55 =>
                intro w' hS'
                go_simp
                try with_reducible rfl
              simp only [List.setIfInBounds_toArray, List.set_cons_zero, List.set_cons_succ]
              refine take_op (i := 11) (d := 26) (v := ?_) rfl rfl (by kernel_rfl) (by kernel_rfl) (by kernel_rfl) (fun _ _ _ h => h) (Or.inl ⟨by rfl, ?hy11u56⟩) hHeld ?rest11u56
              case hy11u56 =>
                intro w' hS'
                go_simp
                try with_reducible rfl
              simp only [List.setIfInBounds_toArray, List.set_cons_zero, List.set_cons_succ]
              refine take_op (i := 12) (d := 27) (v := ?_) rfl rfl (by kernel_rfl) (by kernel_rfl) (by kernel_rfl) (fun _ _ _ h => h) (Or.inl ⟨by rfl, ?hy12u57⟩) hHeld ?rest12u57
              case hy12u57 =>
                intro w' hS'
                go_simp
                try with_reducible rfl
              simp only [List.setIfInBounds_toArray, List.set_cons_zero, List.set_cons_succ]
              have hst := run_store_row5 (P := Try.prog) _ bb 34 (saC vt vw vs) _ HB.out rfl (sa_one _ _ _)
              refine wpAnyH_ready (rs := [14]) (by kernel_rfl) (by simp) ?_
              refine AllReadyH.cons rfl (fun K hK => ?_) AllReadyH.nil
              go_simp
              refine hK.out _ _ (below_setRow hHeld hbb _) (fun hHeld2 => ?_)
              clear hK K hst
              have HB2 := Lib.hid (setRow_heap _ _ _ (saC vt vw vs) _ _ HB.out)
              clear hHeld HB
              have hHeld := hHeld2
              clear hHeld2
              refine take_op (i := 15) (d := 10) (v := ?_) rfl rfl (by kernel_rfl) (by kernel_rfl) (by kernel_rfl) (fun _ _ _ h => h) (Or.inl ⟨by rfl, ?hy15u58⟩) hHeld ?rest15u58
              case hy15u58 =>
                intro w' hS'
                go_simp
                try with_reducible rfl
              refine take_op (i := 16) (d := 11) (v := ?_) rfl rfl (by kernel_rfl) (by kernel_rfl) (by kernel_rfl) (fun _ _ _ h => h) (Or.inl ⟨by rfl, ?hy16u59⟩) hHeld ?rest16u59
              case hy16u59 =>
                intro w' hS'
                go_simp
                try with_reducible rfl
              refine wpAnyH_done (by kernel_rfl) ?_ _
              go_wp2
              go_meet
              case rel => exact ⟨⟨bb, rfl, hbb, HB2.out⟩, rfl, rfl, hHeld⟩
          · go_simp
            obtain ⟨bb, hbq⟩ : ∃ bb, bb = Y3.heap.size := ⟨_, rfl⟩
            rw [← hbq]
            refine hK.out _ (Y3.alloc (.cells (saC 0 0 0) 34 (0, 0))) (hHeld.alloc hHeld.size _) (fun hHeld2 => ?_)
            have HB : Hid ((Y3.alloc (.cells (saC 0 0 0) 34 (0, 0))).heap[bb]? = some (.cells (saC 0 0 0) 34 (0, 0))) := Lib.hid (by rw [hbq]; exact heap_alloc_new _ _)
            have hbb : W.heap.size ≤ bb := by rw [hbq]; exact hHeld.size
            clear hK K hHeld hbq
            have hHeld := hHeld2
            clear hHeld2
            generalize (Y3.alloc (.cells (saC 0 0 0) 34 (0, 0))) = Y9 at *
            refine wpAnyH_ready (rs := [7]) (by kernel_rfl) (by simp) ?_
            refine AllReadyH.cons rfl (fun K hK => ?_) AllReadyH.nil
            go_simp
            refine (toTick_any _ _ _ _).mono ?_
            rintro e Y10 ⟨rfl, hb1⟩
            refine hK.out _ _ (hHeld.trans (hb1.mono hHeld.size)) (fun hHeld2 => ?_)
            clear hK K
            replace hHeld := hHeld2
            clear hHeld2
            replace HB := Lib.hid (below_row hb1 HB.out)
            clear hb1
            refine wpAnyH_ready (rs := [8]) (by kernel_rfl) (by simp) ?_
            refine AllReadyH.cons rfl (fun K hK => ?_) AllReadyH.nil
            go_simp
            refine (HS.out _).mono ?_
            rintro e Y11 ⟨rfl, hb1⟩
            refine hK.out _ _ (hHeld.trans (hb1.mono hHeld.size)) (fun hHeld2 => ?_)
            clear hK K
            replace hHeld := hHeld2
            clear hHeld2
            replace HB := Lib.hid (below_row hb1 HB.out)
            clear hb1
            refine take_op (i := 9) (d := 15) (v := ?_) rfl rfl (by kernel_rfl) (by kernel_rfl) (by kernel_rfl) (fun _ _ _ h => h) (Or.inl ⟨by rfl, ?hy9u60⟩) hHeld ?rest9u60
            case hy9u60 =>
              intro w' hS'
              go_simp
              try with_reducible rfl
            simp only [List.setIfInBounds_toArray, List.set_cons_zero, List.set_cons_succ]
            refine take_op (i := 10) (d := 25) (v := ?_) rfl rfl (by kernel_rfl) (by kernel_rfl) (by kernel_rfl) (fun _ _ _ h => h) (Or.inl ⟨by rfl, ?hy10u61⟩) hHeld ?rest10u61
            case hy10u61 =>
              intro w' hS'
              go_simp
              try with_reducible rfl
            simp only [List.setIfInBounds_toArray, List.set_cons_zero, List.set_cons_succ]
            refine take_op (i := 11) (d := 26) (v := ?_) rfl rfl (by kernel_rfl) (by kernel_rfl) (by kernel_rfl) (fun _ _ _ h => h) (Or.inl ⟨by rfl, ?hy11u62⟩) hHeld ?rest11u62
            case hy11u62 =>
              intro w' hS'
              go_simp
              try with_reducible rfl
            simp only [List.setIfInBounds_toArray, List.set_cons_zero, List.set_cons_succ]
            refine take_op (i := 12) (d := 27) (v := ?_) rfl rfl (by kernel_rfl) (by kernel_rfl) (by kernel_rfl) (fun _ _ _ h => h) (Or.inl ⟨by rfl, ?hy12u63⟩) hHeld ?rest12u63
            case hy12u63 =>
              intro w' hS'
              go_simp
              try with_reducible rfl
            simp only [List.setIfInBounds_toArray, List.set_cons_zero, List.set_cons_succ]
            have hst := run_store_row5 (P := Try.prog) _ bb 34 (saC vt vw vs) _ HB.out rfl (sa_one _ _ _)
            refine wpAnyH_ready (rs := [14]) (by kernel_rfl) (by simp) ?_
            refine AllReadyH.cons rfl (fun K hK => ?_) AllReadyH.nil
            go_simp
            refine hK.out _ _ (below_setRow hHeld hbb _) (fun hHeld2 => ?_)
            clear hK K hst
            have HB2 := Lib.hid (setRow_heap _ _ _ (saC vt vw vs) _ _ HB.out)
            clear hHeld HB
            have hHeld := hHeld2
            clear hHeld2
            refine take_op (i := 15) (d := 10) (v := ?_) rfl rfl (by kernel_rfl) (by kernel_rfl) (by kernel_rfl) (fun _ _ _ h => h) (Or.inl ⟨by rfl, ?hy15u64⟩) hHeld ?rest15u64
            case hy15u64 =>
              intro w' hS'
              go_simp
              try with_reducible rfl
            refine take_op (i := 16) (d := 11) (v := ?_) rfl rfl (by kernel_rfl) (by kernel_rfl) (by kernel_rfl) (fun _ _ _ h => h) (Or.inl ⟨by rfl, ?hy16u65⟩) hHeld ?rest16u65
            case hy16u65 =>
              intro w' hS'
              go_simp
              try with_reducible rfl
            refine wpAnyH_done (by kernel_rfl) ?_ _
            go_wp2
            go_meet
            case rel => exact ⟨⟨bb, rfl, hbb, HB2.out⟩, rfl, rfl, hHeld⟩
        · go_simp
          obtain ⟨bb, hbq⟩ : ∃ bb, bb = Y2.heap.size := ⟨_, rfl⟩
          rw [← hbq]
          refine hK.out _ (Y2.alloc (.cells (saC 0 0 0) 34 (0, 0))) (hHeld.alloc hHeld.size _) (fun hHeld2 => ?_)
          have HB : Hid ((Y2.alloc (.cells (saC 0 0 0) 34 (0, 0))).heap[bb]? = some (.cells (saC 0 0 0) 34 (0, 0))) := Lib.hid (by rw [hbq]; exact heap_alloc_new _ _)
          have hbb : W.heap.size ≤ bb := by rw [hbq]; exact hHeld.size
          clear hK K hHeld hbq
          have hHeld := hHeld2
          clear hHeld2
          generalize (Y2.alloc (.cells (saC 0 0 0) 34 (0, 0))) = Y12 at *
          refine wpAnyH_ready (rs := [5]) (by kernel_rfl) (by simp) ?_
          refine AllReadyH.cons rfl (fun K hK => ?_) AllReadyH.nil
          go_simp
          refine (toState_any _ _ _ _).mono ?_
          rintro e Y13 ⟨rfl, hb1⟩
          refine hK.out _ _ (hHeld.trans (hb1.mono hHeld.size)) (fun hHeld2 => ?_)
          clear hK K
          replace hHeld := hHeld2
          clear hHeld2
          replace HB := Lib.hid (below_row hb1 HB.out)
          clear hb1
          refine wpAnyH_ready (rs := [7]) (by kernel_rfl) (by simp) ?_
          refine AllReadyH.cons rfl (fun K hK => ?_) AllReadyH.nil
          go_simp
          refine (toTick_any _ _ _ _).mono ?_
          rintro e Y14 ⟨rfl, hb1⟩
          refine hK.out _ _ (hHeld.trans (hb1.mono hHeld.size)) (fun hHeld2 => ?_)
          clear hK K
          replace hHeld := hHeld2
          clear hHeld2
          replace HB := Lib.hid (below_row hb1 HB.out)
          clear hb1
          refine wpAnyH_ready (rs := [8]) (by kernel_rfl) (by simp) ?_
          refine AllReadyH.cons rfl (fun K hK => ?_) AllReadyH.nil
          go_simp
          refine (HS.out _).mono ?_
          rintro e Y15 ⟨rfl, hb1⟩
          refine hK.out _ _ (hHeld.trans (hb1.mono hHeld.size)) (fun hHeld2 => ?_)
          clear hK K
          replace hHeld := hHeld2
          clear hHeld2
          replace HB := Lib.hid (below_row hb1 HB.out)
          clear hb1
          refine take_op (i := 9) (d := 15) (v := ?_) rfl rfl (by kernel_rfl) (by kernel_rfl) (by kernel_rfl) (fun _ _ _ h => h) (Or.inl ⟨by rfl, ?hy9u66⟩) hHeld ?rest9u66
          case hy9u66 =>
            intro w' hS'
            go_simp
            try with_reducible rfl
          simp only [List.setIfInBounds_toArray, List.set_cons_zero, List.set_cons_succ]
          refine take_op (i := 10) (d := 25) (v := ?_) rfl rfl (by kernel_rfl) (by kernel_rfl) (by kernel_rfl) (fun _ _ _ h => h) (Or.inl ⟨by rfl, ?hy10u67⟩) hHeld ?rest10u67
          case hy10u67 =>
            intro w' hS'
            go_simp
            try with_reducible rfl
          simp only [List.setIfInBounds_toArray, List.set_cons_zero, List.set_cons_succ]
          refine take_op (i := 11) (d := 26) (v := ?_) rfl rfl (by kernel_rfl) (by kernel_rfl) (by kernel_rfl) (fun _ _ _ h => h) (Or.inl ⟨by rfl, ?hy11u68⟩) hHeld ?rest11u68
          case hy11u68 =>
            intro w' hS'
            go_simp
            try with_reducible rfl
          simp only [List.setIfInBounds_toArray, List.set_cons_zero, List.set_cons_succ]
          refine take_op (i := 12) (d := 27) (v := ?_) rfl rfl (by kernel_rfl) (by kernel_rfl) (by kernel_rfl) (fun _ _ _ h => h) (Or.inl ⟨by rfl, ?hy12u69⟩) hHeld ?rest12u69
          case hy12u69 =>
            intro w' hS'
            go_simp
            try with_reducible rfl
          simp only [List.setIfInBounds_toArray, List.set_cons_zero, List.set_cons_succ]
          have hst := run_store_row5 (P := Try.prog) _ bb 34 (saC vt vw vs) _ HB.out rfl (sa_one _ _ _)
          refine wpAnyH_ready (rs := [14]) (by kernel_rfl) (by simp) ?_
          refine AllReadyH.cons rfl (fun K hK => ?_) AllReadyH.nil
          go_simp
          refine hK.out _ _ (below_setRow hHeld hbb _) (fun hHeld2 => ?_)
          clear hK K hst
          have HB2 := Lib.hid (setRow_heap _ _ _ (saC vt vw vs) _ _ HB.out)
          clear hHeld HB
          have hHeld := hHeld2
          clear hHeld2
          refine take_op (i := 15) (d := 10) (v := ?_) rfl rfl (by kernel_rfl) (by kernel_rfl) (by kernel_rfl) (fun _ _ _ h => h) (Or.inl ⟨by rfl, ?hy15u70⟩) hHeld ?rest15u70
          case hy15u70 =>
            intro w' hS'
            go_simp
            try with_reducible rfl
          refine take_op (i := 16) (d := 11) (v := ?_) rfl rfl (by kernel_rfl) (by kernel_rfl) (by kernel_rfl) (fun _ _ _ h => h) (Or.inl ⟨by rfl, ?hy16u71⟩) hHeld ?rest16u71
          case hy16u71 =>
            intro w' hS'
            go_simp
            try with_reducible rfl
          refine wpAnyH_done (by kernel_rfl) ?_ _
          go_wp2
          go_meet
          case rel => exact ⟨⟨bb, rfl, hbb, HB2.out⟩, rfl, rfl, hHeld⟩
      · go_simp
        obtain ⟨bb, hbq⟩ : ∃ bb, bb = Y1.heap.size := ⟨_, rfl⟩
        rw [← hbq]
        refine hK.out _ (Y1.alloc (.cells (saC 0 0 0) 34 (0, 0))) (hHeld.alloc hHeld.size _) (fun hHeld2 => ?_)
        have HB : Hid ((Y1.alloc (.cells (saC 0 0 0) 34 (0, 0))).heap[bb]? = some (.cells (saC 0 0 0) 34 (0, 0))) := Lib.hid (by rw [hbq]; exact heap_alloc_new _ _)
        have hbb : W.heap.size ≤ bb := by rw [hbq]; exact hHeld.size
        clear hK K hHeld hbq
        have hHeld := hHeld2
        clear hHeld2
        generalize (Y1.alloc (.cells (saC 0 0 0) 34 (0, 0))) = Y16 at *
        refine wpAnyH_ready (rs := [3]) (by kernel_rfl) (by simp) ?_
        refine AllReadyH.cons rfl (fun K hK => ?_) AllReadyH.nil
        go_simp
        refine (toBlind_any _ _ _ _ _ _).mono ?_
        rintro e Y17 ⟨rfl, hb1⟩
        refine hK.out _ _ (hHeld.trans (hb1.mono hHeld.size)) (fun hHeld2 => ?_)
        clear hK K
        replace hHeld := hHeld2
        clear hHeld2
        replace HB := Lib.hid (below_row hb1 HB.out)
        clear hb1
        refine wpAnyH_ready (rs := [5]) (by kernel_rfl) (by simp) ?_
        refine AllReadyH.cons rfl (fun K hK => ?_) AllReadyH.nil
        go_simp
        refine (toState_any _ _ _ _).mono ?_
        rintro e Y18 ⟨rfl, hb1⟩
        refine hK.out _ _ (hHeld.trans (hb1.mono hHeld.size)) (fun hHeld2 => ?_)
        clear hK K
        replace hHeld := hHeld2
        clear hHeld2
        replace HB := Lib.hid (below_row hb1 HB.out)
        clear hb1
        refine wpAnyH_ready (rs := [7]) (by kernel_rfl) (by simp) ?_
        refine AllReadyH.cons rfl (fun K hK => ?_) AllReadyH.nil
        go_simp
        refine (toTick_any _ _ _ _).mono ?_
        rintro e Y19 ⟨rfl, hb1⟩
        refine hK.out _ _ (hHeld.trans (hb1.mono hHeld.size)) (fun hHeld2 => ?_)
        clear hK K
        replace hHeld := hHeld2
        clear hHeld2
        replace HB := Lib.hid (below_row hb1 HB.out)
        clear hb1
        refine wpAnyH_ready (rs := [8]) (by kernel_rfl) (by simp) ?_
        refine AllReadyH.cons rfl (fun K hK => ?_) AllReadyH.nil
        go_simp
        refine (HS.out _).mono ?_
        rintro e Y20 ⟨rfl, hb1⟩
        refine hK.out _ _ (hHeld.trans (hb1.mono hHeld.size)) (fun hHeld2 => ?_)
        clear hK K
        replace hHeld := hHeld2
        clear hHeld2
        replace HB := Lib.hid (below_row hb1 HB.out)
        clear hb1
        refine take_op (i := 9) (d := 15) (v := ?_) rfl rfl (by kernel_rfl) (by kernel_rfl) (by kernel_rfl) (fun _ _ _ h => h) (Or.inl ⟨by rfl, ?hy9u72⟩) hHeld ?rest9u72
        case hy9u72 =>
          intro w' hS'
          go_simp
          try with_reducible rfl
        simp only [List.setIfInBounds_toArray, List.set_cons_zero, List.set_cons_succ]
        refine take_op (i := 10) (d := 25) (v := ?_) rfl rfl (by kernel_rfl) (by kernel_rfl) (by kernel_rfl) (fun _ _ _ h => h) (Or.inl ⟨by rfl, ?hy10u73⟩) hHeld ?rest10u73
        case hy10u73 =>
          intro w' hS'
          go_simp
          try with_reducible rfl
        simp only [List.setIfInBounds_toArray, List.set_cons_zero, List.set_cons_succ]
        refine take_op (i := 11) (d := 26) (v := ?_) rfl rfl (by kernel_rfl) (by kernel_rfl) (by kernel_rfl) (fun _ _ _ h => h) (Or.inl ⟨by rfl, ?hy11u74⟩) hHeld ?rest11u74
        case hy11u74 =>
          intro w' hS'
          go_simp
          try with_reducible rfl
        simp only [List.setIfInBounds_toArray, List.set_cons_zero, List.set_cons_succ]
        refine take_op (i := 12) (d := 27) (v := ?_) rfl rfl (by kernel_rfl) (by kernel_rfl) (by kernel_rfl) (fun _ _ _ h => h) (Or.inl ⟨by rfl, ?hy12u75⟩) hHeld ?rest12u75
        case hy12u75 =>
          intro w' hS'
          go_simp
          try with_reducible rfl
        simp only [List.setIfInBounds_toArray, List.set_cons_zero, List.set_cons_succ]
        have hst := run_store_row5 (P := Try.prog) _ bb 34 (saC vt vw vs) _ HB.out rfl (sa_one _ _ _)
        refine wpAnyH_ready (rs := [14]) (by kernel_rfl) (by simp) ?_
        refine AllReadyH.cons rfl (fun K hK => ?_) AllReadyH.nil
        go_simp
        refine hK.out _ _ (below_setRow hHeld hbb _) (fun hHeld2 => ?_)
        clear hK K hst
        have HB2 := Lib.hid (setRow_heap _ _ _ (saC vt vw vs) _ _ HB.out)
        clear hHeld HB
        have hHeld := hHeld2
        clear hHeld2
        refine take_op (i := 15) (d := 10) (v := ?_) rfl rfl (by kernel_rfl) (by kernel_rfl) (by kernel_rfl) (fun _ _ _ h => h) (Or.inl ⟨by rfl, ?hy15u76⟩) hHeld ?rest15u76
        case hy15u76 =>
          intro w' hS'
          go_simp
          try with_reducible rfl
        refine take_op (i := 16) (d := 11) (v := ?_) rfl rfl (by kernel_rfl) (by kernel_rfl) (by kernel_rfl) (fun _ _ _ h => h) (Or.inl ⟨by rfl, ?hy16u77⟩) hHeld ?rest16u77
        case hy16u77 =>
          intro w' hS'
          go_simp
          try with_reducible rfl
        refine wpAnyH_done (by kernel_rfl) ?_ _
        go_wp2
        go_meet
        case rel => exact ⟨⟨bb, rfl, hbb, HB2.out⟩, rfl, rfl, hHeld⟩
    · go_simp
      obtain ⟨bb, hbq⟩ : ∃ bb, bb = Y0.heap.size := ⟨_, rfl⟩
      rw [← hbq]
      refine hK.out _ (Y0.alloc (.cells (saC 0 0 0) 34 (0, 0))) (hHeld.alloc hHeld.size _) (fun hHeld2 => ?_)
      have HB : Hid ((Y0.alloc (.cells (saC 0 0 0) 34 (0, 0))).heap[bb]? = some (.cells (saC 0 0 0) 34 (0, 0))) := Lib.hid (by rw [hbq]; exact heap_alloc_new _ _)
      have hbb : W.heap.size ≤ bb := by rw [hbq]; exact hHeld.size
      clear hK K hHeld hbq
      have hHeld := hHeld2
      clear hHeld2
      generalize (Y0.alloc (.cells (saC 0 0 0) 34 (0, 0))) = Y21 at *
      refine wpAnyH_ready (rs := [1]) (by kernel_rfl) (by simp) ?_
      refine AllReadyH.cons rfl (fun K hK => ?_) AllReadyH.nil
      go_simp
      refine (toControl_any _ _ _ _ _ _ _).mono ?_
      rintro e Y22 ⟨rfl, hb1⟩
      refine hK.out _ _ (hHeld.trans (hb1.mono hHeld.size)) (fun hHeld2 => ?_)
      clear hK K
      replace hHeld := hHeld2
      clear hHeld2
      replace HB := Lib.hid (below_row hb1 HB.out)
      clear hb1
      refine wpAnyH_ready (rs := [3]) (by kernel_rfl) (by simp) ?_
      refine AllReadyH.cons rfl (fun K hK => ?_) AllReadyH.nil
      go_simp
      refine (toBlind_any _ _ _ _ _ _).mono ?_
      rintro e Y23 ⟨rfl, hb1⟩
      refine hK.out _ _ (hHeld.trans (hb1.mono hHeld.size)) (fun hHeld2 => ?_)
      clear hK K
      replace hHeld := hHeld2
      clear hHeld2
      replace HB := Lib.hid (below_row hb1 HB.out)
      clear hb1
      refine wpAnyH_ready (rs := [5]) (by kernel_rfl) (by simp) ?_
      refine AllReadyH.cons rfl (fun K hK => ?_) AllReadyH.nil
      go_simp
      refine (toState_any _ _ _ _).mono ?_
      rintro e Y24 ⟨rfl, hb1⟩
      refine hK.out _ _ (hHeld.trans (hb1.mono hHeld.size)) (fun hHeld2 => ?_)
      clear hK K
      replace hHeld := hHeld2
      clear hHeld2
      replace HB := Lib.hid (below_row hb1 HB.out)
      clear hb1
      refine wpAnyH_ready (rs := [7]) (by kernel_rfl) (by simp) ?_
      refine AllReadyH.cons rfl (fun K hK => ?_) AllReadyH.nil
      go_simp
      refine (toTick_any _ _ _ _).mono ?_
      rintro e Y25 ⟨rfl, hb1⟩
      refine hK.out _ _ (hHeld.trans (hb1.mono hHeld.size)) (fun hHeld2 => ?_)
      clear hK K
      replace hHeld := hHeld2
      clear hHeld2
      replace HB := Lib.hid (below_row hb1 HB.out)
      clear hb1
      refine wpAnyH_ready (rs := [8]) (by kernel_rfl) (by simp) ?_
      refine AllReadyH.cons rfl (fun K hK => ?_) AllReadyH.nil
      go_simp
      refine (HS.out _).mono ?_
      rintro e Y26 ⟨rfl, hb1⟩
      refine hK.out _ _ (hHeld.trans (hb1.mono hHeld.size)) (fun hHeld2 => ?_)
      clear hK K
      replace hHeld := hHeld2
      clear hHeld2
      replace HB := Lib.hid (below_row hb1 HB.out)
      clear hb1
      refine take_op (i := 9) (d := 15) (v := ?_) rfl rfl (by kernel_rfl) (by kernel_rfl) (by kernel_rfl) (fun _ _ _ h => h) (Or.inl ⟨by rfl, ?hy9u78⟩) hHeld ?rest9u78
      case hy9u78 =>
        intro w' hS'
        go_simp
        try with_reducible rfl
      simp only [List.setIfInBounds_toArray, List.set_cons_zero, List.set_cons_succ]
      refine take_op (i := 10) (d := 25) (v := ?_) rfl rfl (by kernel_rfl) (by kernel_rfl) (by kernel_rfl) (fun _ _ _ h => h) (Or.inl ⟨by rfl, ?hy10u79⟩) hHeld ?rest10u79
      case hy10u79 =>
        intro w' hS'
        go_simp
        try with_reducible rfl
      simp only [List.setIfInBounds_toArray, List.set_cons_zero, List.set_cons_succ]
      refine take_op (i := 11) (d := 26) (v := ?_) rfl rfl (by kernel_rfl) (by kernel_rfl) (by kernel_rfl) (fun _ _ _ h => h) (Or.inl ⟨by rfl, ?hy11u80⟩) hHeld ?rest11u80
      case hy11u80 =>
        intro w' hS'
        go_simp
        try with_reducible rfl
      simp only [List.setIfInBounds_toArray, List.set_cons_zero, List.set_cons_succ]
      refine take_op (i := 12) (d := 27) (v := ?_) rfl rfl (by kernel_rfl) (by kernel_rfl) (by kernel_rfl) (fun _ _ _ h => h) (Or.inl ⟨by rfl, ?hy12u81⟩) hHeld ?rest12u81
      case hy12u81 =>
        intro w' hS'
        go_simp
        try with_reducible rfl
      simp only [List.setIfInBounds_toArray, List.set_cons_zero, List.set_cons_succ]
      have hst := run_store_row5 (P := Try.prog) _ bb 34 (saC vt vw vs) _ HB.out rfl (sa_one _ _ _)
      refine wpAnyH_ready (rs := [14]) (by kernel_rfl) (by simp) ?_
      refine AllReadyH.cons rfl (fun K hK => ?_) AllReadyH.nil
      go_simp
      refine hK.out _ _ (below_setRow hHeld hbb _) (fun hHeld2 => ?_)
      clear hK K hst
      have HB2 := Lib.hid (setRow_heap _ _ _ (saC vt vw vs) _ _ HB.out)
      clear hHeld HB
      have hHeld := hHeld2
      clear hHeld2
      refine take_op (i := 15) (d := 10) (v := ?_) rfl rfl (by kernel_rfl) (by kernel_rfl) (by kernel_rfl) (fun _ _ _ h => h) (Or.inl ⟨by rfl, ?hy15u82⟩) hHeld ?rest15u82
      case hy15u82 =>
        intro w' hS'
        go_simp
        try with_reducible rfl
      refine take_op (i := 16) (d := 11) (v := ?_) rfl rfl (by kernel_rfl) (by kernel_rfl) (by kernel_rfl) (fun _ _ _ h => h) (Or.inl ⟨by rfl, ?hy16u83⟩) hHeld ?rest16u83
      case hy16u83 =>
        intro w' hS'
        go_simp
        try with_reducible rfl
      refine wpAnyH_done (by kernel_rfl) ?_ _
      go_wp2
      go_meet
      case rel => exact ⟨⟨bb, rfl, hbb, HB2.out⟩, rfl, rfl, hHeld⟩
  case rest =>
    obtain ⟨⟨g1, rfl, hg1, q1⟩, rfl, rfl, hbx⟩ := hcut
    replace H0 := Lib.hid (below_row hbx H0.out)
    replace H1 := Lib.hid (below_row hbx H1.out)
    replace H2 := Lib.hid (below_row hbx H2.out)
    replace H3 := Lib.hid (below_row hbx H3.out)
    replace hb := hb.trans (hbx.mono hb.size)
    have G1 := Lib.hid q1
    clear q1 hbx
    go_upto_region 2 with (fail)
    go_cut [12, 13, 14] (fun s12 s13 s14 wx => (∃ bb : Nat, s12 = .pointer (some ⟨bb, 0, none⟩) ∧ wc.heap.size ≤ bb ∧ wx.heap[bb]? = some (.cells (saC vt vw vs) 34 (0, 0))) ∧ s13 = .int .i64 v0 ∧ s14 = .int .i64 v1 ∧ Below wc.heap.size wc wx)
    case first =>
      refine wp_region_held_drew (S := (fun V => Below wc.heap.size wc V)) (by kernel_rfl) ((Below.refl _ _).drew) (fun hHeld => ?_)
      generalize wc.drew = Y0 at *
      refine take_op (i := 0) (d := 29) (v := .agg (ctC alo ahi awi ast ade aca)) rfl rfl (by kernel_rfl) (by kernel_rfl) (by kernel_rfl) (fun _ _ _ h => h) (yields_row (by rfl) 25 (.tmp 4) (by rfl) w.heap.size 0 6 (by rfl) 25 (ctC alo ahi awi ast ade aca) (0, 0) _ (fun _ h => below_row h H0.out) Try.underlying25 rfl info_ctL (ct_fits _ _ _ _ _ _) (ctC alo ahi awi ast ade aca) (ct_all _ _ _ _ _ _)) hHeld ?_
      simp only [List.setIfInBounds_toArray, List.set_cons_zero, List.set_cons_succ]
      refine take_op (i := 2) (d := 31) (v := .agg (blindC bn bw bg bt bs)) rfl rfl (by kernel_rfl) (by kernel_rfl) (by kernel_rfl) (fun _ _ _ h => h) (yields_row (by rfl) 46 (.tmp 5) (by rfl) b1 0 5 (by rfl) 46 (blindC bn bw bg bt bs) (0, 0) _ (fun _ h => below_row h H1.out) Try.underlying46 rfl info_blindL (blind_fits _ _ _ _ _) (blindC bn bw bg bt bs) (blind_all _ _ _ _ _)) hHeld ?_
      simp only [List.setIfInBounds_toArray, List.set_cons_zero, List.set_cons_succ]
      refine take_op (i := 4) (d := 33) (v := .agg (saC cti cwt csm)) rfl rfl (by kernel_rfl) (by kernel_rfl) (by kernel_rfl) (fun _ _ _ h => h) (yields_row (by rfl) 32 (.tmp 6) (by rfl) b2 0 3 (by rfl) 32 (saC cti cwt csm) (0, 0) _ (fun _ h => below_row h H2.out) Try.underlying32 rfl info_saL (sa_fits _ _ _) (saC cti cwt csm) (sa_all _ _ _)) hHeld ?_
      simp only [List.setIfInBounds_toArray, List.set_cons_zero, List.set_cons_succ]
      refine take_op (i := 6) (d := 35) (v := .agg (tkC dlg dgu dhg)) rfl rfl (by kernel_rfl) (by kernel_rfl) (by kernel_rfl) (fun _ _ _ h => h) (yields_row (by rfl) 38 (.tmp 7) (by rfl) b3 0 3 (by rfl) 38 (tkC dlg dgu dhg) (0, 0) _ (fun _ h => below_row h H3.out) Try.underlying38 rfl info_tkL (tk_fits _ _ _) (tkC dlg dgu dhg) (tk_all _ _ _)) hHeld ?_
      simp only [List.setIfInBounds_toArray, List.set_cons_zero, List.set_cons_succ]
      refine wpAnyH_ready (rs := [1, 13]) (by kernel_rfl) (by simp) ?_
      refine AllReadyH.cons rfl (fun K hK => ?_) (AllReadyH.cons rfl (fun K hK => ?_) AllReadyH.nil)
      · go_simp
        refine (toControl_any _ _ _ _ _ _ _).mono ?_
        rintro e Y1 ⟨rfl, hb1⟩
        refine hK.out _ _ (hHeld.trans (hb1.mono hHeld.size)) (fun hHeld2 => ?_)
        clear hK K
        replace hHeld := hHeld2
        clear hHeld2
        clear hb1
        refine wpAnyH_ready (rs := [3, 13]) (by kernel_rfl) (by simp) ?_
        refine AllReadyH.cons rfl (fun K hK => ?_) (AllReadyH.cons rfl (fun K hK => ?_) AllReadyH.nil)
        · go_simp
          refine (toBlind_any _ _ _ _ _ _).mono ?_
          rintro e Y2 ⟨rfl, hb1⟩
          refine hK.out _ _ (hHeld.trans (hb1.mono hHeld.size)) (fun hHeld2 => ?_)
          clear hK K
          replace hHeld := hHeld2
          clear hHeld2
          clear hb1
          refine wpAnyH_ready (rs := [5, 13]) (by kernel_rfl) (by simp) ?_
          refine AllReadyH.cons rfl (fun K hK => ?_) (AllReadyH.cons rfl (fun K hK => ?_) AllReadyH.nil)
          · go_simp
            refine (toState_any _ _ _ _).mono ?_
            rintro e Y3 ⟨rfl, hb1⟩
            refine hK.out _ _ (hHeld.trans (hb1.mono hHeld.size)) (fun hHeld2 => ?_)
            clear hK K
            replace hHeld := hHeld2
            clear hHeld2
            clear hb1
            refine wpAnyH_ready (rs := [7, 13]) (by kernel_rfl) (by simp) ?_
            refine AllReadyH.cons rfl (fun K hK => ?_) (AllReadyH.cons rfl (fun K hK => ?_) AllReadyH.nil)
            · go_simp
              refine (toTick_any _ _ _ _).mono ?_
              rintro e Y4 ⟨rfl, hb1⟩
              refine hK.out _ _ (hHeld.trans (hb1.mono hHeld.size)) (fun hHeld2 => ?_)
              clear hK K
              replace hHeld := hHeld2
              clear hHeld2
              clear hb1
              refine wpAnyH_ready (rs := [8, 13]) (by kernel_rfl) (by simp) ?_
              refine AllReadyH.cons rfl (fun K hK => ?_) (AllReadyH.cons rfl (fun K hK => ?_) AllReadyH.nil)
              · go_simp
                refine (HI.out _).mono ?_
                rintro e Y5 ⟨rfl, hb1⟩
                refine hK.out _ _ (hHeld.trans (hb1.mono hHeld.size)) (fun hHeld2 => ?_)
                clear hK K
                replace hHeld := hHeld2
                clear hHeld2
                clear hb1
                refine take_op (i := 9) (d := 28) (v := ?_) rfl rfl (by kernel_rfl) (by kernel_rfl) (by kernel_rfl) (fun _ _ _ h => h) (Or.inl ⟨by rfl, ?hy9u84⟩) hHeld ?rest9u84
                case hy9u84 =>
                  intro w' hS'
                  go_simp
                  try with_reducible rfl
                simp only [List.setIfInBounds_toArray, List.set_cons_zero, List.set_cons_succ]
                refine take_op (i := 10) (d := 38) (v := ?_) rfl rfl (by kernel_rfl) (by kernel_rfl) (by kernel_rfl) (fun _ _ _ h => h) (Or.inl ⟨by rfl, ?hy10u85⟩) hHeld ?rest10u85
                case hy10u85 =>
                  intro w' hS'
                  go_simp
                  try with_reducible rfl
                simp only [List.setIfInBounds_toArray, List.set_cons_zero, List.set_cons_succ]
                refine take_op (i := 11) (d := 39) (v := ?_) rfl rfl (by kernel_rfl) (by kernel_rfl) (by kernel_rfl) (fun _ _ _ h => h) (Or.inl ⟨by rfl, ?hy11u86⟩) hHeld ?rest11u86
                case hy11u86 =>
                  intro w' hS'
                  go_simp
                  try with_reducible rfl
                simp only [List.setIfInBounds_toArray, List.set_cons_zero, List.set_cons_succ]
                refine take_op (i := 12) (d := 40) (v := ?_) rfl rfl (by kernel_rfl) (by kernel_rfl) (by kernel_rfl) (fun _ _ _ h => h) (Or.inl ⟨by rfl, ?hy12u87⟩) hHeld ?rest12u87
                case hy12u87 =>
                  intro w' hS'
                  go_simp
                  try with_reducible rfl
                simp only [List.setIfInBounds_toArray, List.set_cons_zero, List.set_cons_succ]
                refine wpAnyH_ready (rs := [13]) (by kernel_rfl) (by simp) ?_
                refine AllReadyH.cons rfl (fun K hK => ?_) AllReadyH.nil
                go_simp
                obtain ⟨bb, hbq⟩ : ∃ bb, bb = Y5.heap.size := ⟨_, rfl⟩
                rw [← hbq]
                refine hK.out _ (Y5.alloc (.cells (saC 0 0 0) 34 (0, 0))) (hHeld.alloc hHeld.size _) (fun hHeld2 => ?_)
                have HB : Hid ((Y5.alloc (.cells (saC 0 0 0) 34 (0, 0))).heap[bb]? = some (.cells (saC 0 0 0) 34 (0, 0))) := Lib.hid (by rw [hbq]; exact heap_alloc_new _ _)
                have hbb : wc.heap.size ≤ bb := by rw [hbq]; exact hHeld.size
                clear hK K hHeld hbq
                have hHeld := hHeld2
                clear hHeld2
                generalize (Y5.alloc (.cells (saC 0 0 0) 34 (0, 0))) = Y6 at *
                have hst := run_store_row5 (P := Try.prog) _ bb 34 (saC vt vw vs) _ HB.out rfl (sa_one _ _ _)
                refine wpAnyH_ready (rs := [14]) (by kernel_rfl) (by simp) ?_
                refine AllReadyH.cons rfl (fun K hK => ?_) AllReadyH.nil
                go_simp
                refine hK.out _ _ (below_setRow hHeld hbb _) (fun hHeld2 => ?_)
                clear hK K hst
                have HB2 := Lib.hid (setRow_heap _ _ _ (saC vt vw vs) _ _ HB.out)
                clear hHeld HB
                have hHeld := hHeld2
                clear hHeld2
                refine take_op (i := 15) (d := 13) (v := ?_) rfl rfl (by kernel_rfl) (by kernel_rfl) (by kernel_rfl) (fun _ _ _ h => h) (Or.inl ⟨by rfl, ?hy15u88⟩) hHeld ?rest15u88
                case hy15u88 =>
                  intro w' hS'
                  go_simp
                  try with_reducible rfl
                refine take_op (i := 16) (d := 14) (v := ?_) rfl rfl (by kernel_rfl) (by kernel_rfl) (by kernel_rfl) (fun _ _ _ h => h) (Or.inl ⟨by rfl, ?hy16u89⟩) hHeld ?rest16u89
                case hy16u89 =>
                  intro w' hS'
                  go_simp
                  try with_reducible rfl
                refine wpAnyH_done (by kernel_rfl) ?_ _
                go_wp2
                go_meet
                case rel => exact ⟨⟨bb, rfl, hbb, HB2.out⟩, rfl, rfl, hHeld⟩
              · go_simp
                obtain ⟨bb, hbq⟩ : ∃ bb, bb = Y4.heap.size := ⟨_, rfl⟩
                rw [← hbq]
                refine hK.out _ (Y4.alloc (.cells (saC 0 0 0) 34 (0, 0))) (hHeld.alloc hHeld.size _) (fun hHeld2 => ?_)
                have HB : Hid ((Y4.alloc (.cells (saC 0 0 0) 34 (0, 0))).heap[bb]? = some (.cells (saC 0 0 0) 34 (0, 0))) := Lib.hid (by rw [hbq]; exact heap_alloc_new _ _)
                have hbb : wc.heap.size ≤ bb := by rw [hbq]; exact hHeld.size
                clear hK K hHeld hbq
                have hHeld := hHeld2
                clear hHeld2
                generalize (Y4.alloc (.cells (saC 0 0 0) 34 (0, 0))) = Y7 at *
                refine wpAnyH_ready (rs := [8]) (by kernel_rfl) (by simp) ?_
                refine AllReadyH.cons rfl (fun K hK => ?_) AllReadyH.nil
                go_simp
                refine (HI.out _).mono ?_
                rintro e Y8 ⟨rfl, hb1⟩
                refine hK.out _ _ (hHeld.trans (hb1.mono hHeld.size)) (fun hHeld2 => ?_)
                clear hK K
                replace hHeld := hHeld2
                clear hHeld2
                replace HB := Lib.hid (below_row hb1 HB.out)
                clear hb1
                refine take_op (i := 9) (d := 28) (v := ?_) rfl rfl (by kernel_rfl) (by kernel_rfl) (by kernel_rfl) (fun _ _ _ h => h) (Or.inl ⟨by rfl, ?hy9u90⟩) hHeld ?rest9u90
                case hy9u90 =>
                  intro w' hS'
                  go_simp
                  try with_reducible rfl
                simp only [List.setIfInBounds_toArray, List.set_cons_zero, List.set_cons_succ]
                refine take_op (i := 10) (d := 38) (v := ?_) rfl rfl (by kernel_rfl) (by kernel_rfl) (by kernel_rfl) (fun _ _ _ h => h) (Or.inl ⟨by rfl, ?hy10u91⟩) hHeld ?rest10u91
                case hy10u91 =>
                  intro w' hS'
                  go_simp
                  try with_reducible rfl
                simp only [List.setIfInBounds_toArray, List.set_cons_zero, List.set_cons_succ]
                refine take_op (i := 11) (d := 39) (v := ?_) rfl rfl (by kernel_rfl) (by kernel_rfl) (by kernel_rfl) (fun _ _ _ h => h) (Or.inl ⟨by rfl, ?hy11u92⟩) hHeld ?rest11u92
                case hy11u92 =>
                  intro w' hS'
                  go_simp
                  try with_reducible rfl
                simp only [List.setIfInBounds_toArray, List.set_cons_zero, List.set_cons_succ]
                refine take_op (i := 12) (d := 40) (v := ?_) rfl rfl (by kernel_rfl) (by kernel_rfl) (by kernel_rfl) (fun _ _ _ h => h) (Or.inl ⟨by rfl, ?hy12u93⟩) hHeld ?rest12u93
                case hy12u93 =>
                  intro w' hS'
                  go_simp
                  try with_reducible rfl
                simp only [List.setIfInBounds_toArray, List.set_cons_zero, List.set_cons_succ]
                have hst := run_store_row5 (P := Try.prog) _ bb 34 (saC vt vw vs) _ HB.out rfl (sa_one _ _ _)
                refine wpAnyH_ready (rs := [14]) (by kernel_rfl) (by simp) ?_
                refine AllReadyH.cons rfl (fun K hK => ?_) AllReadyH.nil
                go_simp
                refine hK.out _ _ (below_setRow hHeld hbb _) (fun hHeld2 => ?_)
                clear hK K hst
                have HB2 := Lib.hid (setRow_heap _ _ _ (saC vt vw vs) _ _ HB.out)
                clear hHeld HB
                have hHeld := hHeld2
                clear hHeld2
                refine take_op (i := 15) (d := 13) (v := ?_) rfl rfl (by kernel_rfl) (by kernel_rfl) (by kernel_rfl) (fun _ _ _ h => h) (Or.inl ⟨by rfl, ?hy15u94⟩) hHeld ?rest15u94
                case hy15u94 =>
                  intro w' hS'
                  go_simp
                  try with_reducible rfl
                refine take_op (i := 16) (d := 14) (v := ?_) rfl rfl (by kernel_rfl) (by kernel_rfl) (by kernel_rfl) (fun _ _ _ h => h) (Or.inl ⟨by rfl, ?hy16u95⟩) hHeld ?rest16u95
                case hy16u95 =>
                  intro w' hS'
                  go_simp
                  try with_reducible rfl
                refine wpAnyH_done (by kernel_rfl) ?_ _
                go_wp2
                go_meet
                case rel => exact ⟨⟨bb, rfl, hbb, HB2.out⟩, rfl, rfl, hHeld⟩
            · go_simp
              obtain ⟨bb, hbq⟩ : ∃ bb, bb = Y3.heap.size := ⟨_, rfl⟩
              rw [← hbq]
              refine hK.out _ (Y3.alloc (.cells (saC 0 0 0) 34 (0, 0))) (hHeld.alloc hHeld.size _) (fun hHeld2 => ?_)
              have HB : Hid ((Y3.alloc (.cells (saC 0 0 0) 34 (0, 0))).heap[bb]? = some (.cells (saC 0 0 0) 34 (0, 0))) := Lib.hid (by rw [hbq]; exact heap_alloc_new _ _)
              have hbb : wc.heap.size ≤ bb := by rw [hbq]; exact hHeld.size
              clear hK K hHeld hbq
              have hHeld := hHeld2
              clear hHeld2
              generalize (Y3.alloc (.cells (saC 0 0 0) 34 (0, 0))) = Y9 at *
              refine wpAnyH_ready (rs := [7]) (by kernel_rfl) (by simp) ?_
              refine AllReadyH.cons rfl (fun K hK => ?_) AllReadyH.nil
              go_simp
              refine (toTick_any _ _ _ _).mono ?_
              rintro e Y10 ⟨rfl, hb1⟩
              refine hK.out _ _ (hHeld.trans (hb1.mono hHeld.size)) (fun hHeld2 => ?_)
              clear hK K
              replace hHeld := hHeld2
              clear hHeld2
              replace HB := Lib.hid (below_row hb1 HB.out)
              clear hb1
              refine wpAnyH_ready (rs := [8]) (by kernel_rfl) (by simp) ?_
              refine AllReadyH.cons rfl (fun K hK => ?_) AllReadyH.nil
              go_simp
              refine (HI.out _).mono ?_
              rintro e Y11 ⟨rfl, hb1⟩
              refine hK.out _ _ (hHeld.trans (hb1.mono hHeld.size)) (fun hHeld2 => ?_)
              clear hK K
              replace hHeld := hHeld2
              clear hHeld2
              replace HB := Lib.hid (below_row hb1 HB.out)
              clear hb1
              refine take_op (i := 9) (d := 28) (v := ?_) rfl rfl (by kernel_rfl) (by kernel_rfl) (by kernel_rfl) (fun _ _ _ h => h) (Or.inl ⟨by rfl, ?hy9u96⟩) hHeld ?rest9u96
              case hy9u96 =>
                intro w' hS'
                go_simp
                try with_reducible rfl
              simp only [List.setIfInBounds_toArray, List.set_cons_zero, List.set_cons_succ]
              refine take_op (i := 10) (d := 38) (v := ?_) rfl rfl (by kernel_rfl) (by kernel_rfl) (by kernel_rfl) (fun _ _ _ h => h) (Or.inl ⟨by rfl, ?hy10u97⟩) hHeld ?rest10u97
              case hy10u97 =>
                intro w' hS'
                go_simp
                try with_reducible rfl
              simp only [List.setIfInBounds_toArray, List.set_cons_zero, List.set_cons_succ]
              refine take_op (i := 11) (d := 39) (v := ?_) rfl rfl (by kernel_rfl) (by kernel_rfl) (by kernel_rfl) (fun _ _ _ h => h) (Or.inl ⟨by rfl, ?hy11u98⟩) hHeld ?rest11u98
              case hy11u98 =>
                intro w' hS'
                go_simp
                try with_reducible rfl
              simp only [List.setIfInBounds_toArray, List.set_cons_zero, List.set_cons_succ]
              refine take_op (i := 12) (d := 40) (v := ?_) rfl rfl (by kernel_rfl) (by kernel_rfl) (by kernel_rfl) (fun _ _ _ h => h) (Or.inl ⟨by rfl, ?hy12u99⟩) hHeld ?rest12u99
              case hy12u99 =>
                intro w' hS'
                go_simp
                try with_reducible rfl
              simp only [List.setIfInBounds_toArray, List.set_cons_zero, List.set_cons_succ]
              have hst := run_store_row5 (P := Try.prog) _ bb 34 (saC vt vw vs) _ HB.out rfl (sa_one _ _ _)
              refine wpAnyH_ready (rs := [14]) (by kernel_rfl) (by simp) ?_
              refine AllReadyH.cons rfl (fun K hK => ?_) AllReadyH.nil
              go_simp
              refine hK.out _ _ (below_setRow hHeld hbb _) (fun hHeld2 => ?_)
              clear hK K hst
              have HB2 := Lib.hid (setRow_heap _ _ _ (saC vt vw vs) _ _ HB.out)
              clear hHeld HB
              have hHeld := hHeld2
              clear hHeld2
              refine take_op (i := 15) (d := 13) (v := ?_) rfl rfl (by kernel_rfl) (by kernel_rfl) (by kernel_rfl) (fun _ _ _ h => h) (Or.inl ⟨by rfl, ?hy15u100⟩) hHeld ?rest15u100
              case hy15u100 =>
                intro w' hS'
                go_simp
                try with_reducible rfl
              refine take_op (i := 16) (d := 14) (v := ?_) rfl rfl (by kernel_rfl) (by kernel_rfl) (by kernel_rfl) (fun _ _ _ h => h) (Or.inl ⟨by rfl, ?hy16u101⟩) hHeld ?rest16u101
              case hy16u101 =>
                intro w' hS'
                go_simp
                try with_reducible rfl
              refine wpAnyH_done (by kernel_rfl) ?_ _
              go_wp2
              go_meet
              case rel => exact ⟨⟨bb, rfl, hbb, HB2.out⟩, rfl, rfl, hHeld⟩
          · go_simp
            obtain ⟨bb, hbq⟩ : ∃ bb, bb = Y2.heap.size := ⟨_, rfl⟩
            rw [← hbq]
            refine hK.out _ (Y2.alloc (.cells (saC 0 0 0) 34 (0, 0))) (hHeld.alloc hHeld.size _) (fun hHeld2 => ?_)
            have HB : Hid ((Y2.alloc (.cells (saC 0 0 0) 34 (0, 0))).heap[bb]? = some (.cells (saC 0 0 0) 34 (0, 0))) := Lib.hid (by rw [hbq]; exact heap_alloc_new _ _)
            have hbb : wc.heap.size ≤ bb := by rw [hbq]; exact hHeld.size
            clear hK K hHeld hbq
            have hHeld := hHeld2
            clear hHeld2
            generalize (Y2.alloc (.cells (saC 0 0 0) 34 (0, 0))) = Y12 at *
            refine wpAnyH_ready (rs := [5]) (by kernel_rfl) (by simp) ?_
            refine AllReadyH.cons rfl (fun K hK => ?_) AllReadyH.nil
            go_simp
            refine (toState_any _ _ _ _).mono ?_
            rintro e Y13 ⟨rfl, hb1⟩
            refine hK.out _ _ (hHeld.trans (hb1.mono hHeld.size)) (fun hHeld2 => ?_)
            clear hK K
            replace hHeld := hHeld2
            clear hHeld2
            replace HB := Lib.hid (below_row hb1 HB.out)
            clear hb1
            refine wpAnyH_ready (rs := [7]) (by kernel_rfl) (by simp) ?_
            refine AllReadyH.cons rfl (fun K hK => ?_) AllReadyH.nil
            go_simp
            refine (toTick_any _ _ _ _).mono ?_
            rintro e Y14 ⟨rfl, hb1⟩
            refine hK.out _ _ (hHeld.trans (hb1.mono hHeld.size)) (fun hHeld2 => ?_)
            clear hK K
            replace hHeld := hHeld2
            clear hHeld2
            replace HB := Lib.hid (below_row hb1 HB.out)
            clear hb1
            refine wpAnyH_ready (rs := [8]) (by kernel_rfl) (by simp) ?_
            refine AllReadyH.cons rfl (fun K hK => ?_) AllReadyH.nil
            go_simp
            refine (HI.out _).mono ?_
            rintro e Y15 ⟨rfl, hb1⟩
            refine hK.out _ _ (hHeld.trans (hb1.mono hHeld.size)) (fun hHeld2 => ?_)
            clear hK K
            replace hHeld := hHeld2
            clear hHeld2
            replace HB := Lib.hid (below_row hb1 HB.out)
            clear hb1
            refine take_op (i := 9) (d := 28) (v := ?_) rfl rfl (by kernel_rfl) (by kernel_rfl) (by kernel_rfl) (fun _ _ _ h => h) (Or.inl ⟨by rfl, ?hy9u102⟩) hHeld ?rest9u102
            case hy9u102 =>
              intro w' hS'
              go_simp
              try with_reducible rfl
            simp only [List.setIfInBounds_toArray, List.set_cons_zero, List.set_cons_succ]
            refine take_op (i := 10) (d := 38) (v := ?_) rfl rfl (by kernel_rfl) (by kernel_rfl) (by kernel_rfl) (fun _ _ _ h => h) (Or.inl ⟨by rfl, ?hy10u103⟩) hHeld ?rest10u103
            case hy10u103 =>
              intro w' hS'
              go_simp
              try with_reducible rfl
            simp only [List.setIfInBounds_toArray, List.set_cons_zero, List.set_cons_succ]
            refine take_op (i := 11) (d := 39) (v := ?_) rfl rfl (by kernel_rfl) (by kernel_rfl) (by kernel_rfl) (fun _ _ _ h => h) (Or.inl ⟨by rfl, ?hy11u104⟩) hHeld ?rest11u104
            case hy11u104 =>
              intro w' hS'
              go_simp
              try with_reducible rfl
            simp only [List.setIfInBounds_toArray, List.set_cons_zero, List.set_cons_succ]
            refine take_op (i := 12) (d := 40) (v := ?_) rfl rfl (by kernel_rfl) (by kernel_rfl) (by kernel_rfl) (fun _ _ _ h => h) (Or.inl ⟨by rfl, ?hy12u105⟩) hHeld ?rest12u105
            case hy12u105 =>
              intro w' hS'
              go_simp
              try with_reducible rfl
            simp only [List.setIfInBounds_toArray, List.set_cons_zero, List.set_cons_succ]
            have hst := run_store_row5 (P := Try.prog) _ bb 34 (saC vt vw vs) _ HB.out rfl (sa_one _ _ _)
            refine wpAnyH_ready (rs := [14]) (by kernel_rfl) (by simp) ?_
            refine AllReadyH.cons rfl (fun K hK => ?_) AllReadyH.nil
            go_simp
            refine hK.out _ _ (below_setRow hHeld hbb _) (fun hHeld2 => ?_)
            clear hK K hst
            have HB2 := Lib.hid (setRow_heap _ _ _ (saC vt vw vs) _ _ HB.out)
            clear hHeld HB
            have hHeld := hHeld2
            clear hHeld2
            refine take_op (i := 15) (d := 13) (v := ?_) rfl rfl (by kernel_rfl) (by kernel_rfl) (by kernel_rfl) (fun _ _ _ h => h) (Or.inl ⟨by rfl, ?hy15u106⟩) hHeld ?rest15u106
            case hy15u106 =>
              intro w' hS'
              go_simp
              try with_reducible rfl
            refine take_op (i := 16) (d := 14) (v := ?_) rfl rfl (by kernel_rfl) (by kernel_rfl) (by kernel_rfl) (fun _ _ _ h => h) (Or.inl ⟨by rfl, ?hy16u107⟩) hHeld ?rest16u107
            case hy16u107 =>
              intro w' hS'
              go_simp
              try with_reducible rfl
            refine wpAnyH_done (by kernel_rfl) ?_ _
            go_wp2
            go_meet
            case rel => exact ⟨⟨bb, rfl, hbb, HB2.out⟩, rfl, rfl, hHeld⟩
        · go_simp
          obtain ⟨bb, hbq⟩ : ∃ bb, bb = Y1.heap.size := ⟨_, rfl⟩
          rw [← hbq]
          refine hK.out _ (Y1.alloc (.cells (saC 0 0 0) 34 (0, 0))) (hHeld.alloc hHeld.size _) (fun hHeld2 => ?_)
          have HB : Hid ((Y1.alloc (.cells (saC 0 0 0) 34 (0, 0))).heap[bb]? = some (.cells (saC 0 0 0) 34 (0, 0))) := Lib.hid (by rw [hbq]; exact heap_alloc_new _ _)
          have hbb : wc.heap.size ≤ bb := by rw [hbq]; exact hHeld.size
          clear hK K hHeld hbq
          have hHeld := hHeld2
          clear hHeld2
          generalize (Y1.alloc (.cells (saC 0 0 0) 34 (0, 0))) = Y16 at *
          refine wpAnyH_ready (rs := [3]) (by kernel_rfl) (by simp) ?_
          refine AllReadyH.cons rfl (fun K hK => ?_) AllReadyH.nil
          go_simp
          refine (toBlind_any _ _ _ _ _ _).mono ?_
          rintro e Y17 ⟨rfl, hb1⟩
          refine hK.out _ _ (hHeld.trans (hb1.mono hHeld.size)) (fun hHeld2 => ?_)
          clear hK K
          replace hHeld := hHeld2
          clear hHeld2
          replace HB := Lib.hid (below_row hb1 HB.out)
          clear hb1
          refine wpAnyH_ready (rs := [5]) (by kernel_rfl) (by simp) ?_
          refine AllReadyH.cons rfl (fun K hK => ?_) AllReadyH.nil
          go_simp
          refine (toState_any _ _ _ _).mono ?_
          rintro e Y18 ⟨rfl, hb1⟩
          refine hK.out _ _ (hHeld.trans (hb1.mono hHeld.size)) (fun hHeld2 => ?_)
          clear hK K
          replace hHeld := hHeld2
          clear hHeld2
          replace HB := Lib.hid (below_row hb1 HB.out)
          clear hb1
          refine wpAnyH_ready (rs := [7]) (by kernel_rfl) (by simp) ?_
          refine AllReadyH.cons rfl (fun K hK => ?_) AllReadyH.nil
          go_simp
          refine (toTick_any _ _ _ _).mono ?_
          rintro e Y19 ⟨rfl, hb1⟩
          refine hK.out _ _ (hHeld.trans (hb1.mono hHeld.size)) (fun hHeld2 => ?_)
          clear hK K
          replace hHeld := hHeld2
          clear hHeld2
          replace HB := Lib.hid (below_row hb1 HB.out)
          clear hb1
          refine wpAnyH_ready (rs := [8]) (by kernel_rfl) (by simp) ?_
          refine AllReadyH.cons rfl (fun K hK => ?_) AllReadyH.nil
          go_simp
          refine (HI.out _).mono ?_
          rintro e Y20 ⟨rfl, hb1⟩
          refine hK.out _ _ (hHeld.trans (hb1.mono hHeld.size)) (fun hHeld2 => ?_)
          clear hK K
          replace hHeld := hHeld2
          clear hHeld2
          replace HB := Lib.hid (below_row hb1 HB.out)
          clear hb1
          refine take_op (i := 9) (d := 28) (v := ?_) rfl rfl (by kernel_rfl) (by kernel_rfl) (by kernel_rfl) (fun _ _ _ h => h) (Or.inl ⟨by rfl, ?hy9u108⟩) hHeld ?rest9u108
          case hy9u108 =>
            intro w' hS'
            go_simp
            try with_reducible rfl
          simp only [List.setIfInBounds_toArray, List.set_cons_zero, List.set_cons_succ]
          refine take_op (i := 10) (d := 38) (v := ?_) rfl rfl (by kernel_rfl) (by kernel_rfl) (by kernel_rfl) (fun _ _ _ h => h) (Or.inl ⟨by rfl, ?hy10u109⟩) hHeld ?rest10u109
          case hy10u109 =>
            intro w' hS'
            go_simp
            try with_reducible rfl
          simp only [List.setIfInBounds_toArray, List.set_cons_zero, List.set_cons_succ]
          refine take_op (i := 11) (d := 39) (v := ?_) rfl rfl (by kernel_rfl) (by kernel_rfl) (by kernel_rfl) (fun _ _ _ h => h) (Or.inl ⟨by rfl, ?hy11u110⟩) hHeld ?rest11u110
          case hy11u110 =>
            intro w' hS'
            go_simp
            try with_reducible rfl
          simp only [List.setIfInBounds_toArray, List.set_cons_zero, List.set_cons_succ]
          refine take_op (i := 12) (d := 40) (v := ?_) rfl rfl (by kernel_rfl) (by kernel_rfl) (by kernel_rfl) (fun _ _ _ h => h) (Or.inl ⟨by rfl, ?hy12u111⟩) hHeld ?rest12u111
          case hy12u111 =>
            intro w' hS'
            go_simp
            try with_reducible rfl
          simp only [List.setIfInBounds_toArray, List.set_cons_zero, List.set_cons_succ]
          have hst := run_store_row5 (P := Try.prog) _ bb 34 (saC vt vw vs) _ HB.out rfl (sa_one _ _ _)
          refine wpAnyH_ready (rs := [14]) (by kernel_rfl) (by simp) ?_
          refine AllReadyH.cons rfl (fun K hK => ?_) AllReadyH.nil
          go_simp
          refine hK.out _ _ (below_setRow hHeld hbb _) (fun hHeld2 => ?_)
          clear hK K hst
          have HB2 := Lib.hid (setRow_heap _ _ _ (saC vt vw vs) _ _ HB.out)
          clear hHeld HB
          have hHeld := hHeld2
          clear hHeld2
          refine take_op (i := 15) (d := 13) (v := ?_) rfl rfl (by kernel_rfl) (by kernel_rfl) (by kernel_rfl) (fun _ _ _ h => h) (Or.inl ⟨by rfl, ?hy15u112⟩) hHeld ?rest15u112
          case hy15u112 =>
            intro w' hS'
            go_simp
            try with_reducible rfl
          refine take_op (i := 16) (d := 14) (v := ?_) rfl rfl (by kernel_rfl) (by kernel_rfl) (by kernel_rfl) (fun _ _ _ h => h) (Or.inl ⟨by rfl, ?hy16u113⟩) hHeld ?rest16u113
          case hy16u113 =>
            intro w' hS'
            go_simp
            try with_reducible rfl
          refine wpAnyH_done (by kernel_rfl) ?_ _
          go_wp2
          go_meet
          case rel => exact ⟨⟨bb, rfl, hbb, HB2.out⟩, rfl, rfl, hHeld⟩
      · go_simp
        obtain ⟨bb, hbq⟩ : ∃ bb, bb = Y0.heap.size := ⟨_, rfl⟩
        rw [← hbq]
        refine hK.out _ (Y0.alloc (.cells (saC 0 0 0) 34 (0, 0))) (hHeld.alloc hHeld.size _) (fun hHeld2 => ?_)
        have HB : Hid ((Y0.alloc (.cells (saC 0 0 0) 34 (0, 0))).heap[bb]? = some (.cells (saC 0 0 0) 34 (0, 0))) := Lib.hid (by rw [hbq]; exact heap_alloc_new _ _)
        have hbb : wc.heap.size ≤ bb := by rw [hbq]; exact hHeld.size
        clear hK K hHeld hbq
        have hHeld := hHeld2
        clear hHeld2
        generalize (Y0.alloc (.cells (saC 0 0 0) 34 (0, 0))) = Y21 at *
        refine wpAnyH_ready (rs := [1]) (by kernel_rfl) (by simp) ?_
        refine AllReadyH.cons rfl (fun K hK => ?_) AllReadyH.nil
        go_simp
        refine (toControl_any _ _ _ _ _ _ _).mono ?_
        rintro e Y22 ⟨rfl, hb1⟩
        refine hK.out _ _ (hHeld.trans (hb1.mono hHeld.size)) (fun hHeld2 => ?_)
        clear hK K
        replace hHeld := hHeld2
        clear hHeld2
        replace HB := Lib.hid (below_row hb1 HB.out)
        clear hb1
        refine wpAnyH_ready (rs := [3]) (by kernel_rfl) (by simp) ?_
        refine AllReadyH.cons rfl (fun K hK => ?_) AllReadyH.nil
        go_simp
        refine (toBlind_any _ _ _ _ _ _).mono ?_
        rintro e Y23 ⟨rfl, hb1⟩
        refine hK.out _ _ (hHeld.trans (hb1.mono hHeld.size)) (fun hHeld2 => ?_)
        clear hK K
        replace hHeld := hHeld2
        clear hHeld2
        replace HB := Lib.hid (below_row hb1 HB.out)
        clear hb1
        refine wpAnyH_ready (rs := [5]) (by kernel_rfl) (by simp) ?_
        refine AllReadyH.cons rfl (fun K hK => ?_) AllReadyH.nil
        go_simp
        refine (toState_any _ _ _ _).mono ?_
        rintro e Y24 ⟨rfl, hb1⟩
        refine hK.out _ _ (hHeld.trans (hb1.mono hHeld.size)) (fun hHeld2 => ?_)
        clear hK K
        replace hHeld := hHeld2
        clear hHeld2
        replace HB := Lib.hid (below_row hb1 HB.out)
        clear hb1
        refine wpAnyH_ready (rs := [7]) (by kernel_rfl) (by simp) ?_
        refine AllReadyH.cons rfl (fun K hK => ?_) AllReadyH.nil
        go_simp
        refine (toTick_any _ _ _ _).mono ?_
        rintro e Y25 ⟨rfl, hb1⟩
        refine hK.out _ _ (hHeld.trans (hb1.mono hHeld.size)) (fun hHeld2 => ?_)
        clear hK K
        replace hHeld := hHeld2
        clear hHeld2
        replace HB := Lib.hid (below_row hb1 HB.out)
        clear hb1
        refine wpAnyH_ready (rs := [8]) (by kernel_rfl) (by simp) ?_
        refine AllReadyH.cons rfl (fun K hK => ?_) AllReadyH.nil
        go_simp
        refine (HI.out _).mono ?_
        rintro e Y26 ⟨rfl, hb1⟩
        refine hK.out _ _ (hHeld.trans (hb1.mono hHeld.size)) (fun hHeld2 => ?_)
        clear hK K
        replace hHeld := hHeld2
        clear hHeld2
        replace HB := Lib.hid (below_row hb1 HB.out)
        clear hb1
        refine take_op (i := 9) (d := 28) (v := ?_) rfl rfl (by kernel_rfl) (by kernel_rfl) (by kernel_rfl) (fun _ _ _ h => h) (Or.inl ⟨by rfl, ?hy9u114⟩) hHeld ?rest9u114
        case hy9u114 =>
          intro w' hS'
          go_simp
          try with_reducible rfl
        simp only [List.setIfInBounds_toArray, List.set_cons_zero, List.set_cons_succ]
        refine take_op (i := 10) (d := 38) (v := ?_) rfl rfl (by kernel_rfl) (by kernel_rfl) (by kernel_rfl) (fun _ _ _ h => h) (Or.inl ⟨by rfl, ?hy10u115⟩) hHeld ?rest10u115
        case hy10u115 =>
          intro w' hS'
          go_simp
          try with_reducible rfl
        simp only [List.setIfInBounds_toArray, List.set_cons_zero, List.set_cons_succ]
        refine take_op (i := 11) (d := 39) (v := ?_) rfl rfl (by kernel_rfl) (by kernel_rfl) (by kernel_rfl) (fun _ _ _ h => h) (Or.inl ⟨by rfl, ?hy11u116⟩) hHeld ?rest11u116
        case hy11u116 =>
          intro w' hS'
          go_simp
          try with_reducible rfl
        simp only [List.setIfInBounds_toArray, List.set_cons_zero, List.set_cons_succ]
        refine take_op (i := 12) (d := 40) (v := ?_) rfl rfl (by kernel_rfl) (by kernel_rfl) (by kernel_rfl) (fun _ _ _ h => h) (Or.inl ⟨by rfl, ?hy12u117⟩) hHeld ?rest12u117
        case hy12u117 =>
          intro w' hS'
          go_simp
          try with_reducible rfl
        simp only [List.setIfInBounds_toArray, List.set_cons_zero, List.set_cons_succ]
        have hst := run_store_row5 (P := Try.prog) _ bb 34 (saC vt vw vs) _ HB.out rfl (sa_one _ _ _)
        refine wpAnyH_ready (rs := [14]) (by kernel_rfl) (by simp) ?_
        refine AllReadyH.cons rfl (fun K hK => ?_) AllReadyH.nil
        go_simp
        refine hK.out _ _ (below_setRow hHeld hbb _) (fun hHeld2 => ?_)
        clear hK K hst
        have HB2 := Lib.hid (setRow_heap _ _ _ (saC vt vw vs) _ _ HB.out)
        clear hHeld HB
        have hHeld := hHeld2
        clear hHeld2
        refine take_op (i := 15) (d := 13) (v := ?_) rfl rfl (by kernel_rfl) (by kernel_rfl) (by kernel_rfl) (fun _ _ _ h => h) (Or.inl ⟨by rfl, ?hy15u118⟩) hHeld ?rest15u118
        case hy15u118 =>
          intro w' hS'
          go_simp
          try with_reducible rfl
        refine take_op (i := 16) (d := 14) (v := ?_) rfl rfl (by kernel_rfl) (by kernel_rfl) (by kernel_rfl) (fun _ _ _ h => h) (Or.inl ⟨by rfl, ?hy16u119⟩) hHeld ?rest16u119
        case hy16u119 =>
          intro w' hS'
          go_simp
          try with_reducible rfl
        refine wpAnyH_done (by kernel_rfl) ?_ _
        go_wp2
        go_meet
        case rel => exact ⟨⟨bb, rfl, hbb, HB2.out⟩, rfl, rfl, hHeld⟩
    case rest =>
      obtain ⟨⟨g2, rfl, hg2, q2⟩, rfl, rfl, hbx⟩ := hcut
      replace G1 := Lib.hid (below_row hbx G1.out)
      replace hb := hb.trans (hbx.mono hb.size)
      have G2 := Lib.hid q2
      clear q2 hbx HS HI H0 H1 H2 H3
      go_wp2_with (first | (refine wpList_load_part rfl 34 _ rfl g1 0 3 rfl 34 (saC vt vw vs) (0, 0) _ G1.out Try.underlying34 rfl info_sa (sa_fits _ _ _) _ (sa_all _ _ _) ?_) | (refine wpList_load_part rfl 34 _ rfl g2 0 3 rfl 34 (saC vt vw vs) (0, 0) _ G2.out Try.underlying34 rfl info_sa (sa_fits _ _ _) _ (sa_all _ _ _) ?_) | (go_at_call 32; refine (eqState_same _ _ _ _).mono ?_; rintro e X1 ⟨rfl, hx1⟩; replace hb := hb.trans (hx1.mono hb.size); clear hx1))
      go_ret
      exact ⟨rfl, hb⟩

theorem lawSteadyFrom_walk (alo ahi awi : Nat) (ast ade aca : Int) (ha : CtWf alo ahi awi ast ade aca) (bn : Int) (bw bg : Nat) (bt : Int) (bs : Nat) (hb : BlWf bn bw bg bt bs) (cti cwt csm : Int) (hc : SaWf cti cwt csm) (dlg dgu : Nat) (dhg : Int) (hd : TkWf dlg dgu dhg) (w : World) :
    Calls Try.prog 10 #[.agg (ctC alo ahi awi ast ade aca), .agg (blindC bn bw bg bt bs), .agg (saC cti cwt csm), .agg (tkC dlg dgu dhg)] w fun e w' => e = .returned (.bool true) ∧ Below w.heap.size w w' := by
  by_cases hz : codeO alo ahi awi ast ade aca bn bw bg bt bs cti cwt csm dlg dgu dhg = 0
  · exact FnExactSteadyFrom_core alo ahi awi ast ade aca bn bw bg bt bs cti cwt csm dlg dgu dhg (ansS (nxS alo ahi awi ast ade aca bw bg bs dlg dgu dhg) (cti, cwt, csm) (srchS (stdS (nxS alo ahi awi ast ade aca bw bg bs dlg dgu dhg) (cti, cwt, csm)) 101 0)).1.1 (ansS (nxS alo ahi awi ast ade aca bw bg bs dlg dgu dhg) (cti, cwt, csm) (srchS (stdS (nxS alo ahi awi ast ade aca bw bg bs dlg dgu dhg) (cti, cwt, csm)) 101 0)).1.2.1 (ansS (nxS alo ahi awi ast ade aca bw bg bs dlg dgu dhg) (cti, cwt, csm) (srchS (stdS (nxS alo ahi awi ast ade aca bw bg bs dlg dgu dhg) (cti, cwt, csm)) 101 0)).1.2.2 (ansS (nxS alo ahi awi ast ade aca bw bg bs dlg dgu dhg) (cti, cwt, csm) (srchS (stdS (nxS alo ahi awi ast ade aca bw bg bs dlg dgu dhg) (cti, cwt, csm)) 101 0)).2.1 (ansS (nxS alo ahi awi ast ade aca bw bg bs dlg dgu dhg) (cti, cwt, csm) (srchS (stdS (nxS alo ahi awi ast ade aca bw bg bs dlg dgu dhg) (cti, cwt, csm)) 101 0)).2.2 (fun w => sSteadyFrom_yes alo ahi awi ast ade aca ha bn bw bg bt bs hb cti cwt csm hc dlg dgu dhg hd hz _ rfl w) (fun w => iSteadyFrom_yes alo ahi awi ast ade aca ha bn bw bg bt bs hb cti cwt csm hc dlg dgu dhg hd hz _ rfl w) w
  · exact FnExactSteadyFrom_core alo ahi awi ast ade aca bn bw bg bt bs cti cwt csm dlg dgu dhg 0 0 0 0 _ (fun w => sSteadyFrom_no alo ahi awi ast ade aca ha bn bw bg bt bs hb cti cwt csm hc dlg dgu dhg hd _ rfl hz w) (fun w => iSteadyFrom_no alo ahi awi ast ade aca ha bn bw bg bt bs hb cti cwt csm hc dlg dgu dhg hd _ rfl hz w) w

set_option maxRecDepth 100000 in
theorem FnExactSteadyFrom_holds : Rows.FnExactSteadyFromSaid :=
  OpenClaim.holds_of_wide 10 Try.f10 rfl rfl rfl rfl rfl rfl rfl ⟨rfl, rfl, rfl, rfl, rfl⟩ rfl rfl rfl rfl rfl (by kernel_rfl) Try.func10 (by kernel_rfl)
    (of_decide_eq_true (by kernel_rfl)) (by unfold Func.isWrapper; first | (rw [if_pos (by decide +kernel)]; kernel_rfl) | (rw [if_neg (by decide +kernel)]; exact ⟨rfl, rfl⟩))
    (fun os started H enc _ => law_lifted 10 Try.f10 Rows.fnExactSteadyFromSpec Rows.fnExactSteadyFromRow.domain os started H enc (by kernel_rfl) Try.func10 rfl rfl
      (by rw [Try.params10]; intro t ht; simp only [List.mem_cons, List.not_mem_nil, or_false] at ht; rcases ht with rfl | rfl | rfl | rfl <;> exact ⟨by kernel_rfl, of_decide_eq_true (by kernel_rfl)⟩)
      (fun ds hl => by
        match ds, hl with
        | [d0, d1, d2, d3], _ => rfl)
      (ChangeSpec.witness6 (enc := enc) (C := Try.checked) false ⟨#[], #[.agg #[.float .f32 0, .float .f32 0, .float .f32 0, .int .i8 0, .int .i8 0, .int .i8 0], .agg #[.int .i8 0, .float .f32 0, .float .f32 0, .int .i16 0, .float .f32 0], .agg #[.int .i16 0, .int .i8 0, .int .i8 0], .agg #[.float .f32 0, .float .f32 0, .int .i8 0]], []⟩ 8 (by kernel_rfl) (by kernel_rfl) (by kernel_rfl) (by kernel_rfl))
      (fun W base args ds p hval hA => by
        rw [Try.params10] at hA hval
        obtain ⟨v0, vs0, d0, ds0, p0, q0, hargs, rfl, rfl, h0, r0⟩ := trodAll_cons hA
        obtain ⟨v1, vs1, d1, ds1, p1, q1, rfl, rfl, rfl, h1, r1⟩ := trodAll_cons r0
        obtain ⟨v2, vs2, d2, ds2, p2, q2, rfl, rfl, rfl, h2, r2⟩ := trodAll_cons r1
        obtain ⟨v3, vs3, d3, ds3, p3, q3, rfl, rfl, rfl, h3, r3⟩ := trodAll_cons r2
        obtain ⟨rfl, rfl, rfl⟩ := trodAll_nil r3
        obtain rfl : args = #[v0, v1, v2, v3] := by cases args; simp_all
        obtain ⟨clo0, chi0, cwi0, cst0, cde0, cca0, cwf0, rfl⟩ := open_ct (hval 0 25 v0 rfl rfl) h0
        obtain ⟨n1, wd1, gp1, t1, sh1, bw1, rfl⟩ := open_blind (hval 1 46 v1 rfl rfl) h1
        obtain ⟨sti2, swt2, ssm2, swf2, rfl⟩ := open_sa (hval 2 32 v2 rfl rfl) h2
        obtain ⟨klg3, kgu3, khg3, kwf3, rfl⟩ := open_tk (hval 3 38 v3 rfl rfl) h3
        exact lawSteadyFrom_walk clo0 chi0 cwi0 cst0 cde0 cca0 cwf0 n1 wd1 gp1 t1 sh1 bw1 sti2 swt2 ssm2 swf2 klg3 kgu3 khg3 kwf3 W ))
#print axioms FnExactSteadyFrom_holds

end Go.Proofs.Ytelgcggcmjdhjaa
