/-
  For every awning and every sun, valid or not, every hour, every facing and every part: how far the awning has to reach out is what the model says. No conditions.
-/
import Derived.Test.YthpimcfmgefkkaaDoorOfJ
import Derived.Test.YthpimcfmgefkkaaDoorOfS
import Derived.Test.YthpimcfmgefkkaaDoorLawC
import Derived.Test.YthpimcfmgefkkaaDoorCards
import Derived.Test.YthpimcfmgefkkaaDoorTie
import Derived.SevenTiedAt
namespace Go.Proofs.YthpimcfmgefkkaaDoor
open Go.ChangeShapes Go.WideShapes Go.ChangeAt Go.RowKit Go.Deep Go.Joins

set_option maxRecDepth 100000 in
set_option maxHeartbeats 1000000 in
theorem FnExactOutFor_core (o dr gp tl : Nat) (hs ts : List Int) (hh : hs.length = 24) (ht : ts.length = 24) (hour : Int) (fc : Int) (le : Nat) (v0 : Nat) (v1 : Int) (hv0 : fin32 v0 = true) (e0 e1 e2 e3 : Addr)
    (hspec : ∀ w, Calls Tryd.prog 4 #[.agg (awC o dr gp tl), .agg (sunC hs ts), .int .i64 hour, .int .i64 fc, .float .f32 le] w fun e w' => e = .returned (.tuple #[.float .f32 v0, .int .i64 v1]) ∧ Below w.heap.size w w')
    (himpl : ∀ w, ErrsAt w e0 e1 e2 e3 → Calls Tryd.prog 7 #[.agg (awC o dr gp tl), .agg (sunC hs ts), .int .i64 hour, .int .i64 fc, .float .f32 le] w fun e w' => e = .returned (.tuple #[.float .f32 v0, .int .i64 v1]) ∧ Below w.heap.size w w') (w : World) (hE : ErrsAt w e0 e1 e2 e3) :
    Calls Tryd.prog 3 #[.agg (awC o dr gp tl), .agg (sunC hs ts), .int .i64 hour, .int .i64 fc, .float .f32 le] w fun e w' => e = .returned (.bool true) ∧ Below w.heap.size w w' := by
  have HS := Lib.hid hspec
  have HI := Lib.hid himpl
  clear hspec himpl
  have hw0 := run_wide _ hv0
  have Hv0 := Lib.hid hv0
  clear hv0
  have Hh := Lib.hid hh
  have Ht := Lib.hid ht
  clear hh ht
  have HX := Lib.hid hE
  clear hE
  go_enter Tryd.func3, Tryd.ntmps3
  go_upto_region 1 with (fail)
  refine abs_world (fun W => W.heap[w.heap.size]? = some (.cells (awC o dr gp tl) 24 (0, 0)) ∧ W.heap[w.heap.size + 1]? = some (.cells (sunC hs ts) 28 (0, 0)) ∧ Below w.heap.size w W) (box2 w (.cells (awC o dr gp tl) 24) (.cells (sunC hs ts) 28)) ?_
  rintro W ⟨h0, h1, hb⟩
  generalize w.heap.size + 1 = b1 at *
  have H0 := Lib.hid h0
  have H1 := Lib.hid h1
  clear h0 h1
  replace HX := Lib.hid (errs_below HX.out hb)
  refine wp_region_held_drew (S := (fun V => Below W.heap.size W V)) (by kernel_rfl) ((Below.refl _ _).drew) (fun hHeld => ?_)
  refine take_op (i := 0) (d := 16) (v := .agg (awC o dr gp tl)) rfl rfl (by kernel_rfl) (by kernel_rfl) (by kernel_rfl) (fun _ _ _ h => h) (yields_row (by rfl) 24 (.tmp 5) (by rfl) w.heap.size 0 4 (by rfl) 24 (awC o dr gp tl) (0, 0) _ (fun _ h => below_row h H0.out) Tryd.underlying24 rfl info_awL (aw_fits _ _ _ _) (awC o dr gp tl) (aw_all _ _ _ _)) hHeld ?_
  simp only [List.setIfInBounds_toArray, List.set_cons_zero, List.set_cons_succ]
  refine take_op (i := 2) (d := 18) (v := .agg (sunC hs ts)) rfl rfl (by kernel_rfl) (by kernel_rfl) (by kernel_rfl) (fun _ _ _ h => h) (yields_row (by rfl) 28 (.tmp 6) (by rfl) b1 0 48 (by rfl) 28 (sunC hs ts) (0, 0) _ (fun _ h => below_row h H1.out) Tryd.underlying28 rfl info_sunL (sun_fits _ _ Hh.out Ht.out) (sunC hs ts) (sun_all _ _ Hh.out Ht.out)) hHeld ?_
  simp only [List.setIfInBounds_toArray, List.set_cons_zero, List.set_cons_succ]
  refine take_op (i := 4) (d := 20) (v := ?_) rfl rfl (by kernel_rfl) (by kernel_rfl) (by kernel_rfl) (fun _ _ _ h => h) (Or.inl ⟨by rfl, ?hy4u18⟩) hHeld ?rest4u18
  case hy4u18 =>
    intro w' hS'
    go_simp
    try with_reducible rfl
  simp only [List.setIfInBounds_toArray, List.set_cons_zero, List.set_cons_succ]
  refine take_op (i := 5) (d := 21) (v := ?_) rfl rfl (by kernel_rfl) (by kernel_rfl) (by kernel_rfl) (fun _ _ _ h => h) (Or.inl ⟨by rfl, ?hy5u19⟩) hHeld ?rest5u19
  case hy5u19 =>
    intro w' hS'
    go_simp
    try with_reducible rfl
  simp only [List.setIfInBounds_toArray, List.set_cons_zero, List.set_cons_succ]
  refine take_op (i := 6) (d := 22) (v := ?_) rfl rfl (by kernel_rfl) (by kernel_rfl) (by kernel_rfl) (fun _ _ _ h => h) (Or.inl ⟨by rfl, ?hy6u20⟩) hHeld ?rest6u20
  case hy6u20 =>
    intro w' hS'
    go_simp
    try with_reducible rfl
  simp only [List.setIfInBounds_toArray, List.set_cons_zero, List.set_cons_succ]
  refine wpAnyH_ready (rs := [1]) (by kernel_rfl) (by simp) ?_
  refine AllReadyH.cons rfl (fun K hK => ?_) AllReadyH.nil
  go_simp
  refine (toAwning_any _ _ _ _ _).mono ?_
  rintro e W1 ⟨rfl, hb1⟩
  refine hK.out _ _ (hHeld.trans (hb1.mono hHeld.size)) (fun hHeld2 => ?_)
  clear hK K
  replace hHeld := hHeld2
  clear hHeld2
  clear hb1
  refine wpAnyH_ready (rs := [3]) (by kernel_rfl) (by simp) ?_
  refine AllReadyH.cons rfl (fun K hK => ?_) AllReadyH.nil
  go_simp
  refine (toSun_any hs ts Hh.out Ht.out _).mono ?_
  rintro e W2 ⟨rfl, hb2⟩
  refine hK.out _ _ (hHeld.trans (hb2.mono hHeld.size)) (fun hHeld2 => ?_)
  clear hK K
  replace hHeld := hHeld2
  clear hHeld2
  clear hb2
  refine wpAnyH_ready (rs := [7]) (by kernel_rfl) (by simp) ?_
  refine AllReadyH.cons rfl (fun K hK => ?_) AllReadyH.nil
  go_simp
  refine (HS.out _).mono ?_
  rintro e W3 ⟨rfl, hb3⟩
  refine hK.out _ _ (hHeld.trans (hb3.mono hHeld.size)) (fun hHeld2 => ?_)
  clear hK K
  replace hHeld := hHeld2
  clear hHeld2
  clear hb3
  refine take_op (i := 8) (d := 15) (v := ?_) rfl rfl (by kernel_rfl) (by kernel_rfl) (by kernel_rfl) (fun _ _ _ h => h) (Or.inl ⟨by rfl, ?hy8u21⟩) hHeld ?rest8u21
  case hy8u21 =>
    intro w' hS'
    go_simp
    try with_reducible rfl
  simp only [List.setIfInBounds_toArray, List.set_cons_zero, List.set_cons_succ]
  refine take_op (i := 9) (d := 24) (v := ?_) rfl rfl (by kernel_rfl) (by kernel_rfl) (by kernel_rfl) (fun _ _ _ h => h) (Or.inl ⟨by rfl, ?hy9u22⟩) hHeld ?rest9u22
  case hy9u22 =>
    intro w' hS'
    go_simp
    try with_reducible rfl
  simp only [List.setIfInBounds_toArray, List.set_cons_zero, List.set_cons_succ]
  refine take_op (i := 10) (d := 25) (v := ?_) rfl rfl (by kernel_rfl) (by kernel_rfl) (by kernel_rfl) (fun _ _ _ h => h) (Or.inl ⟨by rfl, ?hy10u23⟩) hHeld ?rest10u23
  case hy10u23 =>
    intro w' hS'
    go_simp
    try with_reducible rfl
  simp only [List.setIfInBounds_toArray, List.set_cons_zero, List.set_cons_succ]
  refine take_op (i := 11) (d := 11) (v := ?_) rfl rfl (by kernel_rfl) (by kernel_rfl) (by kernel_rfl) (fun _ _ _ h => h) (Or.inl ⟨by rfl, ?hy11u24⟩) hHeld ?rest11u24
  case hy11u24 =>
    intro w' hS'
    go_simp
    try with_reducible rfl
  simp only [List.setIfInBounds_toArray, List.set_cons_zero, List.set_cons_succ]
  refine take_op (i := 12) (d := 12) (v := ?_) rfl rfl (by kernel_rfl) (by kernel_rfl) (by kernel_rfl) (fun _ _ _ h => h) (Or.inl ⟨by rfl, ?hy12u25⟩) hHeld ?rest12u25
  case hy12u25 =>
    intro w' hS'
    go_simp
    try with_reducible rfl
  simp only [List.setIfInBounds_toArray, List.set_cons_zero, List.set_cons_succ]
  refine wpAnyH_done (by kernel_rfl) ?_ _
  replace H0 := Lib.hid (below_row hHeld H0.out)
  replace H1 := Lib.hid (below_row hHeld H1.out)
  replace HX := Lib.hid (errs_below HX.out hHeld)
  replace hb := hb.trans (hHeld.mono hb.size)
  clear hHeld
  go_upto_region 2 with (fail)
  refine wp_region_held_drew (S := (fun V => Below W3.heap.size W3 V)) (by kernel_rfl) ((Below.refl _ _).drew) (fun hHeld => ?_)
  refine take_op (i := 0) (d := 27) (v := .agg (awC o dr gp tl)) rfl rfl (by kernel_rfl) (by kernel_rfl) (by kernel_rfl) (fun _ _ _ h => h) (yields_row (by rfl) 24 (.tmp 5) (by rfl) w.heap.size 0 4 (by rfl) 24 (awC o dr gp tl) (0, 0) _ (fun _ h => below_row h H0.out) Tryd.underlying24 rfl info_awL (aw_fits _ _ _ _) (awC o dr gp tl) (aw_all _ _ _ _)) hHeld ?_
  simp only [List.setIfInBounds_toArray, List.set_cons_zero, List.set_cons_succ]
  refine take_op (i := 2) (d := 29) (v := .agg (sunC hs ts)) rfl rfl (by kernel_rfl) (by kernel_rfl) (by kernel_rfl) (fun _ _ _ h => h) (yields_row (by rfl) 28 (.tmp 6) (by rfl) b1 0 48 (by rfl) 28 (sunC hs ts) (0, 0) _ (fun _ h => below_row h H1.out) Tryd.underlying28 rfl info_sunL (sun_fits _ _ Hh.out Ht.out) (sunC hs ts) (sun_all _ _ Hh.out Ht.out)) hHeld ?_
  simp only [List.setIfInBounds_toArray, List.set_cons_zero, List.set_cons_succ]
  refine take_op (i := 4) (d := 31) (v := ?_) rfl rfl (by kernel_rfl) (by kernel_rfl) (by kernel_rfl) (fun _ _ _ h => h) (Or.inl ⟨by rfl, ?hy4u26⟩) hHeld ?rest4u26
  case hy4u26 =>
    intro w' hS'
    go_simp
    try with_reducible rfl
  simp only [List.setIfInBounds_toArray, List.set_cons_zero, List.set_cons_succ]
  refine take_op (i := 5) (d := 32) (v := ?_) rfl rfl (by kernel_rfl) (by kernel_rfl) (by kernel_rfl) (fun _ _ _ h => h) (Or.inl ⟨by rfl, ?hy5u27⟩) hHeld ?rest5u27
  case hy5u27 =>
    intro w' hS'
    go_simp
    try with_reducible rfl
  simp only [List.setIfInBounds_toArray, List.set_cons_zero, List.set_cons_succ]
  refine take_op (i := 6) (d := 33) (v := ?_) rfl rfl (by kernel_rfl) (by kernel_rfl) (by kernel_rfl) (fun _ _ _ h => h) (Or.inl ⟨by rfl, ?hy6u28⟩) hHeld ?rest6u28
  case hy6u28 =>
    intro w' hS'
    go_simp
    try with_reducible rfl
  simp only [List.setIfInBounds_toArray, List.set_cons_zero, List.set_cons_succ]
  refine wpAnyH_ready (rs := [1]) (by kernel_rfl) (by simp) ?_
  refine AllReadyH.cons rfl (fun K hK => ?_) AllReadyH.nil
  go_simp
  refine (toAwning_any _ _ _ _ _).mono ?_
  rintro e W4 ⟨rfl, hb4⟩
  refine hK.out _ _ (hHeld.trans (hb4.mono hHeld.size)) (fun hHeld2 => ?_)
  clear hK K
  replace hHeld := hHeld2
  clear hHeld2
  clear hb4
  refine wpAnyH_ready (rs := [3]) (by kernel_rfl) (by simp) ?_
  refine AllReadyH.cons rfl (fun K hK => ?_) AllReadyH.nil
  go_simp
  refine (toSun_any hs ts Hh.out Ht.out _).mono ?_
  rintro e W5 ⟨rfl, hb5⟩
  refine hK.out _ _ (hHeld.trans (hb5.mono hHeld.size)) (fun hHeld2 => ?_)
  clear hK K
  replace hHeld := hHeld2
  clear hHeld2
  clear hb5
  refine wpAnyH_ready (rs := [7]) (by kernel_rfl) (by simp) ?_
  refine AllReadyH.cons rfl (fun K hK => ?_) AllReadyH.nil
  go_simp
  refine (HI.out _ (errs_below HX.out hHeld)).mono ?_
  rintro e W6 ⟨rfl, hb6⟩
  refine hK.out _ _ (hHeld.trans (hb6.mono hHeld.size)) (fun hHeld2 => ?_)
  clear hK K
  replace hHeld := hHeld2
  clear hHeld2
  clear hb6
  refine take_op (i := 8) (d := 26) (v := ?_) rfl rfl (by kernel_rfl) (by kernel_rfl) (by kernel_rfl) (fun _ _ _ h => h) (Or.inl ⟨by rfl, ?hy8u29⟩) hHeld ?rest8u29
  case hy8u29 =>
    intro w' hS'
    go_simp
    try with_reducible rfl
  simp only [List.setIfInBounds_toArray, List.set_cons_zero, List.set_cons_succ]
  refine take_op (i := 9) (d := 35) (v := ?_) rfl rfl (by kernel_rfl) (by kernel_rfl) (by kernel_rfl) (fun _ _ _ h => h) (Or.inl ⟨by rfl, ?hy9u30⟩) hHeld ?rest9u30
  case hy9u30 =>
    intro w' hS'
    go_simp
    try with_reducible rfl
  simp only [List.setIfInBounds_toArray, List.set_cons_zero, List.set_cons_succ]
  refine take_op (i := 10) (d := 36) (v := ?_) rfl rfl (by kernel_rfl) (by kernel_rfl) (by kernel_rfl) (fun _ _ _ h => h) (Or.inl ⟨by rfl, ?hy10u31⟩) hHeld ?rest10u31
  case hy10u31 =>
    intro w' hS'
    go_simp
    try with_reducible rfl
  simp only [List.setIfInBounds_toArray, List.set_cons_zero, List.set_cons_succ]
  refine take_op (i := 11) (d := 13) (v := ?_) rfl rfl (by kernel_rfl) (by kernel_rfl) (by kernel_rfl) (fun _ _ _ h => h) (Or.inl ⟨by rfl, ?hy11u32⟩) hHeld ?rest11u32
  case hy11u32 =>
    intro w' hS'
    go_simp
    try with_reducible rfl
  simp only [List.setIfInBounds_toArray, List.set_cons_zero, List.set_cons_succ]
  refine take_op (i := 12) (d := 14) (v := ?_) rfl rfl (by kernel_rfl) (by kernel_rfl) (by kernel_rfl) (fun _ _ _ h => h) (Or.inl ⟨by rfl, ?hy12u33⟩) hHeld ?rest12u33
  case hy12u33 =>
    intro w' hS'
    go_simp
    try with_reducible rfl
  simp only [List.setIfInBounds_toArray, List.set_cons_zero, List.set_cons_succ]
  refine wpAnyH_done (by kernel_rfl) ?_ _
  replace H0 := Lib.hid (below_row hHeld H0.out)
  replace H1 := Lib.hid (below_row hHeld H1.out)
  replace HX := Lib.hid (errs_below HX.out hHeld)
  replace hb := hb.trans (hHeld.mono hb.size)
  clear hHeld
  clear H0 H1 HX HS HI
  go_wp2_with (go_at_call 8; refine (same_wide _ Hv0.out _).mono ?_; rintro e w7 ⟨rfl, rfl⟩)
  go_ret
  exact ⟨rfl, hb⟩

theorem lawOutFor_walk (o dr gp tl : Nat) (ww : AwWf o dr gp tl) (hs ts : List Int) (hh : hs.length = 24) (ht : ts.length = 24) (rb : ∀ x ∈ hs ++ ts, -32768 ≤ x ∧ x ≤ 32767) (hour : Int) (fc : Int) (le : Nat) (wl : (Lit.float .f32 le).wf = true) (w : World) {e0 e1 e2 e3 : Addr} (hE : ErrsAt w e0 e1 e2 e3) :
    Calls Tryd.prog 3 #[.agg (awC o dr gp tl), .agg (sunC hs ts), .int .i64 hour, .int .i64 fc, .float .f32 le] w fun e w' => e = .returned (.bool true) ∧ Below w.heap.size w w' := by
  cases a0 : inH hour with
  | false =>
    have hne : refN (okAw o dr gp tl && okB hs ts) false true ≠ 0 := by rw [Ne, refN_ok]; simp
    exact FnExactOutFor_core o dr gp tl hs ts hh ht hour fc le _ _ zero_fin e0 e1 e2 e3 (fun w => sofr_no o dr gp tl hs ts hh ht rb hour fc le _ (by rw [a0]; rfl) (codeE_ne hne) w) (fun w h => ofr_no0 o dr gp tl hs ts hh ht hour fc le a0 e0 e1 e2 e3 _ rfl (codeE_ne hne) w h) w hE
  | true =>
    cases a1 : inF fc with
    | false =>
      have hne : refN (okAw o dr gp tl && okB hs ts) false true ≠ 0 := by rw [Ne, refN_ok]; simp
      exact FnExactOutFor_core o dr gp tl hs ts hh ht hour fc le _ _ zero_fin e0 e1 e2 e3 (fun w => sofr_no o dr gp tl hs ts hh ht rb hour fc le _ (by rw [a0, a1]; rfl) (codeE_ne hne) w) (fun w h => ofr_no1 o dr gp tl hs ts hh ht hour fc le a0 a1 e0 e1 e2 e3 _ rfl (codeE_ne hne) w h) w hE
    | true =>
      by_cases hz : refN (okAw o dr gp tl && okB hs ts) (partB le) true = 0
      · obtain ⟨hv, a2, _⟩ := refN_ok.1 hz
        rw [Bool.and_eq_true] at hv
        obtain ⟨h1, h2⟩ := hv
        have aw := awok_of ww h1
        have k := hrok_of hh ht h2 (inH_bd a0).1 (inH_bd a0).2 a1
        have awO : ∀ x, x ≤ 1090519040 → AwOk x dr gp tl := fun x hx => ⟨.inl hx, aw.d, aw.g, aw.t0, aw.t1⟩
        have hf : fallOf hs ts hour fc = 0 ∨ (0 < atH hs hour ∧ atH hs hour ≤ 64 ∧ 975015322 ≤ fallOf hs ts hour fc ∧ fallOf hs ts hour fc ≤ 1065353216) := by
          by_cases x0 : 0 < atH hs hour
          · rcases fall_rng (atH hs hour) (atH ts hour - fc) x0 k.x1 with h | ⟨f0, f1⟩
            · exact .inl h
            · exact .inr ⟨x0, k.x1, f0, f1⟩
          · exact .inl (if_neg x0)
        have hl : le ≤ 1065353216 ∨ le = 2147483648 := betw_zero wl (by decide) a2
        exact FnExactOutFor_core o dr gp tl hs ts hh ht hour fc le _ _ (fin_of_lt (Nat.lt_of_le_of_lt (outB_le _) (by decide))) e0 e1 e2 e3 (fun w => sofr_yes awO hs ts hh ht rb hour fc le k (by rw [a0, a1, Bool.true_and, Bool.true_and]; exact hz) w) (fun w h => ofr_yes awO hs ts hh ht hour fc le k (eno_ends aw.d aw.g aw.t0 aw.t1 hf hl) h1 h2 a0 a1 a2 e0 e1 e2 e3 w h) w hE
      · exact FnExactOutFor_core o dr gp tl hs ts hh ht hour fc le _ _ zero_fin e0 e1 e2 e3 (fun w => sofr_no o dr gp tl hs ts hh ht rb hour fc le _ (by rw [a0, a1, Bool.true_and, Bool.true_and]) (codeE_ne hz) w) (fun w h => ofr_no2 o dr gp tl hs ts hh ht hour fc le _ a0 a1 rfl e0 e1 e2 e3 _ rfl (codeE_ne hz) w h) w hE

end Go.Proofs.YthpimcfmgefkkaaDoor
