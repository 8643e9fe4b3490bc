/-
  For every cord, valid or not, and every load: how long it is, is what the model says. No conditions.
-/
import Derived.Test.YteagbfobnjfhcabCordRun
namespace Go.Proofs.Yteagbfobnjfhcab
open Go.ChangeShapes Go.WideShapes Go.ChangeAt Go.RowKit Go.Deep Go.Joins

set_option maxRecDepth 100000 in
set_option maxHeartbeats 1000000 in
theorem implStretchedCord_yes (ln st : Nat) (sp : Int) (cw : CoWf ln st sp) (load : Nat) (hk : okCo ln st sp = true) (hp : partB load = true) (hw : (Lit.float .f32 load).wf = true) (w : World) :
    Calls Try.prog 18 #[.agg (cordC ln st sp), .float .f32 load] w fun e w' => e = .returned (.tuple #[.float .f32 (strB ln st load), .int .i64 0]) ∧ Below w.heap.size w w' := by
  obtain ⟨S0, S1⟩ := cowf_s cw
  have OK := cook_of cw hk
  have LP := betw_zero hw (by decide) hp
  have Hc : Hid (codeD (okCo ln st sp) true = 0) := by rw [hk]; rfl
  have Hp := Lib.hid hp
  have HC := Lib.hid (fun w => stretchedBy_any ln st sp OK load LP w)
  clear OK LP hk hp hw cw
  go_enter Try.func18, Try.ntmps18
  go_wp2
  refine wp_region_held_drew (S := (fun W => W.heap[w.heap.size]? = some (.cells (cordC ln st sp) 27 (0, 0)) ∧ Below w.heap.size w W)) (by kernel_rfl) ⟨heap_alloc_new _ _, ((Below.refl _ _).alloc (Nat.le_refl _) _).drew⟩ (fun hHeld => ?_)
  refine take_op (i := 0) (d := 7) (v := .agg (cordC ln st sp)) rfl rfl (by kernel_rfl) (by kernel_rfl) (by kernel_rfl) (fun _ _ _ h => h) (yields_row (by rfl) 27 (.tmp 2) (by rfl) w.heap.size 0 3 (by rfl) 27 (cordC ln st sp) (0, 0) _ (fun _ h => h.1) Try.underlying27 rfl info_cord (cord_fits _ _ _) (cordC ln st sp) (cord_all _ _ _)) hHeld ?_
  simp only [List.setIfInBounds_toArray, List.set_cons_zero, List.set_cons_succ]
  refine take_op (i := 1) (d := 8) (v := ?_) rfl rfl (by kernel_rfl) (by kernel_rfl) (by kernel_rfl) (fun _ _ _ h => h) (Or.inl ⟨by rfl, ?hy1u35⟩) hHeld ?rest1u35
  case hy1u35 =>
    intro w' hS'
    go_simp
    try with_reducible rfl
  simp only [List.setIfInBounds_toArray, List.set_cons_zero, List.set_cons_succ]
  refine wpAnyH_ready (rs := [2]) (by kernel_rfl) (by simp) ?_
  refine AllReadyH.cons rfl (fun K hK => ?_) AllReadyH.nil
  go_simp
  refine (isPart_is load _ Hp.out _).mono ?_
  rintro e w' ⟨rfl, rfl⟩
  refine hK.out _ _ (hHeld) (fun hHeld2 => ?_)
  clear hK K
  replace hHeld := hHeld2
  clear hHeld2
  refine wpAnyH_ready (rs := [3]) (by kernel_rfl) (by simp) ?_
  refine AllReadyH.cons rfl (fun K hK => ?_) AllReadyH.nil
  go_simp
  refine (checkCord_is ln st sp true 0 Hc.out _).mono ?_
  rintro e W1 ⟨rfl, hb1⟩
  refine hK.out _ _ (⟨below_row hb1 hHeld.1, hHeld.2.trans (hb1.mono hHeld.2.size)⟩) (fun hHeld2 => ?_)
  clear hK K
  replace hHeld := hHeld2
  clear hHeld2
  refine take_op (i := 4) (d := 6) (v := ?_) rfl rfl (by kernel_rfl) (by kernel_rfl) (by kernel_rfl) (fun _ _ _ h => h) (Or.inl ⟨by rfl, ?hy4u36⟩) hHeld ?rest4u36
  case hy4u36 =>
    intro w' hS'
    go_simp
    try with_reducible rfl
  simp only [List.setIfInBounds_toArray, List.set_cons_zero, List.set_cons_succ]
  refine wpAnyH_done (by kernel_rfl) ?_ _
  obtain ⟨h0, hb⟩ := hHeld
  have H0 := Lib.hid h0
  clear h0
  go_wp2_with (first | (refine wpList_load_part rfl 27 _ rfl w.heap.size 0 3 rfl 27 (cordC ln st sp) (0, 0) _ H0.out Try.underlying27 rfl info_cord (cord_fits _ _ _) _ (cord_all _ _ _) ?_) | (go_at_call 64; refine (HC.out _).mono ?_; rintro e W1 ⟨rfl, hb1⟩; replace H0 := Lib.hid (below_row hb1 H0.out); replace hb := hb.trans (hb1.mono hb.size); clear hb1))
  go_ret2
  exact ⟨rfl, hb⟩

set_option maxRecDepth 100000 in
set_option maxHeartbeats 1000000 in
theorem implStretchedCord_no (ln st : Nat) (sp : Int) (cw : CoWf ln st sp) (load : Nat) (hk : ¬ (okCo ln st sp = true ∧ partB load = true)) (w : World) :
    Calls Try.prog 18 #[.agg (cordC ln st sp), .float .f32 load] w fun e w' => e = .returned (.tuple #[.float .f32 0, .int .i64 (codeD (okCo ln st sp) (partB load))]) ∧ Below w.heap.size w w' := by
  obtain ⟨S0, S1⟩ := cowf_s cw
  have hne := codeD_ne hk
  generalize hp : partB load = fine at *
  generalize hc : codeD (okCo ln st sp) fine = c at *
  have Hc := Lib.hid hc
  have Hp := Lib.hid hp
  have hne' : (c != 0) = true := bne_iff_ne.2 hne
  clear hk hc hp hne cw
  go_enter Try.func18, Try.ntmps18
  go_wp2
  refine wp_region_held_drew (S := (fun W => W.heap[w.heap.size]? = some (.cells (cordC ln st sp) 27 (0, 0)) ∧ Below w.heap.size w W)) (by kernel_rfl) ⟨heap_alloc_new _ _, ((Below.refl _ _).alloc (Nat.le_refl _) _).drew⟩ (fun hHeld => ?_)
  refine take_op (i := 0) (d := 7) (v := .agg (cordC ln st sp)) rfl rfl (by kernel_rfl) (by kernel_rfl) (by kernel_rfl) (fun _ _ _ h => h) (yields_row (by rfl) 27 (.tmp 2) (by rfl) w.heap.size 0 3 (by rfl) 27 (cordC ln st sp) (0, 0) _ (fun _ h => h.1) Try.underlying27 rfl info_cord (cord_fits _ _ _) (cordC ln st sp) (cord_all _ _ _)) hHeld ?_
  simp only [List.setIfInBounds_toArray, List.set_cons_zero, List.set_cons_succ]
  refine take_op (i := 1) (d := 8) (v := ?_) rfl rfl (by kernel_rfl) (by kernel_rfl) (by kernel_rfl) (fun _ _ _ h => h) (Or.inl ⟨by rfl, ?hy1u37⟩) hHeld ?rest1u37
  case hy1u37 =>
    intro w' hS'
    go_simp
    try with_reducible rfl
  simp only [List.setIfInBounds_toArray, List.set_cons_zero, List.set_cons_succ]
  refine wpAnyH_ready (rs := [2]) (by kernel_rfl) (by simp) ?_
  refine AllReadyH.cons rfl (fun K hK => ?_) AllReadyH.nil
  go_simp
  refine (isPart_is load _ Hp.out _).mono ?_
  rintro e w' ⟨rfl, rfl⟩
  refine hK.out _ _ (hHeld) (fun hHeld2 => ?_)
  clear hK K
  replace hHeld := hHeld2
  clear hHeld2
  refine wpAnyH_ready (rs := [3]) (by kernel_rfl) (by simp) ?_
  refine AllReadyH.cons rfl (fun K hK => ?_) AllReadyH.nil
  go_simp
  refine (checkCord_is ln st sp fine c Hc.out _).mono ?_
  rintro e W1 ⟨rfl, hb1⟩
  refine hK.out _ _ (⟨below_row hb1 hHeld.1, hHeld.2.trans (hb1.mono hHeld.2.size)⟩) (fun hHeld2 => ?_)
  clear hK K
  replace hHeld := hHeld2
  clear hHeld2
  refine take_op (i := 4) (d := 6) (v := ?_) rfl rfl (by kernel_rfl) (by kernel_rfl) (by kernel_rfl) (fun _ _ _ h => h) (Or.inl ⟨by rfl, ?hy4u38⟩) hHeld ?rest4u38
  case hy4u38 =>
    intro w' hS'
    go_simp
    try with_reducible rfl
  simp only [List.setIfInBounds_toArray, List.set_cons_zero, List.set_cons_succ]
  refine wpAnyH_done (by kernel_rfl) ?_ _
  obtain ⟨h0, hb⟩ := hHeld
  clear h0
  go_wp2
  go_ret2
  exact ⟨rfl, hb⟩

set_option maxRecDepth 100000 in
set_option maxHeartbeats 1000000 in
theorem specStretchedCord_yes (ln st : Nat) (sp : Int) (cw : CoWf ln st sp) (load : Nat) (hk : okCo ln st sp = true) (hp : partB load = true) (hw : (Lit.float .f32 load).wf = true) (w : World) :
    Calls Try.prog 17 #[.agg (cordC ln st sp), .float .f32 load] w fun e w' => e = .returned (.tuple #[.float .f32 (strB ln st load), .int .i64 0]) ∧ Below w.heap.size w w' := by
  obtain ⟨S0, S1⟩ := cowf_s cw
  have OK := cook_of cw hk
  have LP := betw_zero hw (by decide) hp
  have Hc : Hid (codeD (okCo ln st sp) true = 0) := by rw [hk]; rfl
  have Hp := Lib.hid hp
  have HC := Lib.hid (fun W hg => l02Stretched_any ln st sp OK load LP w.heap.size 27 (0, 0) W hg)
  clear OK LP hk hp hw cw
  go_enter Try.func17, Try.ntmps17
  go_wp2_with (first | (go_at_call 61; refine (l01Part_is load _ Hp.out _).mono ?_; rintro e w' ⟨rfl, rfl⟩) | (go_at_call 60; refine (l02Loaded_is ln st sp S0 S1 w.heap.size _ _ true 0 Hc.out _ (heap_alloc_new _ _)).mono ?_; rintro e w' ⟨rfl, rfl⟩) | (go_at_call 62; refine (HC.out _ (heap_alloc_new _ _)).mono ?_; rintro e W1 ⟨rfl, hb1⟩))
  go_ret2
  exact ⟨rfl, (((Below.refl _ _).alloc (Nat.le_refl _) _).trans (hb1.mono (by simp)))⟩

set_option maxRecDepth 100000 in
set_option maxHeartbeats 1000000 in
theorem specStretchedCord_no (ln st : Nat) (sp : Int) (cw : CoWf ln st sp) (load : Nat) (hk : ¬ (okCo ln st sp = true ∧ partB load = true)) (w : World) :
    Calls Try.prog 17 #[.agg (cordC ln st sp), .float .f32 load] w fun e w' => e = .returned (.tuple #[.float .f32 0, .int .i64 (codeD (okCo ln st sp) (partB load))]) ∧ Below w.heap.size w w' := by
  obtain ⟨S0, S1⟩ := cowf_s cw
  have hne := codeD_ne hk
  generalize hp : partB load = fine at *
  generalize hc : codeD (okCo ln st sp) fine = c at *
  have Hc := Lib.hid hc
  have Hp := Lib.hid hp
  have hne' : (c != 0) = true := bne_iff_ne.2 hne
  clear hk hc hp hne cw
  go_enter Try.func17, Try.ntmps17
  go_wp2_with (first | (go_at_call 61; refine (l01Part_is load _ Hp.out _).mono ?_; rintro e w' ⟨rfl, rfl⟩) | (go_at_call 60; refine (l02Loaded_is ln st sp S0 S1 w.heap.size _ _ fine c Hc.out _ (heap_alloc_new _ _)).mono ?_; rintro e w' ⟨rfl, rfl⟩))
  go_ret2
  exact ⟨rfl, (Below.refl _ _).alloc (Nat.le_refl _) _⟩

set_option maxRecDepth 100000 in
set_option maxHeartbeats 1000000 in
theorem FnExactStretchedCord_core (ln st : Nat) (sp : Int) (load : Nat) (v0 : Nat) (v1 : Int) (hv0 : fin32 v0 = true) 
    (hspec : ∀ w, Calls Try.prog 17 #[.agg (cordC ln st sp), .float .f32 load] w fun e w' => e = .returned (.tuple #[.float .f32 v0, .int .i64 v1]) ∧ Below w.heap.size w w')
    (himpl : ∀ w, Calls Try.prog 18 #[.agg (cordC ln st sp), .float .f32 load] w fun e w' => e = .returned (.tuple #[.float .f32 v0, .int .i64 v1]) ∧ Below w.heap.size w w') (w : World) :
    Calls Try.prog 4 #[.agg (cordC ln st sp), .float .f32 load] w fun e w' => e = .returned (.bool true) ∧ Below w.heap.size w w' := by
  have HS := Lib.hid hspec
  have HI := Lib.hid himpl
  clear hspec himpl
  have hw0 := run_wide _ hv0
  have Hv0 := Lib.hid hv0
  clear hv0
  go_enter Try.func4, Try.ntmps4
  go_upto_region 1 with (fail)
  refine abs_world (fun W => Below w.heap.size w W ∧ W.heap[w.heap.size]? = some (.cells (cordC ln st sp) 25 (0, 0))) ⟨(Below.refl _ _).alloc (Nat.le_refl _) _, heap_alloc_new _ _⟩ ?_
  rintro W ⟨hb, h0⟩
  have H0 := Lib.hid h0
  clear h0
  go_wp2_with (first | (refine wpList_load_part rfl 25 _ rfl w.heap.size 0 3 rfl 25 (cordC ln st sp) (0, 0) _ H0.out Try.underlying25 rfl info_cordL (cord_fits _ _ _) _ (cord_all _ _ _) ?_) | (go_at_call 15; refine (toCord_any _ _ _ _).mono ?_; rintro e W1 ⟨rfl, hb1⟩; replace H0 := Lib.hid (below_row hb1 H0.out); replace hb := hb.trans (hb1.mono hb.size); clear hb1) | (go_at_call 17; refine (HS.out _).mono ?_; rintro e W1 ⟨rfl, hb1⟩; replace H0 := Lib.hid (below_row hb1 H0.out); replace hb := hb.trans (hb1.mono hb.size); clear hb1) | (go_at_call 18; refine (HI.out _).mono ?_; rintro e W1 ⟨rfl, hb1⟩; replace H0 := Lib.hid (below_row hb1 H0.out); replace hb := hb.trans (hb1.mono hb.size); clear hb1) | (go_at_call 19; refine (same_wide _ Hv0.out _).mono ?_; rintro e w1 ⟨rfl, rfl⟩))
  go_ret
  exact ⟨rfl, hb⟩

theorem lawStretchedCord_walk (ln st : Nat) (sp : Int) (cw : CoWf ln st sp) (load : Nat) (hw : (Lit.float .f32 load).wf = true) (w : World) :
    Calls Try.prog 4 #[.agg (cordC ln st sp), .float .f32 load] w fun e w' => e = .returned (.bool true) ∧ Below w.heap.size w w' := by
  by_cases hk : okCo ln st sp = true ∧ partB load = true
  · have ok := cook_of cw hk.1
    exact FnExactStretchedCord_core ln st sp load _ _ (fin_of_lt (Nat.lt_of_le_of_lt (str_facts ok.1 ok.2.1 ok.2.2.1 (betw_zero hw (by decide) hk.2)).2.2 (by decide))) (fun w => specStretchedCord_yes ln st sp cw load hk.1 hk.2 hw w) (fun w => implStretchedCord_yes ln st sp cw load hk.1 hk.2 hw w) w
  · exact FnExactStretchedCord_core ln st sp load _ _ zero_fin (fun w => specStretchedCord_no ln st sp cw load hk w) (fun w => implStretchedCord_no ln st sp cw load hk w) w

set_option maxRecDepth 100000 in
theorem FnExactStretchedCord_holds : Rows.FnExactStretchedCordSaid :=
  OpenClaim.holds_of_wide 4 Try.f4 rfl rfl rfl rfl rfl rfl rfl ⟨rfl, rfl, rfl, rfl, rfl⟩ rfl rfl rfl rfl rfl (by kernel_rfl) Try.func4 (by kernel_rfl)
    (of_decide_eq_true (by kernel_rfl)) (by unfold Func.isWrapper; first | (rw [if_pos (by decide +kernel)]; kernel_rfl) | (rw [if_neg (by decide +kernel)]; exact ⟨rfl, rfl⟩))
    (fun os started H enc _ => law_lifted 4 Try.f4 Rows.fnExactStretchedCordSpec Rows.fnExactStretchedCordRow.domain os started H enc (by kernel_rfl) Try.func4 rfl rfl
      (by rw [Try.params4]; intro t ht; simp only [List.mem_cons, List.not_mem_nil, or_false] at ht; rcases ht with rfl | rfl <;> exact ⟨by kernel_rfl, of_decide_eq_true (by kernel_rfl)⟩)
      (fun ds hl => by
        match ds, hl with
        | [d0, d1], _ => rfl)
      (ChangeSpec.witness6 (enc := enc) (C := Try.checked) false ⟨#[], #[.agg #[.float .f32 0, .float .f32 0, .int .i8 0], .float .f32 0], []⟩ 8 (by kernel_rfl) (by kernel_rfl) (by kernel_rfl) (by kernel_rfl))
      (fun W base args ds p hval hA => by
        rw [Try.params4] at hA hval
        obtain ⟨v0, vs0, d0, ds0, p0, q0, hargs, rfl, rfl, h0, r0⟩ := trodAll_cons hA
        obtain ⟨v1, vs1, d1, ds1, p1, q1, rfl, rfl, rfl, h1, r1⟩ := trodAll_cons r0
        obtain ⟨rfl, rfl, rfl⟩ := trodAll_nil r1
        obtain rfl : args = #[v0, v1] := by cases args; simp_all
        obtain ⟨ln0, st0, sp0, cw0, rfl⟩ := open_cord (hval 0 25 v0 rfl rfl) h0
        obtain ⟨a1, rfl, rfl, rfl, w1⟩ := open_float Try.underlying22 (hval 1 22 v1 rfl rfl) h1
        exact lawStretchedCord_walk ln0 st0 sp0 cw0 a1 w1 W))
#print axioms FnExactStretchedCord_holds

end Go.Proofs.Yteagbfobnjfhcab
