/-
  For every control, blind, state and tick: the light inside is what the model says. No conditions.
-/
import Derived.Test.YtelgcggcmjdhjaaCoI
namespace Go.Proofs.Ytelgcggcmjdhjaa
open Go.ChangeShapes Go.WideShapes Go.ChangeAt Go.RowKit Go.Deep Go.Joins

set_option maxRecDepth 100000 in
set_option maxHeartbeats 1000000 in
theorem FnExactInsideAt_core (alo ahi awi : Nat) (ast ade aca : Int) (bn : Int) (bw bg : Nat) (bt : Int) (bs : Nat) (cti cwt csm : Int) (dlg dgu : Nat) (dhg : Int) (v0 : Nat) (v1 : Int) (hv0 : fin32 v0 = true) 
    (hspec : ∀ w, Calls Try.prog 26 #[.agg (ctC alo ahi awi ast ade aca), .agg (blindC bn bw bg bt bs), .agg (saC cti cwt csm), .agg (tkC dlg dgu dhg)] w fun e w' => e = .returned (.tuple #[.float .f32 v0, .int .i64 v1]) ∧ Below w.heap.size w w')
    (himpl : ∀ w, Calls Try.prog 28 #[.agg (ctC alo ahi awi ast ade aca), .agg (blindC bn bw bg bt bs), .agg (saC cti cwt csm), .agg (tkC dlg dgu dhg)] w fun e w' => e = .returned (.tuple #[.float .f32 v0, .int .i64 v1]) ∧ Below w.heap.size w w') (w : World) :
    Calls Try.prog 7 #[.agg (ctC alo ahi awi ast ade aca), .agg (blindC bn bw bg bt bs), .agg (saC cti cwt csm), .agg (tkC dlg dgu dhg)] w fun e w' => e = .returned (.bool true) ∧ Below w.heap.size w w' := by
  have HS := Lib.hid hspec
  have HI := Lib.hid himpl
  clear hspec himpl
  have hw0 := run_wide _ hv0
  have Hv0 := Lib.hid hv0
  clear hv0
  go_enter Try.func7, Try.ntmps7
  go_upto_region 1 with (fail)
  refine abs_world (fun W => W.heap[w.heap.size]? = some (.cells (ctC alo ahi awi ast ade aca) 25 (0, 0)) ∧ W.heap[w.heap.size + 1]? = some (.cells (blindC bn bw bg bt bs) 46 (0, 0)) ∧ W.heap[w.heap.size + 1 + 1]? = some (.cells (saC cti cwt csm) 32 (0, 0)) ∧ W.heap[w.heap.size + 1 + 1 + 1]? = some (.cells (tkC dlg dgu dhg) 38 (0, 0)) ∧ Below w.heap.size w W) (box4 w (.cells (ctC alo ahi awi ast ade aca) 25) (.cells (blindC bn bw bg bt bs) 46) (.cells (saC cti cwt csm) 32) (.cells (tkC dlg dgu dhg) 38)) ?_
  rintro W ⟨h0, h1, h2, h3, hb⟩
  generalize w.heap.size + 1 + 1 + 1 = b3 at *
  generalize w.heap.size + 1 + 1 = b2 at *
  generalize w.heap.size + 1 = b1 at *
  have H0 := Lib.hid h0
  have H1 := Lib.hid h1
  have H2 := Lib.hid h2
  have H3 := Lib.hid h3
  clear h0 h1 h2 h3
  refine wp_region_held_drew (S := (fun V => Below W.heap.size W V)) (by kernel_rfl) (Below.refl _ _).drew (fun hHeld => ?_)
  refine take_op (i := 0) (d := 14) (v := .agg (ctC alo ahi awi ast ade aca)) rfl rfl (by kernel_rfl) (by kernel_rfl) (by kernel_rfl) (fun _ _ _ h => h) (yields_row (by rfl) 25 (.tmp 4) (by rfl) w.heap.size 0 6 (by rfl) 25 (ctC alo ahi awi ast ade aca) (0, 0) _ (fun _ h => below_row h H0.out) Try.underlying25 rfl info_ctL (ct_fits _ _ _ _ _ _) (ctC alo ahi awi ast ade aca) (ct_all _ _ _ _ _ _)) hHeld ?_
  simp only [List.setIfInBounds_toArray, List.set_cons_zero, List.set_cons_succ]
  refine take_op (i := 2) (d := 16) (v := .agg (blindC bn bw bg bt bs)) rfl rfl (by kernel_rfl) (by kernel_rfl) (by kernel_rfl) (fun _ _ _ h => h) (yields_row (by rfl) 46 (.tmp 5) (by rfl) b1 0 5 (by rfl) 46 (blindC bn bw bg bt bs) (0, 0) _ (fun _ h => below_row h H1.out) Try.underlying46 rfl info_blindL (blind_fits _ _ _ _ _) (blindC bn bw bg bt bs) (blind_all _ _ _ _ _)) hHeld ?_
  simp only [List.setIfInBounds_toArray, List.set_cons_zero, List.set_cons_succ]
  refine take_op (i := 4) (d := 18) (v := .agg (saC cti cwt csm)) rfl rfl (by kernel_rfl) (by kernel_rfl) (by kernel_rfl) (fun _ _ _ h => h) (yields_row (by rfl) 32 (.tmp 6) (by rfl) b2 0 3 (by rfl) 32 (saC cti cwt csm) (0, 0) _ (fun _ h => below_row h H2.out) Try.underlying32 rfl info_saL (sa_fits _ _ _) (saC cti cwt csm) (sa_all _ _ _)) hHeld ?_
  simp only [List.setIfInBounds_toArray, List.set_cons_zero, List.set_cons_succ]
  refine take_op (i := 6) (d := 20) (v := .agg (tkC dlg dgu dhg)) rfl rfl (by kernel_rfl) (by kernel_rfl) (by kernel_rfl) (fun _ _ _ h => h) (yields_row (by rfl) 38 (.tmp 7) (by rfl) b3 0 3 (by rfl) 38 (tkC dlg dgu dhg) (0, 0) _ (fun _ h => below_row h H3.out) Try.underlying38 rfl info_tkL (tk_fits _ _ _) (tkC dlg dgu dhg) (tk_all _ _ _)) hHeld ?_
  simp only [List.setIfInBounds_toArray, List.set_cons_zero, List.set_cons_succ]
  refine wpAnyH_ready (rs := [1]) (by kernel_rfl) (by simp) ?_
  refine AllReadyH.cons rfl (fun K hK => ?_) AllReadyH.nil
  go_simp
  refine (toControl_any _ _ _ _ _ _ _).mono ?_
  rintro e W1 ⟨rfl, hb1⟩
  refine hK.out _ _ (hHeld.trans (hb1.mono hHeld.size)) (fun hHeld2 => ?_)
  clear hK K
  replace hHeld := hHeld2
  clear hHeld2
  clear hb1
  refine wpAnyH_ready (rs := [3]) (by kernel_rfl) (by simp) ?_
  refine AllReadyH.cons rfl (fun K hK => ?_) AllReadyH.nil
  go_simp
  refine (toBlind_any _ _ _ _ _ _).mono ?_
  rintro e W2 ⟨rfl, hb2⟩
  refine hK.out _ _ (hHeld.trans (hb2.mono hHeld.size)) (fun hHeld2 => ?_)
  clear hK K
  replace hHeld := hHeld2
  clear hHeld2
  clear hb2
  refine wpAnyH_ready (rs := [5]) (by kernel_rfl) (by simp) ?_
  refine AllReadyH.cons rfl (fun K hK => ?_) AllReadyH.nil
  go_simp
  refine (toState_any _ _ _ _).mono ?_
  rintro e W3 ⟨rfl, hb3⟩
  refine hK.out _ _ (hHeld.trans (hb3.mono hHeld.size)) (fun hHeld2 => ?_)
  clear hK K
  replace hHeld := hHeld2
  clear hHeld2
  clear hb3
  refine wpAnyH_ready (rs := [7]) (by kernel_rfl) (by simp) ?_
  refine AllReadyH.cons rfl (fun K hK => ?_) AllReadyH.nil
  go_simp
  refine (toTick_any _ _ _ _).mono ?_
  rintro e W4 ⟨rfl, hb4⟩
  refine hK.out _ _ (hHeld.trans (hb4.mono hHeld.size)) (fun hHeld2 => ?_)
  clear hK K
  replace hHeld := hHeld2
  clear hHeld2
  clear hb4
  refine wpAnyH_ready (rs := [8]) (by kernel_rfl) (by simp) ?_
  refine AllReadyH.cons rfl (fun K hK => ?_) AllReadyH.nil
  go_simp
  refine (HS.out _).mono ?_
  rintro e W5 ⟨rfl, hb5⟩
  refine hK.out _ _ (hHeld.trans (hb5.mono hHeld.size)) (fun hHeld2 => ?_)
  clear hK K
  replace hHeld := hHeld2
  clear hHeld2
  clear hb5
  refine take_op (i := 9) (d := 13) (v := ?_) rfl rfl (by kernel_rfl) (by kernel_rfl) (by kernel_rfl) (fun _ _ _ h => h) (Or.inl ⟨by rfl, ?hy9u28⟩) hHeld ?rest9u28
  case hy9u28 =>
    intro w' hS'
    go_simp
    try with_reducible rfl
  simp only [List.setIfInBounds_toArray, List.set_cons_zero, List.set_cons_succ]
  refine take_op (i := 10) (d := 23) (v := ?_) rfl rfl (by kernel_rfl) (by kernel_rfl) (by kernel_rfl) (fun _ _ _ h => h) (Or.inl ⟨by rfl, ?hy10u29⟩) hHeld ?rest10u29
  case hy10u29 =>
    intro w' hS'
    go_simp
    try with_reducible rfl
  simp only [List.setIfInBounds_toArray, List.set_cons_zero, List.set_cons_succ]
  refine take_op (i := 11) (d := 24) (v := ?_) rfl rfl (by kernel_rfl) (by kernel_rfl) (by kernel_rfl) (fun _ _ _ h => h) (Or.inl ⟨by rfl, ?hy11u30⟩) hHeld ?rest11u30
  case hy11u30 =>
    intro w' hS'
    go_simp
    try with_reducible rfl
  simp only [List.setIfInBounds_toArray, List.set_cons_zero, List.set_cons_succ]
  refine take_op (i := 12) (d := 9) (v := ?_) rfl rfl (by kernel_rfl) (by kernel_rfl) (by kernel_rfl) (fun _ _ _ h => h) (Or.inl ⟨by rfl, ?hy12u31⟩) hHeld ?rest12u31
  case hy12u31 =>
    intro w' hS'
    go_simp
    try with_reducible rfl
  simp only [List.setIfInBounds_toArray, List.set_cons_zero, List.set_cons_succ]
  refine take_op (i := 13) (d := 10) (v := ?_) rfl rfl (by kernel_rfl) (by kernel_rfl) (by kernel_rfl) (fun _ _ _ h => h) (Or.inl ⟨by rfl, ?hy13u32⟩) hHeld ?rest13u32
  case hy13u32 =>
    intro w' hS'
    go_simp
    try with_reducible rfl
  simp only [List.setIfInBounds_toArray, List.set_cons_zero, List.set_cons_succ]
  refine wpAnyH_done (by kernel_rfl) ?_ _
  replace H0 := Lib.hid (below_row hHeld H0.out)
  replace H1 := Lib.hid (below_row hHeld H1.out)
  replace H2 := Lib.hid (below_row hHeld H2.out)
  replace H3 := Lib.hid (below_row hHeld H3.out)
  replace hb := hb.trans (hHeld.mono hb.size)
  clear hHeld
  go_upto_region 2 with (fail)
  refine wp_region_held_drew (S := (fun V => Below W5.heap.size W5 V)) (by kernel_rfl) (Below.refl _ _).drew (fun hHeld => ?_)
  refine take_op (i := 0) (d := 26) (v := .agg (ctC alo ahi awi ast ade aca)) rfl rfl (by kernel_rfl) (by kernel_rfl) (by kernel_rfl) (fun _ _ _ h => h) (yields_row (by rfl) 25 (.tmp 4) (by rfl) w.heap.size 0 6 (by rfl) 25 (ctC alo ahi awi ast ade aca) (0, 0) _ (fun _ h => below_row h H0.out) Try.underlying25 rfl info_ctL (ct_fits _ _ _ _ _ _) (ctC alo ahi awi ast ade aca) (ct_all _ _ _ _ _ _)) hHeld ?_
  simp only [List.setIfInBounds_toArray, List.set_cons_zero, List.set_cons_succ]
  refine take_op (i := 2) (d := 28) (v := .agg (blindC bn bw bg bt bs)) rfl rfl (by kernel_rfl) (by kernel_rfl) (by kernel_rfl) (fun _ _ _ h => h) (yields_row (by rfl) 46 (.tmp 5) (by rfl) b1 0 5 (by rfl) 46 (blindC bn bw bg bt bs) (0, 0) _ (fun _ h => below_row h H1.out) Try.underlying46 rfl info_blindL (blind_fits _ _ _ _ _) (blindC bn bw bg bt bs) (blind_all _ _ _ _ _)) hHeld ?_
  simp only [List.setIfInBounds_toArray, List.set_cons_zero, List.set_cons_succ]
  refine take_op (i := 4) (d := 30) (v := .agg (saC cti cwt csm)) rfl rfl (by kernel_rfl) (by kernel_rfl) (by kernel_rfl) (fun _ _ _ h => h) (yields_row (by rfl) 32 (.tmp 6) (by rfl) b2 0 3 (by rfl) 32 (saC cti cwt csm) (0, 0) _ (fun _ h => below_row h H2.out) Try.underlying32 rfl info_saL (sa_fits _ _ _) (saC cti cwt csm) (sa_all _ _ _)) hHeld ?_
  simp only [List.setIfInBounds_toArray, List.set_cons_zero, List.set_cons_succ]
  refine take_op (i := 6) (d := 32) (v := .agg (tkC dlg dgu dhg)) rfl rfl (by kernel_rfl) (by kernel_rfl) (by kernel_rfl) (fun _ _ _ h => h) (yields_row (by rfl) 38 (.tmp 7) (by rfl) b3 0 3 (by rfl) 38 (tkC dlg dgu dhg) (0, 0) _ (fun _ h => below_row h H3.out) Try.underlying38 rfl info_tkL (tk_fits _ _ _) (tkC dlg dgu dhg) (tk_all _ _ _)) hHeld ?_
  simp only [List.setIfInBounds_toArray, List.set_cons_zero, List.set_cons_succ]
  refine wpAnyH_ready (rs := [1]) (by kernel_rfl) (by simp) ?_
  refine AllReadyH.cons rfl (fun K hK => ?_) AllReadyH.nil
  go_simp
  refine (toControl_any _ _ _ _ _ _ _).mono ?_
  rintro e W6 ⟨rfl, hb6⟩
  refine hK.out _ _ (hHeld.trans (hb6.mono hHeld.size)) (fun hHeld2 => ?_)
  clear hK K
  replace hHeld := hHeld2
  clear hHeld2
  clear hb6
  refine wpAnyH_ready (rs := [3]) (by kernel_rfl) (by simp) ?_
  refine AllReadyH.cons rfl (fun K hK => ?_) AllReadyH.nil
  go_simp
  refine (toBlind_any _ _ _ _ _ _).mono ?_
  rintro e W7 ⟨rfl, hb7⟩
  refine hK.out _ _ (hHeld.trans (hb7.mono hHeld.size)) (fun hHeld2 => ?_)
  clear hK K
  replace hHeld := hHeld2
  clear hHeld2
  clear hb7
  refine wpAnyH_ready (rs := [5]) (by kernel_rfl) (by simp) ?_
  refine AllReadyH.cons rfl (fun K hK => ?_) AllReadyH.nil
  go_simp
  refine (toState_any _ _ _ _).mono ?_
  rintro e W8 ⟨rfl, hb8⟩
  refine hK.out _ _ (hHeld.trans (hb8.mono hHeld.size)) (fun hHeld2 => ?_)
  clear hK K
  replace hHeld := hHeld2
  clear hHeld2
  clear hb8
  refine wpAnyH_ready (rs := [7]) (by kernel_rfl) (by simp) ?_
  refine AllReadyH.cons rfl (fun K hK => ?_) AllReadyH.nil
  go_simp
  refine (toTick_any _ _ _ _).mono ?_
  rintro e W9 ⟨rfl, hb9⟩
  refine hK.out _ _ (hHeld.trans (hb9.mono hHeld.size)) (fun hHeld2 => ?_)
  clear hK K
  replace hHeld := hHeld2
  clear hHeld2
  clear hb9
  refine wpAnyH_ready (rs := [8]) (by kernel_rfl) (by simp) ?_
  refine AllReadyH.cons rfl (fun K hK => ?_) AllReadyH.nil
  go_simp
  refine (HI.out _).mono ?_
  rintro e W10 ⟨rfl, hb10⟩
  refine hK.out _ _ (hHeld.trans (hb10.mono hHeld.size)) (fun hHeld2 => ?_)
  clear hK K
  replace hHeld := hHeld2
  clear hHeld2
  clear hb10
  refine take_op (i := 9) (d := 25) (v := ?_) rfl rfl (by kernel_rfl) (by kernel_rfl) (by kernel_rfl) (fun _ _ _ h => h) (Or.inl ⟨by rfl, ?hy9u33⟩) hHeld ?rest9u33
  case hy9u33 =>
    intro w' hS'
    go_simp
    try with_reducible rfl
  simp only [List.setIfInBounds_toArray, List.set_cons_zero, List.set_cons_succ]
  refine take_op (i := 10) (d := 35) (v := ?_) rfl rfl (by kernel_rfl) (by kernel_rfl) (by kernel_rfl) (fun _ _ _ h => h) (Or.inl ⟨by rfl, ?hy10u34⟩) hHeld ?rest10u34
  case hy10u34 =>
    intro w' hS'
    go_simp
    try with_reducible rfl
  simp only [List.setIfInBounds_toArray, List.set_cons_zero, List.set_cons_succ]
  refine take_op (i := 11) (d := 36) (v := ?_) rfl rfl (by kernel_rfl) (by kernel_rfl) (by kernel_rfl) (fun _ _ _ h => h) (Or.inl ⟨by rfl, ?hy11u35⟩) hHeld ?rest11u35
  case hy11u35 =>
    intro w' hS'
    go_simp
    try with_reducible rfl
  simp only [List.setIfInBounds_toArray, List.set_cons_zero, List.set_cons_succ]
  refine take_op (i := 12) (d := 11) (v := ?_) rfl rfl (by kernel_rfl) (by kernel_rfl) (by kernel_rfl) (fun _ _ _ h => h) (Or.inl ⟨by rfl, ?hy12u36⟩) hHeld ?rest12u36
  case hy12u36 =>
    intro w' hS'
    go_simp
    try with_reducible rfl
  simp only [List.setIfInBounds_toArray, List.set_cons_zero, List.set_cons_succ]
  refine take_op (i := 13) (d := 12) (v := ?_) rfl rfl (by kernel_rfl) (by kernel_rfl) (by kernel_rfl) (fun _ _ _ h => h) (Or.inl ⟨by rfl, ?hy13u37⟩) hHeld ?rest13u37
  case hy13u37 =>
    intro w' hS'
    go_simp
    try with_reducible rfl
  simp only [List.setIfInBounds_toArray, List.set_cons_zero, List.set_cons_succ]
  refine wpAnyH_done (by kernel_rfl) ?_ _
  replace H0 := Lib.hid (below_row hHeld H0.out)
  replace H1 := Lib.hid (below_row hHeld H1.out)
  replace H2 := Lib.hid (below_row hHeld H2.out)
  replace H3 := Lib.hid (below_row hHeld H3.out)
  replace hb := hb.trans (hHeld.mono hb.size)
  clear hHeld
  go_wp2_with (go_at_call 29; refine (same_wide _ Hv0.out _).mono ?_; rintro e w11 ⟨rfl, rfl⟩)
  go_ret
  exact ⟨rfl, hb⟩

theorem fin_aft {lo hi wi : Nat} {st de ca : Int} {n : Int} {wd gp : Nat} {t : Int} {sh : Nat} {ti wt sm : Int} {lg gu : Nat} {hg : Int} (ko : TkOk lg gu hg) (ok : BlOk n wd gp t sh) : fin32 (aftB lo hi wi st de ca wd gp sh ti wt sm lg gu hg).2.2.2 = true := by
  have h1 : isNum lg := by rcases ko.lg with h | h; exact .inl (by omega); exact .inr (by omega)
  have h2 := (ins_ok (wd := wd) (gp := gp) (ti := ti) (hg := hg) ko.lg ok.2.2.2.2.2.2.2.2).2
  unfold aftB
  split
  · exact num_fin (num_of_isNum h1)
  · split
    · exact num_fin (num_of_isNum h2)
    · split <;> exact num_fin (num_of_isNum h2)
theorem lawInsideAt_walk (alo ahi awi : Nat) (ast ade aca : Int) (ha : CtWf alo ahi awi ast ade aca) (bn : Int) (bw bg : Nat) (bt : Int) (bs : Nat) (hb : BlWf bn bw bg bt bs) (cti cwt csm : Int) (hc : SaWf cti cwt csm) (dlg dgu : Nat) (dhg : Int) (hd : TkWf dlg dgu dhg) (w : World) :
    Calls Try.prog 7 #[.agg (ctC alo ahi awi ast ade aca), .agg (blindC bn bw bg bt bs), .agg (saC cti cwt csm), .agg (tkC dlg dgu dhg)] w fun e w' => e = .returned (.bool true) ∧ Below w.heap.size w w' := by
  by_cases hz : codeO alo ahi awi ast ade aca bn bw bg bt bs cti cwt csm dlg dgu dhg = 0
  · exact FnExactInsideAt_core alo ahi awi ast ade aca bn bw bg bt bs cti cwt csm dlg dgu dhg ((aftB alo ahi awi ast ade aca bw bg bs cti cwt csm dlg dgu dhg).2.2.2) 0 (fin_aft (tkok_of hd (codeO_zero hz).2.2.2) (blok_of hb (codeO_zero hz).2.1)) (fun w => sInsideAt_yes alo ahi awi ast ade aca ha bn bw bg bt bs hb cti cwt csm hc dlg dgu dhg hd hz _ _ _ _ rfl w) (fun w => iInsideAt_yes alo ahi awi ast ade aca ha bn bw bg bt bs hb cti cwt csm hc dlg dgu dhg hd hz _ _ _ _ rfl w) w
  · exact FnExactInsideAt_core alo ahi awi ast ade aca bn bw bg bt bs cti cwt csm dlg dgu dhg 0 _ zero_fin (fun w => sInsideAt_no alo ahi awi ast ade aca ha bn bw bg bt bs hb cti cwt csm hc dlg dgu dhg hd _ rfl hz w) (fun w => iInsideAt_no alo ahi awi ast ade aca ha bn bw bg bt bs hb cti cwt csm hc dlg dgu dhg hd _ rfl hz w) w

set_option maxRecDepth 100000 in
theorem FnExactInsideAt_holds : Rows.FnExactInsideAtSaid :=
  OpenClaim.holds_of_wide 7 Try.f7 rfl rfl rfl rfl rfl rfl rfl ⟨rfl, rfl, rfl, rfl, rfl⟩ rfl rfl rfl rfl rfl (by kernel_rfl) Try.func7 (by kernel_rfl)
    (of_decide_eq_true (by kernel_rfl)) (by unfold Func.isWrapper; first | (rw [if_pos (by decide +kernel)]; kernel_rfl) | (rw [if_neg (by decide +kernel)]; exact ⟨rfl, rfl⟩))
    (fun os started H enc _ => law_lifted 7 Try.f7 Rows.fnExactInsideAtSpec Rows.fnExactInsideAtRow.domain os started H enc (by kernel_rfl) Try.func7 rfl rfl
      (by rw [Try.params7]; intro t ht; simp only [List.mem_cons, List.not_mem_nil, or_false] at ht; rcases ht with rfl | rfl | rfl | rfl <;> exact ⟨by kernel_rfl, of_decide_eq_true (by kernel_rfl)⟩)
      (fun ds hl => by
        match ds, hl with
        | [d0, d1, d2, d3], _ => rfl)
      (ChangeSpec.witness6 (enc := enc) (C := Try.checked) false ⟨#[], #[.agg #[.float .f32 0, .float .f32 0, .float .f32 0, .int .i8 0, .int .i8 0, .int .i8 0], .agg #[.int .i8 0, .float .f32 0, .float .f32 0, .int .i16 0, .float .f32 0], .agg #[.int .i16 0, .int .i8 0, .int .i8 0], .agg #[.float .f32 0, .float .f32 0, .int .i8 0]], []⟩ 8 (by kernel_rfl) (by kernel_rfl) (by kernel_rfl) (by kernel_rfl))
      (fun W base args ds p hval hA => by
        rw [Try.params7] at hA hval
        obtain ⟨v0, vs0, d0, ds0, p0, q0, hargs, rfl, rfl, h0, r0⟩ := trodAll_cons hA
        obtain ⟨v1, vs1, d1, ds1, p1, q1, rfl, rfl, rfl, h1, r1⟩ := trodAll_cons r0
        obtain ⟨v2, vs2, d2, ds2, p2, q2, rfl, rfl, rfl, h2, r2⟩ := trodAll_cons r1
        obtain ⟨v3, vs3, d3, ds3, p3, q3, rfl, rfl, rfl, h3, r3⟩ := trodAll_cons r2
        obtain ⟨rfl, rfl, rfl⟩ := trodAll_nil r3
        obtain rfl : args = #[v0, v1, v2, v3] := by cases args; simp_all
        obtain ⟨clo0, chi0, cwi0, cst0, cde0, cca0, cwf0, rfl⟩ := open_ct (hval 0 25 v0 rfl rfl) h0
        obtain ⟨n1, wd1, gp1, t1, sh1, bw1, rfl⟩ := open_blind (hval 1 46 v1 rfl rfl) h1
        obtain ⟨sti2, swt2, ssm2, swf2, rfl⟩ := open_sa (hval 2 32 v2 rfl rfl) h2
        obtain ⟨klg3, kgu3, khg3, kwf3, rfl⟩ := open_tk (hval 3 38 v3 rfl rfl) h3
        exact lawInsideAt_walk clo0 chi0 cwi0 cst0 cde0 cca0 cwf0 n1 wd1 gp1 t1 sh1 bw1 sti2 swt2 ssm2 swf2 klg3 kgu3 khg3 kwf3 W ))
#print axioms FnExactInsideAt_holds

end Go.Proofs.Ytelgcggcmjdhjaa
