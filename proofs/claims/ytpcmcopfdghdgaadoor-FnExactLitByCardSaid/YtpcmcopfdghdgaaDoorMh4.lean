/-
  RyE, LawC.
-/
import Derived.Test.YtpcmcopfdghdgaaDoorMh3
import Derived.Test.YtpcmcopfdghdgaaDoorMh2
import Derived.Test.YtpcmcopfdghdgaaDoorMh1
import Derived.Test.YtpcmcopfdghdgaaDoorRows
import Derived.WalkKit
import Derived.ProofKit
import Derived.OpenShut
import Derived.ChangeVars
import Derived.JoinedOf
import Derived.LaidLaws
import Derived.Stop.Joined
import Derived.OpenVars

namespace Go.Proofs.YtpcmcopfdghdgaaDoor
open Go.RowKit Go.Deep

attribute [local go_sem] run_store_f run_store_flR

theorem box5L (w : World) (a b c d e : Obj) : (((((w.alloc a).alloc b).alloc c).alloc d).alloc e).heap[w.heap.size]? = some a ∧ (((((w.alloc a).alloc b).alloc c).alloc d).alloc e).heap[w.heap.size + 1]? = some b ∧ (((((w.alloc a).alloc b).alloc c).alloc d).alloc e).heap[w.heap.size + 1 + 1]? = some c ∧ (((((w.alloc a).alloc b).alloc c).alloc d).alloc e).heap[w.heap.size + 1 + 1 + 1]? = some d ∧ (((((w.alloc a).alloc b).alloc c).alloc d).alloc e).heap[w.heap.size + 1 + 1 + 1 + 1]? = some e ∧ Below w.heap.size w (((((w.alloc a).alloc b).alloc c).alloc d).alloc e) := by
  obtain ⟨h0, h1, h2, h3, hb⟩ := box4 w a b c d
  have k := (Below.refl ((((w.alloc a).alloc b).alloc c).alloc d).heap.size ((((w.alloc a).alloc b).alloc c).alloc d)).alloc (Nat.le_refl _) e
  refine ⟨below_row k h0, below_row k h1, below_row k h2, below_row k h3, ?_, hb.alloc hb.size e⟩
  have h := heap_alloc_new ((((w.alloc a).alloc b).alloc c).alloc d) e
  simpa using h

set_option maxRecDepth 100000 in

set_option maxRecDepth 100000 in
set_option maxHeartbeats 4000000 in
theorem iLb_ffff (wd hg : Int) (sv : Value) (ws : List Wn) (hs ts : List Int) (hh : hs.length = 24) (ht : ts.length = 24) (hour north : Int) (e0 e1 e2 e3 : Addr) (w : World) (hws : WinsAt w sv ws) (hE : ErrsAt w e0 e1 e2 e3) (hv : okRm wd hg ws = false) (hih : inH hour = false) :
    Calls Tryd.prog 11 #[.agg (roomC wd hg sv), .agg (sunC hs ts), .int .i64 hour, .int .i64 north] w fun e w' => e = .returned (.tuple #[.agg (roomC 0 0 (.slice none 0 0)), .int .i64 1]) ∧ Below w.heap.size w w' := by
  have HVR : Hid (∀ V, WinsAt V sv ws → Calls Tryd.prog 36 #[.agg (roomC wd hg sv)] V fun e w' => e = .returned (.bool false) ∧ Below V.heap.size V w') := Lib.hid (fun V h => by have := ValidRoom_any wd hg sv ws V h; rw [hv] at this; exact this)
  have HIH := Lib.hid (fun V => isHour_is hour false hih V)
  have HRF : Hid (∀ V, ErrsAt V e0 e1 e2 e3 → Calls Tryd.prog 35 #[.bool false, .bool false, .bool true] V fun e w' => e = .returned (.iface 145 (.pointer (some e0))) ∧ V = w') := Lib.hid (fun V h => refusal_any h false false true)
  have hn := fun w => run_neq_held_nil (P := Tryd.prog) (w := w) 72 145 (.pointer (some e0)) (by kernel_rfl)
  have HW := Lib.hid hws
  have HX := Lib.hid hE
  have Hh := Lib.hid hh
  have Ht := Lib.hid ht
  clear hws hE hv hih hh ht
  go_enter Tryd.func11, Tryd.ntmps11
  go_upto_region 1 with (fail)
  refine abs_world (fun W => W.heap[w.heap.size]? = some (.cells (roomC wd hg sv) 33 (0, 0)) ∧ W.heap[w.heap.size + 1]? = some (.cells (sunC hs ts) 37 (0, 0)) ∧ W.heap[w.heap.size + 1 + 1]? = some (.cells #[.int .i64 hour] 2 (0, 0)) ∧ W.heap[w.heap.size + 1 + 1 + 1]? = some (.cells #[.int .i64 north] 2 (0, 0)) ∧ W.heap[w.heap.size + 1 + 1 + 1 + 1]? = some (.cells (roomC 0 0 (.slice none 0 0)) 33 (0, 0)) ∧ Below w.heap.size w W) (box5L w (.cells (roomC wd hg sv) 33) (.cells (sunC hs ts) 37) (.cells #[.int .i64 hour] 2) (.cells #[.int .i64 north] 2) (.cells (roomC 0 0 (.slice none 0 0)) 33)) ?_
  rintro W ⟨h0, h5, h6, h7, h8, hbz⟩
  generalize hb8 : w.heap.size + 1 + 1 + 1 + 1 = b1 at *
  generalize hb7 : w.heap.size + 1 + 1 + 1 = b7 at *
  generalize hb6 : w.heap.size + 1 + 1 = b6 at *
  generalize hb5 : w.heap.size + 1 = b5 at *
  have n01 : w.heap.size < b1 := by omega
  clear hb5 hb6 hb7 hb8
  have R0 := Lib.hid h0
  have R5 := Lib.hid h5
  have R6 := Lib.hid h6
  have R7 := Lib.hid h7
  have H1 := Lib.hid h8
  have HV := Lib.hid (wins_below HW.out hbz)
  replace HX := Lib.hid (errs_below HX.out hbz)
  clear h0 h5 h6 h7 h8
  refine wp_region_held_drew (S := (fun V => Below W.heap.size W V)) (by kernel_rfl) ((Below.refl _ _).drew) (fun hHeld => ?_)
  refine take_op (i := 0) (d := 11) (v := .agg (roomC wd hg sv)) rfl rfl (by kernel_rfl) (by kernel_rfl) (by kernel_rfl) (fun _ _ _ h => h) (yields_row (by rfl) 33 (.tmp 4) (by rfl) w.heap.size 0 3 (by rfl) 33 (roomC wd hg sv) (0, 0) _ (fun _ h => below_row h R0.out) Tryd.underlying33 rfl info_room (room_fits _ _ _) (roomC wd hg sv) (room_all _ _ _)) hHeld ?_
  simp only [List.setIfInBounds_toArray, List.set_cons_zero, List.set_cons_succ]
  refine take_op (i := 6) (d := 17) (v := ?_) rfl rfl (by kernel_rfl) (by kernel_rfl) (by kernel_rfl) (fun _ _ _ h => h) (Or.inl ⟨by rfl, ?hy6y1⟩) hHeld ?rest6y1
  case hy6y1 =>
    intro w' hS'
    have c6 := row_i64 (below_row hS' R6.out)
    go_simp
    try with_reducible rfl
  simp only [List.setIfInBounds_toArray, List.set_cons_zero, List.set_cons_succ]
  refine wpAnyH_ready (rs := [1]) (by kernel_rfl) (by simp) ?_
  refine AllReadyH.cons rfl (fun K hK => ?_) AllReadyH.nil
  go_simp
  refine (HVR.out _ (wins_below HV.out hHeld)).mono ?_
  rintro e Wa ⟨rfl, hb1⟩
  refine hK.out _ _ (hHeld.trans (hb1.mono hHeld.size)) (fun hHeld2 => ?_)
  clear hK K
  replace hHeld := hHeld2
  clear hHeld2
  clear hb1
  refine take_op (i := 2) (d := 13) (v := ?_) rfl rfl (by kernel_rfl) (by kernel_rfl) (by kernel_rfl) (fun _ _ _ h => h) (Or.inl ⟨by rfl, ?hy2y2⟩) hHeld ?rest2y2
  case hy2y2 =>
    intro w' hS'
    go_simp
    try with_reducible rfl
  simp only [List.setIfInBounds_toArray, List.set_cons_zero, List.set_cons_succ]
  refine take_op (i := 3) (d := 14) (v := undef) rfl rfl (by kernel_rfl) (by kernel_rfl) (by kernel_rfl) (fun _ _ _ h => h) (Or.inr ⟨by rfl, rfl⟩) hHeld ?_
  simp only [List.setIfInBounds_toArray, List.set_cons_zero, List.set_cons_succ]
  refine take_op (i := 4) (d := 15) (v := undef) rfl rfl (by kernel_rfl) (by kernel_rfl) (by kernel_rfl) (fun _ _ _ h => h) (Or.inr ⟨by rfl, rfl⟩) hHeld ?_
  simp only [List.setIfInBounds_toArray, List.set_cons_zero, List.set_cons_succ]
  refine take_op (i := 5) (d := 16) (v := ?_) rfl rfl (by kernel_rfl) (by kernel_rfl) (by kernel_rfl) (fun _ _ _ h => h) (Or.inl ⟨by rfl, ?hy5y3⟩) hHeld ?rest5y3
  case hy5y3 =>
    intro w' hS'
    go_simp
    try with_reducible rfl
  simp only [List.setIfInBounds_toArray, List.set_cons_zero, List.set_cons_succ]
  refine wpAnyH_ready (rs := [7]) (by kernel_rfl) (by simp) ?_
  refine AllReadyH.cons rfl (fun K hK => ?_) AllReadyH.nil
  go_simp
  refine (HIH.out _).mono ?_
  rintro e wc ⟨rfl, rfl⟩
  refine hK.out _ _ (hHeld) (fun hHeld2 => ?_)
  clear hK K
  replace hHeld := hHeld2
  clear hHeld2
  refine take_op (i := 8) (d := 19) (v := ?_) rfl rfl (by kernel_rfl) (by kernel_rfl) (by kernel_rfl) (fun _ _ _ h => h) (Or.inl ⟨by rfl, ?hy8y4⟩) hHeld ?rest8y4
  case hy8y4 =>
    intro w' hS'
    go_simp
    try with_reducible rfl
  simp only [List.setIfInBounds_toArray, List.set_cons_zero, List.set_cons_succ]
  refine take_op (i := 9) (d := 20) (v := undef) rfl rfl (by kernel_rfl) (by kernel_rfl) (by kernel_rfl) (fun _ _ _ h => h) (Or.inr ⟨by rfl, rfl⟩) hHeld ?_
  simp only [List.setIfInBounds_toArray, List.set_cons_zero, List.set_cons_succ]
  refine take_op (i := 10) (d := 21) (v := undef) rfl rfl (by kernel_rfl) (by kernel_rfl) (by kernel_rfl) (fun _ _ _ h => h) (Or.inr ⟨by rfl, rfl⟩) hHeld ?_
  simp only [List.setIfInBounds_toArray, List.set_cons_zero, List.set_cons_succ]
  refine take_op (i := 11) (d := 22) (v := ?_) rfl rfl (by kernel_rfl) (by kernel_rfl) (by kernel_rfl) (fun _ _ _ h => h) (Or.inl ⟨by rfl, ?hy11y5⟩) hHeld ?rest11y5
  case hy11y5 =>
    intro w' hS'
    go_simp
    try with_reducible rfl
  simp only [List.setIfInBounds_toArray, List.set_cons_zero, List.set_cons_succ]
  refine wpAnyH_ready (rs := [12]) (by kernel_rfl) (by simp) ?_
  refine AllReadyH.cons rfl (fun K hK => ?_) AllReadyH.nil
  go_simp
  refine (HRF.out _ (errs_below HX.out hHeld)).mono ?_
  rintro e we ⟨rfl, rfl⟩
  refine hK.out _ _ (hHeld) (fun hHeld2 => ?_)
  clear hK K
  replace hHeld := hHeld2
  clear hHeld2
  refine take_op (i := 13) (d := 10) (v := ?_) rfl rfl (by kernel_rfl) (by kernel_rfl) (by kernel_rfl) (fun _ _ _ h => h) (Or.inl ⟨by rfl, ?hy13y6⟩) hHeld ?rest13y6
  case hy13y6 =>
    intro w' hS'
    go_simp
    try with_reducible rfl
  simp only [List.setIfInBounds_toArray, List.set_cons_zero, List.set_cons_succ]
  refine wpAnyH_done (by kernel_rfl) ?_ _
  replace R0 := Lib.hid (below_row hHeld R0.out)
  replace R5 := Lib.hid (below_row hHeld R5.out)
  replace R6 := Lib.hid (below_row hHeld R6.out)
  replace R7 := Lib.hid (below_row hHeld R7.out)
  replace H1 := Lib.hid (below_row hHeld H1.out)
  replace HV := Lib.hid (wins_below HV.out hHeld)
  replace HX := Lib.hid (errs_below HX.out hHeld)
  replace hbz := hbz.trans (hHeld.mono hbz.size)
  clear hHeld
  go_wp2_with (first | (go_at_call 40; refine (codeOf_any HX.out 1).mono ?_; rintro e W4 ⟨rfl, rfl⟩) | (refine wpList_buildRR rfl 33 _ rfl _ rfl [] rfl (roomC 0 0 (.slice none 0 0)) built_room0 ?_) | (refine wpList_store_part rfl 33 _ _ rfl b1 0 (roomC 0 0 (.slice none 0 0)) rfl rfl 33 _ H1.out info_room (Nat.le_refl _) (room_oneN _ _) ?_; rw [laid_allr _ _ (by rfl)]))
  refine bodyPost_ret (results_rm rfl _ _ b1 0 0 (.slice none 0 0) rfl (setRow_heap _ _ _ _ _ _ H1.out)) rfl ?_
  exact ⟨rfl, below_setRow hbz (by omega) _⟩

set_option maxRecDepth 100000 in
set_option maxHeartbeats 4000000 in
theorem iLb_fftf (wd hg : Int) (sv : Value) (ws : List Wn) (hs ts : List Int) (hh : hs.length = 24) (ht : ts.length = 24) (hour north : Int) (e0 e1 e2 e3 : Addr) (w : World) (hws : WinsAt w sv ws) (hE : ErrsAt w e0 e1 e2 e3) (hv : okRm wd hg ws = false) (hih : inH hour = true) (hif : inF north = false) :
    Calls Tryd.prog 11 #[.agg (roomC wd hg sv), .agg (sunC hs ts), .int .i64 hour, .int .i64 north] w fun e w' => e = .returned (.tuple #[.agg (roomC 0 0 (.slice none 0 0)), .int .i64 1]) ∧ Below w.heap.size w w' := by
  have HVR : Hid (∀ V, WinsAt V sv ws → Calls Tryd.prog 36 #[.agg (roomC wd hg sv)] V fun e w' => e = .returned (.bool false) ∧ Below V.heap.size V w') := Lib.hid (fun V h => by have := ValidRoom_any wd hg sv ws V h; rw [hv] at this; exact this)
  have HIH := Lib.hid (fun V => isHour_is hour true hih V)
  have HIF := Lib.hid (fun V => isFacing_is north false hif V)
  have HRF : Hid (∀ V, ErrsAt V e0 e1 e2 e3 → Calls Tryd.prog 35 #[.bool false, .bool false, .bool true] V fun e w' => e = .returned (.iface 145 (.pointer (some e0))) ∧ V = w') := Lib.hid (fun V h => refusal_any h false false true)
  have hn := fun w => run_neq_held_nil (P := Tryd.prog) (w := w) 72 145 (.pointer (some e0)) (by kernel_rfl)
  have HW := Lib.hid hws
  have HX := Lib.hid hE
  have Hh := Lib.hid hh
  have Ht := Lib.hid ht
  clear hws hE hv hih hh ht hif
  go_enter Tryd.func11, Tryd.ntmps11
  go_upto_region 1 with (fail)
  refine abs_world (fun W => W.heap[w.heap.size]? = some (.cells (roomC wd hg sv) 33 (0, 0)) ∧ W.heap[w.heap.size + 1]? = some (.cells (sunC hs ts) 37 (0, 0)) ∧ W.heap[w.heap.size + 1 + 1]? = some (.cells #[.int .i64 hour] 2 (0, 0)) ∧ W.heap[w.heap.size + 1 + 1 + 1]? = some (.cells #[.int .i64 north] 2 (0, 0)) ∧ W.heap[w.heap.size + 1 + 1 + 1 + 1]? = some (.cells (roomC 0 0 (.slice none 0 0)) 33 (0, 0)) ∧ Below w.heap.size w W) (box5L w (.cells (roomC wd hg sv) 33) (.cells (sunC hs ts) 37) (.cells #[.int .i64 hour] 2) (.cells #[.int .i64 north] 2) (.cells (roomC 0 0 (.slice none 0 0)) 33)) ?_
  rintro W ⟨h0, h5, h6, h7, h8, hbz⟩
  generalize hb8 : w.heap.size + 1 + 1 + 1 + 1 = b1 at *
  generalize hb7 : w.heap.size + 1 + 1 + 1 = b7 at *
  generalize hb6 : w.heap.size + 1 + 1 = b6 at *
  generalize hb5 : w.heap.size + 1 = b5 at *
  have n01 : w.heap.size < b1 := by omega
  clear hb5 hb6 hb7 hb8
  have R0 := Lib.hid h0
  have R5 := Lib.hid h5
  have R6 := Lib.hid h6
  have R7 := Lib.hid h7
  have H1 := Lib.hid h8
  have HV := Lib.hid (wins_below HW.out hbz)
  replace HX := Lib.hid (errs_below HX.out hbz)
  clear h0 h5 h6 h7 h8
  refine wp_region_held_drew (S := (fun V => Below W.heap.size W V)) (by kernel_rfl) ((Below.refl _ _).drew) (fun hHeld => ?_)
  refine take_op (i := 0) (d := 11) (v := .agg (roomC wd hg sv)) rfl rfl (by kernel_rfl) (by kernel_rfl) (by kernel_rfl) (fun _ _ _ h => h) (yields_row (by rfl) 33 (.tmp 4) (by rfl) w.heap.size 0 3 (by rfl) 33 (roomC wd hg sv) (0, 0) _ (fun _ h => below_row h R0.out) Tryd.underlying33 rfl info_room (room_fits _ _ _) (roomC wd hg sv) (room_all _ _ _)) hHeld ?_
  simp only [List.setIfInBounds_toArray, List.set_cons_zero, List.set_cons_succ]
  refine take_op (i := 6) (d := 17) (v := ?_) rfl rfl (by kernel_rfl) (by kernel_rfl) (by kernel_rfl) (fun _ _ _ h => h) (Or.inl ⟨by rfl, ?hy6y7⟩) hHeld ?rest6y7
  case hy6y7 =>
    intro w' hS'
    have c6 := row_i64 (below_row hS' R6.out)
    go_simp
    try with_reducible rfl
  simp only [List.setIfInBounds_toArray, List.set_cons_zero, List.set_cons_succ]
  refine wpAnyH_ready (rs := [1]) (by kernel_rfl) (by simp) ?_
  refine AllReadyH.cons rfl (fun K hK => ?_) AllReadyH.nil
  go_simp
  refine (HVR.out _ (wins_below HV.out hHeld)).mono ?_
  rintro e Wa ⟨rfl, hb1⟩
  refine hK.out _ _ (hHeld.trans (hb1.mono hHeld.size)) (fun hHeld2 => ?_)
  clear hK K
  replace hHeld := hHeld2
  clear hHeld2
  clear hb1
  refine take_op (i := 2) (d := 13) (v := ?_) rfl rfl (by kernel_rfl) (by kernel_rfl) (by kernel_rfl) (fun _ _ _ h => h) (Or.inl ⟨by rfl, ?hy2y8⟩) hHeld ?rest2y8
  case hy2y8 =>
    intro w' hS'
    go_simp
    try with_reducible rfl
  simp only [List.setIfInBounds_toArray, List.set_cons_zero, List.set_cons_succ]
  refine take_op (i := 3) (d := 14) (v := undef) rfl rfl (by kernel_rfl) (by kernel_rfl) (by kernel_rfl) (fun _ _ _ h => h) (Or.inr ⟨by rfl, rfl⟩) hHeld ?_
  simp only [List.setIfInBounds_toArray, List.set_cons_zero, List.set_cons_succ]
  refine take_op (i := 4) (d := 15) (v := undef) rfl rfl (by kernel_rfl) (by kernel_rfl) (by kernel_rfl) (fun _ _ _ h => h) (Or.inr ⟨by rfl, rfl⟩) hHeld ?_
  simp only [List.setIfInBounds_toArray, List.set_cons_zero, List.set_cons_succ]
  refine take_op (i := 5) (d := 16) (v := ?_) rfl rfl (by kernel_rfl) (by kernel_rfl) (by kernel_rfl) (fun _ _ _ h => h) (Or.inl ⟨by rfl, ?hy5y9⟩) hHeld ?rest5y9
  case hy5y9 =>
    intro w' hS'
    go_simp
    try with_reducible rfl
  simp only [List.setIfInBounds_toArray, List.set_cons_zero, List.set_cons_succ]
  refine wpAnyH_ready (rs := [7]) (by kernel_rfl) (by simp) ?_
  refine AllReadyH.cons rfl (fun K hK => ?_) AllReadyH.nil
  go_simp
  refine (HIH.out _).mono ?_
  rintro e wc ⟨rfl, rfl⟩
  refine hK.out _ _ (hHeld) (fun hHeld2 => ?_)
  clear hK K
  replace hHeld := hHeld2
  clear hHeld2
  refine take_op (i := 8) (d := 19) (v := ?_) rfl rfl (by kernel_rfl) (by kernel_rfl) (by kernel_rfl) (fun _ _ _ h => h) (Or.inl ⟨by rfl, ?hy8y10⟩) hHeld ?rest8y10
  case hy8y10 =>
    intro w' hS'
    go_simp
    try with_reducible rfl
  simp only [List.setIfInBounds_toArray, List.set_cons_zero, List.set_cons_succ]
  refine take_op (i := 9) (d := 20) (v := ?_) rfl rfl (by kernel_rfl) (by kernel_rfl) (by kernel_rfl) (fun _ _ _ h => h) (Or.inl ⟨by rfl, ?hy9y11⟩) hHeld ?rest9y11
  case hy9y11 =>
    intro w' hS'
    have c7 := row_i64 (below_row hS' R7.out)
    go_simp
    try with_reducible rfl
  simp only [List.setIfInBounds_toArray, List.set_cons_zero, List.set_cons_succ]
  refine wpAnyH_ready (rs := [10]) (by kernel_rfl) (by simp) ?_
  refine AllReadyH.cons rfl (fun K hK => ?_) AllReadyH.nil
  go_simp
  refine (HIF.out _).mono ?_
  rintro e wd2 ⟨rfl, rfl⟩
  refine hK.out _ _ (hHeld) (fun hHeld2 => ?_)
  clear hK K
  replace hHeld := hHeld2
  clear hHeld2
  refine take_op (i := 11) (d := 22) (v := ?_) rfl rfl (by kernel_rfl) (by kernel_rfl) (by kernel_rfl) (fun _ _ _ h => h) (Or.inl ⟨by rfl, ?hy11y12⟩) hHeld ?rest11y12
  case hy11y12 =>
    intro w' hS'
    go_simp
    try with_reducible rfl
  simp only [List.setIfInBounds_toArray, List.set_cons_zero, List.set_cons_succ]
  refine wpAnyH_ready (rs := [12]) (by kernel_rfl) (by simp) ?_
  refine AllReadyH.cons rfl (fun K hK => ?_) AllReadyH.nil
  go_simp
  refine (HRF.out _ (errs_below HX.out hHeld)).mono ?_
  rintro e we ⟨rfl, rfl⟩
  refine hK.out _ _ (hHeld) (fun hHeld2 => ?_)
  clear hK K
  replace hHeld := hHeld2
  clear hHeld2
  refine take_op (i := 13) (d := 10) (v := ?_) rfl rfl (by kernel_rfl) (by kernel_rfl) (by kernel_rfl) (fun _ _ _ h => h) (Or.inl ⟨by rfl, ?hy13y13⟩) hHeld ?rest13y13
  case hy13y13 =>
    intro w' hS'
    go_simp
    try with_reducible rfl
  simp only [List.setIfInBounds_toArray, List.set_cons_zero, List.set_cons_succ]
  refine wpAnyH_done (by kernel_rfl) ?_ _
  replace R0 := Lib.hid (below_row hHeld R0.out)
  replace R5 := Lib.hid (below_row hHeld R5.out)
  replace R6 := Lib.hid (below_row hHeld R6.out)
  replace R7 := Lib.hid (below_row hHeld R7.out)
  replace H1 := Lib.hid (below_row hHeld H1.out)
  replace HV := Lib.hid (wins_below HV.out hHeld)
  replace HX := Lib.hid (errs_below HX.out hHeld)
  replace hbz := hbz.trans (hHeld.mono hbz.size)
  clear hHeld
  go_wp2_with (first | (go_at_call 40; refine (codeOf_any HX.out 1).mono ?_; rintro e W4 ⟨rfl, rfl⟩) | (refine wpList_buildRR rfl 33 _ rfl _ rfl [] rfl (roomC 0 0 (.slice none 0 0)) built_room0 ?_) | (refine wpList_store_part rfl 33 _ _ rfl b1 0 (roomC 0 0 (.slice none 0 0)) rfl rfl 33 _ H1.out info_room (Nat.le_refl _) (room_oneN _ _) ?_; rw [laid_allr _ _ (by rfl)]))
  refine bodyPost_ret (results_rm rfl _ _ b1 0 0 (.slice none 0 0) rfl (setRow_heap _ _ _ _ _ _ H1.out)) rfl ?_
  exact ⟨rfl, below_setRow hbz (by omega) _⟩

set_option maxRecDepth 100000 in
set_option maxHeartbeats 4000000 in
theorem iLb_fftt (wd hg : Int) (sv : Value) (ws : List Wn) (hs ts : List Int) (hh : hs.length = 24) (ht : ts.length = 24) (hour north : Int) (e0 e1 e2 e3 : Addr) (w : World) (hws : WinsAt w sv ws) (hE : ErrsAt w e0 e1 e2 e3) (hv : okRm wd hg ws = false) (hih : inH hour = true) (hif : inF north = true) :
    Calls Tryd.prog 11 #[.agg (roomC wd hg sv), .agg (sunC hs ts), .int .i64 hour, .int .i64 north] w fun e w' => e = .returned (.tuple #[.agg (roomC 0 0 (.slice none 0 0)), .int .i64 1]) ∧ Below w.heap.size w w' := by
  have HVR : Hid (∀ V, WinsAt V sv ws → Calls Tryd.prog 36 #[.agg (roomC wd hg sv)] V fun e w' => e = .returned (.bool false) ∧ Below V.heap.size V w') := Lib.hid (fun V h => by have := ValidRoom_any wd hg sv ws V h; rw [hv] at this; exact this)
  have HIH := Lib.hid (fun V => isHour_is hour true hih V)
  have HIF := Lib.hid (fun V => isFacing_is north true hif V)
  have HRF : Hid (∀ V, ErrsAt V e0 e1 e2 e3 → Calls Tryd.prog 35 #[.bool false, .bool true, .bool true] V fun e w' => e = .returned (.iface 145 (.pointer (some e0))) ∧ V = w') := Lib.hid (fun V h => refusal_any h false true true)
  have hn := fun w => run_neq_held_nil (P := Tryd.prog) (w := w) 72 145 (.pointer (some e0)) (by kernel_rfl)
  have HW := Lib.hid hws
  have HX := Lib.hid hE
  have Hh := Lib.hid hh
  have Ht := Lib.hid ht
  clear hws hE hv hih hh ht hif
  go_enter Tryd.func11, Tryd.ntmps11
  go_upto_region 1 with (fail)
  refine abs_world (fun W => W.heap[w.heap.size]? = some (.cells (roomC wd hg sv) 33 (0, 0)) ∧ W.heap[w.heap.size + 1]? = some (.cells (sunC hs ts) 37 (0, 0)) ∧ W.heap[w.heap.size + 1 + 1]? = some (.cells #[.int .i64 hour] 2 (0, 0)) ∧ W.heap[w.heap.size + 1 + 1 + 1]? = some (.cells #[.int .i64 north] 2 (0, 0)) ∧ W.heap[w.heap.size + 1 + 1 + 1 + 1]? = some (.cells (roomC 0 0 (.slice none 0 0)) 33 (0, 0)) ∧ Below w.heap.size w W) (box5L w (.cells (roomC wd hg sv) 33) (.cells (sunC hs ts) 37) (.cells #[.int .i64 hour] 2) (.cells #[.int .i64 north] 2) (.cells (roomC 0 0 (.slice none 0 0)) 33)) ?_
  rintro W ⟨h0, h5, h6, h7, h8, hbz⟩
  generalize hb8 : w.heap.size + 1 + 1 + 1 + 1 = b1 at *
  generalize hb7 : w.heap.size + 1 + 1 + 1 = b7 at *
  generalize hb6 : w.heap.size + 1 + 1 = b6 at *
  generalize hb5 : w.heap.size + 1 = b5 at *
  have n01 : w.heap.size < b1 := by omega
  clear hb5 hb6 hb7 hb8
  have R0 := Lib.hid h0
  have R5 := Lib.hid h5
  have R6 := Lib.hid h6
  have R7 := Lib.hid h7
  have H1 := Lib.hid h8
  have HV := Lib.hid (wins_below HW.out hbz)
  replace HX := Lib.hid (errs_below HX.out hbz)
  clear h0 h5 h6 h7 h8
  refine wp_region_held_drew (S := (fun V => Below W.heap.size W V)) (by kernel_rfl) ((Below.refl _ _).drew) (fun hHeld => ?_)
  refine take_op (i := 0) (d := 11) (v := .agg (roomC wd hg sv)) rfl rfl (by kernel_rfl) (by kernel_rfl) (by kernel_rfl) (fun _ _ _ h => h) (yields_row (by rfl) 33 (.tmp 4) (by rfl) w.heap.size 0 3 (by rfl) 33 (roomC wd hg sv) (0, 0) _ (fun _ h => below_row h R0.out) Tryd.underlying33 rfl info_room (room_fits _ _ _) (roomC wd hg sv) (room_all _ _ _)) hHeld ?_
  simp only [List.setIfInBounds_toArray, List.set_cons_zero, List.set_cons_succ]
  refine take_op (i := 6) (d := 17) (v := ?_) rfl rfl (by kernel_rfl) (by kernel_rfl) (by kernel_rfl) (fun _ _ _ h => h) (Or.inl ⟨by rfl, ?hy6y14⟩) hHeld ?rest6y14
  case hy6y14 =>
    intro w' hS'
    have c6 := row_i64 (below_row hS' R6.out)
    go_simp
    try with_reducible rfl
  simp only [List.setIfInBounds_toArray, List.set_cons_zero, List.set_cons_succ]
  refine wpAnyH_ready (rs := [1]) (by kernel_rfl) (by simp) ?_
  refine AllReadyH.cons rfl (fun K hK => ?_) AllReadyH.nil
  go_simp
  refine (HVR.out _ (wins_below HV.out hHeld)).mono ?_
  rintro e Wa ⟨rfl, hb1⟩
  refine hK.out _ _ (hHeld.trans (hb1.mono hHeld.size)) (fun hHeld2 => ?_)
  clear hK K
  replace hHeld := hHeld2
  clear hHeld2
  clear hb1
  refine take_op (i := 2) (d := 13) (v := ?_) rfl rfl (by kernel_rfl) (by kernel_rfl) (by kernel_rfl) (fun _ _ _ h => h) (Or.inl ⟨by rfl, ?hy2y15⟩) hHeld ?rest2y15
  case hy2y15 =>
    intro w' hS'
    go_simp
    try with_reducible rfl
  simp only [List.setIfInBounds_toArray, List.set_cons_zero, List.set_cons_succ]
  refine take_op (i := 3) (d := 14) (v := undef) rfl rfl (by kernel_rfl) (by kernel_rfl) (by kernel_rfl) (fun _ _ _ h => h) (Or.inr ⟨by rfl, rfl⟩) hHeld ?_
  simp only [List.setIfInBounds_toArray, List.set_cons_zero, List.set_cons_succ]
  refine take_op (i := 4) (d := 15) (v := undef) rfl rfl (by kernel_rfl) (by kernel_rfl) (by kernel_rfl) (fun _ _ _ h => h) (Or.inr ⟨by rfl, rfl⟩) hHeld ?_
  simp only [List.setIfInBounds_toArray, List.set_cons_zero, List.set_cons_succ]
  refine take_op (i := 5) (d := 16) (v := ?_) rfl rfl (by kernel_rfl) (by kernel_rfl) (by kernel_rfl) (fun _ _ _ h => h) (Or.inl ⟨by rfl, ?hy5y16⟩) hHeld ?rest5y16
  case hy5y16 =>
    intro w' hS'
    go_simp
    try with_reducible rfl
  simp only [List.setIfInBounds_toArray, List.set_cons_zero, List.set_cons_succ]
  refine wpAnyH_ready (rs := [7]) (by kernel_rfl) (by simp) ?_
  refine AllReadyH.cons rfl (fun K hK => ?_) AllReadyH.nil
  go_simp
  refine (HIH.out _).mono ?_
  rintro e wc ⟨rfl, rfl⟩
  refine hK.out _ _ (hHeld) (fun hHeld2 => ?_)
  clear hK K
  replace hHeld := hHeld2
  clear hHeld2
  refine take_op (i := 8) (d := 19) (v := ?_) rfl rfl (by kernel_rfl) (by kernel_rfl) (by kernel_rfl) (fun _ _ _ h => h) (Or.inl ⟨by rfl, ?hy8y17⟩) hHeld ?rest8y17
  case hy8y17 =>
    intro w' hS'
    go_simp
    try with_reducible rfl
  simp only [List.setIfInBounds_toArray, List.set_cons_zero, List.set_cons_succ]
  refine take_op (i := 9) (d := 20) (v := ?_) rfl rfl (by kernel_rfl) (by kernel_rfl) (by kernel_rfl) (fun _ _ _ h => h) (Or.inl ⟨by rfl, ?hy9y18⟩) hHeld ?rest9y18
  case hy9y18 =>
    intro w' hS'
    have c7 := row_i64 (below_row hS' R7.out)
    go_simp
    try with_reducible rfl
  simp only [List.setIfInBounds_toArray, List.set_cons_zero, List.set_cons_succ]
  refine wpAnyH_ready (rs := [10]) (by kernel_rfl) (by simp) ?_
  refine AllReadyH.cons rfl (fun K hK => ?_) AllReadyH.nil
  go_simp
  refine (HIF.out _).mono ?_
  rintro e wd2 ⟨rfl, rfl⟩
  refine hK.out _ _ (hHeld) (fun hHeld2 => ?_)
  clear hK K
  replace hHeld := hHeld2
  clear hHeld2
  refine take_op (i := 11) (d := 22) (v := ?_) rfl rfl (by kernel_rfl) (by kernel_rfl) (by kernel_rfl) (fun _ _ _ h => h) (Or.inl ⟨by rfl, ?hy11y19⟩) hHeld ?rest11y19
  case hy11y19 =>
    intro w' hS'
    go_simp
    try with_reducible rfl
  simp only [List.setIfInBounds_toArray, List.set_cons_zero, List.set_cons_succ]
  refine wpAnyH_ready (rs := [12]) (by kernel_rfl) (by simp) ?_
  refine AllReadyH.cons rfl (fun K hK => ?_) AllReadyH.nil
  go_simp
  refine (HRF.out _ (errs_below HX.out hHeld)).mono ?_
  rintro e we ⟨rfl, rfl⟩
  refine hK.out _ _ (hHeld) (fun hHeld2 => ?_)
  clear hK K
  replace hHeld := hHeld2
  clear hHeld2
  refine take_op (i := 13) (d := 10) (v := ?_) rfl rfl (by kernel_rfl) (by kernel_rfl) (by kernel_rfl) (fun _ _ _ h => h) (Or.inl ⟨by rfl, ?hy13y20⟩) hHeld ?rest13y20
  case hy13y20 =>
    intro w' hS'
    go_simp
    try with_reducible rfl
  simp only [List.setIfInBounds_toArray, List.set_cons_zero, List.set_cons_succ]
  refine wpAnyH_done (by kernel_rfl) ?_ _
  replace R0 := Lib.hid (below_row hHeld R0.out)
  replace R5 := Lib.hid (below_row hHeld R5.out)
  replace R6 := Lib.hid (below_row hHeld R6.out)
  replace R7 := Lib.hid (below_row hHeld R7.out)
  replace H1 := Lib.hid (below_row hHeld H1.out)
  replace HV := Lib.hid (wins_below HV.out hHeld)
  replace HX := Lib.hid (errs_below HX.out hHeld)
  replace hbz := hbz.trans (hHeld.mono hbz.size)
  clear hHeld
  go_wp2_with (first | (go_at_call 40; refine (codeOf_any HX.out 1).mono ?_; rintro e W4 ⟨rfl, rfl⟩) | (refine wpList_buildRR rfl 33 _ rfl _ rfl [] rfl (roomC 0 0 (.slice none 0 0)) built_room0 ?_) | (refine wpList_store_part rfl 33 _ _ rfl b1 0 (roomC 0 0 (.slice none 0 0)) rfl rfl 33 _ H1.out info_room (Nat.le_refl _) (room_oneN _ _) ?_; rw [laid_allr _ _ (by rfl)]))
  refine bodyPost_ret (results_rm rfl _ _ b1 0 0 (.slice none 0 0) rfl (setRow_heap _ _ _ _ _ _ H1.out)) rfl ?_
  exact ⟨rfl, below_setRow hbz (by omega) _⟩

set_option maxRecDepth 100000 in
set_option maxHeartbeats 4000000 in
theorem iLb_tfff (wd hg : Int) (sv : Value) (ws : List Wn) (hs ts : List Int) (hh : hs.length = 24) (ht : ts.length = 24) (hour north : Int) (e0 e1 e2 e3 : Addr) (w : World) (hws : WinsAt w sv ws) (hE : ErrsAt w e0 e1 e2 e3) (hv : okRm wd hg ws = true) (hs2 : okB hs ts = false) (hih : inH hour = false) :
    Calls Tryd.prog 11 #[.agg (roomC wd hg sv), .agg (sunC hs ts), .int .i64 hour, .int .i64 north] w fun e w' => e = .returned (.tuple #[.agg (roomC 0 0 (.slice none 0 0)), .int .i64 1]) ∧ Below w.heap.size w w' := by
  have HVR : Hid (∀ V, WinsAt V sv ws → Calls Tryd.prog 36 #[.agg (roomC wd hg sv)] V fun e w' => e = .returned (.bool true) ∧ Below V.heap.size V w') := Lib.hid (fun V h => by have := ValidRoom_any wd hg sv ws V h; rw [hv] at this; exact this)
  have HVS : Hid (∀ V, Calls Tryd.prog 37 #[.agg (sunC hs ts)] V fun e w' => e = .returned (.bool false) ∧ Below V.heap.size V w') := Lib.hid (fun V => by have := ValidSun_any hs ts hh ht V; rw [hs2] at this; exact this)
  have HIH := Lib.hid (fun V => isHour_is hour false hih V)
  have HRF : Hid (∀ V, ErrsAt V e0 e1 e2 e3 → Calls Tryd.prog 35 #[.bool false, .bool false, .bool true] V fun e w' => e = .returned (.iface 145 (.pointer (some e0))) ∧ V = w') := Lib.hid (fun V h => refusal_any h false false true)
  have hn := fun w => run_neq_held_nil (P := Tryd.prog) (w := w) 72 145 (.pointer (some e0)) (by kernel_rfl)
  have HW := Lib.hid hws
  have HX := Lib.hid hE
  have Hh := Lib.hid hh
  have Ht := Lib.hid ht
  clear hws hE hv hih hh ht hs2
  go_enter Tryd.func11, Tryd.ntmps11
  go_upto_region 1 with (fail)
  refine abs_world (fun W => W.heap[w.heap.size]? = some (.cells (roomC wd hg sv) 33 (0, 0)) ∧ W.heap[w.heap.size + 1]? = some (.cells (sunC hs ts) 37 (0, 0)) ∧ W.heap[w.heap.size + 1 + 1]? = some (.cells #[.int .i64 hour] 2 (0, 0)) ∧ W.heap[w.heap.size + 1 + 1 + 1]? = some (.cells #[.int .i64 north] 2 (0, 0)) ∧ W.heap[w.heap.size + 1 + 1 + 1 + 1]? = some (.cells (roomC 0 0 (.slice none 0 0)) 33 (0, 0)) ∧ Below w.heap.size w W) (box5L w (.cells (roomC wd hg sv) 33) (.cells (sunC hs ts) 37) (.cells #[.int .i64 hour] 2) (.cells #[.int .i64 north] 2) (.cells (roomC 0 0 (.slice none 0 0)) 33)) ?_
  rintro W ⟨h0, h5, h6, h7, h8, hbz⟩
  generalize hb8 : w.heap.size + 1 + 1 + 1 + 1 = b1 at *
  generalize hb7 : w.heap.size + 1 + 1 + 1 = b7 at *
  generalize hb6 : w.heap.size + 1 + 1 = b6 at *
  generalize hb5 : w.heap.size + 1 = b5 at *
  have n01 : w.heap.size < b1 := by omega
  clear hb5 hb6 hb7 hb8
  have R0 := Lib.hid h0
  have R5 := Lib.hid h5
  have R6 := Lib.hid h6
  have R7 := Lib.hid h7
  have H1 := Lib.hid h8
  have HV := Lib.hid (wins_below HW.out hbz)
  replace HX := Lib.hid (errs_below HX.out hbz)
  clear h0 h5 h6 h7 h8
  refine wp_region_held_drew (S := (fun V => Below W.heap.size W V)) (by kernel_rfl) ((Below.refl _ _).drew) (fun hHeld => ?_)
  refine take_op (i := 0) (d := 11) (v := .agg (roomC wd hg sv)) rfl rfl (by kernel_rfl) (by kernel_rfl) (by kernel_rfl) (fun _ _ _ h => h) (yields_row (by rfl) 33 (.tmp 4) (by rfl) w.heap.size 0 3 (by rfl) 33 (roomC wd hg sv) (0, 0) _ (fun _ h => below_row h R0.out) Tryd.underlying33 rfl info_room (room_fits _ _ _) (roomC wd hg sv) (room_all _ _ _)) hHeld ?_
  simp only [List.setIfInBounds_toArray, List.set_cons_zero, List.set_cons_succ]
  refine take_op (i := 6) (d := 17) (v := ?_) rfl rfl (by kernel_rfl) (by kernel_rfl) (by kernel_rfl) (fun _ _ _ h => h) (Or.inl ⟨by rfl, ?hy6y21⟩) hHeld ?rest6y21
  case hy6y21 =>
    intro w' hS'
    have c6 := row_i64 (below_row hS' R6.out)
    go_simp
    try with_reducible rfl
  simp only [List.setIfInBounds_toArray, List.set_cons_zero, List.set_cons_succ]
  refine wpAnyH_ready (rs := [1]) (by kernel_rfl) (by simp) ?_
  refine AllReadyH.cons rfl (fun K hK => ?_) AllReadyH.nil
  go_simp
  refine (HVR.out _ (wins_below HV.out hHeld)).mono ?_
  rintro e Wa ⟨rfl, hb1⟩
  refine hK.out _ _ (hHeld.trans (hb1.mono hHeld.size)) (fun hHeld2 => ?_)
  clear hK K
  replace hHeld := hHeld2
  clear hHeld2
  clear hb1
  refine take_op (i := 2) (d := 13) (v := ?_) rfl rfl (by kernel_rfl) (by kernel_rfl) (by kernel_rfl) (fun _ _ _ h => h) (Or.inl ⟨by rfl, ?hy2y22⟩) hHeld ?rest2y22
  case hy2y22 =>
    intro w' hS'
    go_simp
    try with_reducible rfl
  simp only [List.setIfInBounds_toArray, List.set_cons_zero, List.set_cons_succ]
  refine take_op (i := 3) (d := 14) (v := .agg (sunC hs ts)) rfl rfl (by kernel_rfl) (by kernel_rfl) (by kernel_rfl) (fun _ _ _ h => h) (yields_row (by rfl) 37 (.tmp 5) (by rfl) b5 0 48 (by rfl) 37 (sunC hs ts) (0, 0) _ (fun _ h => below_row h R5.out) Tryd.underlying37 rfl info_sun (sun_fits _ _ Hh.out Ht.out) (sunC hs ts) (sun_all _ _ Hh.out Ht.out)) hHeld ?_
  simp only [List.setIfInBounds_toArray, List.set_cons_zero, List.set_cons_succ]
  refine wpAnyH_ready (rs := [4]) (by kernel_rfl) (by simp) ?_
  refine AllReadyH.cons rfl (fun K hK => ?_) AllReadyH.nil
  go_simp
  refine (HVS.out _).mono ?_
  rintro e Wb ⟨rfl, hb1⟩
  refine hK.out _ _ (hHeld.trans (hb1.mono hHeld.size)) (fun hHeld2 => ?_)
  clear hK K
  replace hHeld := hHeld2
  clear hHeld2
  clear hb1
  refine take_op (i := 5) (d := 16) (v := ?_) rfl rfl (by kernel_rfl) (by kernel_rfl) (by kernel_rfl) (fun _ _ _ h => h) (Or.inl ⟨by rfl, ?hy5y23⟩) hHeld ?rest5y23
  case hy5y23 =>
    intro w' hS'
    go_simp
    try with_reducible rfl
  simp only [List.setIfInBounds_toArray, List.set_cons_zero, List.set_cons_succ]
  refine wpAnyH_ready (rs := [7]) (by kernel_rfl) (by simp) ?_
  refine AllReadyH.cons rfl (fun K hK => ?_) AllReadyH.nil
  go_simp
  refine (HIH.out _).mono ?_
  rintro e wc ⟨rfl, rfl⟩
  refine hK.out _ _ (hHeld) (fun hHeld2 => ?_)
  clear hK K
  replace hHeld := hHeld2
  clear hHeld2
  refine take_op (i := 8) (d := 19) (v := ?_) rfl rfl (by kernel_rfl) (by kernel_rfl) (by kernel_rfl) (fun _ _ _ h => h) (Or.inl ⟨by rfl, ?hy8y24⟩) hHeld ?rest8y24
  case hy8y24 =>
    intro w' hS'
    go_simp
    try with_reducible rfl
  simp only [List.setIfInBounds_toArray, List.set_cons_zero, List.set_cons_succ]
  refine take_op (i := 9) (d := 20) (v := undef) rfl rfl (by kernel_rfl) (by kernel_rfl) (by kernel_rfl) (fun _ _ _ h => h) (Or.inr ⟨by rfl, rfl⟩) hHeld ?_
  simp only [List.setIfInBounds_toArray, List.set_cons_zero, List.set_cons_succ]
  refine take_op (i := 10) (d := 21) (v := undef) rfl rfl (by kernel_rfl) (by kernel_rfl) (by kernel_rfl) (fun _ _ _ h => h) (Or.inr ⟨by rfl, rfl⟩) hHeld ?_
  simp only [List.setIfInBounds_toArray, List.set_cons_zero, List.set_cons_succ]
  refine take_op (i := 11) (d := 22) (v := ?_) rfl rfl (by kernel_rfl) (by kernel_rfl) (by kernel_rfl) (fun _ _ _ h => h) (Or.inl ⟨by rfl, ?hy11y25⟩) hHeld ?rest11y25
  case hy11y25 =>
    intro w' hS'
    go_simp
    try with_reducible rfl
  simp only [List.setIfInBounds_toArray, List.set_cons_zero, List.set_cons_succ]
  refine wpAnyH_ready (rs := [12]) (by kernel_rfl) (by simp) ?_
  refine AllReadyH.cons rfl (fun K hK => ?_) AllReadyH.nil
  go_simp
  refine (HRF.out _ (errs_below HX.out hHeld)).mono ?_
  rintro e we ⟨rfl, rfl⟩
  refine hK.out _ _ (hHeld) (fun hHeld2 => ?_)
  clear hK K
  replace hHeld := hHeld2
  clear hHeld2
  refine take_op (i := 13) (d := 10) (v := ?_) rfl rfl (by kernel_rfl) (by kernel_rfl) (by kernel_rfl) (fun _ _ _ h => h) (Or.inl ⟨by rfl, ?hy13y26⟩) hHeld ?rest13y26
  case hy13y26 =>
    intro w' hS'
    go_simp
    try with_reducible rfl
  simp only [List.setIfInBounds_toArray, List.set_cons_zero, List.set_cons_succ]
  refine wpAnyH_done (by kernel_rfl) ?_ _
  replace R0 := Lib.hid (below_row hHeld R0.out)
  replace R5 := Lib.hid (below_row hHeld R5.out)
  replace R6 := Lib.hid (below_row hHeld R6.out)
  replace R7 := Lib.hid (below_row hHeld R7.out)
  replace H1 := Lib.hid (below_row hHeld H1.out)
  replace HV := Lib.hid (wins_below HV.out hHeld)
  replace HX := Lib.hid (errs_below HX.out hHeld)
  replace hbz := hbz.trans (hHeld.mono hbz.size)
  clear hHeld
  go_wp2_with (first | (go_at_call 40; refine (codeOf_any HX.out 1).mono ?_; rintro e W4 ⟨rfl, rfl⟩) | (refine wpList_buildRR rfl 33 _ rfl _ rfl [] rfl (roomC 0 0 (.slice none 0 0)) built_room0 ?_) | (refine wpList_store_part rfl 33 _ _ rfl b1 0 (roomC 0 0 (.slice none 0 0)) rfl rfl 33 _ H1.out info_room (Nat.le_refl _) (room_oneN _ _) ?_; rw [laid_allr _ _ (by rfl)]))
  refine bodyPost_ret (results_rm rfl _ _ b1 0 0 (.slice none 0 0) rfl (setRow_heap _ _ _ _ _ _ H1.out)) rfl ?_
  exact ⟨rfl, below_setRow hbz (by omega) _⟩

set_option maxRecDepth 100000 in
set_option maxHeartbeats 4000000 in
theorem iLb_tftf (wd hg : Int) (sv : Value) (ws : List Wn) (hs ts : List Int) (hh : hs.length = 24) (ht : ts.length = 24) (hour north : Int) (e0 e1 e2 e3 : Addr) (w : World) (hws : WinsAt w sv ws) (hE : ErrsAt w e0 e1 e2 e3) (hv : okRm wd hg ws = true) (hs2 : okB hs ts = false) (hih : inH hour = true) (hif : inF north = false) :
    Calls Tryd.prog 11 #[.agg (roomC wd hg sv), .agg (sunC hs ts), .int .i64 hour, .int .i64 north] w fun e w' => e = .returned (.tuple #[.agg (roomC 0 0 (.slice none 0 0)), .int .i64 1]) ∧ Below w.heap.size w w' := by
  have HVR : Hid (∀ V, WinsAt V sv ws → Calls Tryd.prog 36 #[.agg (roomC wd hg sv)] V fun e w' => e = .returned (.bool true) ∧ Below V.heap.size V w') := Lib.hid (fun V h => by have := ValidRoom_any wd hg sv ws V h; rw [hv] at this; exact this)
  have HVS : Hid (∀ V, Calls Tryd.prog 37 #[.agg (sunC hs ts)] V fun e w' => e = .returned (.bool false) ∧ Below V.heap.size V w') := Lib.hid (fun V => by have := ValidSun_any hs ts hh ht V; rw [hs2] at this; exact this)
  have HIH := Lib.hid (fun V => isHour_is hour true hih V)
  have HIF := Lib.hid (fun V => isFacing_is north false hif V)
  have HRF : Hid (∀ V, ErrsAt V e0 e1 e2 e3 → Calls Tryd.prog 35 #[.bool false, .bool false, .bool true] V fun e w' => e = .returned (.iface 145 (.pointer (some e0))) ∧ V = w') := Lib.hid (fun V h => refusal_any h false false true)
  have hn := fun w => run_neq_held_nil (P := Tryd.prog) (w := w) 72 145 (.pointer (some e0)) (by kernel_rfl)
  have HW := Lib.hid hws
  have HX := Lib.hid hE
  have Hh := Lib.hid hh
  have Ht := Lib.hid ht
  clear hws hE hv hih hh ht hs2 hif
  go_enter Tryd.func11, Tryd.ntmps11
  go_upto_region 1 with (fail)
  refine abs_world (fun W => W.heap[w.heap.size]? = some (.cells (roomC wd hg sv) 33 (0, 0)) ∧ W.heap[w.heap.size + 1]? = some (.cells (sunC hs ts) 37 (0, 0)) ∧ W.heap[w.heap.size + 1 + 1]? = some (.cells #[.int .i64 hour] 2 (0, 0)) ∧ W.heap[w.heap.size + 1 + 1 + 1]? = some (.cells #[.int .i64 north] 2 (0, 0)) ∧ W.heap[w.heap.size + 1 + 1 + 1 + 1]? = some (.cells (roomC 0 0 (.slice none 0 0)) 33 (0, 0)) ∧ Below w.heap.size w W) (box5L w (.cells (roomC wd hg sv) 33) (.cells (sunC hs ts) 37) (.cells #[.int .i64 hour] 2) (.cells #[.int .i64 north] 2) (.cells (roomC 0 0 (.slice none 0 0)) 33)) ?_
  rintro W ⟨h0, h5, h6, h7, h8, hbz⟩
  generalize hb8 : w.heap.size + 1 + 1 + 1 + 1 = b1 at *
  generalize hb7 : w.heap.size + 1 + 1 + 1 = b7 at *
  generalize hb6 : w.heap.size + 1 + 1 = b6 at *
  generalize hb5 : w.heap.size + 1 = b5 at *
  have n01 : w.heap.size < b1 := by omega
  clear hb5 hb6 hb7 hb8
  have R0 := Lib.hid h0
  have R5 := Lib.hid h5
  have R6 := Lib.hid h6
  have R7 := Lib.hid h7
  have H1 := Lib.hid h8
  have HV := Lib.hid (wins_below HW.out hbz)
  replace HX := Lib.hid (errs_below HX.out hbz)
  clear h0 h5 h6 h7 h8
  refine wp_region_held_drew (S := (fun V => Below W.heap.size W V)) (by kernel_rfl) ((Below.refl _ _).drew) (fun hHeld => ?_)
  refine take_op (i := 0) (d := 11) (v := .agg (roomC wd hg sv)) rfl rfl (by kernel_rfl) (by kernel_rfl) (by kernel_rfl) (fun _ _ _ h => h) (yields_row (by rfl) 33 (.tmp 4) (by rfl) w.heap.size 0 3 (by rfl) 33 (roomC wd hg sv) (0, 0) _ (fun _ h => below_row h R0.out) Tryd.underlying33 rfl info_room (room_fits _ _ _) (roomC wd hg sv) (room_all _ _ _)) hHeld ?_
  simp only [List.setIfInBounds_toArray, List.set_cons_zero, List.set_cons_succ]
  refine take_op (i := 6) (d := 17) (v := ?_) rfl rfl (by kernel_rfl) (by kernel_rfl) (by kernel_rfl) (fun _ _ _ h => h) (Or.inl ⟨by rfl, ?hy6y27⟩) hHeld ?rest6y27
  case hy6y27 =>
    intro w' hS'
    have c6 := row_i64 (below_row hS' R6.out)
    go_simp
    try with_reducible rfl
  simp only [List.setIfInBounds_toArray, List.set_cons_zero, List.set_cons_succ]
  refine wpAnyH_ready (rs := [1]) (by kernel_rfl) (by simp) ?_
  refine AllReadyH.cons rfl (fun K hK => ?_) AllReadyH.nil
  go_simp
  refine (HVR.out _ (wins_below HV.out hHeld)).mono ?_
  rintro e Wa ⟨rfl, hb1⟩
  refine hK.out _ _ (hHeld.trans (hb1.mono hHeld.size)) (fun hHeld2 => ?_)
  clear hK K
  replace hHeld := hHeld2
  clear hHeld2
  clear hb1
  refine take_op (i := 2) (d := 13) (v := ?_) rfl rfl (by kernel_rfl) (by kernel_rfl) (by kernel_rfl) (fun _ _ _ h => h) (Or.inl ⟨by rfl, ?hy2y28⟩) hHeld ?rest2y28
  case hy2y28 =>
    intro w' hS'
    go_simp
    try with_reducible rfl
  simp only [List.setIfInBounds_toArray, List.set_cons_zero, List.set_cons_succ]
  refine take_op (i := 3) (d := 14) (v := .agg (sunC hs ts)) rfl rfl (by kernel_rfl) (by kernel_rfl) (by kernel_rfl) (fun _ _ _ h => h) (yields_row (by rfl) 37 (.tmp 5) (by rfl) b5 0 48 (by rfl) 37 (sunC hs ts) (0, 0) _ (fun _ h => below_row h R5.out) Tryd.underlying37 rfl info_sun (sun_fits _ _ Hh.out Ht.out) (sunC hs ts) (sun_all _ _ Hh.out Ht.out)) hHeld ?_
  simp only [List.setIfInBounds_toArray, List.set_cons_zero, List.set_cons_succ]
  refine wpAnyH_ready (rs := [4]) (by kernel_rfl) (by simp) ?_
  refine AllReadyH.cons rfl (fun K hK => ?_) AllReadyH.nil
  go_simp
  refine (HVS.out _).mono ?_
  rintro e Wb ⟨rfl, hb1⟩
  refine hK.out _ _ (hHeld.trans (hb1.mono hHeld.size)) (fun hHeld2 => ?_)
  clear hK K
  replace hHeld := hHeld2
  clear hHeld2
  clear hb1
  refine take_op (i := 5) (d := 16) (v := ?_) rfl rfl (by kernel_rfl) (by kernel_rfl) (by kernel_rfl) (fun _ _ _ h => h) (Or.inl ⟨by rfl, ?hy5y29⟩) hHeld ?rest5y29
  case hy5y29 =>
    intro w' hS'
    go_simp
    try with_reducible rfl
  simp only [List.setIfInBounds_toArray, List.set_cons_zero, List.set_cons_succ]
  refine wpAnyH_ready (rs := [7]) (by kernel_rfl) (by simp) ?_
  refine AllReadyH.cons rfl (fun K hK => ?_) AllReadyH.nil
  go_simp
  refine (HIH.out _).mono ?_
  rintro e wc ⟨rfl, rfl⟩
  refine hK.out _ _ (hHeld) (fun hHeld2 => ?_)
  clear hK K
  replace hHeld := hHeld2
  clear hHeld2
  refine take_op (i := 8) (d := 19) (v := ?_) rfl rfl (by kernel_rfl) (by kernel_rfl) (by kernel_rfl) (fun _ _ _ h => h) (Or.inl ⟨by rfl, ?hy8y30⟩) hHeld ?rest8y30
  case hy8y30 =>
    intro w' hS'
    go_simp
    try with_reducible rfl
  simp only [List.setIfInBounds_toArray, List.set_cons_zero, List.set_cons_succ]
  refine take_op (i := 9) (d := 20) (v := ?_) rfl rfl (by kernel_rfl) (by kernel_rfl) (by kernel_rfl) (fun _ _ _ h => h) (Or.inl ⟨by rfl, ?hy9y31⟩) hHeld ?rest9y31
  case hy9y31 =>
    intro w' hS'
    have c7 := row_i64 (below_row hS' R7.out)
    go_simp
    try with_reducible rfl
  simp only [List.setIfInBounds_toArray, List.set_cons_zero, List.set_cons_succ]
  refine wpAnyH_ready (rs := [10]) (by kernel_rfl) (by simp) ?_
  refine AllReadyH.cons rfl (fun K hK => ?_) AllReadyH.nil
  go_simp
  refine (HIF.out _).mono ?_
  rintro e wd2 ⟨rfl, rfl⟩
  refine hK.out _ _ (hHeld) (fun hHeld2 => ?_)
  clear hK K
  replace hHeld := hHeld2
  clear hHeld2
  refine take_op (i := 11) (d := 22) (v := ?_) rfl rfl (by kernel_rfl) (by kernel_rfl) (by kernel_rfl) (fun _ _ _ h => h) (Or.inl ⟨by rfl, ?hy11y32⟩) hHeld ?rest11y32
  case hy11y32 =>
    intro w' hS'
    go_simp
    try with_reducible rfl
  simp only [List.setIfInBounds_toArray, List.set_cons_zero, List.set_cons_succ]
  refine wpAnyH_ready (rs := [12]) (by kernel_rfl) (by simp) ?_
  refine AllReadyH.cons rfl (fun K hK => ?_) AllReadyH.nil
  go_simp
  refine (HRF.out _ (errs_below HX.out hHeld)).mono ?_
  rintro e we ⟨rfl, rfl⟩
  refine hK.out _ _ (hHeld) (fun hHeld2 => ?_)
  clear hK K
  replace hHeld := hHeld2
  clear hHeld2
  refine take_op (i := 13) (d := 10) (v := ?_) rfl rfl (by kernel_rfl) (by kernel_rfl) (by kernel_rfl) (fun _ _ _ h => h) (Or.inl ⟨by rfl, ?hy13y33⟩) hHeld ?rest13y33
  case hy13y33 =>
    intro w' hS'
    go_simp
    try with_reducible rfl
  simp only [List.setIfInBounds_toArray, List.set_cons_zero, List.set_cons_succ]
  refine wpAnyH_done (by kernel_rfl) ?_ _
  replace R0 := Lib.hid (below_row hHeld R0.out)
  replace R5 := Lib.hid (below_row hHeld R5.out)
  replace R6 := Lib.hid (below_row hHeld R6.out)
  replace R7 := Lib.hid (below_row hHeld R7.out)
  replace H1 := Lib.hid (below_row hHeld H1.out)
  replace HV := Lib.hid (wins_below HV.out hHeld)
  replace HX := Lib.hid (errs_below HX.out hHeld)
  replace hbz := hbz.trans (hHeld.mono hbz.size)
  clear hHeld
  go_wp2_with (first | (go_at_call 40; refine (codeOf_any HX.out 1).mono ?_; rintro e W4 ⟨rfl, rfl⟩) | (refine wpList_buildRR rfl 33 _ rfl _ rfl [] rfl (roomC 0 0 (.slice none 0 0)) built_room0 ?_) | (refine wpList_store_part rfl 33 _ _ rfl b1 0 (roomC 0 0 (.slice none 0 0)) rfl rfl 33 _ H1.out info_room (Nat.le_refl _) (room_oneN _ _) ?_; rw [laid_allr _ _ (by rfl)]))
  refine bodyPost_ret (results_rm rfl _ _ b1 0 0 (.slice none 0 0) rfl (setRow_heap _ _ _ _ _ _ H1.out)) rfl ?_
  exact ⟨rfl, below_setRow hbz (by omega) _⟩

set_option maxRecDepth 100000 in
set_option maxHeartbeats 4000000 in
theorem iLb_tftt (wd hg : Int) (sv : Value) (ws : List Wn) (hs ts : List Int) (hh : hs.length = 24) (ht : ts.length = 24) (hour north : Int) (e0 e1 e2 e3 : Addr) (w : World) (hws : WinsAt w sv ws) (hE : ErrsAt w e0 e1 e2 e3) (hv : okRm wd hg ws = true) (hs2 : okB hs ts = false) (hih : inH hour = true) (hif : inF north = true) :
    Calls Tryd.prog 11 #[.agg (roomC wd hg sv), .agg (sunC hs ts), .int .i64 hour, .int .i64 north] w fun e w' => e = .returned (.tuple #[.agg (roomC 0 0 (.slice none 0 0)), .int .i64 1]) ∧ Below w.heap.size w w' := by
  have HVR : Hid (∀ V, WinsAt V sv ws → Calls Tryd.prog 36 #[.agg (roomC wd hg sv)] V fun e w' => e = .returned (.bool true) ∧ Below V.heap.size V w') := Lib.hid (fun V h => by have := ValidRoom_any wd hg sv ws V h; rw [hv] at this; exact this)
  have HVS : Hid (∀ V, Calls Tryd.prog 37 #[.agg (sunC hs ts)] V fun e w' => e = .returned (.bool false) ∧ Below V.heap.size V w') := Lib.hid (fun V => by have := ValidSun_any hs ts hh ht V; rw [hs2] at this; exact this)
  have HIH := Lib.hid (fun V => isHour_is hour true hih V)
  have HIF := Lib.hid (fun V => isFacing_is north true hif V)
  have HRF : Hid (∀ V, ErrsAt V e0 e1 e2 e3 → Calls Tryd.prog 35 #[.bool false, .bool true, .bool true] V fun e w' => e = .returned (.iface 145 (.pointer (some e0))) ∧ V = w') := Lib.hid (fun V h => refusal_any h false true true)
  have hn := fun w => run_neq_held_nil (P := Tryd.prog) (w := w) 72 145 (.pointer (some e0)) (by kernel_rfl)
  have HW := Lib.hid hws
  have HX := Lib.hid hE
  have Hh := Lib.hid hh
  have Ht := Lib.hid ht
  clear hws hE hv hih hh ht hs2 hif
  go_enter Tryd.func11, Tryd.ntmps11
  go_upto_region 1 with (fail)
  refine abs_world (fun W => W.heap[w.heap.size]? = some (.cells (roomC wd hg sv) 33 (0, 0)) ∧ W.heap[w.heap.size + 1]? = some (.cells (sunC hs ts) 37 (0, 0)) ∧ W.heap[w.heap.size + 1 + 1]? = some (.cells #[.int .i64 hour] 2 (0, 0)) ∧ W.heap[w.heap.size + 1 + 1 + 1]? = some (.cells #[.int .i64 north] 2 (0, 0)) ∧ W.heap[w.heap.size + 1 + 1 + 1 + 1]? = some (.cells (roomC 0 0 (.slice none 0 0)) 33 (0, 0)) ∧ Below w.heap.size w W) (box5L w (.cells (roomC wd hg sv) 33) (.cells (sunC hs ts) 37) (.cells #[.int .i64 hour] 2) (.cells #[.int .i64 north] 2) (.cells (roomC 0 0 (.slice none 0 0)) 33)) ?_
  rintro W ⟨h0, h5, h6, h7, h8, hbz⟩
  generalize hb8 : w.heap.size + 1 + 1 + 1 + 1 = b1 at *
  generalize hb7 : w.heap.size + 1 + 1 + 1 = b7 at *
  generalize hb6 : w.heap.size + 1 + 1 = b6 at *
  generalize hb5 : w.heap.size + 1 = b5 at *
  have n01 : w.heap.size < b1 := by omega
  clear hb5 hb6 hb7 hb8
  have R0 := Lib.hid h0
  have R5 := Lib.hid h5
  have R6 := Lib.hid h6
  have R7 := Lib.hid h7
  have H1 := Lib.hid h8
  have HV := Lib.hid (wins_below HW.out hbz)
  replace HX := Lib.hid (errs_below HX.out hbz)
  clear h0 h5 h6 h7 h8
  refine wp_region_held_drew (S := (fun V => Below W.heap.size W V)) (by kernel_rfl) ((Below.refl _ _).drew) (fun hHeld => ?_)
  refine take_op (i := 0) (d := 11) (v := .agg (roomC wd hg sv)) rfl rfl (by kernel_rfl) (by kernel_rfl) (by kernel_rfl) (fun _ _ _ h => h) (yields_row (by rfl) 33 (.tmp 4) (by rfl) w.heap.size 0 3 (by rfl) 33 (roomC wd hg sv) (0, 0) _ (fun _ h => below_row h R0.out) Tryd.underlying33 rfl info_room (room_fits _ _ _) (roomC wd hg sv) (room_all _ _ _)) hHeld ?_
  simp only [List.setIfInBounds_toArray, List.set_cons_zero, List.set_cons_succ]
  refine take_op (i := 6) (d := 17) (v := ?_) rfl rfl (by kernel_rfl) (by kernel_rfl) (by kernel_rfl) (fun _ _ _ h => h) (Or.inl ⟨by rfl, ?hy6y34⟩) hHeld ?rest6y34
  case hy6y34 =>
    intro w' hS'
    have c6 := row_i64 (below_row hS' R6.out)
    go_simp
    try with_reducible rfl
  simp only [List.setIfInBounds_toArray, List.set_cons_zero, List.set_cons_succ]
  refine wpAnyH_ready (rs := [1]) (by kernel_rfl) (by simp) ?_
  refine AllReadyH.cons rfl (fun K hK => ?_) AllReadyH.nil
  go_simp
  refine (HVR.out _ (wins_below HV.out hHeld)).mono ?_
  rintro e Wa ⟨rfl, hb1⟩
  refine hK.out _ _ (hHeld.trans (hb1.mono hHeld.size)) (fun hHeld2 => ?_)
  clear hK K
  replace hHeld := hHeld2
  clear hHeld2
  clear hb1
  refine take_op (i := 2) (d := 13) (v := ?_) rfl rfl (by kernel_rfl) (by kernel_rfl) (by kernel_rfl) (fun _ _ _ h => h) (Or.inl ⟨by rfl, ?hy2y35⟩) hHeld ?rest2y35
  case hy2y35 =>
    intro w' hS'
    go_simp
    try with_reducible rfl
  simp only [List.setIfInBounds_toArray, List.set_cons_zero, List.set_cons_succ]
  refine take_op (i := 3) (d := 14) (v := .agg (sunC hs ts)) rfl rfl (by kernel_rfl) (by kernel_rfl) (by kernel_rfl) (fun _ _ _ h => h) (yields_row (by rfl) 37 (.tmp 5) (by rfl) b5 0 48 (by rfl) 37 (sunC hs ts) (0, 0) _ (fun _ h => below_row h R5.out) Tryd.underlying37 rfl info_sun (sun_fits _ _ Hh.out Ht.out) (sunC hs ts) (sun_all _ _ Hh.out Ht.out)) hHeld ?_
  simp only [List.setIfInBounds_toArray, List.set_cons_zero, List.set_cons_succ]
  refine wpAnyH_ready (rs := [4]) (by kernel_rfl) (by simp) ?_
  refine AllReadyH.cons rfl (fun K hK => ?_) AllReadyH.nil
  go_simp
  refine (HVS.out _).mono ?_
  rintro e Wb ⟨rfl, hb1⟩
  refine hK.out _ _ (hHeld.trans (hb1.mono hHeld.size)) (fun hHeld2 => ?_)
  clear hK K
  replace hHeld := hHeld2
  clear hHeld2
  clear hb1
  refine take_op (i := 5) (d := 16) (v := ?_) rfl rfl (by kernel_rfl) (by kernel_rfl) (by kernel_rfl) (fun _ _ _ h => h) (Or.inl ⟨by rfl, ?hy5y36⟩) hHeld ?rest5y36
  case hy5y36 =>
    intro w' hS'
    go_simp
    try with_reducible rfl
  simp only [List.setIfInBounds_toArray, List.set_cons_zero, List.set_cons_succ]
  refine wpAnyH_ready (rs := [7]) (by kernel_rfl) (by simp) ?_
  refine AllReadyH.cons rfl (fun K hK => ?_) AllReadyH.nil
  go_simp
  refine (HIH.out _).mono ?_
  rintro e wc ⟨rfl, rfl⟩
  refine hK.out _ _ (hHeld) (fun hHeld2 => ?_)
  clear hK K
  replace hHeld := hHeld2
  clear hHeld2
  refine take_op (i := 8) (d := 19) (v := ?_) rfl rfl (by kernel_rfl) (by kernel_rfl) (by kernel_rfl) (fun _ _ _ h => h) (Or.inl ⟨by rfl, ?hy8y37⟩) hHeld ?rest8y37
  case hy8y37 =>
    intro w' hS'
    go_simp
    try with_reducible rfl
  simp only [List.setIfInBounds_toArray, List.set_cons_zero, List.set_cons_succ]
  refine take_op (i := 9) (d := 20) (v := ?_) rfl rfl (by kernel_rfl) (by kernel_rfl) (by kernel_rfl) (fun _ _ _ h => h) (Or.inl ⟨by rfl, ?hy9y38⟩) hHeld ?rest9y38
  case hy9y38 =>
    intro w' hS'
    have c7 := row_i64 (below_row hS' R7.out)
    go_simp
    try with_reducible rfl
  simp only [List.setIfInBounds_toArray, List.set_cons_zero, List.set_cons_succ]
  refine wpAnyH_ready (rs := [10]) (by kernel_rfl) (by simp) ?_
  refine AllReadyH.cons rfl (fun K hK => ?_) AllReadyH.nil
  go_simp
  refine (HIF.out _).mono ?_
  rintro e wd2 ⟨rfl, rfl⟩
  refine hK.out _ _ (hHeld) (fun hHeld2 => ?_)
  clear hK K
  replace hHeld := hHeld2
  clear hHeld2
  refine take_op (i := 11) (d := 22) (v := ?_) rfl rfl (by kernel_rfl) (by kernel_rfl) (by kernel_rfl) (fun _ _ _ h => h) (Or.inl ⟨by rfl, ?hy11y39⟩) hHeld ?rest11y39
  case hy11y39 =>
    intro w' hS'
    go_simp
    try with_reducible rfl
  simp only [List.setIfInBounds_toArray, List.set_cons_zero, List.set_cons_succ]
  refine wpAnyH_ready (rs := [12]) (by kernel_rfl) (by simp) ?_
  refine AllReadyH.cons rfl (fun K hK => ?_) AllReadyH.nil
  go_simp
  refine (HRF.out _ (errs_below HX.out hHeld)).mono ?_
  rintro e we ⟨rfl, rfl⟩
  refine hK.out _ _ (hHeld) (fun hHeld2 => ?_)
  clear hK K
  replace hHeld := hHeld2
  clear hHeld2
  refine take_op (i := 13) (d := 10) (v := ?_) rfl rfl (by kernel_rfl) (by kernel_rfl) (by kernel_rfl) (fun _ _ _ h => h) (Or.inl ⟨by rfl, ?hy13y40⟩) hHeld ?rest13y40
  case hy13y40 =>
    intro w' hS'
    go_simp
    try with_reducible rfl
  simp only [List.setIfInBounds_toArray, List.set_cons_zero, List.set_cons_succ]
  refine wpAnyH_done (by kernel_rfl) ?_ _
  replace R0 := Lib.hid (below_row hHeld R0.out)
  replace R5 := Lib.hid (below_row hHeld R5.out)
  replace R6 := Lib.hid (below_row hHeld R6.out)
  replace R7 := Lib.hid (below_row hHeld R7.out)
  replace H1 := Lib.hid (below_row hHeld H1.out)
  replace HV := Lib.hid (wins_below HV.out hHeld)
  replace HX := Lib.hid (errs_below HX.out hHeld)
  replace hbz := hbz.trans (hHeld.mono hbz.size)
  clear hHeld
  go_wp2_with (first | (go_at_call 40; refine (codeOf_any HX.out 1).mono ?_; rintro e W4 ⟨rfl, rfl⟩) | (refine wpList_buildRR rfl 33 _ rfl _ rfl [] rfl (roomC 0 0 (.slice none 0 0)) built_room0 ?_) | (refine wpList_store_part rfl 33 _ _ rfl b1 0 (roomC 0 0 (.slice none 0 0)) rfl rfl 33 _ H1.out info_room (Nat.le_refl _) (room_oneN _ _) ?_; rw [laid_allr _ _ (by rfl)]))
  refine bodyPost_ret (results_rm rfl _ _ b1 0 0 (.slice none 0 0) rfl (setRow_heap _ _ _ _ _ _ H1.out)) rfl ?_
  exact ⟨rfl, below_setRow hbz (by omega) _⟩

set_option maxRecDepth 100000 in
set_option maxHeartbeats 4000000 in
theorem iLb_ttff (wd hg : Int) (sv : Value) (ws : List Wn) (hs ts : List Int) (hh : hs.length = 24) (ht : ts.length = 24) (hour north : Int) (e0 e1 e2 e3 : Addr) (w : World) (hws : WinsAt w sv ws) (hE : ErrsAt w e0 e1 e2 e3) (hv : okRm wd hg ws = true) (hs2 : okB hs ts = true) (hih : inH hour = false) :
    Calls Tryd.prog 11 #[.agg (roomC wd hg sv), .agg (sunC hs ts), .int .i64 hour, .int .i64 north] w fun e w' => e = .returned (.tuple #[.agg (roomC 0 0 (.slice none 0 0)), .int .i64 2]) ∧ Below w.heap.size w w' := by
  have HVR : Hid (∀ V, WinsAt V sv ws → Calls Tryd.prog 36 #[.agg (roomC wd hg sv)] V fun e w' => e = .returned (.bool true) ∧ Below V.heap.size V w') := Lib.hid (fun V h => by have := ValidRoom_any wd hg sv ws V h; rw [hv] at this; exact this)
  have HVS : Hid (∀ V, Calls Tryd.prog 37 #[.agg (sunC hs ts)] V fun e w' => e = .returned (.bool true) ∧ Below V.heap.size V w') := Lib.hid (fun V => by have := ValidSun_any hs ts hh ht V; rw [hs2] at this; exact this)
  have HIH := Lib.hid (fun V => isHour_is hour false hih V)
  have HRF : Hid (∀ V, ErrsAt V e0 e1 e2 e3 → Calls Tryd.prog 35 #[.bool true, .bool false, .bool true] V fun e w' => e = .returned (.iface 145 (.pointer (some e1))) ∧ V = w') := Lib.hid (fun V h => refusal_any h true false true)
  have hn := fun w => run_neq_held_nil (P := Tryd.prog) (w := w) 72 145 (.pointer (some e1)) (by kernel_rfl)
  have HW := Lib.hid hws
  have HX := Lib.hid hE
  have Hh := Lib.hid hh
  have Ht := Lib.hid ht
  clear hws hE hv hih hh ht hs2
  go_enter Tryd.func11, Tryd.ntmps11
  go_upto_region 1 with (fail)
  refine abs_world (fun W => W.heap[w.heap.size]? = some (.cells (roomC wd hg sv) 33 (0, 0)) ∧ W.heap[w.heap.size + 1]? = some (.cells (sunC hs ts) 37 (0, 0)) ∧ W.heap[w.heap.size + 1 + 1]? = some (.cells #[.int .i64 hour] 2 (0, 0)) ∧ W.heap[w.heap.size + 1 + 1 + 1]? = some (.cells #[.int .i64 north] 2 (0, 0)) ∧ W.heap[w.heap.size + 1 + 1 + 1 + 1]? = some (.cells (roomC 0 0 (.slice none 0 0)) 33 (0, 0)) ∧ Below w.heap.size w W) (box5L w (.cells (roomC wd hg sv) 33) (.cells (sunC hs ts) 37) (.cells #[.int .i64 hour] 2) (.cells #[.int .i64 north] 2) (.cells (roomC 0 0 (.slice none 0 0)) 33)) ?_
  rintro W ⟨h0, h5, h6, h7, h8, hbz⟩
  generalize hb8 : w.heap.size + 1 + 1 + 1 + 1 = b1 at *
  generalize hb7 : w.heap.size + 1 + 1 + 1 = b7 at *
  generalize hb6 : w.heap.size + 1 + 1 = b6 at *
  generalize hb5 : w.heap.size + 1 = b5 at *
  have n01 : w.heap.size < b1 := by omega
  clear hb5 hb6 hb7 hb8
  have R0 := Lib.hid h0
  have R5 := Lib.hid h5
  have R6 := Lib.hid h6
  have R7 := Lib.hid h7
  have H1 := Lib.hid h8
  have HV := Lib.hid (wins_below HW.out hbz)
  replace HX := Lib.hid (errs_below HX.out hbz)
  clear h0 h5 h6 h7 h8
  refine wp_region_held_drew (S := (fun V => Below W.heap.size W V)) (by kernel_rfl) ((Below.refl _ _).drew) (fun hHeld => ?_)
  refine take_op (i := 0) (d := 11) (v := .agg (roomC wd hg sv)) rfl rfl (by kernel_rfl) (by kernel_rfl) (by kernel_rfl) (fun _ _ _ h => h) (yields_row (by rfl) 33 (.tmp 4) (by rfl) w.heap.size 0 3 (by rfl) 33 (roomC wd hg sv) (0, 0) _ (fun _ h => below_row h R0.out) Tryd.underlying33 rfl info_room (room_fits _ _ _) (roomC wd hg sv) (room_all _ _ _)) hHeld ?_
  simp only [List.setIfInBounds_toArray, List.set_cons_zero, List.set_cons_succ]
  refine take_op (i := 6) (d := 17) (v := ?_) rfl rfl (by kernel_rfl) (by kernel_rfl) (by kernel_rfl) (fun _ _ _ h => h) (Or.inl ⟨by rfl, ?hy6y41⟩) hHeld ?rest6y41
  case hy6y41 =>
    intro w' hS'
    have c6 := row_i64 (below_row hS' R6.out)
    go_simp
    try with_reducible rfl
  simp only [List.setIfInBounds_toArray, List.set_cons_zero, List.set_cons_succ]
  refine wpAnyH_ready (rs := [1]) (by kernel_rfl) (by simp) ?_
  refine AllReadyH.cons rfl (fun K hK => ?_) AllReadyH.nil
  go_simp
  refine (HVR.out _ (wins_below HV.out hHeld)).mono ?_
  rintro e Wa ⟨rfl, hb1⟩
  refine hK.out _ _ (hHeld.trans (hb1.mono hHeld.size)) (fun hHeld2 => ?_)
  clear hK K
  replace hHeld := hHeld2
  clear hHeld2
  clear hb1
  refine take_op (i := 2) (d := 13) (v := ?_) rfl rfl (by kernel_rfl) (by kernel_rfl) (by kernel_rfl) (fun _ _ _ h => h) (Or.inl ⟨by rfl, ?hy2y42⟩) hHeld ?rest2y42
  case hy2y42 =>
    intro w' hS'
    go_simp
    try with_reducible rfl
  simp only [List.setIfInBounds_toArray, List.set_cons_zero, List.set_cons_succ]
  refine take_op (i := 3) (d := 14) (v := .agg (sunC hs ts)) rfl rfl (by kernel_rfl) (by kernel_rfl) (by kernel_rfl) (fun _ _ _ h => h) (yields_row (by rfl) 37 (.tmp 5) (by rfl) b5 0 48 (by rfl) 37 (sunC hs ts) (0, 0) _ (fun _ h => below_row h R5.out) Tryd.underlying37 rfl info_sun (sun_fits _ _ Hh.out Ht.out) (sunC hs ts) (sun_all _ _ Hh.out Ht.out)) hHeld ?_
  simp only [List.setIfInBounds_toArray, List.set_cons_zero, List.set_cons_succ]
  refine wpAnyH_ready (rs := [4]) (by kernel_rfl) (by simp) ?_
  refine AllReadyH.cons rfl (fun K hK => ?_) AllReadyH.nil
  go_simp
  refine (HVS.out _).mono ?_
  rintro e Wb ⟨rfl, hb1⟩
  refine hK.out _ _ (hHeld.trans (hb1.mono hHeld.size)) (fun hHeld2 => ?_)
  clear hK K
  replace hHeld := hHeld2
  clear hHeld2
  clear hb1
  refine take_op (i := 5) (d := 16) (v := ?_) rfl rfl (by kernel_rfl) (by kernel_rfl) (by kernel_rfl) (fun _ _ _ h => h) (Or.inl ⟨by rfl, ?hy5y43⟩) hHeld ?rest5y43
  case hy5y43 =>
    intro w' hS'
    go_simp
    try with_reducible rfl
  simp only [List.setIfInBounds_toArray, List.set_cons_zero, List.set_cons_succ]
  refine wpAnyH_ready (rs := [7]) (by kernel_rfl) (by simp) ?_
  refine AllReadyH.cons rfl (fun K hK => ?_) AllReadyH.nil
  go_simp
  refine (HIH.out _).mono ?_
  rintro e wc ⟨rfl, rfl⟩
  refine hK.out _ _ (hHeld) (fun hHeld2 => ?_)
  clear hK K
  replace hHeld := hHeld2
  clear hHeld2
  refine take_op (i := 8) (d := 19) (v := ?_) rfl rfl (by kernel_rfl) (by kernel_rfl) (by kernel_rfl) (fun _ _ _ h => h) (Or.inl ⟨by rfl, ?hy8y44⟩) hHeld ?rest8y44
  case hy8y44 =>
    intro w' hS'
    go_simp
    try with_reducible rfl
  simp only [List.setIfInBounds_toArray, List.set_cons_zero, List.set_cons_succ]
  refine take_op (i := 9) (d := 20) (v := undef) rfl rfl (by kernel_rfl) (by kernel_rfl) (by kernel_rfl) (fun _ _ _ h => h) (Or.inr ⟨by rfl, rfl⟩) hHeld ?_
  simp only [List.setIfInBounds_toArray, List.set_cons_zero, List.set_cons_succ]
  refine take_op (i := 10) (d := 21) (v := undef) rfl rfl (by kernel_rfl) (by kernel_rfl) (by kernel_rfl) (fun _ _ _ h => h) (Or.inr ⟨by rfl, rfl⟩) hHeld ?_
  simp only [List.setIfInBounds_toArray, List.set_cons_zero, List.set_cons_succ]
  refine take_op (i := 11) (d := 22) (v := ?_) rfl rfl (by kernel_rfl) (by kernel_rfl) (by kernel_rfl) (fun _ _ _ h => h) (Or.inl ⟨by rfl, ?hy11y45⟩) hHeld ?rest11y45
  case hy11y45 =>
    intro w' hS'
    go_simp
    try with_reducible rfl
  simp only [List.setIfInBounds_toArray, List.set_cons_zero, List.set_cons_succ]
  refine wpAnyH_ready (rs := [12]) (by kernel_rfl) (by simp) ?_
  refine AllReadyH.cons rfl (fun K hK => ?_) AllReadyH.nil
  go_simp
  refine (HRF.out _ (errs_below HX.out hHeld)).mono ?_
  rintro e we ⟨rfl, rfl⟩
  refine hK.out _ _ (hHeld) (fun hHeld2 => ?_)
  clear hK K
  replace hHeld := hHeld2
  clear hHeld2
  refine take_op (i := 13) (d := 10) (v := ?_) rfl rfl (by kernel_rfl) (by kernel_rfl) (by kernel_rfl) (fun _ _ _ h => h) (Or.inl ⟨by rfl, ?hy13y46⟩) hHeld ?rest13y46
  case hy13y46 =>
    intro w' hS'
    go_simp
    try with_reducible rfl
  simp only [List.setIfInBounds_toArray, List.set_cons_zero, List.set_cons_succ]
  refine wpAnyH_done (by kernel_rfl) ?_ _
  replace R0 := Lib.hid (below_row hHeld R0.out)
  replace R5 := Lib.hid (below_row hHeld R5.out)
  replace R6 := Lib.hid (below_row hHeld R6.out)
  replace R7 := Lib.hid (below_row hHeld R7.out)
  replace H1 := Lib.hid (below_row hHeld H1.out)
  replace HV := Lib.hid (wins_below HV.out hHeld)
  replace HX := Lib.hid (errs_below HX.out hHeld)
  replace hbz := hbz.trans (hHeld.mono hbz.size)
  clear hHeld
  go_wp2_with (first | (go_at_call 40; refine (codeOf_any HX.out 2).mono ?_; rintro e W4 ⟨rfl, rfl⟩) | (refine wpList_buildRR rfl 33 _ rfl _ rfl [] rfl (roomC 0 0 (.slice none 0 0)) built_room0 ?_) | (refine wpList_store_part rfl 33 _ _ rfl b1 0 (roomC 0 0 (.slice none 0 0)) rfl rfl 33 _ H1.out info_room (Nat.le_refl _) (room_oneN _ _) ?_; rw [laid_allr _ _ (by rfl)]))
  refine bodyPost_ret (results_rm rfl _ _ b1 0 0 (.slice none 0 0) rfl (setRow_heap _ _ _ _ _ _ H1.out)) rfl ?_
  exact ⟨rfl, below_setRow hbz (by omega) _⟩

set_option maxRecDepth 100000 in
set_option maxHeartbeats 4000000 in
theorem iLb_tttf (wd hg : Int) (sv : Value) (ws : List Wn) (hs ts : List Int) (hh : hs.length = 24) (ht : ts.length = 24) (hour north : Int) (e0 e1 e2 e3 : Addr) (w : World) (hws : WinsAt w sv ws) (hE : ErrsAt w e0 e1 e2 e3) (hv : okRm wd hg ws = true) (hs2 : okB hs ts = true) (hih : inH hour = true) (hif : inF north = false) :
    Calls Tryd.prog 11 #[.agg (roomC wd hg sv), .agg (sunC hs ts), .int .i64 hour, .int .i64 north] w fun e w' => e = .returned (.tuple #[.agg (roomC 0 0 (.slice none 0 0)), .int .i64 2]) ∧ Below w.heap.size w w' := by
  have HVR : Hid (∀ V, WinsAt V sv ws → Calls Tryd.prog 36 #[.agg (roomC wd hg sv)] V fun e w' => e = .returned (.bool true) ∧ Below V.heap.size V w') := Lib.hid (fun V h => by have := ValidRoom_any wd hg sv ws V h; rw [hv] at this; exact this)
  have HVS : Hid (∀ V, Calls Tryd.prog 37 #[.agg (sunC hs ts)] V fun e w' => e = .returned (.bool true) ∧ Below V.heap.size V w') := Lib.hid (fun V => by have := ValidSun_any hs ts hh ht V; rw [hs2] at this; exact this)
  have HIH := Lib.hid (fun V => isHour_is hour true hih V)
  have HIF := Lib.hid (fun V => isFacing_is north false hif V)
  have HRF : Hid (∀ V, ErrsAt V e0 e1 e2 e3 → Calls Tryd.prog 35 #[.bool true, .bool false, .bool true] V fun e w' => e = .returned (.iface 145 (.pointer (some e1))) ∧ V = w') := Lib.hid (fun V h => refusal_any h true false true)
  have hn := fun w => run_neq_held_nil (P := Tryd.prog) (w := w) 72 145 (.pointer (some e1)) (by kernel_rfl)
  have HW := Lib.hid hws
  have HX := Lib.hid hE
  have Hh := Lib.hid hh
  have Ht := Lib.hid ht
  clear hws hE hv hih hh ht hs2 hif
  go_enter Tryd.func11, Tryd.ntmps11
  go_upto_region 1 with (fail)
  refine abs_world (fun W => W.heap[w.heap.size]? = some (.cells (roomC wd hg sv) 33 (0, 0)) ∧ W.heap[w.heap.size + 1]? = some (.cells (sunC hs ts) 37 (0, 0)) ∧ W.heap[w.heap.size + 1 + 1]? = some (.cells #[.int .i64 hour] 2 (0, 0)) ∧ W.heap[w.heap.size + 1 + 1 + 1]? = some (.cells #[.int .i64 north] 2 (0, 0)) ∧ W.heap[w.heap.size + 1 + 1 + 1 + 1]? = some (.cells (roomC 0 0 (.slice none 0 0)) 33 (0, 0)) ∧ Below w.heap.size w W) (box5L w (.cells (roomC wd hg sv) 33) (.cells (sunC hs ts) 37) (.cells #[.int .i64 hour] 2) (.cells #[.int .i64 north] 2) (.cells (roomC 0 0 (.slice none 0 0)) 33)) ?_
  rintro W ⟨h0, h5, h6, h7, h8, hbz⟩
  generalize hb8 : w.heap.size + 1 + 1 + 1 + 1 = b1 at *
  generalize hb7 : w.heap.size + 1 + 1 + 1 = b7 at *
  generalize hb6 : w.heap.size + 1 + 1 = b6 at *
  generalize hb5 : w.heap.size + 1 = b5 at *
  have n01 : w.heap.size < b1 := by omega
  clear hb5 hb6 hb7 hb8
  have R0 := Lib.hid h0
  have R5 := Lib.hid h5
  have R6 := Lib.hid h6
  have R7 := Lib.hid h7
  have H1 := Lib.hid h8
  have HV := Lib.hid (wins_below HW.out hbz)
  replace HX := Lib.hid (errs_below HX.out hbz)
  clear h0 h5 h6 h7 h8
  refine wp_region_held_drew (S := (fun V => Below W.heap.size W V)) (by kernel_rfl) ((Below.refl _ _).drew) (fun hHeld => ?_)
  refine take_op (i := 0) (d := 11) (v := .agg (roomC wd hg sv)) rfl rfl (by kernel_rfl) (by kernel_rfl) (by kernel_rfl) (fun _ _ _ h => h) (yields_row (by rfl) 33 (.tmp 4) (by rfl) w.heap.size 0 3 (by rfl) 33 (roomC wd hg sv) (0, 0) _ (fun _ h => below_row h R0.out) Tryd.underlying33 rfl info_room (room_fits _ _ _) (roomC wd hg sv) (room_all _ _ _)) hHeld ?_
  simp only [List.setIfInBounds_toArray, List.set_cons_zero, List.set_cons_succ]
  refine take_op (i := 6) (d := 17) (v := ?_) rfl rfl (by kernel_rfl) (by kernel_rfl) (by kernel_rfl) (fun _ _ _ h => h) (Or.inl ⟨by rfl, ?hy6y47⟩) hHeld ?rest6y47
  case hy6y47 =>
    intro w' hS'
    have c6 := row_i64 (below_row hS' R6.out)
    go_simp
    try with_reducible rfl
  simp only [List.setIfInBounds_toArray, List.set_cons_zero, List.set_cons_succ]
  refine wpAnyH_ready (rs := [1]) (by kernel_rfl) (by simp) ?_
  refine AllReadyH.cons rfl (fun K hK => ?_) AllReadyH.nil
  go_simp
  refine (HVR.out _ (wins_below HV.out hHeld)).mono ?_
  rintro e Wa ⟨rfl, hb1⟩
  refine hK.out _ _ (hHeld.trans (hb1.mono hHeld.size)) (fun hHeld2 => ?_)
  clear hK K
  replace hHeld := hHeld2
  clear hHeld2
  clear hb1
  refine take_op (i := 2) (d := 13) (v := ?_) rfl rfl (by kernel_rfl) (by kernel_rfl) (by kernel_rfl) (fun _ _ _ h => h) (Or.inl ⟨by rfl, ?hy2y48⟩) hHeld ?rest2y48
  case hy2y48 =>
    intro w' hS'
    go_simp
    try with_reducible rfl
  simp only [List.setIfInBounds_toArray, List.set_cons_zero, List.set_cons_succ]
  refine take_op (i := 3) (d := 14) (v := .agg (sunC hs ts)) rfl rfl (by kernel_rfl) (by kernel_rfl) (by kernel_rfl) (fun _ _ _ h => h) (yields_row (by rfl) 37 (.tmp 5) (by rfl) b5 0 48 (by rfl) 37 (sunC hs ts) (0, 0) _ (fun _ h => below_row h R5.out) Tryd.underlying37 rfl info_sun (sun_fits _ _ Hh.out Ht.out) (sunC hs ts) (sun_all _ _ Hh.out Ht.out)) hHeld ?_
  simp only [List.setIfInBounds_toArray, List.set_cons_zero, List.set_cons_succ]
  refine wpAnyH_ready (rs := [4]) (by kernel_rfl) (by simp) ?_
  refine AllReadyH.cons rfl (fun K hK => ?_) AllReadyH.nil
  go_simp
  refine (HVS.out _).mono ?_
  rintro e Wb ⟨rfl, hb1⟩
  refine hK.out _ _ (hHeld.trans (hb1.mono hHeld.size)) (fun hHeld2 => ?_)
  clear hK K
  replace hHeld := hHeld2
  clear hHeld2
  clear hb1
  refine take_op (i := 5) (d := 16) (v := ?_) rfl rfl (by kernel_rfl) (by kernel_rfl) (by kernel_rfl) (fun _ _ _ h => h) (Or.inl ⟨by rfl, ?hy5y49⟩) hHeld ?rest5y49
  case hy5y49 =>
    intro w' hS'
    go_simp
    try with_reducible rfl
  simp only [List.setIfInBounds_toArray, List.set_cons_zero, List.set_cons_succ]
  refine wpAnyH_ready (rs := [7]) (by kernel_rfl) (by simp) ?_
  refine AllReadyH.cons rfl (fun K hK => ?_) AllReadyH.nil
  go_simp
  refine (HIH.out _).mono ?_
  rintro e wc ⟨rfl, rfl⟩
  refine hK.out _ _ (hHeld) (fun hHeld2 => ?_)
  clear hK K
  replace hHeld := hHeld2
  clear hHeld2
  refine take_op (i := 8) (d := 19) (v := ?_) rfl rfl (by kernel_rfl) (by kernel_rfl) (by kernel_rfl) (fun _ _ _ h => h) (Or.inl ⟨by rfl, ?hy8y50⟩) hHeld ?rest8y50
  case hy8y50 =>
    intro w' hS'
    go_simp
    try with_reducible rfl
  simp only [List.setIfInBounds_toArray, List.set_cons_zero, List.set_cons_succ]
  refine take_op (i := 9) (d := 20) (v := ?_) rfl rfl (by kernel_rfl) (by kernel_rfl) (by kernel_rfl) (fun _ _ _ h => h) (Or.inl ⟨by rfl, ?hy9y51⟩) hHeld ?rest9y51
  case hy9y51 =>
    intro w' hS'
    have c7 := row_i64 (below_row hS' R7.out)
    go_simp
    try with_reducible rfl
  simp only [List.setIfInBounds_toArray, List.set_cons_zero, List.set_cons_succ]
  refine wpAnyH_ready (rs := [10]) (by kernel_rfl) (by simp) ?_
  refine AllReadyH.cons rfl (fun K hK => ?_) AllReadyH.nil
  go_simp
  refine (HIF.out _).mono ?_
  rintro e wd2 ⟨rfl, rfl⟩
  refine hK.out _ _ (hHeld) (fun hHeld2 => ?_)
  clear hK K
  replace hHeld := hHeld2
  clear hHeld2
  refine take_op (i := 11) (d := 22) (v := ?_) rfl rfl (by kernel_rfl) (by kernel_rfl) (by kernel_rfl) (fun _ _ _ h => h) (Or.inl ⟨by rfl, ?hy11y52⟩) hHeld ?rest11y52
  case hy11y52 =>
    intro w' hS'
    go_simp
    try with_reducible rfl
  simp only [List.setIfInBounds_toArray, List.set_cons_zero, List.set_cons_succ]
  refine wpAnyH_ready (rs := [12]) (by kernel_rfl) (by simp) ?_
  refine AllReadyH.cons rfl (fun K hK => ?_) AllReadyH.nil
  go_simp
  refine (HRF.out _ (errs_below HX.out hHeld)).mono ?_
  rintro e we ⟨rfl, rfl⟩
  refine hK.out _ _ (hHeld) (fun hHeld2 => ?_)
  clear hK K
  replace hHeld := hHeld2
  clear hHeld2
  refine take_op (i := 13) (d := 10) (v := ?_) rfl rfl (by kernel_rfl) (by kernel_rfl) (by kernel_rfl) (fun _ _ _ h => h) (Or.inl ⟨by rfl, ?hy13y53⟩) hHeld ?rest13y53
  case hy13y53 =>
    intro w' hS'
    go_simp
    try with_reducible rfl
  simp only [List.setIfInBounds_toArray, List.set_cons_zero, List.set_cons_succ]
  refine wpAnyH_done (by kernel_rfl) ?_ _
  replace R0 := Lib.hid (below_row hHeld R0.out)
  replace R5 := Lib.hid (below_row hHeld R5.out)
  replace R6 := Lib.hid (below_row hHeld R6.out)
  replace R7 := Lib.hid (below_row hHeld R7.out)
  replace H1 := Lib.hid (below_row hHeld H1.out)
  replace HV := Lib.hid (wins_below HV.out hHeld)
  replace HX := Lib.hid (errs_below HX.out hHeld)
  replace hbz := hbz.trans (hHeld.mono hbz.size)
  clear hHeld
  go_wp2_with (first | (go_at_call 40; refine (codeOf_any HX.out 2).mono ?_; rintro e W4 ⟨rfl, rfl⟩) | (refine wpList_buildRR rfl 33 _ rfl _ rfl [] rfl (roomC 0 0 (.slice none 0 0)) built_room0 ?_) | (refine wpList_store_part rfl 33 _ _ rfl b1 0 (roomC 0 0 (.slice none 0 0)) rfl rfl 33 _ H1.out info_room (Nat.le_refl _) (room_oneN _ _) ?_; rw [laid_allr _ _ (by rfl)]))
  refine bodyPost_ret (results_rm rfl _ _ b1 0 0 (.slice none 0 0) rfl (setRow_heap _ _ _ _ _ _ H1.out)) rfl ?_
  exact ⟨rfl, below_setRow hbz (by omega) _⟩

set_option maxRecDepth 100000 in
set_option maxHeartbeats 4000000 in
theorem iLb_y (wd hg : Int) (sv : Value) (ws : List Wn) (hs ts : List Int) (hh : hs.length = 24) (ht : ts.length = 24) (hour north : Int) (e0 e1 e2 e3 : Addr) (w : World) (hws : WinsAt w sv ws) (hE : ErrsAt w e0 e1 e2 e3) (ok : RmOk wd hg ws) (hwf : ∀ x ∈ ws, WnWf x) (q : ∀ fc, 0 ≤ fc → fc ≤ 255 → HrOk hs ts hour fc) (n0 : 0 ≤ north) (n1 : north ≤ 255) (hv : okRm wd hg ws = true) (hs2 : okB hs ts = true) (hih : inH hour = true) (hif : inF north = true) :
    Calls Tryd.prog 11 #[.agg (roomC wd hg sv), .agg (sunC hs ts), .int .i64 hour, .int .i64 north] w fun e w' => (∃ v, e = .returned (.tuple #[.agg (roomC wd hg v), .int .i64 0]) ∧ OwnQ w' w.heap.size v (ws.map (litS hs ts hour north))) ∧ Below w.heap.size w w' := by
  have HVR : Hid (∀ V, WinsAt V sv ws → Calls Tryd.prog 36 #[.agg (roomC wd hg sv)] V fun e w' => e = .returned (.bool true) ∧ Below V.heap.size V w') := Lib.hid (fun V h => by have := ValidRoom_any wd hg sv ws V h; rw [hv] at this; exact this)
  have HVS : Hid (∀ V, Calls Tryd.prog 37 #[.agg (sunC hs ts)] V fun e w' => e = .returned (.bool true) ∧ Below V.heap.size V w') := Lib.hid (fun V => by have := ValidSun_any hs ts hh ht V; rw [hs2] at this; exact this)
  have HIH := Lib.hid (fun V => isHour_is hour true hih V)
  have HIF := Lib.hid (fun V => isFacing_is north true hif V)
  have HRF : Hid (∀ V, ErrsAt V e0 e1 e2 e3 → Calls Tryd.prog 35 #[.bool true, .bool true, .bool true] V fun e w' => e = .returned .nilIface ∧ V = w') := Lib.hid (fun V h => refusal_any h true true true)
  have hn := fun w => run_neq_nil_nil (P := Tryd.prog) (w := w) 72 (by kernel_rfl)
  have HWW : Hid (∀ (b5 b6 b7 : Nat) V, V.heap[b5]? = some (.cells (sunC hs ts) 37 (0, 0)) → V.heap[b6]? = some (.cells #[.int .i64 hour] 2 (0, 0)) → V.heap[b7]? = some (.cells #[.int .i64 north] 2 (0, 0)) → WinsAt V sv ws → Calls Tryd.prog 41 #[.agg (roomC wd hg sv), .func (.func 42) #[] #[.pointer (some ⟨b7, 0, none⟩), .pointer (some ⟨b5, 0, none⟩), .pointer (some ⟨b6, 0, none⟩)]] V fun e w' => (∃ v, e = .returned (.agg (roomC wd hg v)) ∧ OwnW w' V.heap.size v (ws.map (litS hs ts hour north))) ∧ Below V.heap.size V w') := Lib.hid (fun b5 b6 b7 V h5 h6 h7 h => withWindows_any wd hg sv ws ok.len 42 enterLit #[.pointer (some ⟨b7, 0, none⟩), .pointer (some ⟨b5, 0, none⟩), .pointer (some ⟨b6, 0, none⟩)] (litS hs ts hour north) (fun W => W.heap[b5]? = some (.cells (sunC hs ts) 37 (0, 0)) ∧ W.heap[b6]? = some (.cells #[.int .i64 hour] 2 (0, 0)) ∧ W.heap[b7]? = some (.cells #[.int .i64 north] 2 (0, 0))) V h (fun W hb => ⟨below_row hb h5, below_row hb h6, below_row hb h7⟩) (fun x W hx hc => litF_any hs ts hh ht hour north q n0 n1 x (fit_get (hwf x hx) (ok.all x hx)).l0 (fit_get (hwf x hx) (ok.all x hx)).l1 b5 b6 b7 W hc.1 hc.2.1 hc.2.2))
  have HW := Lib.hid hws
  have HX := Lib.hid hE
  have Hh := Lib.hid hh
  have Ht := Lib.hid ht
  generalize ws.map (litS hs ts hour north) = wm at *
  clear hws hE hv hs2 hih hif hh ht q ok hwf n0 n1
  go_enter Tryd.func11, Tryd.ntmps11
  go_upto_region 1 with (fail)
  refine abs_world (fun W => W.heap[w.heap.size]? = some (.cells (roomC wd hg sv) 33 (0, 0)) ∧ W.heap[w.heap.size + 1]? = some (.cells (sunC hs ts) 37 (0, 0)) ∧ W.heap[w.heap.size + 1 + 1]? = some (.cells #[.int .i64 hour] 2 (0, 0)) ∧ W.heap[w.heap.size + 1 + 1 + 1]? = some (.cells #[.int .i64 north] 2 (0, 0)) ∧ W.heap[w.heap.size + 1 + 1 + 1 + 1]? = some (.cells (roomC 0 0 (.slice none 0 0)) 33 (0, 0)) ∧ Below w.heap.size w W) (box5L w (.cells (roomC wd hg sv) 33) (.cells (sunC hs ts) 37) (.cells #[.int .i64 hour] 2) (.cells #[.int .i64 north] 2) (.cells (roomC 0 0 (.slice none 0 0)) 33)) ?_
  rintro W ⟨h0, h5, h6, h7, h8, hbz⟩
  generalize hb8 : w.heap.size + 1 + 1 + 1 + 1 = b1 at *
  generalize hb7 : w.heap.size + 1 + 1 + 1 = b7 at *
  generalize hb6 : w.heap.size + 1 + 1 = b6 at *
  generalize hb5 : w.heap.size + 1 = b5 at *
  have n01 : w.heap.size < b1 := by omega
  clear hb5 hb6 hb7 hb8
  have R0 := Lib.hid h0
  have R5 := Lib.hid h5
  have R6 := Lib.hid h6
  have R7 := Lib.hid h7
  have H1 := Lib.hid h8
  have HV := Lib.hid (wins_below HW.out hbz)
  replace HX := Lib.hid (errs_below HX.out hbz)
  clear h0 h5 h6 h7 h8
  refine wp_region_held_drew (S := (fun V => Below W.heap.size W V)) (by kernel_rfl) ((Below.refl _ _).drew) (fun hHeld => ?_)
  refine take_op (i := 0) (d := 11) (v := .agg (roomC wd hg sv)) rfl rfl (by kernel_rfl) (by kernel_rfl) (by kernel_rfl) (fun _ _ _ h => h) (yields_row (by rfl) 33 (.tmp 4) (by rfl) w.heap.size 0 3 (by rfl) 33 (roomC wd hg sv) (0, 0) _ (fun _ h => below_row h R0.out) Tryd.underlying33 rfl info_room (room_fits _ _ _) (roomC wd hg sv) (room_all _ _ _)) hHeld ?_
  simp only [List.setIfInBounds_toArray, List.set_cons_zero, List.set_cons_succ]
  refine take_op (i := 6) (d := 17) (v := ?_) rfl rfl (by kernel_rfl) (by kernel_rfl) (by kernel_rfl) (fun _ _ _ h => h) (Or.inl ⟨by rfl, ?hy6y54⟩) hHeld ?rest6y54
  case hy6y54 =>
    intro w' hS'
    have c6 := row_i64 (below_row hS' R6.out)
    go_simp
    try with_reducible rfl
  simp only [List.setIfInBounds_toArray, List.set_cons_zero, List.set_cons_succ]
  refine wpAnyH_ready (rs := [1]) (by kernel_rfl) (by simp) ?_
  refine AllReadyH.cons rfl (fun K hK => ?_) AllReadyH.nil
  go_simp
  refine (HVR.out _ (wins_below HV.out hHeld)).mono ?_
  rintro e Wa ⟨rfl, hb1⟩
  refine hK.out _ _ (hHeld.trans (hb1.mono hHeld.size)) (fun hHeld2 => ?_)
  clear hK K
  replace hHeld := hHeld2
  clear hHeld2
  clear hb1
  refine take_op (i := 2) (d := 13) (v := ?_) rfl rfl (by kernel_rfl) (by kernel_rfl) (by kernel_rfl) (fun _ _ _ h => h) (Or.inl ⟨by rfl, ?hy2y55⟩) hHeld ?rest2y55
  case hy2y55 =>
    intro w' hS'
    go_simp
    try with_reducible rfl
  simp only [List.setIfInBounds_toArray, List.set_cons_zero, List.set_cons_succ]
  refine take_op (i := 3) (d := 14) (v := .agg (sunC hs ts)) rfl rfl (by kernel_rfl) (by kernel_rfl) (by kernel_rfl) (fun _ _ _ h => h) (yields_row (by rfl) 37 (.tmp 5) (by rfl) b5 0 48 (by rfl) 37 (sunC hs ts) (0, 0) _ (fun _ h => below_row h R5.out) Tryd.underlying37 rfl info_sun (sun_fits _ _ Hh.out Ht.out) (sunC hs ts) (sun_all _ _ Hh.out Ht.out)) hHeld ?_
  simp only [List.setIfInBounds_toArray, List.set_cons_zero, List.set_cons_succ]
  refine wpAnyH_ready (rs := [4]) (by kernel_rfl) (by simp) ?_
  refine AllReadyH.cons rfl (fun K hK => ?_) AllReadyH.nil
  go_simp
  refine (HVS.out _).mono ?_
  rintro e Wb ⟨rfl, hb1⟩
  refine hK.out _ _ (hHeld.trans (hb1.mono hHeld.size)) (fun hHeld2 => ?_)
  clear hK K
  replace hHeld := hHeld2
  clear hHeld2
  clear hb1
  refine take_op (i := 5) (d := 16) (v := ?_) rfl rfl (by kernel_rfl) (by kernel_rfl) (by kernel_rfl) (fun _ _ _ h => h) (Or.inl ⟨by rfl, ?hy5y56⟩) hHeld ?rest5y56
  case hy5y56 =>
    intro w' hS'
    go_simp
    try with_reducible rfl
  simp only [List.setIfInBounds_toArray, List.set_cons_zero, List.set_cons_succ]
  refine wpAnyH_ready (rs := [7]) (by kernel_rfl) (by simp) ?_
  refine AllReadyH.cons rfl (fun K hK => ?_) AllReadyH.nil
  go_simp
  refine (HIH.out _).mono ?_
  rintro e wc ⟨rfl, rfl⟩
  refine hK.out _ _ (hHeld) (fun hHeld2 => ?_)
  clear hK K
  replace hHeld := hHeld2
  clear hHeld2
  refine take_op (i := 8) (d := 19) (v := ?_) rfl rfl (by kernel_rfl) (by kernel_rfl) (by kernel_rfl) (fun _ _ _ h => h) (Or.inl ⟨by rfl, ?hy8y57⟩) hHeld ?rest8y57
  case hy8y57 =>
    intro w' hS'
    go_simp
    try with_reducible rfl
  simp only [List.setIfInBounds_toArray, List.set_cons_zero, List.set_cons_succ]
  refine take_op (i := 9) (d := 20) (v := ?_) rfl rfl (by kernel_rfl) (by kernel_rfl) (by kernel_rfl) (fun _ _ _ h => h) (Or.inl ⟨by rfl, ?hy9y58⟩) hHeld ?rest9y58
  case hy9y58 =>
    intro w' hS'
    have c7 := row_i64 (below_row hS' R7.out)
    go_simp
    try with_reducible rfl
  simp only [List.setIfInBounds_toArray, List.set_cons_zero, List.set_cons_succ]
  refine wpAnyH_ready (rs := [10]) (by kernel_rfl) (by simp) ?_
  refine AllReadyH.cons rfl (fun K hK => ?_) AllReadyH.nil
  go_simp
  refine (HIF.out _).mono ?_
  rintro e wd2 ⟨rfl, rfl⟩
  refine hK.out _ _ (hHeld) (fun hHeld2 => ?_)
  clear hK K
  replace hHeld := hHeld2
  clear hHeld2
  refine take_op (i := 11) (d := 22) (v := ?_) rfl rfl (by kernel_rfl) (by kernel_rfl) (by kernel_rfl) (fun _ _ _ h => h) (Or.inl ⟨by rfl, ?hy11y59⟩) hHeld ?rest11y59
  case hy11y59 =>
    intro w' hS'
    go_simp
    try with_reducible rfl
  simp only [List.setIfInBounds_toArray, List.set_cons_zero, List.set_cons_succ]
  refine wpAnyH_ready (rs := [12]) (by kernel_rfl) (by simp) ?_
  refine AllReadyH.cons rfl (fun K hK => ?_) AllReadyH.nil
  go_simp
  refine (HRF.out _ (errs_below HX.out hHeld)).mono ?_
  rintro e we ⟨rfl, rfl⟩
  refine hK.out _ _ (hHeld) (fun hHeld2 => ?_)
  clear hK K
  replace hHeld := hHeld2
  clear hHeld2
  refine take_op (i := 13) (d := 10) (v := ?_) rfl rfl (by kernel_rfl) (by kernel_rfl) (by kernel_rfl) (fun _ _ _ h => h) (Or.inl ⟨by rfl, ?hy13y60⟩) hHeld ?rest13y60
  case hy13y60 =>
    intro w' hS'
    go_simp
    try with_reducible rfl
  simp only [List.setIfInBounds_toArray, List.set_cons_zero, List.set_cons_succ]
  refine wpAnyH_done (by kernel_rfl) ?_ _
  replace R0 := Lib.hid (below_row hHeld R0.out)
  replace R5 := Lib.hid (below_row hHeld R5.out)
  replace R6 := Lib.hid (below_row hHeld R6.out)
  replace R7 := Lib.hid (below_row hHeld R7.out)
  replace H1 := Lib.hid (below_row hHeld H1.out)
  replace HV := Lib.hid (wins_below HV.out hHeld)
  replace HX := Lib.hid (errs_below HX.out hHeld)
  replace hbz := hbz.trans (hHeld.mono hbz.size)
  clear hHeld
  go_wp2_with (first | (refine wpList_load_part rfl 33 _ rfl w.heap.size 0 3 rfl 33 (roomC wd hg sv) (0, 0) _ R0.out Tryd.underlying33 rfl info_room (room_fits _ _ _) _ (room_all _ _ _) ?_) | (go_at_call 41; have hlc := row_lt H1.out; have hlz := hbz.size; refine (HWW.out _ _ _ _ R5.out R6.out R7.out HV.out).mono ?_; rintro e W5 ⟨⟨v5, rfl, hv5⟩, hb5⟩; have HV5 := Lib.hid hv5; clear hv5; replace H1 := Lib.hid (below_row hb5 H1.out); replace hbz := hbz.trans (hb5.mono hbz.size); clear hb5) | (refine wpList_store_part rfl 33 _ _ rfl b1 0 (roomC wd hg v5) rfl rfl 33 _ H1.out info_room (Nat.le_refl _) (room_oneQ _ _ (ownQ_ofW HV5.out)) ?_; rw [laid_allr _ _ (by rfl)]))
  have hl5 := row_lt H1.out
  refine bodyPost_ret (results_rm rfl _ _ b1 wd hg v5 rfl (setRow_heap _ _ _ _ _ _ H1.out)) rfl ?_
  refine ⟨⟨_, rfl, ?_⟩, below_setRow hbz (by omega) _⟩
  obtain ⟨g, cur, rfl, k2, k3, k4, k5, k6⟩ := HV5.out
  exact .inr ⟨g, wm.length, cur, rfl, by omega, (setRow_other _ _ _ _ (by omega)).trans k3, Nat.le_refl _, by unfold maxLen; omega, by omega, k6⟩

end Go.Proofs.YtpcmcopfdghdgaaDoor

namespace Go.Proofs.YtpcmcopfdghdgaaDoor
open Go.ChangeShapes Go.WideShapes Go.ChangeAt Go.RowKit

set_option maxRecDepth 100000 in
theorem door_met (os : Os) (args : Array Value) : laidMetH Tryd.prog lst ((World.doorLaid Tryd.prog 200 os).forCall (fun _ _ => 0) ⟨#[], args, []⟩).memory :=
  laidMetH_of_parts3 (fuel := 8) (laidMet_of_run' 8 (by kernel_rfl) (by kernel_rfl)) (by kernel_rfl) (by kernel_rfl)

set_option maxRecDepth 100000 in
theorem door_shaped (os : Os) : (World.doorLaid Tryd.prog 200 os).Shaped Tryd.prog := World.shaped_of_RefB (by kernel_rfl) (by kernel_rfl)

/-- The condition of a row that lists the sentinels. -/
abbrev Met (w : World) (_ : Array Value) : Prop := laidMetH Tryd.prog lst w

set_option maxRecDepth 100000 in
theorem law_liftedC (F : FuncId) (fn : Func) (s : ChangeSpec) (conds : List PathCond) (os : Os) (started : os.Started) (H : Type) (enc : TypeId × Value → H)
    (hno : Tryd.checked.prog.inits.idxOf? F = none) (hfn : Tryd.checked.prog.funcs[F]? = some fn) (hv : varsRowed Tryd.prog s.vars = true) (hvl : s.vars.length = 4) (hr : fn.resultTypes = #[4])
    (hts : ∀ t ∈ fn.params.toList, Tryd.prog.readableRec t = true ∧ t < Tryd.prog.types.size)
    (hspec : ∀ ds gs : List (DataW H), ds.length = fn.params.size → gs.length = 4 → s.fn H (ds ++ gs) = { results := [.lit (.bool true)], args := ds, vars := gs })
    (wit : ∃ (w : World) (tape : Tape) (i : Input), w.os = os ∧ (w.forCall tape i).Shaped Tryd.checked.prog ∧ i.vars = [] ∧ Input.okWide Tryd.checked.prog (w.forCall tape i) .any w.heap.size F i ∧
      ((s.pre enc Tryd.checked.prog fn conds false (w.forCall tape i).memory i.args ∧ Met (w.forCall tape i).memory i.args) ∧ sizedMet enc Tryd.checked.prog fn (OpenSpec.ofChange s) false (w.forCall tape i).memory i.args) ∧ ({} : Assume).holds Tryd.checked.prog (lone (Frame.enter Tryd.checked.prog F i.args .normal) [] (w.forCall tape i)))
    (walk : ∀ (W : World) (base : Nat) (args : Array Value) (ds : List (DataW H)) (p : List MemPlace),
      (∀ (j : Nat) t v, fn.params[j]? = some t → args[j]? = some v → Value.okWide Tryd.prog W .any base t v) →
      DataW.TrodAll enc Tryd.prog W 0 (fun _ => true) true fn.params.toList args.toList ds p → laidMetH Tryd.prog lst W →
      Calls Tryd.prog F args W fun e W' => e = .returned (.bool true) ∧ Below W.heap.size W W') :
    ReturnsInHanded {} Tryd.checked os F .any (fun w args => (s.pre enc Tryd.prog fn conds false w args ∧ laidMetH Tryd.prog lst w) ∧ sizedMet enc Tryd.prog fn (OpenSpec.ofChange s) false w args) (s.post enc Tryd.prog fn false true false false) := by
  refine returnsInHanded_of_change_and (C := Tryd.checked) (X := Met) (fun _ _ _ hh h => h.of_heap hh) law_own started hno hfn wit ?_
  intro W base args ds gs before hval0 hW hcnd _ hL _
  have hW' := hW
  obtain ⟨p, q, hA0, hV, rfl, hfz, hnd⟩ := hW
  have hgl : gs.length = 4 := by
    have key : ∀ (ns : List String) (gs : List (DataW H)) (ps : List MemPlace), DataW.TrodVars enc Tryd.checked.prog W (fun _ => true) ns gs ps → gs.length = ns.length := by
      intro ns
      induction ns with
      | nil => intro gs ps h; obtain ⟨rfl, _⟩ := trodVars_none h; rfl
      | cons n ns ih =>
        intro gs ps h
        cases gs with
        | nil => exact h.elim
        | cons d ds => obtain ⟨_, _, _, _, _, _, _, _, _, _, hs, _⟩ := h; simp [ih _ _ hs]
    rw [key _ _ _ hV, hvl]
  have hlen : ds.length = fn.params.size := by
    have key : ∀ (ts : List TypeId) (vs : List Value) (ds : List (DataW H)) (ps : List MemPlace), DataW.TrodAll enc Tryd.checked.prog W 0 (fun _ => true) true ts vs ds ps → ds.length = ts.length := by
      intro ts
      induction ts with
      | nil => intro vs ds ps h; obtain ⟨_, rfl, _⟩ := trodAll_nil h; rfl
      | cons t ts ih => intro vs ds ps h; obtain ⟨v, vs', d, ds', p, q, _, rfl, _, _, r0⟩ := trodAll_cons h; simp [ih _ _ _ r0]
    simpa using key _ _ _ _ hA0
  refine (walk W base args ds p hval0 hA0 hL).mono fun e W' ⟨he, hg⟩ => ?_
  subst he
  have hlt : ∀ x ∈ p, x.block < W.heap.size := fun x hx => hW'.lt x (by simp [hx])
  refine ⟨_, rfl, _, _, _, [], p, q, hW', ?_, ?_, ?_, hg.frame _, fun h => by cases h⟩
  · rw [hspec ds gs hlen hgl, hr]
    exact trodAll_mk1 (shut_bool Tryd.underlying4 _)
  · rw [hspec ds gs hlen hgl]
    exact trodAll_below law_laidOut hg _ _ _ _ hts hA0 hlt
  · rw [hspec ds gs hlen hgl]
    exact Below.trodVars law_laidOut hg hv hV

end Go.Proofs.YtpcmcopfdghdgaaDoor
