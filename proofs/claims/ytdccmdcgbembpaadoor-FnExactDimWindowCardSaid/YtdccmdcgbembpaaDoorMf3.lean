/-
  RxE, RwM, RxM, RxL, Open.
-/
import Derived.Test.YtdccmdcgbembpaaDoorMf2
import Derived.Test.YtdccmdcgbembpaaDoorRoomF
import Derived.Test.YtdccmdcgbembpaaDoorPart
import Derived.Test.YtdccmdcgbembpaaDoorRoomS
import Derived.Test.YtdccmdcgbembpaaDoorPlace
import Derived.StillTail
import Derived.StillTailTactics
import Derived.Test.YtdccmdcgbembpaaDoorMf1

namespace Go.Proofs.YtdccmdcgbembpaaDoor
open Go.RowKit

attribute [local go_sem] run_store_f run_store_flR

set_option maxRecDepth 100000 in
set_option maxHeartbeats 4000000 in
theorem iDw_fA (wd hg : Int) (sv : Value) (ws : List Wn) (ix : Int) (pt : Nat) (e0 e1 e2 e3 : Addr) (w : World) (hws : WinsAt w sv ws) (hE : ErrsAt w e0 e1 e2 e3) (hv : okRm wd hg ws = false) (hx : ix < 0) :
    Calls Tryd.prog 30 #[.agg (roomC wd hg sv), .int .i64 ix, .float .f32 pt] w fun e w' => e = .returned (.tuple #[.agg (roomC 0 0 (.slice none 0 0)), .int .i64 1]) ∧ Below w.heap.size w w' := by
  have HVR : Hid (∀ V, WinsAt V sv ws → Calls Tryd.prog 49 #[.agg (roomC wd hg sv)] V fun e w' => e = .returned (.bool false) ∧ Below V.heap.size V w') := Lib.hid (fun V h => by have := ValidRoom_any wd hg sv ws V h; rw [hv] at this; exact this)
  have HRF : Hid (∀ V, ErrsAt V e0 e1 e2 e3 → Calls Tryd.prog 48 #[.bool false, .bool false, .bool true] V fun e w' => e = .returned (.iface 211 (.pointer (some e0))) ∧ V = w') := Lib.hid (fun V h => refusal_any h false false true)
  have hn := fun w => run_neq_held_nil (P := Tryd.prog) (w := w) 88 211 (.pointer (some e0)) (by kernel_rfl)
  have HW := Lib.hid hws
  have HX := Lib.hid hE
  obtain ⟨sa, scap, rfl, -, -, -⟩ := hws
  have zd1 : decide (0 ≤ ix) = false := decide_eq_false (by omega)
  generalize ws.length = n at *
  clear hE hv
  go_enter Tryd.func30, Tryd.ntmps30
  go_upto_region 1 with (fail)
  refine abs_world (fun W => W.heap[w.heap.size]? = some (.cells (roomC wd hg (.slice sa n scap)) 34 (0, 0)) ∧ W.heap[w.heap.size + 1]? = some (.cells (roomC 0 0 (.slice none 0 0)) 34 (0, 0)) ∧ Below w.heap.size w W) (two_at w (.cells (roomC wd hg (.slice sa n scap)) 34) (.cells (roomC 0 0 (.slice none 0 0)) 34)) ?_
  rintro W ⟨h0, h1, hbz⟩
  have n01 : w.heap.size < w.heap.size + 1 := by omega
  generalize w.heap.size + 1 = b1 at *
  have H0 := Lib.hid h0
  have H1 := Lib.hid h1
  have r2 := (room_cells h0).2.2
  have HV := Lib.hid (wins_below HW.out hbz)
  replace HX := Lib.hid (errs_below HX.out hbz)
  clear h0 h1
  go_wp2_with (first | (refine wpList_load_part rfl 34 _ rfl w.heap.size 0 3 rfl 34 (roomC wd hg (.slice sa n scap)) (0, 0) _ H0.out Tryd.underlying34 rfl info_room (room_fits _ _ _) _ (room_all _ _ _) ?_) | (go_at_call 49; refine (HVR.out _ HV.out).mono ?_; rintro e W1 ⟨rfl, hb1⟩; replace H0 := Lib.hid (below_row hb1 H0.out); replace H1 := Lib.hid (below_row hb1 H1.out); replace HV := Lib.hid (wins_below HV.out hb1); replace hbz := hbz.trans (hb1.mono hbz.size); replace HX := Lib.hid (errs_below HX.out hb1); clear hb1) | (go_at_call 48; refine (HRF.out _ HX.out).mono ?_; rintro e W3 ⟨rfl, rfl⟩) | (go_at_call 50; refine (codeOf_any HX.out 1).mono ?_; rintro e W4 ⟨rfl, rfl⟩) | (refine wpList_buildRR rfl 34 _ rfl _ rfl [] rfl (roomC 0 0 (.slice none 0 0)) built_room0 ?_) | (refine wpList_store_part rfl 34 _ _ rfl b1 0 (roomC 0 0 (.slice none 0 0)) rfl rfl 34 _ H1.out info_room (Nat.le_refl _) (room_oneN _ _) ?_; rw [laid_allr _ _ (by rfl)]))
  refine bodyPost_ret (results_rm rfl _ _ b1 0 0 (.slice none 0 0) rfl (setRow_heap _ _ _ _ _ _ H1.out)) rfl ?_
  exact ⟨rfl, below_setRow hbz (by omega) _⟩

set_option maxRecDepth 100000 in
set_option maxHeartbeats 4000000 in
theorem iDw_fB (wd hg : Int) (sv : Value) (ws : List Wn) (ix : Int) (pt : Nat) (e0 e1 e2 e3 : Addr) (w : World) (hws : WinsAt w sv ws) (hE : ErrsAt w e0 e1 e2 e3) (hv : okRm wd hg ws = false) (hx0 : 0 ≤ ix) (hx : (ws.length : Int) ≤ ix) :
    Calls Tryd.prog 30 #[.agg (roomC wd hg sv), .int .i64 ix, .float .f32 pt] w fun e w' => e = .returned (.tuple #[.agg (roomC 0 0 (.slice none 0 0)), .int .i64 1]) ∧ Below w.heap.size w w' := by
  have HVR : Hid (∀ V, WinsAt V sv ws → Calls Tryd.prog 49 #[.agg (roomC wd hg sv)] V fun e w' => e = .returned (.bool false) ∧ Below V.heap.size V w') := Lib.hid (fun V h => by have := ValidRoom_any wd hg sv ws V h; rw [hv] at this; exact this)
  have HRF : Hid (∀ V, ErrsAt V e0 e1 e2 e3 → Calls Tryd.prog 48 #[.bool false, .bool false, .bool true] V fun e w' => e = .returned (.iface 211 (.pointer (some e0))) ∧ V = w') := Lib.hid (fun V h => refusal_any h false false true)
  have hn := fun w => run_neq_held_nil (P := Tryd.prog) (w := w) 88 211 (.pointer (some e0)) (by kernel_rfl)
  have HW := Lib.hid hws
  have HX := Lib.hid hE
  obtain ⟨sa, scap, rfl, -, -, -⟩ := hws
  have zd1 : decide (0 ≤ ix) = true := decide_eq_true hx0
  have zd2 : decide (ix < (ws.length : Int)) = false := decide_eq_false (by omega)
  generalize ws.length = n at *
  clear hE hv
  go_enter Tryd.func30, Tryd.ntmps30
  go_upto_region 1 with (fail)
  refine abs_world (fun W => W.heap[w.heap.size]? = some (.cells (roomC wd hg (.slice sa n scap)) 34 (0, 0)) ∧ W.heap[w.heap.size + 1]? = some (.cells (roomC 0 0 (.slice none 0 0)) 34 (0, 0)) ∧ Below w.heap.size w W) (two_at w (.cells (roomC wd hg (.slice sa n scap)) 34) (.cells (roomC 0 0 (.slice none 0 0)) 34)) ?_
  rintro W ⟨h0, h1, hbz⟩
  have n01 : w.heap.size < w.heap.size + 1 := by omega
  generalize w.heap.size + 1 = b1 at *
  have H0 := Lib.hid h0
  have H1 := Lib.hid h1
  have r2 := (room_cells h0).2.2
  have HV := Lib.hid (wins_below HW.out hbz)
  replace HX := Lib.hid (errs_below HX.out hbz)
  clear h0 h1
  go_wp2_with (first | (refine wpList_load_part rfl 34 _ rfl w.heap.size 0 3 rfl 34 (roomC wd hg (.slice sa n scap)) (0, 0) _ H0.out Tryd.underlying34 rfl info_room (room_fits _ _ _) _ (room_all _ _ _) ?_) | (go_at_call 49; refine (HVR.out _ HV.out).mono ?_; rintro e W1 ⟨rfl, hb1⟩; replace H0 := Lib.hid (below_row hb1 H0.out); replace H1 := Lib.hid (below_row hb1 H1.out); replace HV := Lib.hid (wins_below HV.out hb1); replace hbz := hbz.trans (hb1.mono hbz.size); replace HX := Lib.hid (errs_below HX.out hb1); clear hb1) | (go_at_call 48; refine (HRF.out _ HX.out).mono ?_; rintro e W3 ⟨rfl, rfl⟩) | (go_at_call 50; refine (codeOf_any HX.out 1).mono ?_; rintro e W4 ⟨rfl, rfl⟩) | (refine wpList_buildRR rfl 34 _ rfl _ rfl [] rfl (roomC 0 0 (.slice none 0 0)) built_room0 ?_) | (refine wpList_store_part rfl 34 _ _ rfl b1 0 (roomC 0 0 (.slice none 0 0)) rfl rfl 34 _ H1.out info_room (Nat.le_refl _) (room_oneN _ _) ?_; rw [laid_allr _ _ (by rfl)]))
  refine bodyPost_ret (results_rm rfl _ _ b1 0 0 (.slice none 0 0) rfl (setRow_heap _ _ _ _ _ _ H1.out)) rfl ?_
  exact ⟨rfl, below_setRow hbz (by omega) _⟩

set_option maxRecDepth 100000 in
set_option maxHeartbeats 4000000 in
theorem iDw_fC (wd hg : Int) (sv : Value) (ws : List Wn) (ix : Int) (pt : Nat) (e0 e1 e2 e3 : Addr) (w : World) (hws : WinsAt w sv ws) (hE : ErrsAt w e0 e1 e2 e3) (hv : okRm wd hg ws = false) (hx0 : 0 ≤ ix) (hx : ix < (ws.length : Int)) (b : Bool) (hp : partB pt = b) :
    Calls Tryd.prog 30 #[.agg (roomC wd hg sv), .int .i64 ix, .float .f32 pt] w fun e w' => e = .returned (.tuple #[.agg (roomC 0 0 (.slice none 0 0)), .int .i64 1]) ∧ Below w.heap.size w w' := by
  have HVR : Hid (∀ V, WinsAt V sv ws → Calls Tryd.prog 49 #[.agg (roomC wd hg sv)] V fun e w' => e = .returned (.bool false) ∧ Below V.heap.size V w') := Lib.hid (fun V h => by have := ValidRoom_any wd hg sv ws V h; rw [hv] at this; exact this)
  have HIP := Lib.hid (fun V => isPart_is2 pt _ hp V)
  have HRF : Hid (∀ V, ErrsAt V e0 e1 e2 e3 → Calls Tryd.prog 48 #[.bool false, .bool b, .bool true] V fun e w' => e = .returned (.iface 211 (.pointer (some e0))) ∧ V = w') := Lib.hid (fun V h => refusal_any h false b true)
  have hn := fun w => run_neq_held_nil (P := Tryd.prog) (w := w) 88 211 (.pointer (some e0)) (by kernel_rfl)
  have HW := Lib.hid hws
  have HX := Lib.hid hE
  obtain ⟨sa, scap, rfl, -, -, -⟩ := hws
  have zd1 : decide (0 ≤ ix) = true := decide_eq_true hx0
  have zd2 : decide (ix < (ws.length : Int)) = true := decide_eq_true hx
  generalize ws.length = n at *
  clear hE hv hp
  go_enter Tryd.func30, Tryd.ntmps30
  go_upto_region 1 with (fail)
  refine abs_world (fun W => W.heap[w.heap.size]? = some (.cells (roomC wd hg (.slice sa n scap)) 34 (0, 0)) ∧ W.heap[w.heap.size + 1]? = some (.cells (roomC 0 0 (.slice none 0 0)) 34 (0, 0)) ∧ Below w.heap.size w W) (two_at w (.cells (roomC wd hg (.slice sa n scap)) 34) (.cells (roomC 0 0 (.slice none 0 0)) 34)) ?_
  rintro W ⟨h0, h1, hbz⟩
  have n01 : w.heap.size < w.heap.size + 1 := by omega
  generalize w.heap.size + 1 = b1 at *
  have H0 := Lib.hid h0
  have H1 := Lib.hid h1
  have r2 := (room_cells h0).2.2
  have HV := Lib.hid (wins_below HW.out hbz)
  replace HX := Lib.hid (errs_below HX.out hbz)
  clear h0 h1
  go_wp2_with (first | (refine wpList_load_part rfl 34 _ rfl w.heap.size 0 3 rfl 34 (roomC wd hg (.slice sa n scap)) (0, 0) _ H0.out Tryd.underlying34 rfl info_room (room_fits _ _ _) _ (room_all _ _ _) ?_) | (go_at_call 49; refine (HVR.out _ HV.out).mono ?_; rintro e W1 ⟨rfl, hb1⟩; replace H0 := Lib.hid (below_row hb1 H0.out); replace H1 := Lib.hid (below_row hb1 H1.out); replace HV := Lib.hid (wins_below HV.out hb1); replace hbz := hbz.trans (hb1.mono hbz.size); replace HX := Lib.hid (errs_below HX.out hb1); clear hb1) | (go_at_call 48; refine (HRF.out _ HX.out).mono ?_; rintro e W3 ⟨rfl, rfl⟩) | (go_at_call 50; refine (codeOf_any HX.out 1).mono ?_; rintro e W4 ⟨rfl, rfl⟩) | (refine wpList_buildRR rfl 34 _ rfl _ rfl [] rfl (roomC 0 0 (.slice none 0 0)) built_room0 ?_) | (refine wpList_store_part rfl 34 _ _ rfl b1 0 (roomC 0 0 (.slice none 0 0)) rfl rfl 34 _ H1.out info_room (Nat.le_refl _) (room_oneN _ _) ?_; rw [laid_allr _ _ (by rfl)]) | (go_at_call 70; refine (HIP.out _).mono ?_; rintro e w9 ⟨rfl, rfl⟩))
  refine bodyPost_ret (results_rm rfl _ _ b1 0 0 (.slice none 0 0) rfl (setRow_heap _ _ _ _ _ _ H1.out)) rfl ?_
  exact ⟨rfl, below_setRow hbz (by omega) _⟩

set_option maxRecDepth 100000 in
set_option maxHeartbeats 4000000 in
theorem iDw_tA (wd hg : Int) (sv : Value) (ws : List Wn) (ix : Int) (pt : Nat) (e0 e1 e2 e3 : Addr) (w : World) (hws : WinsAt w sv ws) (hE : ErrsAt w e0 e1 e2 e3) (hv : okRm wd hg ws = true) (hx : ix < 0) :
    Calls Tryd.prog 30 #[.agg (roomC wd hg sv), .int .i64 ix, .float .f32 pt] w fun e w' => e = .returned (.tuple #[.agg (roomC 0 0 (.slice none 0 0)), .int .i64 2]) ∧ Below w.heap.size w w' := by
  have HVR : Hid (∀ V, WinsAt V sv ws → Calls Tryd.prog 49 #[.agg (roomC wd hg sv)] V fun e w' => e = .returned (.bool true) ∧ Below V.heap.size V w') := Lib.hid (fun V h => by have := ValidRoom_any wd hg sv ws V h; rw [hv] at this; exact this)
  have HRF : Hid (∀ V, ErrsAt V e0 e1 e2 e3 → Calls Tryd.prog 48 #[.bool true, .bool false, .bool true] V fun e w' => e = .returned (.iface 211 (.pointer (some e1))) ∧ V = w') := Lib.hid (fun V h => refusal_any h true false true)
  have hn := fun w => run_neq_held_nil (P := Tryd.prog) (w := w) 88 211 (.pointer (some e1)) (by kernel_rfl)
  have HW := Lib.hid hws
  have HX := Lib.hid hE
  obtain ⟨sa, scap, rfl, -, -, -⟩ := hws
  have zd1 : decide (0 ≤ ix) = false := decide_eq_false (by omega)
  generalize ws.length = n at *
  clear hE hv
  go_enter Tryd.func30, Tryd.ntmps30
  go_upto_region 1 with (fail)
  refine abs_world (fun W => W.heap[w.heap.size]? = some (.cells (roomC wd hg (.slice sa n scap)) 34 (0, 0)) ∧ W.heap[w.heap.size + 1]? = some (.cells (roomC 0 0 (.slice none 0 0)) 34 (0, 0)) ∧ Below w.heap.size w W) (two_at w (.cells (roomC wd hg (.slice sa n scap)) 34) (.cells (roomC 0 0 (.slice none 0 0)) 34)) ?_
  rintro W ⟨h0, h1, hbz⟩
  have n01 : w.heap.size < w.heap.size + 1 := by omega
  generalize w.heap.size + 1 = b1 at *
  have H0 := Lib.hid h0
  have H1 := Lib.hid h1
  have r2 := (room_cells h0).2.2
  have HV := Lib.hid (wins_below HW.out hbz)
  replace HX := Lib.hid (errs_below HX.out hbz)
  clear h0 h1
  go_wp2_with (first | (refine wpList_load_part rfl 34 _ rfl w.heap.size 0 3 rfl 34 (roomC wd hg (.slice sa n scap)) (0, 0) _ H0.out Tryd.underlying34 rfl info_room (room_fits _ _ _) _ (room_all _ _ _) ?_) | (go_at_call 49; refine (HVR.out _ HV.out).mono ?_; rintro e W1 ⟨rfl, hb1⟩; replace H0 := Lib.hid (below_row hb1 H0.out); replace H1 := Lib.hid (below_row hb1 H1.out); replace HV := Lib.hid (wins_below HV.out hb1); replace hbz := hbz.trans (hb1.mono hbz.size); replace HX := Lib.hid (errs_below HX.out hb1); clear hb1) | (go_at_call 48; refine (HRF.out _ HX.out).mono ?_; rintro e W3 ⟨rfl, rfl⟩) | (go_at_call 50; refine (codeOf_any HX.out 2).mono ?_; rintro e W4 ⟨rfl, rfl⟩) | (refine wpList_buildRR rfl 34 _ rfl _ rfl [] rfl (roomC 0 0 (.slice none 0 0)) built_room0 ?_) | (refine wpList_store_part rfl 34 _ _ rfl b1 0 (roomC 0 0 (.slice none 0 0)) rfl rfl 34 _ H1.out info_room (Nat.le_refl _) (room_oneN _ _) ?_; rw [laid_allr _ _ (by rfl)]))
  refine bodyPost_ret (results_rm rfl _ _ b1 0 0 (.slice none 0 0) rfl (setRow_heap _ _ _ _ _ _ H1.out)) rfl ?_
  exact ⟨rfl, below_setRow hbz (by omega) _⟩

set_option maxRecDepth 100000 in
set_option maxHeartbeats 4000000 in
theorem iDw_tB (wd hg : Int) (sv : Value) (ws : List Wn) (ix : Int) (pt : Nat) (e0 e1 e2 e3 : Addr) (w : World) (hws : WinsAt w sv ws) (hE : ErrsAt w e0 e1 e2 e3) (hv : okRm wd hg ws = true) (hx0 : 0 ≤ ix) (hx : (ws.length : Int) ≤ ix) :
    Calls Tryd.prog 30 #[.agg (roomC wd hg sv), .int .i64 ix, .float .f32 pt] w fun e w' => e = .returned (.tuple #[.agg (roomC 0 0 (.slice none 0 0)), .int .i64 2]) ∧ Below w.heap.size w w' := by
  have HVR : Hid (∀ V, WinsAt V sv ws → Calls Tryd.prog 49 #[.agg (roomC wd hg sv)] V fun e w' => e = .returned (.bool true) ∧ Below V.heap.size V w') := Lib.hid (fun V h => by have := ValidRoom_any wd hg sv ws V h; rw [hv] at this; exact this)
  have HRF : Hid (∀ V, ErrsAt V e0 e1 e2 e3 → Calls Tryd.prog 48 #[.bool true, .bool false, .bool true] V fun e w' => e = .returned (.iface 211 (.pointer (some e1))) ∧ V = w') := Lib.hid (fun V h => refusal_any h true false true)
  have hn := fun w => run_neq_held_nil (P := Tryd.prog) (w := w) 88 211 (.pointer (some e1)) (by kernel_rfl)
  have HW := Lib.hid hws
  have HX := Lib.hid hE
  obtain ⟨sa, scap, rfl, -, -, -⟩ := hws
  have zd1 : decide (0 ≤ ix) = true := decide_eq_true hx0
  have zd2 : decide (ix < (ws.length : Int)) = false := decide_eq_false (by omega)
  generalize ws.length = n at *
  clear hE hv
  go_enter Tryd.func30, Tryd.ntmps30
  go_upto_region 1 with (fail)
  refine abs_world (fun W => W.heap[w.heap.size]? = some (.cells (roomC wd hg (.slice sa n scap)) 34 (0, 0)) ∧ W.heap[w.heap.size + 1]? = some (.cells (roomC 0 0 (.slice none 0 0)) 34 (0, 0)) ∧ Below w.heap.size w W) (two_at w (.cells (roomC wd hg (.slice sa n scap)) 34) (.cells (roomC 0 0 (.slice none 0 0)) 34)) ?_
  rintro W ⟨h0, h1, hbz⟩
  have n01 : w.heap.size < w.heap.size + 1 := by omega
  generalize w.heap.size + 1 = b1 at *
  have H0 := Lib.hid h0
  have H1 := Lib.hid h1
  have r2 := (room_cells h0).2.2
  have HV := Lib.hid (wins_below HW.out hbz)
  replace HX := Lib.hid (errs_below HX.out hbz)
  clear h0 h1
  go_wp2_with (first | (refine wpList_load_part rfl 34 _ rfl w.heap.size 0 3 rfl 34 (roomC wd hg (.slice sa n scap)) (0, 0) _ H0.out Tryd.underlying34 rfl info_room (room_fits _ _ _) _ (room_all _ _ _) ?_) | (go_at_call 49; refine (HVR.out _ HV.out).mono ?_; rintro e W1 ⟨rfl, hb1⟩; replace H0 := Lib.hid (below_row hb1 H0.out); replace H1 := Lib.hid (below_row hb1 H1.out); replace HV := Lib.hid (wins_below HV.out hb1); replace hbz := hbz.trans (hb1.mono hbz.size); replace HX := Lib.hid (errs_below HX.out hb1); clear hb1) | (go_at_call 48; refine (HRF.out _ HX.out).mono ?_; rintro e W3 ⟨rfl, rfl⟩) | (go_at_call 50; refine (codeOf_any HX.out 2).mono ?_; rintro e W4 ⟨rfl, rfl⟩) | (refine wpList_buildRR rfl 34 _ rfl _ rfl [] rfl (roomC 0 0 (.slice none 0 0)) built_room0 ?_) | (refine wpList_store_part rfl 34 _ _ rfl b1 0 (roomC 0 0 (.slice none 0 0)) rfl rfl 34 _ H1.out info_room (Nat.le_refl _) (room_oneN _ _) ?_; rw [laid_allr _ _ (by rfl)]))
  refine bodyPost_ret (results_rm rfl _ _ b1 0 0 (.slice none 0 0) rfl (setRow_heap _ _ _ _ _ _ H1.out)) rfl ?_
  exact ⟨rfl, below_setRow hbz (by omega) _⟩

set_option maxRecDepth 100000 in
set_option maxHeartbeats 4000000 in
theorem iDw_tC (wd hg : Int) (sv : Value) (ws : List Wn) (ix : Int) (pt : Nat) (e0 e1 e2 e3 : Addr) (w : World) (hws : WinsAt w sv ws) (hE : ErrsAt w e0 e1 e2 e3) (hv : okRm wd hg ws = true) (hx0 : 0 ≤ ix) (hx : ix < (ws.length : Int)) (b : Bool) (hp : partB pt = b) (hb0 : b = false) :
    Calls Tryd.prog 30 #[.agg (roomC wd hg sv), .int .i64 ix, .float .f32 pt] w fun e w' => e = .returned (.tuple #[.agg (roomC 0 0 (.slice none 0 0)), .int .i64 2]) ∧ Below w.heap.size w w' := by
  subst hb0
  have HVR : Hid (∀ V, WinsAt V sv ws → Calls Tryd.prog 49 #[.agg (roomC wd hg sv)] V fun e w' => e = .returned (.bool true) ∧ Below V.heap.size V w') := Lib.hid (fun V h => by have := ValidRoom_any wd hg sv ws V h; rw [hv] at this; exact this)
  have HIP := Lib.hid (fun V => isPart_is2 pt _ hp V)
  have HRF : Hid (∀ V, ErrsAt V e0 e1 e2 e3 → Calls Tryd.prog 48 #[.bool true, .bool false, .bool true] V fun e w' => e = .returned (.iface 211 (.pointer (some e1))) ∧ V = w') := Lib.hid (fun V h => refusal_any h true false true)
  have hn := fun w => run_neq_held_nil (P := Tryd.prog) (w := w) 88 211 (.pointer (some e1)) (by kernel_rfl)
  have HW := Lib.hid hws
  have HX := Lib.hid hE
  obtain ⟨sa, scap, rfl, -, -, -⟩ := hws
  have zd1 : decide (0 ≤ ix) = true := decide_eq_true hx0
  have zd2 : decide (ix < (ws.length : Int)) = true := decide_eq_true hx
  generalize ws.length = n at *
  clear hE hv hp
  go_enter Tryd.func30, Tryd.ntmps30
  go_upto_region 1 with (fail)
  refine abs_world (fun W => W.heap[w.heap.size]? = some (.cells (roomC wd hg (.slice sa n scap)) 34 (0, 0)) ∧ W.heap[w.heap.size + 1]? = some (.cells (roomC 0 0 (.slice none 0 0)) 34 (0, 0)) ∧ Below w.heap.size w W) (two_at w (.cells (roomC wd hg (.slice sa n scap)) 34) (.cells (roomC 0 0 (.slice none 0 0)) 34)) ?_
  rintro W ⟨h0, h1, hbz⟩
  have n01 : w.heap.size < w.heap.size + 1 := by omega
  generalize w.heap.size + 1 = b1 at *
  have H0 := Lib.hid h0
  have H1 := Lib.hid h1
  have r2 := (room_cells h0).2.2
  have HV := Lib.hid (wins_below HW.out hbz)
  replace HX := Lib.hid (errs_below HX.out hbz)
  clear h0 h1
  go_wp2_with (first | (refine wpList_load_part rfl 34 _ rfl w.heap.size 0 3 rfl 34 (roomC wd hg (.slice sa n scap)) (0, 0) _ H0.out Tryd.underlying34 rfl info_room (room_fits _ _ _) _ (room_all _ _ _) ?_) | (go_at_call 49; refine (HVR.out _ HV.out).mono ?_; rintro e W1 ⟨rfl, hb1⟩; replace H0 := Lib.hid (below_row hb1 H0.out); replace H1 := Lib.hid (below_row hb1 H1.out); replace HV := Lib.hid (wins_below HV.out hb1); replace hbz := hbz.trans (hb1.mono hbz.size); replace HX := Lib.hid (errs_below HX.out hb1); clear hb1) | (go_at_call 48; refine (HRF.out _ HX.out).mono ?_; rintro e W3 ⟨rfl, rfl⟩) | (go_at_call 50; refine (codeOf_any HX.out 2).mono ?_; rintro e W4 ⟨rfl, rfl⟩) | (refine wpList_buildRR rfl 34 _ rfl _ rfl [] rfl (roomC 0 0 (.slice none 0 0)) built_room0 ?_) | (refine wpList_store_part rfl 34 _ _ rfl b1 0 (roomC 0 0 (.slice none 0 0)) rfl rfl 34 _ H1.out info_room (Nat.le_refl _) (room_oneN _ _) ?_; rw [laid_allr _ _ (by rfl)]) | (go_at_call 70; refine (HIP.out _).mono ?_; rintro e w9 ⟨rfl, rfl⟩))
  refine bodyPost_ret (results_rm rfl _ _ b1 0 0 (.slice none 0 0) rfl (setRow_heap _ _ _ _ _ _ H1.out)) rfl ?_
  exact ⟨rfl, below_setRow hbz (by omega) _⟩

set_option maxRecDepth 100000 in
set_option maxHeartbeats 4000000 in
theorem iDw_y (wd hg : Int) (sv : Value) (ws : List Wn) (ok : RmOk wd hg ws) (hwf : ∀ x ∈ ws, WnWf x) (k : Nat) (pt : Nat) (hpt : PartOk pt) (e0 e1 e2 e3 : Addr) (w : World) (hws : WinsAt w sv ws) (hE : ErrsAt w e0 e1 e2 e3) (hv : okRm wd hg ws = true) (hk : k < ws.length) (hp : partB pt = true) :
    Calls Tryd.prog 30 #[.agg (roomC wd hg sv), .int .i64 (k : Int), .float .f32 pt] w fun e w' => (∃ v, e = .returned (.tuple #[.agg (roomC wd hg v), .int .i64 0]) ∧ OwnQ w' w.heap.size v (dimL ws k pt)) ∧ Below w.heap.size w w' := by
  have HVR : Hid (∀ V, WinsAt V sv ws → Calls Tryd.prog 49 #[.agg (roomC wd hg sv)] V fun e w' => e = .returned (.bool true) ∧ Below V.heap.size V w') := Lib.hid (fun V h => by have := ValidRoom_any wd hg sv ws V h; rw [hv] at this; exact this)
  have HIP := Lib.hid (fun V => isPart_is2 pt _ hp V)
  have HRF : Hid (∀ V, ErrsAt V e0 e1 e2 e3 → Calls Tryd.prog 48 #[.bool true, .bool true, .bool true] V fun e w' => e = .returned .nilIface ∧ V = w') := Lib.hid (fun V h => refusal_any h true true true)
  have hn := fun w => run_neq_nil_nil (P := Tryd.prog) (w := w) 88 (by kernel_rfl)
  have HWW : Hid (∀ V, WinsAt V sv ws → Calls Tryd.prog 71 #[.agg (roomC wd hg sv), .func (.func 72) #[] #[]] V fun e w' => (∃ v, e = .returned (.agg (roomC wd hg v)) ∧ OwnW w' V.heap.size v ws) ∧ Below V.heap.size V w') := Lib.hid (fun V h => by
    have := withWindows_any wd hg sv ws ok.len 72 enterId #[] id (fun _ => True) V h (fun W hb => trivial) (fun x W hx hc => idF_any x W)
    rw [List.map_id] at this
    exact this)
  have hx : ws[k]? = some (ws[k]'hk) := List.getElem?_eq_getElem _
  have hxp := (fit_get (hwf _ (List.mem_of_getElem? hx)) (ok.all _ (List.mem_of_getElem? hx))).part
  generalize (ws[k]'hk) = x at *
  have radd : ∀ T w, (binOp .mul T (.float .f32 x.2.2) (.float .f32 pt)).run Tryd.prog w = .ok (.float .f32 (fmul x.2.2 pt)) w := fun T w => run_float_arith w .mul T .f32 _ _ _ (part_mul hxp hpt)
  have HDR := Lib.hid (fun (cur : Array Value) (hs : ws.length * 3 ≤ cur.size) (h : ∀ j y, ws[j]? = some y → cur.extract (j * 3) (j * 3 + 3) = winC y) => dim_row (p := pt) hs hx h)
  have HXX := Lib.hid hx
  have HDL := Lib.hid (dimL_len ws k pt)
  have HW := Lib.hid hws
  have HX := Lib.hid hE
  have hn12 := ok.len
  obtain ⟨sa, scap, rfl, -, -, -⟩ := hws
  have zd1 : decide ((0 : Int) ≤ (k : Int)) = true := decide_eq_true (by omega)
  have zd2 : decide ((k : Int) < (ws.length : Int)) = true := decide_eq_true (by omega)
  generalize dimL ws k pt = dl at *
  generalize hnn : ws.length = n at *
  have HN := Lib.hid hnn
  clear hE hv hp hwf ok hx hxp hpt hnn
  go_enter Tryd.func30, Tryd.ntmps30
  go_upto_region 1 with (fail)
  refine abs_world (fun W => W.heap[w.heap.size]? = some (.cells (roomC wd hg (.slice sa n scap)) 34 (0, 0)) ∧ W.heap[w.heap.size + 1]? = some (.cells (roomC 0 0 (.slice none 0 0)) 34 (0, 0)) ∧ Below w.heap.size w W) (two_at w (.cells (roomC wd hg (.slice sa n scap)) 34) (.cells (roomC 0 0 (.slice none 0 0)) 34)) ?_
  rintro W ⟨h0, h1, hbz⟩
  have n01 : w.heap.size < w.heap.size + 1 := by omega
  generalize w.heap.size + 1 = b1 at *
  have H0 := Lib.hid h0
  have H1 := Lib.hid h1
  have r2 := (room_cells h0).2.2
  have HV := Lib.hid (wins_below HW.out hbz)
  replace HX := Lib.hid (errs_below HX.out hbz)
  clear h0 h1
  go_upto_region 6 with (first | (refine wpList_load_part rfl 34 _ rfl w.heap.size 0 3 rfl 34 (roomC wd hg (.slice sa n scap)) (0, 0) _ H0.out Tryd.underlying34 rfl info_room (room_fits _ _ _) _ (room_all _ _ _) ?_) | (go_at_call 49; refine (HVR.out _ HV.out).mono ?_; rintro e W1 ⟨rfl, hb1⟩; replace H0 := Lib.hid (below_row hb1 H0.out); replace H1 := Lib.hid (below_row hb1 H1.out); replace HV := Lib.hid (wins_below HV.out hb1); replace hbz := hbz.trans (hb1.mono hbz.size); replace HX := Lib.hid (errs_below HX.out hb1); clear hb1) | (go_at_call 48; refine (HRF.out _ HX.out).mono ?_; rintro e W3 ⟨rfl, rfl⟩) | (go_at_call 70; refine (HIP.out _).mono ?_; rintro e w9 ⟨rfl, rfl⟩) | (go_at_call 71; have hlc := row_lt H1.out; have hlz := hbz.size; refine (HWW.out _ HV.out).mono ?_; rintro e W5 ⟨⟨v5, rfl, hv5⟩, hb5⟩; have HV5 := Lib.hid hv5; clear hv5; replace H0 := Lib.hid (below_row hb5 H0.out); replace H1 := Lib.hid (below_row hb5 H1.out); replace HV := Lib.hid (wins_below HV.out hb5); replace hbz := hbz.trans (hb5.mono hbz.size); clear hb5) | (refine wpList_store_part rfl 34 _ _ rfl _ 0 (roomC wd hg v5) rfl rfl 34 _ (heap_alloc_new _ _) info_room (Nat.le_refl _) (room_oneQ _ _ (ownQ_ofW HV5.out)) ?_; rw [laid_allr _ _ (by rfl)]))
  obtain ⟨g, cur, rfl, k2, k3, k4, k5, k6⟩ := HV5.out
  rw [HN.out] at k4 k5
  have hgl := row_lt k3
  have hl1 := row_lt H1.out
  refine abs_world (fun X => X.heap[b1]? = some (.cells (roomC 0 0 (.slice none 0 0)) 34 (0, 0)) ∧ X.heap[W5.heap.size]? = some (.cells (roomC wd hg (.slice (some ⟨g, 0, none⟩) n n)) 34 (0, 0)) ∧ X.heap[g]? = some (.cells cur 119 (0, 0)) ∧ Below w.heap.size w X) ⟨below_row (rwZ _ _ _) H1.out, by rw [← HN.out]; exact setRow_heap _ _ _ _ _ _ (heap_alloc_new _ _), below_row (rwZ _ _ _) k3, hbz.trans ((rwZ _ _ _).mono hbz.size)⟩ ?_
  rw [HN.out]
  have HK6 := Lib.hid k6
  clear H0 H1 HV HX HV5 hbz k3 k6 HVR HIP HRF HWW hn HW r2
  generalize W5.heap.size = b10 at *
  rintro Y ⟨h1, h10, hgr, hbz⟩
  have H1 := Lib.hid h1
  have HT := Lib.hid h10
  have HG := Lib.hid hgr
  have r2 := (room_cells h10).2.2
  have q1 := cell_kR hgr (light_at (HK6.out k x HXX.out))
  have q2 := frozen_of_row Y g (k * 3 + 2) _ _ hgr
  have z1 : (k : Int) < (n : Int) := by omega
  have z2 : (0 : Int) ≤ (k : Int) := by omega
  clear h1 h10 hgr
  go_upto_region 7 with (fail)
  refine abs_world (fun X => X.heap[b1]? = some (.cells (roomC 0 0 (.slice none 0 0)) 34 (0, 0)) ∧ X.heap[b10]? = some (.cells (roomC wd hg (.slice (some ⟨g, 0, none⟩) n n)) 34 (0, 0)) ∧ X.heap[g]? = some (.cells (cur.setIfInBounds (k * 3 + 2) (.float .f32 (fmul x.2.2 pt))) 119 (0, 0)) ∧ Below w.heap.size w X) ⟨(heap_setCell_other _ _ _ _ (by simp; omega)).trans H1.out, (heap_setCell_other _ _ _ _ (by simp; omega)).trans HT.out, heap_setCell_same _ _ _ _ _ _ HG.out, hbz.setCell (p := ⟨g, k * 3 + 2, none⟩) (show w.heap.size ≤ g by omega) _⟩ ?_
  clear H1 HT HG hbz q1 q2 r2
  rintro Z ⟨h1, h10, hgr, hbz⟩
  have H1 := Lib.hid h1
  have HT := Lib.hid h10
  have HG := Lib.hid hgr
  clear h1 h10 hgr
  go_wp2_with (first | (refine wpList_load_part rfl 34 _ rfl b10 0 3 rfl 34 (roomC wd hg (.slice (some ⟨g, 0, none⟩) n n)) (0, 0) _ HT.out Tryd.underlying34 rfl info_room (room_fits _ _ _) _ (room_all _ _ _) ?_) | (refine wpList_store_part rfl 34 _ _ rfl b1 0 (roomC wd hg (.slice (some ⟨g, 0, none⟩) n n)) rfl rfl 34 _ H1.out info_room (Nat.le_refl _) (room_oneS _ _ _ _ _) ?_; rw [laid_allr _ _ (by rfl)]))
  refine bodyPost_ret (results_rm rfl _ _ b1 wd hg (.slice (some ⟨g, 0, none⟩) n n) rfl (setRow_heap _ _ _ _ _ _ H1.out)) rfl ?_
  exact ⟨⟨_, rfl, .inr ⟨g, n, _, by rw [HDL.out], by omega, (setRow_other _ _ _ _ (by omega)).trans HG.out, by rw [HDL.out]; omega, by unfold maxLen; omega, by rw [HDL.out]; simp; omega, HDR.out cur (by omega) HK6.out⟩⟩, below_setRow hbz (by omega) _⟩

end Go.Proofs.YtdccmdcgbembpaaDoor

namespace Go.Proofs.YtdccmdcgbembpaaDoor
open Go.RowKit

attribute [local go_sem] run_store_f

theorem laid_after (cs vs : Array Value) (off j n : Nat) (h : off + vs.size ≤ cs.size) (hj : off + vs.size ≤ j) : (laid cs vs off).extract j (j + n) = cs.extract j (j + n) := by
  apply Array.ext'
  rw [Array.toList_extract, Array.toList_extract, List.extract_eq_take_drop, List.extract_eq_take_drop, Nat.add_sub_cancel_left]
  unfold laid
  have hl : (cs.toList.take off ++ vs.toList).length = off + vs.size := by simp; omega
  apply List.ext_getElem?
  intro i
  simp only [List.getElem?_take, List.getElem?_drop]
  by_cases hi : i < n
  · simp only [hi, if_true]
    rw [List.getElem?_append_right (by rw [hl]; omega), hl, List.getElem?_drop]
    congr 1
    omega
  · simp [hi]

set_option maxRecDepth 100000 in
set_option maxHeartbeats 4000000 in
theorem sMr_n (wd hg : Int) (iw : I8 wd) (ih : I8 hg) (sv : Value) (ws : List Wn) (hwf : ∀ x ∈ ws, WnWf x) (w : World) (hws : WinsAt w sv ws) (hv : okRm wd hg ws = false) :
    Calls Tryd.prog 36 #[.agg (roomC wd hg sv)] w fun e w' => e = .returned (.tuple #[.agg (roomC 0 0 (.slice none 0 0)), .int .i64 1]) ∧ Below w.heap.size w w' := by
  have HOK : Hid (∀ V, V.heap[w.heap.size]? = some (.cells (roomC wd hg sv) 34 (0, 0)) → WinsAt V sv ws → Calls Tryd.prog 44 #[.pointer (some ⟨w.heap.size, 0, none⟩)] V fun e w' => e = .returned (.bool false) ∧ Below V.heap.size V w') := Lib.hid (fun V h0 h => by have := l03Ok_any wd hg iw ih sv ws hwf w.heap.size 34 (0, 0) V h0 h; rw [hv] at this; exact this)
  have HW := Lib.hid hws
  clear hws hv hwf iw ih
  go_enter Tryd.func36, Tryd.ntmps36
  go_upto_region 1 with (fail)
  refine abs_world (fun W => W.heap[w.heap.size]? = some (.cells (roomC wd hg sv) 34 (0, 0)) ∧ W.heap[w.heap.size + 1]? = some (.cells (roomC 0 0 (.slice none 0 0)) 34 (0, 0)) ∧ Below w.heap.size w W) (two_at w (.cells (roomC wd hg sv) 34) (.cells (roomC 0 0 (.slice none 0 0)) 34)) ?_
  rintro W ⟨h0, h1, hbz⟩
  have n01 : w.heap.size < w.heap.size + 1 := by omega
  generalize w.heap.size + 1 = b1 at *
  have H0 := Lib.hid h0
  have H1 := Lib.hid h1
  have HV := Lib.hid (wins_below HW.out hbz)
  clear h0 h1
  go_wp2_with (first | (go_at_call 44; refine (HOK.out _ H0.out HV.out).mono ?_; rintro e W1 ⟨rfl, hb1⟩; replace H0 := Lib.hid (below_row hb1 H0.out); replace H1 := Lib.hid (below_row hb1 H1.out); replace HV := Lib.hid (wins_below HV.out hb1); replace hbz := hbz.trans (hb1.mono hbz.size); clear hb1) | (refine wpList_buildRR rfl 34 _ rfl _ rfl [] rfl (roomC 0 0 (.slice none 0 0)) built_room0 ?_) | (refine wpList_store_part rfl 34 _ _ rfl b1 0 (roomC 0 0 (.slice none 0 0)) rfl rfl 34 _ H1.out info_room (Nat.le_refl _) (room_oneN _ _) ?_; rw [laid_allr _ _ (by rfl)]))
  refine bodyPost_ret (results_rm rfl _ _ b1 0 0 (.slice none 0 0) rfl (setRow_heap _ _ _ _ _ _ H1.out)) rfl ?_
  exact ⟨rfl, below_setRow hbz (by omega) _⟩

set_option maxRecDepth 100000 in
set_option maxHeartbeats 8000000 in
theorem sMr_y (wd hg : Int) (iw : I8 wd) (ih : I8 hg) (sv : Value) (ws : List Wn) (ok : RmOk wd hg ws) (hwf : ∀ x ∈ ws, WnWf x) (lo : Nat) (w : World) (hws : OwnW w lo sv ws) (hv : okRm wd hg ws = true) :
    Calls Tryd.prog 36 #[.agg (roomC wd hg sv)] w fun e w' => (∃ v, e = .returned (.tuple #[.agg (roomC wd hg v), .int .i64 0]) ∧ OwnQ w' w.heap.size v (ws.map (mirW wd))) ∧ Below w.heap.size w w' := by
  have HOK : Hid (∀ V, V.heap[w.heap.size]? = some (.cells (roomC wd hg sv) 34 (0, 0)) → WinsAt V sv ws → Calls Tryd.prog 44 #[.pointer (some ⟨w.heap.size, 0, none⟩)] V fun e w' => e = .returned (.bool true) ∧ Below V.heap.size V w') := Lib.hid (fun V h0 h => by have := l03Ok_any wd hg iw ih sv ws hwf w.heap.size 34 (0, 0) V h0 h; rw [hv] at this; exact this)
  have HOW : Hid (∀ V, V.heap[w.heap.size]? = some (.cells (roomC wd hg sv) 34 (0, 0)) → OwnW V lo sv ws → Calls Tryd.prog 69 #[.pointer (some ⟨w.heap.size, 0, none⟩)] V fun e w' => (∃ v, e = .returned (.agg (roomC wd hg v)) ∧ OwnV w' V.heap.size v ws) ∧ Below V.heap.size V w') := Lib.hid (fun V h0 h => l03Own_any wd hg sv ws lo w.heap.size V h h0)
  have HFT := Lib.hid (fun (x : Wn) (hx : x ∈ ws) => fit_get (hwf x hx) (ok.all x hx))
  have w0 := ok.w0
  have w1 := ok.w1
  have hn12 := ok.len
  have HWO := Lib.hid hws
  have HW := Lib.hid (ownW_at hws)
  clear hws hv hwf iw ih ok
  go_enter Tryd.func36, Tryd.ntmps36
  go_upto_region 1 with (fail)
  refine abs_world (fun W => W.heap[w.heap.size]? = some (.cells (roomC wd hg sv) 34 (0, 0)) ∧ W.heap[w.heap.size + 1]? = some (.cells (roomC 0 0 (.slice none 0 0)) 34 (0, 0)) ∧ Below w.heap.size w W) (two_at w (.cells (roomC wd hg sv) 34) (.cells (roomC 0 0 (.slice none 0 0)) 34)) ?_
  rintro W ⟨h0, h1, hbz⟩
  have n01 : w.heap.size < w.heap.size + 1 := by omega
  generalize w.heap.size + 1 = b1 at *
  have H0 := Lib.hid h0
  have H1 := Lib.hid h1
  have HV := Lib.hid (wins_below HW.out hbz)
  have HO := Lib.hid (ownW_below HWO.out hbz (Nat.le_refl _))
  clear h0 h1
  go_upto_region 4 with (first | (go_at_call 44; refine (HOK.out _ H0.out HV.out).mono ?_; rintro e W1 ⟨rfl, hb1⟩; replace H0 := Lib.hid (below_row hb1 H0.out); replace H1 := Lib.hid (below_row hb1 H1.out); replace HV := Lib.hid (wins_below HV.out hb1); replace hbz := hbz.trans (hb1.mono hbz.size); replace HO := Lib.hid (ownW_below HO.out hb1 (Nat.le_refl _)); clear hb1) | (go_at_call 69; have hlc := row_lt H1.out; have hlz := hbz.size; refine (HOW.out _ H0.out HO.out).mono ?_; rintro e W2 ⟨⟨v4, rfl, hv4⟩, hb2⟩; have HV4 := Lib.hid hv4; clear hv4; replace H0 := Lib.hid (below_row hb2 H0.out); replace H1 := Lib.hid (below_row hb2 H1.out); replace hbz := hbz.trans (hb2.mono hbz.size); clear hb2) | (refine wpList_store_part rfl 34 _ _ rfl _ 0 (roomC wd hg v4) rfl rfl 34 _ (heap_alloc_new _ _) info_room (Nat.le_refl _) (room_oneQ _ _ (.inr HV4.out)) ?_; rw [laid_allr _ _ (by rfl)]))
  obtain ⟨g, cap, cur, rfl, k1, k2, k3, k4, k5, k6⟩ := HV4.out
  have hgl := row_lt k2
  have hsz2 := hbz.size
  refine abs_world (fun X => X.heap[w.heap.size]? = some (.cells (roomC wd hg sv) 34 (0, 0)) ∧ X.heap[b1]? = some (.cells (roomC 0 0 (.slice none 0 0)) 34 (0, 0)) ∧ X.heap[W2.heap.size]? = some (.cells (roomC wd hg (.slice (some ⟨g, 0, none⟩) ws.length cap)) 34 (0, 0)) ∧ X.heap[g]? = some (.cells cur 119 (0, 0)) ∧ Below w.heap.size w X) ⟨below_row (rwZ _ _ _) H0.out, below_row (rwZ _ _ _) H1.out, setRow_heap _ _ _ _ _ _ (heap_alloc_new _ _), below_row (rwZ _ _ _) k2, hbz.trans ((rwZ _ _ _).mono hbz.size)⟩ ?_
  have HK6 := Lib.hid k6
  clear H0 H1 HV HO HV4 hbz k2 k6 HOK HOW HWO HW
  generalize W2.heap.size = b4 at *
  generalize hnn : ws.length = n at *
  have HN := Lib.hid hnn
  clear hnn
  rintro Y ⟨h0, h1, h4, hgr, hbz⟩
  have H0 := Lib.hid h0
  have H1 := Lib.hid h1
  have H4 := Lib.hid h4
  have HG := Lib.hid hgr
  clear h0 h1 h4 hgr
  go_wp2
  go_loopw [5] (fun i wr => ∃ k : Nat, k ≤ n ∧ i = .int .i64 (k : Int) ∧ wr.heap[w.heap.size]? = some (.cells (roomC wd hg sv) 34 (0, 0)) ∧ wr.heap[b1]? = some (.cells (roomC 0 0 (.slice none 0 0)) 34 (0, 0)) ∧ wr.heap[b4]? = some (.cells (roomC wd hg (.slice (some ⟨g, 0, none⟩) n cap)) 34 (0, 0)) ∧ Below w.heap.size w wr ∧ ∃ cur : Array Value, wr.heap[g]? = some (.cells cur 119 (0, 0)) ∧ n * 3 ≤ cur.size ∧ ∀ j x, ws[j]? = some x → cur.extract (j * 3) (j * 3 + 3) = winC (if j < k then mirW wd x else x)) (fun i _ => n - (intOf i).toNat)
  case atStart => exact ⟨0, Nat.zero_le _, rfl, H0.out, H1.out, H4.out, hbz, cur, HG.out, k5, fun j x hx => by rw [if_neg (by omega)]; exact HK6.out j x hx⟩
  case round =>
    clear H0 H1 H4 HG hbz HK6 k5 cur
    obtain ⟨k, hk, rfl, h0, h1, h4, hbz, cur, hgr, hs, hp⟩ := hrel
    have H0 := Lib.hid h0
    have H1 := Lib.hid h1
    have H4 := Lib.hid h4
    have HG := Lib.hid hgr
    have HP := Lib.hid hp
    have hl4 := row_lt h4
    have r2 := (room_cells h4).2.2
    clear h0 h1 h4 hgr hp
    by_cases hlt : k < n
    · have hx : ws[k]? = some (ws[k]'(by rw [HN.out]; exact hlt)) := List.getElem?_eq_getElem _
      have hft := HFT.out _ (List.mem_of_getElem? hx)
      generalize (ws[k]'(by rw [HN.out]; exact hlt)) = x at *
      have HEX : Hid (cur.extract (k * 3) (k * 3 + 3) = winC x) := Lib.hid (by have := HP.out k x hx; rw [if_neg (by omega)] at this; exact this)
      have HXX := Lib.hid hx
      have hks : k * 3 + 3 ≤ cur.size := by omega
      have z1 : (k : Int) < (n : Int) := by omega
      have z2 : (0 : Int) ≤ (k : Int) := by omega
      clear hx
      go_upto_region 8 with (first | (refine wpList_load_part rfl 119 _ rfl g (k * 3) 3 rfl 119 cur (0, 0) _ HG.out Tryd.underlying119 rfl info_win hks (winC x) HEX.out ?_) | (refine wpList_store_part rfl 119 _ _ rfl _ 0 (winC x) rfl rfl 119 _ (heap_alloc_new _ _) (by kernel_rfl) (Nat.le_refl _) (win_one _) ?_; rw [laid_allr _ _ (by rfl)]))
      refine abs_world (fun X => X.heap[w.heap.size]? = some (.cells (roomC wd hg sv) 34 (0, 0)) ∧ X.heap[b1]? = some (.cells (roomC 0 0 (.slice none 0 0)) 34 (0, 0)) ∧ X.heap[b4]? = some (.cells (roomC wd hg (.slice (some ⟨g, 0, none⟩) n cap)) 34 (0, 0)) ∧ X.heap[g]? = some (.cells cur 119 (0, 0)) ∧ X.heap[wr.heap.size]? = some (.cells (winC x) 119 (0, 0)) ∧ Below w.heap.size w X) ⟨below_row (rwZ _ _ _) H0.out, below_row (rwZ _ _ _) H1.out, below_row (rwZ _ _ _) H4.out, below_row (rwZ _ _ _) HG.out, setRow_heap _ _ _ _ _ _ (heap_alloc_new _ _), hbz.trans ((rwZ _ _ _).mono hbz.size)⟩ ?_
      have hlg := row_lt HG.out
      clear H0 H1 H4 HG hbz r2
      generalize wr.heap.size = b6 at *
      rintro X ⟨h0, h1, h4, hgr, h6, hbz⟩
      have H0 := Lib.hid h0
      have H1 := Lib.hid h1
      have H4 := Lib.hid h4
      have HG := Lib.hid hgr
      have HXW := Lib.hid h6
      clear h0 h1 h4 hgr h6
      obtain ⟨y, hy⟩ : ∃ y, y = mirW wd x := ⟨_, rfl⟩
      have HYM := Lib.hid hy
      obtain ⟨x1, x2, x3⟩ := x
      have q3 := hft.a0
      have q4 := hft.a1
      have ql0 := hft.l0
      have ql1 := hft.l1
      unfold lastW at q4
      dsimp only at q3 q4 ql0 ql1
      have hcs : x1 = 1 ∨ x1 = 3 ∨ (x1 ≠ 1 ∧ x1 ≠ 3) := by omega
      clear hft hy
      have HFIN : Hid (∀ U : World, U.heap[w.heap.size]? = some (.cells (roomC wd hg sv) 34 (0, 0)) → U.heap[b1]? = some (.cells (roomC 0 0 (.slice none 0 0)) 34 (0, 0)) → U.heap[b4]? = some (.cells (roomC wd hg (.slice (some ⟨g, 0, none⟩) n cap)) 34 (0, 0)) → U.heap[g]? = some (.cells cur 119 (0, 0)) → Below w.heap.size w U → ∀ v : Value, v = .int .i64 ((k + 1 : Nat) : Int) → ∃ k' : Nat, k' ≤ n ∧ v = .int .i64 (k' : Int) ∧ (U.setRow g (laid cur (winC y) (k * 3))).heap[w.heap.size]? = some (.cells (roomC wd hg sv) 34 (0, 0)) ∧ (U.setRow g (laid cur (winC y) (k * 3))).heap[b1]? = some (.cells (roomC 0 0 (.slice none 0 0)) 34 (0, 0)) ∧ (U.setRow g (laid cur (winC y) (k * 3))).heap[b4]? = some (.cells (roomC wd hg (.slice (some ⟨g, 0, none⟩) n cap)) 34 (0, 0)) ∧ Below w.heap.size w (U.setRow g (laid cur (winC y) (k * 3))) ∧ ∃ cur' : Array Value, (U.setRow g (laid cur (winC y) (k * 3))).heap[g]? = some (.cells cur' 119 (0, 0)) ∧ n * 3 ≤ cur'.size ∧ ∀ j x, ws[j]? = some x → cur'.extract (j * 3) (j * 3 + 3) = winC (if j < k' then mirW wd x else x)) := Lib.hid (by
        intro U u0 u1 u4 ug ub v hve
        refine ⟨k + 1, by omega, hve, (setRow_other _ _ _ _ (by omega)).trans u0, (setRow_other _ _ _ _ (by omega)).trans u1, (setRow_other _ _ _ _ (by omega)).trans u4, below_setRow ub (by omega) _, _, setRow_heap _ _ _ _ _ _ ug, by rw [laid_size _ _ _ hks]; exact hs, fun j z hz => ?_⟩
        by_cases e : j = k
        · subst e
          rw [HXX.out] at hz
          obtain rfl := Option.some.inj hz
          rw [if_pos (by omega), ← HYM.out]
          exact laid_here cur (winC y) (j * 3) hks
        · by_cases e2 : j < k
          · rw [laid_there cur (winC y) (k * 3) (j * 3) 3 hks (by omega), HP.out j z hz, if_pos e2, if_pos (by omega)]
          · rw [laid_after cur (winC y) (k * 3) (j * 3) 3 hks (by show k * 3 + 3 ≤ j * 3; omega), HP.out j z hz, if_neg e2, if_neg (by omega)])
      rcases hcs with rfl | rfl | ⟨n1, n3⟩
      · have HY : Hid (y = (4 - 1, x2, x3)) := Lib.hid (by rw [HYM.out]; unfold mirW; dsimp only; rw [if_pos (by omega)])
        have hwq : IntKind.i8.wrap (4 - 1) = 4 - 1 := by decide
        obtain ⟨c0, c1, c2⟩ := win_cells HXW.out
        have r0 := (room_cells H0.out).1
        have f2 := frozen_of_row X b6 0 _ _ HXW.out
        go_upto_region 11 with (fail)
        refine abs_world (fun X => X.heap[w.heap.size]? = some (.cells (roomC wd hg sv) 34 (0, 0)) ∧ X.heap[b1]? = some (.cells (roomC 0 0 (.slice none 0 0)) 34 (0, 0)) ∧ X.heap[b4]? = some (.cells (roomC wd hg (.slice (some ⟨g, 0, none⟩) n cap)) 34 (0, 0)) ∧ X.heap[g]? = some (.cells cur 119 (0, 0)) ∧ X.heap[b6]? = some (.cells (winC y) 119 (0, 0)) ∧ Below w.heap.size w X) ⟨(heap_setCell_other _ _ _ _ (by simp; omega)).trans H0.out, (heap_setCell_other _ _ _ _ (by simp; omega)).trans H1.out, (heap_setCell_other _ _ _ _ (by simp; omega)).trans H4.out, (heap_setCell_other _ _ _ _ (by simp; omega)).trans HG.out, by rw [heap_setCell_same _ _ _ _ _ _ HXW.out, HY.out]; rfl, hbz.setCell (p := ⟨b6, 0, none⟩) (show w.heap.size ≤ b6 by omega) _⟩ ?_
        clear H0 H1 H4 HG HXW hbz
        rintro Z ⟨h0, h1, h4, hgr, h6, hbz⟩
        have H0 := Lib.hid h0
        have H1 := Lib.hid h1
        have H4 := Lib.hid h4
        have HG := Lib.hid hgr
        have HXW := Lib.hid h6
        have r2 := (room_cells h4).2.2
        clear h0 h1 h4 hgr h6
        go_wp2_with (first | (refine wpList_load_part rfl 119 _ rfl b6 0 3 rfl 119 (winC y) (0, 0) _ HXW.out Tryd.underlying119 rfl info_win (win_fits _) _ (win_all _) ?_) | (refine wpList_store_part rfl 119 _ _ rfl g (k * 3) (winC y) rfl rfl 119 cur HG.out (by kernel_rfl) hks (win_one _) ?_))
        go_roundw
        case rel => exact HFIN.out Z H0.out H1.out H4.out HG.out hbz _ (by go_num)
        case measure => simp [intOf]; omega
      · have HY : Hid (y = (4 - 3, x2, x3)) := Lib.hid (by rw [HYM.out]; unfold mirW; dsimp only; rw [if_pos (by omega)])
        have hwq : IntKind.i8.wrap (4 - 3) = 4 - 3 := by decide
        obtain ⟨c0, c1, c2⟩ := win_cells HXW.out
        have r0 := (room_cells H0.out).1
        have f2 := frozen_of_row X b6 0 _ _ HXW.out
        go_upto_region 11 with (fail)
        refine abs_world (fun X => X.heap[w.heap.size]? = some (.cells (roomC wd hg sv) 34 (0, 0)) ∧ X.heap[b1]? = some (.cells (roomC 0 0 (.slice none 0 0)) 34 (0, 0)) ∧ X.heap[b4]? = some (.cells (roomC wd hg (.slice (some ⟨g, 0, none⟩) n cap)) 34 (0, 0)) ∧ X.heap[g]? = some (.cells cur 119 (0, 0)) ∧ X.heap[b6]? = some (.cells (winC y) 119 (0, 0)) ∧ Below w.heap.size w X) ⟨(heap_setCell_other _ _ _ _ (by simp; omega)).trans H0.out, (heap_setCell_other _ _ _ _ (by simp; omega)).trans H1.out, (heap_setCell_other _ _ _ _ (by simp; omega)).trans H4.out, (heap_setCell_other _ _ _ _ (by simp; omega)).trans HG.out, by rw [heap_setCell_same _ _ _ _ _ _ HXW.out, HY.out]; rfl, hbz.setCell (p := ⟨b6, 0, none⟩) (show w.heap.size ≤ b6 by omega) _⟩ ?_
        clear H0 H1 H4 HG HXW hbz
        rintro Z ⟨h0, h1, h4, hgr, h6, hbz⟩
        have H0 := Lib.hid h0
        have H1 := Lib.hid h1
        have H4 := Lib.hid h4
        have HG := Lib.hid hgr
        have HXW := Lib.hid h6
        have r2 := (room_cells h4).2.2
        clear h0 h1 h4 hgr h6
        go_wp2_with (first | (refine wpList_load_part rfl 119 _ rfl b6 0 3 rfl 119 (winC y) (0, 0) _ HXW.out Tryd.underlying119 rfl info_win (win_fits _) _ (win_all _) ?_) | (refine wpList_store_part rfl 119 _ _ rfl g (k * 3) (winC y) rfl rfl 119 cur HG.out (by kernel_rfl) hks (win_one _) ?_))
        go_roundw
        case rel => exact HFIN.out Z H0.out H1.out H4.out HG.out hbz _ (by go_num)
        case measure => simp [intOf]; omega
      · have HY : Hid (y = (x1, wd - 1 - x2, x3)) := Lib.hid (by rw [HYM.out]; unfold mirW; dsimp only; rw [if_neg (by omega)])
        rw [if_neg (by omega)] at q4
        have hw1 : IntKind.i8.wrap (wd - 1) = wd - 1 := by rw [IntWalk.i8_in _ (by omega)]
        have hw2 : IntKind.i8.wrap (wd - 1 - x2) = wd - 1 - x2 := by rw [IntWalk.i8_in _ (by omega)]
        have d1 : (x1 == 1) = false := beq_eq_false_iff_ne.2 n1
        have d3 : (x1 == 3) = false := beq_eq_false_iff_ne.2 n3
        obtain ⟨c0, c1, c2⟩ := win_cells HXW.out
        have r0 := (room_cells H0.out).1
        have f2 := frozen_of_row X b6 1 _ _ HXW.out
        go_upto_region 11 with (fail)
        refine abs_world (fun X => X.heap[w.heap.size]? = some (.cells (roomC wd hg sv) 34 (0, 0)) ∧ X.heap[b1]? = some (.cells (roomC 0 0 (.slice none 0 0)) 34 (0, 0)) ∧ X.heap[b4]? = some (.cells (roomC wd hg (.slice (some ⟨g, 0, none⟩) n cap)) 34 (0, 0)) ∧ X.heap[g]? = some (.cells cur 119 (0, 0)) ∧ X.heap[b6]? = some (.cells (winC y) 119 (0, 0)) ∧ Below w.heap.size w X) ⟨(heap_setCell_other _ _ _ _ (by simp; omega)).trans H0.out, (heap_setCell_other _ _ _ _ (by simp; omega)).trans H1.out, (heap_setCell_other _ _ _ _ (by simp; omega)).trans H4.out, (heap_setCell_other _ _ _ _ (by simp; omega)).trans HG.out, by rw [heap_setCell_same _ _ _ _ _ _ HXW.out, HY.out]; rfl, hbz.setCell (p := ⟨b6, 1, none⟩) (show w.heap.size ≤ b6 by omega) _⟩ ?_
        clear H0 H1 H4 HG HXW hbz
        rintro Z ⟨h0, h1, h4, hgr, h6, hbz⟩
        have H0 := Lib.hid h0
        have H1 := Lib.hid h1
        have H4 := Lib.hid h4
        have HG := Lib.hid hgr
        have HXW := Lib.hid h6
        have r2 := (room_cells h4).2.2
        clear h0 h1 h4 hgr h6
        go_wp2_with (first | (refine wpList_load_part rfl 119 _ rfl b6 0 3 rfl 119 (winC y) (0, 0) _ HXW.out Tryd.underlying119 rfl info_win (win_fits _) _ (win_all _) ?_) | (refine wpList_store_part rfl 119 _ _ rfl g (k * 3) (winC y) rfl rfl 119 cur HG.out (by kernel_rfl) hks (win_one _) ?_))
        go_roundw
        case rel => exact HFIN.out Z H0.out H1.out H4.out HG.out hbz _ (by go_num)
        case measure => simp [intOf]; omega
    · obtain rfl : k = n := by omega
      have hlg := row_lt HG.out
      have HRES : Hid (∀ U : World, U.heap[g]? = some (.cells cur 119 (0, 0)) → OwnQ U w.heap.size (.slice (some ⟨g, 0, none⟩) k cap) (ws.map (mirW wd))) := Lib.hid (fun U hu => .inr ⟨g, cap, cur, by rw [List.length_map, HN.out], by omega, hu, by rw [List.length_map, HN.out]; exact k3, k4, by rw [List.length_map, HN.out]; exact hs, fun j z hz => by
        rw [List.getElem?_map] at hz
        cases hq : ws[j]? with
        | none => rw [hq] at hz; cases hz
        | some z0 =>
          rw [hq] at hz
          obtain rfl := Option.some.inj hz
          have hj := (List.getElem?_eq_some_iff.1 hq).1
          have := HP.out j z0 hq
          rw [if_pos (by have := HN.out; omega)] at this
          exact this⟩)
      go_wp2_with (first | (refine wpList_load_part rfl 34 _ rfl b4 0 3 rfl 34 (roomC wd hg (.slice (some ⟨g, 0, none⟩) k cap)) (0, 0) _ H4.out Tryd.underlying34 rfl info_room (room_fits _ _ _) _ (room_all _ _ _) ?_) | (refine wpList_store_part rfl 34 _ _ rfl b1 0 (roomC wd hg (.slice (some ⟨g, 0, none⟩) k cap)) rfl rfl 34 _ H1.out info_room (Nat.le_refl _) (room_oneS _ _ _ _ _) ?_; rw [laid_allr _ _ (by rfl)]))
      refine bodyPost_ret (results_rm rfl _ _ b1 wd hg (.slice (some ⟨g, 0, none⟩) k cap) rfl (setRow_heap _ _ _ _ _ _ H1.out)) rfl ?_
      exact ⟨⟨_, rfl, HRES.out _ ((setRow_other _ _ _ _ (by omega)).trans HG.out)⟩, below_setRow hbz (by omega) _⟩

end Go.Proofs.YtdccmdcgbembpaaDoor

namespace Go.Proofs.YtdccmdcgbembpaaDoor
open Go.RowKit

attribute [local go_sem] run_store_f run_store_flR

set_option maxRecDepth 100000 in
set_option maxHeartbeats 4000000 in
theorem sDw_n0 (wd hg : Int) (iw : I8 wd) (ih : I8 hg) (sv : Value) (ws : List Wn) (hwf : ∀ x ∈ ws, WnWf x) (ix : Int) (pt : Nat) (w : World) (hws : WinsAt w sv ws) (hin : inI 0 ((ws.length : Int) - 1) ix = false) (c : Int) (hc : codeR (okRm wd hg ws) (false) = c) (hne : c ≠ 0) :
    Calls Tryd.prog 29 #[.agg (roomC wd hg sv), .int .i64 ix, .float .f32 pt] w fun e w' => e = .returned (.tuple #[.agg (roomC 0 0 (.slice none 0 0)), .int .i64 c]) ∧ Below w.heap.size w w' := by
  have HAS : Hid (∀ V, V.heap[w.heap.size]? = some (.cells (roomC wd hg sv) 34 (0, 0)) → WinsAt V sv ws → Calls Tryd.prog 55 #[.pointer (some ⟨w.heap.size, 0, none⟩), .bool (false)] V fun e w' => e = .returned (.int .i64 c) ∧ Below V.heap.size V w') := Lib.hid (fun V h0 h => by have := l03Asked_any wd hg iw ih sv ws hwf (false) w.heap.size 34 (0, 0) V h0 h; rw [hc] at this; exact this)
  have HIN : Hid (∀ V, Calls Tryd.prog 67 #[.int .i64 ix, .int .i64 0, .int .i64 ((ws.length : Int) - 1)] V fun e w' => e = .returned (.bool false) ∧ V = w') := Lib.hid (fun V => by have := l00In_ban ix 0 ((ws.length : Int) - 1) V; rw [hin] at this; exact this)
  have HPT := Lib.hid (fun V => l01Part_any pt V)
  have hcn : (c != 0) = true := bne_iff_ne.2 hne
  have HW := Lib.hid hws
  obtain ⟨sa, scap, rfl, hl1, hl2, -⟩ := hws
  unfold maxLen at hl2
  have hw1 : IntKind.i64.wrap ((ws.length : Int) - 1) = (ws.length : Int) - 1 := by rw [IntWalk.i64_in _ (by omega)]
  generalize ws.length = n at *
  generalize partB pt = pb at *
  clear hc hwf iw ih hin
  go_enter Tryd.func29, Tryd.ntmps29
  go_upto_region 1 with (fail)
  refine abs_world (fun W => W.heap[w.heap.size]? = some (.cells (roomC wd hg (.slice sa n scap)) 34 (0, 0)) ∧ W.heap[w.heap.size + 1]? = some (.cells (roomC 0 0 (.slice none 0 0)) 34 (0, 0)) ∧ Below w.heap.size w W) (two_at w (.cells (roomC wd hg (.slice sa n scap)) 34) (.cells (roomC 0 0 (.slice none 0 0)) 34)) ?_
  rintro W ⟨h0, h1, hbz⟩
  have n01 : w.heap.size < w.heap.size + 1 := by omega
  generalize w.heap.size + 1 = b1 at *
  have H0 := Lib.hid h0
  have H1 := Lib.hid h1
  have r2 := (room_cells h0).2.2
  have HV := Lib.hid (wins_below HW.out hbz)
  clear h0 h1
  go_wp2_with (first | (go_at_call 67; refine (HIN.out _).mono ?_; rintro e w8 ⟨rfl, rfl⟩) | (go_at_call 68; refine (HPT.out _).mono ?_; rintro e w9 ⟨rfl, rfl⟩) | (go_at_call 55; refine (HAS.out _ H0.out HV.out).mono ?_; rintro e W1 ⟨rfl, hb1⟩; replace H0 := Lib.hid (below_row hb1 H0.out); replace H1 := Lib.hid (below_row hb1 H1.out); replace HV := Lib.hid (wins_below HV.out hb1); replace hbz := hbz.trans (hb1.mono hbz.size); clear hb1) | (refine wpList_buildRR rfl 34 _ rfl _ rfl [] rfl (roomC 0 0 (.slice none 0 0)) built_room0 ?_) | (refine wpList_store_part rfl 34 _ _ rfl b1 0 (roomC 0 0 (.slice none 0 0)) rfl rfl 34 _ H1.out info_room (Nat.le_refl _) (room_oneN _ _) ?_; rw [laid_allr _ _ (by rfl)]))
  refine bodyPost_ret (results_rm rfl _ _ b1 0 0 (.slice none 0 0) rfl (setRow_heap _ _ _ _ _ _ H1.out)) rfl ?_
  exact ⟨rfl, below_setRow hbz (by omega) _⟩

set_option maxRecDepth 100000 in
set_option maxHeartbeats 4000000 in
theorem sDw_n1 (wd hg : Int) (iw : I8 wd) (ih : I8 hg) (sv : Value) (ws : List Wn) (hwf : ∀ x ∈ ws, WnWf x) (ix : Int) (pt : Nat) (w : World) (hws : WinsAt w sv ws) (hin : inI 0 ((ws.length : Int) - 1) ix = true) (c : Int) (hc : codeR (okRm wd hg ws) (partB pt) = c) (hne : c ≠ 0) :
    Calls Tryd.prog 29 #[.agg (roomC wd hg sv), .int .i64 ix, .float .f32 pt] w fun e w' => e = .returned (.tuple #[.agg (roomC 0 0 (.slice none 0 0)), .int .i64 c]) ∧ Below w.heap.size w w' := by
  have HAS : Hid (∀ V, V.heap[w.heap.size]? = some (.cells (roomC wd hg sv) 34 (0, 0)) → WinsAt V sv ws → Calls Tryd.prog 55 #[.pointer (some ⟨w.heap.size, 0, none⟩), .bool (partB pt)] V fun e w' => e = .returned (.int .i64 c) ∧ Below V.heap.size V w') := Lib.hid (fun V h0 h => by have := l03Asked_any wd hg iw ih sv ws hwf (partB pt) w.heap.size 34 (0, 0) V h0 h; rw [hc] at this; exact this)
  have HIN : Hid (∀ V, Calls Tryd.prog 67 #[.int .i64 ix, .int .i64 0, .int .i64 ((ws.length : Int) - 1)] V fun e w' => e = .returned (.bool true) ∧ V = w') := Lib.hid (fun V => by have := l00In_ban ix 0 ((ws.length : Int) - 1) V; rw [hin] at this; exact this)
  have HPT := Lib.hid (fun V => l01Part_any pt V)
  have hcn : (c != 0) = true := bne_iff_ne.2 hne
  have HW := Lib.hid hws
  obtain ⟨sa, scap, rfl, hl1, hl2, -⟩ := hws
  unfold maxLen at hl2
  have hw1 : IntKind.i64.wrap ((ws.length : Int) - 1) = (ws.length : Int) - 1 := by rw [IntWalk.i64_in _ (by omega)]
  generalize ws.length = n at *
  generalize partB pt = pb at *
  clear hc hwf iw ih hin
  go_enter Tryd.func29, Tryd.ntmps29
  go_upto_region 1 with (fail)
  refine abs_world (fun W => W.heap[w.heap.size]? = some (.cells (roomC wd hg (.slice sa n scap)) 34 (0, 0)) ∧ W.heap[w.heap.size + 1]? = some (.cells (roomC 0 0 (.slice none 0 0)) 34 (0, 0)) ∧ Below w.heap.size w W) (two_at w (.cells (roomC wd hg (.slice sa n scap)) 34) (.cells (roomC 0 0 (.slice none 0 0)) 34)) ?_
  rintro W ⟨h0, h1, hbz⟩
  have n01 : w.heap.size < w.heap.size + 1 := by omega
  generalize w.heap.size + 1 = b1 at *
  have H0 := Lib.hid h0
  have H1 := Lib.hid h1
  have r2 := (room_cells h0).2.2
  have HV := Lib.hid (wins_below HW.out hbz)
  clear h0 h1
  go_wp2_with (first | (go_at_call 67; refine (HIN.out _).mono ?_; rintro e w8 ⟨rfl, rfl⟩) | (go_at_call 68; refine (HPT.out _).mono ?_; rintro e w9 ⟨rfl, rfl⟩) | (go_at_call 55; refine (HAS.out _ H0.out HV.out).mono ?_; rintro e W1 ⟨rfl, hb1⟩; replace H0 := Lib.hid (below_row hb1 H0.out); replace H1 := Lib.hid (below_row hb1 H1.out); replace HV := Lib.hid (wins_below HV.out hb1); replace hbz := hbz.trans (hb1.mono hbz.size); clear hb1) | (refine wpList_buildRR rfl 34 _ rfl _ rfl [] rfl (roomC 0 0 (.slice none 0 0)) built_room0 ?_) | (refine wpList_store_part rfl 34 _ _ rfl b1 0 (roomC 0 0 (.slice none 0 0)) rfl rfl 34 _ H1.out info_room (Nat.le_refl _) (room_oneN _ _) ?_; rw [laid_allr _ _ (by rfl)]))
  refine bodyPost_ret (results_rm rfl _ _ b1 0 0 (.slice none 0 0) rfl (setRow_heap _ _ _ _ _ _ H1.out)) rfl ?_
  exact ⟨rfl, below_setRow hbz (by omega) _⟩

set_option maxRecDepth 100000 in
set_option maxHeartbeats 8000000 in
theorem sDw_y (wd hg : Int) (iw : I8 wd) (ih : I8 hg) (sv : Value) (ws : List Wn) (ok : RmOk wd hg ws) (hwf : ∀ x ∈ ws, WnWf x) (k : Nat) (pt : Nat) (hpt : PartOk pt) (lo : Nat) (w : World) (hws : OwnW w lo sv ws) (hv : okRm wd hg ws = true) (hk : k < ws.length) (hp : partB pt = true) :
    Calls Tryd.prog 29 #[.agg (roomC wd hg sv), .int .i64 (k : Int), .float .f32 pt] w fun e w' => (∃ v, e = .returned (.tuple #[.agg (roomC wd hg v), .int .i64 0]) ∧ OwnQ w' w.heap.size v (dimL ws k pt)) ∧ Below w.heap.size w w' := by
  have HAS : Hid (∀ V, V.heap[w.heap.size]? = some (.cells (roomC wd hg sv) 34 (0, 0)) → WinsAt V sv ws → Calls Tryd.prog 55 #[.pointer (some ⟨w.heap.size, 0, none⟩), .bool true] V fun e w' => e = .returned (.int .i64 0) ∧ Below V.heap.size V w') := Lib.hid (fun V h0 h => by have := l03Asked_any wd hg iw ih sv ws hwf true w.heap.size 34 (0, 0) V h0 h; rw [hv] at this; exact this)
  have hin : inI 0 ((ws.length : Int) - 1) (k : Int) = true := by unfold inI; simp; omega
  have HIN : Hid (∀ V, Calls Tryd.prog 67 #[.int .i64 (k : Int), .int .i64 0, .int .i64 ((ws.length : Int) - 1)] V fun e w' => e = .returned (.bool true) ∧ V = w') := Lib.hid (fun V => by have := l00In_ban (k : Int) 0 ((ws.length : Int) - 1) V; rw [hin] at this; exact this)
  have HPT : Hid (∀ V, Calls Tryd.prog 68 #[.float .f32 pt] V fun e w' => e = .returned (.bool true) ∧ V = w') := Lib.hid (fun V => by have := l01Part_any pt V; rw [hp] at this; exact this)
  have HOW : Hid (∀ V, V.heap[w.heap.size]? = some (.cells (roomC wd hg sv) 34 (0, 0)) → OwnW V lo sv ws → Calls Tryd.prog 69 #[.pointer (some ⟨w.heap.size, 0, none⟩)] V fun e w' => (∃ v, e = .returned (.agg (roomC wd hg v)) ∧ OwnV w' V.heap.size v ws) ∧ Below V.heap.size V w') := Lib.hid (fun V h0 h => l03Own_any wd hg sv ws lo w.heap.size V h h0)
  have hx : ws[k]? = some (ws[k]'hk) := List.getElem?_eq_getElem _
  have hxp := (fit_get (hwf _ (List.mem_of_getElem? hx)) (ok.all _ (List.mem_of_getElem? hx))).part
  generalize (ws[k]'hk) = x at *
  have radd : ∀ T w, (binOp .mul T (.float .f32 x.2.2) (.float .f32 pt)).run Tryd.prog w = .ok (.float .f32 (fmul x.2.2 pt)) w := fun T w => run_float_arith w .mul T .f32 _ _ _ (part_mul hxp hpt)
  have HDR := Lib.hid (fun (cur : Array Value) (hs : ws.length * 3 ≤ cur.size) (h : ∀ j y, ws[j]? = some y → cur.extract (j * 3) (j * 3 + 3) = winC y) => dim_row (p := pt) hs hx h)
  have HXX := Lib.hid hx
  have HDL := Lib.hid (dimL_len ws k pt)
  have HWO := Lib.hid hws
  have HW := Lib.hid (ownW_at hws)
  have hn12 := ok.len
  obtain ⟨g0, cur0, rfl, -, -, -, -, -⟩ := hws
  have hw1 : IntKind.i64.wrap ((ws.length : Int) - 1) = (ws.length : Int) - 1 := by rw [IntWalk.i64_in _ (by omega)]
  generalize dimL ws k pt = dl at *
  generalize hnn : ws.length = n at *
  have HN := Lib.hid hnn
  clear hv hp hwf ok hx hxp hpt hnn hin iw ih
  go_enter Tryd.func29, Tryd.ntmps29
  go_upto_region 1 with (fail)
  refine abs_world (fun W => W.heap[w.heap.size]? = some (.cells (roomC wd hg (.slice (some ⟨g0, 0, none⟩) n n)) 34 (0, 0)) ∧ W.heap[w.heap.size + 1]? = some (.cells (roomC 0 0 (.slice none 0 0)) 34 (0, 0)) ∧ Below w.heap.size w W) (two_at w (.cells (roomC wd hg (.slice (some ⟨g0, 0, none⟩) n n)) 34) (.cells (roomC 0 0 (.slice none 0 0)) 34)) ?_
  rintro W ⟨h0, h1, hbz⟩
  have n01 : w.heap.size < w.heap.size + 1 := by omega
  generalize w.heap.size + 1 = b1 at *
  have H0 := Lib.hid h0
  have H1 := Lib.hid h1
  have r2 := (room_cells h0).2.2
  have HV := Lib.hid (wins_below HW.out hbz)
  have HO := Lib.hid (ownW_below HWO.out hbz (Nat.le_refl _))
  clear h0 h1
  go_upto_region 5 with (first | (go_at_call 67; refine (HIN.out _).mono ?_; rintro e w8 ⟨rfl, rfl⟩) | (go_at_call 68; refine (HPT.out _).mono ?_; rintro e w9 ⟨rfl, rfl⟩) | (go_at_call 55; refine (HAS.out _ H0.out HV.out).mono ?_; rintro e W1 ⟨rfl, hb1⟩; replace H0 := Lib.hid (below_row hb1 H0.out); replace H1 := Lib.hid (below_row hb1 H1.out); replace HV := Lib.hid (wins_below HV.out hb1); replace hbz := hbz.trans (hb1.mono hbz.size); replace HO := Lib.hid (ownW_below HO.out hb1 (Nat.le_refl _)); clear hb1) | (go_at_call 69; have hlc := row_lt H1.out; have hlz := hbz.size; refine (HOW.out _ H0.out HO.out).mono ?_; rintro e W2 ⟨⟨v4, rfl, hv4⟩, hb2⟩; have HV4 := Lib.hid hv4; clear hv4; replace H0 := Lib.hid (below_row hb2 H0.out); replace H1 := Lib.hid (below_row hb2 H1.out); replace HV := Lib.hid (wins_below HV.out hb2); replace hbz := hbz.trans (hb2.mono hbz.size); clear hb2) | (refine wpList_store_part rfl 34 _ _ rfl _ 0 (roomC wd hg v4) rfl rfl 34 _ (heap_alloc_new _ _) info_room (Nat.le_refl _) (room_oneQ _ _ (.inr HV4.out)) ?_; rw [laid_allr _ _ (by rfl)]))
  obtain ⟨g, cap, cur, rfl, k1, k2, k3, k4, k5, k6⟩ := HV4.out
  rw [HN.out] at k3 k5
  have hgl := row_lt k2
  have hl1 := row_lt H1.out
  refine abs_world (fun X => X.heap[b1]? = some (.cells (roomC 0 0 (.slice none 0 0)) 34 (0, 0)) ∧ X.heap[W2.heap.size]? = some (.cells (roomC wd hg (.slice (some ⟨g, 0, none⟩) n cap)) 34 (0, 0)) ∧ X.heap[g]? = some (.cells cur 119 (0, 0)) ∧ Below w.heap.size w X) ⟨below_row (rwZ _ _ _) H1.out, by rw [← HN.out]; exact setRow_heap _ _ _ _ _ _ (heap_alloc_new _ _), below_row (rwZ _ _ _) k2, hbz.trans ((rwZ _ _ _).mono hbz.size)⟩ ?_
  have HK6 := Lib.hid k6
  clear H0 H1 HV HO HV4 hbz k2 k6 HAS HIN HPT HOW HWO HW r2
  generalize W2.heap.size = b10 at *
  rintro Y ⟨h1, h10, hgr, hbz⟩
  have H1 := Lib.hid h1
  have HT := Lib.hid h10
  have HG := Lib.hid hgr
  have r2 := (room_cells h10).2.2
  have q1 := cell_kR hgr (light_at (HK6.out k x HXX.out))
  have q2 := frozen_of_row Y g (k * 3 + 2) _ _ hgr
  have z1 : (k : Int) < (n : Int) := by omega
  have z2 : (0 : Int) ≤ (k : Int) := by omega
  have HVD : Hid (Below Y.heap.size Y Y.drew) := Lib.hid (Below.refl Y.heap.size Y).drew
  clear h1 h10 hgr
  refine wp_region_still_tail 13 (by kernel_rfl) (by kernel_rfl) ?_
  simp only [List.take_succ_cons, List.take_zero, List.drop_succ_cons, List.drop_zero]
  repeat still_step
  refine wpStill_nil ?_
  go_upto_region 6 with (fail)
  refine abs_world (fun X => X.heap[b1]? = some (.cells (roomC 0 0 (.slice none 0 0)) 34 (0, 0)) ∧ X.heap[b10]? = some (.cells (roomC wd hg (.slice (some ⟨g, 0, none⟩) n cap)) 34 (0, 0)) ∧ X.heap[g]? = some (.cells (cur.setIfInBounds (k * 3 + 2) (.float .f32 (fmul x.2.2 pt))) 119 (0, 0)) ∧ Below w.heap.size w X) ⟨(heap_setCell_other _ _ _ _ (by simp; omega)).trans H1.out, (heap_setCell_other _ _ _ _ (by simp; omega)).trans HT.out, heap_setCell_same _ _ _ _ _ _ HG.out, (hbz.trans (HVD.out.mono hbz.size)).setCell (p := ⟨g, k * 3 + 2, none⟩) (show w.heap.size ≤ g by omega) _⟩ ?_
  clear H1 HT HG hbz q1 q2 r2 HVD
  rintro Z ⟨h1, h10, hgr, hbz⟩
  have H1 := Lib.hid h1
  have HT := Lib.hid h10
  have HG := Lib.hid hgr
  clear h1 h10 hgr
  go_wp2_with (first | (refine wpList_load_part rfl 34 _ rfl b10 0 3 rfl 34 (roomC wd hg (.slice (some ⟨g, 0, none⟩) n cap)) (0, 0) _ HT.out Tryd.underlying34 rfl info_room (room_fits _ _ _) _ (room_all _ _ _) ?_) | (refine wpList_store_part rfl 34 _ _ rfl b1 0 (roomC wd hg (.slice (some ⟨g, 0, none⟩) n cap)) rfl rfl 34 _ H1.out info_room (Nat.le_refl _) (room_oneS _ _ _ _ _) ?_; rw [laid_allr _ _ (by rfl)]))
  refine bodyPost_ret (results_rm rfl _ _ b1 wd hg (.slice (some ⟨g, 0, none⟩) n cap) rfl (setRow_heap _ _ _ _ _ _ H1.out)) rfl ?_
  exact ⟨⟨_, rfl, .inr ⟨g, cap, _, by rw [HDL.out], by omega, (setRow_other _ _ _ _ (by omega)).trans HG.out, by rw [HDL.out]; exact k3, k4, by rw [HDL.out]; simp; omega, HDR.out cur (by omega) HK6.out⟩⟩, below_setRow hbz (by omega) _⟩

end Go.Proofs.YtdccmdcgbembpaaDoor

namespace Go.Proofs.YtdccmdcgbembpaaDoor
open Go.RowKit

theorem FnExactDimWindow_walk (wd hg : Int) (sv : Value) (ws : List Wn) (rw0 : RmWf wd hg ws) (ix : Int) (pt : Nat) (hpw : (Lit.float .f32 pt).wf = true) (w : World) (hws : WinsAt w sv ws) {e0 e1 e2 e3 : Addr} (hE : ErrsAt w e0 e1 e2 e3) :
    Calls Tryd.prog 7 #[.agg (roomC wd hg sv), .int .i64 ix, .float .f32 pt] w fun e w' => e = .returned (.bool true) ∧ Below w.heap.size w w' := by
  obtain ⟨iw, ih, hwf⟩ := rw0
  have bad : ∀ (c : Int) (hI : ∀ (s : Value) (W : World), WinsAt W s ws → ErrsAt W e0 e1 e2 e3 → Calls Tryd.prog 30 #[.agg (roomC wd hg s), .int .i64 ix, .float .f32 pt] W fun e w' => e = .returned (.tuple #[.agg (roomC 0 0 (.slice none 0 0)), .int .i64 c]) ∧ Below W.heap.size W w')
      (hS : ∀ (s : Value) (W : World), WinsAt W s ws → Calls Tryd.prog 29 #[.agg (roomC wd hg s), .int .i64 ix, .float .f32 pt] W fun e w' => e = .returned (.tuple #[.agg (roomC 0 0 (.slice none 0 0)), .int .i64 c]) ∧ Below W.heap.size W w'),
      Calls Tryd.prog 7 #[.agg (roomC wd hg sv), .int .i64 ix, .float .f32 pt] w fun e w' => e = .returned (.bool true) ∧ Below w.heap.size w w' := fun c hI hS =>
    lawDw_core wd hg sv ws 0 0 [] (by decide) c ix pt e0 e1 e2 e3 (fun s W lo h => (hS s W (ownW_at h)).mono (fun e w' h => ⟨⟨_, h.1, .inl ⟨rfl, rfl⟩⟩, h.2⟩)) (fun s W h k => (hI s W h k).mono (fun e w' h => ⟨⟨_, h.1, .inl ⟨rfl, rfl⟩⟩, h.2⟩)) w hws hE
  by_cases hin : inI 0 ((ws.length : Int) - 1) ix = true
  · have hb := inI_get hin
    have hx0 : 0 ≤ ix := hb.1
    have hx : ix < (ws.length : Int) := by omega
    cases hv : okRm wd hg ws with
    | false => exact bad 1 (fun s W h k => iDw_fC wd hg s ws ix pt e0 e1 e2 e3 W h k hv hx0 hx _ rfl) (fun s W h => sDw_n1 wd hg iw ih s ws hwf ix pt W h hin 1 (by rw [hv]; rfl) (by decide))
    | true =>
      cases hp : partB pt with
      | false => exact bad 2 (fun s W h k => iDw_tC wd hg s ws ix pt e0 e1 e2 e3 W h k hv hx0 hx _ hp rfl) (fun s W h => sDw_n1 wd hg iw ih s ws hwf ix pt W h hin 2 (by rw [hv, hp]; rfl) (by decide))
      | true =>
        obtain ⟨k, rfl⟩ := Int.eq_ofNat_of_zero_le hx0
        have hk : k < ws.length := by omega
        have ok := okRm_get hv
        have hpo : PartOk pt := betw_zero hpw (by decide) hp
        exact lawDw_core wd hg sv ws wd hg (dimL ws k pt) (by rw [dimL_len]; exact ok.len) 0 (k : Int) pt e0 e1 e2 e3 (fun s W lo h => sDw_y wd hg iw ih s ws ok hwf k pt hpo lo W h hv hk hp) (fun s W h q => iDw_y wd hg s ws ok hwf k pt hpo e0 e1 e2 e3 W h q hv hk hp) w hws hE
  · have hinf : inI 0 ((ws.length : Int) - 1) ix = false := by simpa using hin
    by_cases hx0 : 0 ≤ ix
    · have hx : (ws.length : Int) ≤ ix := by
        unfold inI at hin
        simp at hin
        omega
      cases hv : okRm wd hg ws with
      | false => exact bad 1 (fun s W h k => iDw_fB wd hg s ws ix pt e0 e1 e2 e3 W h k hv hx0 hx) (fun s W h => sDw_n0 wd hg iw ih s ws hwf ix pt W h hinf 1 (by rw [hv]; rfl) (by decide))
      | true => exact bad 2 (fun s W h k => iDw_tB wd hg s ws ix pt e0 e1 e2 e3 W h k hv hx0 hx) (fun s W h => sDw_n0 wd hg iw ih s ws hwf ix pt W h hinf 2 (by rw [hv]; rfl) (by decide))
    · cases hv : okRm wd hg ws with
      | false => exact bad 1 (fun s W h k => iDw_fA wd hg s ws ix pt e0 e1 e2 e3 W h k hv (by omega)) (fun s W h => sDw_n0 wd hg iw ih s ws hwf ix pt W h hinf 1 (by rw [hv]; rfl) (by decide))
      | true => exact bad 2 (fun s W h k => iDw_tA wd hg s ws ix pt e0 e1 e2 e3 W h k hv (by omega)) (fun s W h => sDw_n0 wd hg iw ih s ws hwf ix pt W h hinf 2 (by rw [hv]; rfl) (by decide))

end Go.Proofs.YtdccmdcgbembpaaDoor

namespace Go.Proofs.YtdccmdcgbembpaaDoor
open Go.ChangeShapes Go.WideShapes Go.ChangeAt Go.RowKit

set_option maxRecDepth 100000 in
theorem cells_sunL : Tryd.prog.cellsOf 67 = 48 := by kernel_rfl

set_option maxRecDepth 100000 in
theorem cells_arr : Tryd.prog.cellsOf 65 = 24 := by kernel_rfl

set_option maxRecDepth 100000 in
theorem cells_i16 : Tryd.prog.cellsOf 64 = 1 := by kernel_rfl

def rd16 : Value → Int | .int _ n => n | _ => 0

set_option maxRecDepth 100000 in
theorem open_arr {H : Type} {enc : TypeId × Value → H} {W : World} {base : Nat} {spare : Nat → Bool} {held : Bool} {fuel : Nat} {cs : List Value} {x : DataW H × List MemPlace}
    (h : DataW.trod enc Tryd.prog W base spare held fuel 65 cs = some x) : ∀ i, i < 24 → ∃ n, cs[i]? = some (.int .i16 n) ∧ -32768 ≤ n ∧ n ≤ 32767 := by
  obtain ⟨xs, m, _, _, hl, hlen, hf⟩ := Go.DataW.trod_array Tryd.underlying65 h
  rw [cells_arr] at hl
  intro i hi
  have h1 := hf i hi
  rw [cells_i16, Nat.mul_one] at h1
  rw [List.getElem?_eq_getElem (by omega : i < xs.length)] at h1
  obtain ⟨n, hn, _, hw⟩ := DataW.trod_int Tryd.underlying64 h1
  refine ⟨n, ?_, ?_⟩
  · have h2 : ((cs.drop i).take 1)[0]? = some (.int .i16 n) := by rw [hn]; rfl
    rw [List.getElem?_take_of_lt (by decide), List.getElem?_drop] at h2
    simpa using h2
  · simp [Lit.wf, IntKind.min, IntKind.max, IntKind.signed, IntKind.bits] at hw
    omega

set_option maxRecDepth 100000 in
theorem open_sun {H : Type} {enc : TypeId × Value → H} {W : World} {b0 base : Nat} {spare : Nat → Bool} {held : Bool} {r : Reach} {v : Value} {d : DataW H} {p : List MemPlace}
    (hv : Value.okWide Tryd.prog W r b0 67 v) (h : DataW.Trod enc Tryd.prog W base spare held 67 v d p) :
    ∃ hs ts : List Int, hs.length = 24 ∧ ts.length = 24 ∧ (∀ x ∈ hs ++ ts, -32768 ≤ x ∧ x ≤ 32767) ∧ v = .agg (sunC hs ts) := by
  obtain ⟨cs, rfl, hsz⟩ := okWide_struct Tryd.underlying67 hv
  rw [cells_sunL] at hsz
  obtain ⟨fuel, hf⟩ := h
  obtain ⟨y0, y1, n, hx, _, h0, h1⟩ := trod_struct2 Tryd.underlying67 hf
  have hall : ∀ i, i < 48 → ∃ n, cs.toList[i]? = some (.int .i16 n) ∧ -32768 ≤ n ∧ n ≤ 32767 := by
    intro i hi
    by_cases c : i < 24
    · obtain ⟨n, hn, hb⟩ := open_arr h0 i c
      refine ⟨n, ?_, hb⟩
      simp only [Value.cells, cells_arr, List.drop_zero] at hn
      rwa [List.getElem?_take_of_lt c] at hn
    · obtain ⟨n, hn, hb⟩ := open_arr h1 (i - 24) (by omega)
      refine ⟨n, ?_, hb⟩
      simp only [Value.cells, cells_arr] at hn
      rw [List.getElem?_take_of_lt (by omega), List.getElem?_drop] at hn
      rwa [show 24 + (i - 24) = i by omega] at hn
  have hlen : cs.toList.length = 48 := by simpa using hsz
  have hcs : cs = i16s (cs.toList.map rd16) := by
    apply Array.ext'
    simp only [i16s, List.map_map]
    apply List.ext_getElem?
    intro i
    by_cases c : i < 48
    · obtain ⟨n, hn, _⟩ := hall i c
      rw [hn, List.getElem?_map, hn]; rfl
    · rw [List.getElem?_eq_none (by omega), List.getElem?_eq_none (by simp; omega)]
  refine ⟨(cs.toList.map rd16).take 24, (cs.toList.map rd16).drop 24, by simp; omega, by simp; omega, ?_, ?_⟩
  · rw [List.take_append_drop]
    intro x hx
    obtain ⟨i, hi, rfl⟩ := List.mem_iff_getElem.1 hx
    simp only [List.length_map] at hi
    obtain ⟨n, hn, hb⟩ := hall i (by omega)
    rw [List.getElem?_eq_getElem hi] at hn
    simp only [List.getElem_map]
    have : cs.toList[i] = .int .i16 n := by injection hn
    rw [this]; exact hb
  · unfold sunC
    rw [List.take_append_drop, ← hcs]

end Go.Proofs.YtdccmdcgbembpaaDoor
