/-
  The strain of a gust.
-/
import Derived.Test.YtnienahjfocalaaDoorAwOk
import Derived.Test.YtnienahjfocalaaDoorShadeN
import Derived.Test.YtnienahjfocalaaDoorFrc
import Derived.Test.YtnienahjfocalaaDoorCode
import Derived.Test.YtnienahjfocalaaDoorBox
import Derived.Test.YtnienahjfocalaaDoorSame
import Derived.Test.YtnienahjfocalaaDoorFall
import Derived.Test.YtnienahjfocalaaDoorLawC
namespace Go.Proofs.YtnienahjfocalaaDoor
open Go.ChangeShapes Go.WideShapes Go.ChangeAt Go.RowKit Go.Deep Go.Joins

theorem frc_num {a : Nat} (hw : (Lit.float .f32 a).wf = true) (h : frcB a = true) : num32 a = true := by
  unfold frcB plainB betw at h
  simp only [Bool.and_eq_true] at h
  have hz : a ≤ 1233125376 ∨ a = 2147483648 := by
    refine betw_zero hw (by decide) ?_
    unfold betw
    rw [h.2, h.1.2]; rfl
  exact num_of_isNum (isNum_small hz (by decide))
theorem sq_num {o : Nat} (h : o ≤ 1090519040 ∨ o = 2147483648) : floatBits .mul .f32 o o = some (fmul o o) ∧ num32 (fmul o o) = true := by
  have hn : num32 o = true := num_of_isNum (isNum_small h (by decide))
  refine ⟨(mul_ok hn hn).1, ?_⟩
  rcases h with h | rfl
  · have m := mul_mono (x := o) (X := 1090519040) (y := o) (Y := 1090519040) (by decide) (by decide) h h
    have e : fmul 1090519040 1090519040 = 1115684864 := by decide +kernel
    rw [e] at m
    exact num_of_isNum (.inl (by omega))
  · decide +kernel
theorem run_mf (x y r : Nat) (h : floatBits .mul .f32 x y = some r) : ∀ t w, (binOp .mul t (.float .f32 x) (.float .f32 y)).run Tryd.prog w = .ok (.float .f32 r) w := fun t w => run_float_arith w .mul t .f32 x y r h

set_option maxHeartbeats 1000000 in
theorem strainO_any {o g : Nat} (ho : o ≤ 1090519040 ∨ o = 2147483648) (hg : num32 g = true) (w : World) :
    Calls Tryd.prog 63 #[.float .f32 o, .float .f32 g] w fun e w' => e = .returned (.float .f32 (fmul (fmul o o) g)) ∧ w = w' := by
  obtain ⟨m1, m2⟩ := sq_num ho
  have r1 := run_mf _ _ _ m1
  have r2 := run_mf _ _ _ (mul_ok m2 hg).1
  clear m1 m2 ho hg
  generalize fmul (fmul o o) g = q at *
  generalize fmul o o = p at *
  go_enter Tryd.func63, Tryd.ntmps63
  go_wp2
  go_ret
  exact ⟨rfl, rfl⟩

set_option maxHeartbeats 1000000 in
theorem sstrainO_any {o g : Nat} (ho : o ≤ 1090519040 ∨ o = 2147483648) (hg : num32 g = true) (w : World) :
    Calls Tryd.prog 58 #[.float .f32 o, .float .f32 g] w fun e w' => e = .returned (.float .f32 (fmul (fmul o o) g)) ∧ w = w' := by
  obtain ⟨m1, m2⟩ := sq_num ho
  have r1 := run_mf _ _ _ m1
  have r2 := run_mf _ _ _ (mul_ok m2 hg).1
  clear m1 m2 ho hg
  generalize fmul (fmul o o) g = q at *
  generalize fmul o o = p at *
  go_enter Tryd.func58, Tryd.ntmps58
  go_wp2
  go_ret
  exact ⟨rfl, rfl⟩

set_option maxRecDepth 100000 in
set_option maxHeartbeats 1000000 in
theorem StrainOf_n0 (o dr gp tl : Nat) (g : Nat) (aw : AwOk o dr gp tl) (hg : num32 g = true) (v r : Bool) (hv : okAw o dr gp tl = v) (hr : frcB g = r) (hc : refN v r true = 0) (e0 e1 e2 e3 : Addr) (w : World) (hE : ErrsAt w e0 e1 e2 e3) :
    Calls Tryd.prog 17 #[.agg (awC o dr gp tl), .float .f32 g] w fun e w' => e = .returned (.tuple #[.float .f32 (fmul (fmul o o) g), .int .i64 0]) ∧ Below w.heap.size w w' := by
  have HC := Lib.hid hc
  have HV := Lib.hid (fun w => implValidAwning_any o dr gp tl w)
  have HF := Lib.hid (fun w => isForce_any g w)
  rw [hv] at HV
  rw [hr] at HF
  have HS := Lib.hid (fun w => strainO_any aw.o hg w)
  clear aw hg
  generalize fmul (fmul o o) g = q at *
  have HX := Lib.hid hE
  clear hE
  clear hc hv hr
  go_enter Tryd.func17, Tryd.ntmps17
  go_upto_region 1 with (fail)
  refine abs_world (fun W => W.heap[w.heap.size]? = some (.cells (awC o dr gp tl) 27 (0, 0)) ∧ Below w.heap.size w W) (⟨heap_alloc_new _ _, (Below.refl _ _).alloc (Nat.le_refl _) _⟩) ?_
  rintro W ⟨h0, hb⟩
  have H0 := Lib.hid h0
  clear h0
  replace HX := Lib.hid (errs_below HX.out hb)
  go_upto_region 2 with (first | (refine wpList_load_partG 27 _ rfl w.heap.size 0 4 rfl rfl 27 (awC o dr gp tl) (0, 0) _ H0.out Tryd.underlying27 rfl info_aw (aw_fits _ _ _ _) _ (aw_all _ _ _ _) ?_) | (go_at_call 60; refine (HV.out _).mono ?_; rintro e W1 ⟨rfl, hb1⟩; replace H0 := Lib.hid (below_row hb1 H0.out); replace HX := Lib.hid (errs_below HX.out hb1); replace hb := hb.trans (hb1.mono hb.size); clear hb1) | (go_at_call 61; refine (HF.out _).mono ?_; rintro e w2 ⟨rfl, rfl⟩) | (go_at_call 59; refine (refusal_any HX.out _ _ _).mono ?_; rintro e w3 ⟨rfl, rfl⟩))
  rw [HC.out]
  dsimp only [errOf, errV]
  have hn := fun w => run_neq_nil_nil (P := Tryd.prog) (w := w) 100 (by kernel_rfl)
  obtain ⟨c0, _, _, _⟩ := aw_cells H0.out
  go_wp2_with (go_at_call 63; refine (HS.out _).mono ?_; rintro e w1 ⟨rfl, rfl⟩)
  go_ret2
  exact ⟨rfl, hb⟩

set_option maxRecDepth 100000 in
set_option maxHeartbeats 1000000 in
theorem StrainOf_n1 (o dr gp tl : Nat) (g : Nat) (v r : Bool) (hv : okAw o dr gp tl = v) (hr : frcB g = r) (hc : refN v r true = 1) (e0 e1 e2 e3 : Addr) (w : World) (hE : ErrsAt w e0 e1 e2 e3) :
    Calls Tryd.prog 17 #[.agg (awC o dr gp tl), .float .f32 g] w fun e w' => e = .returned (.tuple #[.float .f32 0, .int .i64 1]) ∧ Below w.heap.size w w' := by
  have HC := Lib.hid hc
  have HV := Lib.hid (fun w => implValidAwning_any o dr gp tl w)
  have HF := Lib.hid (fun w => isForce_any g w)
  rw [hv] at HV
  rw [hr] at HF
  have HX := Lib.hid hE
  clear hE
  clear hc hv hr
  go_enter Tryd.func17, Tryd.ntmps17
  go_upto_region 1 with (fail)
  refine abs_world (fun W => W.heap[w.heap.size]? = some (.cells (awC o dr gp tl) 27 (0, 0)) ∧ Below w.heap.size w W) (⟨heap_alloc_new _ _, (Below.refl _ _).alloc (Nat.le_refl _) _⟩) ?_
  rintro W ⟨h0, hb⟩
  have H0 := Lib.hid h0
  clear h0
  replace HX := Lib.hid (errs_below HX.out hb)
  go_upto_region 2 with (first | (refine wpList_load_partG 27 _ rfl w.heap.size 0 4 rfl rfl 27 (awC o dr gp tl) (0, 0) _ H0.out Tryd.underlying27 rfl info_aw (aw_fits _ _ _ _) _ (aw_all _ _ _ _) ?_) | (go_at_call 60; refine (HV.out _).mono ?_; rintro e W1 ⟨rfl, hb1⟩; replace H0 := Lib.hid (below_row hb1 H0.out); replace HX := Lib.hid (errs_below HX.out hb1); replace hb := hb.trans (hb1.mono hb.size); clear hb1) | (go_at_call 61; refine (HF.out _).mono ?_; rintro e w2 ⟨rfl, rfl⟩) | (go_at_call 59; refine (refusal_any HX.out _ _ _).mono ?_; rintro e w3 ⟨rfl, rfl⟩))
  rw [HC.out]
  dsimp only [errOf, errV]
  have hn := fun w => run_neq_held_nil (P := Tryd.prog) (w := w) 100 214 (.pointer (some e0)) (by kernel_rfl)
  go_wp2_with (go_at_call 62; refine (codeOf_any HX.out 1).mono ?_; rintro e W4 ⟨rfl, rfl⟩)
  go_ret2
  exact ⟨rfl, hb⟩

set_option maxRecDepth 100000 in
set_option maxHeartbeats 1000000 in
theorem StrainOf_n2 (o dr gp tl : Nat) (g : Nat) (v r : Bool) (hv : okAw o dr gp tl = v) (hr : frcB g = r) (hc : refN v r true = 2) (e0 e1 e2 e3 : Addr) (w : World) (hE : ErrsAt w e0 e1 e2 e3) :
    Calls Tryd.prog 17 #[.agg (awC o dr gp tl), .float .f32 g] w fun e w' => e = .returned (.tuple #[.float .f32 0, .int .i64 2]) ∧ Below w.heap.size w w' := by
  have HC := Lib.hid hc
  have HV := Lib.hid (fun w => implValidAwning_any o dr gp tl w)
  have HF := Lib.hid (fun w => isForce_any g w)
  rw [hv] at HV
  rw [hr] at HF
  have HX := Lib.hid hE
  clear hE
  clear hc hv hr
  go_enter Tryd.func17, Tryd.ntmps17
  go_upto_region 1 with (fail)
  refine abs_world (fun W => W.heap[w.heap.size]? = some (.cells (awC o dr gp tl) 27 (0, 0)) ∧ Below w.heap.size w W) (⟨heap_alloc_new _ _, (Below.refl _ _).alloc (Nat.le_refl _) _⟩) ?_
  rintro W ⟨h0, hb⟩
  have H0 := Lib.hid h0
  clear h0
  replace HX := Lib.hid (errs_below HX.out hb)
  go_upto_region 2 with (first | (refine wpList_load_partG 27 _ rfl w.heap.size 0 4 rfl rfl 27 (awC o dr gp tl) (0, 0) _ H0.out Tryd.underlying27 rfl info_aw (aw_fits _ _ _ _) _ (aw_all _ _ _ _) ?_) | (go_at_call 60; refine (HV.out _).mono ?_; rintro e W1 ⟨rfl, hb1⟩; replace H0 := Lib.hid (below_row hb1 H0.out); replace HX := Lib.hid (errs_below HX.out hb1); replace hb := hb.trans (hb1.mono hb.size); clear hb1) | (go_at_call 61; refine (HF.out _).mono ?_; rintro e w2 ⟨rfl, rfl⟩) | (go_at_call 59; refine (refusal_any HX.out _ _ _).mono ?_; rintro e w3 ⟨rfl, rfl⟩))
  rw [HC.out]
  dsimp only [errOf, errV]
  have hn := fun w => run_neq_held_nil (P := Tryd.prog) (w := w) 100 214 (.pointer (some e1)) (by kernel_rfl)
  go_wp2_with (go_at_call 62; refine (codeOf_any HX.out 2).mono ?_; rintro e W4 ⟨rfl, rfl⟩)
  go_ret2
  exact ⟨rfl, hb⟩

set_option maxRecDepth 100000 in
set_option maxHeartbeats 1000000 in
theorem sStrainOf_n0 (o dr gp tl : Nat) (g : Nat) (aw : AwOk o dr gp tl) (hg : num32 g = true) (hv : okAw o dr gp tl = true) (hr : frcB g = true) (w : World) :
    Calls Tryd.prog 15 #[.agg (awC o dr gp tl), .float .f32 g] w fun e w' => e = .returned (.tuple #[.float .f32 (fmul (fmul o o) g), .int .i64 0]) ∧ Below w.heap.size w w' := by
  have HV := Lib.hid (fun b w h => l04Ok_any o dr gp tl b 27 (0, 0) w h)
  rw [hv] at HV
  have HF := Lib.hid (fun w => l04Gust_any g w)
  rw [hr] at HF
  clear hr
  have HS := Lib.hid (fun w => sstrainO_any aw.o hg w)
  clear aw hg
  generalize fmul (fmul o o) g = q at *
  clear hv
  go_enter Tryd.func15, Tryd.ntmps15
  go_upto_region 1 with (fail)
  refine abs_world (fun W => W.heap[w.heap.size]? = some (.cells (awC o dr gp tl) 27 (0, 0)) ∧ Below w.heap.size w W) (⟨heap_alloc_new _ _, (Below.refl _ _).alloc (Nat.le_refl _) _⟩) ?_
  rintro W ⟨h0, hb⟩
  have H0 := Lib.hid h0
  obtain ⟨c0, _, _, _⟩ := aw_cells h0
  clear h0
  go_wp2_with (first | (refine wpList_load_partG 27 _ rfl w.heap.size 0 4 rfl rfl 27 (awC o dr gp tl) (0, 0) _ H0.out Tryd.underlying27 rfl info_aw (aw_fits _ _ _ _) _ (aw_all _ _ _ _) ?_) | (go_at_call 56; refine (HV.out _ _ H0.out).mono ?_; rintro e w1 ⟨rfl, rfl⟩) | (go_at_call 57; refine (HF.out _).mono ?_; rintro e w2 ⟨rfl, rfl⟩) | (go_at_call 58; refine (HS.out _).mono ?_; rintro e w3 ⟨rfl, rfl⟩))
  go_ret2
  exact ⟨rfl, hb⟩

set_option maxRecDepth 100000 in
set_option maxHeartbeats 1000000 in
theorem sStrainOf_n1 (o dr gp tl : Nat) (g : Nat) (hv : okAw o dr gp tl = false) (w : World) :
    Calls Tryd.prog 15 #[.agg (awC o dr gp tl), .float .f32 g] w fun e w' => e = .returned (.tuple #[.float .f32 0, .int .i64 1]) ∧ Below w.heap.size w w' := by
  have HV := Lib.hid (fun b w h => l04Ok_any o dr gp tl b 27 (0, 0) w h)
  rw [hv] at HV
  clear hv
  go_enter Tryd.func15, Tryd.ntmps15
  go_upto_region 1 with (fail)
  refine abs_world (fun W => W.heap[w.heap.size]? = some (.cells (awC o dr gp tl) 27 (0, 0)) ∧ Below w.heap.size w W) (⟨heap_alloc_new _ _, (Below.refl _ _).alloc (Nat.le_refl _) _⟩) ?_
  rintro W ⟨h0, hb⟩
  have H0 := Lib.hid h0
  clear h0
  go_wp2_with (first | (refine wpList_load_partG 27 _ rfl w.heap.size 0 4 rfl rfl 27 (awC o dr gp tl) (0, 0) _ H0.out Tryd.underlying27 rfl info_aw (aw_fits _ _ _ _) _ (aw_all _ _ _ _) ?_) | (go_at_call 56; refine (HV.out _ _ H0.out).mono ?_; rintro e w1 ⟨rfl, rfl⟩))
  go_ret2
  exact ⟨rfl, hb⟩

set_option maxRecDepth 100000 in
set_option maxHeartbeats 1000000 in
theorem sStrainOf_n2 (o dr gp tl : Nat) (g : Nat) (hv : okAw o dr gp tl = true) (hr : frcB g = false) (w : World) :
    Calls Tryd.prog 15 #[.agg (awC o dr gp tl), .float .f32 g] w fun e w' => e = .returned (.tuple #[.float .f32 0, .int .i64 2]) ∧ Below w.heap.size w w' := by
  have HV := Lib.hid (fun b w h => l04Ok_any o dr gp tl b 27 (0, 0) w h)
  rw [hv] at HV
  have HF := Lib.hid (fun w => l04Gust_any g w)
  rw [hr] at HF
  clear hr
  clear hv
  go_enter Tryd.func15, Tryd.ntmps15
  go_upto_region 1 with (fail)
  refine abs_world (fun W => W.heap[w.heap.size]? = some (.cells (awC o dr gp tl) 27 (0, 0)) ∧ Below w.heap.size w W) (⟨heap_alloc_new _ _, (Below.refl _ _).alloc (Nat.le_refl _) _⟩) ?_
  rintro W ⟨h0, hb⟩
  have H0 := Lib.hid h0
  clear h0
  go_wp2_with (first | (refine wpList_load_partG 27 _ rfl w.heap.size 0 4 rfl rfl 27 (awC o dr gp tl) (0, 0) _ H0.out Tryd.underlying27 rfl info_aw (aw_fits _ _ _ _) _ (aw_all _ _ _ _) ?_) | (go_at_call 56; refine (HV.out _ _ H0.out).mono ?_; rintro e w1 ⟨rfl, rfl⟩) | (go_at_call 57; refine (HF.out _).mono ?_; rintro e w2 ⟨rfl, rfl⟩))
  go_ret2
  exact ⟨rfl, hb⟩

set_option maxRecDepth 100000 in
set_option maxHeartbeats 1000000 in
theorem FnExactStrainOf_core (o dr gp tl : Nat) (g : Nat) (v0 : Nat) (v1 : Int) (hv0 : fin32 v0 = true) (e0 e1 e2 e3 : Addr)
    (hspec : ∀ w, Calls Tryd.prog 15 #[.agg (awC o dr gp tl), .float .f32 g] w fun e w' => e = .returned (.tuple #[.float .f32 v0, .int .i64 v1]) ∧ Below w.heap.size w w')
    (himpl : ∀ w, ErrsAt w e0 e1 e2 e3 → Calls Tryd.prog 17 #[.agg (awC o dr gp tl), .float .f32 g] w fun e w' => e = .returned (.tuple #[.float .f32 v0, .int .i64 v1]) ∧ Below w.heap.size w w') (w : World) (hE : ErrsAt w e0 e1 e2 e3) :
    Calls Tryd.prog 3 #[.agg (awC o dr gp tl), .float .f32 g] w fun e w' => e = .returned (.bool true) ∧ Below w.heap.size w w' := by
  have HS := Lib.hid hspec
  have HI := Lib.hid himpl
  clear hspec himpl
  have hw0 := run_wide _ hv0
  have Hv0 := Lib.hid hv0
  clear hv0
  have HX := Lib.hid hE
  clear hE
  go_enter Tryd.func3, Tryd.ntmps3
  go_upto_region 1 with (fail)
  refine abs_world (fun W => W.heap[w.heap.size]? = some (.cells (awC o dr gp tl) 24 (0, 0)) ∧ Below w.heap.size w W) (⟨heap_alloc_new _ _, (Below.refl _ _).alloc (Nat.le_refl _) _⟩) ?_
  rintro W ⟨h0, hb⟩
  have H0 := Lib.hid h0
  clear h0
  replace HX := Lib.hid (errs_below HX.out hb)
  go_wp2_with (first | (first | (refine wpList_load_partG 24 _ rfl w.heap.size 0 4 rfl rfl 24 (awC o dr gp tl) (0, 0) _ H0.out Tryd.underlying24 rfl info_awL (aw_fits _ _ _ _) _ (aw_all _ _ _ _) ?_) | (go_at_call 16; refine (toAwning_any _ _ _ _ _).mono ?_; rintro e W1 ⟨rfl, hb1⟩; replace H0 := Lib.hid (below_row hb1 H0.out); replace HX := Lib.hid (errs_below HX.out hb1); replace hb := hb.trans (hb1.mono hb.size); clear hb1) | (go_at_call 15; refine (HS.out _).mono ?_; rintro e W2 ⟨rfl, hb2⟩; replace H0 := Lib.hid (below_row hb2 H0.out); replace HX := Lib.hid (errs_below HX.out hb2); replace hb := hb.trans (hb2.mono hb.size); clear hb2) | (go_at_call 17; refine (HI.out _ HX.out).mono ?_; rintro e W3 ⟨rfl, hb3⟩; replace H0 := Lib.hid (below_row hb3 H0.out); replace HX := Lib.hid (errs_below HX.out hb3); replace hb := hb.trans (hb3.mono hb.size); clear hb3)) | (go_at_call 18; refine (same_wide _ Hv0.out _).mono ?_; rintro e w4 ⟨rfl, rfl⟩))
  go_ret
  exact ⟨rfl, hb⟩

theorem lawStrainOf_walk (o dr gp tl : Nat) (ww : AwWf o dr gp tl) (g : Nat) (wg : (Lit.float .f32 g).wf = true) (w : World) {e0 e1 e2 e3 : Addr} (hE : ErrsAt w e0 e1 e2 e3) :
    Calls Tryd.prog 3 #[.agg (awC o dr gp tl), .float .f32 g] w fun e w' => e = .returned (.bool true) ∧ Below w.heap.size w w' := by
  cases hv : okAw o dr gp tl with
  | false => exact FnExactStrainOf_core o dr gp tl g _ _ zero_fin e0 e1 e2 e3 (fun w => sStrainOf_n1 o dr gp tl g hv w) (fun w h => StrainOf_n1 o dr gp tl g _ _ hv rfl rfl e0 e1 e2 e3 w h) w hE
  | true =>
    cases hr : frcB g with
    | false => exact FnExactStrainOf_core o dr gp tl g _ _ zero_fin e0 e1 e2 e3 (fun w => sStrainOf_n2 o dr gp tl g hv hr w) (fun w h => StrainOf_n2 o dr gp tl g _ _ hv hr rfl e0 e1 e2 e3 w h) w hE
    | true =>
      have aw := awok_of ww hv
      have hg := frc_num wg hr
      exact FnExactStrainOf_core o dr gp tl g _ _ (mul_ok (sq_num aw.o).2 hg).2 e0 e1 e2 e3 (fun w => sStrainOf_n0 o dr gp tl g aw hg hv hr w) (fun w h => StrainOf_n0 o dr gp tl g aw hg _ _ hv hr rfl e0 e1 e2 e3 w h) w hE

end Go.Proofs.YtnienahjfocalaaDoor
