/-
  How long a cord is with a load, and where its stops lie: contracts of the program and of the model.
-/
import Derived.Test.YtddnfbpgldchcaaCord
namespace Go.Proofs.Ytddnfbpgldchcaa
open Go.ChangeShapes Go.WideShapes Go.ChangeAt Go.RowKit Go.Deep Go.Joins

attribute [local go_sem] run_store_f

set_option maxRecDepth 100000 in
set_option maxHeartbeats 1000000 in
theorem stretchedBy_any (ln st : Nat) (sp : Int) (ok : CoOk ln st sp) (load : Nat) (lp : load ≤ 1065353216 ∨ load = 2147483648) (w : World) :
    Calls Try.prog 28 #[.agg (cordC ln st sp), .float .f32 load] w fun e w' => e = .returned (.float .f32 (strB ln st load)) ∧ Below w.heap.size w w' := by
  obtain ⟨f1, f2, _, _⟩ := grown_facts ok.2.2.1 lp
  obtain ⟨f3, _, _⟩ := str_facts ok.1 ok.2.1 ok.2.2.1 lp
  have r1 : ∀ T w, (binOp .mul T (.float .f32 load) (.float .f32 st)).run Try.prog w = .ok (.float .f32 (fmul load st)) w := fun T w => run_float_arith w .mul T .f32 _ _ _ f1
  have r2 : ∀ T w, (binOp .add T (.float .f32 1065353216) (.float .f32 (fmul load st))).run Try.prog w = .ok (.float .f32 (grownB st load)) w := fun T w => run_float_arith w .add T .f32 _ _ _ f2
  have r3 : ∀ T w, (binOp .mul T (.float .f32 ln) (.float .f32 (grownB st load))).run Try.prog w = .ok (.float .f32 (strB ln st load)) w := fun T w => run_float_arith w .mul T .f32 _ _ _ f3
  clear f1 f2 f3
  generalize fmul load st = x1 at *
  generalize grownB st load = x2 at *
  go_enter Try.func28, Try.ntmps28
  go_upto_region 1 with (fail)
  refine abs_world (fun W => Below w.heap.size w W ∧ W.heap[w.heap.size]? = some (.cells (cordC ln st sp) 27 (0, 0))) ⟨(Below.refl _ _).alloc (Nat.le_refl _) _, heap_alloc_new _ _⟩ ?_
  rintro W ⟨hb, h0⟩
  have H0 := Lib.hid h0
  obtain ⟨k0, k1, k2⟩ := cord_cells h0
  clear h0
  go_wp2
  go_ret
  exact ⟨rfl, hb⟩

set_option maxRecDepth 100000 in
set_option maxHeartbeats 1000000 in
theorem l02Stretched_any (ln st : Nat) (sp : Int) (ok : CoOk ln st sp) (load : Nat) (lp : load ≤ 1065353216 ∨ load = 2147483648) (g : Nat) (T : TypeId) (fr : Nat × Nat) (w : World) (hg : w.heap[g]? = some (.cells (cordC ln st sp) T fr)) :
    Calls Try.prog 31 #[.pointer (some ⟨g, 0, none⟩), .float .f32 load] w fun e w' => e = .returned (.float .f32 (strB ln st load)) ∧ Below w.heap.size w w' := by
  obtain ⟨f1, f2, _, _⟩ := grown_facts ok.2.2.1 lp
  obtain ⟨f3, _, _⟩ := str_facts ok.1 ok.2.1 ok.2.2.1 lp
  have r1 : ∀ T w, (binOp .mul T (.float .f32 load) (.float .f32 st)).run Try.prog w = .ok (.float .f32 (fmul load st)) w := fun T w => run_float_arith w .mul T .f32 _ _ _ f1
  have r2 : ∀ T w, (binOp .add T (.float .f32 1065353216) (.float .f32 (fmul load st))).run Try.prog w = .ok (.float .f32 (grownB st load)) w := fun T w => run_float_arith w .add T .f32 _ _ _ f2
  have r3 : ∀ T w, (binOp .mul T (.float .f32 ln) (.float .f32 (grownB st load))).run Try.prog w = .ok (.float .f32 (strB ln st load)) w := fun T w => run_float_arith w .mul T .f32 _ _ _ f3
  clear f1 f2 f3
  generalize fmul load st = x1 at *
  generalize grownB st load = x2 at *
  go_enter Try.func31, Try.ntmps31
  go_wp2
  refine wp_region_held_drew (S := (fun W => W.heap[g]? = some (.cells (cordC ln st sp) T fr) ∧ Below w.heap.size w W)) (by kernel_rfl) ⟨hg, (Below.refl _ _).drew⟩ (fun hHeld => ?_)
  refine take_op (i := 0) (d := 5) (v := ?_) rfl rfl (by kernel_rfl) (by kernel_rfl) (by kernel_rfl) (fun _ _ _ h => h) (Or.inl ⟨by rfl, ?hy0u1⟩) hHeld ?rest0u1
  case hy0u1 =>
    intro w' hS'
    obtain ⟨s1, _⟩ := hS'
    obtain ⟨k0, k1, k2⟩ := cord_cells s1
    clear s1
    go_simp
    try with_reducible rfl
  simp only [List.setIfInBounds_toArray, List.set_cons_zero, List.set_cons_succ]
  refine take_op (i := 1) (d := 6) (v := ?_) rfl rfl (by kernel_rfl) (by kernel_rfl) (by kernel_rfl) (fun _ _ _ h => h) (Or.inl ⟨by rfl, ?hy1u2⟩) hHeld ?rest1u2
  case hy1u2 =>
    intro w' hS'
    obtain ⟨s1, _⟩ := hS'
    obtain ⟨k0, k1, k2⟩ := cord_cells s1
    clear s1
    go_simp
    try with_reducible rfl
  simp only [List.setIfInBounds_toArray, List.set_cons_zero, List.set_cons_succ]
  refine take_op (i := 2) (d := 7) (v := ?_) rfl rfl (by kernel_rfl) (by kernel_rfl) (by kernel_rfl) (fun _ _ _ h => h) (Or.inl ⟨by rfl, ?hy2u3⟩) hHeld ?rest2u3
  case hy2u3 =>
    intro w' hS'
    obtain ⟨s1, _⟩ := hS'
    obtain ⟨k0, k1, k2⟩ := cord_cells s1
    clear s1
    go_simp
    try with_reducible rfl
  simp only [List.setIfInBounds_toArray, List.set_cons_zero, List.set_cons_succ]
  refine take_op (i := 3) (d := 8) (v := ?_) rfl rfl (by kernel_rfl) (by kernel_rfl) (by kernel_rfl) (fun _ _ _ h => h) (Or.inl ⟨by rfl, ?hy3u4⟩) hHeld ?rest3u4
  case hy3u4 =>
    intro w' hS'
    obtain ⟨s1, _⟩ := hS'
    obtain ⟨k0, k1, k2⟩ := cord_cells s1
    clear s1
    go_simp
    try with_reducible rfl
  simp only [List.setIfInBounds_toArray, List.set_cons_zero, List.set_cons_succ]
  refine take_op (i := 4) (d := 9) (v := ?_) rfl rfl (by kernel_rfl) (by kernel_rfl) (by kernel_rfl) (fun _ _ _ h => h) (Or.inl ⟨by rfl, ?hy4u5⟩) hHeld ?rest4u5
  case hy4u5 =>
    intro w' hS'
    obtain ⟨s1, _⟩ := hS'
    obtain ⟨k0, k1, k2⟩ := cord_cells s1
    clear s1
    go_simp
    try with_reducible rfl
  simp only [List.setIfInBounds_toArray, List.set_cons_zero, List.set_cons_succ]
  refine take_op (i := 5) (d := 10) (v := ?_) rfl rfl (by kernel_rfl) (by kernel_rfl) (by kernel_rfl) (fun _ _ _ h => h) (Or.inl ⟨by rfl, ?hy5u6⟩) hHeld ?rest5u6
  case hy5u6 =>
    intro w' hS'
    obtain ⟨s1, _⟩ := hS'
    obtain ⟨k0, k1, k2⟩ := cord_cells s1
    clear s1
    go_simp
    try with_reducible rfl
  simp only [List.setIfInBounds_toArray, List.set_cons_zero, List.set_cons_succ]
  refine take_op (i := 6) (d := 11) (v := ?_) rfl rfl (by kernel_rfl) (by kernel_rfl) (by kernel_rfl) (fun _ _ _ h => h) (Or.inl ⟨by rfl, ?hy6u7⟩) hHeld ?rest6u7
  case hy6u7 =>
    intro w' hS'
    obtain ⟨s1, _⟩ := hS'
    obtain ⟨k0, k1, k2⟩ := cord_cells s1
    clear s1
    go_simp
    try with_reducible rfl
  simp only [List.setIfInBounds_toArray, List.set_cons_zero, List.set_cons_succ]
  refine take_op (i := 7) (d := 12) (v := ?_) rfl rfl (by kernel_rfl) (by kernel_rfl) (by kernel_rfl) (fun _ _ _ h => h) (Or.inl ⟨by rfl, ?hy7u8⟩) hHeld ?rest7u8
  case hy7u8 =>
    intro w' hS'
    obtain ⟨s1, _⟩ := hS'
    obtain ⟨k0, k1, k2⟩ := cord_cells s1
    clear s1
    go_simp
    try with_reducible rfl
  simp only [List.setIfInBounds_toArray, List.set_cons_zero, List.set_cons_succ]
  refine take_op (i := 8) (d := 13) (v := ?_) rfl rfl (by kernel_rfl) (by kernel_rfl) (by kernel_rfl) (fun _ _ _ h => h) (Or.inl ⟨by rfl, ?hy8u9⟩) hHeld ?rest8u9
  case hy8u9 =>
    intro w' hS'
    obtain ⟨s1, _⟩ := hS'
    obtain ⟨k0, k1, k2⟩ := cord_cells s1
    clear s1
    go_simp
    try with_reducible rfl
  simp only [List.setIfInBounds_toArray, List.set_cons_zero, List.set_cons_succ]
  refine take_op (i := 9) (d := 14) (v := ?_) rfl rfl (by kernel_rfl) (by kernel_rfl) (by kernel_rfl) (fun _ _ _ h => h) (Or.inl ⟨by rfl, ?hy9u10⟩) hHeld ?rest9u10
  case hy9u10 =>
    intro w' hS'
    obtain ⟨s1, _⟩ := hS'
    obtain ⟨k0, k1, k2⟩ := cord_cells s1
    clear s1
    go_simp
    try with_reducible rfl
  simp only [List.setIfInBounds_toArray, List.set_cons_zero, List.set_cons_succ]
  refine take_op (i := 10) (d := 15) (v := ?_) rfl rfl (by kernel_rfl) (by kernel_rfl) (by kernel_rfl) (fun _ _ _ h => h) (Or.inl ⟨by rfl, ?hy10u11⟩) hHeld ?rest10u11
  case hy10u11 =>
    intro w' hS'
    obtain ⟨s1, _⟩ := hS'
    obtain ⟨k0, k1, k2⟩ := cord_cells s1
    clear s1
    go_simp
    try with_reducible rfl
  simp only [List.setIfInBounds_toArray, List.set_cons_zero, List.set_cons_succ]
  refine take_op (i := 11) (d := 16) (v := ?_) rfl rfl (by kernel_rfl) (by kernel_rfl) (by kernel_rfl) (fun _ _ _ h => h) (Or.inl ⟨by rfl, ?hy11u12⟩) hHeld ?rest11u12
  case hy11u12 =>
    intro w' hS'
    obtain ⟨s1, _⟩ := hS'
    obtain ⟨k0, k1, k2⟩ := cord_cells s1
    clear s1
    go_simp
    try with_reducible rfl
  simp only [List.setIfInBounds_toArray, List.set_cons_zero, List.set_cons_succ]
  refine take_op (i := 12) (d := 4) (v := ?_) rfl rfl (by kernel_rfl) (by kernel_rfl) (by kernel_rfl) (fun _ _ _ h => h) (Or.inl ⟨by rfl, ?hy12u13⟩) hHeld ?rest12u13
  case hy12u13 =>
    intro w' hS'
    obtain ⟨s1, _⟩ := hS'
    obtain ⟨k0, k1, k2⟩ := cord_cells s1
    clear s1
    go_simp
    try with_reducible rfl
  simp only [List.setIfInBounds_toArray, List.set_cons_zero, List.set_cons_succ]
  refine wpAnyH_done (by kernel_rfl) ?_ _
  go_wp2
  go_ret
  exact ⟨rfl, hHeld.2⟩

set_option maxRecDepth 100000 in
set_option maxHeartbeats 1000000 in
theorem placeAt_any (ln st : Nat) (sp : Int) (ok : CoOk ln st sp) (load : Nat) (lp : load ≤ 1065353216 ∨ load = 2147483648) (stop : Int) (q0 : 0 ≤ stop) (q1 : stop ≤ 100) (w : World) :
    Calls Try.prog 36 #[.agg (cordC ln st sp), .float .f32 load, .int .i8 stop] w fun e w' => e = .returned (.float .f32 (plcB ln st load stop sp)) ∧ Below w.heap.size w w' := by
  obtain ⟨f1, f2, _⟩ := plc_facts ok.1 ok.2.1 ok.2.2.1 lp q0 q1 ok.2.2.2.1 ok.2.2.2.2
  have r1 : ∀ T w, (binOp .mul T (.float .f32 (strB ln st load)) (.float .f32 (floatOfInt .f32 stop))).run Try.prog w = .ok (.float .f32 (fmul (strB ln st load) (floatOfInt .f32 stop))) w := fun T w => run_float_arith w .mul T .f32 _ _ _ f1
  have r2 : ∀ T w, (binOp .quo T (.float .f32 (fmul (strB ln st load) (floatOfInt .f32 stop))) (.float .f32 (floatOfInt .f32 sp))).run Try.prog w = .ok (.float .f32 (plcB ln st load stop sp)) w := fun T w => run_float_arith w .quo T .f32 _ _ _ f2
  have HS := Lib.hid (fun w => stretchedBy_any ln st sp ok load lp w)
  clear f1 f2 ok lp q0 q1
  generalize fmul (strB ln st load) (floatOfInt .f32 stop) = x2 at *
  go_enter Try.func36, Try.ntmps36
  go_wp2
  refine wp_region_held_drew (S := (fun W => W.heap[w.heap.size]? = some (.cells (cordC ln st sp) 27 (0, 0)) ∧ Below w.heap.size w W)) (by kernel_rfl) ⟨heap_alloc_new _ _, ((Below.refl _ _).alloc (Nat.le_refl _) _).drew⟩ (fun hHeld => ?_)
  refine take_op (i := 0) (d := 7) (v := .agg (cordC ln st sp)) rfl rfl (by kernel_rfl) (by kernel_rfl) (by kernel_rfl) (fun _ _ _ h => h) (yields_row (by rfl) 27 (.tmp 3) (by rfl) w.heap.size 0 3 (by rfl) 27 (cordC ln st sp) (0, 0) _ (fun _ h => h.1) Try.underlying27 rfl info_cord (cord_fits _ _ _) (cordC ln st sp) (cord_all _ _ _)) hHeld ?_
  simp only [List.setIfInBounds_toArray, List.set_cons_zero, List.set_cons_succ]
  refine take_op (i := 1) (d := 8) (v := ?_) rfl rfl (by kernel_rfl) (by kernel_rfl) (by kernel_rfl) (fun _ _ _ h => h) (Or.inl ⟨by rfl, ?hy1u14⟩) hHeld ?rest1u14
  case hy1u14 =>
    intro w' hS'
    obtain ⟨s1, _⟩ := hS'
    obtain ⟨k0, k1, k2⟩ := cord_cells s1
    clear s1
    go_simp
    try with_reducible rfl
  simp only [List.setIfInBounds_toArray, List.set_cons_zero, List.set_cons_succ]
  refine take_op (i := 3) (d := 10) (v := ?_) rfl rfl (by kernel_rfl) (by kernel_rfl) (by kernel_rfl) (fun _ _ _ h => h) (Or.inl ⟨by rfl, ?hy3u15⟩) hHeld ?rest3u15
  case hy3u15 =>
    intro w' hS'
    obtain ⟨s1, _⟩ := hS'
    obtain ⟨k0, k1, k2⟩ := cord_cells s1
    clear s1
    go_simp
    try with_reducible rfl
  simp only [List.setIfInBounds_toArray, List.set_cons_zero, List.set_cons_succ]
  refine take_op (i := 4) (d := 11) (v := ?_) rfl rfl (by kernel_rfl) (by kernel_rfl) (by kernel_rfl) (fun _ _ _ h => h) (Or.inl ⟨by rfl, ?hy4u16⟩) hHeld ?rest4u16
  case hy4u16 =>
    intro w' hS'
    obtain ⟨s1, _⟩ := hS'
    obtain ⟨k0, k1, k2⟩ := cord_cells s1
    clear s1
    go_simp
    try with_reducible rfl
  simp only [List.setIfInBounds_toArray, List.set_cons_zero, List.set_cons_succ]
  refine take_op (i := 6) (d := 13) (v := ?_) rfl rfl (by kernel_rfl) (by kernel_rfl) (by kernel_rfl) (fun _ _ _ h => h) (Or.inl ⟨by rfl, ?hy6u17⟩) hHeld ?rest6u17
  case hy6u17 =>
    intro w' hS'
    obtain ⟨s1, _⟩ := hS'
    obtain ⟨k0, k1, k2⟩ := cord_cells s1
    clear s1
    go_simp
    try with_reducible rfl
  simp only [List.setIfInBounds_toArray, List.set_cons_zero, List.set_cons_succ]
  refine take_op (i := 7) (d := 14) (v := ?_) rfl rfl (by kernel_rfl) (by kernel_rfl) (by kernel_rfl) (fun _ _ _ h => h) (Or.inl ⟨by rfl, ?hy7u18⟩) hHeld ?rest7u18
  case hy7u18 =>
    intro w' hS'
    obtain ⟨s1, _⟩ := hS'
    obtain ⟨k0, k1, k2⟩ := cord_cells s1
    clear s1
    go_simp
    try with_reducible rfl
  simp only [List.setIfInBounds_toArray, List.set_cons_zero, List.set_cons_succ]
  refine take_op (i := 8) (d := 15) (v := ?_) rfl rfl (by kernel_rfl) (by kernel_rfl) (by kernel_rfl) (fun _ _ _ h => h) (Or.inl ⟨by rfl, ?hy8u19⟩) hHeld ?rest8u19
  case hy8u19 =>
    intro w' hS'
    obtain ⟨s1, _⟩ := hS'
    obtain ⟨k0, k1, k2⟩ := cord_cells s1
    clear s1
    go_simp
    try with_reducible rfl
  simp only [List.setIfInBounds_toArray, List.set_cons_zero, List.set_cons_succ]
  refine wpAnyH_ready (rs := [2]) (by kernel_rfl) (by simp) ?_
  refine AllReadyH.cons rfl (fun K hK => ?_) AllReadyH.nil
  go_simp
  refine (HS.out _).mono ?_
  rintro e W1 ⟨rfl, hb1⟩
  refine hK.out _ _ (⟨below_row hb1 hHeld.1, hHeld.2.trans (hb1.mono hHeld.2.size)⟩) (fun hHeld2 => ?_)
  clear hK K
  replace hHeld := hHeld2
  clear hHeld2
  refine take_op (i := 5) (d := 12) (v := ?_) rfl rfl (by kernel_rfl) (by kernel_rfl) (by kernel_rfl) (fun _ _ _ h => h) (Or.inl ⟨by rfl, ?hy5u20⟩) hHeld ?rest5u20
  case hy5u20 =>
    intro w' hS'
    go_simp
    try with_reducible rfl
  simp only [List.setIfInBounds_toArray, List.set_cons_zero, List.set_cons_succ]
  refine take_op (i := 9) (d := 16) (v := ?_) rfl rfl (by kernel_rfl) (by kernel_rfl) (by kernel_rfl) (fun _ _ _ h => h) (Or.inl ⟨by rfl, ?hy9u21⟩) hHeld ?rest9u21
  case hy9u21 =>
    intro w' hS'
    go_simp
    try with_reducible rfl
  simp only [List.setIfInBounds_toArray, List.set_cons_zero, List.set_cons_succ]
  refine take_op (i := 10) (d := 6) (v := ?_) rfl rfl (by kernel_rfl) (by kernel_rfl) (by kernel_rfl) (fun _ _ _ h => h) (Or.inl ⟨by rfl, ?hy10u22⟩) hHeld ?rest10u22
  case hy10u22 =>
    intro w' hS'
    go_simp
    try with_reducible rfl
  simp only [List.setIfInBounds_toArray, List.set_cons_zero, List.set_cons_succ]
  refine wpAnyH_done (by kernel_rfl) ?_ _
  go_wp2
  go_ret
  exact ⟨rfl, hHeld.2⟩

set_option maxRecDepth 100000 in
set_option maxHeartbeats 1000000 in
theorem l02Place_any (ln st : Nat) (sp : Int) (ok : CoOk ln st sp) (load : Nat) (lp : load ≤ 1065353216 ∨ load = 2147483648) (stop : Int) (q0 : 0 ≤ stop) (q1 : stop ≤ 100) (g : Nat) (T : TypeId) (fr : Nat × Nat) (w : World) (hg : w.heap[g]? = some (.cells (cordC ln st sp) T fr)) :
    Calls Try.prog 39 #[.pointer (some ⟨g, 0, none⟩), .float .f32 load, .int .i64 stop] w fun e w' => e = .returned (.float .f32 (plcB ln st load stop sp)) ∧ Below w.heap.size w w' := by
  obtain ⟨f1, f2, _⟩ := plc_facts ok.1 ok.2.1 ok.2.2.1 lp q0 q1 ok.2.2.2.1 ok.2.2.2.2
  have r1 : ∀ T w, (binOp .mul T (.float .f32 (strB ln st load)) (.float .f32 (floatOfInt .f32 stop))).run Try.prog w = .ok (.float .f32 (fmul (strB ln st load) (floatOfInt .f32 stop))) w := fun T w => run_float_arith w .mul T .f32 _ _ _ f1
  have r2 : ∀ T w, (binOp .quo T (.float .f32 (fmul (strB ln st load) (floatOfInt .f32 stop))) (.float .f32 (floatOfInt .f32 sp))).run Try.prog w = .ok (.float .f32 (plcB ln st load stop sp)) w := fun T w => run_float_arith w .quo T .f32 _ _ _ f2
  have HS := Lib.hid (fun w hg => l02Stretched_any ln st sp ok load lp g T fr w hg)
  clear f1 f2 ok lp q0 q1
  generalize fmul (strB ln st load) (floatOfInt .f32 stop) = x2 at *
  go_enter Try.func39, Try.ntmps39
  go_wp2
  refine wp_region_held_drew (S := (fun W => W.heap[g]? = some (.cells (cordC ln st sp) T fr) ∧ Below w.heap.size w W)) (by kernel_rfl) ⟨hg, (Below.refl _ _).drew⟩ (fun hHeld => ?_)
  refine take_op (i := 0) (d := 7) (v := ?_) rfl rfl (by kernel_rfl) (by kernel_rfl) (by kernel_rfl) (fun _ _ _ h => h) (Or.inl ⟨by rfl, ?hy0u23⟩) hHeld ?rest0u23
  case hy0u23 =>
    intro w' hS'
    obtain ⟨s1, _⟩ := hS'
    obtain ⟨k0, k1, k2⟩ := cord_cells s1
    clear s1
    go_simp
    try with_reducible rfl
  simp only [List.setIfInBounds_toArray, List.set_cons_zero, List.set_cons_succ]
  refine take_op (i := 1) (d := 8) (v := ?_) rfl rfl (by kernel_rfl) (by kernel_rfl) (by kernel_rfl) (fun _ _ _ h => h) (Or.inl ⟨by rfl, ?hy1u24⟩) hHeld ?rest1u24
  case hy1u24 =>
    intro w' hS'
    obtain ⟨s1, _⟩ := hS'
    obtain ⟨k0, k1, k2⟩ := cord_cells s1
    clear s1
    go_simp
    try with_reducible rfl
  simp only [List.setIfInBounds_toArray, List.set_cons_zero, List.set_cons_succ]
  refine take_op (i := 3) (d := 10) (v := ?_) rfl rfl (by kernel_rfl) (by kernel_rfl) (by kernel_rfl) (fun _ _ _ h => h) (Or.inl ⟨by rfl, ?hy3u25⟩) hHeld ?rest3u25
  case hy3u25 =>
    intro w' hS'
    obtain ⟨s1, _⟩ := hS'
    obtain ⟨k0, k1, k2⟩ := cord_cells s1
    clear s1
    go_simp
    try with_reducible rfl
  simp only [List.setIfInBounds_toArray, List.set_cons_zero, List.set_cons_succ]
  refine take_op (i := 4) (d := 11) (v := ?_) rfl rfl (by kernel_rfl) (by kernel_rfl) (by kernel_rfl) (fun _ _ _ h => h) (Or.inl ⟨by rfl, ?hy4u26⟩) hHeld ?rest4u26
  case hy4u26 =>
    intro w' hS'
    obtain ⟨s1, _⟩ := hS'
    obtain ⟨k0, k1, k2⟩ := cord_cells s1
    clear s1
    go_simp
    try with_reducible rfl
  simp only [List.setIfInBounds_toArray, List.set_cons_zero, List.set_cons_succ]
  refine take_op (i := 6) (d := 13) (v := ?_) rfl rfl (by kernel_rfl) (by kernel_rfl) (by kernel_rfl) (fun _ _ _ h => h) (Or.inl ⟨by rfl, ?hy6u27⟩) hHeld ?rest6u27
  case hy6u27 =>
    intro w' hS'
    obtain ⟨s1, _⟩ := hS'
    obtain ⟨k0, k1, k2⟩ := cord_cells s1
    clear s1
    go_simp
    try with_reducible rfl
  simp only [List.setIfInBounds_toArray, List.set_cons_zero, List.set_cons_succ]
  refine take_op (i := 7) (d := 14) (v := ?_) rfl rfl (by kernel_rfl) (by kernel_rfl) (by kernel_rfl) (fun _ _ _ h => h) (Or.inl ⟨by rfl, ?hy7u28⟩) hHeld ?rest7u28
  case hy7u28 =>
    intro w' hS'
    obtain ⟨s1, _⟩ := hS'
    obtain ⟨k0, k1, k2⟩ := cord_cells s1
    clear s1
    go_simp
    try with_reducible rfl
  simp only [List.setIfInBounds_toArray, List.set_cons_zero, List.set_cons_succ]
  refine take_op (i := 8) (d := 15) (v := ?_) rfl rfl (by kernel_rfl) (by kernel_rfl) (by kernel_rfl) (fun _ _ _ h => h) (Or.inl ⟨by rfl, ?hy8u29⟩) hHeld ?rest8u29
  case hy8u29 =>
    intro w' hS'
    obtain ⟨s1, _⟩ := hS'
    obtain ⟨k0, k1, k2⟩ := cord_cells s1
    clear s1
    go_simp
    try with_reducible rfl
  simp only [List.setIfInBounds_toArray, List.set_cons_zero, List.set_cons_succ]
  refine take_op (i := 9) (d := 16) (v := ?_) rfl rfl (by kernel_rfl) (by kernel_rfl) (by kernel_rfl) (fun _ _ _ h => h) (Or.inl ⟨by rfl, ?hy9u30⟩) hHeld ?rest9u30
  case hy9u30 =>
    intro w' hS'
    obtain ⟨s1, _⟩ := hS'
    obtain ⟨k0, k1, k2⟩ := cord_cells s1
    clear s1
    go_simp
    try with_reducible rfl
  simp only [List.setIfInBounds_toArray, List.set_cons_zero, List.set_cons_succ]
  refine take_op (i := 10) (d := 17) (v := ?_) rfl rfl (by kernel_rfl) (by kernel_rfl) (by kernel_rfl) (fun _ _ _ h => h) (Or.inl ⟨by rfl, ?hy10u31⟩) hHeld ?rest10u31
  case hy10u31 =>
    intro w' hS'
    obtain ⟨s1, _⟩ := hS'
    obtain ⟨k0, k1, k2⟩ := cord_cells s1
    clear s1
    go_simp
    try with_reducible rfl
  simp only [List.setIfInBounds_toArray, List.set_cons_zero, List.set_cons_succ]
  refine wpAnyH_ready (rs := [2]) (by kernel_rfl) (by simp) ?_
  refine AllReadyH.cons rfl (fun K hK => ?_) AllReadyH.nil
  go_simp
  refine (HS.out _ hHeld.1).mono ?_
  rintro e W1 ⟨rfl, hb1⟩
  refine hK.out _ _ (⟨below_row hb1 hHeld.1, hHeld.2.trans (hb1.mono hHeld.2.size)⟩) (fun hHeld2 => ?_)
  clear hK K
  replace hHeld := hHeld2
  clear hHeld2
  refine take_op (i := 5) (d := 12) (v := ?_) rfl rfl (by kernel_rfl) (by kernel_rfl) (by kernel_rfl) (fun _ _ _ h => h) (Or.inl ⟨by rfl, ?hy5u32⟩) hHeld ?rest5u32
  case hy5u32 =>
    intro w' hS'
    go_simp
    try with_reducible rfl
  simp only [List.setIfInBounds_toArray, List.set_cons_zero, List.set_cons_succ]
  refine take_op (i := 11) (d := 18) (v := ?_) rfl rfl (by kernel_rfl) (by kernel_rfl) (by kernel_rfl) (fun _ _ _ h => h) (Or.inl ⟨by rfl, ?hy11u33⟩) hHeld ?rest11u33
  case hy11u33 =>
    intro w' hS'
    go_simp
    try with_reducible rfl
  simp only [List.setIfInBounds_toArray, List.set_cons_zero, List.set_cons_succ]
  refine take_op (i := 12) (d := 6) (v := ?_) rfl rfl (by kernel_rfl) (by kernel_rfl) (by kernel_rfl) (fun _ _ _ h => h) (Or.inl ⟨by rfl, ?hy12u34⟩) hHeld ?rest12u34
  case hy12u34 =>
    intro w' hS'
    go_simp
    try with_reducible rfl
  simp only [List.setIfInBounds_toArray, List.set_cons_zero, List.set_cons_succ]
  refine wpAnyH_done (by kernel_rfl) ?_ _
  go_wp2
  go_ret
  exact ⟨rfl, hHeld.2⟩

end Go.Proofs.Ytddnfbpgldchcaa
