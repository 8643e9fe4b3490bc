/-
  The stop whose place is nearest: what is refused.
-/
import Derived.Test.YtddnfbpgldchcaaStopS
namespace Go.Proofs.Ytddnfbpgldchcaa
open Go Go.RowKit

attribute [local go_sem] run_store_f

theorem isPlain_is (x : Nat) (fine : Bool) (hi : plainB x = fine) (w : World) : Calls Try.prog 34 #[.float .f32 x] w fun e w' => e = .returned (.bool fine) ∧ w = w' := by subst hi; exact isPlain_any x w
theorem l01Plain_is (x : Nat) (fine : Bool) (hi : plainB x = fine) (w : World) : Calls Try.prog 38 #[.float .f32 x] w fun e w' => e = .returned (.bool fine) ∧ w = w' := by subst hi; exact l01Plain_any x w

set_option maxRecDepth 100000 in
set_option maxHeartbeats 1000000 in
theorem implStopFor_p (ln st : Nat) (sp : Int) (cw : CoWf ln st sp) (load wanted : Nat) (hp : partB load = false) (w : World) :
    Calls Try.prog 12 #[.agg (cordC ln st sp), .float .f32 load, .float .f32 wanted] w fun e w' => e = .returned (.tuple #[.int .i64 0, .float .f32 0, .int .i64 (codeD (okCo ln st sp) false)]) ∧ Below w.heap.size w w' := by
  obtain ⟨S0, S1⟩ := cowf_s cw
  have hne : codeD (okCo ln st sp) false ≠ 0 := codeD_ne (by simp)
  generalize hc : codeD (okCo ln st sp) false = c at *
  have Hc := Lib.hid hc
  have Hp := Lib.hid hp
  have hne' : (c != 0) = true := bne_iff_ne.2 hne
  clear hc hp hne cw
  go_enter Try.func12, Try.ntmps12
  go_wp2
  refine wp_region_held_drew (S := (fun W => W.heap[w.heap.size]? = some (.cells (cordC ln st sp) 27 (0, 0)) ∧ Below w.heap.size w W)) (by kernel_rfl) ⟨heap_alloc_new _ _, ((Below.refl _ _).alloc (Nat.le_refl _) _).drew⟩ (fun hHeld => ?_)
  refine take_op (i := 0) (d := 16) (v := .agg (cordC ln st sp)) rfl rfl (by kernel_rfl) (by kernel_rfl) (by kernel_rfl) (fun _ _ _ h => h) (yields_row (by rfl) 27 (.tmp 3) (by rfl) w.heap.size 0 3 (by rfl) 27 (cordC ln st sp) (0, 0) _ (fun _ h => h.1) Try.underlying27 rfl info_cord (cord_fits _ _ _) (cordC ln st sp) (cord_all _ _ _)) hHeld ?_
  simp only [List.setIfInBounds_toArray, List.set_cons_zero, List.set_cons_succ]
  refine take_op (i := 1) (d := 17) (v := ?_) rfl rfl (by kernel_rfl) (by kernel_rfl) (by kernel_rfl) (fun _ _ _ h => h) (Or.inl ⟨by rfl, ?hy1u1⟩) hHeld ?rest1u1
  case hy1u1 =>
    intro w' hS'
    go_simp
    try with_reducible rfl
  simp only [List.setIfInBounds_toArray, List.set_cons_zero, List.set_cons_succ]
  refine wpAnyH_ready (rs := [2]) (by kernel_rfl) (by simp) ?_
  refine AllReadyH.cons rfl (fun K hK => ?_) AllReadyH.nil
  go_simp
  refine (isPart_is load _ Hp.out _).mono ?_
  rintro e w' ⟨rfl, rfl⟩
  refine hK.out _ _ (hHeld) (fun hHeld2 => ?_)
  clear hK K
  replace hHeld := hHeld2
  clear hHeld2
  refine take_op (i := 3) (d := 19) (v := ?_) rfl rfl (by kernel_rfl) (by kernel_rfl) (by kernel_rfl) (fun _ _ _ h => h) (Or.inl ⟨by rfl, ?hy3u2⟩) hHeld ?rest3u2
  case hy3u2 =>
    intro w' hS'
    go_simp
    try with_reducible rfl
  simp only [List.setIfInBounds_toArray, List.set_cons_zero, List.set_cons_succ]
  refine take_op (i := 4) (d := 20) rfl rfl (by kernel_rfl) (by kernel_rfl) (by kernel_rfl) (fun _ _ _ h => h) (Or.inr ⟨by rfl, rfl⟩) hHeld ?_
  simp only [List.setIfInBounds_toArray, List.set_cons_zero, List.set_cons_succ]
  refine take_op (i := 5) (d := 21) rfl rfl (by kernel_rfl) (by kernel_rfl) (by kernel_rfl) (fun _ _ _ h => h) (Or.inr ⟨by rfl, rfl⟩) hHeld ?_
  simp only [List.setIfInBounds_toArray, List.set_cons_zero, List.set_cons_succ]
  refine take_op (i := 6) (d := 22) (v := ?_) rfl rfl (by kernel_rfl) (by kernel_rfl) (by kernel_rfl) (fun _ _ _ h => h) (Or.inl ⟨by rfl, ?hy6u3⟩) hHeld ?rest6u3
  case hy6u3 =>
    intro w' hS'
    go_simp
    try with_reducible rfl
  simp only [List.setIfInBounds_toArray, List.set_cons_zero, List.set_cons_succ]
  refine wpAnyH_ready (rs := [7]) (by kernel_rfl) (by simp) ?_
  refine AllReadyH.cons rfl (fun K hK => ?_) AllReadyH.nil
  go_simp
  refine (checkCord_is ln st sp false c Hc.out _).mono ?_
  rintro e W1 ⟨rfl, hb1⟩
  refine hK.out _ _ (⟨below_row hb1 hHeld.1, hHeld.2.trans (hb1.mono hHeld.2.size)⟩) (fun hHeld2 => ?_)
  clear hK K
  replace hHeld := hHeld2
  clear hHeld2
  refine take_op (i := 8) (d := 9) (v := ?_) rfl rfl (by kernel_rfl) (by kernel_rfl) (by kernel_rfl) (fun _ _ _ h => h) (Or.inl ⟨by rfl, ?hy8u4⟩) hHeld ?rest8u4
  case hy8u4 =>
    intro w' hS'
    go_simp
    try with_reducible rfl
  simp only [List.setIfInBounds_toArray, List.set_cons_zero, List.set_cons_succ]
  refine wpAnyH_done (by kernel_rfl) ?_ _
  obtain ⟨h0, hb⟩ := hHeld
  clear h0
  go_wp2
  go_ret3
  exact ⟨rfl, hb⟩

set_option maxRecDepth 100000 in
set_option maxHeartbeats 1000000 in
theorem specStopFor_p (ln st : Nat) (sp : Int) (cw : CoWf ln st sp) (load wanted : Nat) (hp : partB load = false) (w : World) :
    Calls Try.prog 13 #[.agg (cordC ln st sp), .float .f32 load, .float .f32 wanted] w fun e w' => e = .returned (.tuple #[.int .i64 0, .float .f32 0, .int .i64 (codeD (okCo ln st sp) false)]) ∧ Below w.heap.size w w' := by
  obtain ⟨S0, S1⟩ := cowf_s cw
  have hne : codeD (okCo ln st sp) false ≠ 0 := codeD_ne (by simp)
  generalize hc : codeD (okCo ln st sp) false = c at *
  have Hc := Lib.hid hc
  have Hp := Lib.hid hp
  have hne' : (c != 0) = true := bne_iff_ne.2 hne
  clear hc hp hne cw
  go_enter Try.func13, Try.ntmps13
  go_wp2_with (first | (go_at_call 30; refine (l01Part_is load false Hp.out _).mono ?_; rintro e w' ⟨rfl, rfl⟩) | (go_at_call 29; refine (l02Loaded_is ln st sp S0 S1 w.heap.size _ _ false c Hc.out _ (heap_alloc_new _ _)).mono ?_; rintro e w' ⟨rfl, rfl⟩))
  go_ret3
  exact ⟨rfl, (Below.refl _ _).alloc (Nat.le_refl _) _⟩

set_option maxRecDepth 100000 in
set_option maxHeartbeats 1000000 in
theorem implStopFor_q (ln st : Nat) (sp : Int) (cw : CoWf ln st sp) (load wanted : Nat) (hp : partB load = true) (hq : plainB wanted = false) (w : World) :
    Calls Try.prog 12 #[.agg (cordC ln st sp), .float .f32 load, .float .f32 wanted] w fun e w' => e = .returned (.tuple #[.int .i64 0, .float .f32 0, .int .i64 (codeD (okCo ln st sp) false)]) ∧ Below w.heap.size w w' := by
  obtain ⟨S0, S1⟩ := cowf_s cw
  have hne : codeD (okCo ln st sp) false ≠ 0 := codeD_ne (by simp)
  generalize hc : codeD (okCo ln st sp) false = c at *
  have Hc := Lib.hid hc
  have Hp := Lib.hid hp
  have Hq := Lib.hid hq
  have hne' : (c != 0) = true := bne_iff_ne.2 hne
  clear hq hc hp hne cw
  go_enter Try.func12, Try.ntmps12
  go_wp2
  refine wp_region_held_drew (S := (fun W => W.heap[w.heap.size]? = some (.cells (cordC ln st sp) 27 (0, 0)) ∧ Below w.heap.size w W)) (by kernel_rfl) ⟨heap_alloc_new _ _, ((Below.refl _ _).alloc (Nat.le_refl _) _).drew⟩ (fun hHeld => ?_)
  refine take_op (i := 0) (d := 16) (v := .agg (cordC ln st sp)) rfl rfl (by kernel_rfl) (by kernel_rfl) (by kernel_rfl) (fun _ _ _ h => h) (yields_row (by rfl) 27 (.tmp 3) (by rfl) w.heap.size 0 3 (by rfl) 27 (cordC ln st sp) (0, 0) _ (fun _ h => h.1) Try.underlying27 rfl info_cord (cord_fits _ _ _) (cordC ln st sp) (cord_all _ _ _)) hHeld ?_
  simp only [List.setIfInBounds_toArray, List.set_cons_zero, List.set_cons_succ]
  refine take_op (i := 1) (d := 17) (v := ?_) rfl rfl (by kernel_rfl) (by kernel_rfl) (by kernel_rfl) (fun _ _ _ h => h) (Or.inl ⟨by rfl, ?hy1u5⟩) hHeld ?rest1u5
  case hy1u5 =>
    intro w' hS'
    go_simp
    try with_reducible rfl
  simp only [List.setIfInBounds_toArray, List.set_cons_zero, List.set_cons_succ]
  refine wpAnyH_ready (rs := [2]) (by kernel_rfl) (by simp) ?_
  refine AllReadyH.cons rfl (fun K hK => ?_) AllReadyH.nil
  go_simp
  refine (isPart_is load _ Hp.out _).mono ?_
  rintro e w' ⟨rfl, rfl⟩
  refine hK.out _ _ (hHeld) (fun hHeld2 => ?_)
  clear hK K
  replace hHeld := hHeld2
  clear hHeld2
  refine take_op (i := 3) (d := 19) (v := ?_) rfl rfl (by kernel_rfl) (by kernel_rfl) (by kernel_rfl) (fun _ _ _ h => h) (Or.inl ⟨by rfl, ?hy3u6⟩) hHeld ?rest3u6
  case hy3u6 =>
    intro w' hS'
    go_simp
    try with_reducible rfl
  simp only [List.setIfInBounds_toArray, List.set_cons_zero, List.set_cons_succ]
  refine take_op (i := 4) (d := 20) (v := ?_) rfl rfl (by kernel_rfl) (by kernel_rfl) (by kernel_rfl) (fun _ _ _ h => h) (Or.inl ⟨by rfl, ?hy4u7⟩) hHeld ?rest4u7
  case hy4u7 =>
    intro w' hS'
    go_simp
    try with_reducible rfl
  simp only [List.setIfInBounds_toArray, List.set_cons_zero, List.set_cons_succ]
  refine wpAnyH_ready (rs := [5]) (by kernel_rfl) (by simp) ?_
  refine AllReadyH.cons rfl (fun K hK => ?_) AllReadyH.nil
  go_simp
  refine (isPlain_is wanted _ Hq.out _).mono ?_
  rintro e w' ⟨rfl, rfl⟩
  refine hK.out _ _ (hHeld) (fun hHeld2 => ?_)
  clear hK K
  replace hHeld := hHeld2
  clear hHeld2
  refine take_op (i := 6) (d := 22) (v := ?_) rfl rfl (by kernel_rfl) (by kernel_rfl) (by kernel_rfl) (fun _ _ _ h => h) (Or.inl ⟨by rfl, ?hy6u8⟩) hHeld ?rest6u8
  case hy6u8 =>
    intro w' hS'
    go_simp
    try with_reducible rfl
  simp only [List.setIfInBounds_toArray, List.set_cons_zero, List.set_cons_succ]
  refine wpAnyH_ready (rs := [7]) (by kernel_rfl) (by simp) ?_
  refine AllReadyH.cons rfl (fun K hK => ?_) AllReadyH.nil
  go_simp
  refine (checkCord_is ln st sp false c Hc.out _).mono ?_
  rintro e W1 ⟨rfl, hb1⟩
  refine hK.out _ _ (⟨below_row hb1 hHeld.1, hHeld.2.trans (hb1.mono hHeld.2.size)⟩) (fun hHeld2 => ?_)
  clear hK K
  replace hHeld := hHeld2
  clear hHeld2
  refine take_op (i := 8) (d := 9) (v := ?_) rfl rfl (by kernel_rfl) (by kernel_rfl) (by kernel_rfl) (fun _ _ _ h => h) (Or.inl ⟨by rfl, ?hy8u9⟩) hHeld ?rest8u9
  case hy8u9 =>
    intro w' hS'
    go_simp
    try with_reducible rfl
  simp only [List.setIfInBounds_toArray, List.set_cons_zero, List.set_cons_succ]
  refine wpAnyH_done (by kernel_rfl) ?_ _
  obtain ⟨h0, hb⟩ := hHeld
  clear h0
  go_wp2
  go_ret3
  exact ⟨rfl, hb⟩

set_option maxRecDepth 100000 in
set_option maxHeartbeats 1000000 in
theorem specStopFor_q (ln st : Nat) (sp : Int) (cw : CoWf ln st sp) (load wanted : Nat) (hp : partB load = true) (hq : plainB wanted = false) (w : World) :
    Calls Try.prog 13 #[.agg (cordC ln st sp), .float .f32 load, .float .f32 wanted] w fun e w' => e = .returned (.tuple #[.int .i64 0, .float .f32 0, .int .i64 (codeD (okCo ln st sp) false)]) ∧ Below w.heap.size w w' := by
  obtain ⟨S0, S1⟩ := cowf_s cw
  have hne : codeD (okCo ln st sp) false ≠ 0 := codeD_ne (by simp)
  generalize hc : codeD (okCo ln st sp) false = c at *
  have Hc := Lib.hid hc
  have Hp := Lib.hid hp
  have Hq := Lib.hid hq
  have hne' : (c != 0) = true := bne_iff_ne.2 hne
  clear hq hc hp hne cw
  go_enter Try.func13, Try.ntmps13
  go_wp2_with (first | (go_at_call 30; refine (l01Part_is load true Hp.out _).mono ?_; rintro e w' ⟨rfl, rfl⟩) | (go_at_call 29; refine (l02Loaded_is ln st sp S0 S1 w.heap.size _ _ false c Hc.out _ (heap_alloc_new _ _)).mono ?_; rintro e w' ⟨rfl, rfl⟩) | (go_at_call 38; refine (l01Plain_is wanted false Hq.out _).mono ?_; rintro e w' ⟨rfl, rfl⟩))
  go_ret3
  exact ⟨rfl, (Below.refl _ _).alloc (Nat.le_refl _) _⟩

set_option maxRecDepth 100000 in
set_option maxHeartbeats 1000000 in
theorem implStopFor_k (ln st : Nat) (sp : Int) (cw : CoWf ln st sp) (load wanted : Nat) (hp : partB load = true) (hq : plainB wanted = true) (hk : okCo ln st sp = false) (w : World) :
    Calls Try.prog 12 #[.agg (cordC ln st sp), .float .f32 load, .float .f32 wanted] w fun e w' => e = .returned (.tuple #[.int .i64 0, .float .f32 0, .int .i64 (codeD (okCo ln st sp) true)]) ∧ Below w.heap.size w w' := by
  obtain ⟨S0, S1⟩ := cowf_s cw
  have hne : codeD (okCo ln st sp) true ≠ 0 := codeD_ne (by rw [hk]; simp)
  generalize hc : codeD (okCo ln st sp) true = c at *
  have Hc := Lib.hid hc
  have Hp := Lib.hid hp
  have Hq := Lib.hid hq
  have hne' : (c != 0) = true := bne_iff_ne.2 hne
  clear hk hq hc hp hne cw
  go_enter Try.func12, Try.ntmps12
  go_wp2
  refine wp_region_held_drew (S := (fun W => W.heap[w.heap.size]? = some (.cells (cordC ln st sp) 27 (0, 0)) ∧ Below w.heap.size w W)) (by kernel_rfl) ⟨heap_alloc_new _ _, ((Below.refl _ _).alloc (Nat.le_refl _) _).drew⟩ (fun hHeld => ?_)
  refine take_op (i := 0) (d := 16) (v := .agg (cordC ln st sp)) rfl rfl (by kernel_rfl) (by kernel_rfl) (by kernel_rfl) (fun _ _ _ h => h) (yields_row (by rfl) 27 (.tmp 3) (by rfl) w.heap.size 0 3 (by rfl) 27 (cordC ln st sp) (0, 0) _ (fun _ h => h.1) Try.underlying27 rfl info_cord (cord_fits _ _ _) (cordC ln st sp) (cord_all _ _ _)) hHeld ?_
  simp only [List.setIfInBounds_toArray, List.set_cons_zero, List.set_cons_succ]
  refine take_op (i := 1) (d := 17) (v := ?_) rfl rfl (by kernel_rfl) (by kernel_rfl) (by kernel_rfl) (fun _ _ _ h => h) (Or.inl ⟨by rfl, ?hy1u10⟩) hHeld ?rest1u10
  case hy1u10 =>
    intro w' hS'
    go_simp
    try with_reducible rfl
  simp only [List.setIfInBounds_toArray, List.set_cons_zero, List.set_cons_succ]
  refine wpAnyH_ready (rs := [2]) (by kernel_rfl) (by simp) ?_
  refine AllReadyH.cons rfl (fun K hK => ?_) AllReadyH.nil
  go_simp
  refine (isPart_is load _ Hp.out _).mono ?_
  rintro e w' ⟨rfl, rfl⟩
  refine hK.out _ _ (hHeld) (fun hHeld2 => ?_)
  clear hK K
  replace hHeld := hHeld2
  clear hHeld2
  refine take_op (i := 3) (d := 19) (v := ?_) rfl rfl (by kernel_rfl) (by kernel_rfl) (by kernel_rfl) (fun _ _ _ h => h) (Or.inl ⟨by rfl, ?hy3u11⟩) hHeld ?rest3u11
  case hy3u11 =>
    intro w' hS'
    go_simp
    try with_reducible rfl
  simp only [List.setIfInBounds_toArray, List.set_cons_zero, List.set_cons_succ]
  refine take_op (i := 4) (d := 20) (v := ?_) rfl rfl (by kernel_rfl) (by kernel_rfl) (by kernel_rfl) (fun _ _ _ h => h) (Or.inl ⟨by rfl, ?hy4u12⟩) hHeld ?rest4u12
  case hy4u12 =>
    intro w' hS'
    go_simp
    try with_reducible rfl
  simp only [List.setIfInBounds_toArray, List.set_cons_zero, List.set_cons_succ]
  refine wpAnyH_ready (rs := [5]) (by kernel_rfl) (by simp) ?_
  refine AllReadyH.cons rfl (fun K hK => ?_) AllReadyH.nil
  go_simp
  refine (isPlain_is wanted _ Hq.out _).mono ?_
  rintro e w' ⟨rfl, rfl⟩
  refine hK.out _ _ (hHeld) (fun hHeld2 => ?_)
  clear hK K
  replace hHeld := hHeld2
  clear hHeld2
  refine take_op (i := 6) (d := 22) (v := ?_) rfl rfl (by kernel_rfl) (by kernel_rfl) (by kernel_rfl) (fun _ _ _ h => h) (Or.inl ⟨by rfl, ?hy6u13⟩) hHeld ?rest6u13
  case hy6u13 =>
    intro w' hS'
    go_simp
    try with_reducible rfl
  simp only [List.setIfInBounds_toArray, List.set_cons_zero, List.set_cons_succ]
  refine wpAnyH_ready (rs := [7]) (by kernel_rfl) (by simp) ?_
  refine AllReadyH.cons rfl (fun K hK => ?_) AllReadyH.nil
  go_simp
  refine (checkCord_is ln st sp true c Hc.out _).mono ?_
  rintro e W1 ⟨rfl, hb1⟩
  refine hK.out _ _ (⟨below_row hb1 hHeld.1, hHeld.2.trans (hb1.mono hHeld.2.size)⟩) (fun hHeld2 => ?_)
  clear hK K
  replace hHeld := hHeld2
  clear hHeld2
  refine take_op (i := 8) (d := 9) (v := ?_) rfl rfl (by kernel_rfl) (by kernel_rfl) (by kernel_rfl) (fun _ _ _ h => h) (Or.inl ⟨by rfl, ?hy8u14⟩) hHeld ?rest8u14
  case hy8u14 =>
    intro w' hS'
    go_simp
    try with_reducible rfl
  simp only [List.setIfInBounds_toArray, List.set_cons_zero, List.set_cons_succ]
  refine wpAnyH_done (by kernel_rfl) ?_ _
  obtain ⟨h0, hb⟩ := hHeld
  clear h0
  go_wp2
  go_ret3
  exact ⟨rfl, hb⟩

set_option maxRecDepth 100000 in
set_option maxHeartbeats 1000000 in
theorem specStopFor_k (ln st : Nat) (sp : Int) (cw : CoWf ln st sp) (load wanted : Nat) (hp : partB load = true) (hq : plainB wanted = true) (hk : okCo ln st sp = false) (w : World) :
    Calls Try.prog 13 #[.agg (cordC ln st sp), .float .f32 load, .float .f32 wanted] w fun e w' => e = .returned (.tuple #[.int .i64 0, .float .f32 0, .int .i64 (codeD (okCo ln st sp) true)]) ∧ Below w.heap.size w w' := by
  obtain ⟨S0, S1⟩ := cowf_s cw
  have hne : codeD (okCo ln st sp) true ≠ 0 := codeD_ne (by rw [hk]; simp)
  generalize hc : codeD (okCo ln st sp) true = c at *
  have Hc := Lib.hid hc
  have Hp := Lib.hid hp
  have Hq := Lib.hid hq
  have hne' : (c != 0) = true := bne_iff_ne.2 hne
  clear hk hq hc hp hne cw
  go_enter Try.func13, Try.ntmps13
  go_wp2_with (first | (go_at_call 30; refine (l01Part_is load true Hp.out _).mono ?_; rintro e w' ⟨rfl, rfl⟩) | (go_at_call 29; refine (l02Loaded_is ln st sp S0 S1 w.heap.size _ _ true c Hc.out _ (heap_alloc_new _ _)).mono ?_; rintro e w' ⟨rfl, rfl⟩) | (go_at_call 38; refine (l01Plain_is wanted true Hq.out _).mono ?_; rintro e w' ⟨rfl, rfl⟩))
  go_ret3
  exact ⟨rfl, (Below.refl _ _).alloc (Nat.le_refl _) _⟩

end Go.Proofs.Ytddnfbpgldchcaa
