/-
  For every sun and hour: the light on the ground is what the model says. No conditions.
-/
import Derived.Test.YtadonkadkikfpaaUp
import Derived.Test.YtadonkadkikfpaaMul
import Derived.Test.YtadonkadkikfpaaAngle
import Derived.Test.YtadonkadkikfpaaSame
namespace Go.Proofs.Ytadonkadkikfpaa
open Go.ChangeShapes Go.WideShapes Go.ChangeAt Go.RowKit

theorem okB_h {hs ts : List Int} (hh : hs.length = 24) (ht : ts.length = 24) (h : okB hs ts = true) (hour : Int) (h0 : 0 ≤ hour) (h1 : hour < 24) : -64 ≤ atH hs hour ∧ atH hs hour ≤ 64 :=
  inB_true ((okB_iff hs ts hh ht).1 h hour.toNat (by omega)).1
theorem okB_t {hs ts : List Int} (hh : hs.length = 24) (ht : ts.length = 24) (h : okB hs ts = true) (hour : Int) (h0 : 0 ≤ hour) (h1 : hour < 24) : 0 ≤ atH ts hour ∧ atH ts hour ≤ 255 :=
  inB_true ((okB_iff hs ts hh ht).1 h hour.toNat (by omega)).2

set_option maxRecDepth 100000 in
set_option maxHeartbeats 1000000 in
theorem groundAt_any (hs ts : List Int) (hh : hs.length = 24) (ht : ts.length = 24) (hour : Int) (hr0 : 0 ≤ hour) (hr1 : hour < 24) (hx1 : atH hs hour ≤ 64) (w : World) :
    Calls Try.prog 59 #[.agg (sunC hs ts), .int .i64 hour] w fun e w' => e = .returned (.float .f32 (groundB (atH hs hour))) ∧ Below w.heap.size w w' := by
  have Hh := Lib.hid hh
  have Ht := Lib.hid ht
  have Hup := Lib.hid (upAt_any hs ts hh hour hr0 hr1)
  clear hh ht
  obtain ⟨k, rfl⟩ := Int.eq_ofNat_of_zero_le hr0
  have hk : k < 24 := by omega
  have ea : hs[k]?.getD 0 = atH hs (k : Int) := by unfold atH; rw [Int.toNat_natCast]
  generalize atH hs (k : Int) = x at *
  have Hx := Lib.hid ea
  by_cases hpos : 0 < x
  · have hd : decide (0 < x) = true := decide_eq_true hpos
    have HR : Hid (groundB x = sineB x) := if_pos hpos
    rw [hd] at Hup
    clear hd ea
    go_enter Try.func59, Try.ntmps59
    go_upto_region 1 with (fail)
    refine abs_code (fun W => Below w.heap.size w W ∧ W.heap[w.heap.size]? = some (.cells (sunC hs ts) 32 (0, 0))) ⟨(Below.refl _ _).alloc (Nat.le_refl _) _, heap_alloc_new _ _⟩ ?_
    rintro W ⟨hb, h0⟩
    have H0 := Lib.hid h0
    clear h0
    go_wp2_with (first | (refine wpList_load_part rfl 32 _ rfl w.heap.size 0 48 rfl 32 (sunC hs ts) (0, 0) _ H0.out Try.underlying32 rfl info_sun (sun_fits _ _ Hh.out Ht.out) (sunC hs ts) (sun_all _ _ Hh.out Ht.out) ?_) | (go_at_call 57; refine (Hup.out _).mono ?_; rintro e W1 ⟨rfl, hb1⟩; replace H0 := Lib.hid (below_row hb1 H0.out); replace hb := hb.trans (hb1.mono hb.size); clear hb1; have hc1 := cell_sun_h H0.out Hh.out k hk; rw [Hx.out] at hc1) | (go_at_call 47; refine (sine_any _ (by omega) (by omega) _).mono ?_; rintro e W1 ⟨rfl, hb1⟩; replace H0 := Lib.hid (below_row hb1 H0.out); replace hb := hb.trans (hb1.mono hb.size); clear hb1))
    go_ret
    exact ⟨ret_f32 HR.out.symm, hb⟩
  · have hd : decide (0 < x) = false := decide_eq_false hpos
    have HR : Hid (groundB x = 0) := if_neg hpos
    rw [hd] at Hup
    clear hd ea
    go_enter Try.func59, Try.ntmps59
    go_upto_region 1 with (fail)
    refine abs_code (fun W => Below w.heap.size w W ∧ W.heap[w.heap.size]? = some (.cells (sunC hs ts) 32 (0, 0))) ⟨(Below.refl _ _).alloc (Nat.le_refl _) _, heap_alloc_new _ _⟩ ?_
    rintro W ⟨hb, h0⟩
    have H0 := Lib.hid h0
    clear h0
    go_wp2_with (first | (refine wpList_load_part rfl 32 _ rfl w.heap.size 0 48 rfl 32 (sunC hs ts) (0, 0) _ H0.out Try.underlying32 rfl info_sun (sun_fits _ _ Hh.out Ht.out) (sunC hs ts) (sun_all _ _ Hh.out Ht.out) ?_) | (go_at_call 57; refine (Hup.out _).mono ?_; rintro e W1 ⟨rfl, hb1⟩; replace H0 := Lib.hid (below_row hb1 H0.out); replace hb := hb.trans (hb1.mono hb.size); clear hb1))
    go_ret
    exact ⟨ret_f32 HR.out.symm, hb⟩

set_option maxRecDepth 100000 in
set_option maxHeartbeats 1000000 in
theorem l01Ground_any (b : Nat) (hs ts : List Int) (hh : hs.length = 24) (hour : Int) (hr0 : 0 ≤ hour) (hr1 : hour < 24) (hx0 : -64 ≤ atH hs hour) (hx1 : atH hs hour ≤ 64) (t : TypeId) (fr : Nat × Nat) (w : World) (hg : w.heap[b]? = some (.cells (sunC hs ts) t fr)) :
    Calls Try.prog 58 #[.pointer (some ⟨b, 0, none⟩), .int .i64 hour] w fun e w' => e = .returned (.float .f32 (groundB (atH hs hour))) ∧ w = w' := by
  obtain ⟨k, rfl⟩ := Int.eq_ofNat_of_zero_le hr0
  have hk : k < 24 := by omega
  have ea : hs[k]?.getD 0 = atH hs (k : Int) := by unfold atH; rw [Int.toNat_natCast]
  generalize atH hs (k : Int) = x at *
  have Hx := Lib.hid ea
  have hc := cell_sun_h hg hh k hk
  rw [Hx.out] at hc
  clear hg hh ea
  by_cases hpos : 0 < x
  · have HR : Hid (groundB x = sineB x) := if_pos hpos
    have HA := Lib.hid (angB_id x (by omega) (by omega))
    go_enter Try.func58, Try.ntmps58
    go_wp2_with (go_at_call 45; refine (l01Sine_any _ _).mono ?_; rintro e w' ⟨rfl, rfl⟩)
    go_ret
    exact ⟨ret_f32 (by rw [HR.out, HA.out]), rfl⟩
  · have HR : Hid (groundB x = 0) := if_neg hpos
    go_enter Try.func58, Try.ntmps58
    go_wp2
    go_ret
    exact ⟨ret_f32 HR.out.symm, rfl⟩

set_option maxRecDepth 100000 in
set_option maxHeartbeats 1000000 in
theorem implGround_yes (hs ts : List Int) (hh : hs.length = 24) (ht : ts.length = 24) (hour : Int) (h1 : okB hs ts = true) (h2 : inH hour = true) (w : World) :
    Calls Try.prog 28 #[.agg (sunC hs ts), .int .i64 hour] w fun e w' => e = .returned (.tuple #[.float .f32 (groundB (atH hs hour)), .int .i64 0]) ∧ Below w.heap.size w w' := by
  obtain ⟨hr0, hr1⟩ := inH_bd h2
  have Hc : Hid (codeB (okB hs ts) true = 0) := by rw [h1]; rfl
  have Hg := Lib.hid (groundAt_any hs ts hh ht hour hr0 hr1 (okB_h hh ht h1 hour hr0 hr1).2)
  have Hi := Lib.hid h2
  have Hh := Lib.hid hh
  have Ht := Lib.hid ht
  clear hh ht h1 h2
  go_enter Try.func28, Try.ntmps28
  go_wp2
  refine wp_region_held_drew (S := (fun W => W.heap[w.heap.size]? = some (.cells (sunC hs ts) 32 (0, 0)) ∧ Below w.heap.size w W)) (by kernel_rfl) ⟨heap_alloc_new _ _, ((Below.refl _ _).alloc (Nat.le_refl _) _).drew⟩ (fun hHeld => ?_)
  refine take_at (i := 0) (d := 7) (v := .agg (sunC hs ts)) rfl rfl (by kernel_rfl) (by kernel_rfl) (by kernel_rfl) (fun _ _ _ h => h) (yields_part (by rfl) 32 (.tmp 2) (by rfl) w.heap.size 0 48 (by rfl) 32 (sunC hs ts) (0, 0) _ (fun _ h => h.1) Try.underlying32 rfl info_sun (sun_fits _ _ Hh.out Ht.out) (sunC hs ts) (sun_all _ _ Hh.out Ht.out)) hHeld ?_
  simp only [List.setIfInBounds_toArray, List.set_cons_zero, List.set_cons_succ]
  refine take_at (i := 1) (d := 8) (v := ?_) rfl rfl (by kernel_rfl) (by kernel_rfl) (by kernel_rfl) (fun _ _ _ h => h) (Or.inl ⟨by rfl, ?hy1u1⟩) hHeld ?rest1u1
  case hy1u1 =>
    intro w' hS'
    go_simp
    try with_reducible rfl
  simp only [List.setIfInBounds_toArray, List.set_cons_zero, List.set_cons_succ]
  refine wpAnyH_ready (rs := [2]) (by kernel_rfl) (by simp) ?_
  refine AllReadyH.cons rfl (fun K hK => ?_) AllReadyH.nil
  go_simp
  refine (isHour_is hour true Hi.out _).mono ?_
  rintro e w' ⟨rfl, rfl⟩
  refine hK.out _ _ (hHeld) (fun hHeld2 => ?_)
  clear hK K
  replace hHeld := hHeld2
  clear hHeld2
  refine wpAnyH_ready (rs := [3]) (by kernel_rfl) (by simp) ?_
  refine AllReadyH.cons rfl (fun K hK => ?_) AllReadyH.nil
  go_simp
  refine (checkSun_is hs ts Hh.out Ht.out true 0 Hc.out _).mono ?_
  rintro e W1 ⟨rfl, hb1⟩
  refine hK.out _ _ (⟨below_row hb1 hHeld.1, hHeld.2.trans (hb1.mono hHeld.2.size)⟩) (fun hHeld2 => ?_)
  clear hK K
  replace hHeld := hHeld2
  clear hHeld2
  refine take_at (i := 4) (d := 6) (v := ?_) rfl rfl (by kernel_rfl) (by kernel_rfl) (by kernel_rfl) (fun _ _ _ h => h) (Or.inl ⟨by rfl, ?hy4u2⟩) hHeld ?rest4u2
  case hy4u2 =>
    intro w' hS'
    go_simp
    try with_reducible rfl
  simp only [List.setIfInBounds_toArray, List.set_cons_zero, List.set_cons_succ]
  refine wpAnyH_done (by kernel_rfl) ?_ _
  obtain ⟨h0, hb⟩ := hHeld
  have H0 := Lib.hid h0
  clear h0
  go_wp2_with (first | (refine wpList_load_part rfl 32 _ rfl w.heap.size 0 48 rfl 32 (sunC hs ts) (0, 0) _ H0.out Try.underlying32 rfl info_sun (sun_fits _ _ Hh.out Ht.out) (sunC hs ts) (sun_all _ _ Hh.out Ht.out) ?_) | (go_at_call 59; refine (Hg.out _).mono ?_; rintro e W1 ⟨rfl, hb1⟩; replace H0 := Lib.hid (below_row hb1 H0.out); replace hb := hb.trans (hb1.mono hb.size); clear hb1))
  go_ret2
  exact ⟨rfl, hb⟩

set_option maxRecDepth 100000 in
set_option maxHeartbeats 1000000 in
theorem implGround_no (hs ts : List Int) (hh : hs.length = 24) (ht : ts.length = 24) (hour : Int) (h1 : ¬ (okB hs ts = true ∧ inH hour = true)) (w : World) :
    Calls Try.prog 28 #[.agg (sunC hs ts), .int .i64 hour] w fun e w' => e = .returned (.tuple #[.float .f32 0, .int .i64 (codeB (okB hs ts) (inH hour))]) ∧ Below w.heap.size w w' := by
  have hne := codeB_ne h1
  generalize hf : inH hour = fine at *
  generalize hc : codeB (okB hs ts) fine = c at *
  have Hc := Lib.hid hc
  have Hi := Lib.hid hf
  have hne' : (c != 0) = true := bne_iff_ne.2 hne
  have Hh := Lib.hid hh
  have Ht := Lib.hid ht
  clear hh ht h1 hc hf hne
  go_enter Try.func28, Try.ntmps28
  go_wp2
  refine wp_region_held_drew (S := (fun W => W.heap[w.heap.size]? = some (.cells (sunC hs ts) 32 (0, 0)) ∧ Below w.heap.size w W)) (by kernel_rfl) ⟨heap_alloc_new _ _, ((Below.refl _ _).alloc (Nat.le_refl _) _).drew⟩ (fun hHeld => ?_)
  refine take_at (i := 0) (d := 7) (v := .agg (sunC hs ts)) rfl rfl (by kernel_rfl) (by kernel_rfl) (by kernel_rfl) (fun _ _ _ h => h) (yields_part (by rfl) 32 (.tmp 2) (by rfl) w.heap.size 0 48 (by rfl) 32 (sunC hs ts) (0, 0) _ (fun _ h => h.1) Try.underlying32 rfl info_sun (sun_fits _ _ Hh.out Ht.out) (sunC hs ts) (sun_all _ _ Hh.out Ht.out)) hHeld ?_
  simp only [List.setIfInBounds_toArray, List.set_cons_zero, List.set_cons_succ]
  refine take_at (i := 1) (d := 8) (v := ?_) rfl rfl (by kernel_rfl) (by kernel_rfl) (by kernel_rfl) (fun _ _ _ h => h) (Or.inl ⟨by rfl, ?hy1u3⟩) hHeld ?rest1u3
  case hy1u3 =>
    intro w' hS'
    go_simp
    try with_reducible rfl
  simp only [List.setIfInBounds_toArray, List.set_cons_zero, List.set_cons_succ]
  refine wpAnyH_ready (rs := [2]) (by kernel_rfl) (by simp) ?_
  refine AllReadyH.cons rfl (fun K hK => ?_) AllReadyH.nil
  go_simp
  refine (isHour_is hour fine Hi.out _).mono ?_
  rintro e w' ⟨rfl, rfl⟩
  refine hK.out _ _ (hHeld) (fun hHeld2 => ?_)
  clear hK K
  replace hHeld := hHeld2
  clear hHeld2
  refine wpAnyH_ready (rs := [3]) (by kernel_rfl) (by simp) ?_
  refine AllReadyH.cons rfl (fun K hK => ?_) AllReadyH.nil
  go_simp
  refine (checkSun_is hs ts Hh.out Ht.out fine c Hc.out _).mono ?_
  rintro e W1 ⟨rfl, hb1⟩
  refine hK.out _ _ (⟨below_row hb1 hHeld.1, hHeld.2.trans (hb1.mono hHeld.2.size)⟩) (fun hHeld2 => ?_)
  clear hK K
  replace hHeld := hHeld2
  clear hHeld2
  refine take_at (i := 4) (d := 6) (v := ?_) rfl rfl (by kernel_rfl) (by kernel_rfl) (by kernel_rfl) (fun _ _ _ h => h) (Or.inl ⟨by rfl, ?hy4u4⟩) hHeld ?rest4u4
  case hy4u4 =>
    intro w' hS'
    go_simp
    try with_reducible rfl
  simp only [List.setIfInBounds_toArray, List.set_cons_zero, List.set_cons_succ]
  refine wpAnyH_done (by kernel_rfl) ?_ _
  obtain ⟨h0, hb⟩ := hHeld
  clear h0
  go_wp2
  go_ret2
  exact ⟨rfl, hb⟩

set_option maxRecDepth 100000 in
set_option maxHeartbeats 1000000 in
theorem specGround_yes (hs ts : List Int) (hh : hs.length = 24) (ht : ts.length = 24) (rb : ∀ x ∈ hs ++ ts, -32768 ≤ x ∧ x ≤ 32767) (hour : Int) (h1 : okB hs ts = true) (h2 : inH hour = true) (w : World) :
    Calls Try.prog 27 #[.agg (sunC hs ts), .int .i64 hour] w fun e w' => e = .returned (.tuple #[.float .f32 (groundB (atH hs hour)), .int .i64 0]) ∧ Below w.heap.size w w' := by
  obtain ⟨hr0, hr1⟩ := inH_bd h2
  have Hc : Hid (codeB (okB hs ts) true = 0) := by rw [h1]; rfl
  have Hb := Lib.hid (okB_h hh ht h1 hour hr0 hr1)
  have Hi := Lib.hid h2
  have Hh := Lib.hid hh
  have Ht := Lib.hid ht
  have Rb := Lib.hid rb
  clear hh ht rb
  clear h1 h2
  go_enter Try.func27, Try.ntmps27
  go_wp2_with (first | (go_at_call 54; refine (l01Hour_is _ true Hi.out _).mono ?_; rintro e w' ⟨rfl, rfl⟩) | (go_at_call 53; refine (l01Asked_is _ hs ts Hh.out Ht.out Rb.out 32 (0, 0) true 0 Hc.out _ (heap_alloc_new _ _)).mono ?_; rintro e w' ⟨rfl, rfl⟩) | (go_at_call 58; refine (l01Ground_any _ hs ts Hh.out hour hr0 hr1 Hb.out.1 Hb.out.2 32 (0, 0) _ (heap_alloc_new _ _)).mono ?_; rintro e w' ⟨rfl, rfl⟩))
  go_ret2
  exact ⟨rfl, (Below.refl _ _).alloc (Nat.le_refl _) _⟩

set_option maxRecDepth 100000 in
set_option maxHeartbeats 1000000 in
theorem specGround_no (hs ts : List Int) (hh : hs.length = 24) (ht : ts.length = 24) (rb : ∀ x ∈ hs ++ ts, -32768 ≤ x ∧ x ≤ 32767) (hour : Int) (h1 : ¬ (okB hs ts = true ∧ inH hour = true)) (w : World) :
    Calls Try.prog 27 #[.agg (sunC hs ts), .int .i64 hour] w fun e w' => e = .returned (.tuple #[.float .f32 0, .int .i64 (codeB (okB hs ts) (inH hour))]) ∧ Below w.heap.size w w' := by
  have hne := codeB_ne h1
  generalize hf : inH hour = fine at *
  generalize hc : codeB (okB hs ts) fine = c at *
  have Hc := Lib.hid hc
  have Hi := Lib.hid hf
  have hne' : (c != 0) = true := bne_iff_ne.2 hne
  have Hh := Lib.hid hh
  have Ht := Lib.hid ht
  have Rb := Lib.hid rb
  clear hh ht rb
  clear h1 hc hf hne
  go_enter Try.func27, Try.ntmps27
  go_wp2_with (first | (go_at_call 54; refine (l01Hour_is _ fine Hi.out _).mono ?_; rintro e w' ⟨rfl, rfl⟩) | (go_at_call 53; refine (l01Asked_is _ hs ts Hh.out Ht.out Rb.out 32 (0, 0) fine c Hc.out _ (heap_alloc_new _ _)).mono ?_; rintro e w' ⟨rfl, rfl⟩))
  go_ret2
  exact ⟨rfl, (Below.refl _ _).alloc (Nat.le_refl _) _⟩

set_option maxRecDepth 100000 in
set_option maxHeartbeats 1000000 in
theorem FnExactGroundLight_core (hs ts : List Int) (hh : hs.length = 24) (ht : ts.length = 24) (hour : Int) (v : Nat) (c : Int) (hv : fin32 v = true)
    (hspec : ∀ w, Calls Try.prog 27 #[.agg (sunC hs ts), .int .i64 hour] w fun e w' => e = .returned (.tuple #[.float .f32 v, .int .i64 c]) ∧ Below w.heap.size w w')
    (himpl : ∀ w, Calls Try.prog 28 #[.agg (sunC hs ts), .int .i64 hour] w fun e w' => e = .returned (.tuple #[.float .f32 v, .int .i64 c]) ∧ Below w.heap.size w w') (w : World) :
    Calls Try.prog 8 #[.agg (sunC hs ts), .int .i64 hour] w fun e w' => e = .returned (.bool true) ∧ Below w.heap.size w w' := by
  have Hh := Lib.hid hh
  have Ht := Lib.hid ht
  have HS := Lib.hid hspec
  have HI := Lib.hid himpl
  clear hh ht hspec himpl
  have hw := run_wide _ hv
  have Hv := Lib.hid hv
  clear hv
  go_enter Try.func8, Try.ntmps8
  go_upto_region 1 with (fail)
  refine abs_code (fun W => Below w.heap.size w W ∧ W.heap[w.heap.size]? = some (.cells (sunC hs ts) 30 (0, 0))) ⟨(Below.refl _ _).alloc (Nat.le_refl _) _, heap_alloc_new _ _⟩ ?_
  rintro W ⟨hb, h0⟩
  have H0 := Lib.hid h0
  clear h0
  go_wp2_with (first | (refine wpList_load_part rfl 30 _ rfl w.heap.size 0 48 rfl 30 (sunC hs ts) (0, 0) _ H0.out Try.underlying30 rfl info_sunL (sun_fits _ _ Hh.out Ht.out) (sunC hs ts) (sun_all _ _ Hh.out Ht.out) ?_) | (go_at_call 21; refine (toSun_any hs ts Hh.out Ht.out _).mono ?_; rintro e W1 ⟨rfl, hb1⟩; replace H0 := Lib.hid (below_row hb1 H0.out); replace hb := hb.trans (hb1.mono hb.size); clear hb1) | (go_at_call 27; refine (HS.out _).mono ?_; rintro e W1 ⟨rfl, hb1⟩; replace H0 := Lib.hid (below_row hb1 H0.out); replace hb := hb.trans (hb1.mono hb.size); clear hb1) | (go_at_call 28; refine (HI.out _).mono ?_; rintro e W1 ⟨rfl, hb1⟩; replace H0 := Lib.hid (below_row hb1 H0.out); replace hb := hb.trans (hb1.mono hb.size); clear hb1) | (go_at_call 17; refine (same_wide _ Hv.out _).mono ?_; rintro e w1 ⟨rfl, rfl⟩))
  go_ret
  exact ⟨rfl, hb⟩


theorem lawGroundLight_walk (hs ts : List Int) (hh : hs.length = 24) (ht : ts.length = 24) (rb : ∀ x ∈ hs ++ ts, -32768 ≤ x ∧ x ≤ 32767) (hour : Int) (w : World) :
    Calls Try.prog 8 #[.agg (sunC hs ts), .int .i64 hour] w fun e w' => e = .returned (.bool true) ∧ Below w.heap.size w w' := by
  by_cases h : okB hs ts = true ∧ inH hour = true
  · exact FnExactGroundLight_core hs ts hh ht hour _ _ (groundB_fin _ (okB_h hh ht h.1 hour (inH_bd h.2).1 (inH_bd h.2).2).2) (fun w => specGround_yes hs ts hh ht rb hour h.1 h.2 w) (fun w => implGround_yes hs ts hh ht hour h.1 h.2 w) w
  · exact FnExactGroundLight_core hs ts hh ht hour _ _ zero_fin (fun w => specGround_no hs ts hh ht rb hour h w) (fun w => implGround_no hs ts hh ht hour h w) w

set_option maxRecDepth 100000 in
theorem FnExactGroundLight_holds : Rows.FnExactGroundLightSaid :=
  OpenClaim.holds_of_wide 8 Try.f8 rfl rfl rfl rfl rfl rfl rfl ⟨rfl, rfl, rfl, rfl, rfl⟩ rfl rfl rfl rfl rfl (by kernel_rfl) Try.func8 (by kernel_rfl)
    (of_decide_eq_true (by kernel_rfl)) (by unfold Func.isWrapper; first | (rw [if_pos (by decide +kernel)]; kernel_rfl) | (rw [if_neg (by decide +kernel)]; exact ⟨rfl, rfl⟩))
    (fun os started H enc _ => law_lifted 8 Try.f8 Rows.fnExactGroundLightSpec Rows.fnExactGroundLightRow.domain os started H enc (by kernel_rfl) Try.func8 rfl rfl
      (by rw [Try.params8]; intro t ht; simp only [List.mem_cons, List.not_mem_nil, or_false] at ht; rcases ht with rfl | rfl <;> exact ⟨by kernel_rfl, of_decide_eq_true (by kernel_rfl)⟩)
      (fun ds hl => by
        match ds, hl with
        | [d0, d1], _ => rfl)
      (ChangeSpec.witness6 (enc := enc) (C := Try.checked) false ⟨#[], #[.agg #[.int .i16 0, .int .i16 0, .int .i16 0, .int .i16 0, .int .i16 0, .int .i16 0, .int .i16 0, .int .i16 0, .int .i16 0, .int .i16 0, .int .i16 0, .int .i16 0, .int .i16 0, .int .i16 0, .int .i16 0, .int .i16 0, .int .i16 0, .int .i16 0, .int .i16 0, .int .i16 0, .int .i16 0, .int .i16 0, .int .i16 0, .int .i16 0, .int .i16 0, .int .i16 0, .int .i16 0, .int .i16 0, .int .i16 0, .int .i16 0, .int .i16 0, .int .i16 0, .int .i16 0, .int .i16 0, .int .i16 0, .int .i16 0, .int .i16 0, .int .i16 0, .int .i16 0, .int .i16 0, .int .i16 0, .int .i16 0, .int .i16 0, .int .i16 0, .int .i16 0, .int .i16 0, .int .i16 0, .int .i16 0], .int .i64 0], []⟩ 8 (by kernel_rfl) (by kernel_rfl) (by kernel_rfl) (by kernel_rfl))
      (fun W base args ds p hval hA => by
        rw [Try.params8] at hA hval
        obtain ⟨v0, vs0, d0, ds0, p0, q0, hargs, rfl, rfl, h0, r0⟩ := trodAll_cons hA
        obtain ⟨v1, vs1, d1, ds1, p1, q1, rfl, rfl, rfl, h1, r1⟩ := trodAll_cons r0
        obtain ⟨rfl, rfl, rfl⟩ := trodAll_nil r1
        obtain rfl : args = #[v0, v1] := by cases args; simp_all
        obtain ⟨hs0, ts0, hh0, ht0, rb0, rfl⟩ := open_sun (hval 0 30 v0 rfl rfl) h0
        obtain ⟨a1, rfl, rfl, rfl, w1⟩ := open_int Try.underlying2 (hval 1 2 v1 rfl rfl) h1
        exact lawGroundLight_walk hs0 ts0 hh0 ht0 rb0 a1 W))
#print axioms FnExactGroundLight_holds

end Go.Proofs.Ytadonkadkikfpaa
