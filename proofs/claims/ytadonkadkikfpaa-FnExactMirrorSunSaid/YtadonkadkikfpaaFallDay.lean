/-
  For every sun and facing: the light on a window of a day is what the model says. No conditions.
-/
import Derived.Test.YtadonkadkikfpaaOver
namespace Go.Proofs.Ytadonkadkikfpaa
open Go.ChangeShapes Go.WideShapes Go.ChangeAt Go.RowKit

/-- The light on a window of a day. -/
def dayOf (hs ts : List Int) (facing : Int) : Nat := sumTo (fun h => fallOf hs ts (h : Int) facing) 24
theorem dayOf_pos (hs ts : List Int) (facing : Int) : pos32 (dayOf hs ts facing) = true := sumTo_pos _ 24 (fun _ _ => fallB_pos _ _) 24 (Nat.le_refl _)

set_option maxRecDepth 100000 in
set_option maxHeartbeats 1000000 in
theorem l01Day_any (b : Nat) (hs ts : List Int) (hh : hs.length = 24) (ht : ts.length = 24) (h1 : okB hs ts = true) (facing : Int) (hf0 : 0 ≤ facing) (hf1 : facing ≤ 255) (t : TypeId) (fr : Nat × Nat) (w : World) (hg : w.heap[b]? = some (.cells (sunC hs ts) t fr)) :
    Calls Try.prog 65 #[.pointer (some ⟨b, 0, none⟩), .int .i64 facing] w fun e w' => e = .returned (.float .f32 (dayOf hs ts facing)) ∧ Below w.heap.size w w' := by
  have Hok := Lib.hid h1
  have Hg := Lib.hid hg
  have Hh := Lib.hid hh
  have Ht := Lib.hid ht
  clear hh ht h1 hg
  go_enter Try.func65, Try.ntmps65
  go_wp2
  go_loopw [5, 6] (fun s i wr => ∃ k : Nat, k ≤ 24 ∧ i = .int .i64 k ∧ s = .float .f32 (sumTo (fun h => fallOf hs ts (h : Int) facing) k) ∧ Below w.heap.size w wr) (fun _ i _ => 24 - (intOf i).toNat)
  case atStart => exact ⟨0, Nat.zero_le _, rfl, rfl, Below.refl _ _⟩
  case round =>
    obtain ⟨k, hk, rfl, rfl, hb⟩ := hrel
    by_cases hlt : k < 24
    · have hbd := okB_h Hh.out Ht.out Hok.out (k : Int) (by omega) (by omega)
      have hby := okB_t Hh.out Ht.out Hok.out (k : Int) (by omega) (by omega)
      have hp : pos32 (sumTo (fun h => fallOf hs ts (h : Int) facing) k) = true := sumTo_pos _ 24 (fun _ _ => fallB_pos _ _) k hk
      have hgp : pos32 (fallOf hs ts (k : Int) facing) = true := fallB_pos _ _
      have HC := Lib.hid (l01Fall_any b hs ts Hh.out Ht.out (k : Int) facing (by omega) (by omega) hf0 hf1 hbd.2 hby.1 hby.2 t fr wr (below_row hb Hg.out))
      have hs1 := sumTo_succ (fun h => fallOf hs ts (h : Int) facing) k
      have hadd := (add_ok hp hgp).1
      have HS := Lib.hid hs1
      generalize sumTo (fun h => fallOf hs ts (h : Int) facing) k = s at *
      have radd : ∀ t w, (binOp .add t (.float .f32 s) (.float .f32 (fallOf hs ts (k : Int) facing))).run Try.prog w = .ok (.float .f32 (fadd s (fallOf hs ts (k : Int) facing))) w := fun t w => run_float_arith w .add t .f32 _ _ _ hadd
      clear hbd hby hp hgp hs1 hadd
      go_wp2_with (go_at_call 61; refine HC.out.mono ?_; rintro e W1 ⟨rfl, hb1⟩)
      go_roundw
      case rel => exact ⟨k + 1, by omega, by go_num, by rw [HS.out], hb.trans (hb1.mono hb.size)⟩
      case measure => simp [intOf]; omega
    · obtain rfl : k = 24 := by omega
      go_wp2
      go_ret
      exact ⟨rfl, hb⟩

theorem dayOf_eq (hs ts : List Int) (facing : Int) : sumTo (fun h => fallOf hs ts (h : Int) facing) 24 = dayOf hs ts facing := rfl

set_option maxRecDepth 100000 in
set_option maxHeartbeats 1000000 in
theorem implFallDay_yes (hs ts : List Int) (hh : hs.length = 24) (ht : ts.length = 24) (facing : Int) (h1 : okB hs ts = true) (h2 : inF facing = true) (w : World) :
    Calls Try.prog 34 #[.agg (sunC hs ts), .int .i64 facing] w fun e w' => e = .returned (.tuple #[.float .f32 (dayOf hs ts facing), .int .i64 0]) ∧ Below w.heap.size w w' := by
  have Hc : Hid (codeB (okB hs ts) true = 0) := by rw [h1]; rfl
  have Hg := Lib.hid (fallOver_any hs ts hh ht h1 facing (inF_bd h2).1 (inF_bd h2).2)
  rw [dayOf_eq] at Hg
  have Hi := Lib.hid h2
  have Hh := Lib.hid hh
  have Ht := Lib.hid ht
  clear hh ht h1 h2
  go_enter Try.func34, Try.ntmps34
  go_wp2
  refine wp_region_held_drew (S := (fun W => W.heap[w.heap.size]? = some (.cells (sunC hs ts) 32 (0, 0)) ∧ Below w.heap.size w W)) (by kernel_rfl) ⟨heap_alloc_new _ _, ((Below.refl _ _).alloc (Nat.le_refl _) _).drew⟩ (fun hHeld => ?_)
  refine take_at (i := 0) (d := 7) (v := .agg (sunC hs ts)) rfl rfl (by kernel_rfl) (by kernel_rfl) (by kernel_rfl) (fun _ _ _ h => h) (yields_part (by rfl) 32 (.tmp 2) (by rfl) w.heap.size 0 48 (by rfl) 32 (sunC hs ts) (0, 0) _ (fun _ h => h.1) Try.underlying32 rfl info_sun (sun_fits _ _ Hh.out Ht.out) (sunC hs ts) (sun_all _ _ Hh.out Ht.out)) hHeld ?_
  simp only [List.setIfInBounds_toArray, List.set_cons_zero, List.set_cons_succ]
  refine take_at (i := 1) (d := 8) (v := ?_) rfl rfl (by kernel_rfl) (by kernel_rfl) (by kernel_rfl) (fun _ _ _ h => h) (Or.inl ⟨by rfl, ?hy1u1⟩) hHeld ?rest1u1
  case hy1u1 =>
    intro w' hS'
    go_simp
    try with_reducible rfl
  simp only [List.setIfInBounds_toArray, List.set_cons_zero, List.set_cons_succ]
  refine wpAnyH_ready (rs := [2]) (by kernel_rfl) (by simp) ?_
  refine AllReadyH.cons rfl (fun K hK => ?_) AllReadyH.nil
  go_simp
  refine (isFacing_is facing true Hi.out _).mono ?_
  rintro e w' ⟨rfl, rfl⟩
  refine hK.out _ _ (hHeld) (fun hHeld2 => ?_)
  clear hK K
  replace hHeld := hHeld2
  clear hHeld2
  refine wpAnyH_ready (rs := [3]) (by kernel_rfl) (by simp) ?_
  refine AllReadyH.cons rfl (fun K hK => ?_) AllReadyH.nil
  go_simp
  refine (checkSun_is hs ts Hh.out Ht.out true 0 Hc.out _).mono ?_
  rintro e W1 ⟨rfl, hb1⟩
  refine hK.out _ _ (⟨below_row hb1 hHeld.1, hHeld.2.trans (hb1.mono hHeld.2.size)⟩) (fun hHeld2 => ?_)
  clear hK K
  replace hHeld := hHeld2
  clear hHeld2
  refine take_at (i := 4) (d := 6) (v := ?_) rfl rfl (by kernel_rfl) (by kernel_rfl) (by kernel_rfl) (fun _ _ _ h => h) (Or.inl ⟨by rfl, ?hy4u2⟩) hHeld ?rest4u2
  case hy4u2 =>
    intro w' hS'
    go_simp
    try with_reducible rfl
  simp only [List.setIfInBounds_toArray, List.set_cons_zero, List.set_cons_succ]
  refine wpAnyH_done (by kernel_rfl) ?_ _
  obtain ⟨h0, hb⟩ := hHeld
  have H0 := Lib.hid h0
  clear h0
  go_wp2_with (first | (refine wpList_load_part rfl 32 _ rfl w.heap.size 0 48 rfl 32 (sunC hs ts) (0, 0) _ H0.out Try.underlying32 rfl info_sun (sun_fits _ _ Hh.out Ht.out) (sunC hs ts) (sun_all _ _ Hh.out Ht.out) ?_) | (go_at_call 66; refine (Hg.out _).mono ?_; rintro e W1 ⟨rfl, hb1⟩; replace H0 := Lib.hid (below_row hb1 H0.out); replace hb := hb.trans (hb1.mono hb.size); clear hb1))
  go_ret2
  exact ⟨rfl, hb⟩

set_option maxRecDepth 100000 in
set_option maxHeartbeats 1000000 in
theorem implFallDay_no (hs ts : List Int) (hh : hs.length = 24) (ht : ts.length = 24) (facing : Int) (h1 : ¬ (okB hs ts = true ∧ inF facing = true)) (w : World) :
    Calls Try.prog 34 #[.agg (sunC hs ts), .int .i64 facing] w fun e w' => e = .returned (.tuple #[.float .f32 0, .int .i64 (codeB (okB hs ts) (inF facing))]) ∧ Below w.heap.size w w' := by
  have hne := codeB_ne h1
  generalize hf : inF facing = fine at *
  generalize hc : codeB (okB hs ts) fine = c at *
  have Hc := Lib.hid hc
  have Hi := Lib.hid hf
  have hne' : (c != 0) = true := bne_iff_ne.2 hne
  have Hh := Lib.hid hh
  have Ht := Lib.hid ht
  clear hh ht h1 hc hf hne
  go_enter Try.func34, Try.ntmps34
  go_wp2
  refine wp_region_held_drew (S := (fun W => W.heap[w.heap.size]? = some (.cells (sunC hs ts) 32 (0, 0)) ∧ Below w.heap.size w W)) (by kernel_rfl) ⟨heap_alloc_new _ _, ((Below.refl _ _).alloc (Nat.le_refl _) _).drew⟩ (fun hHeld => ?_)
  refine take_at (i := 0) (d := 7) (v := .agg (sunC hs ts)) rfl rfl (by kernel_rfl) (by kernel_rfl) (by kernel_rfl) (fun _ _ _ h => h) (yields_part (by rfl) 32 (.tmp 2) (by rfl) w.heap.size 0 48 (by rfl) 32 (sunC hs ts) (0, 0) _ (fun _ h => h.1) Try.underlying32 rfl info_sun (sun_fits _ _ Hh.out Ht.out) (sunC hs ts) (sun_all _ _ Hh.out Ht.out)) hHeld ?_
  simp only [List.setIfInBounds_toArray, List.set_cons_zero, List.set_cons_succ]
  refine take_at (i := 1) (d := 8) (v := ?_) rfl rfl (by kernel_rfl) (by kernel_rfl) (by kernel_rfl) (fun _ _ _ h => h) (Or.inl ⟨by rfl, ?hy1u3⟩) hHeld ?rest1u3
  case hy1u3 =>
    intro w' hS'
    go_simp
    try with_reducible rfl
  simp only [List.setIfInBounds_toArray, List.set_cons_zero, List.set_cons_succ]
  refine wpAnyH_ready (rs := [2]) (by kernel_rfl) (by simp) ?_
  refine AllReadyH.cons rfl (fun K hK => ?_) AllReadyH.nil
  go_simp
  refine (isFacing_is facing fine Hi.out _).mono ?_
  rintro e w' ⟨rfl, rfl⟩
  refine hK.out _ _ (hHeld) (fun hHeld2 => ?_)
  clear hK K
  replace hHeld := hHeld2
  clear hHeld2
  refine wpAnyH_ready (rs := [3]) (by kernel_rfl) (by simp) ?_
  refine AllReadyH.cons rfl (fun K hK => ?_) AllReadyH.nil
  go_simp
  refine (checkSun_is hs ts Hh.out Ht.out fine c Hc.out _).mono ?_
  rintro e W1 ⟨rfl, hb1⟩
  refine hK.out _ _ (⟨below_row hb1 hHeld.1, hHeld.2.trans (hb1.mono hHeld.2.size)⟩) (fun hHeld2 => ?_)
  clear hK K
  replace hHeld := hHeld2
  clear hHeld2
  refine take_at (i := 4) (d := 6) (v := ?_) rfl rfl (by kernel_rfl) (by kernel_rfl) (by kernel_rfl) (fun _ _ _ h => h) (Or.inl ⟨by rfl, ?hy4u4⟩) hHeld ?rest4u4
  case hy4u4 =>
    intro w' hS'
    go_simp
    try with_reducible rfl
  simp only [List.setIfInBounds_toArray, List.set_cons_zero, List.set_cons_succ]
  refine wpAnyH_done (by kernel_rfl) ?_ _
  obtain ⟨h0, hb⟩ := hHeld
  clear h0
  go_wp2
  go_ret2
  exact ⟨rfl, hb⟩

set_option maxRecDepth 100000 in
set_option maxHeartbeats 1000000 in
theorem specFallDay_yes (hs ts : List Int) (hh : hs.length = 24) (ht : ts.length = 24) (rb : ∀ x ∈ hs ++ ts, -32768 ≤ x ∧ x ≤ 32767) (facing : Int) (h1 : okB hs ts = true) (h2 : inF facing = true) (w : World) :
    Calls Try.prog 33 #[.agg (sunC hs ts), .int .i64 facing] w fun e w' => e = .returned (.tuple #[.float .f32 (dayOf hs ts facing), .int .i64 0]) ∧ Below w.heap.size w w' := by
  have Hc : Hid (codeB (okB hs ts) true = 0) := by rw [h1]; rfl
  have HD := Lib.hid (fun W hg => l01Day_any w.heap.size hs ts hh ht h1 facing (inF_bd h2).1 (inF_bd h2).2 32 (0, 0) W hg)
  have Hi := Lib.hid h2
  have Hh := Lib.hid hh
  have Ht := Lib.hid ht
  have Rb := Lib.hid rb
  clear hh ht rb
  clear h1 h2
  go_enter Try.func33, Try.ntmps33
  go_wp2_with (first | (go_at_call 60; refine (l01Faced_is _ true Hi.out _).mono ?_; rintro e w' ⟨rfl, rfl⟩) | (go_at_call 53; refine (l01Asked_is _ hs ts Hh.out Ht.out Rb.out 32 (0, 0) true 0 Hc.out _ (heap_alloc_new _ _)).mono ?_; rintro e w' ⟨rfl, rfl⟩) | (go_at_call 65; refine (HD.out _ (heap_alloc_new _ _)).mono ?_; rintro e W1 ⟨rfl, hb1⟩))
  go_ret2
  exact ⟨rfl, ((Below.refl _ _).alloc (Nat.le_refl _) _).trans (hb1.mono (by simp))⟩

set_option maxRecDepth 100000 in
set_option maxHeartbeats 1000000 in
theorem specFallDay_no (hs ts : List Int) (hh : hs.length = 24) (ht : ts.length = 24) (rb : ∀ x ∈ hs ++ ts, -32768 ≤ x ∧ x ≤ 32767) (facing : Int) (h1 : ¬ (okB hs ts = true ∧ inF facing = true)) (w : World) :
    Calls Try.prog 33 #[.agg (sunC hs ts), .int .i64 facing] w fun e w' => e = .returned (.tuple #[.float .f32 0, .int .i64 (codeB (okB hs ts) (inF facing))]) ∧ Below w.heap.size w w' := by
  have hne := codeB_ne h1
  generalize hf : inF facing = fine at *
  generalize hc : codeB (okB hs ts) fine = c at *
  have Hc := Lib.hid hc
  have Hi := Lib.hid hf
  have hne' : (c != 0) = true := bne_iff_ne.2 hne
  have Hh := Lib.hid hh
  have Ht := Lib.hid ht
  have Rb := Lib.hid rb
  clear hh ht rb
  clear h1 hc hf hne
  go_enter Try.func33, Try.ntmps33
  go_wp2_with (first | (go_at_call 60; refine (l01Faced_is _ fine Hi.out _).mono ?_; rintro e w' ⟨rfl, rfl⟩) | (go_at_call 53; refine (l01Asked_is _ hs ts Hh.out Ht.out Rb.out 32 (0, 0) fine c Hc.out _ (heap_alloc_new _ _)).mono ?_; rintro e w' ⟨rfl, rfl⟩))
  go_ret2
  exact ⟨rfl, (Below.refl _ _).alloc (Nat.le_refl _) _⟩

set_option maxRecDepth 100000 in
set_option maxHeartbeats 1000000 in
theorem FnExactFallDay_core (hs ts : List Int) (hh : hs.length = 24) (ht : ts.length = 24) (facing : Int) (v : Nat) (c : Int) (hv : fin32 v = true)
    (hspec : ∀ w, Calls Try.prog 33 #[.agg (sunC hs ts), .int .i64 facing] w fun e w' => e = .returned (.tuple #[.float .f32 v, .int .i64 c]) ∧ Below w.heap.size w w')
    (himpl : ∀ w, Calls Try.prog 34 #[.agg (sunC hs ts), .int .i64 facing] w fun e w' => e = .returned (.tuple #[.float .f32 v, .int .i64 c]) ∧ Below w.heap.size w w') (w : World) :
    Calls Try.prog 11 #[.agg (sunC hs ts), .int .i64 facing] w fun e w' => e = .returned (.bool true) ∧ Below w.heap.size w w' := by
  have Hh := Lib.hid hh
  have Ht := Lib.hid ht
  have HS := Lib.hid hspec
  have HI := Lib.hid himpl
  clear hh ht hspec himpl
  have hw := run_wide _ hv
  have Hv := Lib.hid hv
  clear hv
  go_enter Try.func11, Try.ntmps11
  go_upto_region 1 with (fail)
  refine abs_code (fun W => Below w.heap.size w W ∧ W.heap[w.heap.size]? = some (.cells (sunC hs ts) 30 (0, 0))) ⟨(Below.refl _ _).alloc (Nat.le_refl _) _, heap_alloc_new _ _⟩ ?_
  rintro W ⟨hb, h0⟩
  have H0 := Lib.hid h0
  clear h0
  go_wp2_with (first | (refine wpList_load_part rfl 30 _ rfl w.heap.size 0 48 rfl 30 (sunC hs ts) (0, 0) _ H0.out Try.underlying30 rfl info_sunL (sun_fits _ _ Hh.out Ht.out) (sunC hs ts) (sun_all _ _ Hh.out Ht.out) ?_) | (go_at_call 21; refine (toSun_any hs ts Hh.out Ht.out _).mono ?_; rintro e W1 ⟨rfl, hb1⟩; replace H0 := Lib.hid (below_row hb1 H0.out); replace hb := hb.trans (hb1.mono hb.size); clear hb1) | (go_at_call 33; refine (HS.out _).mono ?_; rintro e W1 ⟨rfl, hb1⟩; replace H0 := Lib.hid (below_row hb1 H0.out); replace hb := hb.trans (hb1.mono hb.size); clear hb1) | (go_at_call 34; refine (HI.out _).mono ?_; rintro e W1 ⟨rfl, hb1⟩; replace H0 := Lib.hid (below_row hb1 H0.out); replace hb := hb.trans (hb1.mono hb.size); clear hb1) | (go_at_call 17; refine (same_wide _ Hv.out _).mono ?_; rintro e w1 ⟨rfl, rfl⟩))
  go_ret
  exact ⟨rfl, hb⟩


theorem lawFallDay_walk (hs ts : List Int) (hh : hs.length = 24) (ht : ts.length = 24) (rb : ∀ x ∈ hs ++ ts, -32768 ≤ x ∧ x ≤ 32767) (facing : Int) (w : World) :
    Calls Try.prog 11 #[.agg (sunC hs ts), .int .i64 facing] w fun e w' => e = .returned (.bool true) ∧ Below w.heap.size w w' := by
  by_cases h : okB hs ts = true ∧ inF facing = true
  · exact FnExactFallDay_core hs ts hh ht facing _ _ (pos_fin (dayOf_pos hs ts facing)) (fun w => specFallDay_yes hs ts hh ht rb facing h.1 h.2 w) (fun w => implFallDay_yes hs ts hh ht facing h.1 h.2 w) w
  · exact FnExactFallDay_core hs ts hh ht facing _ _ zero_fin (fun w => specFallDay_no hs ts hh ht rb facing h w) (fun w => implFallDay_no hs ts hh ht facing h w) w

set_option maxRecDepth 100000 in
theorem FnExactFallDay_holds : Rows.FnExactFallDaySaid :=
  OpenClaim.holds_of_wide 11 Try.f11 rfl rfl rfl rfl rfl rfl rfl ⟨rfl, rfl, rfl, rfl, rfl⟩ rfl rfl rfl rfl rfl (by kernel_rfl) Try.func11 (by kernel_rfl)
    (of_decide_eq_true (by kernel_rfl)) (by unfold Func.isWrapper; first | (rw [if_pos (by decide +kernel)]; kernel_rfl) | (rw [if_neg (by decide +kernel)]; exact ⟨rfl, rfl⟩))
    (fun os started H enc _ => law_lifted 11 Try.f11 Rows.fnExactFallDaySpec Rows.fnExactFallDayRow.domain os started H enc (by kernel_rfl) Try.func11 rfl rfl
      (by rw [Try.params11]; intro t ht; simp only [List.mem_cons, List.not_mem_nil, or_false] at ht; rcases ht with rfl | rfl <;> exact ⟨by kernel_rfl, of_decide_eq_true (by kernel_rfl)⟩)
      (fun ds hl => by
        match ds, hl with
        | [d0, d1], _ => rfl)
      (ChangeSpec.witness6 (enc := enc) (C := Try.checked) false ⟨#[], #[.agg #[.int .i16 0, .int .i16 0, .int .i16 0, .int .i16 0, .int .i16 0, .int .i16 0, .int .i16 0, .int .i16 0, .int .i16 0, .int .i16 0, .int .i16 0, .int .i16 0, .int .i16 0, .int .i16 0, .int .i16 0, .int .i16 0, .int .i16 0, .int .i16 0, .int .i16 0, .int .i16 0, .int .i16 0, .int .i16 0, .int .i16 0, .int .i16 0, .int .i16 0, .int .i16 0, .int .i16 0, .int .i16 0, .int .i16 0, .int .i16 0, .int .i16 0, .int .i16 0, .int .i16 0, .int .i16 0, .int .i16 0, .int .i16 0, .int .i16 0, .int .i16 0, .int .i16 0, .int .i16 0, .int .i16 0, .int .i16 0, .int .i16 0, .int .i16 0, .int .i16 0, .int .i16 0, .int .i16 0, .int .i16 0], .int .i64 0], []⟩ 8 (by kernel_rfl) (by kernel_rfl) (by kernel_rfl) (by kernel_rfl))
      (fun W base args ds p hval hA => by
        rw [Try.params11] at hA hval
        obtain ⟨v0, vs0, d0, ds0, p0, q0, hargs, rfl, rfl, h0, r0⟩ := trodAll_cons hA
        obtain ⟨v1, vs1, d1, ds1, p1, q1, rfl, rfl, rfl, h1, r1⟩ := trodAll_cons r0
        obtain ⟨rfl, rfl, rfl⟩ := trodAll_nil r1
        obtain rfl : args = #[v0, v1] := by cases args; simp_all
        obtain ⟨hs0, ts0, hh0, ht0, rb0, rfl⟩ := open_sun (hval 0 30 v0 rfl rfl) h0
        obtain ⟨a1, rfl, rfl, rfl, w1⟩ := open_int Try.underlying2 (hval 1 2 v1 rfl rfl) h1
        exact lawFallDay_walk hs0 ts0 hh0 ht0 rb0 a1 W))
#print axioms FnExactFallDay_holds

end Go.Proofs.Ytadonkadkikfpaa
