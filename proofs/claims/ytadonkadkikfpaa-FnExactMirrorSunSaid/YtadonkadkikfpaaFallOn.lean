/-
  For every sun, hour and facing: the light on a window is what the model says. No conditions.
-/
import Derived.Test.YtadonkadkikfpaaFall
namespace Go.Proofs.Ytadonkadkikfpaa
open Go.ChangeShapes Go.WideShapes Go.ChangeAt Go.RowKit

theorem isFacing_is (n : Int) (b : Bool) (h : inF n = b) (w : World) : Calls Try.prog 62 #[.int .i64 n] w fun e w' => e = .returned (.bool b) ∧ w = w' := by
  subst h; exact isFacing_any n w
theorem l01Faced_is (n : Int) (b : Bool) (h : inF n = b) (w : World) : Calls Try.prog 60 #[.int .i64 n] w fun e w' => e = .returned (.bool b) ∧ w = w' := by
  subst h; exact l01Faced_any n w
theorem inF_bd {n : Int} (h : inF n = true) : 0 ≤ n ∧ n ≤ 255 := inB_true h

set_option maxRecDepth 100000 in
set_option maxHeartbeats 1000000 in
theorem implFallOn_yes (hs ts : List Int) (hh : hs.length = 24) (ht : ts.length = 24) (hour facing : Int) (h1 : okB hs ts = true) (h2 : inH hour = true) (h3 : inF facing = true) (w : World) :
    Calls Try.prog 30 #[.agg (sunC hs ts), .int .i64 hour, .int .i64 facing] w fun e w' => e = .returned (.tuple #[.float .f32 (fallOf hs ts hour facing), .int .i64 0]) ∧ Below w.heap.size w w' := by
  obtain ⟨hr0, hr1⟩ := inH_bd h2
  have Hc : Hid (codeB (okB hs ts) true = 0) := by rw [h1]; rfl
  have Hg := Lib.hid (fallAt_any hs ts hh ht hour facing hr0 hr1 (inF_bd h3).1 (inF_bd h3).2 (okB_h hh ht h1 hour hr0 hr1).2 (okB_t hh ht h1 hour hr0 hr1).1 (okB_t hh ht h1 hour hr0 hr1).2)
  have Hi := Lib.hid h2
  have Hf := Lib.hid h3
  have Hh := Lib.hid hh
  have Ht := Lib.hid ht
  clear hh ht h1 h2 h3
  go_enter Try.func30, Try.ntmps30
  go_wp2
  refine wp_region_held_drew (S := (fun W => W.heap[w.heap.size]? = some (.cells (sunC hs ts) 32 (0, 0)) ∧ Below w.heap.size w W)) (by kernel_rfl) ⟨heap_alloc_new _ _, ((Below.refl _ _).alloc (Nat.le_refl _) _).drew⟩ (fun hHeld => ?_)
  refine take_at (i := 0) (d := 9) (v := .agg (sunC hs ts)) rfl rfl (by kernel_rfl) (by kernel_rfl) (by kernel_rfl) (fun _ _ _ h => h) (yields_part (by rfl) 32 (.tmp 3) (by rfl) w.heap.size 0 48 (by rfl) 32 (sunC hs ts) (0, 0) _ (fun _ h => h.1) Try.underlying32 rfl info_sun (sun_fits _ _ Hh.out Ht.out) (sunC hs ts) (sun_all _ _ Hh.out Ht.out)) hHeld ?_
  simp only [List.setIfInBounds_toArray, List.set_cons_zero, List.set_cons_succ]
  refine take_at (i := 1) (d := 10) (v := ?_) rfl rfl (by kernel_rfl) (by kernel_rfl) (by kernel_rfl) (fun _ _ _ h => h) (Or.inl ⟨by rfl, ?hy1u23⟩) hHeld ?rest1u23
  case hy1u23 =>
    intro w' hS'
    go_simp
    try with_reducible rfl
  simp only [List.setIfInBounds_toArray, List.set_cons_zero, List.set_cons_succ]
  refine wpAnyH_ready (rs := [2]) (by kernel_rfl) (by simp) ?_
  refine AllReadyH.cons rfl (fun K hK => ?_) AllReadyH.nil
  go_simp
  refine (isHour_is hour true Hi.out _).mono ?_
  rintro e w' ⟨rfl, rfl⟩
  refine hK.out _ _ (hHeld) (fun hHeld2 => ?_)
  clear hK K
  replace hHeld := hHeld2
  clear hHeld2
  refine take_at (i := 3) (d := 12) (v := ?_) rfl rfl (by kernel_rfl) (by kernel_rfl) (by kernel_rfl) (fun _ _ _ h => h) (Or.inl ⟨by rfl, ?hy3u24⟩) hHeld ?rest3u24
  case hy3u24 =>
    intro w' hS'
    go_simp
    try with_reducible rfl
  simp only [List.setIfInBounds_toArray, List.set_cons_zero, List.set_cons_succ]
  refine take_at (i := 4) (d := 13) (v := ?_) rfl rfl (by kernel_rfl) (by kernel_rfl) (by kernel_rfl) (fun _ _ _ h => h) (Or.inl ⟨by rfl, ?hy4u25⟩) hHeld ?rest4u25
  case hy4u25 =>
    intro w' hS'
    go_simp
    try with_reducible rfl
  simp only [List.setIfInBounds_toArray, List.set_cons_zero, List.set_cons_succ]
  refine wpAnyH_ready (rs := [5]) (by kernel_rfl) (by simp) ?_
  refine AllReadyH.cons rfl (fun K hK => ?_) AllReadyH.nil
  go_simp
  refine (isFacing_is facing true Hf.out _).mono ?_
  rintro e w' ⟨rfl, rfl⟩
  refine hK.out _ _ (hHeld) (fun hHeld2 => ?_)
  clear hK K
  replace hHeld := hHeld2
  clear hHeld2
  refine take_at (i := 6) (d := 15) (v := ?_) rfl rfl (by kernel_rfl) (by kernel_rfl) (by kernel_rfl) (fun _ _ _ h => h) (Or.inl ⟨by rfl, ?hy6u26⟩) hHeld ?rest6u26
  case hy6u26 =>
    intro w' hS'
    go_simp
    try with_reducible rfl
  simp only [List.setIfInBounds_toArray, List.set_cons_zero, List.set_cons_succ]
  refine wpAnyH_ready (rs := [7]) (by kernel_rfl) (by simp) ?_
  refine AllReadyH.cons rfl (fun K hK => ?_) AllReadyH.nil
  go_simp
  refine (checkSun_is hs ts Hh.out Ht.out true 0 Hc.out _).mono ?_
  rintro e W1 ⟨rfl, hb1⟩
  refine hK.out _ _ (⟨below_row hb1 hHeld.1, hHeld.2.trans (hb1.mono hHeld.2.size)⟩) (fun hHeld2 => ?_)
  clear hK K
  replace hHeld := hHeld2
  clear hHeld2
  refine take_at (i := 8) (d := 8) (v := ?_) rfl rfl (by kernel_rfl) (by kernel_rfl) (by kernel_rfl) (fun _ _ _ h => h) (Or.inl ⟨by rfl, ?hy8u27⟩) hHeld ?rest8u27
  case hy8u27 =>
    intro w' hS'
    go_simp
    try with_reducible rfl
  simp only [List.setIfInBounds_toArray, List.set_cons_zero, List.set_cons_succ]
  refine wpAnyH_done (by kernel_rfl) ?_ _
  obtain ⟨h0, hb⟩ := hHeld
  have H0 := Lib.hid h0
  clear h0
  go_wp2_with (first | (refine wpList_load_part rfl 32 _ rfl w.heap.size 0 48 rfl 32 (sunC hs ts) (0, 0) _ H0.out Try.underlying32 rfl info_sun (sun_fits _ _ Hh.out Ht.out) (sunC hs ts) (sun_all _ _ Hh.out Ht.out) ?_) | (go_at_call 63; refine (Hg.out _).mono ?_; rintro e W1 ⟨rfl, hb1⟩; replace H0 := Lib.hid (below_row hb1 H0.out); replace hb := hb.trans (hb1.mono hb.size); clear hb1))
  go_ret2
  exact ⟨rfl, hb⟩

set_option maxRecDepth 100000 in
set_option maxHeartbeats 1000000 in
theorem implFallOn_no (hs ts : List Int) (hh : hs.length = 24) (ht : ts.length = 24) (hour facing : Int) (h1 : ¬ (okB hs ts = true ∧ (inH hour && inF facing) = true)) (w : World) :
    Calls Try.prog 30 #[.agg (sunC hs ts), .int .i64 hour, .int .i64 facing] w fun e w' => e = .returned (.tuple #[.float .f32 0, .int .i64 (codeB (okB hs ts) (inH hour && inF facing))]) ∧ Below w.heap.size w w' := by
  have hne := codeB_ne h1
  generalize hf : inF facing = ff at *
  generalize hi : inH hour = fi at *
  have Hi := Lib.hid hi
  have Hf := Lib.hid hf
  clear hi hf h1
  have Hh := Lib.hid hh
  have Ht := Lib.hid ht
  clear hh ht
  cases fi
  · generalize hc : codeB (okB hs ts) (false && ff) = c at *
    have Hc : Hid (codeB (okB hs ts) false = c) := by rw [Bool.false_and] at hc; exact hc
    have hne' : (c != 0) = true := bne_iff_ne.2 hne
    clear hc hne
    go_enter Try.func30, Try.ntmps30
    go_wp2
    refine wp_region_held_drew (S := (fun W => W.heap[w.heap.size]? = some (.cells (sunC hs ts) 32 (0, 0)) ∧ Below w.heap.size w W)) (by kernel_rfl) ⟨heap_alloc_new _ _, ((Below.refl _ _).alloc (Nat.le_refl _) _).drew⟩ (fun hHeld => ?_)
    refine take_at (i := 0) (d := 9) (v := .agg (sunC hs ts)) rfl rfl (by kernel_rfl) (by kernel_rfl) (by kernel_rfl) (fun _ _ _ h => h) (yields_part (by rfl) 32 (.tmp 3) (by rfl) w.heap.size 0 48 (by rfl) 32 (sunC hs ts) (0, 0) _ (fun _ h => h.1) Try.underlying32 rfl info_sun (sun_fits _ _ Hh.out Ht.out) (sunC hs ts) (sun_all _ _ Hh.out Ht.out)) hHeld ?_
    simp only [List.setIfInBounds_toArray, List.set_cons_zero, List.set_cons_succ]
    refine take_at (i := 1) (d := 10) (v := ?_) rfl rfl (by kernel_rfl) (by kernel_rfl) (by kernel_rfl) (fun _ _ _ h => h) (Or.inl ⟨by rfl, ?hy1u28⟩) hHeld ?rest1u28
    case hy1u28 =>
      intro w' hS'
      go_simp
      try with_reducible rfl
    simp only [List.setIfInBounds_toArray, List.set_cons_zero, List.set_cons_succ]
    refine wpAnyH_ready (rs := [2]) (by kernel_rfl) (by simp) ?_
    refine AllReadyH.cons rfl (fun K hK => ?_) AllReadyH.nil
    go_simp
    refine (isHour_is hour false Hi.out _).mono ?_
    rintro e w' ⟨rfl, rfl⟩
    refine hK.out _ _ (hHeld) (fun hHeld2 => ?_)
    clear hK K
    replace hHeld := hHeld2
    clear hHeld2
    refine take_at (i := 3) (d := 12) (v := ?_) rfl rfl (by kernel_rfl) (by kernel_rfl) (by kernel_rfl) (fun _ _ _ h => h) (Or.inl ⟨by rfl, ?hy3u29⟩) hHeld ?rest3u29
    case hy3u29 =>
      intro w' hS'
      go_simp
      try with_reducible rfl
    simp only [List.setIfInBounds_toArray, List.set_cons_zero, List.set_cons_succ]
    refine take_at (i := 4) (d := 13) rfl rfl (by kernel_rfl) (by kernel_rfl) (by kernel_rfl) (fun _ _ _ h => h) (Or.inr ⟨by rfl, rfl⟩) hHeld ?_
    simp only [List.setIfInBounds_toArray, List.set_cons_zero, List.set_cons_succ]
    refine take_at (i := 5) (d := 14) rfl rfl (by kernel_rfl) (by kernel_rfl) (by kernel_rfl) (fun _ _ _ h => h) (Or.inr ⟨by rfl, rfl⟩) hHeld ?_
    simp only [List.setIfInBounds_toArray, List.set_cons_zero, List.set_cons_succ]
    refine take_at (i := 6) (d := 15) (v := ?_) rfl rfl (by kernel_rfl) (by kernel_rfl) (by kernel_rfl) (fun _ _ _ h => h) (Or.inl ⟨by rfl, ?hy6u30⟩) hHeld ?rest6u30
    case hy6u30 =>
      intro w' hS'
      go_simp
      try with_reducible rfl
    simp only [List.setIfInBounds_toArray, List.set_cons_zero, List.set_cons_succ]
    refine wpAnyH_ready (rs := [7]) (by kernel_rfl) (by simp) ?_
    refine AllReadyH.cons rfl (fun K hK => ?_) AllReadyH.nil
    go_simp
    refine (checkSun_is hs ts Hh.out Ht.out false c Hc.out _).mono ?_
    rintro e W1 ⟨rfl, hb1⟩
    refine hK.out _ _ (⟨below_row hb1 hHeld.1, hHeld.2.trans (hb1.mono hHeld.2.size)⟩) (fun hHeld2 => ?_)
    clear hK K
    replace hHeld := hHeld2
    clear hHeld2
    refine take_at (i := 8) (d := 8) (v := ?_) rfl rfl (by kernel_rfl) (by kernel_rfl) (by kernel_rfl) (fun _ _ _ h => h) (Or.inl ⟨by rfl, ?hy8u31⟩) hHeld ?rest8u31
    case hy8u31 =>
      intro w' hS'
      go_simp
      try with_reducible rfl
    simp only [List.setIfInBounds_toArray, List.set_cons_zero, List.set_cons_succ]
    refine wpAnyH_done (by kernel_rfl) ?_ _
    obtain ⟨h0, hb⟩ := hHeld
    clear h0
    go_wp2
    go_ret2
    exact ⟨rfl, hb⟩
  · generalize hc : codeB (okB hs ts) (true && ff) = c at *
    have Hc : Hid (codeB (okB hs ts) ff = c) := by rw [Bool.true_and] at hc; exact hc
    have hne' : (c != 0) = true := bne_iff_ne.2 hne
    clear hc hne
    go_enter Try.func30, Try.ntmps30
    go_wp2
    refine wp_region_held_drew (S := (fun W => W.heap[w.heap.size]? = some (.cells (sunC hs ts) 32 (0, 0)) ∧ Below w.heap.size w W)) (by kernel_rfl) ⟨heap_alloc_new _ _, ((Below.refl _ _).alloc (Nat.le_refl _) _).drew⟩ (fun hHeld => ?_)
    refine take_at (i := 0) (d := 9) (v := .agg (sunC hs ts)) rfl rfl (by kernel_rfl) (by kernel_rfl) (by kernel_rfl) (fun _ _ _ h => h) (yields_part (by rfl) 32 (.tmp 3) (by rfl) w.heap.size 0 48 (by rfl) 32 (sunC hs ts) (0, 0) _ (fun _ h => h.1) Try.underlying32 rfl info_sun (sun_fits _ _ Hh.out Ht.out) (sunC hs ts) (sun_all _ _ Hh.out Ht.out)) hHeld ?_
    simp only [List.setIfInBounds_toArray, List.set_cons_zero, List.set_cons_succ]
    refine take_at (i := 1) (d := 10) (v := ?_) rfl rfl (by kernel_rfl) (by kernel_rfl) (by kernel_rfl) (fun _ _ _ h => h) (Or.inl ⟨by rfl, ?hy1u32⟩) hHeld ?rest1u32
    case hy1u32 =>
      intro w' hS'
      go_simp
      try with_reducible rfl
    simp only [List.setIfInBounds_toArray, List.set_cons_zero, List.set_cons_succ]
    refine wpAnyH_ready (rs := [2]) (by kernel_rfl) (by simp) ?_
    refine AllReadyH.cons rfl (fun K hK => ?_) AllReadyH.nil
    go_simp
    refine (isHour_is hour true Hi.out _).mono ?_
    rintro e w' ⟨rfl, rfl⟩
    refine hK.out _ _ (hHeld) (fun hHeld2 => ?_)
    clear hK K
    replace hHeld := hHeld2
    clear hHeld2
    refine take_at (i := 3) (d := 12) (v := ?_) rfl rfl (by kernel_rfl) (by kernel_rfl) (by kernel_rfl) (fun _ _ _ h => h) (Or.inl ⟨by rfl, ?hy3u33⟩) hHeld ?rest3u33
    case hy3u33 =>
      intro w' hS'
      go_simp
      try with_reducible rfl
    simp only [List.setIfInBounds_toArray, List.set_cons_zero, List.set_cons_succ]
    refine take_at (i := 4) (d := 13) (v := ?_) rfl rfl (by kernel_rfl) (by kernel_rfl) (by kernel_rfl) (fun _ _ _ h => h) (Or.inl ⟨by rfl, ?hy4u34⟩) hHeld ?rest4u34
    case hy4u34 =>
      intro w' hS'
      go_simp
      try with_reducible rfl
    simp only [List.setIfInBounds_toArray, List.set_cons_zero, List.set_cons_succ]
    refine wpAnyH_ready (rs := [5]) (by kernel_rfl) (by simp) ?_
    refine AllReadyH.cons rfl (fun K hK => ?_) AllReadyH.nil
    go_simp
    refine (isFacing_is facing ff Hf.out _).mono ?_
    rintro e w' ⟨rfl, rfl⟩
    refine hK.out _ _ (hHeld) (fun hHeld2 => ?_)
    clear hK K
    replace hHeld := hHeld2
    clear hHeld2
    refine take_at (i := 6) (d := 15) (v := ?_) rfl rfl (by kernel_rfl) (by kernel_rfl) (by kernel_rfl) (fun _ _ _ h => h) (Or.inl ⟨by rfl, ?hy6u35⟩) hHeld ?rest6u35
    case hy6u35 =>
      intro w' hS'
      go_simp
      try with_reducible rfl
    simp only [List.setIfInBounds_toArray, List.set_cons_zero, List.set_cons_succ]
    refine wpAnyH_ready (rs := [7]) (by kernel_rfl) (by simp) ?_
    refine AllReadyH.cons rfl (fun K hK => ?_) AllReadyH.nil
    go_simp
    refine (checkSun_is hs ts Hh.out Ht.out ff c Hc.out _).mono ?_
    rintro e W1 ⟨rfl, hb1⟩
    refine hK.out _ _ (⟨below_row hb1 hHeld.1, hHeld.2.trans (hb1.mono hHeld.2.size)⟩) (fun hHeld2 => ?_)
    clear hK K
    replace hHeld := hHeld2
    clear hHeld2
    refine take_at (i := 8) (d := 8) (v := ?_) rfl rfl (by kernel_rfl) (by kernel_rfl) (by kernel_rfl) (fun _ _ _ h => h) (Or.inl ⟨by rfl, ?hy8u36⟩) hHeld ?rest8u36
    case hy8u36 =>
      intro w' hS'
      go_simp
      try with_reducible rfl
    simp only [List.setIfInBounds_toArray, List.set_cons_zero, List.set_cons_succ]
    refine wpAnyH_done (by kernel_rfl) ?_ _
    obtain ⟨h0, hb⟩ := hHeld
    clear h0
    go_wp2
    go_ret2
    exact ⟨rfl, hb⟩

set_option maxRecDepth 100000 in
set_option maxHeartbeats 1000000 in
theorem specFallOn_yes (hs ts : List Int) (hh : hs.length = 24) (ht : ts.length = 24) (rb : ∀ x ∈ hs ++ ts, -32768 ≤ x ∧ x ≤ 32767) (hour facing : Int) (h1 : okB hs ts = true) (h2 : inH hour = true) (h3 : inF facing = true) (w : World) :
    Calls Try.prog 29 #[.agg (sunC hs ts), .int .i64 hour, .int .i64 facing] w fun e w' => e = .returned (.tuple #[.float .f32 (fallOf hs ts hour facing), .int .i64 0]) ∧ Below w.heap.size w w' := by
  obtain ⟨hr0, hr1⟩ := inH_bd h2
  have Hc : Hid (codeB (okB hs ts) true = 0) := by rw [h1]; rfl
  have Hb := Lib.hid (okB_h hh ht h1 hour hr0 hr1)
  have Hy := Lib.hid (okB_t hh ht h1 hour hr0 hr1)
  have Hfb := Lib.hid (inF_bd h3)
  have Hi := Lib.hid h2
  have Hf := Lib.hid h3
  have Hh := Lib.hid hh
  have Ht := Lib.hid ht
  have Rb := Lib.hid rb
  clear hh ht rb
  clear h1 h2 h3
  go_enter Try.func29, Try.ntmps29
  go_wp2_with (first | (go_at_call 54; refine (l01Hour_is _ true Hi.out _).mono ?_; rintro e w' ⟨rfl, rfl⟩) | (go_at_call 60; refine (l01Faced_is _ true Hf.out _).mono ?_; rintro e w' ⟨rfl, rfl⟩) | (go_at_call 53; refine (l01Asked_is _ hs ts Hh.out Ht.out Rb.out 32 (0, 0) true 0 Hc.out _ (heap_alloc_new _ _)).mono ?_; rintro e w' ⟨rfl, rfl⟩) | (go_at_call 61; refine (l01Fall_any _ hs ts Hh.out Ht.out hour facing hr0 hr1 Hfb.out.1 Hfb.out.2 Hb.out.2 Hy.out.1 Hy.out.2 32 (0, 0) _ (heap_alloc_new _ _)).mono ?_; rintro e W1 ⟨rfl, hb1⟩))
  go_ret2
  exact ⟨rfl, ((Below.refl _ _).alloc (Nat.le_refl _) _).trans (hb1.mono (by simp))⟩

set_option maxRecDepth 100000 in
set_option maxHeartbeats 1000000 in
theorem specFallOn_no (hs ts : List Int) (hh : hs.length = 24) (ht : ts.length = 24) (rb : ∀ x ∈ hs ++ ts, -32768 ≤ x ∧ x ≤ 32767) (hour facing : Int) (h1 : ¬ (okB hs ts = true ∧ (inH hour && inF facing) = true)) (w : World) :
    Calls Try.prog 29 #[.agg (sunC hs ts), .int .i64 hour, .int .i64 facing] w fun e w' => e = .returned (.tuple #[.float .f32 0, .int .i64 (codeB (okB hs ts) (inH hour && inF facing))]) ∧ Below w.heap.size w w' := by
  have hne := codeB_ne h1
  generalize hf : inF facing = ff at *
  generalize hi : inH hour = fi at *
  have Hi := Lib.hid hi
  have Hf := Lib.hid hf
  clear hi hf h1
  have Hh := Lib.hid hh
  have Ht := Lib.hid ht
  have Rb := Lib.hid rb
  clear hh ht rb
  cases fi
  · generalize hc : codeB (okB hs ts) (false && ff) = c at *
    have Hc : Hid (codeB (okB hs ts) false = c) := by rw [Bool.false_and] at hc; exact hc
    have hne' : (c != 0) = true := bne_iff_ne.2 hne
    clear hc hne
    go_enter Try.func29, Try.ntmps29
    go_wp2_with (first | (go_at_call 54; refine (l01Hour_is _ false Hi.out _).mono ?_; rintro e w' ⟨rfl, rfl⟩) | (go_at_call 60; refine (l01Faced_is _ ff Hf.out _).mono ?_; rintro e w' ⟨rfl, rfl⟩) | (go_at_call 53; refine (l01Asked_is _ hs ts Hh.out Ht.out Rb.out 32 (0, 0) false c Hc.out _ (heap_alloc_new _ _)).mono ?_; rintro e w' ⟨rfl, rfl⟩))
    go_ret2
    exact ⟨rfl, (Below.refl _ _).alloc (Nat.le_refl _) _⟩
  · generalize hc : codeB (okB hs ts) (true && ff) = c at *
    have Hc : Hid (codeB (okB hs ts) ff = c) := by rw [Bool.true_and] at hc; exact hc
    have hne' : (c != 0) = true := bne_iff_ne.2 hne
    clear hc hne
    go_enter Try.func29, Try.ntmps29
    go_wp2_with (first | (go_at_call 54; refine (l01Hour_is _ true Hi.out _).mono ?_; rintro e w' ⟨rfl, rfl⟩) | (go_at_call 60; refine (l01Faced_is _ ff Hf.out _).mono ?_; rintro e w' ⟨rfl, rfl⟩) | (go_at_call 53; refine (l01Asked_is _ hs ts Hh.out Ht.out Rb.out 32 (0, 0) ff c Hc.out _ (heap_alloc_new _ _)).mono ?_; rintro e w' ⟨rfl, rfl⟩))
    go_ret2
    exact ⟨rfl, (Below.refl _ _).alloc (Nat.le_refl _) _⟩

set_option maxRecDepth 100000 in
set_option maxHeartbeats 1000000 in
theorem FnExactFallOn_core (hs ts : List Int) (hh : hs.length = 24) (ht : ts.length = 24) (hour facing : Int) (v : Nat) (c : Int) (hv : fin32 v = true)
    (hspec : ∀ w, Calls Try.prog 29 #[.agg (sunC hs ts), .int .i64 hour, .int .i64 facing] w fun e w' => e = .returned (.tuple #[.float .f32 v, .int .i64 c]) ∧ Below w.heap.size w w')
    (himpl : ∀ w, Calls Try.prog 30 #[.agg (sunC hs ts), .int .i64 hour, .int .i64 facing] w fun e w' => e = .returned (.tuple #[.float .f32 v, .int .i64 c]) ∧ Below w.heap.size w w') (w : World) :
    Calls Try.prog 9 #[.agg (sunC hs ts), .int .i64 hour, .int .i64 facing] w fun e w' => e = .returned (.bool true) ∧ Below w.heap.size w w' := by
  have Hh := Lib.hid hh
  have Ht := Lib.hid ht
  have HS := Lib.hid hspec
  have HI := Lib.hid himpl
  clear hh ht hspec himpl
  have hw := run_wide _ hv
  have Hv := Lib.hid hv
  clear hv
  go_enter Try.func9, Try.ntmps9
  go_upto_region 1 with (fail)
  refine abs_code (fun W => Below w.heap.size w W ∧ W.heap[w.heap.size]? = some (.cells (sunC hs ts) 30 (0, 0))) ⟨(Below.refl _ _).alloc (Nat.le_refl _) _, heap_alloc_new _ _⟩ ?_
  rintro W ⟨hb, h0⟩
  have H0 := Lib.hid h0
  clear h0
  go_wp2_with (first | (refine wpList_load_part rfl 30 _ rfl w.heap.size 0 48 rfl 30 (sunC hs ts) (0, 0) _ H0.out Try.underlying30 rfl info_sunL (sun_fits _ _ Hh.out Ht.out) (sunC hs ts) (sun_all _ _ Hh.out Ht.out) ?_) | (go_at_call 21; refine (toSun_any hs ts Hh.out Ht.out _).mono ?_; rintro e W1 ⟨rfl, hb1⟩; replace H0 := Lib.hid (below_row hb1 H0.out); replace hb := hb.trans (hb1.mono hb.size); clear hb1) | (go_at_call 29; refine (HS.out _).mono ?_; rintro e W1 ⟨rfl, hb1⟩; replace H0 := Lib.hid (below_row hb1 H0.out); replace hb := hb.trans (hb1.mono hb.size); clear hb1) | (go_at_call 30; refine (HI.out _).mono ?_; rintro e W1 ⟨rfl, hb1⟩; replace H0 := Lib.hid (below_row hb1 H0.out); replace hb := hb.trans (hb1.mono hb.size); clear hb1) | (go_at_call 17; refine (same_wide _ Hv.out _).mono ?_; rintro e w1 ⟨rfl, rfl⟩))
  go_ret
  exact ⟨rfl, hb⟩


theorem lawFallOn_walk (hs ts : List Int) (hh : hs.length = 24) (ht : ts.length = 24) (rb : ∀ x ∈ hs ++ ts, -32768 ≤ x ∧ x ≤ 32767) (hour facing : Int) (w : World) :
    Calls Try.prog 9 #[.agg (sunC hs ts), .int .i64 hour, .int .i64 facing] w fun e w' => e = .returned (.bool true) ∧ Below w.heap.size w w' := by
  by_cases h : okB hs ts = true ∧ (inH hour && inF facing) = true
  · have h2 := (Bool.and_eq_true _ _).mp h.2
    exact FnExactFallOn_core hs ts hh ht hour facing _ _ (fallB_fin _ _) (fun w => specFallOn_yes hs ts hh ht rb hour facing h.1 h2.1 h2.2 w) (fun w => implFallOn_yes hs ts hh ht hour facing h.1 h2.1 h2.2 w) w
  · exact FnExactFallOn_core hs ts hh ht hour facing _ _ zero_fin (fun w => specFallOn_no hs ts hh ht rb hour facing h w) (fun w => implFallOn_no hs ts hh ht hour facing h w) w

set_option maxRecDepth 100000 in
theorem FnExactFallOn_holds : Rows.FnExactFallOnSaid :=
  OpenClaim.holds_of_wide 9 Try.f9 rfl rfl rfl rfl rfl rfl rfl ⟨rfl, rfl, rfl, rfl, rfl⟩ rfl rfl rfl rfl rfl (by kernel_rfl) Try.func9 (by kernel_rfl)
    (of_decide_eq_true (by kernel_rfl)) (by unfold Func.isWrapper; first | (rw [if_pos (by decide +kernel)]; kernel_rfl) | (rw [if_neg (by decide +kernel)]; exact ⟨rfl, rfl⟩))
    (fun os started H enc _ => law_lifted 9 Try.f9 Rows.fnExactFallOnSpec Rows.fnExactFallOnRow.domain os started H enc (by kernel_rfl) Try.func9 rfl rfl
      (by rw [Try.params9]; intro t ht; simp only [List.mem_cons, List.not_mem_nil, or_false] at ht; rcases ht with rfl | rfl | rfl <;> exact ⟨by kernel_rfl, of_decide_eq_true (by kernel_rfl)⟩)
      (fun ds hl => by
        match ds, hl with
        | [d0, d1, d2], _ => rfl)
      (ChangeSpec.witness6 (enc := enc) (C := Try.checked) false ⟨#[], #[.agg #[.int .i16 0, .int .i16 0, .int .i16 0, .int .i16 0, .int .i16 0, .int .i16 0, .int .i16 0, .int .i16 0, .int .i16 0, .int .i16 0, .int .i16 0, .int .i16 0, .int .i16 0, .int .i16 0, .int .i16 0, .int .i16 0, .int .i16 0, .int .i16 0, .int .i16 0, .int .i16 0, .int .i16 0, .int .i16 0, .int .i16 0, .int .i16 0, .int .i16 0, .int .i16 0, .int .i16 0, .int .i16 0, .int .i16 0, .int .i16 0, .int .i16 0, .int .i16 0, .int .i16 0, .int .i16 0, .int .i16 0, .int .i16 0, .int .i16 0, .int .i16 0, .int .i16 0, .int .i16 0, .int .i16 0, .int .i16 0, .int .i16 0, .int .i16 0, .int .i16 0, .int .i16 0, .int .i16 0, .int .i16 0], .int .i64 0, .int .i64 0], []⟩ 8 (by kernel_rfl) (by kernel_rfl) (by kernel_rfl) (by kernel_rfl))
      (fun W base args ds p hval hA => by
        rw [Try.params9] at hA hval
        obtain ⟨v0, vs0, d0, ds0, p0, q0, hargs, rfl, rfl, h0, r0⟩ := trodAll_cons hA
        obtain ⟨v1, vs1, d1, ds1, p1, q1, rfl, rfl, rfl, h1, r1⟩ := trodAll_cons r0
        obtain ⟨v2, vs2, d2, ds2, p2, q2, rfl, rfl, rfl, h2, r2⟩ := trodAll_cons r1
        obtain ⟨rfl, rfl, rfl⟩ := trodAll_nil r2
        obtain rfl : args = #[v0, v1, v2] := by cases args; simp_all
        obtain ⟨hs0, ts0, hh0, ht0, rb0, rfl⟩ := open_sun (hval 0 30 v0 rfl rfl) h0
        obtain ⟨a1, rfl, rfl, rfl, w1⟩ := open_int Try.underlying2 (hval 1 2 v1 rfl rfl) h1
        obtain ⟨a2, rfl, rfl, rfl, w2⟩ := open_int Try.underlying2 (hval 2 2 v2 rfl rfl) h2
        exact lawFallOn_walk hs0 ts0 hh0 ht0 rb0 a1 a2 W))
#print axioms FnExactFallOn_holds

end Go.Proofs.Ytadonkadkikfpaa
