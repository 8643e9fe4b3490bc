/-
  For every blind and every sun, valid or not, every hour and facing: the light that passes into a window is what the model says. No conditions.
-/
import Derived.Test.YteagbfobnjfhcabWindowI
namespace Go.Proofs.Yteagbfobnjfhcab
open Go.ChangeShapes Go.WideShapes Go.ChangeAt Go.RowKit

set_option maxRecDepth 100000 in
set_option maxHeartbeats 1000000 in
theorem specPassWindow_yes (n : Int) (wd gp : Nat) (t : Int) (sh : Nat) (hs ts : List Int) (hh : hs.length = 24) (ht : ts.length = 24) (rb : ∀ x ∈ hs ++ ts, -32768 ≤ x ∧ x ≤ 32767) (bw : BlWf n wd gp t sh) (hour facing : Int) (hk : okBl n wd gp t sh = true) (ho : okB hs ts = true) (h2 : inH hour = true) (h3 : inF facing = true) (w : World) :
    Calls Try.prog 27 #[.agg (blindC n wd gp t sh), .agg (sunC hs ts), .int .i64 hour, .int .i64 facing] w fun e w' => e = .returned (.tuple #[.float .f32 (winB wd gp t sh hs ts hour facing), .int .i64 (0)]) ∧ Below w.heap.size w w' := by
  obtain ⟨T0, T1⟩ := blwf_t bw
  obtain ⟨N0, N1⟩ := blwf_n bw
  obtain ⟨hr0, hr1⟩ := inH_bd h2
  have OK := blok_of bw hk
  have HW := Lib.hid (fun g1 g2 w c1 c2 => l02Window_any n wd gp t sh hs ts hh ht OK hour facing hr0 hr1 (inF_bd h3).1 (inF_bd h3).2 (okB_h hh ht ho hour hr0 hr1).2 (okB_t hh ht ho hour hr0 hr1).1 (okB_t hh ht ho hour hr0 hr1).2 g1 g2 w c1 c2)
  have Hc : Hid (codeBS (okBl n wd gp t sh) (okB hs ts) true = 0) := by rw [hk, ho]; rfl
  have Hi := Lib.hid h2
  have Hf := Lib.hid h3
  have Hh := Lib.hid hh
  have Ht := Lib.hid ht
  have Rb := Lib.hid rb
  clear OK hk ho h2 h3 hh ht rb bw
  go_enter Try.func27, Try.ntmps27
  go_upto_region 1 with (fail)
  refine abs_world (fun W => W.heap[w.heap.size]? = some (.cells (blindC n wd gp t sh) 44 (0, 0)) ∧ W.heap[w.heap.size + 1]? = some (.cells (sunC hs ts) 51 (0, 0)) ∧ Below w.heap.size w W) ⟨heap_alloc2_old _ _ _, heap_alloc2_new _ _ _, ((Below.refl _ _).alloc (Nat.le_refl _) _).alloc (by simp) _⟩ ?_
  rintro W ⟨h0, h1, hb⟩
  generalize w.heap.size + 1 = g2 at *
  have D0 := Lib.hid h0
  have D1 := Lib.hid h1
  clear h0 h1
  go_wp2_with (first | (go_at_call 83; refine (l01Hour_is hour true Hi.out _).mono ?_; rintro e w' ⟨rfl, rfl⟩) | (go_at_call 84; refine (l01Faced_is facing true Hf.out _).mono ?_; rintro e w' ⟨rfl, rfl⟩) | (go_at_call 82; refine (l02With_is n wd gp t sh hs ts Hh.out Ht.out Rb.out T0 T1 N0 N1 w.heap.size g2 _ D0.out D1.out true 0 Hc.out).mono ?_; rintro e w' ⟨rfl, rfl⟩) | (go_at_call 85; refine (HW.out w.heap.size g2 _ D0.out D1.out).mono ?_; rintro e W3 ⟨rfl, hb3⟩))
  go_ret2
  exact ⟨rfl, hb.trans (hb3.mono hb.size)⟩

set_option maxRecDepth 100000 in
set_option maxHeartbeats 1000000 in
theorem specPassWindow_no1 (n : Int) (wd gp : Nat) (t : Int) (sh : Nat) (hs ts : List Int) (hh : hs.length = 24) (ht : ts.length = 24) (rb : ∀ x ∈ hs ++ ts, -32768 ≤ x ∧ x ≤ 32767) (bw : BlWf n wd gp t sh) (hour facing : Int) (h2 : inH hour = false) (hk : ¬ (okBl n wd gp t sh = true ∧ okB hs ts = true ∧ (inH hour && inF facing) = true)) (w : World) :
    Calls Try.prog 27 #[.agg (blindC n wd gp t sh), .agg (sunC hs ts), .int .i64 hour, .int .i64 facing] w fun e w' => e = .returned (.tuple #[.float .f32 (0), .int .i64 (codeBS (okBl n wd gp t sh) (okB hs ts) (inH hour && inF facing))]) ∧ Below w.heap.size w w' := by
  obtain ⟨N0, N1⟩ := blwf_n bw
  have Rb := Lib.hid rb
  clear rb
  obtain ⟨T0, T1⟩ := blwf_t bw
  have e1 : (inH hour && inF facing) = false := by rw [h2]; rfl
  have hne := codeBS_ne hk
  rw [e1] at hne ⊢
  generalize hc : codeBS (okBl n wd gp t sh) (okB hs ts) false = c at *
  have Hc := Lib.hid hc
  have Hi := Lib.hid h2
  have Hh := Lib.hid hh
  have Ht := Lib.hid ht
  have hne' : (c != 0) = true := bne_iff_ne.2 hne
  clear hk h2 hc hne e1 hh ht bw
  go_enter Try.func27, Try.ntmps27
  go_upto_region 1 with (fail)
  refine abs_world (fun W => W.heap[w.heap.size]? = some (.cells (blindC n wd gp t sh) 44 (0, 0)) ∧ W.heap[w.heap.size + 1]? = some (.cells (sunC hs ts) 51 (0, 0)) ∧ Below w.heap.size w W) ⟨heap_alloc2_old _ _ _, heap_alloc2_new _ _ _, ((Below.refl _ _).alloc (Nat.le_refl _) _).alloc (by simp) _⟩ ?_
  rintro W ⟨h0, h1, hb⟩
  generalize w.heap.size + 1 = g2 at *
  have D0 := Lib.hid h0
  have D1 := Lib.hid h1
  clear h0 h1
  go_wp2_with (first | (go_at_call 83; refine (l01Hour_is hour false Hi.out _).mono ?_; rintro e w' ⟨rfl, rfl⟩) | (go_at_call 82; refine (l02With_is n wd gp t sh hs ts Hh.out Ht.out Rb.out T0 T1 N0 N1 w.heap.size g2 _ D0.out D1.out false c Hc.out).mono ?_; rintro e w' ⟨rfl, rfl⟩))
  go_ret2
  exact ⟨rfl, hb⟩

set_option maxRecDepth 100000 in
set_option maxHeartbeats 1000000 in
theorem specPassWindow_no2 (n : Int) (wd gp : Nat) (t : Int) (sh : Nat) (hs ts : List Int) (hh : hs.length = 24) (ht : ts.length = 24) (rb : ∀ x ∈ hs ++ ts, -32768 ≤ x ∧ x ≤ 32767) (bw : BlWf n wd gp t sh) (hour facing : Int) (h2 : inH hour = true) (hk : ¬ (okBl n wd gp t sh = true ∧ okB hs ts = true ∧ (inH hour && inF facing) = true)) (w : World) :
    Calls Try.prog 27 #[.agg (blindC n wd gp t sh), .agg (sunC hs ts), .int .i64 hour, .int .i64 facing] w fun e w' => e = .returned (.tuple #[.float .f32 (0), .int .i64 (codeBS (okBl n wd gp t sh) (okB hs ts) (inH hour && inF facing))]) ∧ Below w.heap.size w w' := by
  obtain ⟨N0, N1⟩ := blwf_n bw
  have Rb := Lib.hid rb
  clear rb
  obtain ⟨T0, T1⟩ := blwf_t bw
  have e1 : (inH hour && inF facing) = inF facing := by rw [h2]; rfl
  have hne := codeBS_ne hk
  rw [e1] at hne ⊢
  generalize hp : inF facing = p at *
  generalize hc : codeBS (okBl n wd gp t sh) (okB hs ts) p = c at *
  have Hc := Lib.hid hc
  have Hi := Lib.hid h2
  have Hf := Lib.hid hp
  have Hh := Lib.hid hh
  have Ht := Lib.hid ht
  have hne' : (c != 0) = true := bne_iff_ne.2 hne
  clear hk h2 hc hne e1 hh ht hp bw
  go_enter Try.func27, Try.ntmps27
  go_upto_region 1 with (fail)
  refine abs_world (fun W => W.heap[w.heap.size]? = some (.cells (blindC n wd gp t sh) 44 (0, 0)) ∧ W.heap[w.heap.size + 1]? = some (.cells (sunC hs ts) 51 (0, 0)) ∧ Below w.heap.size w W) ⟨heap_alloc2_old _ _ _, heap_alloc2_new _ _ _, ((Below.refl _ _).alloc (Nat.le_refl _) _).alloc (by simp) _⟩ ?_
  rintro W ⟨h0, h1, hb⟩
  generalize w.heap.size + 1 = g2 at *
  have D0 := Lib.hid h0
  have D1 := Lib.hid h1
  clear h0 h1
  go_wp2_with (first | (go_at_call 83; refine (l01Hour_is hour true Hi.out _).mono ?_; rintro e w' ⟨rfl, rfl⟩) | (go_at_call 84; refine (l01Faced_is facing p Hf.out _).mono ?_; rintro e w' ⟨rfl, rfl⟩) | (go_at_call 82; refine (l02With_is n wd gp t sh hs ts Hh.out Ht.out Rb.out T0 T1 N0 N1 w.heap.size g2 _ D0.out D1.out p c Hc.out).mono ?_; rintro e w' ⟨rfl, rfl⟩))
  go_ret2
  exact ⟨rfl, hb⟩

set_option maxRecDepth 100000 in
set_option maxHeartbeats 1000000 in
theorem FnExactPassWindow_core (n : Int) (wd gp : Nat) (t : Int) (sh : Nat) (hs ts : List Int) (hh : hs.length = 24) (ht : ts.length = 24) (hour facing : Int) (v : Nat) (c : Int) (hv : fin32 v = true)
    (hspec : ∀ w, Calls Try.prog 27 #[.agg (blindC n wd gp t sh), .agg (sunC hs ts), .int .i64 hour, .int .i64 facing] w fun e w' => e = .returned (.tuple #[.float .f32 v, .int .i64 c]) ∧ Below w.heap.size w w')
    (himpl : ∀ w, Calls Try.prog 29 #[.agg (blindC n wd gp t sh), .agg (sunC hs ts), .int .i64 hour, .int .i64 facing] w fun e w' => e = .returned (.tuple #[.float .f32 v, .int .i64 c]) ∧ Below w.heap.size w w') (w : World) :
    Calls Try.prog 8 #[.agg (blindC n wd gp t sh), .agg (sunC hs ts), .int .i64 hour, .int .i64 facing] w fun e w' => e = .returned (.bool true) ∧ Below w.heap.size w w' := by
  have Hh := Lib.hid hh
  have Ht := Lib.hid ht
  have HS := Lib.hid hspec
  have HI := Lib.hid himpl
  clear hh ht hspec himpl
  have hw0 := run_wide _ hv
  have Hv0 := Lib.hid hv
  clear hv
  go_enter Try.func8, Try.ntmps8
  go_upto_region 1 with (fail)
  refine abs_world (fun W => W.heap[w.heap.size]? = some (.cells (blindC n wd gp t sh) 42 (0, 0)) ∧ W.heap[w.heap.size + 1]? = some (.cells (sunC hs ts) 49 (0, 0)) ∧ Below w.heap.size w W) ⟨heap_alloc2_old _ _ _, heap_alloc2_new _ _ _, ((Below.refl _ _).alloc (Nat.le_refl _) _).alloc (by simp) _⟩ ?_
  rintro W ⟨d0, d1, hb⟩
  generalize w.heap.size + 1 = g2 at *
  refine wp_region_held_drew (S := (fun W => W.heap[w.heap.size]? = some (.cells (blindC n wd gp t sh) 42 (0, 0)) ∧ W.heap[g2]? = some (.cells (sunC hs ts) 49 (0, 0)) ∧ Below w.heap.size w W)) (by kernel_rfl) ⟨d0, d1, hb.drew⟩ (fun hHeld => ?_)
  refine take_op (i := 0) (d := 14) (v := .agg (blindC n wd gp t sh)) rfl rfl (by kernel_rfl) (by kernel_rfl) (by kernel_rfl) (fun _ _ _ h => h) (yields_row (by rfl) 42 (.tmp 4) (by rfl) w.heap.size 0 5 (by rfl) 42 (blindC n wd gp t sh) (0, 0) _ (fun _ h => h.1) Try.underlying42 rfl info_blindL (blind_fits _ _ _ _ _) (blindC n wd gp t sh) (blind_all _ _ _ _ _)) hHeld ?_
  simp only [List.setIfInBounds_toArray, List.set_cons_zero, List.set_cons_succ]
  refine take_op (i := 2) (d := 16) (v := .agg (sunC hs ts)) rfl rfl (by kernel_rfl) (by kernel_rfl) (by kernel_rfl) (fun _ _ _ h => h) (yields_row (by rfl) 49 (.tmp 5) (by rfl) g2 0 48 (by rfl) 49 (sunC hs ts) (0, 0) _ (fun _ h => h.2.1) Try.underlying49 rfl info_sunL (sun_fits _ _ Hh.out Ht.out) (sunC hs ts) (sun_all _ _ Hh.out Ht.out)) hHeld ?_
  simp only [List.setIfInBounds_toArray, List.set_cons_zero, List.set_cons_succ]
  refine take_op (i := 4) (d := 18) (v := ?_) rfl rfl (by kernel_rfl) (by kernel_rfl) (by kernel_rfl) (fun _ _ _ h => h) (Or.inl ⟨by rfl, ?hy4u42⟩) hHeld ?rest4u42
  case hy4u42 =>
    intro w' hS'
    go_simp
    try with_reducible rfl
  simp only [List.setIfInBounds_toArray, List.set_cons_zero, List.set_cons_succ]
  refine take_op (i := 5) (d := 19) (v := ?_) rfl rfl (by kernel_rfl) (by kernel_rfl) (by kernel_rfl) (fun _ _ _ h => h) (Or.inl ⟨by rfl, ?hy5u43⟩) hHeld ?rest5u43
  case hy5u43 =>
    intro w' hS'
    go_simp
    try with_reducible rfl
  simp only [List.setIfInBounds_toArray, List.set_cons_zero, List.set_cons_succ]
  refine wpAnyH_ready (rs := [1]) (by kernel_rfl) (by simp) ?_
  refine AllReadyH.cons rfl (fun K hK => ?_) AllReadyH.nil
  go_simp
  refine (toBlind_any _ _ _ _ _ _).mono ?_
  rintro e W1 ⟨rfl, hb1⟩
  refine hK.out _ _ (⟨below_row hb1 hHeld.1, below_row hb1 hHeld.2.1, hHeld.2.2.trans (hb1.mono hHeld.2.2.size)⟩) (fun hHeld2 => ?_)
  clear hK K
  replace hHeld := hHeld2
  clear hHeld2
  refine wpAnyH_ready (rs := [3]) (by kernel_rfl) (by simp) ?_
  refine AllReadyH.cons rfl (fun K hK => ?_) AllReadyH.nil
  go_simp
  refine (toSun_any hs ts Hh.out Ht.out _).mono ?_
  rintro e W1 ⟨rfl, hb1⟩
  refine hK.out _ _ (⟨below_row hb1 hHeld.1, below_row hb1 hHeld.2.1, hHeld.2.2.trans (hb1.mono hHeld.2.2.size)⟩) (fun hHeld2 => ?_)
  clear hK K
  replace hHeld := hHeld2
  clear hHeld2
  refine wpAnyH_ready (rs := [6]) (by kernel_rfl) (by simp) ?_
  refine AllReadyH.cons rfl (fun K hK => ?_) AllReadyH.nil
  go_simp
  refine (HS.out _).mono ?_
  rintro e W1 ⟨rfl, hb1⟩
  refine hK.out _ _ (⟨below_row hb1 hHeld.1, below_row hb1 hHeld.2.1, hHeld.2.2.trans (hb1.mono hHeld.2.2.size)⟩) (fun hHeld2 => ?_)
  clear hK K
  replace hHeld := hHeld2
  clear hHeld2
  refine take_op (i := 7) (d := 13) (v := ?_) rfl rfl (by kernel_rfl) (by kernel_rfl) (by kernel_rfl) (fun _ _ _ h => h) (Or.inl ⟨by rfl, ?hy7u44⟩) hHeld ?rest7u44
  case hy7u44 =>
    intro w' hS'
    go_simp
    try with_reducible rfl
  simp only [List.setIfInBounds_toArray, List.set_cons_zero, List.set_cons_succ]
  refine take_op (i := 8) (d := 21) (v := ?_) rfl rfl (by kernel_rfl) (by kernel_rfl) (by kernel_rfl) (fun _ _ _ h => h) (Or.inl ⟨by rfl, ?hy8u45⟩) hHeld ?rest8u45
  case hy8u45 =>
    intro w' hS'
    go_simp
    try with_reducible rfl
  simp only [List.setIfInBounds_toArray, List.set_cons_zero, List.set_cons_succ]
  refine take_op (i := 9) (d := 22) (v := ?_) rfl rfl (by kernel_rfl) (by kernel_rfl) (by kernel_rfl) (fun _ _ _ h => h) (Or.inl ⟨by rfl, ?hy9u46⟩) hHeld ?rest9u46
  case hy9u46 =>
    intro w' hS'
    go_simp
    try with_reducible rfl
  simp only [List.setIfInBounds_toArray, List.set_cons_zero, List.set_cons_succ]
  refine take_op (i := 10) (d := 9) (v := ?_) rfl rfl (by kernel_rfl) (by kernel_rfl) (by kernel_rfl) (fun _ _ _ h => h) (Or.inl ⟨by rfl, ?hy10u47⟩) hHeld ?rest10u47
  case hy10u47 =>
    intro w' hS'
    go_simp
    try with_reducible rfl
  simp only [List.setIfInBounds_toArray, List.set_cons_zero, List.set_cons_succ]
  refine take_op (i := 11) (d := 10) (v := ?_) rfl rfl (by kernel_rfl) (by kernel_rfl) (by kernel_rfl) (fun _ _ _ h => h) (Or.inl ⟨by rfl, ?hy11u48⟩) hHeld ?rest11u48
  case hy11u48 =>
    intro w' hS'
    go_simp
    try with_reducible rfl
  simp only [List.setIfInBounds_toArray, List.set_cons_zero, List.set_cons_succ]
  refine wpAnyH_done (by kernel_rfl) ?_ _
  obtain ⟨d0, d1, hb⟩ := hHeld
  go_upto_region 2 with (fail)
  refine wp_region_held_drew (S := (fun W => W.heap[w.heap.size]? = some (.cells (blindC n wd gp t sh) 42 (0, 0)) ∧ W.heap[g2]? = some (.cells (sunC hs ts) 49 (0, 0)) ∧ Below w.heap.size w W)) (by kernel_rfl) ⟨d0, d1, hb.drew⟩ (fun hHeld => ?_)
  refine take_op (i := 0) (d := 24) (v := .agg (blindC n wd gp t sh)) rfl rfl (by kernel_rfl) (by kernel_rfl) (by kernel_rfl) (fun _ _ _ h => h) (yields_row (by rfl) 42 (.tmp 4) (by rfl) w.heap.size 0 5 (by rfl) 42 (blindC n wd gp t sh) (0, 0) _ (fun _ h => h.1) Try.underlying42 rfl info_blindL (blind_fits _ _ _ _ _) (blindC n wd gp t sh) (blind_all _ _ _ _ _)) hHeld ?_
  simp only [List.setIfInBounds_toArray, List.set_cons_zero, List.set_cons_succ]
  refine take_op (i := 2) (d := 26) (v := .agg (sunC hs ts)) rfl rfl (by kernel_rfl) (by kernel_rfl) (by kernel_rfl) (fun _ _ _ h => h) (yields_row (by rfl) 49 (.tmp 5) (by rfl) g2 0 48 (by rfl) 49 (sunC hs ts) (0, 0) _ (fun _ h => h.2.1) Try.underlying49 rfl info_sunL (sun_fits _ _ Hh.out Ht.out) (sunC hs ts) (sun_all _ _ Hh.out Ht.out)) hHeld ?_
  simp only [List.setIfInBounds_toArray, List.set_cons_zero, List.set_cons_succ]
  refine take_op (i := 4) (d := 28) (v := ?_) rfl rfl (by kernel_rfl) (by kernel_rfl) (by kernel_rfl) (fun _ _ _ h => h) (Or.inl ⟨by rfl, ?hy4u49⟩) hHeld ?rest4u49
  case hy4u49 =>
    intro w' hS'
    go_simp
    try with_reducible rfl
  simp only [List.setIfInBounds_toArray, List.set_cons_zero, List.set_cons_succ]
  refine take_op (i := 5) (d := 29) (v := ?_) rfl rfl (by kernel_rfl) (by kernel_rfl) (by kernel_rfl) (fun _ _ _ h => h) (Or.inl ⟨by rfl, ?hy5u50⟩) hHeld ?rest5u50
  case hy5u50 =>
    intro w' hS'
    go_simp
    try with_reducible rfl
  simp only [List.setIfInBounds_toArray, List.set_cons_zero, List.set_cons_succ]
  refine wpAnyH_ready (rs := [1]) (by kernel_rfl) (by simp) ?_
  refine AllReadyH.cons rfl (fun K hK => ?_) AllReadyH.nil
  go_simp
  refine (toBlind_any _ _ _ _ _ _).mono ?_
  rintro e W1 ⟨rfl, hb1⟩
  refine hK.out _ _ (⟨below_row hb1 hHeld.1, below_row hb1 hHeld.2.1, hHeld.2.2.trans (hb1.mono hHeld.2.2.size)⟩) (fun hHeld2 => ?_)
  clear hK K
  replace hHeld := hHeld2
  clear hHeld2
  refine wpAnyH_ready (rs := [3]) (by kernel_rfl) (by simp) ?_
  refine AllReadyH.cons rfl (fun K hK => ?_) AllReadyH.nil
  go_simp
  refine (toSun_any hs ts Hh.out Ht.out _).mono ?_
  rintro e W1 ⟨rfl, hb1⟩
  refine hK.out _ _ (⟨below_row hb1 hHeld.1, below_row hb1 hHeld.2.1, hHeld.2.2.trans (hb1.mono hHeld.2.2.size)⟩) (fun hHeld2 => ?_)
  clear hK K
  replace hHeld := hHeld2
  clear hHeld2
  refine wpAnyH_ready (rs := [6]) (by kernel_rfl) (by simp) ?_
  refine AllReadyH.cons rfl (fun K hK => ?_) AllReadyH.nil
  go_simp
  refine (HI.out _).mono ?_
  rintro e W1 ⟨rfl, hb1⟩
  refine hK.out _ _ (⟨below_row hb1 hHeld.1, below_row hb1 hHeld.2.1, hHeld.2.2.trans (hb1.mono hHeld.2.2.size)⟩) (fun hHeld2 => ?_)
  clear hK K
  replace hHeld := hHeld2
  clear hHeld2
  refine take_op (i := 7) (d := 23) (v := ?_) rfl rfl (by kernel_rfl) (by kernel_rfl) (by kernel_rfl) (fun _ _ _ h => h) (Or.inl ⟨by rfl, ?hy7u51⟩) hHeld ?rest7u51
  case hy7u51 =>
    intro w' hS'
    go_simp
    try with_reducible rfl
  simp only [List.setIfInBounds_toArray, List.set_cons_zero, List.set_cons_succ]
  refine take_op (i := 8) (d := 31) (v := ?_) rfl rfl (by kernel_rfl) (by kernel_rfl) (by kernel_rfl) (fun _ _ _ h => h) (Or.inl ⟨by rfl, ?hy8u52⟩) hHeld ?rest8u52
  case hy8u52 =>
    intro w' hS'
    go_simp
    try with_reducible rfl
  simp only [List.setIfInBounds_toArray, List.set_cons_zero, List.set_cons_succ]
  refine take_op (i := 9) (d := 32) (v := ?_) rfl rfl (by kernel_rfl) (by kernel_rfl) (by kernel_rfl) (fun _ _ _ h => h) (Or.inl ⟨by rfl, ?hy9u53⟩) hHeld ?rest9u53
  case hy9u53 =>
    intro w' hS'
    go_simp
    try with_reducible rfl
  simp only [List.setIfInBounds_toArray, List.set_cons_zero, List.set_cons_succ]
  refine take_op (i := 10) (d := 11) (v := ?_) rfl rfl (by kernel_rfl) (by kernel_rfl) (by kernel_rfl) (fun _ _ _ h => h) (Or.inl ⟨by rfl, ?hy10u54⟩) hHeld ?rest10u54
  case hy10u54 =>
    intro w' hS'
    go_simp
    try with_reducible rfl
  simp only [List.setIfInBounds_toArray, List.set_cons_zero, List.set_cons_succ]
  refine take_op (i := 11) (d := 12) (v := ?_) rfl rfl (by kernel_rfl) (by kernel_rfl) (by kernel_rfl) (fun _ _ _ h => h) (Or.inl ⟨by rfl, ?hy11u55⟩) hHeld ?rest11u55
  case hy11u55 =>
    intro w' hS'
    go_simp
    try with_reducible rfl
  simp only [List.setIfInBounds_toArray, List.set_cons_zero, List.set_cons_succ]
  refine wpAnyH_done (by kernel_rfl) ?_ _
  have hb := hHeld.2.2
  clear hHeld d0 d1
  go_wp2_with (go_at_call 19; refine (same_wide _ Hv0.out _).mono ?_; rintro e w1 ⟨rfl, rfl⟩)
  go_ret
  exact ⟨rfl, hb⟩

theorem pos_fin' {x : Nat} (h : pos32 x = true) : fin32 x = true := pos_fin h
theorem lawPassWindow_walk (n : Int) (wd gp : Nat) (t : Int) (sh : Nat) (bw : BlWf n wd gp t sh) (hs ts : List Int) (hh : hs.length = 24) (ht : ts.length = 24) (rb : ∀ x ∈ hs ++ ts, -32768 ≤ x ∧ x ≤ 32767) (hour facing : Int) (w : World) :
    Calls Try.prog 8 #[.agg (blindC n wd gp t sh), .agg (sunC hs ts), .int .i64 hour, .int .i64 facing] w fun e w' => e = .returned (.bool true) ∧ Below w.heap.size w w' := by
  by_cases hk : okBl n wd gp t sh = true ∧ okB hs ts = true ∧ (inH hour && inF facing) = true
  · have h2 := (Bool.and_eq_true _ _).mp hk.2.2
    obtain ⟨hr0, hr1⟩ := inH_bd h2.1
    exact FnExactPassWindow_core n wd gp t sh hs ts hh ht hour facing _ _ (pos_fin (winB_pos wd gp t (blok_of bw hk.1).2.2.2.2.2.2.2.2 hs ts hour facing (okB_h hh ht hk.2.1 hour hr0 hr1).2)) (fun w => specPassWindow_yes n wd gp t sh hs ts hh ht rb bw hour facing hk.1 hk.2.1 h2.1 h2.2 w) (fun w => implPassWindow_yes n wd gp t sh hs ts hh ht bw hour facing hk.1 hk.2.1 h2.1 h2.2 w) w
  · cases h2 : inH hour with
    | false => exact FnExactPassWindow_core n wd gp t sh hs ts hh ht hour facing _ _ zero_fin (fun w => specPassWindow_no1 n wd gp t sh hs ts hh ht rb bw hour facing h2 hk w) (fun w => implPassWindow_no1 n wd gp t sh hs ts hh ht bw hour facing h2 hk w) w
    | true => exact FnExactPassWindow_core n wd gp t sh hs ts hh ht hour facing _ _ zero_fin (fun w => specPassWindow_no2 n wd gp t sh hs ts hh ht rb bw hour facing h2 hk w) (fun w => implPassWindow_no2 n wd gp t sh hs ts hh ht bw hour facing h2 hk w) w

set_option maxRecDepth 100000 in
theorem FnExactPassWindow_holds : Rows.FnExactPassWindowSaid :=
  OpenClaim.holds_of_wide 8 Try.f8 rfl rfl rfl rfl rfl rfl rfl ⟨rfl, rfl, rfl, rfl, rfl⟩ rfl rfl rfl rfl rfl (by kernel_rfl) Try.func8 (by kernel_rfl)
    (of_decide_eq_true (by kernel_rfl)) (by unfold Func.isWrapper; first | (rw [if_pos (by decide +kernel)]; kernel_rfl) | (rw [if_neg (by decide +kernel)]; exact ⟨rfl, rfl⟩))
    (fun os started H enc _ => law_lifted 8 Try.f8 Rows.fnExactPassWindowSpec Rows.fnExactPassWindowRow.domain os started H enc (by kernel_rfl) Try.func8 rfl rfl
      (by rw [Try.params8]; intro t ht; simp only [List.mem_cons, List.not_mem_nil, or_false] at ht; rcases ht with rfl | rfl | rfl | rfl <;> exact ⟨by kernel_rfl, of_decide_eq_true (by kernel_rfl)⟩)
      (fun ds hl => by
        match ds, hl with
        | [d0, d1, d2, d3], _ => rfl)
      (ChangeSpec.witness6 (enc := enc) (C := Try.checked) false ⟨#[], #[.agg #[.int .i8 0, .float .f32 0, .float .f32 0, .int .i16 0, .float .f32 0], .agg #[.int .i16 0, .int .i16 0, .int .i16 0, .int .i16 0, .int .i16 0, .int .i16 0, .int .i16 0, .int .i16 0, .int .i16 0, .int .i16 0, .int .i16 0, .int .i16 0, .int .i16 0, .int .i16 0, .int .i16 0, .int .i16 0, .int .i16 0, .int .i16 0, .int .i16 0, .int .i16 0, .int .i16 0, .int .i16 0, .int .i16 0, .int .i16 0, .int .i16 0, .int .i16 0, .int .i16 0, .int .i16 0, .int .i16 0, .int .i16 0, .int .i16 0, .int .i16 0, .int .i16 0, .int .i16 0, .int .i16 0, .int .i16 0, .int .i16 0, .int .i16 0, .int .i16 0, .int .i16 0, .int .i16 0, .int .i16 0, .int .i16 0, .int .i16 0, .int .i16 0, .int .i16 0, .int .i16 0, .int .i16 0], .int .i64 0, .int .i64 0], []⟩ 8 (by kernel_rfl) (by kernel_rfl) (by kernel_rfl) (by kernel_rfl))
      (fun W base args ds p hval hA => by
        rw [Try.params8] at hA hval
        obtain ⟨v0, vs0, d0, ds0, p0, q0, hargs, rfl, rfl, h0, r0⟩ := trodAll_cons hA
        obtain ⟨v1, vs1, d1, ds1, p1, q1, rfl, rfl, rfl, h1, r1⟩ := trodAll_cons r0
        obtain ⟨v2, vs2, d2, ds2, p2, q2, rfl, rfl, rfl, h2, r2⟩ := trodAll_cons r1
        obtain ⟨v3, vs3, d3, ds3, p3, q3, rfl, rfl, rfl, h3, r3⟩ := trodAll_cons r2
        obtain ⟨rfl, rfl, rfl⟩ := trodAll_nil r3
        obtain rfl : args = #[v0, v1, v2, v3] := by cases args; simp_all
        obtain ⟨n0, wd0, gp0, t0, sh0, bw0, rfl⟩ := open_blind (hval 0 42 v0 rfl rfl) h0
        obtain ⟨hs1, ts1, hh1, ht1, rb1, rfl⟩ := open_sun (hval 1 49 v1 rfl rfl) h1
        obtain ⟨a2, rfl, rfl, rfl, w2⟩ := open_int Try.underlying2 (hval 2 2 v2 rfl rfl) h2
        obtain ⟨a3, rfl, rfl, rfl, w3⟩ := open_int Try.underlying2 (hval 3 2 v3 rfl rfl) h3
        exact lawPassWindow_walk n0 wd0 gp0 t0 sh0 bw0 hs1 ts1 hh1 ht1 rb1 a2 a3 W))
#print axioms FnExactPassWindow_holds

end Go.Proofs.Yteagbfobnjfhcab
