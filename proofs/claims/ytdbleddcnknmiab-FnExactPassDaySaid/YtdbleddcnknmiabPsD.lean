/-
  For every blind and every sun, valid or not, and every facing: the light that passes into a window on a day is what the model says. No conditions.
-/
import Derived.Test.YtdbleddcnknmiabWoD
namespace Go.Proofs.Ytdbleddcnknmiab
open Go.ChangeShapes Go.WideShapes Go.ChangeAt Go.RowKit

set_option maxRecDepth 100000 in
set_option maxHeartbeats 1000000 in
theorem implPassDay_no (n : Int) (wd gp : Nat) (t : Int) (sh : Nat) (hs ts : List Int) (hh : hs.length = 24) (ht : ts.length = 24) (bw : BlWf n wd gp t sh) (facing : Int) (hk : ¬ (okBl n wd gp t sh = true ∧ okB hs ts = true ∧ inF facing = true)) (w : World) :
    Calls Try.prog 11 #[.agg (blindC n wd gp t sh), .agg (sunC hs ts), .int .i64 facing] w fun e w' => e = .returned (.tuple #[.float .f32 (0), .int .i64 (codeBS (okBl n wd gp t sh) (okB hs ts) (inF facing))]) ∧ Below w.heap.size w w' := by
  obtain ⟨T0, T1⟩ := blwf_t bw
  have hne := codeBS_ne hk
  generalize hp : inF facing = p at *
  generalize hc : codeBS (okBl n wd gp t sh) (okB hs ts) p = c at *
  have Hc := Lib.hid hc
  have Hf := Lib.hid hp
  have Hh := Lib.hid hh
  have Ht := Lib.hid ht
  have hne' : (c != 0) = true := bne_iff_ne.2 hne
  clear hk hc hne hh ht hp bw
  go_enter Try.func11, Try.ntmps11
  go_upto_region 1 with (fail)
  refine abs_world (fun W => W.heap[w.heap.size]? = some (.cells (blindC n wd gp t sh) 32 (0, 0)) ∧ W.heap[w.heap.size + 1]? = some (.cells (sunC hs ts) 34 (0, 0)) ∧ Below w.heap.size w W) ⟨heap_alloc2_old _ _ _, heap_alloc2_new _ _ _, ((Below.refl _ _).alloc (Nat.le_refl _) _).alloc (by simp) _⟩ ?_
  rintro W ⟨h0, h1, hb⟩
  generalize w.heap.size + 1 = g2 at *
  refine wp_region_held_drew (S := (fun W => W.heap[w.heap.size]? = some (.cells (blindC n wd gp t sh) 32 (0, 0)) ∧ W.heap[g2]? = some (.cells (sunC hs ts) 34 (0, 0)) ∧ Below w.heap.size w W)) (by kernel_rfl) ⟨h0, h1, hb.drew⟩ (fun hHeld => ?_)
  refine take_op (i := 0) (d := 9) (v := .agg (blindC n wd gp t sh)) rfl rfl (by kernel_rfl) (by kernel_rfl) (by kernel_rfl) (fun _ _ _ h => h) (yields_row (by rfl) 32 (.tmp 3) (by rfl) w.heap.size 0 5 (by rfl) 32 (blindC n wd gp t sh) (0, 0) _ (fun _ h => h.1) Try.underlying32 rfl info_blind (blind_fits _ _ _ _ _) (blindC n wd gp t sh) (blind_all _ _ _ _ _)) hHeld ?_
  simp only [List.setIfInBounds_toArray, List.set_cons_zero, List.set_cons_succ]
  refine take_op (i := 1) (d := 10) (v := .agg (sunC hs ts)) rfl rfl (by kernel_rfl) (by kernel_rfl) (by kernel_rfl) (fun _ _ _ h => h) (yields_row (by rfl) 34 (.tmp 4) (by rfl) g2 0 48 (by rfl) 34 (sunC hs ts) (0, 0) _ (fun _ h => h.2.1) Try.underlying34 rfl info_sun (sun_fits _ _ Hh.out Ht.out) (sunC hs ts) (sun_all _ _ Hh.out Ht.out)) hHeld ?_
  simp only [List.setIfInBounds_toArray, List.set_cons_zero, List.set_cons_succ]
  refine take_op (i := 2) (d := 11) (v := ?_) rfl rfl (by kernel_rfl) (by kernel_rfl) (by kernel_rfl) (fun _ _ _ h => h) (Or.inl ⟨by rfl, ?hy2u19⟩) hHeld ?rest2u19
  case hy2u19 =>
    intro w' hS'
    go_simp
    try with_reducible rfl
  simp only [List.setIfInBounds_toArray, List.set_cons_zero, List.set_cons_succ]
  refine wpAnyH_ready (rs := [3]) (by kernel_rfl) (by simp) ?_
  refine AllReadyH.cons rfl (fun K hK => ?_) AllReadyH.nil
  go_simp
  refine (isFacing_is facing p Hf.out _).mono ?_
  rintro e w' ⟨rfl, rfl⟩
  refine hK.out _ _ (hHeld) (fun hHeld2 => ?_)
  clear hK K
  replace hHeld := hHeld2
  clear hHeld2
  refine wpAnyH_ready (rs := [4]) (by kernel_rfl) (by simp) ?_
  refine AllReadyH.cons rfl (fun K hK => ?_) AllReadyH.nil
  go_simp
  refine (checkBS_is n wd gp t sh hs ts Hh.out Ht.out T0 T1 p c Hc.out _).mono ?_
  rintro e W1 ⟨rfl, hb1⟩
  refine hK.out _ _ (⟨below_row hb1 hHeld.1, below_row hb1 hHeld.2.1, hHeld.2.2.trans (hb1.mono hHeld.2.2.size)⟩) (fun hHeld2 => ?_)
  clear hK K
  replace hHeld := hHeld2
  clear hHeld2
  refine take_op (i := 5) (d := 8) (v := ?_) rfl rfl (by kernel_rfl) (by kernel_rfl) (by kernel_rfl) (fun _ _ _ h => h) (Or.inl ⟨by rfl, ?hy5u20⟩) hHeld ?rest5u20
  case hy5u20 =>
    intro w' hS'
    go_simp
    try with_reducible rfl
  simp only [List.setIfInBounds_toArray, List.set_cons_zero, List.set_cons_succ]
  refine wpAnyH_done (by kernel_rfl) ?_ _
  have hbx := hHeld.2.2
  clear hHeld h0 h1 hb
  go_wp2
  go_ret2
  exact ⟨rfl, hbx⟩

set_option maxRecDepth 100000 in
set_option maxHeartbeats 2000000 in
theorem implPassDay_yes (n : Int) (wd gp : Nat) (t : Int) (sh : Nat) (hs ts : List Int) (hh : hs.length = 24) (ht : ts.length = 24) (bw : BlWf n wd gp t sh) (facing : Int) (hk : okBl n wd gp t sh = true) (ho : okB hs ts = true) (h3 : inF facing = true) (w : World) :
    Calls Try.prog 11 #[.agg (blindC n wd gp t sh), .agg (sunC hs ts), .int .i64 facing] w fun e w' => e = .returned (.tuple #[.float .f32 (sumTo (fun h => winB wd gp t sh hs ts (h : Int) facing) 24), .int .i64 0]) ∧ Below w.heap.size w w' := by
  obtain ⟨T0, T1⟩ := blwf_t bw
  have OK := blok_of bw hk
  have HP := Lib.hid (fun w => passer_any n wd gp t sh OK w)
  have HO := Lib.hid (fun p1 p2 W c1 c2 => windowOver_is n wd gp t sh hs ts hh ht OK facing ho h3 p1 p2 W c1 c2)
  have Hc : Hid (codeBS (okBl n wd gp t sh) (okB hs ts) true = 0) := by rw [hk, ho]; rfl
  have Hf := Lib.hid h3
  have Hh := Lib.hid hh
  have Ht := Lib.hid ht
  generalize sumTo (fun h => winB wd gp t sh hs ts (h : Int) facing) 24 = D at *
  clear OK hk ho h3 hh ht bw
  go_enter Try.func11, Try.ntmps11
  go_upto_region 1 with (fail)
  refine abs_world (fun W => W.heap[w.heap.size]? = some (.cells (blindC n wd gp t sh) 32 (0, 0)) ∧ W.heap[w.heap.size + 1]? = some (.cells (sunC hs ts) 34 (0, 0)) ∧ Below w.heap.size w W) ⟨heap_alloc2_old _ _ _, heap_alloc2_new _ _ _, ((Below.refl _ _).alloc (Nat.le_refl _) _).alloc (by simp) _⟩ ?_
  rintro W ⟨h0, h1, hb⟩
  generalize w.heap.size + 1 = g2 at *
  refine wp_region_held_drew (S := (fun W => W.heap[w.heap.size]? = some (.cells (blindC n wd gp t sh) 32 (0, 0)) ∧ W.heap[g2]? = some (.cells (sunC hs ts) 34 (0, 0)) ∧ Below w.heap.size w W)) (by kernel_rfl) ⟨h0, h1, hb.drew⟩ (fun hHeld => ?_)
  refine take_op (i := 0) (d := 9) (v := .agg (blindC n wd gp t sh)) rfl rfl (by kernel_rfl) (by kernel_rfl) (by kernel_rfl) (fun _ _ _ h => h) (yields_row (by rfl) 32 (.tmp 3) (by rfl) w.heap.size 0 5 (by rfl) 32 (blindC n wd gp t sh) (0, 0) _ (fun _ h => h.1) Try.underlying32 rfl info_blind (blind_fits _ _ _ _ _) (blindC n wd gp t sh) (blind_all _ _ _ _ _)) hHeld ?_
  simp only [List.setIfInBounds_toArray, List.set_cons_zero, List.set_cons_succ]
  refine take_op (i := 1) (d := 10) (v := .agg (sunC hs ts)) rfl rfl (by kernel_rfl) (by kernel_rfl) (by kernel_rfl) (fun _ _ _ h => h) (yields_row (by rfl) 34 (.tmp 4) (by rfl) g2 0 48 (by rfl) 34 (sunC hs ts) (0, 0) _ (fun _ h => h.2.1) Try.underlying34 rfl info_sun (sun_fits _ _ Hh.out Ht.out) (sunC hs ts) (sun_all _ _ Hh.out Ht.out)) hHeld ?_
  simp only [List.setIfInBounds_toArray, List.set_cons_zero, List.set_cons_succ]
  refine take_op (i := 2) (d := 11) (v := ?_) rfl rfl (by kernel_rfl) (by kernel_rfl) (by kernel_rfl) (fun _ _ _ h => h) (Or.inl ⟨by rfl, ?hy2u24⟩) hHeld ?rest2u24
  case hy2u24 =>
    intro w' hS'
    go_simp
    try with_reducible rfl
  simp only [List.setIfInBounds_toArray, List.set_cons_zero, List.set_cons_succ]
  refine wpAnyH_ready (rs := [3]) (by kernel_rfl) (by simp) ?_
  refine AllReadyH.cons rfl (fun K hK => ?_) AllReadyH.nil
  go_simp
  refine (isFacing_is facing true Hf.out _).mono ?_
  rintro e w' ⟨rfl, rfl⟩
  refine hK.out _ _ (hHeld) (fun hHeld2 => ?_)
  clear hK K
  replace hHeld := hHeld2
  clear hHeld2
  refine wpAnyH_ready (rs := [4]) (by kernel_rfl) (by simp) ?_
  refine AllReadyH.cons rfl (fun K hK => ?_) AllReadyH.nil
  go_simp
  refine (checkBS_is n wd gp t sh hs ts Hh.out Ht.out T0 T1 true 0 Hc.out _).mono ?_
  rintro e W1 ⟨rfl, hb1⟩
  refine hK.out _ _ (⟨below_row hb1 hHeld.1, below_row hb1 hHeld.2.1, hHeld.2.2.trans (hb1.mono hHeld.2.2.size)⟩) (fun hHeld2 => ?_)
  clear hK K
  replace hHeld := hHeld2
  clear hHeld2
  refine take_op (i := 5) (d := 8) (v := ?_) rfl rfl (by kernel_rfl) (by kernel_rfl) (by kernel_rfl) (fun _ _ _ h => h) (Or.inl ⟨by rfl, ?hy5u25⟩) hHeld ?rest5u25
  case hy5u25 =>
    intro w' hS'
    go_simp
    try with_reducible rfl
  simp only [List.setIfInBounds_toArray, List.set_cons_zero, List.set_cons_succ]
  refine wpAnyH_done (by kernel_rfl) ?_ _
  clear h0 h1 hb
  obtain ⟨h0, h1, hb⟩ := hHeld
  go_upto_region 4 with (fail)
  refine wp_region_held_drew (S := (fun W => W.heap[w.heap.size]? = some (.cells (blindC n wd gp t sh) 32 (0, 0)) ∧ W.heap[g2]? = some (.cells (sunC hs ts) 34 (0, 0)) ∧ Below w.heap.size w W)) (by kernel_rfl) ⟨h0, h1, hb.drew⟩ (fun hHeld => ?_)
  refine take_op (i := 0) (d := 17) (v := .agg (blindC n wd gp t sh)) rfl rfl (by kernel_rfl) (by kernel_rfl) (by kernel_rfl) (fun _ _ _ h => h) (yields_row (by rfl) 32 (.tmp 3) (by rfl) w.heap.size 0 5 (by rfl) 32 (blindC n wd gp t sh) (0, 0) _ (fun _ h => h.1) Try.underlying32 rfl info_blind (blind_fits _ _ _ _ _) (blindC n wd gp t sh) (blind_all _ _ _ _ _)) hHeld ?_
  simp only [List.setIfInBounds_toArray, List.set_cons_zero, List.set_cons_succ]
  refine take_op (i := 2) (d := 19) (v := .agg (sunC hs ts)) rfl rfl (by kernel_rfl) (by kernel_rfl) (by kernel_rfl) (fun _ _ _ h => h) (yields_row (by rfl) 34 (.tmp 4) (by rfl) g2 0 48 (by rfl) 34 (sunC hs ts) (0, 0) _ (fun _ h => h.2.1) Try.underlying34 rfl info_sun (sun_fits _ _ Hh.out Ht.out) (sunC hs ts) (sun_all _ _ Hh.out Ht.out)) hHeld ?_
  simp only [List.setIfInBounds_toArray, List.set_cons_zero, List.set_cons_succ]
  refine take_op (i := 3) (d := 20) (v := ?_) rfl rfl (by kernel_rfl) (by kernel_rfl) (by kernel_rfl) (fun _ _ _ h => h) (Or.inl ⟨by rfl, ?hy3u21⟩) hHeld ?rest3u21
  case hy3u21 =>
    intro w' hS'
    go_simp
    try with_reducible rfl
  simp only [List.setIfInBounds_toArray, List.set_cons_zero, List.set_cons_succ]
  refine wpAnyH_ready (rs := [1]) (by kernel_rfl) (by simp) ?_
  refine AllReadyH.cons rfl (fun K hK => ?_) AllReadyH.nil
  go_simp
  refine (HP.out _).mono ?_
  rintro e W1 ⟨⟨v, rfl, p1, p2, rfl, c1, c2⟩, hb1⟩
  have C1 := Lib.hid c1
  have C2 := Lib.hid c2
  clear c1 c2
  refine hK.out _ _ (⟨below_row hb1 hHeld.1, below_row hb1 hHeld.2.1, hHeld.2.2.trans (hb1.mono hHeld.2.2.size)⟩) (fun hHeld2 => ?_)
  clear hK K
  replace hHeld := hHeld2
  clear hHeld2
  refine wpAnyH_ready (rs := [4]) (by kernel_rfl) (by simp) ?_
  refine AllReadyH.cons rfl (fun K hK => ?_) AllReadyH.nil
  go_simp
  refine (HO.out p1 p2 _ C1.out C2.out).mono ?_
  rintro e W2 ⟨rfl, hb2⟩
  refine hK.out _ _ (⟨below_row hb2 hHeld.1, below_row hb2 hHeld.2.1, hHeld.2.2.trans (hb2.mono hHeld.2.2.size)⟩) (fun hHeld2 => ?_)
  clear hK K
  replace hHeld := hHeld2
  clear hHeld2
  refine take_op (i := 5) (d := 6) (v := ?_) rfl rfl (by kernel_rfl) (by kernel_rfl) (by kernel_rfl) (fun _ _ _ h => h) (Or.inl ⟨by rfl, ?hy5u22⟩) hHeld ?rest5u22
  case hy5u22 =>
    intro w' hS'
    go_simp
    try with_reducible rfl
  simp only [List.setIfInBounds_toArray, List.set_cons_zero, List.set_cons_succ]
  refine take_op (i := 6) (d := 7) (v := ?_) rfl rfl (by kernel_rfl) (by kernel_rfl) (by kernel_rfl) (fun _ _ _ h => h) (Or.inl ⟨by rfl, ?hy6u23⟩) hHeld ?rest6u23
  case hy6u23 =>
    intro w' hS'
    go_simp
    try with_reducible rfl
  simp only [List.setIfInBounds_toArray, List.set_cons_zero, List.set_cons_succ]
  refine wpAnyH_done (by kernel_rfl) ?_ _
  have hbx := hHeld.2.2
  clear hHeld h0 h1 hb C1 C2 HP HO
  go_wp2
  go_ret2
  exact ⟨rfl, hbx⟩

set_option maxRecDepth 100000 in
set_option maxHeartbeats 1000000 in
theorem specPassDay_no (n : Int) (wd gp : Nat) (t : Int) (sh : Nat) (hs ts : List Int) (hh : hs.length = 24) (ht : ts.length = 24) (rb : ∀ x ∈ hs ++ ts, -32768 ≤ x ∧ x ≤ 32767) (bw : BlWf n wd gp t sh) (facing : Int) (hk : ¬ (okBl n wd gp t sh = true ∧ okB hs ts = true ∧ inF facing = true)) (w : World) :
    Calls Try.prog 8 #[.agg (blindC n wd gp t sh), .agg (sunC hs ts), .int .i64 facing] w fun e w' => e = .returned (.tuple #[.float .f32 (0), .int .i64 (codeBS (okBl n wd gp t sh) (okB hs ts) (inF facing))]) ∧ Below w.heap.size w w' := by
  obtain ⟨N0, N1⟩ := blwf_n bw
  have Rb := Lib.hid rb
  clear rb
  obtain ⟨T0, T1⟩ := blwf_t bw
  have hne := codeBS_ne hk
  generalize hp : inF facing = p at *
  generalize hc : codeBS (okBl n wd gp t sh) (okB hs ts) p = c at *
  have Hc := Lib.hid hc
  have Hf := Lib.hid hp
  have Hh := Lib.hid hh
  have Ht := Lib.hid ht
  have hne' : (c != 0) = true := bne_iff_ne.2 hne
  clear hk hc hne hh ht hp bw
  go_enter Try.func8, Try.ntmps8
  go_upto_region 1 with (fail)
  refine abs_world (fun W => W.heap[w.heap.size]? = some (.cells (blindC n wd gp t sh) 32 (0, 0)) ∧ W.heap[w.heap.size + 1]? = some (.cells (sunC hs ts) 34 (0, 0)) ∧ Below w.heap.size w W) ⟨heap_alloc2_old _ _ _, heap_alloc2_new _ _ _, ((Below.refl _ _).alloc (Nat.le_refl _) _).alloc (by simp) _⟩ ?_
  rintro W ⟨h0, h1, hb⟩
  generalize w.heap.size + 1 = g2 at *
  have D0 := Lib.hid h0
  have D1 := Lib.hid h1
  clear h0 h1
  go_wp2_with (first | (go_at_call 47; refine (l01Faced_is facing p Hf.out _).mono ?_; rintro e w' ⟨rfl, rfl⟩) | (go_at_call 46; refine (l02With_is n wd gp t sh hs ts Hh.out Ht.out Rb.out T0 T1 N0 N1 w.heap.size g2 _ D0.out D1.out p c Hc.out).mono ?_; rintro e w' ⟨rfl, rfl⟩))
  go_ret2
  exact ⟨rfl, hb⟩

set_option maxRecDepth 100000 in
set_option maxHeartbeats 1000000 in
theorem specPassDay_yes (n : Int) (wd gp : Nat) (t : Int) (sh : Nat) (hs ts : List Int) (hh : hs.length = 24) (ht : ts.length = 24) (rb : ∀ x ∈ hs ++ ts, -32768 ≤ x ∧ x ≤ 32767) (bw : BlWf n wd gp t sh) (facing : Int) (hk : okBl n wd gp t sh = true) (ho : okB hs ts = true) (h3 : inF facing = true) (w : World) :
    Calls Try.prog 8 #[.agg (blindC n wd gp t sh), .agg (sunC hs ts), .int .i64 facing] w fun e w' => e = .returned (.tuple #[.float .f32 (sumTo (fun h => winB wd gp t sh hs ts (h : Int) facing) 24), .int .i64 (0)]) ∧ Below w.heap.size w w' := by
  obtain ⟨T0, T1⟩ := blwf_t bw
  obtain ⟨N0, N1⟩ := blwf_n bw
  have OK := blok_of bw hk
  have HW := Lib.hid (fun g1 g2 (k : Int) (h0 : 0 ≤ k) (h24 : k < 24) w c1 c2 => l02Window_any n wd gp t sh hs ts hh ht OK k facing h0 h24 (inF_bd h3).1 (inF_bd h3).2 (okB_h hh ht ho k h0 h24).2 (okB_t hh ht ho k h0 h24).1 (okB_t hh ht ho k h0 h24).2 g1 g2 w c1 c2)
  have HPOS : Hid (∀ k : Int, 0 ≤ k → k < 24 → pos32 (winB wd gp t sh hs ts k facing) = true) := fun k h0 h24 => winB_pos wd gp t OK.2.2.2.2.2.2.2.2 hs ts k facing (okB_h hh ht ho k h0 h24).2
  have Hc : Hid (codeBS (okBl n wd gp t sh) (okB hs ts) true = 0) := by rw [hk, ho]; rfl
  have Hf := Lib.hid h3
  have Hh := Lib.hid hh
  have Ht := Lib.hid ht
  have Rb := Lib.hid rb
  clear OK hk ho h3 hh ht rb bw
  go_enter Try.func8, Try.ntmps8
  go_upto_region 1 with (fail)
  refine abs_world (fun W => W.heap[w.heap.size]? = some (.cells (blindC n wd gp t sh) 32 (0, 0)) ∧ W.heap[w.heap.size + 1]? = some (.cells (sunC hs ts) 34 (0, 0)) ∧ Below w.heap.size w W) ⟨heap_alloc2_old _ _ _, heap_alloc2_new _ _ _, ((Below.refl _ _).alloc (Nat.le_refl _) _).alloc (by simp) _⟩ ?_
  rintro W ⟨h0, h1, hb⟩
  generalize w.heap.size + 1 = g2 at *
  have D0 := Lib.hid h0
  have D1 := Lib.hid h1
  clear h0 h1
  go_upto_region 4 with (first | (go_at_call 47; refine (l01Faced_is facing true Hf.out _).mono ?_; rintro e w' ⟨rfl, rfl⟩) | (go_at_call 46; refine (l02With_is n wd gp t sh hs ts Hh.out Ht.out Rb.out T0 T1 N0 N1 w.heap.size g2 _ D0.out D1.out true 0 Hc.out).mono ?_; rintro e w' ⟨rfl, rfl⟩))
  clear Hc Hf Rb Hh Ht
  go_wp2
  have HB := Lib.hid hb
  clear hb
  go_loopw [9, 10] (fun s i wr => ∃ k : Nat, k ≤ 24 ∧ i = .int .i64 k ∧ s = .float .f32 (sumTo (fun h => winB wd gp t sh hs ts (h : Int) facing) k) ∧ Below W.heap.size W wr) (fun _ i _ => 24 - (intOf i).toNat)
  case atStart => exact ⟨0, Nat.zero_le _, rfl, rfl, Below.refl _ _⟩
  case round =>
    obtain ⟨k, hk, rfl, rfl, hb⟩ := hrel
    by_cases hlt : k < 24
    · have hp : pos32 (sumTo (fun h => winB wd gp t sh hs ts (h : Int) facing) k) = true := sumTo_pos _ 24 (fun j hj => HPOS.out (j : Int) (by omega) (by omega)) k hk
      have hgp := HPOS.out (k : Int) (by omega) (by omega)
      have z0 : (0 : Int) ≤ (k : Int) := by omega
      have z1 : (k : Int) < 24 := by omega
      have HC := Lib.hid (fun w1 (h : Below W.heap.size W w1) => HW.out w.heap.size g2 (k : Int) z0 z1 w1 (below_row h D0.out) (below_row h D1.out))
      have hs1 := sumTo_succ (fun h => winB wd gp t sh hs ts (h : Int) facing) k
      have hadd := (add_ok hp hgp).1
      have HS := Lib.hid hs1
      generalize sumTo (fun h => winB wd gp t sh hs ts (h : Int) facing) k = s at *
      have radd : ∀ T w, (binOp .add T (.float .f32 s) (.float .f32 (winB wd gp t sh hs ts (k : Int) facing))).run Try.prog w = .ok (.float .f32 (fadd s (winB wd gp t sh hs ts (k : Int) facing))) w := fun T w => run_float_arith w .add T .f32 _ _ _ hadd
      clear hp hgp hs1 hadd
      go_wp2_with (go_at_call 48; refine (HC.out _ hb).mono ?_; rintro e W3 ⟨rfl, hb1⟩)
      go_roundw
      case rel => exact ⟨k + 1, by omega, by simp, by rw [HS.out], hb.trans (hb1.mono hb.size)⟩
      case measure => simp [intOf]; omega
    · obtain rfl : k = 24 := by omega
      clear hlt
      go_wp2
      go_ret2
      exact ⟨rfl, HB.out.trans (hb.mono HB.out.size)⟩

set_option maxRecDepth 100000 in
set_option maxHeartbeats 1000000 in
theorem FnExactPassDay_core (n : Int) (wd gp : Nat) (t : Int) (sh : Nat) (hs ts : List Int) (hh : hs.length = 24) (ht : ts.length = 24) (facing : Int) (v : Nat) (c : Int) (hv : fin32 v = true)
    (hspec : ∀ w, Calls Try.prog 8 #[.agg (blindC n wd gp t sh), .agg (sunC hs ts), .int .i64 facing] w fun e w' => e = .returned (.tuple #[.float .f32 v, .int .i64 c]) ∧ Below w.heap.size w w')
    (himpl : ∀ w, Calls Try.prog 11 #[.agg (blindC n wd gp t sh), .agg (sunC hs ts), .int .i64 facing] w fun e w' => e = .returned (.tuple #[.float .f32 v, .int .i64 c]) ∧ Below w.heap.size w w') (w : World) :
    Calls Try.prog 3 #[.agg (blindC n wd gp t sh), .agg (sunC hs ts), .int .i64 facing] w fun e w' => e = .returned (.bool true) ∧ Below w.heap.size w w' := by
  have Hh := Lib.hid hh
  have Ht := Lib.hid ht
  have HS := Lib.hid hspec
  have HI := Lib.hid himpl
  clear hh ht hspec himpl
  have hw0 := run_wide _ hv
  have Hv0 := Lib.hid hv
  clear hv
  go_enter Try.func3, Try.ntmps3
  go_upto_region 1 with (fail)
  refine abs_world (fun W => W.heap[w.heap.size]? = some (.cells (blindC n wd gp t sh) 26 (0, 0)) ∧ W.heap[w.heap.size + 1]? = some (.cells (sunC hs ts) 29 (0, 0)) ∧ Below w.heap.size w W) ⟨heap_alloc2_old _ _ _, heap_alloc2_new _ _ _, ((Below.refl _ _).alloc (Nat.le_refl _) _).alloc (by simp) _⟩ ?_
  rintro W ⟨d0, d1, hb⟩
  generalize w.heap.size + 1 = g2 at *
  refine wp_region_held_drew (S := (fun W => W.heap[w.heap.size]? = some (.cells (blindC n wd gp t sh) 26 (0, 0)) ∧ W.heap[g2]? = some (.cells (sunC hs ts) 29 (0, 0)) ∧ Below w.heap.size w W)) (by kernel_rfl) ⟨d0, d1, hb.drew⟩ (fun hHeld => ?_)
  refine take_op (i := 0) (d := 12) (v := .agg (blindC n wd gp t sh)) rfl rfl (by kernel_rfl) (by kernel_rfl) (by kernel_rfl) (fun _ _ _ h => h) (yields_row (by rfl) 26 (.tmp 3) (by rfl) w.heap.size 0 5 (by rfl) 26 (blindC n wd gp t sh) (0, 0) _ (fun _ h => h.1) Try.underlying26 rfl info_blindL (blind_fits _ _ _ _ _) (blindC n wd gp t sh) (blind_all _ _ _ _ _)) hHeld ?_
  simp only [List.setIfInBounds_toArray, List.set_cons_zero, List.set_cons_succ]
  refine take_op (i := 2) (d := 14) (v := .agg (sunC hs ts)) rfl rfl (by kernel_rfl) (by kernel_rfl) (by kernel_rfl) (fun _ _ _ h => h) (yields_row (by rfl) 29 (.tmp 4) (by rfl) g2 0 48 (by rfl) 29 (sunC hs ts) (0, 0) _ (fun _ h => h.2.1) Try.underlying29 rfl info_sunL (sun_fits _ _ Hh.out Ht.out) (sunC hs ts) (sun_all _ _ Hh.out Ht.out)) hHeld ?_
  simp only [List.setIfInBounds_toArray, List.set_cons_zero, List.set_cons_succ]
  refine take_op (i := 4) (d := 16) (v := ?_) rfl rfl (by kernel_rfl) (by kernel_rfl) (by kernel_rfl) (fun _ _ _ h => h) (Or.inl ⟨by rfl, ?hy4u60⟩) hHeld ?rest4u60
  case hy4u60 =>
    intro w' hS'
    go_simp
    try with_reducible rfl
  simp only [List.setIfInBounds_toArray, List.set_cons_zero, List.set_cons_succ]
  refine wpAnyH_ready (rs := [1]) (by kernel_rfl) (by simp) ?_
  refine AllReadyH.cons rfl (fun K hK => ?_) AllReadyH.nil
  go_simp
  refine (toBlind_any _ _ _ _ _ _).mono ?_
  rintro e W1 ⟨rfl, hb1⟩
  refine hK.out _ _ (⟨below_row hb1 hHeld.1, below_row hb1 hHeld.2.1, hHeld.2.2.trans (hb1.mono hHeld.2.2.size)⟩) (fun hHeld2 => ?_)
  clear hK K
  replace hHeld := hHeld2
  clear hHeld2
  refine wpAnyH_ready (rs := [3]) (by kernel_rfl) (by simp) ?_
  refine AllReadyH.cons rfl (fun K hK => ?_) AllReadyH.nil
  go_simp
  refine (toSun_any hs ts Hh.out Ht.out _).mono ?_
  rintro e W1 ⟨rfl, hb1⟩
  refine hK.out _ _ (⟨below_row hb1 hHeld.1, below_row hb1 hHeld.2.1, hHeld.2.2.trans (hb1.mono hHeld.2.2.size)⟩) (fun hHeld2 => ?_)
  clear hK K
  replace hHeld := hHeld2
  clear hHeld2
  refine wpAnyH_ready (rs := [5]) (by kernel_rfl) (by simp) ?_
  refine AllReadyH.cons rfl (fun K hK => ?_) AllReadyH.nil
  go_simp
  refine (HS.out _).mono ?_
  rintro e W1 ⟨rfl, hb1⟩
  refine hK.out _ _ (⟨below_row hb1 hHeld.1, below_row hb1 hHeld.2.1, hHeld.2.2.trans (hb1.mono hHeld.2.2.size)⟩) (fun hHeld2 => ?_)
  clear hK K
  replace hHeld := hHeld2
  clear hHeld2
  refine take_op (i := 6) (d := 11) (v := ?_) rfl rfl (by kernel_rfl) (by kernel_rfl) (by kernel_rfl) (fun _ _ _ h => h) (Or.inl ⟨by rfl, ?hy6u61⟩) hHeld ?rest6u61
  case hy6u61 =>
    intro w' hS'
    go_simp
    try with_reducible rfl
  simp only [List.setIfInBounds_toArray, List.set_cons_zero, List.set_cons_succ]
  refine take_op (i := 7) (d := 18) (v := ?_) rfl rfl (by kernel_rfl) (by kernel_rfl) (by kernel_rfl) (fun _ _ _ h => h) (Or.inl ⟨by rfl, ?hy7u62⟩) hHeld ?rest7u62
  case hy7u62 =>
    intro w' hS'
    go_simp
    try with_reducible rfl
  simp only [List.setIfInBounds_toArray, List.set_cons_zero, List.set_cons_succ]
  refine take_op (i := 8) (d := 19) (v := ?_) rfl rfl (by kernel_rfl) (by kernel_rfl) (by kernel_rfl) (fun _ _ _ h => h) (Or.inl ⟨by rfl, ?hy8u63⟩) hHeld ?rest8u63
  case hy8u63 =>
    intro w' hS'
    go_simp
    try with_reducible rfl
  simp only [List.setIfInBounds_toArray, List.set_cons_zero, List.set_cons_succ]
  refine take_op (i := 9) (d := 7) (v := ?_) rfl rfl (by kernel_rfl) (by kernel_rfl) (by kernel_rfl) (fun _ _ _ h => h) (Or.inl ⟨by rfl, ?hy9u64⟩) hHeld ?rest9u64
  case hy9u64 =>
    intro w' hS'
    go_simp
    try with_reducible rfl
  simp only [List.setIfInBounds_toArray, List.set_cons_zero, List.set_cons_succ]
  refine take_op (i := 10) (d := 8) (v := ?_) rfl rfl (by kernel_rfl) (by kernel_rfl) (by kernel_rfl) (fun _ _ _ h => h) (Or.inl ⟨by rfl, ?hy10u65⟩) hHeld ?rest10u65
  case hy10u65 =>
    intro w' hS'
    go_simp
    try with_reducible rfl
  simp only [List.setIfInBounds_toArray, List.set_cons_zero, List.set_cons_succ]
  refine wpAnyH_done (by kernel_rfl) ?_ _
  obtain ⟨d0, d1, hb⟩ := hHeld
  go_upto_region 2 with (fail)
  refine wp_region_held_drew (S := (fun W => W.heap[w.heap.size]? = some (.cells (blindC n wd gp t sh) 26 (0, 0)) ∧ W.heap[g2]? = some (.cells (sunC hs ts) 29 (0, 0)) ∧ Below w.heap.size w W)) (by kernel_rfl) ⟨d0, d1, hb.drew⟩ (fun hHeld => ?_)
  refine take_op (i := 0) (d := 21) (v := .agg (blindC n wd gp t sh)) rfl rfl (by kernel_rfl) (by kernel_rfl) (by kernel_rfl) (fun _ _ _ h => h) (yields_row (by rfl) 26 (.tmp 3) (by rfl) w.heap.size 0 5 (by rfl) 26 (blindC n wd gp t sh) (0, 0) _ (fun _ h => h.1) Try.underlying26 rfl info_blindL (blind_fits _ _ _ _ _) (blindC n wd gp t sh) (blind_all _ _ _ _ _)) hHeld ?_
  simp only [List.setIfInBounds_toArray, List.set_cons_zero, List.set_cons_succ]
  refine take_op (i := 2) (d := 23) (v := .agg (sunC hs ts)) rfl rfl (by kernel_rfl) (by kernel_rfl) (by kernel_rfl) (fun _ _ _ h => h) (yields_row (by rfl) 29 (.tmp 4) (by rfl) g2 0 48 (by rfl) 29 (sunC hs ts) (0, 0) _ (fun _ h => h.2.1) Try.underlying29 rfl info_sunL (sun_fits _ _ Hh.out Ht.out) (sunC hs ts) (sun_all _ _ Hh.out Ht.out)) hHeld ?_
  simp only [List.setIfInBounds_toArray, List.set_cons_zero, List.set_cons_succ]
  refine take_op (i := 4) (d := 25) (v := ?_) rfl rfl (by kernel_rfl) (by kernel_rfl) (by kernel_rfl) (fun _ _ _ h => h) (Or.inl ⟨by rfl, ?hy4u66⟩) hHeld ?rest4u66
  case hy4u66 =>
    intro w' hS'
    go_simp
    try with_reducible rfl
  simp only [List.setIfInBounds_toArray, List.set_cons_zero, List.set_cons_succ]
  refine wpAnyH_ready (rs := [1]) (by kernel_rfl) (by simp) ?_
  refine AllReadyH.cons rfl (fun K hK => ?_) AllReadyH.nil
  go_simp
  refine (toBlind_any _ _ _ _ _ _).mono ?_
  rintro e W1 ⟨rfl, hb1⟩
  refine hK.out _ _ (⟨below_row hb1 hHeld.1, below_row hb1 hHeld.2.1, hHeld.2.2.trans (hb1.mono hHeld.2.2.size)⟩) (fun hHeld2 => ?_)
  clear hK K
  replace hHeld := hHeld2
  clear hHeld2
  refine wpAnyH_ready (rs := [3]) (by kernel_rfl) (by simp) ?_
  refine AllReadyH.cons rfl (fun K hK => ?_) AllReadyH.nil
  go_simp
  refine (toSun_any hs ts Hh.out Ht.out _).mono ?_
  rintro e W1 ⟨rfl, hb1⟩
  refine hK.out _ _ (⟨below_row hb1 hHeld.1, below_row hb1 hHeld.2.1, hHeld.2.2.trans (hb1.mono hHeld.2.2.size)⟩) (fun hHeld2 => ?_)
  clear hK K
  replace hHeld := hHeld2
  clear hHeld2
  refine wpAnyH_ready (rs := [5]) (by kernel_rfl) (by simp) ?_
  refine AllReadyH.cons rfl (fun K hK => ?_) AllReadyH.nil
  go_simp
  refine (HI.out _).mono ?_
  rintro e W1 ⟨rfl, hb1⟩
  refine hK.out _ _ (⟨below_row hb1 hHeld.1, below_row hb1 hHeld.2.1, hHeld.2.2.trans (hb1.mono hHeld.2.2.size)⟩) (fun hHeld2 => ?_)
  clear hK K
  replace hHeld := hHeld2
  clear hHeld2
  refine take_op (i := 6) (d := 20) (v := ?_) rfl rfl (by kernel_rfl) (by kernel_rfl) (by kernel_rfl) (fun _ _ _ h => h) (Or.inl ⟨by rfl, ?hy6u67⟩) hHeld ?rest6u67
  case hy6u67 =>
    intro w' hS'
    go_simp
    try with_reducible rfl
  simp only [List.setIfInBounds_toArray, List.set_cons_zero, List.set_cons_succ]
  refine take_op (i := 7) (d := 27) (v := ?_) rfl rfl (by kernel_rfl) (by kernel_rfl) (by kernel_rfl) (fun _ _ _ h => h) (Or.inl ⟨by rfl, ?hy7u68⟩) hHeld ?rest7u68
  case hy7u68 =>
    intro w' hS'
    go_simp
    try with_reducible rfl
  simp only [List.setIfInBounds_toArray, List.set_cons_zero, List.set_cons_succ]
  refine take_op (i := 8) (d := 28) (v := ?_) rfl rfl (by kernel_rfl) (by kernel_rfl) (by kernel_rfl) (fun _ _ _ h => h) (Or.inl ⟨by rfl, ?hy8u69⟩) hHeld ?rest8u69
  case hy8u69 =>
    intro w' hS'
    go_simp
    try with_reducible rfl
  simp only [List.setIfInBounds_toArray, List.set_cons_zero, List.set_cons_succ]
  refine take_op (i := 9) (d := 9) (v := ?_) rfl rfl (by kernel_rfl) (by kernel_rfl) (by kernel_rfl) (fun _ _ _ h => h) (Or.inl ⟨by rfl, ?hy9u70⟩) hHeld ?rest9u70
  case hy9u70 =>
    intro w' hS'
    go_simp
    try with_reducible rfl
  simp only [List.setIfInBounds_toArray, List.set_cons_zero, List.set_cons_succ]
  refine take_op (i := 10) (d := 10) (v := ?_) rfl rfl (by kernel_rfl) (by kernel_rfl) (by kernel_rfl) (fun _ _ _ h => h) (Or.inl ⟨by rfl, ?hy10u71⟩) hHeld ?rest10u71
  case hy10u71 =>
    intro w' hS'
    go_simp
    try with_reducible rfl
  simp only [List.setIfInBounds_toArray, List.set_cons_zero, List.set_cons_succ]
  refine wpAnyH_done (by kernel_rfl) ?_ _
  have hb := hHeld.2.2
  clear hHeld d0 d1
  go_wp2_with (go_at_call 12; refine (same_wide _ Hv0.out _).mono ?_; rintro e w1 ⟨rfl, rfl⟩)
  go_ret
  exact ⟨rfl, hb⟩

theorem lawPassDay_walk (n : Int) (wd gp : Nat) (t : Int) (sh : Nat) (bw : BlWf n wd gp t sh) (hs ts : List Int) (hh : hs.length = 24) (ht : ts.length = 24) (rb : ∀ x ∈ hs ++ ts, -32768 ≤ x ∧ x ≤ 32767) (facing : Int) (w : World) :
    Calls Try.prog 3 #[.agg (blindC n wd gp t sh), .agg (sunC hs ts), .int .i64 facing] w fun e w' => e = .returned (.bool true) ∧ Below w.heap.size w w' := by
  by_cases hk : okBl n wd gp t sh = true ∧ okB hs ts = true ∧ inF facing = true
  · exact FnExactPassDay_core n wd gp t sh hs ts hh ht facing _ _ (pos_fin (sumTo_pos (fun h => winB wd gp t sh hs ts (h : Int) facing) 24 (fun j hj => winB_pos wd gp t (blok_of bw hk.1).2.2.2.2.2.2.2.2 hs ts (j : Int) facing (okB_h hh ht hk.2.1 (j : Int) (by omega) (by omega)).2) 24 (Nat.le_refl _))) (fun w => specPassDay_yes n wd gp t sh hs ts hh ht rb bw facing hk.1 hk.2.1 hk.2.2 w) (fun w => implPassDay_yes n wd gp t sh hs ts hh ht bw facing hk.1 hk.2.1 hk.2.2 w) w
  · exact FnExactPassDay_core n wd gp t sh hs ts hh ht facing _ _ zero_fin (fun w => specPassDay_no n wd gp t sh hs ts hh ht rb bw facing hk w) (fun w => implPassDay_no n wd gp t sh hs ts hh ht bw facing hk w) w

set_option maxRecDepth 100000 in
theorem FnExactPassDay_holds : Rows.FnExactPassDaySaid :=
  OpenClaim.holds_of_wide 3 Try.f3 rfl rfl rfl rfl rfl rfl rfl ⟨rfl, rfl, rfl, rfl, rfl⟩ rfl rfl rfl rfl rfl (by kernel_rfl) Try.func3 (by kernel_rfl)
    (of_decide_eq_true (by kernel_rfl)) (by unfold Func.isWrapper; first | (rw [if_pos (by decide +kernel)]; kernel_rfl) | (rw [if_neg (by decide +kernel)]; exact ⟨rfl, rfl⟩))
    (fun os started H enc _ => law_lifted 3 Try.f3 Rows.fnExactPassDaySpec Rows.fnExactPassDayRow.domain os started H enc (by kernel_rfl) Try.func3 rfl rfl
      (by rw [Try.params3]; intro t ht; simp only [List.mem_cons, List.not_mem_nil, or_false] at ht; rcases ht with rfl | rfl | rfl <;> exact ⟨by kernel_rfl, of_decide_eq_true (by kernel_rfl)⟩)
      (fun ds hl => by
        match ds, hl with
        | [d0, d1, d2], _ => rfl)
      (ChangeSpec.witness6 (enc := enc) (C := Try.checked) false ⟨#[], #[.agg #[.int .i8 0, .float .f32 0, .float .f32 0, .int .i16 0, .float .f32 0], .agg #[.int .i16 0, .int .i16 0, .int .i16 0, .int .i16 0, .int .i16 0, .int .i16 0, .int .i16 0, .int .i16 0, .int .i16 0, .int .i16 0, .int .i16 0, .int .i16 0, .int .i16 0, .int .i16 0, .int .i16 0, .int .i16 0, .int .i16 0, .int .i16 0, .int .i16 0, .int .i16 0, .int .i16 0, .int .i16 0, .int .i16 0, .int .i16 0, .int .i16 0, .int .i16 0, .int .i16 0, .int .i16 0, .int .i16 0, .int .i16 0, .int .i16 0, .int .i16 0, .int .i16 0, .int .i16 0, .int .i16 0, .int .i16 0, .int .i16 0, .int .i16 0, .int .i16 0, .int .i16 0, .int .i16 0, .int .i16 0, .int .i16 0, .int .i16 0, .int .i16 0, .int .i16 0, .int .i16 0, .int .i16 0], .int .i64 0], []⟩ 8 (by kernel_rfl) (by kernel_rfl) (by kernel_rfl) (by kernel_rfl))
      (fun W base args ds p hval hA => by
        rw [Try.params3] at hA hval
        obtain ⟨v0, vs0, d0, ds0, p0, q0, hargs, rfl, rfl, h0, r0⟩ := trodAll_cons hA
        obtain ⟨v1, vs1, d1, ds1, p1, q1, rfl, rfl, rfl, h1, r1⟩ := trodAll_cons r0
        obtain ⟨v2, vs2, d2, ds2, p2, q2, rfl, rfl, rfl, h2, r2⟩ := trodAll_cons r1
        obtain ⟨rfl, rfl, rfl⟩ := trodAll_nil r2
        obtain rfl : args = #[v0, v1, v2] := by cases args; simp_all
        obtain ⟨n0, wd0, gp0, t0, sh0, bw0, rfl⟩ := open_blind (hval 0 26 v0 rfl rfl) h0
        obtain ⟨hs1, ts1, hh1, ht1, rb1, rfl⟩ := open_sun (hval 1 29 v1 rfl rfl) h1
        obtain ⟨a2, rfl, rfl, rfl, w2⟩ := open_int Try.underlying2 (hval 2 2 v2 rfl rfl) h2
        exact lawPassDay_walk n0 wd0 gp0 t0 sh0 bw0 hs1 ts1 hh1 ht1 rb1 a2 W))
#print axioms FnExactPassDay_holds

end Go.Proofs.Ytdbleddcnknmiab
