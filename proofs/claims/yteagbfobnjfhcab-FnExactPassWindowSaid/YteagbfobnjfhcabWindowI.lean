/-
  For every blind and every sun, valid or not, every hour and facing: the light that passes into a window is what the model says. No conditions.
-/
import Derived.Test.YteagbfobnjfhcabWithBS
namespace Go.Proofs.Yteagbfobnjfhcab
open Go.ChangeShapes Go.WideShapes Go.ChangeAt Go.RowKit

set_option maxRecDepth 100000 in
set_option maxHeartbeats 1000000 in
theorem implPassWindow_yes (n : Int) (wd gp : Nat) (t : Int) (sh : Nat) (hs ts : List Int) (hh : hs.length = 24) (ht : ts.length = 24) (bw : BlWf n wd gp t sh) (hour facing : Int) (hk : okBl n wd gp t sh = true) (ho : okB hs ts = true) (h2 : inH hour = true) (h3 : inF facing = true) (w : World) :
    Calls Try.prog 29 #[.agg (blindC n wd gp t sh), .agg (sunC hs ts), .int .i64 hour, .int .i64 facing] w fun e w' => e = .returned (.tuple #[.float .f32 (winB wd gp t sh hs ts hour facing), .int .i64 (0)]) ∧ Below w.heap.size w w' := by
  obtain ⟨T0, T1⟩ := blwf_t bw
  obtain ⟨hr0, hr1⟩ := inH_bd h2
  have OK := blok_of bw hk
  have HP := Lib.hid (fun w => passer_any n wd gp t sh OK w)
  have HW := Lib.hid (fun p1 p2 w c1 c2 => windowAt_any n wd gp t sh hs ts hh ht OK hour facing hr0 hr1 (inF_bd h3).1 (inF_bd h3).2 (okB_h hh ht ho hour hr0 hr1).2 (okB_t hh ht ho hour hr0 hr1).1 (okB_t hh ht ho hour hr0 hr1).2 p1 p2 w c1 c2)
  have Hc : Hid (codeBS (okBl n wd gp t sh) (okB hs ts) true = 0) := by rw [hk, ho]; rfl
  have Hi := Lib.hid h2
  have Hf := Lib.hid h3
  have Hh := Lib.hid hh
  have Ht := Lib.hid ht
  clear OK hk ho h2 h3 hh ht bw
  go_enter Try.func29, Try.ntmps29
  go_upto_region 1 with (fail)
  refine abs_world (fun W => W.heap[w.heap.size]? = some (.cells (blindC n wd gp t sh) 44 (0, 0)) ∧ W.heap[w.heap.size + 1]? = some (.cells (sunC hs ts) 51 (0, 0)) ∧ Below w.heap.size w W) ⟨heap_alloc2_old _ _ _, heap_alloc2_new _ _ _, ((Below.refl _ _).alloc (Nat.le_refl _) _).alloc (by simp) _⟩ ?_
  rintro W ⟨h0, h1, hb⟩
  generalize w.heap.size + 1 = g2 at *
  refine wp_region_held_drew (S := (fun W => W.heap[w.heap.size]? = some (.cells (blindC n wd gp t sh) 44 (0, 0)) ∧ W.heap[g2]? = some (.cells (sunC hs ts) 51 (0, 0)) ∧ Below w.heap.size w W)) (by kernel_rfl) ⟨h0, h1, hb.drew⟩ (fun hHeld => ?_)
  refine take_op (i := 0) (d := 11) (v := .agg (blindC n wd gp t sh)) rfl rfl (by kernel_rfl) (by kernel_rfl) (by kernel_rfl) (fun _ _ _ h => h) (yields_row (by rfl) 44 (.tmp 4) (by rfl) w.heap.size 0 5 (by rfl) 44 (blindC n wd gp t sh) (0, 0) _ (fun _ h => h.1) Try.underlying44 rfl info_blind (blind_fits _ _ _ _ _) (blindC n wd gp t sh) (blind_all _ _ _ _ _)) hHeld ?_
  simp only [List.setIfInBounds_toArray, List.set_cons_zero, List.set_cons_succ]
  refine take_op (i := 1) (d := 12) (v := .agg (sunC hs ts)) rfl rfl (by kernel_rfl) (by kernel_rfl) (by kernel_rfl) (fun _ _ _ h => h) (yields_row (by rfl) 51 (.tmp 5) (by rfl) g2 0 48 (by rfl) 51 (sunC hs ts) (0, 0) _ (fun _ h => h.2.1) Try.underlying51 rfl info_sun (sun_fits _ _ Hh.out Ht.out) (sunC hs ts) (sun_all _ _ Hh.out Ht.out)) hHeld ?_
  simp only [List.setIfInBounds_toArray, List.set_cons_zero, List.set_cons_succ]
  refine take_op (i := 2) (d := 13) (v := ?_) rfl rfl (by kernel_rfl) (by kernel_rfl) (by kernel_rfl) (fun _ _ _ h => h) (Or.inl ⟨by rfl, ?hy2u24⟩) hHeld ?rest2u24
  case hy2u24 =>
    intro w' hS'
    go_simp
    try with_reducible rfl
  simp only [List.setIfInBounds_toArray, List.set_cons_zero, List.set_cons_succ]
  refine wpAnyH_ready (rs := [3]) (by kernel_rfl) (by simp) ?_
  refine AllReadyH.cons rfl (fun K hK => ?_) AllReadyH.nil
  go_simp
  refine (isHour_is hour true Hi.out _).mono ?_
  rintro e w' ⟨rfl, rfl⟩
  refine hK.out _ _ (hHeld) (fun hHeld2 => ?_)
  clear hK K
  replace hHeld := hHeld2
  clear hHeld2
  refine take_op (i := 4) (d := 15) (v := ?_) rfl rfl (by kernel_rfl) (by kernel_rfl) (by kernel_rfl) (fun _ _ _ h => h) (Or.inl ⟨by rfl, ?hy4u25⟩) hHeld ?rest4u25
  case hy4u25 =>
    intro w' hS'
    go_simp
    try with_reducible rfl
  simp only [List.setIfInBounds_toArray, List.set_cons_zero, List.set_cons_succ]
  refine take_op (i := 5) (d := 16) (v := ?_) rfl rfl (by kernel_rfl) (by kernel_rfl) (by kernel_rfl) (fun _ _ _ h => h) (Or.inl ⟨by rfl, ?hy5u26⟩) hHeld ?rest5u26
  case hy5u26 =>
    intro w' hS'
    go_simp
    try with_reducible rfl
  simp only [List.setIfInBounds_toArray, List.set_cons_zero, List.set_cons_succ]
  refine wpAnyH_ready (rs := [6]) (by kernel_rfl) (by simp) ?_
  refine AllReadyH.cons rfl (fun K hK => ?_) AllReadyH.nil
  go_simp
  refine (isFacing_is facing true Hf.out _).mono ?_
  rintro e w' ⟨rfl, rfl⟩
  refine hK.out _ _ (hHeld) (fun hHeld2 => ?_)
  clear hK K
  replace hHeld := hHeld2
  clear hHeld2
  refine take_op (i := 7) (d := 18) (v := ?_) rfl rfl (by kernel_rfl) (by kernel_rfl) (by kernel_rfl) (fun _ _ _ h => h) (Or.inl ⟨by rfl, ?hy7u27⟩) hHeld ?rest7u27
  case hy7u27 =>
    intro w' hS'
    go_simp
    try with_reducible rfl
  simp only [List.setIfInBounds_toArray, List.set_cons_zero, List.set_cons_succ]
  refine wpAnyH_ready (rs := [8]) (by kernel_rfl) (by simp) ?_
  refine AllReadyH.cons rfl (fun K hK => ?_) AllReadyH.nil
  go_simp
  refine (checkBS_is n wd gp t sh hs ts Hh.out Ht.out T0 T1 true 0 Hc.out _).mono ?_
  rintro e W1 ⟨rfl, hb1⟩
  refine hK.out _ _ (⟨below_row hb1 hHeld.1, below_row hb1 hHeld.2.1, hHeld.2.2.trans (hb1.mono hHeld.2.2.size)⟩) (fun hHeld2 => ?_)
  clear hK K
  replace hHeld := hHeld2
  clear hHeld2
  refine take_op (i := 9) (d := 10) (v := ?_) rfl rfl (by kernel_rfl) (by kernel_rfl) (by kernel_rfl) (fun _ _ _ h => h) (Or.inl ⟨by rfl, ?hy9u28⟩) hHeld ?rest9u28
  case hy9u28 =>
    intro w' hS'
    go_simp
    try with_reducible rfl
  simp only [List.setIfInBounds_toArray, List.set_cons_zero, List.set_cons_succ]
  refine wpAnyH_done (by kernel_rfl) ?_ _
  obtain ⟨d0, d1, hbx⟩ := hHeld
  clear h0 h1 hb
  go_upto_region 4 with (fail)
  refine wp_region_held_drew (S := (fun W => W.heap[w.heap.size]? = some (.cells (blindC n wd gp t sh) 44 (0, 0)) ∧ W.heap[g2]? = some (.cells (sunC hs ts) 51 (0, 0)) ∧ Below w.heap.size w W)) (by kernel_rfl) ⟨d0, d1, hbx.drew⟩ (fun hHeld => ?_)
  refine take_op (i := 0) (d := 23) (v := .agg (blindC n wd gp t sh)) rfl rfl (by kernel_rfl) (by kernel_rfl) (by kernel_rfl) (fun _ _ _ h => h) (yields_row (by rfl) 44 (.tmp 4) (by rfl) w.heap.size 0 5 (by rfl) 44 (blindC n wd gp t sh) (0, 0) _ (fun _ h => h.1) Try.underlying44 rfl info_blind (blind_fits _ _ _ _ _) (blindC n wd gp t sh) (blind_all _ _ _ _ _)) hHeld ?_
  simp only [List.setIfInBounds_toArray, List.set_cons_zero, List.set_cons_succ]
  refine take_op (i := 2) (d := 25) (v := .agg (sunC hs ts)) rfl rfl (by kernel_rfl) (by kernel_rfl) (by kernel_rfl) (fun _ _ _ h => h) (yields_row (by rfl) 51 (.tmp 5) (by rfl) g2 0 48 (by rfl) 51 (sunC hs ts) (0, 0) _ (fun _ h => h.2.1) Try.underlying51 rfl info_sun (sun_fits _ _ Hh.out Ht.out) (sunC hs ts) (sun_all _ _ Hh.out Ht.out)) hHeld ?_
  simp only [List.setIfInBounds_toArray, List.set_cons_zero, List.set_cons_succ]
  refine take_op (i := 3) (d := 26) (v := ?_) rfl rfl (by kernel_rfl) (by kernel_rfl) (by kernel_rfl) (fun _ _ _ h => h) (Or.inl ⟨by rfl, ?hy3u29⟩) hHeld ?rest3u29
  case hy3u29 =>
    intro w' hS'
    go_simp
    try with_reducible rfl
  simp only [List.setIfInBounds_toArray, List.set_cons_zero, List.set_cons_succ]
  refine take_op (i := 4) (d := 27) (v := ?_) rfl rfl (by kernel_rfl) (by kernel_rfl) (by kernel_rfl) (fun _ _ _ h => h) (Or.inl ⟨by rfl, ?hy4u30⟩) hHeld ?rest4u30
  case hy4u30 =>
    intro w' hS'
    go_simp
    try with_reducible rfl
  simp only [List.setIfInBounds_toArray, List.set_cons_zero, List.set_cons_succ]
  refine wpAnyH_ready (rs := [1]) (by kernel_rfl) (by simp) ?_
  refine AllReadyH.cons rfl (fun K hK => ?_) AllReadyH.nil
  go_simp
  refine (HP.out _).mono ?_
  rintro e W1 ⟨⟨v, rfl, p1, p2, rfl, c1, c2⟩, hb1⟩
  refine hK.out _ _ (⟨below_row hb1 hHeld.1, below_row hb1 hHeld.2.1, hHeld.2.2.trans (hb1.mono hHeld.2.2.size)⟩) (fun hHeld2 => ?_)
  clear hK K
  replace hHeld := hHeld2
  clear hHeld2
  refine wpAnyH_ready (rs := [5]) (by kernel_rfl) (by simp) ?_
  refine AllReadyH.cons rfl (fun K hK => ?_) AllReadyH.nil
  go_simp
  refine (HW.out p1 p2 _ c1 c2).mono ?_
  rintro e W3 ⟨rfl, hb3⟩
  refine hK.out _ _ (⟨below_row hb3 hHeld.1, below_row hb3 hHeld.2.1, hHeld.2.2.trans (hb3.mono hHeld.2.2.size)⟩) (fun hHeld2 => ?_)
  clear hK K
  replace hHeld := hHeld2
  clear hHeld2
  refine take_op (i := 6) (d := 8) (v := ?_) rfl rfl (by kernel_rfl) (by kernel_rfl) (by kernel_rfl) (fun _ _ _ h => h) (Or.inl ⟨by rfl, ?hy6u31⟩) hHeld ?rest6u31
  case hy6u31 =>
    intro w' hS'
    go_simp
    try with_reducible rfl
  simp only [List.setIfInBounds_toArray, List.set_cons_zero, List.set_cons_succ]
  refine take_op (i := 7) (d := 9) (v := ?_) rfl rfl (by kernel_rfl) (by kernel_rfl) (by kernel_rfl) (fun _ _ _ h => h) (Or.inl ⟨by rfl, ?hy7u32⟩) hHeld ?rest7u32
  case hy7u32 =>
    intro w' hS'
    go_simp
    try with_reducible rfl
  simp only [List.setIfInBounds_toArray, List.set_cons_zero, List.set_cons_succ]
  refine wpAnyH_done (by kernel_rfl) ?_ _
  have hby := hHeld.2.2
  clear hHeld d0 d1 hbx
  go_wp2
  go_ret2
  exact ⟨rfl, hby⟩

set_option maxRecDepth 100000 in
set_option maxHeartbeats 1000000 in
theorem implPassWindow_no1 (n : Int) (wd gp : Nat) (t : Int) (sh : Nat) (hs ts : List Int) (hh : hs.length = 24) (ht : ts.length = 24) (bw : BlWf n wd gp t sh) (hour facing : Int) (h2 : inH hour = false) (hk : ¬ (okBl n wd gp t sh = true ∧ okB hs ts = true ∧ (inH hour && inF facing) = true)) (w : World) :
    Calls Try.prog 29 #[.agg (blindC n wd gp t sh), .agg (sunC hs ts), .int .i64 hour, .int .i64 facing] w fun e w' => e = .returned (.tuple #[.float .f32 (0), .int .i64 (codeBS (okBl n wd gp t sh) (okB hs ts) (inH hour && inF facing))]) ∧ Below w.heap.size w w' := by
  obtain ⟨T0, T1⟩ := blwf_t bw
  have e1 : (inH hour && inF facing) = false := by rw [h2]; rfl
  have hne := codeBS_ne hk
  rw [e1] at hne ⊢
  generalize hc : codeBS (okBl n wd gp t sh) (okB hs ts) false = c at *
  have Hc := Lib.hid hc
  have Hi := Lib.hid h2
  have Hh := Lib.hid hh
  have Ht := Lib.hid ht
  have hne' : (c != 0) = true := bne_iff_ne.2 hne
  clear hk h2 hc hne e1 hh ht bw
  go_enter Try.func29, Try.ntmps29
  go_upto_region 1 with (fail)
  refine abs_world (fun W => W.heap[w.heap.size]? = some (.cells (blindC n wd gp t sh) 44 (0, 0)) ∧ W.heap[w.heap.size + 1]? = some (.cells (sunC hs ts) 51 (0, 0)) ∧ Below w.heap.size w W) ⟨heap_alloc2_old _ _ _, heap_alloc2_new _ _ _, ((Below.refl _ _).alloc (Nat.le_refl _) _).alloc (by simp) _⟩ ?_
  rintro W ⟨h0, h1, hb⟩
  generalize w.heap.size + 1 = g2 at *
  refine wp_region_held_drew (S := (fun W => W.heap[w.heap.size]? = some (.cells (blindC n wd gp t sh) 44 (0, 0)) ∧ W.heap[g2]? = some (.cells (sunC hs ts) 51 (0, 0)) ∧ Below w.heap.size w W)) (by kernel_rfl) ⟨h0, h1, hb.drew⟩ (fun hHeld => ?_)
  refine take_op (i := 0) (d := 11) (v := .agg (blindC n wd gp t sh)) rfl rfl (by kernel_rfl) (by kernel_rfl) (by kernel_rfl) (fun _ _ _ h => h) (yields_row (by rfl) 44 (.tmp 4) (by rfl) w.heap.size 0 5 (by rfl) 44 (blindC n wd gp t sh) (0, 0) _ (fun _ h => h.1) Try.underlying44 rfl info_blind (blind_fits _ _ _ _ _) (blindC n wd gp t sh) (blind_all _ _ _ _ _)) hHeld ?_
  simp only [List.setIfInBounds_toArray, List.set_cons_zero, List.set_cons_succ]
  refine take_op (i := 1) (d := 12) (v := .agg (sunC hs ts)) rfl rfl (by kernel_rfl) (by kernel_rfl) (by kernel_rfl) (fun _ _ _ h => h) (yields_row (by rfl) 51 (.tmp 5) (by rfl) g2 0 48 (by rfl) 51 (sunC hs ts) (0, 0) _ (fun _ h => h.2.1) Try.underlying51 rfl info_sun (sun_fits _ _ Hh.out Ht.out) (sunC hs ts) (sun_all _ _ Hh.out Ht.out)) hHeld ?_
  simp only [List.setIfInBounds_toArray, List.set_cons_zero, List.set_cons_succ]
  refine take_op (i := 2) (d := 13) (v := ?_) rfl rfl (by kernel_rfl) (by kernel_rfl) (by kernel_rfl) (fun _ _ _ h => h) (Or.inl ⟨by rfl, ?hy2u33⟩) hHeld ?rest2u33
  case hy2u33 =>
    intro w' hS'
    go_simp
    try with_reducible rfl
  simp only [List.setIfInBounds_toArray, List.set_cons_zero, List.set_cons_succ]
  refine wpAnyH_ready (rs := [3]) (by kernel_rfl) (by simp) ?_
  refine AllReadyH.cons rfl (fun K hK => ?_) AllReadyH.nil
  go_simp
  refine (isHour_is hour false Hi.out _).mono ?_
  rintro e w' ⟨rfl, rfl⟩
  refine hK.out _ _ (hHeld) (fun hHeld2 => ?_)
  clear hK K
  replace hHeld := hHeld2
  clear hHeld2
  refine take_op (i := 4) (d := 15) (v := ?_) rfl rfl (by kernel_rfl) (by kernel_rfl) (by kernel_rfl) (fun _ _ _ h => h) (Or.inl ⟨by rfl, ?hy4u34⟩) hHeld ?rest4u34
  case hy4u34 =>
    intro w' hS'
    go_simp
    try with_reducible rfl
  simp only [List.setIfInBounds_toArray, List.set_cons_zero, List.set_cons_succ]
  refine take_op (i := 5) (d := 16) rfl rfl (by kernel_rfl) (by kernel_rfl) (by kernel_rfl) (fun _ _ _ h => h) (Or.inr ⟨by rfl, rfl⟩) hHeld ?_
  simp only [List.setIfInBounds_toArray, List.set_cons_zero, List.set_cons_succ]
  refine take_op (i := 6) (d := 17) rfl rfl (by kernel_rfl) (by kernel_rfl) (by kernel_rfl) (fun _ _ _ h => h) (Or.inr ⟨by rfl, rfl⟩) hHeld ?_
  simp only [List.setIfInBounds_toArray, List.set_cons_zero, List.set_cons_succ]
  refine take_op (i := 7) (d := 18) (v := ?_) rfl rfl (by kernel_rfl) (by kernel_rfl) (by kernel_rfl) (fun _ _ _ h => h) (Or.inl ⟨by rfl, ?hy7u35⟩) hHeld ?rest7u35
  case hy7u35 =>
    intro w' hS'
    go_simp
    try with_reducible rfl
  simp only [List.setIfInBounds_toArray, List.set_cons_zero, List.set_cons_succ]
  refine wpAnyH_ready (rs := [8]) (by kernel_rfl) (by simp) ?_
  refine AllReadyH.cons rfl (fun K hK => ?_) AllReadyH.nil
  go_simp
  refine (checkBS_is n wd gp t sh hs ts Hh.out Ht.out T0 T1 false c Hc.out _).mono ?_
  rintro e W1 ⟨rfl, hb1⟩
  refine hK.out _ _ (⟨below_row hb1 hHeld.1, below_row hb1 hHeld.2.1, hHeld.2.2.trans (hb1.mono hHeld.2.2.size)⟩) (fun hHeld2 => ?_)
  clear hK K
  replace hHeld := hHeld2
  clear hHeld2
  refine take_op (i := 9) (d := 10) (v := ?_) rfl rfl (by kernel_rfl) (by kernel_rfl) (by kernel_rfl) (fun _ _ _ h => h) (Or.inl ⟨by rfl, ?hy9u36⟩) hHeld ?rest9u36
  case hy9u36 =>
    intro w' hS'
    go_simp
    try with_reducible rfl
  simp only [List.setIfInBounds_toArray, List.set_cons_zero, List.set_cons_succ]
  refine wpAnyH_done (by kernel_rfl) ?_ _
  have hbx := hHeld.2.2
  clear hHeld h0 h1 hb
  go_wp2
  go_ret2
  exact ⟨rfl, hbx⟩

set_option maxRecDepth 100000 in
set_option maxHeartbeats 1000000 in
theorem implPassWindow_no2 (n : Int) (wd gp : Nat) (t : Int) (sh : Nat) (hs ts : List Int) (hh : hs.length = 24) (ht : ts.length = 24) (bw : BlWf n wd gp t sh) (hour facing : Int) (h2 : inH hour = true) (hk : ¬ (okBl n wd gp t sh = true ∧ okB hs ts = true ∧ (inH hour && inF facing) = true)) (w : World) :
    Calls Try.prog 29 #[.agg (blindC n wd gp t sh), .agg (sunC hs ts), .int .i64 hour, .int .i64 facing] w fun e w' => e = .returned (.tuple #[.float .f32 (0), .int .i64 (codeBS (okBl n wd gp t sh) (okB hs ts) (inH hour && inF facing))]) ∧ Below w.heap.size w w' := by
  obtain ⟨T0, T1⟩ := blwf_t bw
  have e1 : (inH hour && inF facing) = inF facing := by rw [h2]; rfl
  have hne := codeBS_ne hk
  rw [e1] at hne ⊢
  generalize hp : inF facing = p at *
  generalize hc : codeBS (okBl n wd gp t sh) (okB hs ts) p = c at *
  have Hc := Lib.hid hc
  have Hi := Lib.hid h2
  have Hf := Lib.hid hp
  have Hh := Lib.hid hh
  have Ht := Lib.hid ht
  have hne' : (c != 0) = true := bne_iff_ne.2 hne
  clear hk h2 hc hne e1 hh ht hp bw
  go_enter Try.func29, Try.ntmps29
  go_upto_region 1 with (fail)
  refine abs_world (fun W => W.heap[w.heap.size]? = some (.cells (blindC n wd gp t sh) 44 (0, 0)) ∧ W.heap[w.heap.size + 1]? = some (.cells (sunC hs ts) 51 (0, 0)) ∧ Below w.heap.size w W) ⟨heap_alloc2_old _ _ _, heap_alloc2_new _ _ _, ((Below.refl _ _).alloc (Nat.le_refl _) _).alloc (by simp) _⟩ ?_
  rintro W ⟨h0, h1, hb⟩
  generalize w.heap.size + 1 = g2 at *
  refine wp_region_held_drew (S := (fun W => W.heap[w.heap.size]? = some (.cells (blindC n wd gp t sh) 44 (0, 0)) ∧ W.heap[g2]? = some (.cells (sunC hs ts) 51 (0, 0)) ∧ Below w.heap.size w W)) (by kernel_rfl) ⟨h0, h1, hb.drew⟩ (fun hHeld => ?_)
  refine take_op (i := 0) (d := 11) (v := .agg (blindC n wd gp t sh)) rfl rfl (by kernel_rfl) (by kernel_rfl) (by kernel_rfl) (fun _ _ _ h => h) (yields_row (by rfl) 44 (.tmp 4) (by rfl) w.heap.size 0 5 (by rfl) 44 (blindC n wd gp t sh) (0, 0) _ (fun _ h => h.1) Try.underlying44 rfl info_blind (blind_fits _ _ _ _ _) (blindC n wd gp t sh) (blind_all _ _ _ _ _)) hHeld ?_
  simp only [List.setIfInBounds_toArray, List.set_cons_zero, List.set_cons_succ]
  refine take_op (i := 1) (d := 12) (v := .agg (sunC hs ts)) rfl rfl (by kernel_rfl) (by kernel_rfl) (by kernel_rfl) (fun _ _ _ h => h) (yields_row (by rfl) 51 (.tmp 5) (by rfl) g2 0 48 (by rfl) 51 (sunC hs ts) (0, 0) _ (fun _ h => h.2.1) Try.underlying51 rfl info_sun (sun_fits _ _ Hh.out Ht.out) (sunC hs ts) (sun_all _ _ Hh.out Ht.out)) hHeld ?_
  simp only [List.setIfInBounds_toArray, List.set_cons_zero, List.set_cons_succ]
  refine take_op (i := 2) (d := 13) (v := ?_) rfl rfl (by kernel_rfl) (by kernel_rfl) (by kernel_rfl) (fun _ _ _ h => h) (Or.inl ⟨by rfl, ?hy2u37⟩) hHeld ?rest2u37
  case hy2u37 =>
    intro w' hS'
    go_simp
    try with_reducible rfl
  simp only [List.setIfInBounds_toArray, List.set_cons_zero, List.set_cons_succ]
  refine wpAnyH_ready (rs := [3]) (by kernel_rfl) (by simp) ?_
  refine AllReadyH.cons rfl (fun K hK => ?_) AllReadyH.nil
  go_simp
  refine (isHour_is hour true Hi.out _).mono ?_
  rintro e w' ⟨rfl, rfl⟩
  refine hK.out _ _ (hHeld) (fun hHeld2 => ?_)
  clear hK K
  replace hHeld := hHeld2
  clear hHeld2
  refine take_op (i := 4) (d := 15) (v := ?_) rfl rfl (by kernel_rfl) (by kernel_rfl) (by kernel_rfl) (fun _ _ _ h => h) (Or.inl ⟨by rfl, ?hy4u38⟩) hHeld ?rest4u38
  case hy4u38 =>
    intro w' hS'
    go_simp
    try with_reducible rfl
  simp only [List.setIfInBounds_toArray, List.set_cons_zero, List.set_cons_succ]
  refine take_op (i := 5) (d := 16) (v := ?_) rfl rfl (by kernel_rfl) (by kernel_rfl) (by kernel_rfl) (fun _ _ _ h => h) (Or.inl ⟨by rfl, ?hy5u39⟩) hHeld ?rest5u39
  case hy5u39 =>
    intro w' hS'
    go_simp
    try with_reducible rfl
  simp only [List.setIfInBounds_toArray, List.set_cons_zero, List.set_cons_succ]
  refine wpAnyH_ready (rs := [6]) (by kernel_rfl) (by simp) ?_
  refine AllReadyH.cons rfl (fun K hK => ?_) AllReadyH.nil
  go_simp
  refine (isFacing_is facing p Hf.out _).mono ?_
  rintro e w' ⟨rfl, rfl⟩
  refine hK.out _ _ (hHeld) (fun hHeld2 => ?_)
  clear hK K
  replace hHeld := hHeld2
  clear hHeld2
  refine take_op (i := 7) (d := 18) (v := ?_) rfl rfl (by kernel_rfl) (by kernel_rfl) (by kernel_rfl) (fun _ _ _ h => h) (Or.inl ⟨by rfl, ?hy7u40⟩) hHeld ?rest7u40
  case hy7u40 =>
    intro w' hS'
    go_simp
    try with_reducible rfl
  simp only [List.setIfInBounds_toArray, List.set_cons_zero, List.set_cons_succ]
  refine wpAnyH_ready (rs := [8]) (by kernel_rfl) (by simp) ?_
  refine AllReadyH.cons rfl (fun K hK => ?_) AllReadyH.nil
  go_simp
  refine (checkBS_is n wd gp t sh hs ts Hh.out Ht.out T0 T1 p c Hc.out _).mono ?_
  rintro e W1 ⟨rfl, hb1⟩
  refine hK.out _ _ (⟨below_row hb1 hHeld.1, below_row hb1 hHeld.2.1, hHeld.2.2.trans (hb1.mono hHeld.2.2.size)⟩) (fun hHeld2 => ?_)
  clear hK K
  replace hHeld := hHeld2
  clear hHeld2
  refine take_op (i := 9) (d := 10) (v := ?_) rfl rfl (by kernel_rfl) (by kernel_rfl) (by kernel_rfl) (fun _ _ _ h => h) (Or.inl ⟨by rfl, ?hy9u41⟩) hHeld ?rest9u41
  case hy9u41 =>
    intro w' hS'
    go_simp
    try with_reducible rfl
  simp only [List.setIfInBounds_toArray, List.set_cons_zero, List.set_cons_succ]
  refine wpAnyH_done (by kernel_rfl) ?_ _
  have hbx := hHeld.2.2
  clear hHeld h0 h1 hb
  go_wp2
  go_ret2
  exact ⟨rfl, hbx⟩


end Go.Proofs.Yteagbfobnjfhcab
