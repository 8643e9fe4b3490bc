/-
  TiltsAt.
-/
import Derived.Test.YtdbleddcnknmiaaGreatDoorMg5
import Derived.Test.YtdbleddcnknmiaaGreatDoorLawH
import Derived.Test.YtdbleddcnknmiaaGreatDoorCards
import Derived.Test.YtdbleddcnknmiaaGreatDoorTie
import Derived.SevenTiedAt

namespace Go.Proofs.YtdbleddcnknmiaaGreatDoor
open Go.ChangeShapes Go.WideShapes Go.ChangeAt Go.RowKit Go.Deep Go.Joins

attribute [local go_sem] run_store_f

set_option maxRecDepth 100000 in
set_option maxHeartbeats 4000000 in
theorem FnExactTiltsAt_core (n : Int) (wd gp : Nat) (t : Int) (sh : Nat) (hs ts : List Int) (hh : hs.length = 24) (ht : ts.length = 24) (fc hour : Int) (lo hi : Nat) (xs : List Int) (c : Int) (hn : xs.length ≤ 1000) 
    (hspec : ∀ w, Calls Tryz.prog 19 #[.agg (blindC n wd gp t sh), .agg (sunC hs ts), .int .i64 fc, .int .i64 hour, .float .f32 lo, .float .f32 hi] w (RetList xs c w)) (himpl : ∀ w, ErrT w → Calls Tryz.prog 20 #[.agg (blindC n wd gp t sh), .agg (sunC hs ts), .int .i64 fc, .int .i64 hour, .float .f32 lo, .float .f32 hi] w (RetList xs c w)) (w : World) (hE : ErrT w) :
    Calls Tryz.prog 6 #[.agg (blindC n wd gp t sh), .agg (sunC hs ts), .int .i64 fc, .int .i64 hour, .float .f32 lo, .float .f32 hi] w fun e w' => e = .returned (.bool true) ∧ Below w.heap.size w w' := by
  have HS := Lib.hid hspec
  have HI := Lib.hid himpl
  have Hh := Lib.hid hh
  have Ht := Lib.hid ht
  have HX := Lib.hid hE
  clear hspec himpl hE hh ht
  go_enter Tryz.func6, Tryz.ntmps6
  go_upto_region 1 with (fail)
  refine abs_code (fun W => W.heap[w.heap.size]? = some (.cells (blindC n wd gp t sh) 26 (0, 0)) ∧ W.heap[w.heap.size + 1]? = some (.cells (sunC hs ts) 29 (0, 0)) ∧ Below w.heap.size w W) ⟨(two_newQ _ _ _).1, (two_newQ _ _ _).2.1, (two_newQ _ _ _).2.2⟩ ?_
  rintro W ⟨h0, h1, hb⟩
  generalize w.heap.size + 1 = b1 at *
  have H0 := Lib.hid h0
  have H1 := Lib.hid h1
  clear h0 h1
  refine wp_region_held_drew (S := (fun V => Below W.heap.size W V)) (by kernel_rfl) (Below.refl _ _).drew (fun hHeld => ?_)
  refine take_op (i := 0) (d := 22) (v := .agg (blindC n wd gp t sh)) rfl rfl (by kernel_rfl) (by kernel_rfl) (by kernel_rfl) (fun _ _ _ h => h) (yields_row (by rfl) 26 (.tmp 6) (by rfl) w.heap.size 0 5 (by rfl) 26 (blindC n wd gp t sh) (0, 0) _ (fun _ h => below_row h H0.out) Tryz.underlying26 rfl info_blindL (blind_fits _ _ _ _ _) (blindC n wd gp t sh) (blind_all _ _ _ _ _)) hHeld ?_
  simp only [List.setIfInBounds_toArray, List.set_cons_zero, List.set_cons_succ]
  refine take_op (i := 2) (d := 24) (v := .agg (sunC hs ts)) rfl rfl (by kernel_rfl) (by kernel_rfl) (by kernel_rfl) (fun _ _ _ h => h) (yields_row (by rfl) 29 (.tmp 7) (by rfl) b1 0 48 (by rfl) 29 (sunC hs ts) (0, 0) _ (fun _ h => below_row h H1.out) Tryz.underlying29 rfl info_sunL (sun_fits _ _ Hh.out Ht.out) (sunC hs ts) (sun_all _ _ Hh.out Ht.out)) hHeld ?_
  simp only [List.setIfInBounds_toArray, List.set_cons_zero, List.set_cons_succ]
  refine take_op (i := 4) (d := 26) (v := ?_) rfl rfl (by kernel_rfl) (by kernel_rfl) (by kernel_rfl) (fun _ _ _ h => h) (Or.inl ⟨by rfl, ?hy4u208⟩) hHeld ?rest4u208
  case hy4u208 =>
    intro w' hS'
    go_simp
    try with_reducible rfl
  simp only [List.setIfInBounds_toArray, List.set_cons_zero, List.set_cons_succ]
  refine take_op (i := 5) (d := 27) (v := ?_) rfl rfl (by kernel_rfl) (by kernel_rfl) (by kernel_rfl) (fun _ _ _ h => h) (Or.inl ⟨by rfl, ?hy5u209⟩) hHeld ?rest5u209
  case hy5u209 =>
    intro w' hS'
    go_simp
    try with_reducible rfl
  simp only [List.setIfInBounds_toArray, List.set_cons_zero, List.set_cons_succ]
  refine take_op (i := 6) (d := 28) (v := ?_) rfl rfl (by kernel_rfl) (by kernel_rfl) (by kernel_rfl) (fun _ _ _ h => h) (Or.inl ⟨by rfl, ?hy6u210⟩) hHeld ?rest6u210
  case hy6u210 =>
    intro w' hS'
    go_simp
    try with_reducible rfl
  simp only [List.setIfInBounds_toArray, List.set_cons_zero, List.set_cons_succ]
  refine take_op (i := 7) (d := 29) (v := ?_) rfl rfl (by kernel_rfl) (by kernel_rfl) (by kernel_rfl) (fun _ _ _ h => h) (Or.inl ⟨by rfl, ?hy7u211⟩) hHeld ?rest7u211
  case hy7u211 =>
    intro w' hS'
    go_simp
    try with_reducible rfl
  simp only [List.setIfInBounds_toArray, List.set_cons_zero, List.set_cons_succ]
  refine wpAnyH_ready (rs := [1]) (by kernel_rfl) (by simp) ?_
  refine AllReadyH.cons rfl (fun K hK => ?_) AllReadyH.nil
  go_simp
  refine (toBlind_any _ _ _ _ _ _).mono ?_
  rintro e W1 ⟨rfl, hb1⟩
  refine hK.out _ _ (hHeld.trans (hb1.mono hHeld.size)) (fun hHeld2 => ?_)
  clear hK K
  replace hHeld := hHeld2
  clear hHeld2
  clear hb1
  refine wpAnyH_ready (rs := [3]) (by kernel_rfl) (by simp) ?_
  refine AllReadyH.cons rfl (fun K hK => ?_) AllReadyH.nil
  go_simp
  refine (toSun_any hs ts Hh.out Ht.out _).mono ?_
  rintro e W1 ⟨rfl, hb1⟩
  refine hK.out _ _ (hHeld.trans (hb1.mono hHeld.size)) (fun hHeld2 => ?_)
  clear hK K
  replace hHeld := hHeld2
  clear hHeld2
  clear hb1
  refine wpAnyH_ready (rs := [8]) (by kernel_rfl) (by simp) ?_
  refine AllReadyH.cons rfl (fun K hK => ?_) AllReadyH.nil
  go_simp
  refine (HS.out _).mono ?_
  rintro e V1 ⟨⟨v0, rfl, hv0⟩, hb1⟩
  refine hK.out _ _ (hHeld.trans (hb1.mono hHeld.size)) (fun hHeld2 => ?_)
  clear hK K
  replace hHeld := hHeld2
  clear hHeld2
  clear hb1
  refine take_op (i := 9) (d := 21) (v := ?_) rfl rfl (by kernel_rfl) (by kernel_rfl) (by kernel_rfl) (fun _ _ _ h => h) (Or.inl ⟨by rfl, ?hy9u212⟩) hHeld ?rest9u212
  case hy9u212 =>
    intro w' hS'
    go_simp
    try with_reducible rfl
  simp only [List.setIfInBounds_toArray, List.set_cons_zero, List.set_cons_succ]
  refine take_op (i := 10) (d := 31) (v := ?_) rfl rfl (by kernel_rfl) (by kernel_rfl) (by kernel_rfl) (fun _ _ _ h => h) (Or.inl ⟨by rfl, ?hy10u213⟩) hHeld ?rest10u213
  case hy10u213 =>
    intro w' hS'
    go_simp
    try with_reducible rfl
  simp only [List.setIfInBounds_toArray, List.set_cons_zero, List.set_cons_succ]
  refine take_op (i := 11) (d := 32) (v := ?_) rfl rfl (by kernel_rfl) (by kernel_rfl) (by kernel_rfl) (fun _ _ _ h => h) (Or.inl ⟨by rfl, ?hy11u214⟩) hHeld ?rest11u214
  case hy11u214 =>
    intro w' hS'
    go_simp
    try with_reducible rfl
  simp only [List.setIfInBounds_toArray, List.set_cons_zero, List.set_cons_succ]
  refine take_op (i := 12) (d := 13) (v := ?_) rfl rfl (by kernel_rfl) (by kernel_rfl) (by kernel_rfl) (fun _ _ _ h => h) (Or.inl ⟨by rfl, ?hy12u215⟩) hHeld ?rest12u215
  case hy12u215 =>
    intro w' hS'
    go_simp
    try with_reducible rfl
  simp only [List.setIfInBounds_toArray, List.set_cons_zero, List.set_cons_succ]
  refine take_op (i := 13) (d := 14) (v := ?_) rfl rfl (by kernel_rfl) (by kernel_rfl) (by kernel_rfl) (fun _ _ _ h => h) (Or.inl ⟨by rfl, ?hy13u216⟩) hHeld ?rest13u216
  case hy13u216 =>
    intro w' hS'
    go_simp
    try with_reducible rfl
  simp only [List.setIfInBounds_toArray, List.set_cons_zero, List.set_cons_succ]
  refine wpAnyH_done (by kernel_rfl) ?_ _
  replace H0 := Lib.hid (below_row hHeld H0.out)
  replace H1 := Lib.hid (below_row hHeld H1.out)
  replace hb := hb.trans (hHeld.mono hb.size)
  clear hHeld
  clear HS
  go_upto_region 2 with (fail)
  refine wp_region_held_drew (S := (fun V => Below V1.heap.size V1 V)) (by kernel_rfl) (Below.refl _ _).drew (fun hHeld => ?_)
  refine take_op (i := 0) (d := 34) (v := .agg (blindC n wd gp t sh)) rfl rfl (by kernel_rfl) (by kernel_rfl) (by kernel_rfl) (fun _ _ _ h => h) (yields_row (by rfl) 26 (.tmp 6) (by rfl) w.heap.size 0 5 (by rfl) 26 (blindC n wd gp t sh) (0, 0) _ (fun _ h => below_row h H0.out) Tryz.underlying26 rfl info_blindL (blind_fits _ _ _ _ _) (blindC n wd gp t sh) (blind_all _ _ _ _ _)) hHeld ?_
  simp only [List.setIfInBounds_toArray, List.set_cons_zero, List.set_cons_succ]
  refine take_op (i := 2) (d := 36) (v := .agg (sunC hs ts)) rfl rfl (by kernel_rfl) (by kernel_rfl) (by kernel_rfl) (fun _ _ _ h => h) (yields_row (by rfl) 29 (.tmp 7) (by rfl) b1 0 48 (by rfl) 29 (sunC hs ts) (0, 0) _ (fun _ h => below_row h H1.out) Tryz.underlying29 rfl info_sunL (sun_fits _ _ Hh.out Ht.out) (sunC hs ts) (sun_all _ _ Hh.out Ht.out)) hHeld ?_
  simp only [List.setIfInBounds_toArray, List.set_cons_zero, List.set_cons_succ]
  refine take_op (i := 4) (d := 38) (v := ?_) rfl rfl (by kernel_rfl) (by kernel_rfl) (by kernel_rfl) (fun _ _ _ h => h) (Or.inl ⟨by rfl, ?hy4u217⟩) hHeld ?rest4u217
  case hy4u217 =>
    intro w' hS'
    go_simp
    try with_reducible rfl
  simp only [List.setIfInBounds_toArray, List.set_cons_zero, List.set_cons_succ]
  refine take_op (i := 5) (d := 39) (v := ?_) rfl rfl (by kernel_rfl) (by kernel_rfl) (by kernel_rfl) (fun _ _ _ h => h) (Or.inl ⟨by rfl, ?hy5u218⟩) hHeld ?rest5u218
  case hy5u218 =>
    intro w' hS'
    go_simp
    try with_reducible rfl
  simp only [List.setIfInBounds_toArray, List.set_cons_zero, List.set_cons_succ]
  refine take_op (i := 6) (d := 40) (v := ?_) rfl rfl (by kernel_rfl) (by kernel_rfl) (by kernel_rfl) (fun _ _ _ h => h) (Or.inl ⟨by rfl, ?hy6u219⟩) hHeld ?rest6u219
  case hy6u219 =>
    intro w' hS'
    go_simp
    try with_reducible rfl
  simp only [List.setIfInBounds_toArray, List.set_cons_zero, List.set_cons_succ]
  refine take_op (i := 7) (d := 41) (v := ?_) rfl rfl (by kernel_rfl) (by kernel_rfl) (by kernel_rfl) (fun _ _ _ h => h) (Or.inl ⟨by rfl, ?hy7u220⟩) hHeld ?rest7u220
  case hy7u220 =>
    intro w' hS'
    go_simp
    try with_reducible rfl
  simp only [List.setIfInBounds_toArray, List.set_cons_zero, List.set_cons_succ]
  refine wpAnyH_ready (rs := [1]) (by kernel_rfl) (by simp) ?_
  refine AllReadyH.cons rfl (fun K hK => ?_) AllReadyH.nil
  go_simp
  refine (toBlind_any _ _ _ _ _ _).mono ?_
  rintro e W1 ⟨rfl, hb1⟩
  refine hK.out _ _ (hHeld.trans (hb1.mono hHeld.size)) (fun hHeld2 => ?_)
  clear hK K
  replace hHeld := hHeld2
  clear hHeld2
  clear hb1
  refine wpAnyH_ready (rs := [3]) (by kernel_rfl) (by simp) ?_
  refine AllReadyH.cons rfl (fun K hK => ?_) AllReadyH.nil
  go_simp
  refine (toSun_any hs ts Hh.out Ht.out _).mono ?_
  rintro e W1 ⟨rfl, hb1⟩
  refine hK.out _ _ (hHeld.trans (hb1.mono hHeld.size)) (fun hHeld2 => ?_)
  clear hK K
  replace hHeld := hHeld2
  clear hHeld2
  clear hb1
  have hle7 := hHeld.size
  have hxe := errT_below HX.out (hb.trans (hHeld.mono hb.size))
  refine wpAnyH_ready (rs := [8]) (by kernel_rfl) (by simp) ?_
  refine AllReadyH.cons rfl (fun K hK => ?_) AllReadyH.nil
  go_simp
  refine (HI.out _ hxe).mono ?_
  rintro e V2 ⟨⟨v1, rfl, hv1⟩, hb1⟩
  refine hK.out _ _ (hHeld.trans (hb1.mono hHeld.size)) (fun hHeld2 => ?_)
  clear hK K
  replace hHeld := hHeld2
  clear hHeld2
  clear hb1 hxe
  refine take_op (i := 9) (d := 33) (v := ?_) rfl rfl (by kernel_rfl) (by kernel_rfl) (by kernel_rfl) (fun _ _ _ h => h) (Or.inl ⟨by rfl, ?hy9u221⟩) hHeld ?rest9u221
  case hy9u221 =>
    intro w' hS'
    go_simp
    try with_reducible rfl
  simp only [List.setIfInBounds_toArray, List.set_cons_zero, List.set_cons_succ]
  refine take_op (i := 10) (d := 43) (v := ?_) rfl rfl (by kernel_rfl) (by kernel_rfl) (by kernel_rfl) (fun _ _ _ h => h) (Or.inl ⟨by rfl, ?hy10u222⟩) hHeld ?rest10u222
  case hy10u222 =>
    intro w' hS'
    go_simp
    try with_reducible rfl
  simp only [List.setIfInBounds_toArray, List.set_cons_zero, List.set_cons_succ]
  refine take_op (i := 11) (d := 44) (v := ?_) rfl rfl (by kernel_rfl) (by kernel_rfl) (by kernel_rfl) (fun _ _ _ h => h) (Or.inl ⟨by rfl, ?hy11u223⟩) hHeld ?rest11u223
  case hy11u223 =>
    intro w' hS'
    go_simp
    try with_reducible rfl
  simp only [List.setIfInBounds_toArray, List.set_cons_zero, List.set_cons_succ]
  refine take_op (i := 12) (d := 15) (v := ?_) rfl rfl (by kernel_rfl) (by kernel_rfl) (by kernel_rfl) (fun _ _ _ h => h) (Or.inl ⟨by rfl, ?hy12u224⟩) hHeld ?rest12u224
  case hy12u224 =>
    intro w' hS'
    go_simp
    try with_reducible rfl
  simp only [List.setIfInBounds_toArray, List.set_cons_zero, List.set_cons_succ]
  refine take_op (i := 13) (d := 16) (v := ?_) rfl rfl (by kernel_rfl) (by kernel_rfl) (by kernel_rfl) (fun _ _ _ h => h) (Or.inl ⟨by rfl, ?hy13u225⟩) hHeld ?rest13u225
  case hy13u225 =>
    intro w' hS'
    go_simp
    try with_reducible rfl
  simp only [List.setIfInBounds_toArray, List.set_cons_zero, List.set_cons_succ]
  refine wpAnyH_done (by kernel_rfl) ?_ _
  obtain ⟨BB, hv1, hu, hgB⟩ : ∃ B, Own V2 B 2 (Value.int .i64) v1 xs ∧ Under v0 B ∧ b1 < B ∧ w.heap.size < B := ⟨_, hv1, under_mono (under_of hv0) hle7, Nat.lt_of_lt_of_le (row_lt H1.out) hle7, Nat.lt_of_lt_of_le (row_lt H0.out) hle7⟩
  obtain ⟨hgC, hgB⟩ := hgB
  clear hle7
  replace H0 := Lib.hid (below_row hHeld H0.out)
  replace H1 := Lib.hid (below_row hHeld H1.out)
  replace hv0 := own_below hv0 hHeld (Nat.le_refl _)
  replace hb := hb.trans (hHeld.mono hb.size)
  clear hHeld
  have z0 : decide ((1 : Int) + (xs.length : Int) < 0) = false := by apply decide_eq_false; omega
  have zc : (c != c) = false := by simp
  have zn : ((1 : Int) + (xs.length : Int) != 1 + (xs.length : Int)) = false := by simp
  go_upto_region 5 with (go_at_call 21; refine (eqI_same xs v1 v0 _ _ _ hv1 hv0).mono ?_; rintro e W4 ⟨rfl, hb1⟩; replace H0 := Lib.hid (below_row hb1 H0.out); replace H1 := Lib.hid (below_row hb1 H1.out); replace hv0 := own_below hv0 hb1 (Nat.le_refl _); replace hv1 := own_below hv1 hb1 (Nat.le_refl _); replace hb := hb.trans (hb1.mono hb.size); clear hb1)
  go_upto_region 7 with (go_at_call 22; refine (markI_any 1 xs v1 BB _ (by decide) (by decide) (by omega) hv1).mono ?_; intro e W5 hm; have hA := above_of hv1; replace hv0 := own_marked hv0 hu hA hm; replace H0 := Lib.hid (row_marked H0.out hgB hA hm); replace H1 := Lib.hid (row_marked H1.out hgC hA hm); replace hb := hb.trans (hm.2.2.1.mono (Nat.le_of_lt hgB)); replace hv1 := hm.2.1; obtain rfl := hm.1; clear hm)
  go_upto_region 9 with (go_at_call 23; refine (heldI_same 1 xs.length v1 BB _ (by decide) (by decide) (by omega) hv1).mono ?_; rintro e W6 ⟨rfl, hb1⟩; replace H0 := Lib.hid (below_row hb1 H0.out); replace H1 := Lib.hid (below_row hb1 H1.out); replace hv0 := own_below hv0 hb1 (Nat.le_refl _); replace hv1 := own_below hv1 hb1 (Nat.le_refl _); replace hb := hb.trans (hb1.mono hb.size); clear hb1)
  go_upto_region 13 with (fail)
  refine wp_region_held_drew (S := (fun V => Below W6.heap.size W6 V)) (by kernel_rfl) (Below.refl _ _).drew (fun hHeld => ?_)
  refine take_op (i := 0) (d := 66) (v := .agg (blindC n wd gp t sh)) rfl rfl (by kernel_rfl) (by kernel_rfl) (by kernel_rfl) (fun _ _ _ h => h) (yields_row (by rfl) 26 (.tmp 6) (by rfl) w.heap.size 0 5 (by rfl) 26 (blindC n wd gp t sh) (0, 0) _ (fun _ h => below_row h H0.out) Tryz.underlying26 rfl info_blindL (blind_fits _ _ _ _ _) (blindC n wd gp t sh) (blind_all _ _ _ _ _)) hHeld ?_
  simp only [List.setIfInBounds_toArray, List.set_cons_zero, List.set_cons_succ]
  refine take_op (i := 2) (d := 68) (v := .agg (sunC hs ts)) rfl rfl (by kernel_rfl) (by kernel_rfl) (by kernel_rfl) (fun _ _ _ h => h) (yields_row (by rfl) 29 (.tmp 7) (by rfl) b1 0 48 (by rfl) 29 (sunC hs ts) (0, 0) _ (fun _ h => below_row h H1.out) Tryz.underlying29 rfl info_sunL (sun_fits _ _ Hh.out Ht.out) (sunC hs ts) (sun_all _ _ Hh.out Ht.out)) hHeld ?_
  simp only [List.setIfInBounds_toArray, List.set_cons_zero, List.set_cons_succ]
  refine take_op (i := 4) (d := 70) (v := ?_) rfl rfl (by kernel_rfl) (by kernel_rfl) (by kernel_rfl) (fun _ _ _ h => h) (Or.inl ⟨by rfl, ?hy4u226⟩) hHeld ?rest4u226
  case hy4u226 =>
    intro w' hS'
    go_simp
    try with_reducible rfl
  simp only [List.setIfInBounds_toArray, List.set_cons_zero, List.set_cons_succ]
  refine take_op (i := 5) (d := 71) (v := ?_) rfl rfl (by kernel_rfl) (by kernel_rfl) (by kernel_rfl) (fun _ _ _ h => h) (Or.inl ⟨by rfl, ?hy5u227⟩) hHeld ?rest5u227
  case hy5u227 =>
    intro w' hS'
    go_simp
    try with_reducible rfl
  simp only [List.setIfInBounds_toArray, List.set_cons_zero, List.set_cons_succ]
  refine take_op (i := 6) (d := 72) (v := ?_) rfl rfl (by kernel_rfl) (by kernel_rfl) (by kernel_rfl) (fun _ _ _ h => h) (Or.inl ⟨by rfl, ?hy6u228⟩) hHeld ?rest6u228
  case hy6u228 =>
    intro w' hS'
    go_simp
    try with_reducible rfl
  simp only [List.setIfInBounds_toArray, List.set_cons_zero, List.set_cons_succ]
  refine take_op (i := 7) (d := 73) (v := ?_) rfl rfl (by kernel_rfl) (by kernel_rfl) (by kernel_rfl) (fun _ _ _ h => h) (Or.inl ⟨by rfl, ?hy7u229⟩) hHeld ?rest7u229
  case hy7u229 =>
    intro w' hS'
    go_simp
    try with_reducible rfl
  simp only [List.setIfInBounds_toArray, List.set_cons_zero, List.set_cons_succ]
  refine wpAnyH_ready (rs := [1]) (by kernel_rfl) (by simp) ?_
  refine AllReadyH.cons rfl (fun K hK => ?_) AllReadyH.nil
  go_simp
  refine (toBlind_any _ _ _ _ _ _).mono ?_
  rintro e W1 ⟨rfl, hb1⟩
  refine hK.out _ _ (hHeld.trans (hb1.mono hHeld.size)) (fun hHeld2 => ?_)
  clear hK K
  replace hHeld := hHeld2
  clear hHeld2
  clear hb1
  refine wpAnyH_ready (rs := [3]) (by kernel_rfl) (by simp) ?_
  refine AllReadyH.cons rfl (fun K hK => ?_) AllReadyH.nil
  go_simp
  refine (toSun_any hs ts Hh.out Ht.out _).mono ?_
  rintro e W1 ⟨rfl, hb1⟩
  refine hK.out _ _ (hHeld.trans (hb1.mono hHeld.size)) (fun hHeld2 => ?_)
  clear hK K
  replace hHeld := hHeld2
  clear hHeld2
  clear hb1
  have hxe := errT_below HX.out (hb.trans (hHeld.mono hb.size))
  refine wpAnyH_ready (rs := [8]) (by kernel_rfl) (by simp) ?_
  refine AllReadyH.cons rfl (fun K hK => ?_) AllReadyH.nil
  go_simp
  refine (HI.out _ hxe).mono ?_
  rintro e V3 ⟨⟨v2, rfl, hv2⟩, hb1⟩
  refine hK.out _ _ (hHeld.trans (hb1.mono hHeld.size)) (fun hHeld2 => ?_)
  clear hK K
  replace hHeld := hHeld2
  clear hHeld2
  clear hb1 hxe
  refine take_op (i := 9) (d := 65) (v := ?_) rfl rfl (by kernel_rfl) (by kernel_rfl) (by kernel_rfl) (fun _ _ _ h => h) (Or.inl ⟨by rfl, ?hy9u230⟩) hHeld ?rest9u230
  case hy9u230 =>
    intro w' hS'
    go_simp
    try with_reducible rfl
  simp only [List.setIfInBounds_toArray, List.set_cons_zero, List.set_cons_succ]
  refine take_op (i := 10) (d := 75) (v := ?_) rfl rfl (by kernel_rfl) (by kernel_rfl) (by kernel_rfl) (fun _ _ _ h => h) (Or.inl ⟨by rfl, ?hy10u231⟩) hHeld ?rest10u231
  case hy10u231 =>
    intro w' hS'
    go_simp
    try with_reducible rfl
  simp only [List.setIfInBounds_toArray, List.set_cons_zero, List.set_cons_succ]
  refine take_op (i := 11) (d := 76) (v := ?_) rfl rfl (by kernel_rfl) (by kernel_rfl) (by kernel_rfl) (fun _ _ _ h => h) (Or.inl ⟨by rfl, ?hy11u232⟩) hHeld ?rest11u232
  case hy11u232 =>
    intro w' hS'
    go_simp
    try with_reducible rfl
  simp only [List.setIfInBounds_toArray, List.set_cons_zero, List.set_cons_succ]
  refine take_op (i := 12) (d := 19) (v := ?_) rfl rfl (by kernel_rfl) (by kernel_rfl) (by kernel_rfl) (fun _ _ _ h => h) (Or.inl ⟨by rfl, ?hy12u233⟩) hHeld ?rest12u233
  case hy12u233 =>
    intro w' hS'
    go_simp
    try with_reducible rfl
  simp only [List.setIfInBounds_toArray, List.set_cons_zero, List.set_cons_succ]
  refine take_op (i := 13) (d := 20) (v := ?_) rfl rfl (by kernel_rfl) (by kernel_rfl) (by kernel_rfl) (fun _ _ _ h => h) (Or.inl ⟨by rfl, ?hy13u234⟩) hHeld ?rest13u234
  case hy13u234 =>
    intro w' hS'
    go_simp
    try with_reducible rfl
  simp only [List.setIfInBounds_toArray, List.set_cons_zero, List.set_cons_succ]
  refine wpAnyH_done (by kernel_rfl) ?_ _
  replace hv0 := own_below hv0 hHeld (Nat.le_refl _)
  replace hv1 := own_below hv1 hHeld (Nat.le_refl _)
  replace hb := hb.trans (hHeld.mono hb.size)
  clear hHeld H0 H1 HI
  go_upto_region 16 with (go_at_call 21; refine (eqI_same xs v2 v0 _ _ _ hv2 hv0).mono ?_; rintro e W8 ⟨rfl, hb1⟩; replace hv1 := own_below hv1 hb1 (Nat.le_refl _); replace hb := hb.trans (hb1.mono hb.size); clear hb1)
  go_wp2_with (go_at_call 23; refine (heldI_same 1 xs.length v1 BB _ (by decide) (by decide) (by omega) hv1).mono ?_; rintro e W9 ⟨rfl, hb1⟩; replace hb := hb.trans (hb1.mono hb.size); clear hb1)
  go_ret
  exact ⟨rfl, hb⟩

theorem wantT_shortQ (P : Int → Bool) : (wantT P (tls 129)).length ≤ 1000 := by
  have h := wantT_len P (tls 129)
  rw [tls_length] at h
  omega

theorem cdP_notQ {okp okb oks : Bool} : cdP okp okb oks false ≠ 0 := fun h => by
  have := (cdP_yes h).2.2.2
  cases this

theorem lawTiltsAt_walk (n : Int) (wd gp : Nat) (t : Int) (sh : Nat) (bw : BlWf n wd gp t sh) (hs ts : List Int) (hh : hs.length = 24) (ht : ts.length = 24) (rb : ∀ x ∈ hs ++ ts, -32768 ≤ x ∧ x ≤ 32767) (fc hour : Int) (lo : Nat) (wlo : (Lit.float .f32 lo).wf = true) (hi : Nat) (whi : (Lit.float .f32 hi).wf = true) (W : World) (hE : ErrT W) :
    Calls Tryz.prog 6 #[.agg (blindC n wd gp t sh), .agg (sunC hs ts), .int .i64 fc, .int .i64 hour, .float .f32 lo, .float .f32 hi] W fun e w' => e = .returned (.bool true) ∧ Below W.heap.size W w' := by
  obtain ⟨T0, T1⟩ := blwf_t bw
  obtain ⟨N0, N1⟩ := blwf_n bw
  cases hf : inF fc with
  | false => exact FnExactTiltsAt_core n wd gp t sh hs ts hh ht fc hour lo hi _ _ (by simp) (fun w => sTiltsAt_F n wd gp t sh hs ts hh ht fc hour lo hi T0 T1 N0 N1 rb hf _ rfl cdP_notQ w) (fun w h => iTiltsAt_F n wd gp t sh hs ts hh ht fc hour lo hi T0 T1 hf _ rfl cdP_notQ w h) W hE
  | true =>
    cases hH : inH hour with
    | false => exact FnExactTiltsAt_core n wd gp t sh hs ts hh ht fc hour lo hi _ _ (by simp) (fun w => sTiltsAt_H n wd gp t sh hs ts hh ht fc hour lo hi T0 T1 N0 N1 rb hf hH _ rfl cdP_notQ w) (fun w h => iTiltsAt_H n wd gp t sh hs ts hh ht fc hour lo hi T0 T1 hf hH _ rfl cdP_notQ w h) W hE
    | true =>
      cases hlo : partB lo with
      | false => exact FnExactTiltsAt_core n wd gp t sh hs ts hh ht fc hour lo hi _ _ (by simp) (fun w => sTiltsAt_T n wd gp t sh hs ts hh ht fc hour lo hi T0 T1 N0 N1 rb hf hH hlo _ rfl cdP_notQ w) (fun w h => iTiltsAt_T n wd gp t sh hs ts hh ht fc hour lo hi T0 T1 hf hH hlo _ rfl cdP_notQ w h) W hE
      | true =>
        cases hhi : partB hi with
        | false => exact FnExactTiltsAt_core n wd gp t sh hs ts hh ht fc hour lo hi _ _ (by simp) (fun w => sTiltsAt_TT n wd gp t sh hs ts hh ht fc hour lo hi T0 T1 N0 N1 rb hf hH hlo false hhi _ rfl cdP_notQ w) (fun w h => iTiltsAt_TT n wd gp t sh hs ts hh ht fc hour lo hi T0 T1 hf hH hlo false hhi _ rfl cdP_notQ w h) W hE
        | true =>
          by_cases hc : cdP true (okBl n wd gp t sh) (okB hs ts) true = 0
          · exact FnExactTiltsAt_core n wd gp t sh hs ts hh ht fc hour lo hi _ _ (wantT_shortQ _) (fun w => sTiltsAt_yes n wd gp t sh hs ts hh ht fc hour lo hi bw T0 T1 N0 N1 rb hf hH hlo hhi wlo whi hc w) (fun w _ => iTiltsAt_yes n wd gp t sh hs ts hh ht fc hour lo hi bw T0 T1 hf hH hlo hhi hc w) W hE
          · exact FnExactTiltsAt_core n wd gp t sh hs ts hh ht fc hour lo hi _ _ (by simp) (fun w => sTiltsAt_TT n wd gp t sh hs ts hh ht fc hour lo hi T0 T1 N0 N1 rb hf hH hlo true hhi _ rfl hc w) (fun w h => iTiltsAt_TT n wd gp t sh hs ts hh ht fc hour lo hi T0 T1 hf hH hlo true hhi _ rfl hc w h) W hE

set_option maxRecDepth 100000 in
set_option maxHeartbeats 4000000 in
theorem FnExactTiltsAt_row : Rows.FnExactTiltsAtSaid :=
  OpenClaim.holds_of_wide 6 Tryz.f6 rfl rfl rfl rfl rfl rfl rfl ⟨rfl, rfl, rfl, rfl, rfl⟩ rfl rfl rfl rfl rfl (by as_aux_lemma => kernel_rfl) Tryz.func6 (by as_aux_lemma => kernel_rfl)
    (of_decide_eq_true (by as_aux_lemma => kernel_rfl)) (by unfold Func.isWrapper; first | (rw [if_pos (by decide +kernel)]; kernel_rfl) | (rw [if_neg (by decide +kernel)]; exact ⟨rfl, rfl⟩))
    (fun os started H enc _ => law_liftedH 6 Tryz.f6 Rows.fnExactTiltsAtSpec Rows.fnExactTiltsAtRow.domain os started H enc (by as_aux_lemma => kernel_rfl) Tryz.func6 rfl rfl
      (by rw [Tryz.params6]; intro t ht; simp only [List.mem_cons, List.not_mem_nil, or_false] at ht; rcases ht with rfl | rfl | rfl | rfl | rfl | rfl <;> exact ⟨by as_aux_lemma => kernel_rfl, of_decide_eq_true (by as_aux_lemma => kernel_rfl)⟩)
      (fun ds hl => by
        match ds, hl with
        | [d0, d1, d2, d3, d4, d5], _ => rfl)
      (ChangeSpec.witness_at (enc := enc) (C := Tryz.checked) (os := os) (X := MetH) false (laidWorld os) #[.agg #[.int .i8 0, .float .f32 0, .float .f32 0, .int .i16 0, .float .f32 0], .agg #[.int .i16 0, .int .i16 0, .int .i16 0, .int .i16 0, .int .i16 0, .int .i16 0, .int .i16 0, .int .i16 0, .int .i16 0, .int .i16 0, .int .i16 0, .int .i16 0, .int .i16 0, .int .i16 0, .int .i16 0, .int .i16 0, .int .i16 0, .int .i16 0, .int .i16 0, .int .i16 0, .int .i16 0, .int .i16 0, .int .i16 0, .int .i16 0, .int .i16 0, .int .i16 0, .int .i16 0, .int .i16 0, .int .i16 0, .int .i16 0, .int .i16 0, .int .i16 0, .int .i16 0, .int .i16 0, .int .i16 0, .int .i16 0, .int .i16 0, .int .i16 0, .int .i16 0, .int .i16 0, .int .i16 0, .int .i16 0, .int .i16 0, .int .i16 0, .int .i16 0, .int .i16 0, .int .i16 0, .int .i16 0], .int .i64 0, .int .i64 0, .float .f32 0, .float .f32 0] 8 rfl (by as_aux_lemma => kernel_rfl) (by as_aux_lemma => kernel_rfl) (by as_aux_lemma => kernel_rfl) (by as_aux_lemma => kernel_rfl) (by as_aux_lemma => kernel_rfl) (laidWorld_met os _))
      (fun W base args ds p hval hA hL => by
        rw [Tryz.params6] at hA hval
        obtain ⟨v0, vs0, d0, ds0, p0, q0, hargs, rfl, rfl, h0, r0⟩ := trodAll_cons hA
        obtain ⟨v1, vs1, d1, ds1, p1, q1, rfl, rfl, rfl, h1, r1⟩ := trodAll_cons r0
        obtain ⟨v2, vs2, d2, ds2, p2, q2, rfl, rfl, rfl, h2, r2⟩ := trodAll_cons r1
        obtain ⟨v3, vs3, d3, ds3, p3, q3, rfl, rfl, rfl, h3, r3⟩ := trodAll_cons r2
        obtain ⟨v4, vs4, d4, ds4, p4, q4, rfl, rfl, rfl, h4, r4⟩ := trodAll_cons r3
        obtain ⟨v5, vs5, d5, ds5, p5, q5, rfl, rfl, rfl, h5, r5⟩ := trodAll_cons r4
        obtain ⟨rfl, rfl, rfl⟩ := trodAll_nil r5
        obtain rfl : args = #[v0, v1, v2, v3, v4, v5] := by cases args; simp_all
        obtain ⟨n0, wd0, gp0, t0, sh0, bw0, rfl⟩ := open_blind (hval 0 26 v0 rfl rfl) h0
        obtain ⟨hs1, ts1, hh1, ht1, rb1, rfl⟩ := open_sun (hval 1 29 v1 rfl rfl) h1
        obtain ⟨a2, rfl, rfl, rfl, w2⟩ := open_int Tryz.underlying2 (hval 2 2 v2 rfl rfl) h2
        obtain ⟨a3, rfl, rfl, rfl, w3⟩ := open_int Tryz.underlying2 (hval 3 2 v3 rfl rfl) h3
        obtain ⟨a4, rfl, rfl, rfl, w4⟩ := open_float Tryz.underlying23 (hval 4 23 v4 rfl rfl) h4
        obtain ⟨a5, rfl, rfl, rfl, w5⟩ := open_float Tryz.underlying23 (hval 5 23 v5 rfl rfl) h5
        have hE := handle_of_laid hL
        exact lawTiltsAt_walk n0 wd0 gp0 t0 sh0 bw0 hs1 ts1 hh1 ht1 rb1 a2 a3 a4 w4 a5 w5 W  hE))

set_option maxRecDepth 100000 in
theorem FnExactTiltsAt_holds : Rows.FnExactTiltsAtCardSaid :=
  Claim7.holds_tied_plain_at .later [] [.handle] true Rows.fnExactTiltsAtCard.stood.harness true
    FnExactTiltsAt_row (fun _ h => by cases h) (by kernel_rfl) (fun _ h => by cases h) fnExactTiltsAt_row_tie rfl ⟨rfl, rfl⟩ (by kernel_rfl) rfl
    (fun f fn hf hfn => by
      obtain rfl : f = 6 := Option.some.inj ((show Tryz.prog.funcNamed "loop.example/g01367/laws.FnExactTiltsAt" = some 6 by kernel_rfl).symm.trans hf) |>.symm
      obtain rfl : fn = Tryz.f6 := (Option.some.inj (Tryz.func6.symm.trans hfn)).symm
      exact ⟨by kernel_rfl, fun j t ht => by
        rw [Tryz.params6] at ht
        have hm : t ∈ [26, 29, 2, 2, 23, 23] := by
          have := Array.mem_of_getElem? ht
          simpa using this
        simp only [List.mem_cons, List.not_mem_nil, or_false] at hm
        rcases hm with rfl | rfl | rfl | rfl | rfl | rfl <;> (show Tryz.prog.wantsStandIn _ = false; kernel_rfl)⟩)
    (by kernel_rfl)
#print axioms FnExactTiltsAt_holds

end Go.Proofs.YtdbleddcnknmiaaGreatDoor
