/-
  PlanLight.
-/
import Derived.Test.YtdbleddcnknmiaaGreatDoorMg6
import Derived.Test.YtdbleddcnknmiaaGreatDoorLawH
import Derived.Test.YtdbleddcnknmiaaGreatDoorCards
import Derived.Test.YtdbleddcnknmiaaGreatDoorTie
import Derived.SevenTiedAt

namespace Go.Proofs.YtdbleddcnknmiaaGreatDoor
open Go.ChangeShapes Go.WideShapes Go.ChangeAt Go.RowKit Go.Deep Go.Joins

attribute [local go_sem] run_store_f

theorem own_markedQ {α : Type} {w w' : World} {b B : Nat} {E : TypeId} {mk : α → Value} {v v1 : Value} {xs : List α} {m : Int} {n : Nat} {e : Ending} {E1 : TypeId} (h : Own w b E mk v xs) (hu : Under v B) (ha : Above v1 B) (hm : MarkedF w E1 B v1 m n e w') : Own w' b E mk v xs := by
  obtain ⟨a, c, rfl, h2, h3, h4⟩ := h
  refine ⟨a, c, rfl, h2, h3, h4.imp id ?_⟩
  rintro ⟨g, cur, rfl, hg, hc, hk⟩
  refine ⟨g, cur, rfl, hg, hm.2.2.2 g _ hc ?_, hk⟩
  intro g' n' c' e'
  have h5 := hu g _ _ rfl
  have h6 := ha g' _ _ e'
  omega

theorem row_markedQ {w w' : World} {B g : Nat} {v1 : Value} {m : Int} {n : Nat} {e : Ending} {E1 : TypeId} {o : Obj} (h : w.heap[g]? = some o) (hg : g < B) (ha : Above v1 B) (hm : MarkedF w E1 B v1 m n e w') : w'.heap[g]? = some o := by
  refine hm.2.2.2 g _ h ?_
  intro g' n' c' e'
  have h6 := ha g' _ _ e'
  omega

set_option maxRecDepth 100000 in
set_option maxHeartbeats 4000000 in
theorem FnExactPlanLight_core (n : Int) (wd gp : Nat) (t : Int) (sh : Nat) (hs ts : List Int) (hh : hs.length = 24) (ht : ts.length = 24) (fc : Int) (ps : List Int) (hp : ps.length = 24) (xs : List Nat) (c : Int) (hn : xs.length ≤ 1000) (hfin : ∀ x ∈ xs, fin32 x = true) 
    (hspec : ∀ w, Calls Tryz.prog 7 #[.agg (blindC n wd gp t sh), .agg (sunC hs ts), .int .i64 fc, .agg (i16s ps)] w (RetFQ xs c w)) (himpl : ∀ w, ErrT w → Calls Tryz.prog 11 #[.agg (blindC n wd gp t sh), .agg (sunC hs ts), .int .i64 fc, .agg (i16s ps)] w (RetFQ xs c w)) (w : World) (hE : ErrT w) :
    Calls Tryz.prog 3 #[.agg (blindC n wd gp t sh), .agg (sunC hs ts), .int .i64 fc, .agg (i16s ps)] w fun e w' => e = .returned (.bool true) ∧ Below w.heap.size w w' := by
  have HS := Lib.hid hspec
  have HI := Lib.hid himpl
  have HFI := Lib.hid hfin
  have Hh := Lib.hid hh
  have Ht := Lib.hid ht
  have Hp := Lib.hid hp
  clear hh ht hp
  have HX := Lib.hid hE
  clear hspec himpl hE hfin
  go_enter Tryz.func3, Tryz.ntmps3
  go_upto_region 1 with (fail)
  refine abs_code (fun W => W.heap[w.heap.size]? = some (.cells (blindC n wd gp t sh) 26 (0, 0)) ∧ W.heap[w.heap.size + 1]? = some (.cells (sunC hs ts) 29 (0, 0)) ∧ W.heap[w.heap.size + 1 + 1]? = some (.cells (i16s ps) 27 (0, 0)) ∧ Below w.heap.size w W) ⟨(three_new _ _ _ _).1, (three_new _ _ _ _).2.1, (three_new _ _ _ _).2.2.1, (three_new _ _ _ _).2.2.2⟩ ?_
  rintro W ⟨h0, h1, h2, hb⟩
  generalize w.heap.size + 1 + 1 = b2 at *
  generalize w.heap.size + 1 = b1 at *
  have H0 := Lib.hid h0
  have H1 := Lib.hid h1
  have H2 := Lib.hid h2
  clear h0 h1 h2
  refine wp_region_held_drew (S := (fun V => Below W.heap.size W V)) (by kernel_rfl) (Below.refl _ _).drew (fun hHeld => ?_)
  refine take_op (i := 0) (d := 18) (v := .agg (blindC n wd gp t sh)) rfl rfl (by kernel_rfl) (by kernel_rfl) (by kernel_rfl) (fun _ _ _ h => h) (yields_row (by rfl) 26 (.tmp 4) (by rfl) w.heap.size 0 5 (by rfl) 26 (blindC n wd gp t sh) (0, 0) _ (fun _ h => below_row h H0.out) Tryz.underlying26 rfl info_blindL (blind_fits _ _ _ _ _) (blindC n wd gp t sh) (blind_all _ _ _ _ _)) hHeld ?_
  simp only [List.setIfInBounds_toArray, List.set_cons_zero, List.set_cons_succ]
  refine take_op (i := 2) (d := 20) (v := .agg (sunC hs ts)) rfl rfl (by kernel_rfl) (by kernel_rfl) (by kernel_rfl) (fun _ _ _ h => h) (yields_row (by rfl) 29 (.tmp 5) (by rfl) b1 0 48 (by rfl) 29 (sunC hs ts) (0, 0) _ (fun _ h => below_row h H1.out) Tryz.underlying29 rfl info_sunL (sun_fits _ _ Hh.out Ht.out) (sunC hs ts) (sun_all _ _ Hh.out Ht.out)) hHeld ?_
  simp only [List.setIfInBounds_toArray, List.set_cons_zero, List.set_cons_succ]
  refine take_op (i := 4) (d := 22) (v := ?_) rfl rfl (by kernel_rfl) (by kernel_rfl) (by kernel_rfl) (fun _ _ _ h => h) (Or.inl ⟨by rfl, ?hy4u216⟩) hHeld ?rest4u216
  case hy4u216 =>
    intro w' hS'
    go_simp
    try with_reducible rfl
  simp only [List.setIfInBounds_toArray, List.set_cons_zero, List.set_cons_succ]
  refine take_op (i := 5) (d := 23) (v := .agg (i16s ps)) rfl rfl (by kernel_rfl) (by kernel_rfl) (by kernel_rfl) (fun _ _ _ h => h) (yields_row (by rfl) 27 (.tmp 7) (by rfl) b2 0 24 (by rfl) 27 (i16s ps) (0, 0) _ (fun _ h => below_row h H2.out) Tryz.underlying27 rfl info_arr (by rw [i16s_size, Hp.out]; decide) (i16s ps) (i16s_all _ 24 Hp.out)) hHeld ?_
  simp only [List.setIfInBounds_toArray, List.set_cons_zero, List.set_cons_succ]
  refine wpAnyH_ready (rs := [1]) (by kernel_rfl) (by simp) ?_
  refine AllReadyH.cons rfl (fun K hK => ?_) AllReadyH.nil
  go_simp
  refine (toBlind_any _ _ _ _ _ _).mono ?_
  rintro e W1 ⟨rfl, hb1⟩
  refine hK.out _ _ (hHeld.trans (hb1.mono hHeld.size)) (fun hHeld2 => ?_)
  clear hK K
  replace hHeld := hHeld2
  clear hHeld2
  clear hb1
  refine wpAnyH_ready (rs := [3]) (by kernel_rfl) (by simp) ?_
  refine AllReadyH.cons rfl (fun K hK => ?_) AllReadyH.nil
  go_simp
  refine (toSun_any hs ts Hh.out Ht.out _).mono ?_
  rintro e W1 ⟨rfl, hb1⟩
  refine hK.out _ _ (hHeld.trans (hb1.mono hHeld.size)) (fun hHeld2 => ?_)
  clear hK K
  replace hHeld := hHeld2
  clear hHeld2
  clear hb1
  refine wpAnyH_ready (rs := [6]) (by kernel_rfl) (by simp) ?_
  refine AllReadyH.cons rfl (fun K hK => ?_) AllReadyH.nil
  go_simp
  refine (toPlan_any ps Hp.out _).mono ?_
  rintro e W1 ⟨rfl, hb1⟩
  refine hK.out _ _ (hHeld.trans (hb1.mono hHeld.size)) (fun hHeld2 => ?_)
  clear hK K
  replace hHeld := hHeld2
  clear hHeld2
  clear hb1
  refine wpAnyH_ready (rs := [7]) (by kernel_rfl) (by simp) ?_
  refine AllReadyH.cons rfl (fun K hK => ?_) AllReadyH.nil
  go_simp
  refine (HS.out _).mono ?_
  rintro e V1 ⟨⟨v0, rfl, hv0⟩, hb1⟩
  refine hK.out _ _ (hHeld.trans (hb1.mono hHeld.size)) (fun hHeld2 => ?_)
  clear hK K
  replace hHeld := hHeld2
  clear hHeld2
  clear hb1
  refine take_op (i := 8) (d := 17) (v := ?_) rfl rfl (by kernel_rfl) (by kernel_rfl) (by kernel_rfl) (fun _ _ _ h => h) (Or.inl ⟨by rfl, ?hy8u217⟩) hHeld ?rest8u217
  case hy8u217 =>
    intro w' hS'
    go_simp
    try with_reducible rfl
  simp only [List.setIfInBounds_toArray, List.set_cons_zero, List.set_cons_succ]
  refine take_op (i := 9) (d := 26) (v := ?_) rfl rfl (by kernel_rfl) (by kernel_rfl) (by kernel_rfl) (fun _ _ _ h => h) (Or.inl ⟨by rfl, ?hy9u218⟩) hHeld ?rest9u218
  case hy9u218 =>
    intro w' hS'
    go_simp
    try with_reducible rfl
  simp only [List.setIfInBounds_toArray, List.set_cons_zero, List.set_cons_succ]
  refine take_op (i := 10) (d := 27) (v := ?_) rfl rfl (by kernel_rfl) (by kernel_rfl) (by kernel_rfl) (fun _ _ _ h => h) (Or.inl ⟨by rfl, ?hy10u219⟩) hHeld ?rest10u219
  case hy10u219 =>
    intro w' hS'
    go_simp
    try with_reducible rfl
  simp only [List.setIfInBounds_toArray, List.set_cons_zero, List.set_cons_succ]
  refine take_op (i := 11) (d := 9) (v := ?_) rfl rfl (by kernel_rfl) (by kernel_rfl) (by kernel_rfl) (fun _ _ _ h => h) (Or.inl ⟨by rfl, ?hy11u220⟩) hHeld ?rest11u220
  case hy11u220 =>
    intro w' hS'
    go_simp
    try with_reducible rfl
  simp only [List.setIfInBounds_toArray, List.set_cons_zero, List.set_cons_succ]
  refine take_op (i := 12) (d := 10) (v := ?_) rfl rfl (by kernel_rfl) (by kernel_rfl) (by kernel_rfl) (fun _ _ _ h => h) (Or.inl ⟨by rfl, ?hy12u221⟩) hHeld ?rest12u221
  case hy12u221 =>
    intro w' hS'
    go_simp
    try with_reducible rfl
  simp only [List.setIfInBounds_toArray, List.set_cons_zero, List.set_cons_succ]
  refine wpAnyH_done (by kernel_rfl) ?_ _
  replace H0 := Lib.hid (below_row hHeld H0.out)
  replace H1 := Lib.hid (below_row hHeld H1.out)
  replace H2 := Lib.hid (below_row hHeld H2.out)
  replace hb := hb.trans (hHeld.mono hb.size)
  clear hHeld
  clear HS
  go_upto_region 2 with (fail)
  refine wp_region_held_drew (S := (fun V => Below V1.heap.size V1 V)) (by kernel_rfl) (Below.refl _ _).drew (fun hHeld => ?_)
  refine take_op (i := 0) (d := 29) (v := .agg (blindC n wd gp t sh)) rfl rfl (by kernel_rfl) (by kernel_rfl) (by kernel_rfl) (fun _ _ _ h => h) (yields_row (by rfl) 26 (.tmp 4) (by rfl) w.heap.size 0 5 (by rfl) 26 (blindC n wd gp t sh) (0, 0) _ (fun _ h => below_row h H0.out) Tryz.underlying26 rfl info_blindL (blind_fits _ _ _ _ _) (blindC n wd gp t sh) (blind_all _ _ _ _ _)) hHeld ?_
  simp only [List.setIfInBounds_toArray, List.set_cons_zero, List.set_cons_succ]
  refine take_op (i := 2) (d := 31) (v := .agg (sunC hs ts)) rfl rfl (by kernel_rfl) (by kernel_rfl) (by kernel_rfl) (fun _ _ _ h => h) (yields_row (by rfl) 29 (.tmp 5) (by rfl) b1 0 48 (by rfl) 29 (sunC hs ts) (0, 0) _ (fun _ h => below_row h H1.out) Tryz.underlying29 rfl info_sunL (sun_fits _ _ Hh.out Ht.out) (sunC hs ts) (sun_all _ _ Hh.out Ht.out)) hHeld ?_
  simp only [List.setIfInBounds_toArray, List.set_cons_zero, List.set_cons_succ]
  refine take_op (i := 4) (d := 33) (v := ?_) rfl rfl (by kernel_rfl) (by kernel_rfl) (by kernel_rfl) (fun _ _ _ h => h) (Or.inl ⟨by rfl, ?hy4u222⟩) hHeld ?rest4u222
  case hy4u222 =>
    intro w' hS'
    go_simp
    try with_reducible rfl
  simp only [List.setIfInBounds_toArray, List.set_cons_zero, List.set_cons_succ]
  refine take_op (i := 5) (d := 34) (v := .agg (i16s ps)) rfl rfl (by kernel_rfl) (by kernel_rfl) (by kernel_rfl) (fun _ _ _ h => h) (yields_row (by rfl) 27 (.tmp 7) (by rfl) b2 0 24 (by rfl) 27 (i16s ps) (0, 0) _ (fun _ h => below_row h H2.out) Tryz.underlying27 rfl info_arr (by rw [i16s_size, Hp.out]; decide) (i16s ps) (i16s_all _ 24 Hp.out)) hHeld ?_
  simp only [List.setIfInBounds_toArray, List.set_cons_zero, List.set_cons_succ]
  refine wpAnyH_ready (rs := [1]) (by kernel_rfl) (by simp) ?_
  refine AllReadyH.cons rfl (fun K hK => ?_) AllReadyH.nil
  go_simp
  refine (toBlind_any _ _ _ _ _ _).mono ?_
  rintro e W1 ⟨rfl, hb1⟩
  refine hK.out _ _ (hHeld.trans (hb1.mono hHeld.size)) (fun hHeld2 => ?_)
  clear hK K
  replace hHeld := hHeld2
  clear hHeld2
  clear hb1
  refine wpAnyH_ready (rs := [3]) (by kernel_rfl) (by simp) ?_
  refine AllReadyH.cons rfl (fun K hK => ?_) AllReadyH.nil
  go_simp
  refine (toSun_any hs ts Hh.out Ht.out _).mono ?_
  rintro e W1 ⟨rfl, hb1⟩
  refine hK.out _ _ (hHeld.trans (hb1.mono hHeld.size)) (fun hHeld2 => ?_)
  clear hK K
  replace hHeld := hHeld2
  clear hHeld2
  clear hb1
  refine wpAnyH_ready (rs := [6]) (by kernel_rfl) (by simp) ?_
  refine AllReadyH.cons rfl (fun K hK => ?_) AllReadyH.nil
  go_simp
  refine (toPlan_any ps Hp.out _).mono ?_
  rintro e W1 ⟨rfl, hb1⟩
  refine hK.out _ _ (hHeld.trans (hb1.mono hHeld.size)) (fun hHeld2 => ?_)
  clear hK K
  replace hHeld := hHeld2
  clear hHeld2
  clear hb1
  have hle7 := hHeld.size
  have hxe := errT_below HX.out (hb.trans (hHeld.mono hb.size))
  refine wpAnyH_ready (rs := [7]) (by kernel_rfl) (by simp) ?_
  refine AllReadyH.cons rfl (fun K hK => ?_) AllReadyH.nil
  go_simp
  refine (HI.out _ hxe).mono ?_
  rintro e V2 ⟨⟨v1, rfl, hv1⟩, hb1⟩
  refine hK.out _ _ (hHeld.trans (hb1.mono hHeld.size)) (fun hHeld2 => ?_)
  clear hK K
  replace hHeld := hHeld2
  clear hHeld2
  clear hb1 hxe
  refine take_op (i := 8) (d := 28) (v := ?_) rfl rfl (by kernel_rfl) (by kernel_rfl) (by kernel_rfl) (fun _ _ _ h => h) (Or.inl ⟨by rfl, ?hy8u223⟩) hHeld ?rest8u223
  case hy8u223 =>
    intro w' hS'
    go_simp
    try with_reducible rfl
  simp only [List.setIfInBounds_toArray, List.set_cons_zero, List.set_cons_succ]
  refine take_op (i := 9) (d := 37) (v := ?_) rfl rfl (by kernel_rfl) (by kernel_rfl) (by kernel_rfl) (fun _ _ _ h => h) (Or.inl ⟨by rfl, ?hy9u224⟩) hHeld ?rest9u224
  case hy9u224 =>
    intro w' hS'
    go_simp
    try with_reducible rfl
  simp only [List.setIfInBounds_toArray, List.set_cons_zero, List.set_cons_succ]
  refine take_op (i := 10) (d := 38) (v := ?_) rfl rfl (by kernel_rfl) (by kernel_rfl) (by kernel_rfl) (fun _ _ _ h => h) (Or.inl ⟨by rfl, ?hy10u225⟩) hHeld ?rest10u225
  case hy10u225 =>
    intro w' hS'
    go_simp
    try with_reducible rfl
  simp only [List.setIfInBounds_toArray, List.set_cons_zero, List.set_cons_succ]
  refine take_op (i := 11) (d := 11) (v := ?_) rfl rfl (by kernel_rfl) (by kernel_rfl) (by kernel_rfl) (fun _ _ _ h => h) (Or.inl ⟨by rfl, ?hy11u226⟩) hHeld ?rest11u226
  case hy11u226 =>
    intro w' hS'
    go_simp
    try with_reducible rfl
  simp only [List.setIfInBounds_toArray, List.set_cons_zero, List.set_cons_succ]
  refine take_op (i := 12) (d := 12) (v := ?_) rfl rfl (by kernel_rfl) (by kernel_rfl) (by kernel_rfl) (fun _ _ _ h => h) (Or.inl ⟨by rfl, ?hy12u227⟩) hHeld ?rest12u227
  case hy12u227 =>
    intro w' hS'
    go_simp
    try with_reducible rfl
  simp only [List.setIfInBounds_toArray, List.set_cons_zero, List.set_cons_succ]
  refine wpAnyH_done (by kernel_rfl) ?_ _
  obtain ⟨BB, hv1, hu, hgB⟩ : ∃ B, Own V2 B 23 (Value.float .f32) v1 xs ∧ Under v0 B ∧ w.heap.size < B ∧ b1 < B ∧ b2 < B := ⟨_, hv1, under_mono (under_of hv0) hle7, Nat.lt_of_lt_of_le (row_lt H0.out) hle7, Nat.lt_of_lt_of_le (row_lt H1.out) hle7, Nat.lt_of_lt_of_le (row_lt H2.out) hle7⟩
  obtain ⟨hg0, hg1, hg2⟩ := hgB
  clear hle7
  replace H0 := Lib.hid (below_row hHeld H0.out)
  replace H1 := Lib.hid (below_row hHeld H1.out)
  replace H2 := Lib.hid (below_row hHeld H2.out)
  replace hv0 := own_below hv0 hHeld (Nat.le_refl _)
  replace hb := hb.trans (hHeld.mono hb.size)
  clear hHeld
  have z0 : decide ((1 : Int) + (xs.length : Int) < 0) = false := by apply decide_eq_false; omega
  have zc : (c != c) = false := by simp
  have zn : ((1 : Int) + (xs.length : Int) != 1 + (xs.length : Int)) = false := by simp
  go_upto_region 5 with (go_at_call 12; refine (eqF_same xs HFI.out v1 v0 _ _ _ hv1 hv0).mono ?_; rintro e W4 ⟨rfl, hb1⟩; replace H0 := Lib.hid (below_row hb1 H0.out); replace H1 := Lib.hid (below_row hb1 H1.out); replace H2 := Lib.hid (below_row hb1 H2.out); replace hv0 := own_below hv0 hb1 (Nat.le_refl _); replace hv1 := own_below hv1 hb1 (Nat.le_refl _); replace hb := hb.trans (hb1.mono hb.size); clear hb1)
  go_upto_region 7 with (go_at_call 13; refine (markF_any 1 xs v1 BB _ (by decide) (by decide) (by omega) hv1).mono ?_; intro e W5 hm; have hA := above_of hv1; replace hv0 := own_markedQ hv0 hu hA hm; replace H0 := Lib.hid (row_markedQ H0.out hg0 hA hm); replace H1 := Lib.hid (row_markedQ H1.out hg1 hA hm); replace H2 := Lib.hid (row_markedQ H2.out hg2 hA hm); replace hb := hb.trans (hm.2.2.1.mono (Nat.le_of_lt hg0)); replace hv1 := hm.2.1; obtain rfl := hm.1; clear hm)
  go_upto_region 9 with (go_at_call 14; refine (heldF_same 1 xs.length v1 BB _ (by decide) (by decide) (by omega) hv1).mono ?_; rintro e W6 ⟨rfl, hb1⟩; replace H0 := Lib.hid (below_row hb1 H0.out); replace H1 := Lib.hid (below_row hb1 H1.out); replace H2 := Lib.hid (below_row hb1 H2.out); replace hv0 := own_below hv0 hb1 (Nat.le_refl _); replace hv1 := own_below hv1 hb1 (Nat.le_refl _); replace hb := hb.trans (hb1.mono hb.size); clear hb1)
  go_upto_region 13 with (fail)
  refine wp_region_held_drew (S := (fun V => Below W6.heap.size W6 V)) (by kernel_rfl) (Below.refl _ _).drew (fun hHeld => ?_)
  refine take_op (i := 0) (d := 60) (v := .agg (blindC n wd gp t sh)) rfl rfl (by kernel_rfl) (by kernel_rfl) (by kernel_rfl) (fun _ _ _ h => h) (yields_row (by rfl) 26 (.tmp 4) (by rfl) w.heap.size 0 5 (by rfl) 26 (blindC n wd gp t sh) (0, 0) _ (fun _ h => below_row h H0.out) Tryz.underlying26 rfl info_blindL (blind_fits _ _ _ _ _) (blindC n wd gp t sh) (blind_all _ _ _ _ _)) hHeld ?_
  simp only [List.setIfInBounds_toArray, List.set_cons_zero, List.set_cons_succ]
  refine take_op (i := 2) (d := 62) (v := .agg (sunC hs ts)) rfl rfl (by kernel_rfl) (by kernel_rfl) (by kernel_rfl) (fun _ _ _ h => h) (yields_row (by rfl) 29 (.tmp 5) (by rfl) b1 0 48 (by rfl) 29 (sunC hs ts) (0, 0) _ (fun _ h => below_row h H1.out) Tryz.underlying29 rfl info_sunL (sun_fits _ _ Hh.out Ht.out) (sunC hs ts) (sun_all _ _ Hh.out Ht.out)) hHeld ?_
  simp only [List.setIfInBounds_toArray, List.set_cons_zero, List.set_cons_succ]
  refine take_op (i := 4) (d := 64) (v := ?_) rfl rfl (by kernel_rfl) (by kernel_rfl) (by kernel_rfl) (fun _ _ _ h => h) (Or.inl ⟨by rfl, ?hy4u228⟩) hHeld ?rest4u228
  case hy4u228 =>
    intro w' hS'
    go_simp
    try with_reducible rfl
  simp only [List.setIfInBounds_toArray, List.set_cons_zero, List.set_cons_succ]
  refine take_op (i := 5) (d := 65) (v := .agg (i16s ps)) rfl rfl (by kernel_rfl) (by kernel_rfl) (by kernel_rfl) (fun _ _ _ h => h) (yields_row (by rfl) 27 (.tmp 7) (by rfl) b2 0 24 (by rfl) 27 (i16s ps) (0, 0) _ (fun _ h => below_row h H2.out) Tryz.underlying27 rfl info_arr (by rw [i16s_size, Hp.out]; decide) (i16s ps) (i16s_all _ 24 Hp.out)) hHeld ?_
  simp only [List.setIfInBounds_toArray, List.set_cons_zero, List.set_cons_succ]
  refine wpAnyH_ready (rs := [1]) (by kernel_rfl) (by simp) ?_
  refine AllReadyH.cons rfl (fun K hK => ?_) AllReadyH.nil
  go_simp
  refine (toBlind_any _ _ _ _ _ _).mono ?_
  rintro e W1 ⟨rfl, hb1⟩
  refine hK.out _ _ (hHeld.trans (hb1.mono hHeld.size)) (fun hHeld2 => ?_)
  clear hK K
  replace hHeld := hHeld2
  clear hHeld2
  clear hb1
  refine wpAnyH_ready (rs := [3]) (by kernel_rfl) (by simp) ?_
  refine AllReadyH.cons rfl (fun K hK => ?_) AllReadyH.nil
  go_simp
  refine (toSun_any hs ts Hh.out Ht.out _).mono ?_
  rintro e W1 ⟨rfl, hb1⟩
  refine hK.out _ _ (hHeld.trans (hb1.mono hHeld.size)) (fun hHeld2 => ?_)
  clear hK K
  replace hHeld := hHeld2
  clear hHeld2
  clear hb1
  refine wpAnyH_ready (rs := [6]) (by kernel_rfl) (by simp) ?_
  refine AllReadyH.cons rfl (fun K hK => ?_) AllReadyH.nil
  go_simp
  refine (toPlan_any ps Hp.out _).mono ?_
  rintro e W1 ⟨rfl, hb1⟩
  refine hK.out _ _ (hHeld.trans (hb1.mono hHeld.size)) (fun hHeld2 => ?_)
  clear hK K
  replace hHeld := hHeld2
  clear hHeld2
  clear hb1
  have hxe := errT_below HX.out (hb.trans (hHeld.mono hb.size))
  refine wpAnyH_ready (rs := [7]) (by kernel_rfl) (by simp) ?_
  refine AllReadyH.cons rfl (fun K hK => ?_) AllReadyH.nil
  go_simp
  refine (HI.out _ hxe).mono ?_
  rintro e V3 ⟨⟨v2, rfl, hv2⟩, hb1⟩
  refine hK.out _ _ (hHeld.trans (hb1.mono hHeld.size)) (fun hHeld2 => ?_)
  clear hK K
  replace hHeld := hHeld2
  clear hHeld2
  clear hb1 hxe
  refine take_op (i := 8) (d := 59) (v := ?_) rfl rfl (by kernel_rfl) (by kernel_rfl) (by kernel_rfl) (fun _ _ _ h => h) (Or.inl ⟨by rfl, ?hy8u229⟩) hHeld ?rest8u229
  case hy8u229 =>
    intro w' hS'
    go_simp
    try with_reducible rfl
  simp only [List.setIfInBounds_toArray, List.set_cons_zero, List.set_cons_succ]
  refine take_op (i := 9) (d := 68) (v := ?_) rfl rfl (by kernel_rfl) (by kernel_rfl) (by kernel_rfl) (fun _ _ _ h => h) (Or.inl ⟨by rfl, ?hy9u230⟩) hHeld ?rest9u230
  case hy9u230 =>
    intro w' hS'
    go_simp
    try with_reducible rfl
  simp only [List.setIfInBounds_toArray, List.set_cons_zero, List.set_cons_succ]
  refine take_op (i := 10) (d := 69) (v := ?_) rfl rfl (by kernel_rfl) (by kernel_rfl) (by kernel_rfl) (fun _ _ _ h => h) (Or.inl ⟨by rfl, ?hy10u231⟩) hHeld ?rest10u231
  case hy10u231 =>
    intro w' hS'
    go_simp
    try with_reducible rfl
  simp only [List.setIfInBounds_toArray, List.set_cons_zero, List.set_cons_succ]
  refine take_op (i := 11) (d := 15) (v := ?_) rfl rfl (by kernel_rfl) (by kernel_rfl) (by kernel_rfl) (fun _ _ _ h => h) (Or.inl ⟨by rfl, ?hy11u232⟩) hHeld ?rest11u232
  case hy11u232 =>
    intro w' hS'
    go_simp
    try with_reducible rfl
  simp only [List.setIfInBounds_toArray, List.set_cons_zero, List.set_cons_succ]
  refine take_op (i := 12) (d := 16) (v := ?_) rfl rfl (by kernel_rfl) (by kernel_rfl) (by kernel_rfl) (fun _ _ _ h => h) (Or.inl ⟨by rfl, ?hy12u233⟩) hHeld ?rest12u233
  case hy12u233 =>
    intro w' hS'
    go_simp
    try with_reducible rfl
  simp only [List.setIfInBounds_toArray, List.set_cons_zero, List.set_cons_succ]
  refine wpAnyH_done (by kernel_rfl) ?_ _
  replace hv0 := own_below hv0 hHeld (Nat.le_refl _)
  replace hv1 := own_below hv1 hHeld (Nat.le_refl _)
  replace hb := hb.trans (hHeld.mono hb.size)
  clear hHeld HI H0 H1 H2
  go_upto_region 16 with (go_at_call 12; refine (eqF_same xs HFI.out v2 v0 _ _ _ hv2 hv0).mono ?_; rintro e W8 ⟨rfl, hb1⟩; replace hv1 := own_below hv1 hb1 (Nat.le_refl _); replace hb := hb.trans (hb1.mono hb.size); clear hb1)
  go_wp2_with (go_at_call 14; refine (heldF_same 1 xs.length v1 BB _ (by decide) (by decide) (by omega) hv1).mono ?_; rintro e W9 ⟨rfl, hb1⟩; replace hb := hb.trans (hb1.mono hb.size); clear hb1)
  go_ret
  exact ⟨rfl, hb⟩

theorem lawPlanLight_walk (n : Int) (wd gp : Nat) (t : Int) (sh : Nat) (bw : BlWf n wd gp t sh) (hs ts : List Int) (hh : hs.length = 24) (ht : ts.length = 24) (rb : ∀ x ∈ hs ++ ts, -32768 ≤ x ∧ x ≤ 32767) (fc : Int) (ps : List Int) (hp : ps.length = 24) (pb : ∀ x ∈ ps, -32768 ≤ x ∧ x ≤ 32767) (W : World) (hE : ErrT W) :
    Calls Tryz.prog 3 #[.agg (blindC n wd gp t sh), .agg (sunC hs ts), .int .i64 fc, .agg (i16s ps)] W fun e w' => e = .returned (.bool true) ∧ Below W.heap.size W w' := by
  obtain ⟨T0, T1⟩ := blwf_t bw
  obtain ⟨N0, N1⟩ := blwf_n bw
  by_cases hc : cdP (okP ps) (okBl n wd gp t sh) (okB hs ts) (inF fc) = 0
  · have hf := (cdP_yes hc).2.2.2
    rw [hf] at hc
    have OK := blok_of bw (cdP_yes hc).2.1
    have hos := (cdP_yes hc).2.2.1
    exact FnExactPlanLight_core n wd gp t sh hs ts hh ht fc ps hp (upTo (fun k : Nat => winB wd gp (ps[k]?.getD 0) sh hs ts (k : Int) fc) 24) 0 (by rw [upTo_len]; decide)
      (fun x hx => by
        obtain ⟨k, hk, rfl⟩ := List.mem_map.1 hx
        have hk' := List.mem_range.1 hk
        exact pos_fin (winB_pos wd gp (ps[k]?.getD 0) OK.2.2.2.2.2.2.2.2 hs ts (k : Int) fc (hrok_of hh ht hos (by omega) (by omega) hf).x1))
      (fun w => sPlanLight_yes n wd gp t sh hs ts hh ht fc ps hp bw T0 T1 N0 N1 rb pb hf hc w) (fun w _ => iPlanLight_yes n wd gp t sh hs ts hh ht fc ps hp bw T0 T1 hf hc w) W hE
  · exact FnExactPlanLight_core n wd gp t sh hs ts hh ht fc ps hp [] _ (by simp) (by simp) (fun w => sPlanLight_no n wd gp t sh hs ts hh ht fc ps hp T0 T1 N0 N1 rb pb _ rfl _ rfl hc w) (fun w h => iPlanLight_no n wd gp t sh hs ts hh ht fc ps hp T0 T1 _ rfl _ rfl hc w h) W hE

set_option maxRecDepth 100000 in
set_option maxHeartbeats 4000000 in
theorem FnExactPlanLight_row : Rows.FnExactPlanLightSaid :=
  OpenClaim.holds_of_wide 3 Tryz.f3 rfl rfl rfl rfl rfl rfl rfl ⟨rfl, rfl, rfl, rfl, rfl⟩ rfl rfl rfl rfl rfl (by as_aux_lemma => kernel_rfl) Tryz.func3 (by as_aux_lemma => kernel_rfl)
    (of_decide_eq_true (by as_aux_lemma => kernel_rfl)) (by unfold Func.isWrapper; first | (rw [if_pos (by decide +kernel)]; kernel_rfl) | (rw [if_neg (by decide +kernel)]; exact ⟨rfl, rfl⟩))
    (fun os started H enc _ => law_liftedH 3 Tryz.f3 Rows.fnExactPlanLightSpec Rows.fnExactPlanLightRow.domain os started H enc (by as_aux_lemma => kernel_rfl) Tryz.func3 rfl rfl
      (by rw [Tryz.params3]; intro t ht; simp only [List.mem_cons, List.not_mem_nil, or_false] at ht; rcases ht with rfl | rfl | rfl | rfl <;> exact ⟨by as_aux_lemma => kernel_rfl, of_decide_eq_true (by as_aux_lemma => kernel_rfl)⟩)
      (fun ds hl => by
        match ds, hl with
        | [d0, d1, d2, d3], _ => rfl)
      (ChangeSpec.witness_at (enc := enc) (C := Tryz.checked) (os := os) (X := MetH) false (laidWorld os) #[.agg #[.int .i8 0, .float .f32 0, .float .f32 0, .int .i16 0, .float .f32 0], .agg #[.int .i16 0, .int .i16 0, .int .i16 0, .int .i16 0, .int .i16 0, .int .i16 0, .int .i16 0, .int .i16 0, .int .i16 0, .int .i16 0, .int .i16 0, .int .i16 0, .int .i16 0, .int .i16 0, .int .i16 0, .int .i16 0, .int .i16 0, .int .i16 0, .int .i16 0, .int .i16 0, .int .i16 0, .int .i16 0, .int .i16 0, .int .i16 0, .int .i16 0, .int .i16 0, .int .i16 0, .int .i16 0, .int .i16 0, .int .i16 0, .int .i16 0, .int .i16 0, .int .i16 0, .int .i16 0, .int .i16 0, .int .i16 0, .int .i16 0, .int .i16 0, .int .i16 0, .int .i16 0, .int .i16 0, .int .i16 0, .int .i16 0, .int .i16 0, .int .i16 0, .int .i16 0, .int .i16 0, .int .i16 0], .int .i64 0, .agg #[.int .i16 0, .int .i16 0, .int .i16 0, .int .i16 0, .int .i16 0, .int .i16 0, .int .i16 0, .int .i16 0, .int .i16 0, .int .i16 0, .int .i16 0, .int .i16 0, .int .i16 0, .int .i16 0, .int .i16 0, .int .i16 0, .int .i16 0, .int .i16 0, .int .i16 0, .int .i16 0, .int .i16 0, .int .i16 0, .int .i16 0, .int .i16 0]] 8 rfl (by as_aux_lemma => kernel_rfl) (by as_aux_lemma => kernel_rfl) (by as_aux_lemma => kernel_rfl) (by as_aux_lemma => kernel_rfl) (by as_aux_lemma => kernel_rfl) (laidWorld_met os _))
      (fun W base args ds p hval hA hL => by
        rw [Tryz.params3] at hA hval
        obtain ⟨v0, vs0, d0, ds0, p0, q0, hargs, rfl, rfl, h0, r0⟩ := trodAll_cons hA
        obtain ⟨v1, vs1, d1, ds1, p1, q1, rfl, rfl, rfl, h1, r1⟩ := trodAll_cons r0
        obtain ⟨v2, vs2, d2, ds2, p2, q2, rfl, rfl, rfl, h2, r2⟩ := trodAll_cons r1
        obtain ⟨v3, vs3, d3, ds3, p3, q3, rfl, rfl, rfl, h3, r3⟩ := trodAll_cons r2
        obtain ⟨rfl, rfl, rfl⟩ := trodAll_nil r3
        obtain rfl : args = #[v0, v1, v2, v3] := by cases args; simp_all
        obtain ⟨n0, wd0, gp0, t0, sh0, bw0, rfl⟩ := open_blind (hval 0 26 v0 rfl rfl) h0
        obtain ⟨hs1, ts1, hh1, ht1, rb1, rfl⟩ := open_sun (hval 1 29 v1 rfl rfl) h1
        obtain ⟨a2, rfl, rfl, rfl, w2⟩ := open_int Tryz.underlying2 (hval 2 2 v2 rfl rfl) h2
        obtain ⟨ps3, hp3, pb3, rfl⟩ := open_plan (hval 3 27 v3 rfl rfl) h3
        have hE := handle_of_laid hL
        exact lawPlanLight_walk n0 wd0 gp0 t0 sh0 bw0 hs1 ts1 hh1 ht1 rb1 a2 ps3 hp3 pb3 W  hE))

set_option maxRecDepth 100000 in
theorem FnExactPlanLight_holds : Rows.FnExactPlanLightCardSaid :=
  Claim7.holds_tied_plain_at .later [] [.handle] true Rows.fnExactPlanLightCard.stood.harness true
    FnExactPlanLight_row (fun _ h => by cases h) (by kernel_rfl) (fun _ h => by cases h) fnExactPlanLight_row_tie rfl ⟨rfl, rfl⟩ (by kernel_rfl) rfl
    (fun f fn hf hfn => by
      obtain rfl : f = 3 := Option.some.inj ((show Tryz.prog.funcNamed "loop.example/g01367/laws.FnExactPlanLight" = some 3 by kernel_rfl).symm.trans hf) |>.symm
      obtain rfl : fn = Tryz.f3 := (Option.some.inj (Tryz.func3.symm.trans hfn)).symm
      exact ⟨by kernel_rfl, fun j t ht => by
        rw [Tryz.params3] at ht
        have hm : t ∈ [26, 29, 2, 27] := by
          have := Array.mem_of_getElem? ht
          simpa using this
        simp only [List.mem_cons, List.not_mem_nil, or_false] at hm
        rcases hm with rfl | rfl | rfl | rfl <;> (show Tryz.prog.wantsStandIn _ = false; kernel_rfl)⟩)
    (by kernel_rfl)
#print axioms FnExactPlanLight_holds

end Go.Proofs.YtdbleddcnknmiaaGreatDoor
