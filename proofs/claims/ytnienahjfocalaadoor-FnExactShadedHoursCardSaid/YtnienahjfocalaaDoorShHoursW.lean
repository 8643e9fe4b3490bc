/-
  ShadedHours: the law's walk.
-/
import Derived.Test.YtnienahjfocalaaDoorShHI
import Derived.Test.YtnienahjfocalaaDoorShHS
import Derived.Test.YtnienahjfocalaaDoorLawC
namespace Go.Proofs.YtnienahjfocalaaDoor
open Go.ChangeShapes Go.WideShapes Go.ChangeAt Go.RowKit Go.Shelf Go.Deep Go.Joins

set_option maxRecDepth 100000 in
set_option maxHeartbeats 1000000 in
theorem FnExactShadedHours_core (o dr gp tl : Nat) (hs ts : List Int) (hh : hs.length = 24) (ht : ts.length = 24) (fc : Int) (le : Nat) (xs : List Int) (c : Int) (hn : xs.length ≤ 1000) (e0 e1 e2 e3 : Addr)
    (hspec : ∀ w, Calls Tryd.prog 28 #[.agg (awC o dr gp tl), .agg (sunC hs ts), .int .i64 fc, .float .f32 le] w (RetList xs c w)) (himpl : ∀ w, ErrsAt w e0 e1 e2 e3 → Calls Tryd.prog 29 #[.agg (awC o dr gp tl), .agg (sunC hs ts), .int .i64 fc, .float .f32 le] w (RetList xs c w)) (w : World) (hE : ErrsAt w e0 e1 e2 e3) :
    Calls Tryd.prog 8 #[.agg (awC o dr gp tl), .agg (sunC hs ts), .int .i64 fc, .float .f32 le] w fun e w' => e = .returned (.bool true) ∧ Below w.heap.size w w' := by
  have HS := Lib.hid hspec
  have HI := Lib.hid himpl
  have HE := Lib.hid hE
  clear hspec himpl hE
  have Hh := Lib.hid hh
  have Ht := Lib.hid ht
  clear hh ht
  go_enter Tryd.func8, Tryd.ntmps8
  go_upto_region 1 with (fail)
  refine abs_world (fun W => W.heap[w.heap.size]? = some (.cells (awC o dr gp tl) 24 (0, 0)) ∧ W.heap[w.heap.size + 1]? = some (.cells (sunC hs ts) 35 (0, 0)) ∧ Below w.heap.size w W) (box2 w (.cells (awC o dr gp tl) 24) (.cells (sunC hs ts) 35)) ?_
  rintro W ⟨h0, h1, hb⟩
  generalize w.heap.size + 1 = b1 at *
  have H0 := Lib.hid h0
  have H1 := Lib.hid h1
  clear h0 h1
  refine wp_region_held_drew (S := (fun V => Below W.heap.size W V)) (by kernel_rfl) ((Below.refl _ _).drew) (fun hHeld => ?_)
  refine take_op (i := 0) (d := 18) (v := .agg (awC o dr gp tl)) rfl rfl (by kernel_rfl) (by kernel_rfl) (by kernel_rfl) (fun _ _ _ h => h) (yields_row (by rfl) 24 (.tmp 4) (by rfl) w.heap.size 0 4 (by rfl) 24 (awC o dr gp tl) (0, 0) _ (fun _ h => below_row h H0.out) Tryd.underlying24 rfl info_awL (aw_fits _ _ _ _) (awC o dr gp tl) (aw_all _ _ _ _)) hHeld ?_
  simp only [List.setIfInBounds_toArray, List.set_cons_zero, List.set_cons_succ]
  refine take_op (i := 2) (d := 20) (v := .agg (sunC hs ts)) rfl rfl (by kernel_rfl) (by kernel_rfl) (by kernel_rfl) (fun _ _ _ h => h) (yields_row (by rfl) 35 (.tmp 5) (by rfl) b1 0 48 (by rfl) 35 (sunC hs ts) (0, 0) _ (fun _ h => below_row h H1.out) Tryd.underlying35 rfl info_sunL (sun_fits _ _ Hh.out Ht.out) (sunC hs ts) (sun_all _ _ Hh.out Ht.out)) hHeld ?_
  simp only [List.setIfInBounds_toArray, List.set_cons_zero, List.set_cons_succ]
  refine take_op (i := 4) (d := 22) (v := ?_) rfl rfl (by kernel_rfl) (by kernel_rfl) (by kernel_rfl) (fun _ _ _ h => h) (Or.inl ⟨by rfl, ?hy4u44⟩) hHeld ?rest4u44
  case hy4u44 =>
    intro w' hS'
    go_simp
    try with_reducible rfl
  simp only [List.setIfInBounds_toArray, List.set_cons_zero, List.set_cons_succ]
  refine take_op (i := 5) (d := 23) (v := ?_) rfl rfl (by kernel_rfl) (by kernel_rfl) (by kernel_rfl) (fun _ _ _ h => h) (Or.inl ⟨by rfl, ?hy5u45⟩) hHeld ?rest5u45
  case hy5u45 =>
    intro w' hS'
    go_simp
    try with_reducible rfl
  simp only [List.setIfInBounds_toArray, List.set_cons_zero, List.set_cons_succ]
  refine wpAnyH_ready (rs := [1]) (by kernel_rfl) (by simp) ?_
  refine AllReadyH.cons rfl (fun K hK => ?_) AllReadyH.nil
  go_simp
  refine (toAwning_any _ _ _ _ _).mono ?_
  rintro e W1 ⟨rfl, hb1⟩
  refine hK.out _ _ (hHeld.trans (hb1.mono hHeld.size)) (fun hHeld2 => ?_)
  clear hK K
  replace hHeld := hHeld2
  clear hHeld2
  clear hb1
  refine wpAnyH_ready (rs := [3]) (by kernel_rfl) (by simp) ?_
  refine AllReadyH.cons rfl (fun K hK => ?_) AllReadyH.nil
  go_simp
  refine (toSun_any hs ts Hh.out Ht.out _).mono ?_
  rintro e W2 ⟨rfl, hb2⟩
  refine hK.out _ _ (hHeld.trans (hb2.mono hHeld.size)) (fun hHeld2 => ?_)
  clear hK K
  replace hHeld := hHeld2
  clear hHeld2
  clear hb2
  refine wpAnyH_ready (rs := [6]) (by kernel_rfl) (by simp) ?_
  refine AllReadyH.cons rfl (fun K hK => ?_) AllReadyH.nil
  go_simp
  refine (HS.out _).mono ?_
  rintro e W3 ⟨⟨v0, rfl, hv0⟩, hb3⟩
  refine hK.out _ _ (hHeld.trans (hb3.mono hHeld.size)) (fun hHeld2 => ?_)
  clear hK K
  replace hHeld := hHeld2
  clear hHeld2
  clear hb3
  refine take_op (i := 7) (d := 17) (v := ?_) rfl rfl (by kernel_rfl) (by kernel_rfl) (by kernel_rfl) (fun _ _ _ h => h) (Or.inl ⟨by rfl, ?hy7u46⟩) hHeld ?rest7u46
  case hy7u46 =>
    intro w' hS'
    go_simp
    try with_reducible rfl
  simp only [List.setIfInBounds_toArray, List.set_cons_zero, List.set_cons_succ]
  refine take_op (i := 8) (d := 25) (v := ?_) rfl rfl (by kernel_rfl) (by kernel_rfl) (by kernel_rfl) (fun _ _ _ h => h) (Or.inl ⟨by rfl, ?hy8u47⟩) hHeld ?rest8u47
  case hy8u47 =>
    intro w' hS'
    go_simp
    try with_reducible rfl
  simp only [List.setIfInBounds_toArray, List.set_cons_zero, List.set_cons_succ]
  refine take_op (i := 9) (d := 26) (v := ?_) rfl rfl (by kernel_rfl) (by kernel_rfl) (by kernel_rfl) (fun _ _ _ h => h) (Or.inl ⟨by rfl, ?hy9u48⟩) hHeld ?rest9u48
  case hy9u48 =>
    intro w' hS'
    go_simp
    try with_reducible rfl
  simp only [List.setIfInBounds_toArray, List.set_cons_zero, List.set_cons_succ]
  refine take_op (i := 10) (d := 9) (v := ?_) rfl rfl (by kernel_rfl) (by kernel_rfl) (by kernel_rfl) (fun _ _ _ h => h) (Or.inl ⟨by rfl, ?hy10u49⟩) hHeld ?rest10u49
  case hy10u49 =>
    intro w' hS'
    go_simp
    try with_reducible rfl
  simp only [List.setIfInBounds_toArray, List.set_cons_zero, List.set_cons_succ]
  refine take_op (i := 11) (d := 10) (v := ?_) rfl rfl (by kernel_rfl) (by kernel_rfl) (by kernel_rfl) (fun _ _ _ h => h) (Or.inl ⟨by rfl, ?hy11u50⟩) hHeld ?rest11u50
  case hy11u50 =>
    intro w' hS'
    go_simp
    try with_reducible rfl
  simp only [List.setIfInBounds_toArray, List.set_cons_zero, List.set_cons_succ]
  refine wpAnyH_done (by kernel_rfl) ?_ _
  replace H0 := Lib.hid (below_row hHeld H0.out)
  replace H1 := Lib.hid (below_row hHeld H1.out)
  replace hb := hb.trans (hHeld.mono hb.size)
  clear hHeld
  go_upto_region 2 with (fail)
  have HX := Lib.hid (errs_below HE.out hb)
  have hu := under_of hv0
  have hgA := row_lt H0.out
  have hgB := row_lt H1.out
  refine wp_region_held_drew (S := (fun V => Below W3.heap.size W3 V)) (by kernel_rfl) ((Below.refl _ _).drew) (fun hHeld => ?_)
  refine take_op (i := 0) (d := 28) (v := .agg (awC o dr gp tl)) rfl rfl (by kernel_rfl) (by kernel_rfl) (by kernel_rfl) (fun _ _ _ h => h) (yields_row (by rfl) 24 (.tmp 4) (by rfl) w.heap.size 0 4 (by rfl) 24 (awC o dr gp tl) (0, 0) _ (fun _ h => below_row h H0.out) Tryd.underlying24 rfl info_awL (aw_fits _ _ _ _) (awC o dr gp tl) (aw_all _ _ _ _)) hHeld ?_
  simp only [List.setIfInBounds_toArray, List.set_cons_zero, List.set_cons_succ]
  refine take_op (i := 2) (d := 30) (v := .agg (sunC hs ts)) rfl rfl (by kernel_rfl) (by kernel_rfl) (by kernel_rfl) (fun _ _ _ h => h) (yields_row (by rfl) 35 (.tmp 5) (by rfl) b1 0 48 (by rfl) 35 (sunC hs ts) (0, 0) _ (fun _ h => below_row h H1.out) Tryd.underlying35 rfl info_sunL (sun_fits _ _ Hh.out Ht.out) (sunC hs ts) (sun_all _ _ Hh.out Ht.out)) hHeld ?_
  simp only [List.setIfInBounds_toArray, List.set_cons_zero, List.set_cons_succ]
  refine take_op (i := 4) (d := 32) (v := ?_) rfl rfl (by kernel_rfl) (by kernel_rfl) (by kernel_rfl) (fun _ _ _ h => h) (Or.inl ⟨by rfl, ?hy4u51⟩) hHeld ?rest4u51
  case hy4u51 =>
    intro w' hS'
    go_simp
    try with_reducible rfl
  simp only [List.setIfInBounds_toArray, List.set_cons_zero, List.set_cons_succ]
  refine take_op (i := 5) (d := 33) (v := ?_) rfl rfl (by kernel_rfl) (by kernel_rfl) (by kernel_rfl) (fun _ _ _ h => h) (Or.inl ⟨by rfl, ?hy5u52⟩) hHeld ?rest5u52
  case hy5u52 =>
    intro w' hS'
    go_simp
    try with_reducible rfl
  simp only [List.setIfInBounds_toArray, List.set_cons_zero, List.set_cons_succ]
  refine wpAnyH_ready (rs := [1]) (by kernel_rfl) (by simp) ?_
  refine AllReadyH.cons rfl (fun K hK => ?_) AllReadyH.nil
  go_simp
  refine (toAwning_any _ _ _ _ _).mono ?_
  rintro e W4 ⟨rfl, hb4⟩
  refine hK.out _ _ (hHeld.trans (hb4.mono hHeld.size)) (fun hHeld2 => ?_)
  clear hK K
  replace hHeld := hHeld2
  clear hHeld2
  clear hb4
  refine wpAnyH_ready (rs := [3]) (by kernel_rfl) (by simp) ?_
  refine AllReadyH.cons rfl (fun K hK => ?_) AllReadyH.nil
  go_simp
  refine (toSun_any hs ts Hh.out Ht.out _).mono ?_
  rintro e W5 ⟨rfl, hb5⟩
  refine hK.out _ _ (hHeld.trans (hb5.mono hHeld.size)) (fun hHeld2 => ?_)
  clear hK K
  replace hHeld := hHeld2
  clear hHeld2
  clear hb5
  refine wpAnyH_ready (rs := [6]) (by kernel_rfl) (by simp) ?_
  refine AllReadyH.cons rfl (fun K hK => ?_) AllReadyH.nil
  go_simp
  refine (HI.out _ (errs_below HX.out hHeld)).mono ?_
  rintro e W6 ⟨⟨v1, rfl, hv1⟩, hb6⟩
  replace hv1 := own_base hv1 hHeld.size
  refine hK.out _ _ (hHeld.trans (hb6.mono hHeld.size)) (fun hHeld2 => ?_)
  clear hK K
  replace hHeld := hHeld2
  clear hHeld2
  clear hb6
  refine take_op (i := 7) (d := 27) (v := ?_) rfl rfl (by kernel_rfl) (by kernel_rfl) (by kernel_rfl) (fun _ _ _ h => h) (Or.inl ⟨by rfl, ?hy7u53⟩) hHeld ?rest7u53
  case hy7u53 =>
    intro w' hS'
    go_simp
    try with_reducible rfl
  simp only [List.setIfInBounds_toArray, List.set_cons_zero, List.set_cons_succ]
  refine take_op (i := 8) (d := 35) (v := ?_) rfl rfl (by kernel_rfl) (by kernel_rfl) (by kernel_rfl) (fun _ _ _ h => h) (Or.inl ⟨by rfl, ?hy8u54⟩) hHeld ?rest8u54
  case hy8u54 =>
    intro w' hS'
    go_simp
    try with_reducible rfl
  simp only [List.setIfInBounds_toArray, List.set_cons_zero, List.set_cons_succ]
  refine take_op (i := 9) (d := 36) (v := ?_) rfl rfl (by kernel_rfl) (by kernel_rfl) (by kernel_rfl) (fun _ _ _ h => h) (Or.inl ⟨by rfl, ?hy9u55⟩) hHeld ?rest9u55
  case hy9u55 =>
    intro w' hS'
    go_simp
    try with_reducible rfl
  simp only [List.setIfInBounds_toArray, List.set_cons_zero, List.set_cons_succ]
  refine take_op (i := 10) (d := 11) (v := ?_) rfl rfl (by kernel_rfl) (by kernel_rfl) (by kernel_rfl) (fun _ _ _ h => h) (Or.inl ⟨by rfl, ?hy10u56⟩) hHeld ?rest10u56
  case hy10u56 =>
    intro w' hS'
    go_simp
    try with_reducible rfl
  simp only [List.setIfInBounds_toArray, List.set_cons_zero, List.set_cons_succ]
  refine take_op (i := 11) (d := 12) (v := ?_) rfl rfl (by kernel_rfl) (by kernel_rfl) (by kernel_rfl) (fun _ _ _ h => h) (Or.inl ⟨by rfl, ?hy11u57⟩) hHeld ?rest11u57
  case hy11u57 =>
    intro w' hS'
    go_simp
    try with_reducible rfl
  simp only [List.setIfInBounds_toArray, List.set_cons_zero, List.set_cons_succ]
  refine wpAnyH_done (by kernel_rfl) ?_ _
  replace H0 := Lib.hid (below_row hHeld H0.out)
  replace H1 := Lib.hid (below_row hHeld H1.out)
  replace hv0 := own_below hv0 hHeld (Nat.le_refl _)
  replace HX := Lib.hid (errs_below HX.out hHeld)
  replace hb := hb.trans (hHeld.mono hb.size)
  clear hHeld
  generalize W3.heap.size = BB at *
  clear HX
  have z0 : decide ((1 : Int) + (xs.length : Int) < 0) = false := by apply decide_eq_false; omega
  have zc : (c != c) = false := by simp
  have zn : ((1 : Int) + (xs.length : Int) != 1 + (xs.length : Int)) = false := by simp
  go_upto_region 5 with (go_at_call 30; refine (eqI_same xs v1 v0 _ _ _ hv1 hv0).mono ?_; rintro e W14 ⟨rfl, hb1⟩; replace H0 := Lib.hid (below_row hb1 H0.out); replace H1 := Lib.hid (below_row hb1 H1.out); replace hv0 := own_below hv0 hb1 (Nat.le_refl _); replace hv1 := own_below hv1 hb1 (Nat.le_refl _); replace hb := hb.trans (hb1.mono hb.size); clear hb1)
  go_upto_region 7 with (go_at_call 31; refine (markI_any 1 xs v1 BB _ (by decide) (by decide) (by omega) hv1).mono ?_; intro e W15 hm; have hA := above_of hv1; replace hv0 := own_marked hv0 hu hA hm; replace H0 := Lib.hid (row_marked H0.out hgA hA hm); replace H1 := Lib.hid (row_marked H1.out hgB hA hm); replace hb := hb.trans (hm.2.2.1.mono (Nat.le_of_lt hgA)); replace hv1 := hm.2.1; obtain rfl := hm.1; clear hm)
  go_upto_region 9 with (go_at_call 32; refine (heldI_same 1 xs.length v1 BB _ (by decide) (by decide) (by omega) hv1).mono ?_; rintro e W16 ⟨rfl, hb1⟩; replace H0 := Lib.hid (below_row hb1 H0.out); replace H1 := Lib.hid (below_row hb1 H1.out); replace hv0 := own_below hv0 hb1 (Nat.le_refl _); replace hv1 := own_below hv1 hb1 (Nat.le_refl _); replace hb := hb.trans (hb1.mono hb.size); clear hb1)
  go_upto_region 13 with (fail)
  have HX := Lib.hid (errs_below HE.out hb)
  refine wp_region_held_drew (S := (fun V => Below W16.heap.size W16 V)) (by kernel_rfl) ((Below.refl _ _).drew) (fun hHeld => ?_)
  refine take_op (i := 0) (d := 58) (v := .agg (awC o dr gp tl)) rfl rfl (by kernel_rfl) (by kernel_rfl) (by kernel_rfl) (fun _ _ _ h => h) (yields_row (by rfl) 24 (.tmp 4) (by rfl) w.heap.size 0 4 (by rfl) 24 (awC o dr gp tl) (0, 0) _ (fun _ h => below_row h H0.out) Tryd.underlying24 rfl info_awL (aw_fits _ _ _ _) (awC o dr gp tl) (aw_all _ _ _ _)) hHeld ?_
  simp only [List.setIfInBounds_toArray, List.set_cons_zero, List.set_cons_succ]
  refine take_op (i := 2) (d := 60) (v := .agg (sunC hs ts)) rfl rfl (by kernel_rfl) (by kernel_rfl) (by kernel_rfl) (fun _ _ _ h => h) (yields_row (by rfl) 35 (.tmp 5) (by rfl) b1 0 48 (by rfl) 35 (sunC hs ts) (0, 0) _ (fun _ h => below_row h H1.out) Tryd.underlying35 rfl info_sunL (sun_fits _ _ Hh.out Ht.out) (sunC hs ts) (sun_all _ _ Hh.out Ht.out)) hHeld ?_
  simp only [List.setIfInBounds_toArray, List.set_cons_zero, List.set_cons_succ]
  refine take_op (i := 4) (d := 62) (v := ?_) rfl rfl (by kernel_rfl) (by kernel_rfl) (by kernel_rfl) (fun _ _ _ h => h) (Or.inl ⟨by rfl, ?hy4u58⟩) hHeld ?rest4u58
  case hy4u58 =>
    intro w' hS'
    go_simp
    try with_reducible rfl
  simp only [List.setIfInBounds_toArray, List.set_cons_zero, List.set_cons_succ]
  refine take_op (i := 5) (d := 63) (v := ?_) rfl rfl (by kernel_rfl) (by kernel_rfl) (by kernel_rfl) (fun _ _ _ h => h) (Or.inl ⟨by rfl, ?hy5u59⟩) hHeld ?rest5u59
  case hy5u59 =>
    intro w' hS'
    go_simp
    try with_reducible rfl
  simp only [List.setIfInBounds_toArray, List.set_cons_zero, List.set_cons_succ]
  refine wpAnyH_ready (rs := [1]) (by kernel_rfl) (by simp) ?_
  refine AllReadyH.cons rfl (fun K hK => ?_) AllReadyH.nil
  go_simp
  refine (toAwning_any _ _ _ _ _).mono ?_
  rintro e W21 ⟨rfl, hb21⟩
  refine hK.out _ _ (hHeld.trans (hb21.mono hHeld.size)) (fun hHeld2 => ?_)
  clear hK K
  replace hHeld := hHeld2
  clear hHeld2
  clear hb21
  refine wpAnyH_ready (rs := [3]) (by kernel_rfl) (by simp) ?_
  refine AllReadyH.cons rfl (fun K hK => ?_) AllReadyH.nil
  go_simp
  refine (toSun_any hs ts Hh.out Ht.out _).mono ?_
  rintro e W22 ⟨rfl, hb22⟩
  refine hK.out _ _ (hHeld.trans (hb22.mono hHeld.size)) (fun hHeld2 => ?_)
  clear hK K
  replace hHeld := hHeld2
  clear hHeld2
  clear hb22
  refine wpAnyH_ready (rs := [6]) (by kernel_rfl) (by simp) ?_
  refine AllReadyH.cons rfl (fun K hK => ?_) AllReadyH.nil
  go_simp
  refine (HI.out _ (errs_below HX.out hHeld)).mono ?_
  rintro e W23 ⟨⟨v2, rfl, hv2⟩, hb23⟩
  refine hK.out _ _ (hHeld.trans (hb23.mono hHeld.size)) (fun hHeld2 => ?_)
  clear hK K
  replace hHeld := hHeld2
  clear hHeld2
  clear hb23
  refine take_op (i := 7) (d := 57) (v := ?_) rfl rfl (by kernel_rfl) (by kernel_rfl) (by kernel_rfl) (fun _ _ _ h => h) (Or.inl ⟨by rfl, ?hy7u60⟩) hHeld ?rest7u60
  case hy7u60 =>
    intro w' hS'
    go_simp
    try with_reducible rfl
  simp only [List.setIfInBounds_toArray, List.set_cons_zero, List.set_cons_succ]
  refine take_op (i := 8) (d := 65) (v := ?_) rfl rfl (by kernel_rfl) (by kernel_rfl) (by kernel_rfl) (fun _ _ _ h => h) (Or.inl ⟨by rfl, ?hy8u61⟩) hHeld ?rest8u61
  case hy8u61 =>
    intro w' hS'
    go_simp
    try with_reducible rfl
  simp only [List.setIfInBounds_toArray, List.set_cons_zero, List.set_cons_succ]
  refine take_op (i := 9) (d := 66) (v := ?_) rfl rfl (by kernel_rfl) (by kernel_rfl) (by kernel_rfl) (fun _ _ _ h => h) (Or.inl ⟨by rfl, ?hy9u62⟩) hHeld ?rest9u62
  case hy9u62 =>
    intro w' hS'
    go_simp
    try with_reducible rfl
  simp only [List.setIfInBounds_toArray, List.set_cons_zero, List.set_cons_succ]
  refine take_op (i := 10) (d := 15) (v := ?_) rfl rfl (by kernel_rfl) (by kernel_rfl) (by kernel_rfl) (fun _ _ _ h => h) (Or.inl ⟨by rfl, ?hy10u63⟩) hHeld ?rest10u63
  case hy10u63 =>
    intro w' hS'
    go_simp
    try with_reducible rfl
  simp only [List.setIfInBounds_toArray, List.set_cons_zero, List.set_cons_succ]
  refine take_op (i := 11) (d := 16) (v := ?_) rfl rfl (by kernel_rfl) (by kernel_rfl) (by kernel_rfl) (fun _ _ _ h => h) (Or.inl ⟨by rfl, ?hy11u64⟩) hHeld ?rest11u64
  case hy11u64 =>
    intro w' hS'
    go_simp
    try with_reducible rfl
  simp only [List.setIfInBounds_toArray, List.set_cons_zero, List.set_cons_succ]
  refine wpAnyH_done (by kernel_rfl) ?_ _
  replace H0 := Lib.hid (below_row hHeld H0.out)
  replace H1 := Lib.hid (below_row hHeld H1.out)
  replace hv0 := own_below hv0 hHeld (Nat.le_refl _)
  replace hv1 := own_below hv1 hHeld (Nat.le_refl _)
  replace HX := Lib.hid (errs_below HX.out hHeld)
  replace hb := hb.trans (hHeld.mono hb.size)
  clear hHeld
  clear HX H0 H1 HS HI HE
  go_upto_region 16 with (go_at_call 30; refine (eqI_same xs v2 v0 _ _ _ hv2 hv0).mono ?_; rintro e W38 ⟨rfl, hb1⟩; replace hv1 := own_below hv1 hb1 (Nat.le_refl _); replace hb := hb.trans (hb1.mono hb.size); clear hb1)
  go_wp2_with (go_at_call 32; refine (heldI_same 1 xs.length v1 BB _ (by decide) (by decide) (by omega) hv1).mono ?_; rintro e W39 ⟨rfl, hb1⟩; replace hb := hb.trans (hb1.mono hb.size); clear hb1)
  go_ret
  exact ⟨rfl, hb⟩

theorem wantH_short (P : Int → Bool) : (wantH P (hrs 24)).length ≤ 1000 := by
  have h := wantH_len P (hrs 24)
  rw [hrs_length] at h
  omega

theorem lawShadedHours_walk (o dr gp tl : Nat) (ww : AwWf o dr gp tl) (hs ts : List Int) (hh : hs.length = 24) (ht : ts.length = 24) (rb : ∀ x ∈ hs ++ ts, -32768 ≤ x ∧ x ≤ 32767) (fc : Int) (le : Nat) (hwl : (Lit.float .f32 le).wf = true) (w : World) {e0 e1 e2 e3 : Addr} (hE : ErrsAt w e0 e1 e2 e3) :
    Calls Tryd.prog 8 #[.agg (awC o dr gp tl), .agg (sunC hs ts), .int .i64 fc, .float .f32 le] w fun e w' => e = .returned (.bool true) ∧ Below w.heap.size w w' := by
  by_cases hz : refN (okAw o dr gp tl && okB hs ts) (inF fc && partB le) true = 0
  · obtain ⟨hv, a01, _⟩ := refN_ok.1 hz
    rw [Bool.and_eq_true] at hv a01
    obtain ⟨h1, h2⟩ := hv
    obtain ⟨a0, a1⟩ := a01
    have aw := awok_of ww h1
    have q : ∀ k : Nat, k < 24 → HrOk hs ts (k : Int) fc := fun k hk => hrok_of hh ht h2 (by omega) (by omega) a0
    have hle := part_fin hwl a1
    exact FnExactShadedHours_core o dr gp tl hs ts hh ht fc le _ _ (wantH_short _) e0 e1 e2 e3 (fun w => sshh_yes aw hs ts hh ht rb fc le hle q (by rw [show inH 0 = true from rfl, Bool.true_and]; exact hz) w) (fun w h => shh_yes aw hs ts hh ht fc le hle q h1 h2 a0 a1 e0 e1 e2 e3 w h) w hE
  · have hsp : ∀ w, Calls Tryd.prog 28 #[.agg (awC o dr gp tl), .agg (sunC hs ts), .int .i64 fc, .float .f32 le] w (RetList [] (codeE (refN (okAw o dr gp tl && okB hs ts) (inF fc && partB le) true)) w) := fun w => sshh_no o dr gp tl hs ts hh ht rb fc le _ (by rw [show inH 0 = true from rfl, Bool.true_and]) (codeE_ne hz) w
    have hof : ∀ (w : World) (e : Ending) (w' : World), (e = .returned (.tuple #[.slice none 0 0, .int .i64 (codeE (refN (okAw o dr gp tl && okB hs ts) (inF fc && partB le) true))]) ∧ Below w.heap.size w w') → RetList [] (codeE (refN (okAw o dr gp tl && okB hs ts) (inF fc && partB le) true)) w e w' := fun w e w' h => ⟨⟨_, h.1, own_nil⟩, h.2⟩
    refine FnExactShadedHours_core o dr gp tl hs ts hh ht fc le _ _ (Nat.zero_le _) e0 e1 e2 e3 hsp (fun w h => ?_) w hE
    cases a0 : inF fc with
    | false => rw [a0, Bool.false_and] at hz hof; exact (shh_no0 o dr gp tl hs ts hh ht fc le a0 e0 e1 e2 e3 _ rfl (codeE_ne hz) w h).mono (hof w)
    | true => rw [a0, Bool.true_and] at hz hof; exact (shh_no1 o dr gp tl hs ts hh ht fc le (partB le) a0 rfl e0 e1 e2 e3 _ rfl (codeE_ne hz) w h).mono (hof w)

end Go.Proofs.YtnienahjfocalaaDoor
