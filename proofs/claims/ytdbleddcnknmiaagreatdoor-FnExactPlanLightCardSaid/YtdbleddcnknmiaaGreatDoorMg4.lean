/-
  DyL, Day, WithBS, New, DyO, DyM, DyP.
-/
import Derived.Test.YtdbleddcnknmiaaGreatDoorMg3
import Derived.Test.YtdbleddcnknmiaaGreatDoorMg2
import Derived.Test.YtdbleddcnknmiaaGreatDoorLaw
import Derived.Test.YtdbleddcnknmiaaGreatDoorRow
import Derived.Test.YtdbleddcnknmiaaGreatDoorMg1
import Derived.RangeFuncFrom
import Derived.RangeFuncWrites

namespace Go.Proofs.YtdbleddcnknmiaaGreatDoor
open Go.ChangeShapes Go.WideShapes Go.ChangeAt Go.RowKit Go.Deep Go.Joins

attribute [local go_sem] run_store_f

set_option maxRecDepth 100000 in
set_option maxHeartbeats 2000000 in
theorem light_any (hs ts : List Int) (hh : hs.length = 24) (ht : ts.length = 24) (fc : Int) (lo hi : Nat) (n : Int) (wd gp : Nat) (t : Int) (sh : Nat) (ok : BlOk n wd gp t sh) (hour x : Int) (k : HrOk hs ts hour fc) (x0 : -64 ≤ x) (x1 : x ≤ 64) (w : World) :
    Calls Tryz.prog 51 #[.agg (dayC hs ts fc lo hi n wd gp t sh), .int .i64 hour, .int .i64 x] w fun e w' => e = .returned (.float .f32 (winB wd gp x sh hs ts hour fc)) ∧ Below w.heap.size w w' := by
  have okx : BlOk n wd gp x sh := ⟨ok.1, ok.2.1, ok.2.2.1, ok.2.2.2.1, ok.2.2.2.2.1, ok.2.2.2.2.2.1, x0, x1, ok.2.2.2.2.2.2.2.2⟩
  have HT := Lib.hid (fun w => tilted_any2 n wd gp t sh x x0 x1 w)
  have HP := Lib.hid (fun w => passer_any n wd gp x sh okx w)
  have HW := Lib.hid (fun p1 p2 w c1 c2 => windowAt_any n wd gp x sh hs ts hh ht okx hour fc k.h0 k.h1 k.f0 k.f1 k.x1 k.y0 k.y1 p1 p2 w c1 c2)
  have Hh := Lib.hid hh
  have Ht := Lib.hid ht
  generalize winB wd gp x sh hs ts hour fc = v at *
  clear hh ht ok okx k x0 x1
  go_enter Tryz.func51, Tryz.ntmps51
  go_upto_region 1 with (fail)
  refine abs_code (fun W => W.heap[w.heap.size]? = some (.cells (dayC hs ts fc lo hi n wd gp t sh) 69 (0, 0)) ∧ Below w.heap.size w W) ⟨heap_alloc_new _ _, (Below.refl _ _).alloc (Nat.le_refl _) _⟩ ?_
  rintro W ⟨h0, hb⟩
  have H0 := Lib.hid h0
  clear h0
  refine wp_region_held_drew (S := (fun V => Below W.heap.size W V)) (by kernel_rfl) (Below.refl _ _).drew (fun hHeld => ?_)
  refine take_op (i := 0) (d := 7) (v := ?_) rfl rfl (by kernel_rfl) (by kernel_rfl) (by kernel_rfl) (fun _ _ _ h => h) (Or.inl ⟨by rfl, ?hy0u19⟩) hHeld ?rest0u19
  case hy0u19 =>
    intro w' hS'
    go_simp
    try with_reducible rfl
  simp only [List.setIfInBounds_toArray, List.set_cons_zero, List.set_cons_succ]
  refine take_op (i := 1) (d := 8) (v := .agg (blindC n wd gp t sh)) rfl rfl (by kernel_rfl) (by kernel_rfl) (by kernel_rfl) (fun _ _ _ h => h) (yields_row (by rfl) 33 (.tmp 7) (by rfl) w.heap.size 51 5 (by rfl) 69 (dayC hs ts fc lo hi n wd gp t sh) (0, 0) _ (fun _ h => below_row h H0.out) Tryz.underlying33 rfl info_blind (dy_fits 56 (by decide) hs ts Hh.out Ht.out fc lo hi n wd gp t sh) (blindC n wd gp t sh) (dy_bl hs ts Hh.out Ht.out fc lo hi n wd gp t sh)) hHeld ?_
  simp only [List.setIfInBounds_toArray, List.set_cons_zero, List.set_cons_succ]
  refine take_op (i := 2) (d := 9) (v := ?_) rfl rfl (by kernel_rfl) (by kernel_rfl) (by kernel_rfl) (fun _ _ _ h => h) (Or.inl ⟨by rfl, ?hy2u20⟩) hHeld ?rest2u20
  case hy2u20 =>
    intro w' hS'
    go_simp
    try with_reducible rfl
  simp only [List.setIfInBounds_toArray, List.set_cons_zero, List.set_cons_succ]
  refine take_op (i := 5) (d := 12) (v := ?_) rfl rfl (by kernel_rfl) (by kernel_rfl) (by kernel_rfl) (fun _ _ _ h => h) (Or.inl ⟨by rfl, ?hy5u21⟩) hHeld ?rest5u21
  case hy5u21 =>
    intro w' hS'
    go_simp
    try with_reducible rfl
  simp only [List.setIfInBounds_toArray, List.set_cons_zero, List.set_cons_succ]
  refine take_op (i := 6) (d := 13) (v := ?_) rfl rfl (by kernel_rfl) (by kernel_rfl) (by kernel_rfl) (fun _ _ _ h => h) (Or.inl ⟨by rfl, ?hy6u22⟩) hHeld ?rest6u22
  case hy6u22 =>
    intro w' hS'
    go_simp
    try with_reducible rfl
  simp only [List.setIfInBounds_toArray, List.set_cons_zero, List.set_cons_succ]
  refine take_op (i := 7) (d := 14) (v := .agg (sunC hs ts)) rfl rfl (by kernel_rfl) (by kernel_rfl) (by kernel_rfl) (fun _ _ _ h => h) (yields_row (by rfl) 35 (.tmp 13) (by rfl) w.heap.size 0 48 (by rfl) 69 (dayC hs ts fc lo hi n wd gp t sh) (0, 0) _ (fun _ h => below_row h H0.out) Tryz.underlying35 rfl info_sun (dy_fits 48 (by decide) hs ts Hh.out Ht.out fc lo hi n wd gp t sh) (sunC hs ts) (dy_sun hs ts Hh.out Ht.out fc lo hi n wd gp t sh)) hHeld ?_
  simp only [List.setIfInBounds_toArray, List.set_cons_zero, List.set_cons_succ]
  refine take_op (i := 8) (d := 15) (v := ?_) rfl rfl (by kernel_rfl) (by kernel_rfl) (by kernel_rfl) (fun _ _ _ h => h) (Or.inl ⟨by rfl, ?hy8u23⟩) hHeld ?rest8u23
  case hy8u23 =>
    intro w' hS'
    go_simp
    try with_reducible rfl
  simp only [List.setIfInBounds_toArray, List.set_cons_zero, List.set_cons_succ]
  refine take_op (i := 9) (d := 16) (v := ?_) rfl rfl (by kernel_rfl) (by kernel_rfl) (by kernel_rfl) (fun _ _ _ h => h) (Or.inl ⟨by rfl, ?hy9u24⟩) hHeld ?rest9u24
  case hy9u24 =>
    intro w' hS'
    go_simp
    try with_reducible rfl
  simp only [List.setIfInBounds_toArray, List.set_cons_zero, List.set_cons_succ]
  refine take_op (i := 10) (d := 17) (v := ?_) rfl rfl (by kernel_rfl) (by kernel_rfl) (by kernel_rfl) (fun _ _ _ h => h) (Or.inl ⟨by rfl, ?hy10u25⟩) hHeld ?rest10u25
  case hy10u25 =>
    intro w' hS'
    go_simp
    try with_reducible rfl
  simp only [List.setIfInBounds_toArray, List.set_cons_zero, List.set_cons_succ]
  refine take_op (i := 11) (d := 18) (v := ?_) rfl rfl (by kernel_rfl) (by kernel_rfl) (by kernel_rfl) (fun _ _ _ h => h) (Or.inl ⟨by rfl, ?hy11u26⟩) hHeld ?rest11u26
  case hy11u26 =>
    intro w' hS'
    have q := dy_cell hs ts Hh.out Ht.out fc lo hi n wd gp t sh (below_row hS' H0.out)
    go_simp
    try with_reducible rfl
  simp only [List.setIfInBounds_toArray, List.set_cons_zero, List.set_cons_succ]
  refine wpAnyH_ready (rs := [3]) (by kernel_rfl) (by simp) ?_
  refine AllReadyH.cons rfl (fun K hK => ?_) AllReadyH.nil
  go_simp
  refine (HT.out _).mono ?_
  rintro e W1 ⟨rfl, hb1⟩
  refine hK.out _ _ (hHeld.trans (hb1.mono hHeld.size)) (fun hHeld2 => ?_)
  clear hK K
  replace hHeld := hHeld2
  clear hHeld2
  clear hb1
  refine wpAnyH_ready (rs := [4]) (by kernel_rfl) (by simp) ?_
  refine AllReadyH.cons rfl (fun K hK => ?_) AllReadyH.nil
  go_simp
  refine (HP.out _).mono ?_
  rintro e W2 ⟨⟨v, rfl, p1, p2, rfl, c4, c5⟩, hb2⟩
  have C4 := Lib.hid c4
  have C5 := Lib.hid c5
  clear c4 c5
  refine hK.out _ _ (hHeld.trans (hb2.mono hHeld.size)) (fun hHeld2 => ?_)
  clear hK K
  replace hHeld := hHeld2
  clear hHeld2
  clear hb2
  refine wpAnyH_ready (rs := [12]) (by kernel_rfl) (by simp) ?_
  refine AllReadyH.cons rfl (fun K hK => ?_) AllReadyH.nil
  go_simp
  refine (HW.out p1 p2 _ C4.out C5.out).mono ?_
  rintro e W3 ⟨rfl, hb3⟩
  refine hK.out _ _ (hHeld.trans (hb3.mono hHeld.size)) (fun hHeld2 => ?_)
  clear hK K
  replace hHeld := hHeld2
  clear hHeld2
  clear hb3
  refine take_op (i := 13) (d := 6) (v := ?_) rfl rfl (by kernel_rfl) (by kernel_rfl) (by kernel_rfl) (fun _ _ _ h => h) (Or.inl ⟨by rfl, ?hy13u27⟩) hHeld ?rest13u27
  case hy13u27 =>
    intro w' hS'
    go_simp
    try with_reducible rfl
  simp only [List.setIfInBounds_toArray, List.set_cons_zero, List.set_cons_succ]
  refine wpAnyH_done (by kernel_rfl) ?_ _
  replace hb := hb.trans (hHeld.mono hb.size)
  clear hHeld H0 HT HP HW C4 C5
  go_wp2
  go_ret
  exact ⟨rfl, hb⟩

/-- Whether an hour keeps within bounds with a tilt. -/
def kpB (hs ts : List Int) (fc : Int) (lo hi : Nat) (wd gp sh : Nat) (hour x : Int) : Bool :=
  !gtO (winB wd gp x sh hs ts hour fc) hi && (!ltO (winB wd gp x sh hs ts hour fc) lo || ltO (fallOf hs ts hour fc) lo)

set_option maxRecDepth 100000 in
set_option maxHeartbeats 4000000 in
theorem keeps_any (hs ts : List Int) (hh : hs.length = 24) (ht : ts.length = 24) (fc : Int) (lo hi : Nat) (n : Int) (wd gp : Nat) (t : Int) (sh : Nat) (ok : BlOk n wd gp t sh) (hour x : Int) (k : HrOk hs ts hour fc) (x0 : -64 ≤ x) (x1 : x ≤ 64) (w : World) :
    Calls Tryz.prog 53 #[.agg (dayC hs ts fc lo hi n wd gp t sh), .int .i64 hour, .int .i64 x] w fun e w' => e = .returned (.bool (kpB hs ts fc lo hi wd gp sh hour x)) ∧ Below w.heap.size w w' := by
  have HL := Lib.hid (fun w => light_any hs ts hh ht fc lo hi n wd gp t sh ok hour x k x0 x1 w)
  have HF := Lib.hid (fun w => fall_any hs ts hh ht fc hour k w)
  have Hh := Lib.hid hh
  have Ht := Lib.hid ht
  unfold kpB
  generalize winB wd gp x sh hs ts hour fc = v at *
  generalize fallOf hs ts hour fc = f at *
  clear hh ht ok k x0 x1
  rcases g1 : gtO v hi with _ | _
  · rcases g2 : ltO v lo with _ | _
    · have G1 := Lib.hid g1
      have G2 := Lib.hid g2
      clear g1 g2
      go_enter Tryz.func53, Tryz.ntmps53
      go_upto_region 1 with (fail)
      refine abs_code (fun W => W.heap[w.heap.size]? = some (.cells (dayC hs ts fc lo hi n wd gp t sh) 69 (0, 0)) ∧ Below w.heap.size w W) ⟨heap_alloc_new _ _, (Below.refl _ _).alloc (Nat.le_refl _) _⟩ ?_
      rintro W0 ⟨h0, hb⟩
      have H0 := Lib.hid h0
      clear h0
      go_upto_region 2 with (first | (refine wpList_load_part rfl 69 _ rfl w.heap.size 0 56 rfl 69 (dayC hs ts fc lo hi n wd gp t sh) (0, 0) _ H0.out Tryz.underlying69 rfl info_dy (dy_fits 56 (by decide) hs ts Hh.out Ht.out fc lo hi n wd gp t sh) (dayC hs ts fc lo hi n wd gp t sh) (dy_all hs ts Hh.out Ht.out fc lo hi n wd gp t sh) ?_) | (go_at_call 51; refine (HL.out _).mono ?_; rintro e W ⟨rfl, hb1⟩; replace H0 := Lib.hid (below_row hb1 H0.out); replace hb := hb.trans (hb1.mono hb.size); clear hb1))
      refine wp_region_held_drew (S := (fun V => Below W.heap.size W V)) (by kernel_rfl) (Below.refl _ _).drew (fun hHeld => ?_)
      refine take_op (i := 0) (d := 12) (v := ?_) rfl rfl (by kernel_rfl) (by kernel_rfl) (by kernel_rfl) (fun _ _ _ h => h) (Or.inl ⟨by rfl, ?hy0u28⟩) hHeld ?rest0u28
      case hy0u28 =>
        intro w' hS'
        go_simp
        try with_reducible rfl
      simp only [List.setIfInBounds_toArray, List.set_cons_zero, List.set_cons_succ]
      refine take_op (i := 1) (d := 13) (v := .agg (bnC lo hi)) rfl rfl (by kernel_rfl) (by kernel_rfl) (by kernel_rfl) (fun _ _ _ h => h) (yields_row (by rfl) 67 (.tmp 12) (by rfl) w.heap.size 49 2 (by rfl) 69 (dayC hs ts fc lo hi n wd gp t sh) (0, 0) _ (fun _ h => below_row h H0.out) Tryz.underlying67 rfl info_bn (dy_fits 51 (by decide) hs ts Hh.out Ht.out fc lo hi n wd gp t sh) (bnC lo hi) (dy_bn hs ts Hh.out Ht.out fc lo hi n wd gp t sh)) hHeld ?_
      simp only [List.setIfInBounds_toArray, List.set_cons_zero, List.set_cons_succ]
      refine take_op (i := 2) (d := 14) (v := ?_) rfl rfl (by kernel_rfl) (by kernel_rfl) (by kernel_rfl) (fun _ _ _ h => h) (Or.inl ⟨by rfl, ?hy2u29⟩) hHeld ?rest2u29
      case hy2u29 =>
        intro w' hS'
        go_simp
        try with_reducible rfl
      simp only [List.setIfInBounds_toArray, List.set_cons_zero, List.set_cons_succ]
      refine wpAnyH_ready (rs := [3]) (by kernel_rfl) (by simp) ?_
      refine AllReadyH.cons rfl (fun K hK => ?_) AllReadyH.nil
      go_simp
      refine (dyBright_is lo hi v false G1.out _).mono ?_
      rintro e W1 ⟨rfl, hb1⟩
      refine hK.out _ _ (hHeld.trans (hb1.mono hHeld.size)) (fun hHeld2 => ?_)
      clear hK K
      replace hHeld := hHeld2
      clear hHeld2
      clear hb1
      refine take_op (i := 4) (d := 16) (v := ?_) rfl rfl (by kernel_rfl) (by kernel_rfl) (by kernel_rfl) (fun _ _ _ h => h) (Or.inl ⟨by rfl, ?hy4u30⟩) hHeld ?rest4u30
      case hy4u30 =>
        intro w' hS'
        go_simp
        try with_reducible rfl
      simp only [List.setIfInBounds_toArray, List.set_cons_zero, List.set_cons_succ]
      refine take_op (i := 5) (d := 17) (v := ?_) rfl rfl (by kernel_rfl) (by kernel_rfl) (by kernel_rfl) (fun _ _ _ h => h) (Or.inl ⟨by rfl, ?hy5u31⟩) hHeld ?rest5u31
      case hy5u31 =>
        intro w' hS'
        go_simp
        try with_reducible rfl
      simp only [List.setIfInBounds_toArray, List.set_cons_zero, List.set_cons_succ]
      refine take_op (i := 6) (d := 18) (v := ?_) rfl rfl (by kernel_rfl) (by kernel_rfl) (by kernel_rfl) (fun _ _ _ h => h) (Or.inl ⟨by rfl, ?hy6u32⟩) hHeld ?rest6u32
      case hy6u32 =>
        intro w' hS'
        go_simp
        try with_reducible rfl
      simp only [List.setIfInBounds_toArray, List.set_cons_zero, List.set_cons_succ]
      refine take_op (i := 7) (d := 19) (v := .agg (bnC lo hi)) rfl rfl (by kernel_rfl) (by kernel_rfl) (by kernel_rfl) (fun _ _ _ h => h) (yields_row (by rfl) 67 (.tmp 18) (by rfl) w.heap.size 49 2 (by rfl) 69 (dayC hs ts fc lo hi n wd gp t sh) (0, 0) _ (fun _ h => below_row h H0.out) Tryz.underlying67 rfl info_bn (dy_fits 51 (by decide) hs ts Hh.out Ht.out fc lo hi n wd gp t sh) (bnC lo hi) (dy_bn hs ts Hh.out Ht.out fc lo hi n wd gp t sh)) hHeld ?_
      simp only [List.setIfInBounds_toArray, List.set_cons_zero, List.set_cons_succ]
      refine take_op (i := 8) (d := 20) (v := ?_) rfl rfl (by kernel_rfl) (by kernel_rfl) (by kernel_rfl) (fun _ _ _ h => h) (Or.inl ⟨by rfl, ?hy8u33⟩) hHeld ?rest8u33
      case hy8u33 =>
        intro w' hS'
        go_simp
        try with_reducible rfl
      simp only [List.setIfInBounds_toArray, List.set_cons_zero, List.set_cons_succ]
      refine wpAnyH_ready (rs := [9]) (by kernel_rfl) (by simp) ?_
      refine AllReadyH.cons rfl (fun K hK => ?_) AllReadyH.nil
      go_simp
      refine (dyDark_is lo hi v false G2.out _).mono ?_
      rintro e W1 ⟨rfl, hb1⟩
      refine hK.out _ _ (hHeld.trans (hb1.mono hHeld.size)) (fun hHeld2 => ?_)
      clear hK K
      replace hHeld := hHeld2
      clear hHeld2
      clear hb1
      refine take_op (i := 10) (d := 22) (v := ?_) rfl rfl (by kernel_rfl) (by kernel_rfl) (by kernel_rfl) (fun _ _ _ h => h) (Or.inl ⟨by rfl, ?hy10u34⟩) hHeld ?rest10u34
      case hy10u34 =>
        intro w' hS'
        go_simp
        try with_reducible rfl
      simp only [List.setIfInBounds_toArray, List.set_cons_zero, List.set_cons_succ]
      refine take_op (i := 11) (d := 23) (v := ?_) rfl rfl (by kernel_rfl) (by kernel_rfl) (by kernel_rfl) (fun _ _ _ h => h) (Or.inl ⟨by rfl, ?hy11u35⟩) hHeld ?rest11u35
      case hy11u35 =>
        intro w' hS'
        go_simp
        try with_reducible rfl
      simp only [List.setIfInBounds_toArray, List.set_cons_zero, List.set_cons_succ]
      refine take_op (i := 12) (d := 24) rfl rfl (by kernel_rfl) (by kernel_rfl) (by kernel_rfl) (fun _ _ _ h => h) (Or.inr ⟨by rfl, rfl⟩) hHeld ?_
      simp only [List.setIfInBounds_toArray, List.set_cons_zero, List.set_cons_succ]
      refine take_op (i := 13) (d := 25) rfl rfl (by kernel_rfl) (by kernel_rfl) (by kernel_rfl) (fun _ _ _ h => h) (Or.inr ⟨by rfl, rfl⟩) hHeld ?_
      simp only [List.setIfInBounds_toArray, List.set_cons_zero, List.set_cons_succ]
      refine take_op (i := 14) (d := 26) rfl rfl (by kernel_rfl) (by kernel_rfl) (by kernel_rfl) (fun _ _ _ h => h) (Or.inr ⟨by rfl, rfl⟩) hHeld ?_
      simp only [List.setIfInBounds_toArray, List.set_cons_zero, List.set_cons_succ]
      refine take_op (i := 15) (d := 27) rfl rfl (by kernel_rfl) (by kernel_rfl) (by kernel_rfl) (fun _ _ _ h => h) (Or.inr ⟨by rfl, rfl⟩) hHeld ?_
      simp only [List.setIfInBounds_toArray, List.set_cons_zero, List.set_cons_succ]
      refine take_op (i := 16) (d := 28) rfl rfl (by kernel_rfl) (by kernel_rfl) (by kernel_rfl) (fun _ _ _ h => h) (Or.inr ⟨by rfl, rfl⟩) hHeld ?_
      simp only [List.setIfInBounds_toArray, List.set_cons_zero, List.set_cons_succ]
      refine take_op (i := 17) (d := 29) rfl rfl (by kernel_rfl) (by kernel_rfl) (by kernel_rfl) (fun _ _ _ h => h) (Or.inr ⟨by rfl, rfl⟩) hHeld ?_
      simp only [List.setIfInBounds_toArray, List.set_cons_zero, List.set_cons_succ]
      refine take_op (i := 18) (d := 30) rfl rfl (by kernel_rfl) (by kernel_rfl) (by kernel_rfl) (fun _ _ _ h => h) (Or.inr ⟨by rfl, rfl⟩) hHeld ?_
      simp only [List.setIfInBounds_toArray, List.set_cons_zero, List.set_cons_succ]
      refine take_op (i := 19) (d := 31) (v := ?_) rfl rfl (by kernel_rfl) (by kernel_rfl) (by kernel_rfl) (fun _ _ _ h => h) (Or.inl ⟨by rfl, ?hy19u36⟩) hHeld ?rest19u36
      case hy19u36 =>
        intro w' hS'
        go_simp
        try with_reducible rfl
      simp only [List.setIfInBounds_toArray, List.set_cons_zero, List.set_cons_succ]
      refine take_op (i := 20) (d := 32) (v := ?_) rfl rfl (by kernel_rfl) (by kernel_rfl) (by kernel_rfl) (fun _ _ _ h => h) (Or.inl ⟨by rfl, ?hy20u37⟩) hHeld ?rest20u37
      case hy20u37 =>
        intro w' hS'
        go_simp
        try with_reducible rfl
      simp only [List.setIfInBounds_toArray, List.set_cons_zero, List.set_cons_succ]
      refine take_op (i := 21) (d := 6) (v := ?_) rfl rfl (by kernel_rfl) (by kernel_rfl) (by kernel_rfl) (fun _ _ _ h => h) (Or.inl ⟨by rfl, ?hy21u38⟩) hHeld ?rest21u38
      case hy21u38 =>
        intro w' hS'
        go_simp
        try with_reducible rfl
      simp only [List.setIfInBounds_toArray, List.set_cons_zero, List.set_cons_succ]
      refine wpAnyH_done (by kernel_rfl) ?_ _
      replace hb := hb.trans (hHeld.mono hb.size)
      clear hHeld H0 HL HF
      go_wp2
      go_ret
      exact ⟨rfl, hb⟩
    · have G1 := Lib.hid g1
      have G2 := Lib.hid g2
      obtain ⟨g, g3⟩ : ∃ g, ltO f lo = g := ⟨_, rfl⟩
      have G3 := Lib.hid g3
      rw [g3]
      clear g1 g2 g3
      go_enter Tryz.func53, Tryz.ntmps53
      go_upto_region 1 with (fail)
      refine abs_code (fun W => W.heap[w.heap.size]? = some (.cells (dayC hs ts fc lo hi n wd gp t sh) 69 (0, 0)) ∧ Below w.heap.size w W) ⟨heap_alloc_new _ _, (Below.refl _ _).alloc (Nat.le_refl _) _⟩ ?_
      rintro W0 ⟨h0, hb⟩
      have H0 := Lib.hid h0
      clear h0
      go_upto_region 2 with (first | (refine wpList_load_part rfl 69 _ rfl w.heap.size 0 56 rfl 69 (dayC hs ts fc lo hi n wd gp t sh) (0, 0) _ H0.out Tryz.underlying69 rfl info_dy (dy_fits 56 (by decide) hs ts Hh.out Ht.out fc lo hi n wd gp t sh) (dayC hs ts fc lo hi n wd gp t sh) (dy_all hs ts Hh.out Ht.out fc lo hi n wd gp t sh) ?_) | (go_at_call 51; refine (HL.out _).mono ?_; rintro e W ⟨rfl, hb1⟩; replace H0 := Lib.hid (below_row hb1 H0.out); replace hb := hb.trans (hb1.mono hb.size); clear hb1))
      refine wp_region_held_drew (S := (fun V => Below W.heap.size W V)) (by kernel_rfl) (Below.refl _ _).drew (fun hHeld => ?_)
      refine take_op (i := 0) (d := 12) (v := ?_) rfl rfl (by kernel_rfl) (by kernel_rfl) (by kernel_rfl) (fun _ _ _ h => h) (Or.inl ⟨by rfl, ?hy0u39⟩) hHeld ?rest0u39
      case hy0u39 =>
        intro w' hS'
        go_simp
        try with_reducible rfl
      simp only [List.setIfInBounds_toArray, List.set_cons_zero, List.set_cons_succ]
      refine take_op (i := 1) (d := 13) (v := .agg (bnC lo hi)) rfl rfl (by kernel_rfl) (by kernel_rfl) (by kernel_rfl) (fun _ _ _ h => h) (yields_row (by rfl) 67 (.tmp 12) (by rfl) w.heap.size 49 2 (by rfl) 69 (dayC hs ts fc lo hi n wd gp t sh) (0, 0) _ (fun _ h => below_row h H0.out) Tryz.underlying67 rfl info_bn (dy_fits 51 (by decide) hs ts Hh.out Ht.out fc lo hi n wd gp t sh) (bnC lo hi) (dy_bn hs ts Hh.out Ht.out fc lo hi n wd gp t sh)) hHeld ?_
      simp only [List.setIfInBounds_toArray, List.set_cons_zero, List.set_cons_succ]
      refine take_op (i := 2) (d := 14) (v := ?_) rfl rfl (by kernel_rfl) (by kernel_rfl) (by kernel_rfl) (fun _ _ _ h => h) (Or.inl ⟨by rfl, ?hy2u40⟩) hHeld ?rest2u40
      case hy2u40 =>
        intro w' hS'
        go_simp
        try with_reducible rfl
      simp only [List.setIfInBounds_toArray, List.set_cons_zero, List.set_cons_succ]
      refine wpAnyH_ready (rs := [3]) (by kernel_rfl) (by simp) ?_
      refine AllReadyH.cons rfl (fun K hK => ?_) AllReadyH.nil
      go_simp
      refine (dyBright_is lo hi v false G1.out _).mono ?_
      rintro e W1 ⟨rfl, hb1⟩
      refine hK.out _ _ (hHeld.trans (hb1.mono hHeld.size)) (fun hHeld2 => ?_)
      clear hK K
      replace hHeld := hHeld2
      clear hHeld2
      clear hb1
      refine take_op (i := 4) (d := 16) (v := ?_) rfl rfl (by kernel_rfl) (by kernel_rfl) (by kernel_rfl) (fun _ _ _ h => h) (Or.inl ⟨by rfl, ?hy4u41⟩) hHeld ?rest4u41
      case hy4u41 =>
        intro w' hS'
        go_simp
        try with_reducible rfl
      simp only [List.setIfInBounds_toArray, List.set_cons_zero, List.set_cons_succ]
      refine take_op (i := 5) (d := 17) (v := ?_) rfl rfl (by kernel_rfl) (by kernel_rfl) (by kernel_rfl) (fun _ _ _ h => h) (Or.inl ⟨by rfl, ?hy5u42⟩) hHeld ?rest5u42
      case hy5u42 =>
        intro w' hS'
        go_simp
        try with_reducible rfl
      simp only [List.setIfInBounds_toArray, List.set_cons_zero, List.set_cons_succ]
      refine take_op (i := 6) (d := 18) (v := ?_) rfl rfl (by kernel_rfl) (by kernel_rfl) (by kernel_rfl) (fun _ _ _ h => h) (Or.inl ⟨by rfl, ?hy6u43⟩) hHeld ?rest6u43
      case hy6u43 =>
        intro w' hS'
        go_simp
        try with_reducible rfl
      simp only [List.setIfInBounds_toArray, List.set_cons_zero, List.set_cons_succ]
      refine take_op (i := 7) (d := 19) (v := .agg (bnC lo hi)) rfl rfl (by kernel_rfl) (by kernel_rfl) (by kernel_rfl) (fun _ _ _ h => h) (yields_row (by rfl) 67 (.tmp 18) (by rfl) w.heap.size 49 2 (by rfl) 69 (dayC hs ts fc lo hi n wd gp t sh) (0, 0) _ (fun _ h => below_row h H0.out) Tryz.underlying67 rfl info_bn (dy_fits 51 (by decide) hs ts Hh.out Ht.out fc lo hi n wd gp t sh) (bnC lo hi) (dy_bn hs ts Hh.out Ht.out fc lo hi n wd gp t sh)) hHeld ?_
      simp only [List.setIfInBounds_toArray, List.set_cons_zero, List.set_cons_succ]
      refine take_op (i := 8) (d := 20) (v := ?_) rfl rfl (by kernel_rfl) (by kernel_rfl) (by kernel_rfl) (fun _ _ _ h => h) (Or.inl ⟨by rfl, ?hy8u44⟩) hHeld ?rest8u44
      case hy8u44 =>
        intro w' hS'
        go_simp
        try with_reducible rfl
      simp only [List.setIfInBounds_toArray, List.set_cons_zero, List.set_cons_succ]
      refine wpAnyH_ready (rs := [9]) (by kernel_rfl) (by simp) ?_
      refine AllReadyH.cons rfl (fun K hK => ?_) AllReadyH.nil
      go_simp
      refine (dyDark_is lo hi v true G2.out _).mono ?_
      rintro e W1 ⟨rfl, hb1⟩
      refine hK.out _ _ (hHeld.trans (hb1.mono hHeld.size)) (fun hHeld2 => ?_)
      clear hK K
      replace hHeld := hHeld2
      clear hHeld2
      clear hb1
      refine take_op (i := 10) (d := 22) (v := ?_) rfl rfl (by kernel_rfl) (by kernel_rfl) (by kernel_rfl) (fun _ _ _ h => h) (Or.inl ⟨by rfl, ?hy10u45⟩) hHeld ?rest10u45
      case hy10u45 =>
        intro w' hS'
        go_simp
        try with_reducible rfl
      simp only [List.setIfInBounds_toArray, List.set_cons_zero, List.set_cons_succ]
      refine take_op (i := 11) (d := 23) (v := ?_) rfl rfl (by kernel_rfl) (by kernel_rfl) (by kernel_rfl) (fun _ _ _ h => h) (Or.inl ⟨by rfl, ?hy11u46⟩) hHeld ?rest11u46
      case hy11u46 =>
        intro w' hS'
        go_simp
        try with_reducible rfl
      simp only [List.setIfInBounds_toArray, List.set_cons_zero, List.set_cons_succ]
      refine take_op (i := 12) (d := 24) (v := ?_) rfl rfl (by kernel_rfl) (by kernel_rfl) (by kernel_rfl) (fun _ _ _ h => h) (Or.inl ⟨by rfl, ?hy12u47⟩) hHeld ?rest12u47
      case hy12u47 =>
        intro w' hS'
        go_simp
        try with_reducible rfl
      simp only [List.setIfInBounds_toArray, List.set_cons_zero, List.set_cons_succ]
      refine take_op (i := 13) (d := 25) (v := .agg (bnC lo hi)) rfl rfl (by kernel_rfl) (by kernel_rfl) (by kernel_rfl) (fun _ _ _ h => h) (yields_row (by rfl) 67 (.tmp 24) (by rfl) w.heap.size 49 2 (by rfl) 69 (dayC hs ts fc lo hi n wd gp t sh) (0, 0) _ (fun _ h => below_row h H0.out) Tryz.underlying67 rfl info_bn (dy_fits 51 (by decide) hs ts Hh.out Ht.out fc lo hi n wd gp t sh) (bnC lo hi) (dy_bn hs ts Hh.out Ht.out fc lo hi n wd gp t sh)) hHeld ?_
      simp only [List.setIfInBounds_toArray, List.set_cons_zero, List.set_cons_succ]
      refine take_op (i := 14) (d := 26) (v := ?_) rfl rfl (by kernel_rfl) (by kernel_rfl) (by kernel_rfl) (fun _ _ _ h => h) (Or.inl ⟨by rfl, ?hy14u48⟩) hHeld ?rest14u48
      case hy14u48 =>
        intro w' hS'
        go_simp
        try with_reducible rfl
      simp only [List.setIfInBounds_toArray, List.set_cons_zero, List.set_cons_succ]
      refine take_op (i := 15) (d := 27) (v := .agg (fsC hs ts fc)) rfl rfl (by kernel_rfl) (by kernel_rfl) (by kernel_rfl) (fun _ _ _ h => h) (yields_row (by rfl) 65 (.tmp 26) (by rfl) w.heap.size 0 49 (by rfl) 69 (dayC hs ts fc lo hi n wd gp t sh) (0, 0) _ (fun _ h => below_row h H0.out) Tryz.underlying65 rfl info_fs (dy_fits 49 (by decide) hs ts Hh.out Ht.out fc lo hi n wd gp t sh) (fsC hs ts fc) (dy_fs hs ts Hh.out Ht.out fc lo hi n wd gp t sh)) hHeld ?_
      simp only [List.setIfInBounds_toArray, List.set_cons_zero, List.set_cons_succ]
      refine take_op (i := 16) (d := 28) (v := ?_) rfl rfl (by kernel_rfl) (by kernel_rfl) (by kernel_rfl) (fun _ _ _ h => h) (Or.inl ⟨by rfl, ?hy16u49⟩) hHeld ?rest16u49
      case hy16u49 =>
        intro w' hS'
        go_simp
        try with_reducible rfl
      simp only [List.setIfInBounds_toArray, List.set_cons_zero, List.set_cons_succ]
      refine wpAnyH_ready (rs := [17]) (by kernel_rfl) (by simp) ?_
      refine AllReadyH.cons rfl (fun K hK => ?_) AllReadyH.nil
      go_simp
      refine (HF.out _).mono ?_
      rintro e W1 ⟨rfl, hb1⟩
      refine hK.out _ _ (hHeld.trans (hb1.mono hHeld.size)) (fun hHeld2 => ?_)
      clear hK K
      replace hHeld := hHeld2
      clear hHeld2
      clear hb1
      refine wpAnyH_ready (rs := [18]) (by kernel_rfl) (by simp) ?_
      refine AllReadyH.cons rfl (fun K hK => ?_) AllReadyH.nil
      go_simp
      refine (dyDark_is lo hi f g G3.out _).mono ?_
      rintro e W1 ⟨rfl, hb1⟩
      refine hK.out _ _ (hHeld.trans (hb1.mono hHeld.size)) (fun hHeld2 => ?_)
      clear hK K
      replace hHeld := hHeld2
      clear hHeld2
      clear hb1
      refine take_op (i := 19) (d := 31) (v := ?_) rfl rfl (by kernel_rfl) (by kernel_rfl) (by kernel_rfl) (fun _ _ _ h => h) (Or.inl ⟨by rfl, ?hy19u50⟩) hHeld ?rest19u50
      case hy19u50 =>
        intro w' hS'
        go_simp
        try with_reducible rfl
      simp only [List.setIfInBounds_toArray, List.set_cons_zero, List.set_cons_succ]
      refine take_op (i := 20) (d := 32) (v := ?_) rfl rfl (by kernel_rfl) (by kernel_rfl) (by kernel_rfl) (fun _ _ _ h => h) (Or.inl ⟨by rfl, ?hy20u51⟩) hHeld ?rest20u51
      case hy20u51 =>
        intro w' hS'
        go_simp
        try with_reducible rfl
      simp only [List.setIfInBounds_toArray, List.set_cons_zero, List.set_cons_succ]
      refine take_op (i := 21) (d := 6) (v := ?_) rfl rfl (by kernel_rfl) (by kernel_rfl) (by kernel_rfl) (fun _ _ _ h => h) (Or.inl ⟨by rfl, ?hy21u52⟩) hHeld ?rest21u52
      case hy21u52 =>
        intro w' hS'
        go_simp
        try with_reducible rfl
      simp only [List.setIfInBounds_toArray, List.set_cons_zero, List.set_cons_succ]
      refine wpAnyH_done (by kernel_rfl) ?_ _
      replace hb := hb.trans (hHeld.mono hb.size)
      clear hHeld H0 HL HF
      go_wp2
      go_ret
      exact ⟨rfl, hb⟩
  · have G1 := Lib.hid g1
    clear g1
    go_enter Tryz.func53, Tryz.ntmps53
    go_upto_region 1 with (fail)
    refine abs_code (fun W => W.heap[w.heap.size]? = some (.cells (dayC hs ts fc lo hi n wd gp t sh) 69 (0, 0)) ∧ Below w.heap.size w W) ⟨heap_alloc_new _ _, (Below.refl _ _).alloc (Nat.le_refl _) _⟩ ?_
    rintro W0 ⟨h0, hb⟩
    have H0 := Lib.hid h0
    clear h0
    go_upto_region 2 with (first | (refine wpList_load_part rfl 69 _ rfl w.heap.size 0 56 rfl 69 (dayC hs ts fc lo hi n wd gp t sh) (0, 0) _ H0.out Tryz.underlying69 rfl info_dy (dy_fits 56 (by decide) hs ts Hh.out Ht.out fc lo hi n wd gp t sh) (dayC hs ts fc lo hi n wd gp t sh) (dy_all hs ts Hh.out Ht.out fc lo hi n wd gp t sh) ?_) | (go_at_call 51; refine (HL.out _).mono ?_; rintro e W ⟨rfl, hb1⟩; replace H0 := Lib.hid (below_row hb1 H0.out); replace hb := hb.trans (hb1.mono hb.size); clear hb1))
    refine wp_region_held_drew (S := (fun V => Below W.heap.size W V)) (by kernel_rfl) (Below.refl _ _).drew (fun hHeld => ?_)
    refine take_op (i := 0) (d := 12) (v := ?_) rfl rfl (by kernel_rfl) (by kernel_rfl) (by kernel_rfl) (fun _ _ _ h => h) (Or.inl ⟨by rfl, ?hy0u53⟩) hHeld ?rest0u53
    case hy0u53 =>
      intro w' hS'
      go_simp
      try with_reducible rfl
    simp only [List.setIfInBounds_toArray, List.set_cons_zero, List.set_cons_succ]
    refine take_op (i := 1) (d := 13) (v := .agg (bnC lo hi)) rfl rfl (by kernel_rfl) (by kernel_rfl) (by kernel_rfl) (fun _ _ _ h => h) (yields_row (by rfl) 67 (.tmp 12) (by rfl) w.heap.size 49 2 (by rfl) 69 (dayC hs ts fc lo hi n wd gp t sh) (0, 0) _ (fun _ h => below_row h H0.out) Tryz.underlying67 rfl info_bn (dy_fits 51 (by decide) hs ts Hh.out Ht.out fc lo hi n wd gp t sh) (bnC lo hi) (dy_bn hs ts Hh.out Ht.out fc lo hi n wd gp t sh)) hHeld ?_
    simp only [List.setIfInBounds_toArray, List.set_cons_zero, List.set_cons_succ]
    refine take_op (i := 2) (d := 14) (v := ?_) rfl rfl (by kernel_rfl) (by kernel_rfl) (by kernel_rfl) (fun _ _ _ h => h) (Or.inl ⟨by rfl, ?hy2u54⟩) hHeld ?rest2u54
    case hy2u54 =>
      intro w' hS'
      go_simp
      try with_reducible rfl
    simp only [List.setIfInBounds_toArray, List.set_cons_zero, List.set_cons_succ]
    refine wpAnyH_ready (rs := [3]) (by kernel_rfl) (by simp) ?_
    refine AllReadyH.cons rfl (fun K hK => ?_) AllReadyH.nil
    go_simp
    refine (dyBright_is lo hi v true G1.out _).mono ?_
    rintro e W1 ⟨rfl, hb1⟩
    refine hK.out _ _ (hHeld.trans (hb1.mono hHeld.size)) (fun hHeld2 => ?_)
    clear hK K
    replace hHeld := hHeld2
    clear hHeld2
    clear hb1
    refine take_op (i := 4) (d := 16) (v := ?_) rfl rfl (by kernel_rfl) (by kernel_rfl) (by kernel_rfl) (fun _ _ _ h => h) (Or.inl ⟨by rfl, ?hy4u55⟩) hHeld ?rest4u55
    case hy4u55 =>
      intro w' hS'
      go_simp
      try with_reducible rfl
    simp only [List.setIfInBounds_toArray, List.set_cons_zero, List.set_cons_succ]
    refine take_op (i := 5) (d := 17) (v := ?_) rfl rfl (by kernel_rfl) (by kernel_rfl) (by kernel_rfl) (fun _ _ _ h => h) (Or.inl ⟨by rfl, ?hy5u56⟩) hHeld ?rest5u56
    case hy5u56 =>
      intro w' hS'
      go_simp
      try with_reducible rfl
    simp only [List.setIfInBounds_toArray, List.set_cons_zero, List.set_cons_succ]
    refine take_op (i := 6) (d := 18) rfl rfl (by kernel_rfl) (by kernel_rfl) (by kernel_rfl) (fun _ _ _ h => h) (Or.inr ⟨by rfl, rfl⟩) hHeld ?_
    simp only [List.setIfInBounds_toArray, List.set_cons_zero, List.set_cons_succ]
    refine take_op (i := 7) (d := 19) rfl rfl (by kernel_rfl) (by kernel_rfl) (by kernel_rfl) (fun _ _ _ h => h) (Or.inr ⟨by rfl, rfl⟩) hHeld ?_
    simp only [List.setIfInBounds_toArray, List.set_cons_zero, List.set_cons_succ]
    refine take_op (i := 8) (d := 20) rfl rfl (by kernel_rfl) (by kernel_rfl) (by kernel_rfl) (fun _ _ _ h => h) (Or.inr ⟨by rfl, rfl⟩) hHeld ?_
    simp only [List.setIfInBounds_toArray, List.set_cons_zero, List.set_cons_succ]
    refine take_op (i := 9) (d := 21) rfl rfl (by kernel_rfl) (by kernel_rfl) (by kernel_rfl) (fun _ _ _ h => h) (Or.inr ⟨by rfl, rfl⟩) hHeld ?_
    simp only [List.setIfInBounds_toArray, List.set_cons_zero, List.set_cons_succ]
    refine take_op (i := 10) (d := 22) rfl rfl (by kernel_rfl) (by kernel_rfl) (by kernel_rfl) (fun _ _ _ h => h) (Or.inr ⟨by rfl, rfl⟩) hHeld ?_
    simp only [List.setIfInBounds_toArray, List.set_cons_zero, List.set_cons_succ]
    refine take_op (i := 11) (d := 23) rfl rfl (by kernel_rfl) (by kernel_rfl) (by kernel_rfl) (fun _ _ _ h => h) (Or.inr ⟨by rfl, rfl⟩) hHeld ?_
    simp only [List.setIfInBounds_toArray, List.set_cons_zero, List.set_cons_succ]
    refine take_op (i := 12) (d := 24) rfl rfl (by kernel_rfl) (by kernel_rfl) (by kernel_rfl) (fun _ _ _ h => h) (Or.inr ⟨by rfl, rfl⟩) hHeld ?_
    simp only [List.setIfInBounds_toArray, List.set_cons_zero, List.set_cons_succ]
    refine take_op (i := 13) (d := 25) rfl rfl (by kernel_rfl) (by kernel_rfl) (by kernel_rfl) (fun _ _ _ h => h) (Or.inr ⟨by rfl, rfl⟩) hHeld ?_
    simp only [List.setIfInBounds_toArray, List.set_cons_zero, List.set_cons_succ]
    refine take_op (i := 14) (d := 26) rfl rfl (by kernel_rfl) (by kernel_rfl) (by kernel_rfl) (fun _ _ _ h => h) (Or.inr ⟨by rfl, rfl⟩) hHeld ?_
    simp only [List.setIfInBounds_toArray, List.set_cons_zero, List.set_cons_succ]
    refine take_op (i := 15) (d := 27) rfl rfl (by kernel_rfl) (by kernel_rfl) (by kernel_rfl) (fun _ _ _ h => h) (Or.inr ⟨by rfl, rfl⟩) hHeld ?_
    simp only [List.setIfInBounds_toArray, List.set_cons_zero, List.set_cons_succ]
    refine take_op (i := 16) (d := 28) rfl rfl (by kernel_rfl) (by kernel_rfl) (by kernel_rfl) (fun _ _ _ h => h) (Or.inr ⟨by rfl, rfl⟩) hHeld ?_
    simp only [List.setIfInBounds_toArray, List.set_cons_zero, List.set_cons_succ]
    refine take_op (i := 17) (d := 29) rfl rfl (by kernel_rfl) (by kernel_rfl) (by kernel_rfl) (fun _ _ _ h => h) (Or.inr ⟨by rfl, rfl⟩) hHeld ?_
    simp only [List.setIfInBounds_toArray, List.set_cons_zero, List.set_cons_succ]
    refine take_op (i := 18) (d := 30) rfl rfl (by kernel_rfl) (by kernel_rfl) (by kernel_rfl) (fun _ _ _ h => h) (Or.inr ⟨by rfl, rfl⟩) hHeld ?_
    simp only [List.setIfInBounds_toArray, List.set_cons_zero, List.set_cons_succ]
    refine take_op (i := 19) (d := 31) rfl rfl (by kernel_rfl) (by kernel_rfl) (by kernel_rfl) (fun _ _ _ h => h) (Or.inr ⟨by rfl, rfl⟩) hHeld ?_
    simp only [List.setIfInBounds_toArray, List.set_cons_zero, List.set_cons_succ]
    refine take_op (i := 20) (d := 32) (v := ?_) rfl rfl (by kernel_rfl) (by kernel_rfl) (by kernel_rfl) (fun _ _ _ h => h) (Or.inl ⟨by rfl, ?hy20u57⟩) hHeld ?rest20u57
    case hy20u57 =>
      intro w' hS'
      go_simp
      try with_reducible rfl
    simp only [List.setIfInBounds_toArray, List.set_cons_zero, List.set_cons_succ]
    refine take_op (i := 21) (d := 6) (v := ?_) rfl rfl (by kernel_rfl) (by kernel_rfl) (by kernel_rfl) (fun _ _ _ h => h) (Or.inl ⟨by rfl, ?hy21u58⟩) hHeld ?rest21u58
    case hy21u58 =>
      intro w' hS'
      go_simp
      try with_reducible rfl
    simp only [List.setIfInBounds_toArray, List.set_cons_zero, List.set_cons_succ]
    refine wpAnyH_done (by kernel_rfl) ?_ _
    replace hb := hb.trans (hHeld.mono hb.size)
    clear hHeld H0 HL HF
    go_wp2
    go_ret
    exact ⟨rfl, hb⟩

end Go.Proofs.YtdbleddcnknmiaaGreatDoor

namespace Go.Proofs.YtdbleddcnknmiaaGreatDoor
open Go.RowKit Go.Shelf

theorem run_store_float (P : Program) (w : World) (a : Addr) (k : FloatKind) (b : Nat) (m : Mode) : (store a (.float k b) m).run P w = stored P w a (.float k b) m := run_store P w a _ m rfl

attribute [local go_sem] Oper.semAt_some run_store_float

/-- What a sum over the hours keeps: the sun, the sum so far, whatever lay before. -/
def SumI (w : World) (hs ts : List Int) (sb : Nat) (g : Nat → Nat) (pre : List Hr) (W : World) : Prop :=
  ∃ s : Nat, pos32 s = true ∧ W.heap[w.heap.size]? = some (.cells (sunC hs ts) 35 (0, 0)) ∧ W.heap[sb]? = some (.cells #[.float .f32 s] 23 (0, 0)) ∧ (Good pre → s = sumTo g pre.length) ∧ Below w.heap.size w W

theorem keeps_of_below {W W1 : World} (hb : Below W.heap.size W W1) : KeepsOthers W W1 := by
  exact ⟨hb.size, fun b o ho _ => (hb.block b (Array.getElem?_eq_some_iff.1 ho).1).trans ho⟩

theorem sumI_own (w : World) (hs ts : List Int) (sb : Nat) (g : Nat → Nat) (B : Nat) (hB : w.heap.size ≤ B) : OwnFrom B (SumI w hs ts sb g) := by
  intro s W W' row ⟨x, hx, h0, h1, hg, hb⟩ hg' hr
  have hr2 := fun r e => (hr r e).2
  exact ⟨x, hx, heap_kept h0 hg' hr2, heap_kept h1 hg' hr2, hg, ownFrom_below (β := Unit) (Nat.le_refl _) hB () W W' row hb hg' hr⟩

theorem sum_step {w W W1 : World} {hs ts : List Int} {sb : Nat} {g : Nat → Nat} {pre : List Hr} {k : Nat} {h01 : 0 ≤ (k : Int) ∧ (k : Int) < 24} {s : Nat} (hsb : w.heap.size < sb) (hl : pre.length < 24) (hs0 : pos32 s = true) (hg0 : pos32 (g k) = true)
    (hgood : Good pre → s = sumTo g pre.length) (hk : KeepsOthers W W1) (hbW : Below w.heap.size W W1) (hH : W1.heap[w.heap.size]? = some (.cells (sunC hs ts) 35 (0, 0))) (hS : W1.heap[sb]? = some (.cells #[.float .f32 s] 23 (0, 0))) (hb : Below w.heap.size w W1) :
    KeepsOthers W (W1.setCell ⟨sb, 0, none⟩ (.float .f32 (fadd s (g k)))) ∧ Below w.heap.size W (W1.setCell ⟨sb, 0, none⟩ (.float .f32 (fadd s (g k)))) ∧ SumI w hs ts sb g (pre ++ [⟨k, h01⟩]) (W1.setCell ⟨sb, 0, none⟩ (.float .f32 (fadd s (g k)))) := by
  refine ⟨hk.trans (KeepsOthers.setCell _ _ _), hbW.setCell (p := ⟨sb, 0, none⟩) (Nat.le_of_lt hsb) _, fadd s (g k), (add_ok hs0 hg0).2, ?_, ?_, ?_, hb.setCell (p := ⟨sb, 0, none⟩) (Nat.le_of_lt hsb) _⟩
  · rw [heap_setCell_other _ _ _ _ (Nat.ne_of_lt hsb)]; exact hH
  · rw [heap_setCell_same _ _ _ _ _ _ hS]; rfl
  · intro hgs
    obtain ⟨hgp, hxk⟩ := good_snoc hgs hl
    have hkl : k = pre.length := by have : (k : Int) = (pre.length : Int) := hxk; omega
    rw [List.length_append, List.length_singleton, sumTo_succ, ← hgood hgp, hkl]

end Go.Proofs.YtdbleddcnknmiaaGreatDoor

namespace Go.Proofs.YtdbleddcnknmiaaGreatDoor
open Go.ChangeShapes Go.WideShapes Go.ChangeAt Go.RowKit

/-- The code of a blind and a sun, and of what else is asked. -/
def codeBS (okb oks fine : Bool) : Int := if okb then codeB oks fine else 1

theorem codeBS_ne {okb oks fine : Bool} (h : ¬ (okb = true ∧ oks = true ∧ fine = true)) : codeBS okb oks fine ≠ 0 := by
  cases okb <;> cases oks <;> cases fine <;> simp_all [codeBS, codeB]

set_option maxRecDepth 100000 in
set_option maxHeartbeats 1000000 in
theorem checkBS_true (n : Int) (wd gp : Nat) (t : Int) (sh : Nat) (hs ts : List Int) (hh : hs.length = 24) (ht : ts.length = 24) (T0 : -32768 ≤ t) (T1 : t ≤ 32767) (hk : okBl n wd gp t sh = true) (fine : Bool) (w : World) :
    Calls Tryz.prog 59 #[.agg (blindC n wd gp t sh), .agg (sunC hs ts), .bool fine] w fun e w' => e = .returned (.int .i64 (codeB (okB hs ts) fine)) ∧ Below w.heap.size w w' := by
  have Hh := Lib.hid hh
  have Ht := Lib.hid ht
  have HV := Lib.hid (fun w => ValidBlind_any n wd gp t sh T0 T1 w)
  rw [hk] at HV
  clear hh ht hk T0 T1
  go_enter Tryz.func59, Tryz.ntmps59
  go_upto_region 1 with (fail)
  refine abs_world (fun W => W.heap[w.heap.size]? = some (.cells (blindC n wd gp t sh) 33 (0, 0)) ∧ W.heap[w.heap.size + 1]? = some (.cells (sunC hs ts) 35 (0, 0)) ∧ Below w.heap.size w W) ⟨heap_alloc2_old _ _ _, heap_alloc2_new _ _ _, ((Below.refl _ _).alloc (Nat.le_refl _) _).alloc (by simp) _⟩ ?_
  rintro W ⟨h0, h1, hb⟩
  generalize w.heap.size + 1 = g2 at *
  have H0 := Lib.hid h0
  have HS := Lib.hid h1
  clear h0 h1
  go_wp2_with (first | (refine wpList_load_part rfl 33 _ rfl w.heap.size 0 5 rfl 33 (blindC n wd gp t sh) (0, 0) _ H0.out Tryz.underlying33 rfl info_blind (blind_fits _ _ _ _ _) _ (blind_all _ _ _ _ _) ?_) | (refine wpList_load_part rfl 35 _ rfl g2 0 48 rfl 35 (sunC hs ts) (0, 0) _ HS.out Tryz.underlying35 rfl info_sun (sun_fits _ _ Hh.out Ht.out) (sunC hs ts) (sun_all _ _ Hh.out Ht.out) ?_) | (go_at_call 78; refine (HV.out _).mono ?_; rintro e W1 ⟨rfl, hb1⟩; replace H0 := Lib.hid (below_row hb1 H0.out); replace HS := Lib.hid (below_row hb1 HS.out); replace hb := hb.trans (hb1.mono hb.size); clear hb1) | (go_at_call 79; refine (checkSun_is hs ts Hh.out Ht.out fine _ rfl _).mono ?_; rintro e W1 ⟨rfl, hb1⟩; replace hb := hb.trans (hb1.mono hb.size); clear hb1))
  go_ret
  exact ⟨rfl, hb⟩

set_option maxRecDepth 100000 in
set_option maxHeartbeats 1000000 in
theorem checkBS_false (n : Int) (wd gp : Nat) (t : Int) (sh : Nat) (hs ts : List Int) (hh : hs.length = 24) (ht : ts.length = 24) (T0 : -32768 ≤ t) (T1 : t ≤ 32767) (hk : okBl n wd gp t sh = false) (fine : Bool) (w : World) :
    Calls Tryz.prog 59 #[.agg (blindC n wd gp t sh), .agg (sunC hs ts), .bool fine] w fun e w' => e = .returned (.int .i64 (1)) ∧ Below w.heap.size w w' := by
  have Hh := Lib.hid hh
  have Ht := Lib.hid ht
  have HV := Lib.hid (fun w => ValidBlind_any n wd gp t sh T0 T1 w)
  rw [hk] at HV
  clear hh ht hk T0 T1
  go_enter Tryz.func59, Tryz.ntmps59
  go_upto_region 1 with (fail)
  refine abs_world (fun W => W.heap[w.heap.size]? = some (.cells (blindC n wd gp t sh) 33 (0, 0)) ∧ W.heap[w.heap.size + 1]? = some (.cells (sunC hs ts) 35 (0, 0)) ∧ Below w.heap.size w W) ⟨heap_alloc2_old _ _ _, heap_alloc2_new _ _ _, ((Below.refl _ _).alloc (Nat.le_refl _) _).alloc (by simp) _⟩ ?_
  rintro W ⟨h0, h1, hb⟩
  generalize w.heap.size + 1 = g2 at *
  have H0 := Lib.hid h0
  have HS := Lib.hid h1
  clear h0 h1
  go_wp2_with (first | (refine wpList_load_part rfl 33 _ rfl w.heap.size 0 5 rfl 33 (blindC n wd gp t sh) (0, 0) _ H0.out Tryz.underlying33 rfl info_blind (blind_fits _ _ _ _ _) _ (blind_all _ _ _ _ _) ?_) | (refine wpList_load_part rfl 35 _ rfl g2 0 48 rfl 35 (sunC hs ts) (0, 0) _ HS.out Tryz.underlying35 rfl info_sun (sun_fits _ _ Hh.out Ht.out) (sunC hs ts) (sun_all _ _ Hh.out Ht.out) ?_) | (go_at_call 78; refine (HV.out _).mono ?_; rintro e W1 ⟨rfl, hb1⟩; replace H0 := Lib.hid (below_row hb1 H0.out); replace HS := Lib.hid (below_row hb1 HS.out); replace hb := hb.trans (hb1.mono hb.size); clear hb1))
  go_ret
  exact ⟨rfl, hb⟩

theorem checkBS_is (n : Int) (wd gp : Nat) (t : Int) (sh : Nat) (hs ts : List Int) (hh : hs.length = 24) (ht : ts.length = 24) (T0 : -32768 ≤ t) (T1 : t ≤ 32767) (fine : Bool) (c : Int) (hc : codeBS (okBl n wd gp t sh) (okB hs ts) fine = c) (w : World) :
    Calls Tryz.prog 59 #[.agg (blindC n wd gp t sh), .agg (sunC hs ts), .bool fine] w fun e w' => e = .returned (.int .i64 c) ∧ Below w.heap.size w w' := by
  subst hc
  unfold codeBS
  cases hk : okBl n wd gp t sh with
  | true => exact checkBS_true n wd gp t sh hs ts hh ht T0 T1 hk fine w
  | false => exact checkBS_false n wd gp t sh hs ts hh ht T0 T1 hk fine w

end Go.Proofs.YtdbleddcnknmiaaGreatDoor

namespace Go.Proofs.YtdbleddcnknmiaaGreatDoor
open Go Go.RowKit

theorem heap_push (w : World) (o : Obj) (i : Nat) : (w.alloc o).heap[i]? = if i = w.heap.size then some o else w.heap[i]? := by
  show (w.heap.push o)[i]? = _
  exact Array.getElem?_push
theorem three_new (w : World) (a b c : Obj) : (((w.alloc a).alloc b).alloc c).heap[w.heap.size]? = some a ∧ (((w.alloc a).alloc b).alloc c).heap[w.heap.size + 1]? = some b ∧ (((w.alloc a).alloc b).alloc c).heap[w.heap.size + 1 + 1]? = some c ∧ Below w.heap.size w (((w.alloc a).alloc b).alloc c) := by
  refine ⟨?_, ?_, ?_, (((Below.refl _ _).alloc (Nat.le_refl _) _).alloc (by simp) _).alloc (by simp; omega) _⟩
  all_goals simp only [heap_push, World.size_alloc]
  · rw [if_neg (by omega), if_neg (by omega), if_true]
  · rw [if_neg (by omega), if_true]
  · rw [if_true]
theorem four_new (w : World) (a b c d : Obj) : ((((w.alloc a).alloc b).alloc c).alloc d).heap[w.heap.size]? = some a ∧ ((((w.alloc a).alloc b).alloc c).alloc d).heap[w.heap.size + 1]? = some b ∧ ((((w.alloc a).alloc b).alloc c).alloc d).heap[w.heap.size + 1 + 1]? = some c ∧ ((((w.alloc a).alloc b).alloc c).alloc d).heap[w.heap.size + 1 + 1 + 1]? = some d ∧ Below w.heap.size w ((((w.alloc a).alloc b).alloc c).alloc d) := by
  refine ⟨?_, ?_, ?_, ?_, ((((Below.refl _ _).alloc (Nat.le_refl _) _).alloc (by simp) _).alloc (by simp; omega) _).alloc (by simp; omega) _⟩
  all_goals simp only [heap_push, World.size_alloc]
  · rw [if_neg (by omega), if_neg (by omega), if_neg (by omega), if_true]
  · rw [if_neg (by omega), if_neg (by omega), if_true]
  · rw [if_neg (by omega), if_true]
  · rw [if_true]

end Go.Proofs.YtdbleddcnknmiaaGreatDoor

namespace Go.Proofs.YtdbleddcnknmiaaGreatDoor
open Go.ChangeShapes Go.WideShapes Go.ChangeAt Go.RowKit Go.Shelf

attribute [local go_sem] Oper.semAt_some run_store_float

/-- The first number below a bound for which something does not hold. -/
def firstNo (p : Nat → Bool) : Nat → Nat → Option Nat
  | _, 0 => none
  | a, m + 1 => if p a then firstNo p (a + 1) m else some a

theorem firstNo_none (p : Nat → Bool) : ∀ m a, (∀ j, a ≤ j → j < a + m → p j = true) → firstNo p a m = none
  | 0, _, _ => rfl
  | m + 1, a, h => by
    rw [firstNo, if_pos (h a (Nat.le_refl _) (by omega))]
    exact firstNo_none p m (a + 1) (fun j h1 h2 => h j (by omega) (by omega))

theorem firstNo_some (p : Nat → Bool) (k : Nat) (hk : p k = false) : ∀ m a, a ≤ k → k < a + m → (∀ j, a ≤ j → j < k → p j = true) → firstNo p a m = some k
  | 0, a, h1, h2, _ => by omega
  | m + 1, a, h1, h2, h => by
    by_cases e : a = k
    · subst e
      rw [firstNo, if_neg (by rw [hk]; decide)]
    · rw [firstNo, if_pos (h a (Nat.le_refl _) (by omega))]
      exact firstNo_some p k hk m (a + 1) (by omega) (by omega) (fun j h1 h2 => h j (by omega) h2)

def hourV : Option Nat → Value
  | none => .nilIface
  | some k => .iface 78 (.agg #[.int .i64 (k : Int)])

def OutI (W0 : World) (b2 : Nat) (p : Nat → Bool) (pre : List Hr) (W : World) : Prop :=
  Below W0.heap.size W0 W ∧ (Good pre → ∀ j, j < pre.length → p j = true) ∧ W0.heap[b2]? = some (.cells #[.nilIface] 61 (0, 0))

def OutX (n0 : Nat) (w0 : World) (b2 : Nat) (p : Nat → Bool) (c : Code) (xs : List Hr) (W : World) : Prop :=
  c = .ret ∧ Below n0 w0 W ∧ n0 ≤ b2 ∧ ∃ k : Nat, k < 24 ∧ p k = false ∧ (Good xs → ∀ j, j < k → p j = true) ∧ W.heap[b2]? = some (.cells #[.iface 78 (.agg #[.int .i64 (k : Int)])] 61 (0, 0))

theorem outI_own (W0 : World) (b2 : Nat) (p : Nat → Bool) (B : Nat) (hB : W0.heap.size ≤ B) : OwnFrom B (OutI W0 b2 p) := by
  intro s W W' row ⟨hb, hg, h2⟩ hg' hr
  exact ⟨ownFrom_below (β := Unit) (Nat.le_refl _) hB () W W' row hb hg' hr, hg, h2⟩

theorem outX_own (n0 : Nat) (w0 : World) (b2 : Nat) (p : Nat → Bool) (c : Code) (B : Nat) (hn : n0 ≤ w0.heap.size) (hB : n0 ≤ B) : OwnFrom B (OutX n0 w0 b2 p c) := by
  intro s W W' row ⟨hc, hb, hnb, k, hk, hp, hg, h2⟩ hg' hr
  have hr2 := fun r e => (hr r e).2
  exact ⟨hc, ownFrom_below (β := Unit) hn hB () W W' row hb hg' hr, hnb, k, hk, hp, hg, heap_kept h2 hg' hr2⟩

/-- What is asked of a day whose hours are looked at. -/
structure DyHr (hs ts : List Int) (fc : Int) : Prop where
  all : ∀ k : Nat, k < 24 → HrOk hs ts (k : Int) fc

def kpAt (hs ts : List Int) (fc : Int) (lo hi : Nat) (wd gp sh : Nat) (ps : List Int) (k : Nat) : Bool := kpB hs ts fc lo hi wd gp sh (k : Int) (ps[k]?.getD 0)

theorem plan_tilt {ps : List Int} (hp : ps.length = 24) (ho : okP ps = true) {k : Nat} (hk : k < 24) : -64 ≤ ps[k]?.getD 0 ∧ ps[k]?.getD 0 ≤ 64 := inI_get ((okP_iff ps hp).1 ho k hk)

set_option maxRecDepth 100000 in
set_option maxHeartbeats 4000000 in
theorem outside_any (hs ts : List Int) (hh : hs.length = 24) (ht : ts.length = 24) (fc : Int) (lo hi : Nat) (n : Int) (wd gp : Nat) (t : Int) (sh : Nat) (ok : BlOk n wd gp t sh) (dh : DyHr hs ts fc) (ps : List Int) (hp : ps.length = 24) (ho : okP ps = true) (w : World) :
    Calls Tryz.prog 37 #[.agg (dayC hs ts fc lo hi n wd gp t sh), .agg (i16s ps)] w fun e w' => e = .returned (hourV (firstNo (kpAt hs ts fc lo hi wd gp sh ps) 0 24)) ∧ Below w.heap.size w w' := by
  refine (callsIn_wide (n := 4)).1 ?_
  have HKP : Hid (∀ k : Nat, k < 24 → ∀ w, Calls Tryz.prog 53 #[.agg (dayC hs ts fc lo hi n wd gp t sh), .int .i64 (k : Int), .int .i64 (ps[k]?.getD 0)] w fun e w' => e = .returned (.bool (kpAt hs ts fc lo hi wd gp sh ps k)) ∧ Below w.heap.size w w') := fun k hk w => keeps_any hs ts hh ht fc lo hi n wd gp t sh ok (k : Int) (ps[k]?.getD 0) (dh.all k hk) (plan_tilt hp ho hk).1 (plan_tilt hp ho hk).2 w
  have HTL := Lib.hid (fun k hk => plan_tilt hp ho (k := k) hk)
  have Hh := Lib.hid hh
  have Ht := Lib.hid ht
  have Hp := Lib.hid hp
  generalize kpAt hs ts fc lo hi wd gp sh ps = kp at *
  clear hh ht ok dh hp ho
  refine callsIn_of_wp_marks Tryz.func37 rfl trivial ?_ rfl
  simp only [Tryz.ntmps37, List.size_toArray, List.length_cons, List.length_nil, Nat.reduceAdd, Nat.reduceSub, Array.replicate_succ, Array.replicate_zero, List.push_toArray, List.append_toArray, List.nil_append, List.cons_append]
  refine wpIn_wide.2 ?_
  go_upto_region 1 with (fail)
  refine abs_world (fun W => W.heap[w.heap.size]? = some (.cells (dayC hs ts fc lo hi n wd gp t sh) 69 (0, 0)) ∧ W.heap[w.heap.size + 1]? = some (.cells (i16s ps) 37 (0, 0)) ∧ W.heap[w.heap.size + 1 + 1]? = some (.cells #[.nilIface] 61 (0, 0)) ∧ Below w.heap.size w W) ⟨(three_new _ _ _ _).1, (three_new _ _ _ _).2.1, (three_new _ _ _ _).2.2.1, (three_new _ _ _ _).2.2.2⟩ ?_
  rintro W0 ⟨r0, r1, r2, hb⟩
  have hs2 : w.heap.size ≤ w.heap.size + 1 + 1 := by omega
  generalize w.heap.size + 1 + 1 = b2 at *
  generalize w.heap.size + 1 = b1 at *
  have hle : w.heap.size ≤ W0.heap.size := hb.size
  have R0 := Lib.hid r0
  have R1 := Lib.hid r1
  have R2 := Lib.hid r2
  have HB := Lib.hid hb
  clear r0 r1 r2 hb
  go_wp2
  refine (wpIn_wide (n := 4)).1 ?_
  refine wpIn_rangeFunc_ownF rfl (by decide) (gf := 50) (lb := #[]) rfl trivial (enters_of Tryz.func50 (by kernel_rfl) rfl)
    (eachHour_stops Fence.wide _ trivial rfl (by decide) w.heap.size _) belowK_t (belowK_b hle) (Below.refl _ _) (fun _ => rfl)
    (OutI W0 b2 kp) (OutX w.heap.size w b2 kp) (outI_own W0 b2 kp _ (by first | (simp; done) | (simp; omega) | exact Nat.le_refl _)) (fun c => outX_own w.heap.size w b2 kp c _ (Nat.le_refl _) hle) ?h0
    (fun x => { tmps := #[.agg (dayC hs ts fc lo hi n wd gp t sh), .agg (i16s ps), .pointer (some ⟨w.heap.size, 0, none⟩), .pointer (some ⟨b1, 0, none⟩), .pointer (some ⟨b2, 0, none⟩), .int .i64 x.1, .int .i64 x.1, undef, undef, undef, undef, undef, undef, undef, undef, undef, undef, undef], defers := [] }) ?assign ?body ?done ?stop
  case h0 => exact ⟨Below.refl _ _, fun _ j hj => by simp at hj, R2.out⟩
  case assign =>
    intro l x W K hK
    gi_wp2
    exact hK
  case body =>
    rintro l pre ⟨x, hx0, hx1⟩ W ⟨hbw, hg, _⟩ hl
    obtain ⟨k, rfl⟩ := Int.eq_ofNat_of_zero_le hx0
    have hk : k < 24 := by omega
    have H0 : Hid (W.heap[w.heap.size]? = some (.cells (dayC hs ts fc lo hi n wd gp t sh) 69 (0, 0))) := below_row hbw R0.out
    have H1 : Hid (W.heap[b1]? = some (.cells (i16s ps) 37 (0, 0))) := below_row hbw R1.out
    have H2 : Hid (W.heap[b2]? = some (.cells #[.nilIface] 61 (0, 0))) := below_row hbw R2.out
    have hK0 := HKP.out k hk
    have hT0 := HTL.out k hk
    obtain ⟨tl, hE⟩ : ∃ tl, ps[k]?.getD 0 = tl := ⟨_, rfl⟩
    rw [hE] at hK0 hT0
    have EX := Lib.hid hE
    have hw : IntKind.i64.wrap tl = tl := i64_small _ (by omega) (by omega)
    have HG := Lib.hid hg
    have hwW : w.heap.size ≤ W.heap.size := Nat.le_trans hle hbw.size
    have hbW : Below w.heap.size w W := HB.out.trans (hbw.mono hle)
    have z1 : (k : Int) < 24 := by omega
    clear hg hE hT0
    rcases hkp : kp k with _ | _
    · rw [hkp] at hK0
      have HK := Lib.hid hK0
      have KP := Lib.hid hkp
      clear hK0 hkp
      gi_wp2
      refine region_round (S := (fun V => Below W.heap.size W V)) arrU (no_defer (by rfl)) (fun ⟨_, _, h⟩ => h) (Below.refl _ _).drew (fun hHeld => ?_)
      refine take_at (i := 0) (d := 7) (v := .agg (dayC hs ts fc lo hi n wd gp t sh)) rfl rfl (by kernel_rfl) (by kernel_rfl) (by kernel_rfl) (fun _ _ _ h => h) (yields_part (by rfl) 69 (.tmp 2) (by rfl) w.heap.size 0 56 (by rfl) 69 (dayC hs ts fc lo hi n wd gp t sh) (0, 0) _ (fun _ h => below_row h H0.out) Tryz.underlying69 rfl info_dy (dy_fits 56 (by decide) hs ts Hh.out Ht.out fc lo hi n wd gp t sh) (dayC hs ts fc lo hi n wd gp t sh) (dy_all hs ts Hh.out Ht.out fc lo hi n wd gp t sh)) hHeld ?_
      simp only [List.setIfInBounds_toArray, List.set_cons_zero, List.set_cons_succ]
      refine take_at (i := 1) (d := 8) (v := ?_) rfl rfl (by kernel_rfl) (by kernel_rfl) (by kernel_rfl) (fun _ _ _ h => h) (Or.inl ⟨by rfl, ?hy1u1⟩) hHeld ?rest1u1
      case hy1u1 =>
        intro w' hS'
        go_simp
        try with_reducible rfl
      simp only [List.setIfInBounds_toArray, List.set_cons_zero, List.set_cons_succ]
      refine take_at (i := 2) (d := 9) (v := ?_) rfl rfl (by kernel_rfl) (by kernel_rfl) (by kernel_rfl) (fun _ _ _ h => h) (Or.inl ⟨by rfl, ?hy2u2⟩) hHeld ?rest2u2
      case hy2u2 =>
        intro w' hS'
        go_simp
        try with_reducible rfl
      simp only [List.setIfInBounds_toArray, List.set_cons_zero, List.set_cons_succ]
      refine take_at (i := 3) (d := 10) (v := ?_) rfl rfl (by kernel_rfl) (by kernel_rfl) (by kernel_rfl) (fun _ _ _ h => h) (Or.inl ⟨by rfl, ?hy3u3⟩) hHeld ?rest3u3
      case hy3u3 =>
        intro w' hS'
        go_simp
        try with_reducible rfl
      simp only [List.setIfInBounds_toArray, List.set_cons_zero, List.set_cons_succ]
      refine take_at (i := 4) (d := 11) (v := ?_) rfl rfl (by kernel_rfl) (by kernel_rfl) (by kernel_rfl) (fun _ _ _ h => h) (Or.inl ⟨by rfl, ?hy4u4⟩) hHeld ?rest4u4
      case hy4u4 =>
        intro w' hS'
        have q := cell_of_i16s (below_row hS' H1.out) k (by rw [Hp.out]; exact hk)
        rw [EX.out] at q
        go_simp
        try with_reducible rfl
      simp only [List.setIfInBounds_toArray, List.set_cons_zero, List.set_cons_succ]
      refine take_at (i := 5) (d := 12) (v := ?_) rfl rfl (by kernel_rfl) (by kernel_rfl) (by kernel_rfl) (fun _ _ _ h => h) (Or.inl ⟨by rfl, ?hy5u5⟩) hHeld ?rest5u5
      case hy5u5 =>
        intro w' hS'
        go_simp
        try with_reducible rfl
      simp only [List.setIfInBounds_toArray, List.set_cons_zero, List.set_cons_succ]
      refine wpAnyH_ready (rs := [6]) (by kernel_rfl) (by simp) ?_
      refine AllReadyH.cons rfl (fun K hK => ?_) AllReadyH.nil
      go_simp
      refine (HK.out _).mono ?_
      rintro e W1 ⟨rfl, hb1⟩
      refine hK.out _ _ (hHeld.trans (hb1.mono hHeld.size)) (fun hHeld2 => ?_)
      clear hK K
      replace hHeld := hHeld2
      clear hHeld2
      clear hb1
      refine take_at (i := 7) (d := 14) (v := ?_) rfl rfl (by kernel_rfl) (by kernel_rfl) (by kernel_rfl) (fun _ _ _ h => h) (Or.inl ⟨by rfl, ?hy7u6⟩) hHeld ?rest7u6
      case hy7u6 =>
        intro w' hS'
        go_simp
        try with_reducible rfl
      simp only [List.setIfInBounds_toArray, List.set_cons_zero, List.set_cons_succ]
      refine wpAnyH_done (by kernel_rfl) ?_ _
      have c2 : W1.cell? ⟨b2, 0, none⟩ = some .nilIface := by rw [cell_of_row _ _ _ _ _ _ (below_row hHeld H2.out)]; rfl
      have f2 := frozen_of_row W1 b2 0 _ _ (below_row hHeld H2.out)
      have HH := Lib.hid hHeld
      gi_wp2
      refine ⟨(keeps_of_below HH.out).trans (KeepsOthers.setCell _ _ _), rfl, (hbW.trans (HH.out.mono hwW)).setCell (p := ⟨b2, 0, none⟩) hs2 _, hs2, k, hk, KP.out, fun hgs => ?_, by rw [heap_setCell_same _ _ _ _ _ _ (below_row HH.out H2.out)]; rfl⟩
      obtain ⟨hgp, hxk⟩ := good_snoc hgs hl
      have hkl : k = pre.length := by have : (k : Int) = (pre.length : Int) := hxk; omega
      exact fun j hj => HG.out hgp j (by omega)
    · rw [hkp] at hK0
      have HK := Lib.hid hK0
      have KP := Lib.hid hkp
      clear hK0 hkp
      gi_wp2
      refine region_round (S := (fun V => Below W.heap.size W V)) arrU (no_defer (by rfl)) (fun ⟨_, _, h⟩ => h) (Below.refl _ _).drew (fun hHeld => ?_)
      refine take_at (i := 0) (d := 7) (v := .agg (dayC hs ts fc lo hi n wd gp t sh)) rfl rfl (by kernel_rfl) (by kernel_rfl) (by kernel_rfl) (fun _ _ _ h => h) (yields_part (by rfl) 69 (.tmp 2) (by rfl) w.heap.size 0 56 (by rfl) 69 (dayC hs ts fc lo hi n wd gp t sh) (0, 0) _ (fun _ h => below_row h H0.out) Tryz.underlying69 rfl info_dy (dy_fits 56 (by decide) hs ts Hh.out Ht.out fc lo hi n wd gp t sh) (dayC hs ts fc lo hi n wd gp t sh) (dy_all hs ts Hh.out Ht.out fc lo hi n wd gp t sh)) hHeld ?_
      simp only [List.setIfInBounds_toArray, List.set_cons_zero, List.set_cons_succ]
      refine take_at (i := 1) (d := 8) (v := ?_) rfl rfl (by kernel_rfl) (by kernel_rfl) (by kernel_rfl) (fun _ _ _ h => h) (Or.inl ⟨by rfl, ?hy1u7⟩) hHeld ?rest1u7
      case hy1u7 =>
        intro w' hS'
        go_simp
        try with_reducible rfl
      simp only [List.setIfInBounds_toArray, List.set_cons_zero, List.set_cons_succ]
      refine take_at (i := 2) (d := 9) (v := ?_) rfl rfl (by kernel_rfl) (by kernel_rfl) (by kernel_rfl) (fun _ _ _ h => h) (Or.inl ⟨by rfl, ?hy2u8⟩) hHeld ?rest2u8
      case hy2u8 =>
        intro w' hS'
        go_simp
        try with_reducible rfl
      simp only [List.setIfInBounds_toArray, List.set_cons_zero, List.set_cons_succ]
      refine take_at (i := 3) (d := 10) (v := ?_) rfl rfl (by kernel_rfl) (by kernel_rfl) (by kernel_rfl) (fun _ _ _ h => h) (Or.inl ⟨by rfl, ?hy3u9⟩) hHeld ?rest3u9
      case hy3u9 =>
        intro w' hS'
        go_simp
        try with_reducible rfl
      simp only [List.setIfInBounds_toArray, List.set_cons_zero, List.set_cons_succ]
      refine take_at (i := 4) (d := 11) (v := ?_) rfl rfl (by kernel_rfl) (by kernel_rfl) (by kernel_rfl) (fun _ _ _ h => h) (Or.inl ⟨by rfl, ?hy4u10⟩) hHeld ?rest4u10
      case hy4u10 =>
        intro w' hS'
        have q := cell_of_i16s (below_row hS' H1.out) k (by rw [Hp.out]; exact hk)
        rw [EX.out] at q
        go_simp
        try with_reducible rfl
      simp only [List.setIfInBounds_toArray, List.set_cons_zero, List.set_cons_succ]
      refine take_at (i := 5) (d := 12) (v := ?_) rfl rfl (by kernel_rfl) (by kernel_rfl) (by kernel_rfl) (fun _ _ _ h => h) (Or.inl ⟨by rfl, ?hy5u11⟩) hHeld ?rest5u11
      case hy5u11 =>
        intro w' hS'
        go_simp
        try with_reducible rfl
      simp only [List.setIfInBounds_toArray, List.set_cons_zero, List.set_cons_succ]
      refine wpAnyH_ready (rs := [6]) (by kernel_rfl) (by simp) ?_
      refine AllReadyH.cons rfl (fun K hK => ?_) AllReadyH.nil
      go_simp
      refine (HK.out _).mono ?_
      rintro e W1 ⟨rfl, hb1⟩
      refine hK.out _ _ (hHeld.trans (hb1.mono hHeld.size)) (fun hHeld2 => ?_)
      clear hK K
      replace hHeld := hHeld2
      clear hHeld2
      clear hb1
      refine take_at (i := 7) (d := 14) (v := ?_) rfl rfl (by kernel_rfl) (by kernel_rfl) (by kernel_rfl) (fun _ _ _ h => h) (Or.inl ⟨by rfl, ?hy7u12⟩) hHeld ?rest7u12
      case hy7u12 =>
        intro w' hS'
        go_simp
        try with_reducible rfl
      simp only [List.setIfInBounds_toArray, List.set_cons_zero, List.set_cons_succ]
      refine wpAnyH_done (by kernel_rfl) ?_ _
      have HH := Lib.hid hHeld
      gi_wp2
      refine ⟨keeps_of_below HH.out, HH.out.mono hwW, hbw.trans (HH.out.mono hbw.size), fun hgs j hj => ?_, R2.out⟩
      obtain ⟨hgp, hxk⟩ := good_snoc hgs hl
      have hkl : k = pre.length := by have : (k : Int) = (pre.length : Int) := hxk; omega
      rw [List.length_append, List.length_singleton] at hj
      by_cases e : j = k
      · rw [e]; exact KP.out
      · exact HG.out hgp j (by omega)
  case done =>
    rintro D zs W hD rfl ⟨hbw, hg, hrr⟩ hK
    clear hrr
    rename_i K hcont
    have H2 : Hid (W.heap[b2]? = some (.cells #[.nilIface] 61 (0, 0))) := below_row hbw R2.out
    have c2 : W.cell? ⟨b2, 0, none⟩ = some .nilIface := by rw [cell_of_row _ _ _ _ _ _ H2.out]; rfl
    have f2 := frozen_of_row W b2 0 _ _ H2.out
    have hfst := Lib.hid (firstNo_none kp 24 0 (fun j _ hj => hg good_all j (by simpa using hj)))
    have HK := Lib.hid hK
    have hbl := row_lt R2.out
    have hby := HB.out.trans (hbw.mono hle)
    have hR : Hid ((W.setCell ⟨b2, 0, none⟩ .nilIface).heap[b2]? = some (.cells #[.nilIface] 61 (0, 0))) := by rw [heap_setCell_same _ _ _ _ _ _ H2.out]; rfl
    have hK2 : Hid ((W.setCell ⟨b2, 0, none⟩ .nilIface).heap[D]? = some (.deferred (some []))) := (heap_setCell_other _ _ _ _ (by simp; omega)).trans HK.out
    have hB2 : Hid (Below w.heap.size w (W.setCell ⟨b2, 0, none⟩ .nilIface)) := hby.setCell (p := ⟨b2, 0, none⟩) hs2 _
    clear hg hK
    refine hcont _ _ ?_
    go_wp2
    refine ⟨by simp, .inl ⟨_, _, rfl, run_takeDeferred hK2.out, ?_⟩⟩
    have hc : ((W.setCell ⟨b2, 0, none⟩ .nilIface).putObj D (.deferred none)).cell? ⟨b2, 0, none⟩ = some .nilIface := by rw [cell_of_row _ _ _ _ _ _ ((World.putObj_heap_other (by omega)).trans hR.out)]; rfl
    refine ⟨.nilIface, by simp [results, Tryz.results37, go_sem, hc], ?_, ?_⟩
    · rw [hfst.out]; rfl
    · exact hB2.out.trans (belowK_b (w := w) (Nat.le_refl _) _ D _ _ (by omega) hK2.out rfl rfl)
  case stop =>
    rintro D c pre W hD ⟨m, hm, rfl⟩ ⟨rfl, hbw, _, k, hk, hkp, hg, hrow⟩ hK
    have hbl := row_lt R2.out
    have hfst := Lib.hid (firstNo_some kp k hkp 24 0 (Nat.zero_le _) (by omega) (fun j _ hj => hg (by unfold Good; rw [hrs_length]) j hj))
    gi_wp2
    refine ⟨by simp, .inl ⟨_, _, rfl, run_takeDeferred hK, ?_⟩⟩
    have hc : (W.putObj D (.deferred none)).cell? ⟨b2, 0, none⟩ = some (.iface 78 (.agg #[.int .i64 (k : Int)])) := by rw [cell_of_row _ _ _ _ _ _ ((World.putObj_heap_other (by omega)).trans hrow)]; rfl
    refine ⟨.iface 78 (.agg #[.int .i64 (k : Int)]), by simp [results, Tryz.results37, go_sem, hc], ?_, ?_⟩
    · rw [hfst.out]; rfl
    · exact hbw.trans (belowK_b (w := w) (Nat.le_refl _) _ D _ _ (by omega) hK rfl rfl)

end Go.Proofs.YtdbleddcnknmiaaGreatDoor

namespace Go.Proofs.YtdbleddcnknmiaaGreatDoor
open Go.ChangeShapes Go.WideShapes Go.ChangeAt Go.RowKit Go.Deep Go.Joins

attribute [local go_sem] run_store_f

theorem bl_one (n : Int) (wd gp : Nat) (t : Int) (sh : Nat) : ∀ v ∈ blindC n wd gp t sh, v.oneCell' = true := by
  intro v hv
  simp only [blindC, List.mem_toArray, List.mem_cons, List.not_mem_nil, or_false] at hv
  rcases hv with rfl | rfl | rfl | rfl | rfl <;> rfl

set_option maxRecDepth 100000 in
set_option maxHeartbeats 2000000 in
theorem l07At_any (n : Int) (wd gp : Nat) (t : Int) (sh : Nat) (hs ts : List Int) (hh : hs.length = 24) (ht : ts.length = 24) (ok : BlOk n wd gp t sh) (fc hour x : Int) (k : HrOk hs ts hour fc) (x0 : -64 ≤ x) (x1 : x ≤ 64) (g1 g2 : Nat) (w : World) (q1 : w.heap[g1]? = some (.cells (blindC n wd gp t sh) 33 (0, 0))) (q2 : w.heap[g2]? = some (.cells (sunC hs ts) 35 (0, 0))) :
    Calls Tryz.prog 26 #[.pointer (some ⟨g1, 0, none⟩), .pointer (some ⟨g2, 0, none⟩), .int .i64 fc, .int .i64 hour, .int .i64 x] w fun e w' => e = .returned (.float .f32 (winB wd gp x sh hs ts hour fc)) ∧ Below w.heap.size w w' := by
  have okx : BlOk n wd gp x sh := ⟨ok.1, ok.2.1, ok.2.2.1, ok.2.2.2.1, ok.2.2.2.2.1, ok.2.2.2.2.2.1, x0, x1, ok.2.2.2.2.2.2.2.2⟩
  have HW := Lib.hid (fun g1 g2 w c1 c2 => l02Window_any n wd gp x sh hs ts hh ht okx hour fc k.h0 k.h1 k.f0 k.f1 k.x1 k.y0 k.y1 g1 g2 w c1 c2)
  have z1 : IntKind.i16.wrap x = x := by rw [IntWalk.i16_in _ (by omega)]
  have Q1 := Lib.hid q1
  have Q2 := Lib.hid q2
  generalize winB wd gp x sh hs ts hour fc = v at *
  clear ok okx k x0 x1 hh ht q1 q2
  go_enter Tryz.func26, Tryz.ntmps26
  go_upto_region 2 with (first | (refine wpList_load_part rfl 33 _ rfl g1 0 5 rfl 33 (blindC n wd gp t sh) (0, 0) _ Q1.out Tryz.underlying33 rfl info_blind (blind_fits _ _ _ _ _) _ (blind_all _ _ _ _ _) ?_) | (refine wpList_store_part rfl 33 _ _ rfl _ 0 (blindC n wd gp t sh) rfl rfl 33 _ (heap_alloc_new _ _) info_blind (Nat.le_refl _) (bl_one n wd gp t sh) ?_; rw [laid_all _ _ (by rfl)]))
  refine abs_code (fun W => W.heap[w.heap.size]? = some (.cells (blindC n wd gp t sh) 33 (0, 0)) ∧ Below w.heap.size w W) ⟨setRow_heap _ _ _ _ _ _ (heap_alloc_new _ _), below_setRow ((Below.refl _ _).alloc (Nat.le_refl _) _) (Nat.le_refl _) _⟩ ?_
  rintro W ⟨h0, hb⟩
  obtain ⟨k0, k1, k2, k3, k4⟩ := blind_cells h0
  have f3 := frozen_of_row W w.heap.size 3 _ _ h0
  have H0 := Lib.hid h0
  clear h0
  go_upto_region 3 with (fail)
  refine abs_code (fun V => V.heap[w.heap.size]? = some (.cells (blindC n wd gp x sh) 33 (0, 0)) ∧ Below w.heap.size w V) ⟨by rw [heap_setCell_same _ _ _ _ _ _ H0.out]; rfl, hb.setCell (p := ⟨w.heap.size, 3, none⟩) (Nat.le_refl _) _⟩ ?_
  clear H0 hb k0 k1 k2 k3 k4 f3
  rintro V ⟨h0, hb⟩
  go_wp2_with (go_at_call 48; refine (HW.out _ _ _ h0 (below_row hb Q2.out)).mono ?_; rintro e W1 ⟨rfl, hb1⟩)
  go_ret
  exact ⟨rfl, hb.trans (hb1.mono hb.size)⟩

set_option maxRecDepth 100000 in
set_option maxHeartbeats 4000000 in
theorem l07Within_any (n : Int) (wd gp : Nat) (t : Int) (sh : Nat) (hs ts : List Int) (hh : hs.length = 24) (ht : ts.length = 24) (ok : BlOk n wd gp t sh) (fc hour x : Int) (k : HrOk hs ts hour fc) (x0 : -64 ≤ x) (x1 : x ≤ 64) (lo hi : Nat) (hlo : fin32 lo = true) (hhi : fin32 hi = true) (g1 g2 : Nat) (w : World) (q1 : w.heap[g1]? = some (.cells (blindC n wd gp t sh) 33 (0, 0))) (q2 : w.heap[g2]? = some (.cells (sunC hs ts) 35 (0, 0))) :
    Calls Tryz.prog 52 #[.pointer (some ⟨g1, 0, none⟩), .pointer (some ⟨g2, 0, none⟩), .int .i64 fc, .int .i64 hour, .int .i64 x, .float .f32 lo, .float .f32 hi] w fun e w' => e = .returned (.bool (kpB hs ts fc lo hi wd gp sh hour x)) ∧ Below w.heap.size w w' := by
  have HA := Lib.hid (fun w q1 q2 => l07At_any n wd gp t sh hs ts hh ht ok fc hour x k x0 x1 g1 g2 w q1 q2)
  have HF := Lib.hid (fun w q2 => l01Fall_any g2 hs ts hh ht hour fc k.h0 k.h1 k.f0 k.f1 k.x1 k.y0 k.y1 35 (0, 0) w q2)
  have hv : fin32 (winB wd gp x sh hs ts hour fc) = true := pos_fin (winB_pos wd gp x ok.2.2.2.2.2.2.2.2 hs ts hour fc k.x1)
  have Q1 := Lib.hid q1
  have Q2 := Lib.hid q2
  obtain ⟨o1, h1⟩ := order_some hv hhi
  obtain ⟨o2, h2⟩ := order_some hv hlo
  unfold kpB gtO ltO
  rw [h1, h2]
  generalize winB wd gp x sh hs ts hour fc = v at *
  generalize fallOf hs ts hour fc = f at *
  clear ok k x0 x1 hh ht q1 q2 hv hlo hhi
  cases o1
  · cases o2
    · skip
      go_enter Tryz.func52, Tryz.ntmps52
      go_wp2_with (first | (go_at_call 26; refine (HA.out _ Q1.out Q2.out).mono ?_; rintro e W1 ⟨rfl, hb1⟩) | (go_at_call 65; refine (HF.out _ (below_row hb1 Q2.out)).mono ?_; rintro e W2 ⟨rfl, hb2⟩; replace hb1 := hb1.trans (hb2.mono hb1.size)))
      go_ret
      exact ⟨rfl, hb1⟩
    · skip
      go_enter Tryz.func52, Tryz.ntmps52
      go_wp2_with (first | (go_at_call 26; refine (HA.out _ Q1.out Q2.out).mono ?_; rintro e W1 ⟨rfl, hb1⟩) | (go_at_call 65; refine (HF.out _ (below_row hb1 Q2.out)).mono ?_; rintro e W2 ⟨rfl, hb2⟩; replace hb1 := hb1.trans (hb2.mono hb1.size)))
      go_ret
      exact ⟨rfl, hb1⟩
    · skip
      go_enter Tryz.func52, Tryz.ntmps52
      go_wp2_with (first | (go_at_call 26; refine (HA.out _ Q1.out Q2.out).mono ?_; rintro e W1 ⟨rfl, hb1⟩) | (go_at_call 65; refine (HF.out _ (below_row hb1 Q2.out)).mono ?_; rintro e W2 ⟨rfl, hb2⟩; replace hb1 := hb1.trans (hb2.mono hb1.size)))
      go_ret
      exact ⟨rfl, hb1⟩
  · cases o2
    · skip
      go_enter Tryz.func52, Tryz.ntmps52
      go_wp2_with (first | (go_at_call 26; refine (HA.out _ Q1.out Q2.out).mono ?_; rintro e W1 ⟨rfl, hb1⟩) | (go_at_call 65; refine (HF.out _ (below_row hb1 Q2.out)).mono ?_; rintro e W2 ⟨rfl, hb2⟩; replace hb1 := hb1.trans (hb2.mono hb1.size)))
      go_ret
      exact ⟨rfl, hb1⟩
    · skip
      go_enter Tryz.func52, Tryz.ntmps52
      go_wp2_with (first | (go_at_call 26; refine (HA.out _ Q1.out Q2.out).mono ?_; rintro e W1 ⟨rfl, hb1⟩) | (go_at_call 65; refine (HF.out _ (below_row hb1 Q2.out)).mono ?_; rintro e W2 ⟨rfl, hb2⟩; replace hb1 := hb1.trans (hb2.mono hb1.size)))
      go_ret
      exact ⟨rfl, hb1⟩
    · skip
      go_enter Tryz.func52, Tryz.ntmps52
      go_wp2_with (first | (go_at_call 26; refine (HA.out _ Q1.out Q2.out).mono ?_; rintro e W1 ⟨rfl, hb1⟩) | (go_at_call 65; refine (HF.out _ (below_row hb1 Q2.out)).mono ?_; rintro e W2 ⟨rfl, hb2⟩; replace hb1 := hb1.trans (hb2.mono hb1.size)))
      go_ret
      exact ⟨rfl, hb1⟩
  · skip
    go_enter Tryz.func52, Tryz.ntmps52
    go_wp2_with (first | (go_at_call 26; refine (HA.out _ Q1.out Q2.out).mono ?_; rintro e W1 ⟨rfl, hb1⟩) | (go_at_call 65; refine (HF.out _ (below_row hb1 Q2.out)).mono ?_; rintro e W2 ⟨rfl, hb2⟩; replace hb1 := hb1.trans (hb2.mono hb1.size)))
    go_ret
    exact ⟨rfl, hb1⟩

def idxV : Option Nat → Int
  | none => -1
  | some k => (k : Int)

set_option maxRecDepth 100000 in
set_option maxHeartbeats 4000000 in
theorem l07Outside_any (n : Int) (wd gp : Nat) (t : Int) (sh : Nat) (hs ts : List Int) (hh : hs.length = 24) (ht : ts.length = 24) (ok : BlOk n wd gp t sh) (fc : Int) (dh : DyHr hs ts fc) (lo hi : Nat) (hlo : fin32 lo = true) (hhi : fin32 hi = true) (ps : List Int) (hp : ps.length = 24) (ho : okP ps = true) (g1 g2 g3 : Nat) (w : World) (q1 : w.heap[g1]? = some (.cells (blindC n wd gp t sh) 33 (0, 0))) (q2 : w.heap[g2]? = some (.cells (sunC hs ts) 35 (0, 0))) (q3 : w.heap[g3]? = some (.cells (i16s ps) 37 (0, 0))) :
    Calls Tryz.prog 35 #[.pointer (some ⟨g1, 0, none⟩), .pointer (some ⟨g2, 0, none⟩), .int .i64 fc, .pointer (some ⟨g3, 0, none⟩), .float .f32 lo, .float .f32 hi] w fun e w' => e = .returned (.int .i64 (idxV (firstNo (kpAt hs ts fc lo hi wd gp sh ps) 0 24))) ∧ Below w.heap.size w w' := by
  have HK : Hid (∀ k : Nat, k < 24 → ∀ w, w.heap[g1]? = some (.cells (blindC n wd gp t sh) 33 (0, 0)) → w.heap[g2]? = some (.cells (sunC hs ts) 35 (0, 0)) → Calls Tryz.prog 52 #[.pointer (some ⟨g1, 0, none⟩), .pointer (some ⟨g2, 0, none⟩), .int .i64 fc, .int .i64 (k : Int), .int .i64 (ps[k]?.getD 0), .float .f32 lo, .float .f32 hi] w fun e w' => e = .returned (.bool (kpAt hs ts fc lo hi wd gp sh ps k)) ∧ Below w.heap.size w w') := fun k hk w q1 q2 => l07Within_any n wd gp t sh hs ts hh ht ok fc (k : Int) (ps[k]?.getD 0) (dh.all k hk) (plan_tilt hp ho hk).1 (plan_tilt hp ho hk).2 lo hi hlo hhi g1 g2 w q1 q2
  have HTL := Lib.hid (fun k hk => plan_tilt hp ho (k := k) hk)
  have Hp := Lib.hid hp
  have Q1 := Lib.hid q1
  have Q2 := Lib.hid q2
  have Q3 := Lib.hid q3
  generalize kpAt hs ts fc lo hi wd gp sh ps = kp at *
  clear ok dh hp ho hh ht hlo hhi q1 q2 q3
  go_enter Tryz.func35, Tryz.ntmps35
  go_wp2
  go_loopw [13] (fun i wr => ∃ k : Nat, k ≤ 24 ∧ i = .int .i64 k ∧ Hid (∀ j, j < k → kp j = true) ∧ Below w.heap.size w wr) (fun i _ => 24 - (intOf i).toNat)
  case atStart => exact ⟨0, Nat.zero_le _, rfl, Lib.hid (fun j h => absurd h (by omega)), Below.refl _ _⟩
  case round =>
    obtain ⟨k, hk, rfl, hj, hb⟩ := hrel
    by_cases hlt : k < 24
    · have c0 := cell_of_i16s (below_row hb Q3.out) k (by rw [Hp.out]; exact hlt)
      have hK0 := HK.out k hlt
      have hT0 := HTL.out k hlt
      generalize ps[k]?.getD 0 = tl at *
      have hw : IntKind.i64.wrap tl = tl := i64_small _ (by omega) (by omega)
      have z1 : (k : Int) < 24 := by omega
      have z2 : (0 : Int) ≤ (k : Int) := by omega
      clear hT0
      rcases hkp : kp k with _ | _
      · rw [hkp] at hK0
        have HK0 := Lib.hid hK0
        have hfst := Lib.hid (firstNo_some kp k hkp 24 0 (Nat.zero_le _) (by omega) (fun j _ hj' => hj.out j hj'))
        clear hkp hK0
        go_wp2_with (go_at_call 52; refine (HK0.out _ (below_row hb Q1.out) (below_row hb Q2.out)).mono ?_; rintro e W1 ⟨rfl, hb1⟩)
        go_ret
        rw [hfst.out]
        exact ⟨rfl, hb.trans (hb1.mono hb.size)⟩
      · rw [hkp] at hK0
        have HK0 := Lib.hid hK0
        have KP := Lib.hid hkp
        clear hkp hK0
        go_wp2_with (go_at_call 52; refine (HK0.out _ (below_row hb Q1.out) (below_row hb Q2.out)).mono ?_; rintro e W1 ⟨rfl, hb1⟩)
        go_roundw
        case rel =>
          refine ⟨k + 1, by omega, by go_num, Lib.hid fun j hj' => ?_, hb.trans (hb1.mono hb.size)⟩
          by_cases e : j = k
          · rw [e]; exact KP.out
          · exact hj.out j (by omega)
        case measure => simp [intOf]; omega
    · obtain rfl : k = 24 := by omega
      have hfst := Lib.hid (firstNo_none kp 24 0 (fun j _ hj' => hj.out j (by omega)))
      go_wp2
      go_ret
      rw [hfst.out]
      exact ⟨rfl, hb⟩

end Go.Proofs.YtdbleddcnknmiaaGreatDoor

namespace Go.Proofs.YtdbleddcnknmiaaGreatDoor
open Go.ChangeShapes Go.WideShapes Go.ChangeAt Go.RowKit Go.Deep Go.Joins

attribute [local go_sem] run_store_f

/-- The code of a call with a blind, a sun and a plan. -/
def cdP (okp okb oks fine : Bool) : Int := if okp then codeBS okb oks fine else 1

theorem isPart_is (a : Nat) (r : Bool) (h : partB a = r) (w : World) : Calls Tryz.prog 36 #[.float .f32 a] w fun e w' => e = .returned (.bool r) ∧ w = w' := by subst h; exact isPart_any a w

theorem l01Part_is (a : Nat) (r : Bool) (h : partB a = r) (w : World) : Calls Tryz.prog 34 #[.float .f32 a] w fun e w' => e = .returned (.bool r) ∧ w = w' := by subst h; exact l01Part_any a w

theorem part_fin {a : Nat} (hw : (Lit.float .f32 a).wf = true) (h : partB a = true) : fin32 a = true := by
  rcases part_get hw h with h | h
  · exact fin_of_lt (by omega)
  · subst h; decide

set_option maxRecDepth 100000 in
set_option maxHeartbeats 1000000 in
theorem refusedBy_ok (w : World) : Calls Tryz.prog 58 #[.int .i64 0] w fun e w' => e = .returned .nilIface ∧ w = w' := by
  go_enter Tryz.func58, Tryz.ntmps58
  go_wp2
  go_ret
  exact ⟨rfl, rfl⟩

set_option maxRecDepth 100000 in
set_option maxHeartbeats 1000000 in
theorem refusedBy_no (c : Int) (hc : c ≠ 0) (w : World) : Calls Tryz.prog 58 #[.int .i64 c] w fun e w' => e = .returned (.iface 90 (.agg #[.int .i64 c])) ∧ w = w' := by
  go_enter Tryz.func58, Tryz.ntmps58
  go_wp2
  go_ret
  exact ⟨rfl, rfl⟩

set_option maxRecDepth 100000 in
set_option maxHeartbeats 2000000 in
theorem checkDay_ok (n : Int) (wd gp : Nat) (t : Int) (sh : Nat) (hs ts : List Int) (hh : hs.length = 24) (ht : ts.length = 24) (T0 : -32768 ≤ t) (T1 : t ≤ 32767) (fine : Bool) (hc : codeBS (okBl n wd gp t sh) (okB hs ts) fine = 0) (w : World) :
    Calls Tryz.prog 41 #[.agg (blindC n wd gp t sh), .agg (sunC hs ts), .bool fine] w fun e w' => e = .returned (.nilIface) ∧ Below w.heap.size w w' := by
  have HC := Lib.hid (fun w => checkBS_is n wd gp t sh hs ts hh ht T0 T1 fine 0 hc w)
  have HR := Lib.hid (fun w => refusedBy_ok w)
  have Hh := Lib.hid hh
  have Ht := Lib.hid ht
  clear hh ht hc
  go_enter Tryz.func41, Tryz.ntmps41
  go_upto_region 1 with (fail)
  refine abs_code (fun W => W.heap[w.heap.size]? = some (.cells (blindC n wd gp t sh) 33 (0, 0)) ∧ W.heap[w.heap.size + 1]? = some (.cells (sunC hs ts) 35 (0, 0)) ∧ Below w.heap.size w W) ⟨heap_alloc2_old _ _ _, heap_alloc2_new _ _ _, ((Below.refl _ _).alloc (Nat.le_refl _) _).alloc (by simp) _⟩ ?_
  rintro W ⟨h0, h1, hb⟩
  generalize w.heap.size + 1 = b1 at *
  have H0 := Lib.hid h0
  have H1 := Lib.hid h1
  clear h0 h1
  go_wp2_with (first | (refine wpList_load_part rfl 33 _ rfl w.heap.size 0 5 rfl 33 (blindC n wd gp t sh) (0, 0) _ H0.out Tryz.underlying33 rfl info_blind (blind_fits _ _ _ _ _) _ (blind_all _ _ _ _ _) ?_) | (refine wpList_load_part rfl 35 _ rfl b1 0 48 rfl 35 (sunC hs ts) (0, 0) _ H1.out Tryz.underlying35 rfl info_sun (sun_fits _ _ Hh.out Ht.out) (sunC hs ts) (sun_all _ _ Hh.out Ht.out) ?_) | (go_at_call 59; refine (HC.out _).mono ?_; rintro e W1 ⟨rfl, hb1⟩; replace H0 := Lib.hid (below_row hb1 H0.out); replace H1 := Lib.hid (below_row hb1 H1.out); replace hb := hb.trans (hb1.mono hb.size); clear hb1) | (go_at_call 58; refine (HR.out _).mono ?_; rintro e w' ⟨rfl, rfl⟩))
  go_ret
  exact ⟨rfl, hb⟩

set_option maxRecDepth 100000 in
set_option maxHeartbeats 2000000 in
theorem checkDay_no (n : Int) (wd gp : Nat) (t : Int) (sh : Nat) (hs ts : List Int) (hh : hs.length = 24) (ht : ts.length = 24) (T0 : -32768 ≤ t) (T1 : t ≤ 32767) (fine : Bool) (c : Int) (hc : codeBS (okBl n wd gp t sh) (okB hs ts) fine = c) (hne : c ≠ 0) (w : World) :
    Calls Tryz.prog 41 #[.agg (blindC n wd gp t sh), .agg (sunC hs ts), .bool fine] w fun e w' => e = .returned (.iface 90 (.agg #[.int .i64 c])) ∧ Below w.heap.size w w' := by
  have HC := Lib.hid (fun w => checkBS_is n wd gp t sh hs ts hh ht T0 T1 fine c hc w)
  have HR := Lib.hid (fun w => refusedBy_no c hne w)
  have Hh := Lib.hid hh
  have Ht := Lib.hid ht
  clear hh ht hc hne
  go_enter Tryz.func41, Tryz.ntmps41
  go_upto_region 1 with (fail)
  refine abs_code (fun W => W.heap[w.heap.size]? = some (.cells (blindC n wd gp t sh) 33 (0, 0)) ∧ W.heap[w.heap.size + 1]? = some (.cells (sunC hs ts) 35 (0, 0)) ∧ Below w.heap.size w W) ⟨heap_alloc2_old _ _ _, heap_alloc2_new _ _ _, ((Below.refl _ _).alloc (Nat.le_refl _) _).alloc (by simp) _⟩ ?_
  rintro W ⟨h0, h1, hb⟩
  generalize w.heap.size + 1 = b1 at *
  have H0 := Lib.hid h0
  have H1 := Lib.hid h1
  clear h0 h1
  go_wp2_with (first | (refine wpList_load_part rfl 33 _ rfl w.heap.size 0 5 rfl 33 (blindC n wd gp t sh) (0, 0) _ H0.out Tryz.underlying33 rfl info_blind (blind_fits _ _ _ _ _) _ (blind_all _ _ _ _ _) ?_) | (refine wpList_load_part rfl 35 _ rfl b1 0 48 rfl 35 (sunC hs ts) (0, 0) _ H1.out Tryz.underlying35 rfl info_sun (sun_fits _ _ Hh.out Ht.out) (sunC hs ts) (sun_all _ _ Hh.out Ht.out) ?_) | (go_at_call 59; refine (HC.out _).mono ?_; rintro e W1 ⟨rfl, hb1⟩; replace H0 := Lib.hid (below_row hb1 H0.out); replace H1 := Lib.hid (below_row hb1 H1.out); replace hb := hb.trans (hb1.mono hb.size); clear hb1) | (go_at_call 58; refine (HR.out _).mono ?_; rintro e w' ⟨rfl, rfl⟩))
  go_ret
  exact ⟨rfl, hb⟩

set_option maxRecDepth 100000 in
set_option maxHeartbeats 2000000 in
theorem checkPlanned_ok (n : Int) (wd gp : Nat) (t : Int) (sh : Nat) (hs ts : List Int) (hh : hs.length = 24) (ht : ts.length = 24) (ps : List Int) (hp : ps.length = 24) (T0 : -32768 ≤ t) (T1 : t ≤ 32767) (fine : Bool) (hc : cdP (okP ps) (okBl n wd gp t sh) (okB hs ts) fine = 0) (w : World) :
    Calls Tryz.prog 28 #[.agg (blindC n wd gp t sh), .agg (sunC hs ts), .agg (i16s ps), .bool fine] w fun e w' => e = .returned (.nilIface) ∧ Below w.heap.size w w' := by
  cases ho : okP ps with
  | true =>
    rw [ho] at hc
    unfold cdP at hc
    rw [if_pos rfl] at hc
    have HP := Lib.hid (fun w => checkPlan_ok ps hp ho w)
    have HC := Lib.hid (fun w => checkDay_ok n wd gp t sh hs ts hh ht T0 T1 fine hc w)
    have Hh := Lib.hid hh
    have Ht := Lib.hid ht
    have Hp := Lib.hid hp
    have hn := fun w => run_neq_nil_nil (P := Tryz.prog) (w := w) 61 (by kernel_rfl)
    clear hh ht hp hc ho
    go_enter Tryz.func28, Tryz.ntmps28
    go_upto_region 1 with (fail)
    refine abs_code (fun W => W.heap[w.heap.size]? = some (.cells (blindC n wd gp t sh) 33 (0, 0)) ∧ W.heap[w.heap.size + 1]? = some (.cells (sunC hs ts) 35 (0, 0)) ∧ W.heap[w.heap.size + 1 + 1]? = some (.cells (i16s ps) 37 (0, 0)) ∧ Below w.heap.size w W) ⟨(three_new _ _ _ _).1, (three_new _ _ _ _).2.1, (three_new _ _ _ _).2.2.1, (three_new _ _ _ _).2.2.2⟩ ?_
    rintro W ⟨h0, h1, h2, hb⟩
    generalize w.heap.size + 1 + 1 = b2 at *
    generalize w.heap.size + 1 = b1 at *
    have H0 := Lib.hid h0
    have H1 := Lib.hid h1
    have H2 := Lib.hid h2
    clear h0 h1 h2
    go_wp2_with (first | (refine wpList_load_part rfl 33 _ rfl w.heap.size 0 5 rfl 33 (blindC n wd gp t sh) (0, 0) _ H0.out Tryz.underlying33 rfl info_blind (blind_fits _ _ _ _ _) _ (blind_all _ _ _ _ _) ?_) | (refine wpList_load_part rfl 35 _ rfl b1 0 48 rfl 35 (sunC hs ts) (0, 0) _ H1.out Tryz.underlying35 rfl info_sun (sun_fits _ _ Hh.out Ht.out) (sunC hs ts) (sun_all _ _ Hh.out Ht.out) ?_) | (refine wpList_load_part rfl 37 _ rfl b2 0 24 rfl 37 (i16s ps) (0, 0) _ H2.out Tryz.underlying37 rfl info_plan (by rw [i16s_size, Hp.out]; decide) (i16s ps) (i16s_all _ 24 Hp.out) ?_) | (go_at_call 49; refine (HP.out _).mono ?_; rintro e W1 ⟨rfl, hb1⟩; replace H0 := Lib.hid (below_row hb1 H0.out); replace H1 := Lib.hid (below_row hb1 H1.out); replace H2 := Lib.hid (below_row hb1 H2.out); replace hb := hb.trans (hb1.mono hb.size); clear hb1) | (go_at_call 41; refine (HC.out _).mono ?_; rintro e W2 ⟨rfl, hb1⟩; replace H0 := Lib.hid (below_row hb1 H0.out); replace H1 := Lib.hid (below_row hb1 H1.out); replace H2 := Lib.hid (below_row hb1 H2.out); replace hb := hb.trans (hb1.mono hb.size); clear hb1))
    go_ret
    exact ⟨rfl, hb⟩
  | false =>
    rw [ho] at hc
    unfold cdP at hc
    rw [if_neg (by decide)] at hc
    cases hc

set_option maxRecDepth 100000 in
set_option maxHeartbeats 2000000 in
theorem checkPlanned_no (n : Int) (wd gp : Nat) (t : Int) (sh : Nat) (hs ts : List Int) (hh : hs.length = 24) (ht : ts.length = 24) (ps : List Int) (hp : ps.length = 24) (T0 : -32768 ≤ t) (T1 : t ≤ 32767) (fine : Bool) (c : Int) (hc : cdP (okP ps) (okBl n wd gp t sh) (okB hs ts) fine = c) (hne : c ≠ 0) (w : World) :
    Calls Tryz.prog 28 #[.agg (blindC n wd gp t sh), .agg (sunC hs ts), .agg (i16s ps), .bool fine] w fun e w' => e = .returned (.iface 90 (.agg #[.int .i64 c])) ∧ Below w.heap.size w w' := by
  cases ho : okP ps with
  | true =>
    rw [ho] at hc
    unfold cdP at hc
    rw [if_pos rfl] at hc
    have HP := Lib.hid (fun w => checkPlan_ok ps hp ho w)
    have HC := Lib.hid (fun w => checkDay_no n wd gp t sh hs ts hh ht T0 T1 fine c hc hne w)
    have Hh := Lib.hid hh
    have Ht := Lib.hid ht
    have Hp := Lib.hid hp
    have hn := fun w => run_neq_nil_nil (P := Tryz.prog) (w := w) 61 (by kernel_rfl)
    clear hh ht hp hc ho hne
    go_enter Tryz.func28, Tryz.ntmps28
    go_upto_region 1 with (fail)
    refine abs_code (fun W => W.heap[w.heap.size]? = some (.cells (blindC n wd gp t sh) 33 (0, 0)) ∧ W.heap[w.heap.size + 1]? = some (.cells (sunC hs ts) 35 (0, 0)) ∧ W.heap[w.heap.size + 1 + 1]? = some (.cells (i16s ps) 37 (0, 0)) ∧ Below w.heap.size w W) ⟨(three_new _ _ _ _).1, (three_new _ _ _ _).2.1, (three_new _ _ _ _).2.2.1, (three_new _ _ _ _).2.2.2⟩ ?_
    rintro W ⟨h0, h1, h2, hb⟩
    generalize w.heap.size + 1 + 1 = b2 at *
    generalize w.heap.size + 1 = b1 at *
    have H0 := Lib.hid h0
    have H1 := Lib.hid h1
    have H2 := Lib.hid h2
    clear h0 h1 h2
    go_wp2_with (first | (refine wpList_load_part rfl 33 _ rfl w.heap.size 0 5 rfl 33 (blindC n wd gp t sh) (0, 0) _ H0.out Tryz.underlying33 rfl info_blind (blind_fits _ _ _ _ _) _ (blind_all _ _ _ _ _) ?_) | (refine wpList_load_part rfl 35 _ rfl b1 0 48 rfl 35 (sunC hs ts) (0, 0) _ H1.out Tryz.underlying35 rfl info_sun (sun_fits _ _ Hh.out Ht.out) (sunC hs ts) (sun_all _ _ Hh.out Ht.out) ?_) | (refine wpList_load_part rfl 37 _ rfl b2 0 24 rfl 37 (i16s ps) (0, 0) _ H2.out Tryz.underlying37 rfl info_plan (by rw [i16s_size, Hp.out]; decide) (i16s ps) (i16s_all _ 24 Hp.out) ?_) | (go_at_call 49; refine (HP.out _).mono ?_; rintro e W1 ⟨rfl, hb1⟩; replace H0 := Lib.hid (below_row hb1 H0.out); replace H1 := Lib.hid (below_row hb1 H1.out); replace H2 := Lib.hid (below_row hb1 H2.out); replace hb := hb.trans (hb1.mono hb.size); clear hb1) | (go_at_call 41; refine (HC.out _).mono ?_; rintro e W2 ⟨rfl, hb1⟩; replace H0 := Lib.hid (below_row hb1 H0.out); replace H1 := Lib.hid (below_row hb1 H1.out); replace H2 := Lib.hid (below_row hb1 H2.out); replace hb := hb.trans (hb1.mono hb.size); clear hb1))
    go_ret
    exact ⟨rfl, hb⟩
  | false =>
    rw [ho] at hc
    unfold cdP at hc
    rw [if_neg (by decide)] at hc
    have HP := Lib.hid (fun w => checkPlan_no ps hp ho w)
    have hc1 : c = 1 := hc.symm
    subst hc1
    have Hp := Lib.hid hp
    have hn := fun w => run_neq_held_nil (P := Tryz.prog) (w := w) 61 90 (.agg #[.int .i64 1]) (by kernel_rfl)
    clear hh ht hp hc ho hne
    go_enter Tryz.func28, Tryz.ntmps28
    go_upto_region 1 with (fail)
    refine abs_code (fun W => W.heap[w.heap.size]? = some (.cells (blindC n wd gp t sh) 33 (0, 0)) ∧ W.heap[w.heap.size + 1]? = some (.cells (sunC hs ts) 35 (0, 0)) ∧ W.heap[w.heap.size + 1 + 1]? = some (.cells (i16s ps) 37 (0, 0)) ∧ Below w.heap.size w W) ⟨(three_new _ _ _ _).1, (three_new _ _ _ _).2.1, (three_new _ _ _ _).2.2.1, (three_new _ _ _ _).2.2.2⟩ ?_
    rintro W ⟨h0, h1, h2, hb⟩
    generalize w.heap.size + 1 + 1 = b2 at *
    generalize w.heap.size + 1 = b1 at *
    have H0 := Lib.hid h0
    have H1 := Lib.hid h1
    have H2 := Lib.hid h2
    clear h0 h1 h2
    go_wp2_with (first | (refine wpList_load_part rfl 37 _ rfl b2 0 24 rfl 37 (i16s ps) (0, 0) _ H2.out Tryz.underlying37 rfl info_plan (by rw [i16s_size, Hp.out]; decide) (i16s ps) (i16s_all _ 24 Hp.out) ?_) | (go_at_call 49; refine (HP.out _).mono ?_; rintro e W1 ⟨rfl, hb1⟩; replace H0 := Lib.hid (below_row hb1 H0.out); replace H1 := Lib.hid (below_row hb1 H1.out); replace H2 := Lib.hid (below_row hb1 H2.out); replace hb := hb.trans (hb1.mono hb.size); clear hb1))
    go_ret
    exact ⟨rfl, hb⟩

theorem cdP_bad {okp okb oks fine : Bool} (h : (okb && oks && okp) = false) : cdP okp okb oks fine = 1 := by
  cases okp <;> cases okb <;> cases oks <;> simp_all [cdP, codeBS, codeB]

theorem cdP_fine {okp okb oks fine : Bool} (h : (okb && oks && okp) = true) : cdP okp okb oks fine = if fine then 0 else 2 := by
  cases okp <;> cases okb <;> cases oks <;> simp_all [cdP, codeBS, codeB]

theorem cdP_yes {okp okb oks fine : Bool} (h : cdP okp okb oks fine = 0) : okp = true ∧ okb = true ∧ oks = true ∧ fine = true := by
  cases okp <;> cases okb <;> cases oks <;> cases fine <;> simp_all [cdP, codeBS, codeB]

set_option maxRecDepth 100000 in
set_option maxHeartbeats 2000000 in
theorem l07Asked_is (n : Int) (wd gp : Nat) (t : Int) (sh : Nat) (hs ts : List Int) (hh : hs.length = 24) (ht : ts.length = 24) (ps : List Int) (hp : ps.length = 24) (T0 : -32768 ≤ t) (T1 : t ≤ 32767) (N0 : -128 ≤ n) (N1 : n ≤ 127) (rb : ∀ x ∈ hs ++ ts, -32768 ≤ x ∧ x ≤ 32767) (pb : ∀ x ∈ ps, -32768 ≤ x ∧ x ≤ 32767) (fine : Bool) (c : Int) (hc : cdP (okP ps) (okBl n wd gp t sh) (okB hs ts) fine = c) (g1 g2 g3 : Nat) (w : World) (q1 : w.heap[g1]? = some (.cells (blindC n wd gp t sh) 33 (0, 0))) (q2 : w.heap[g2]? = some (.cells (sunC hs ts) 35 (0, 0))) (q3 : w.heap[g3]? = some (.cells (i16s ps) 37 (0, 0))) :
    Calls Tryz.prog 24 #[.pointer (some ⟨g1, 0, none⟩), .pointer (some ⟨g2, 0, none⟩), .pointer (some ⟨g3, 0, none⟩), .bool fine] w fun e w' => e = .returned (.int .i64 c) ∧ w = w' := by
  have HB : Hid (∀ _ : Unit, Calls Tryz.prog 44 #[.pointer (some ⟨g1, 0, none⟩)] w fun e w' => e = .returned (.bool (okBl n wd gp t sh)) ∧ w = w') := fun _ => l02Ok_any n wd gp t sh T0 T1 N0 N1 g1 33 (0, 0) w q1
  have HS : Hid (∀ _ : Unit, Calls Tryz.prog 45 #[.pointer (some ⟨g2, 0, none⟩)] w fun e w' => e = .returned (.bool (okB hs ts)) ∧ w = w') := fun _ => l01Ok_any g2 hs ts hh ht rb 35 (0, 0) w q2
  have HQ : Hid (∀ _ : Unit, Calls Tryz.prog 46 #[.pointer (some ⟨g3, 0, none⟩)] w fun e w' => e = .returned (.bool (okP ps)) ∧ w = w') := fun _ => l07Plan_any g3 ps hp pb 37 (0, 0) w q3
  subst hc
  clear T0 T1 N0 N1 rb pb hh ht hp q1 q2 q3
  generalize okBl n wd gp t sh = okb at *
  generalize okB hs ts = oks at *
  generalize okP ps = okp at *
  cases okb
  · rw [cdP_bad (by rfl)]
    go_enter Tryz.func24, Tryz.ntmps24
    go_wp2_with (go_at_call 44; refine (HB.out ()).mono ?_; rintro e w' ⟨rfl, rfl⟩)
    go_ret
    exact ⟨rfl, rfl⟩
  · cases oks
    · rw [cdP_bad (by rfl)]
      go_enter Tryz.func24, Tryz.ntmps24
      go_wp2_with (first | (go_at_call 44; refine (HB.out ()).mono ?_; rintro e w' ⟨rfl, rfl⟩) | (go_at_call 45; refine (HS.out ()).mono ?_; rintro e w' ⟨rfl, rfl⟩))
      go_ret
      exact ⟨rfl, rfl⟩
    · cases okp
      · rw [cdP_bad (by rfl)]
        go_enter Tryz.func24, Tryz.ntmps24
        go_wp2_with (first | (go_at_call 44; refine (HB.out ()).mono ?_; rintro e w' ⟨rfl, rfl⟩) | (go_at_call 45; refine (HS.out ()).mono ?_; rintro e w' ⟨rfl, rfl⟩) | (go_at_call 46; refine (HQ.out ()).mono ?_; rintro e w' ⟨rfl, rfl⟩))
        go_ret
        exact ⟨rfl, rfl⟩
      · rw [cdP_fine (by rfl)]
        cases fine
        · go_enter Tryz.func24, Tryz.ntmps24
          go_wp2_with (first | (go_at_call 44; refine (HB.out ()).mono ?_; rintro e w' ⟨rfl, rfl⟩) | (go_at_call 45; refine (HS.out ()).mono ?_; rintro e w' ⟨rfl, rfl⟩) | (go_at_call 46; refine (HQ.out ()).mono ?_; rintro e w' ⟨rfl, rfl⟩))
          go_ret
          exact ⟨rfl, rfl⟩
        · go_enter Tryz.func24, Tryz.ntmps24
          go_wp2_with (first | (go_at_call 44; refine (HB.out ()).mono ?_; rintro e w' ⟨rfl, rfl⟩) | (go_at_call 45; refine (HS.out ()).mono ?_; rintro e w' ⟨rfl, rfl⟩) | (go_at_call 46; refine (HQ.out ()).mono ?_; rintro e w' ⟨rfl, rfl⟩))
          go_ret
          exact ⟨rfl, rfl⟩

end Go.Proofs.YtdbleddcnknmiaaGreatDoor
