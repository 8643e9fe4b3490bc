/-
  For every awning and every sun, valid or not, every hour and every facing: LightBehind returns what the model says. No conditions.
-/
import Derived.Test.YtnienahjfocalaaDoorShC
import Derived.Test.YtnienahjfocalaaDoorLawC
import Derived.Test.YtnienahjfocalaaDoorCards
import Derived.Test.YtnienahjfocalaaDoorTie
import Derived.SevenTiedAt
namespace Go.Proofs.YtnienahjfocalaaDoor
open Go.ChangeShapes Go.WideShapes Go.ChangeAt Go.RowKit Go.Deep Go.Joins

set_option maxRecDepth 100000 in
set_option maxHeartbeats 1000000 in
theorem lib_no0 (o dr gp tl : Nat) (hs ts : List Int) (hh : hs.length = 24) (ht : ts.length = 24) (hour : Int) (fc : Int) (a0 : inH hour = false) (e0 e1 e2 e3 : Addr) (n : Nat) (hn : refN (okAw o dr gp tl && okB hs ts) false true = n) (hne : (codeE n != 0) = true) (w : World) (hE : ErrsAt w e0 e1 e2 e3) :
    Calls Tryd.prog 23 #[.agg (awC o dr gp tl), .agg (sunC hs ts), .int .i64 hour, .int .i64 fc] w fun e w' => e = .returned (.tuple #[.float .f32 0, .int .i64 (codeE n)]) ∧ Below w.heap.size w w' := by
  have A0 := Lib.hid a0
  have HN := Lib.hid hn
  have Hh := Lib.hid hh
  have Ht := Lib.hid ht
  clear hh ht
  have HX := Lib.hid hE
  clear hE
  clear hn a0
  go_enter Tryd.func23, Tryd.ntmps23
  go_upto_region 1 with (fail)
  refine abs_world (fun W => W.heap[w.heap.size]? = some (.cells (awC o dr gp tl) 27 (0, 0)) ∧ W.heap[w.heap.size + 1]? = some (.cells (sunC hs ts) 37 (0, 0)) ∧ Below w.heap.size w W) (box2 w (.cells (awC o dr gp tl) 27) (.cells (sunC hs ts) 37)) ?_
  rintro W ⟨h0, h1, hb⟩
  generalize w.heap.size + 1 = b1 at *
  have H0 := Lib.hid h0
  have H1 := Lib.hid h1
  clear h0 h1
  replace HX := Lib.hid (errs_below HX.out hb)
  refine wp_region_held_drew (S := (fun V => Below W.heap.size W V)) (by kernel_rfl) ((Below.refl _ _).drew) (fun hHeld => ?_)
  refine take_op (i := 0) (d := 11) (v := .agg (awC o dr gp tl)) rfl rfl (by kernel_rfl) (by kernel_rfl) (by kernel_rfl) (fun _ _ _ h => h) (yields_row (by rfl) 27 (.tmp 4) (by rfl) w.heap.size 0 4 (by rfl) 27 (awC o dr gp tl) (0, 0) _ (fun _ h => below_row h H0.out) Tryd.underlying27 rfl info_aw (aw_fits _ _ _ _) (awC o dr gp tl) (aw_all _ _ _ _)) hHeld ?_
  simp only [List.setIfInBounds_toArray, List.set_cons_zero, List.set_cons_succ]
  refine take_op (i := 1) (d := 12) (v := .agg (sunC hs ts)) rfl rfl (by kernel_rfl) (by kernel_rfl) (by kernel_rfl) (fun _ _ _ h => h) (yields_row (by rfl) 37 (.tmp 5) (by rfl) b1 0 48 (by rfl) 37 (sunC hs ts) (0, 0) _ (fun _ h => below_row h H1.out) Tryd.underlying37 rfl info_sun (sun_fits _ _ Hh.out Ht.out) (sunC hs ts) (sun_all _ _ Hh.out Ht.out)) hHeld ?_
  simp only [List.setIfInBounds_toArray, List.set_cons_zero, List.set_cons_succ]
  refine take_op (i := 2) (d := 13) (v := ?_) rfl rfl (by kernel_rfl) (by kernel_rfl) (by kernel_rfl) (fun _ _ _ h => h) (Or.inl ⟨by rfl, ?hy2u29⟩) hHeld ?rest2u29
  case hy2u29 =>
    intro w' hS'
    go_simp
    try with_reducible rfl
  simp only [List.setIfInBounds_toArray, List.set_cons_zero, List.set_cons_succ]
  refine wpAnyH_ready (rs := [3]) (by kernel_rfl) (by simp) ?_
  refine AllReadyH.cons rfl (fun K hK => ?_) AllReadyH.nil
  go_simp
  refine (isHour_is hour false A0.out _).mono ?_
  rintro e w1 ⟨rfl, rfl⟩
  refine hK.out _ _ (hHeld) (fun hHeld2 => ?_)
  clear hK K
  replace hHeld := hHeld2
  clear hHeld2
  refine take_op (i := 4) (d := 15) (v := ?_) rfl rfl (by kernel_rfl) (by kernel_rfl) (by kernel_rfl) (fun _ _ _ h => h) (Or.inl ⟨by rfl, ?hy4u30⟩) hHeld ?rest4u30
  case hy4u30 =>
    intro w' hS'
    go_simp
    try with_reducible rfl
  simp only [List.setIfInBounds_toArray, List.set_cons_zero, List.set_cons_succ]
  refine take_op (i := 5) (d := 16) rfl rfl (by kernel_rfl) (by kernel_rfl) (by kernel_rfl) (fun _ _ _ h => h) (Or.inr ⟨by rfl, rfl⟩) hHeld ?_
  simp only [List.setIfInBounds_toArray, List.set_cons_zero, List.set_cons_succ]
  refine take_op (i := 6) (d := 17) rfl rfl (by kernel_rfl) (by kernel_rfl) (by kernel_rfl) (fun _ _ _ h => h) (Or.inr ⟨by rfl, rfl⟩) hHeld ?_
  simp only [List.setIfInBounds_toArray, List.set_cons_zero, List.set_cons_succ]
  refine take_op (i := 7) (d := 18) (v := ?_) rfl rfl (by kernel_rfl) (by kernel_rfl) (by kernel_rfl) (fun _ _ _ h => h) (Or.inl ⟨by rfl, ?hy7u31⟩) hHeld ?rest7u31
  case hy7u31 =>
    intro w' hS'
    go_simp
    try with_reducible rfl
  simp only [List.setIfInBounds_toArray, List.set_cons_zero, List.set_cons_succ]
  refine wpAnyH_ready (rs := [8]) (by kernel_rfl) (by simp) ?_
  refine AllReadyH.cons rfl (fun K hK => ?_) AllReadyH.nil
  go_simp
  refine (checkAwning_is o dr gp tl hs ts Hh.out Ht.out false e0 e1 e2 e3 n HN.out _ (errs_below HX.out hHeld)).mono ?_
  rintro e W2 ⟨rfl, hb2⟩
  refine hK.out _ _ (hHeld.trans (hb2.mono hHeld.size)) (fun hHeld2 => ?_)
  clear hK K
  replace hHeld := hHeld2
  clear hHeld2
  clear hb2
  refine take_op (i := 9) (d := 10) (v := ?_) rfl rfl (by kernel_rfl) (by kernel_rfl) (by kernel_rfl) (fun _ _ _ h => h) (Or.inl ⟨by rfl, ?hy9u32⟩) hHeld ?rest9u32
  case hy9u32 =>
    intro w' hS'
    go_simp
    try with_reducible rfl
  simp only [List.setIfInBounds_toArray, List.set_cons_zero, List.set_cons_succ]
  refine wpAnyH_done (by kernel_rfl) ?_ _
  replace H0 := Lib.hid (below_row hHeld H0.out)
  replace H1 := Lib.hid (below_row hHeld H1.out)
  replace HX := Lib.hid (errs_below HX.out hHeld)
  replace hb := hb.trans (hHeld.mono hb.size)
  clear hHeld
  go_wp2
  go_ret2
  exact ⟨rfl, hb⟩

set_option maxRecDepth 100000 in
set_option maxHeartbeats 1000000 in
theorem lib_no1 (o dr gp tl : Nat) (hs ts : List Int) (hh : hs.length = 24) (ht : ts.length = 24) (hour : Int) (fc : Int) (z : Bool) (a0 : inH hour = true) (a1 : inF fc = z) (e0 e1 e2 e3 : Addr) (n : Nat) (hn : refN (okAw o dr gp tl && okB hs ts) z true = n) (hne : (codeE n != 0) = true) (w : World) (hE : ErrsAt w e0 e1 e2 e3) :
    Calls Tryd.prog 23 #[.agg (awC o dr gp tl), .agg (sunC hs ts), .int .i64 hour, .int .i64 fc] w fun e w' => e = .returned (.tuple #[.float .f32 0, .int .i64 (codeE n)]) ∧ Below w.heap.size w w' := by
  have A0 := Lib.hid a0
  have A1 := Lib.hid a1
  have HN := Lib.hid hn
  have Hh := Lib.hid hh
  have Ht := Lib.hid ht
  clear hh ht
  have HX := Lib.hid hE
  clear hE
  clear hn a0 a1
  go_enter Tryd.func23, Tryd.ntmps23
  go_upto_region 1 with (fail)
  refine abs_world (fun W => W.heap[w.heap.size]? = some (.cells (awC o dr gp tl) 27 (0, 0)) ∧ W.heap[w.heap.size + 1]? = some (.cells (sunC hs ts) 37 (0, 0)) ∧ Below w.heap.size w W) (box2 w (.cells (awC o dr gp tl) 27) (.cells (sunC hs ts) 37)) ?_
  rintro W ⟨h0, h1, hb⟩
  generalize w.heap.size + 1 = b1 at *
  have H0 := Lib.hid h0
  have H1 := Lib.hid h1
  clear h0 h1
  replace HX := Lib.hid (errs_below HX.out hb)
  refine wp_region_held_drew (S := (fun V => Below W.heap.size W V)) (by kernel_rfl) ((Below.refl _ _).drew) (fun hHeld => ?_)
  refine take_op (i := 0) (d := 11) (v := .agg (awC o dr gp tl)) rfl rfl (by kernel_rfl) (by kernel_rfl) (by kernel_rfl) (fun _ _ _ h => h) (yields_row (by rfl) 27 (.tmp 4) (by rfl) w.heap.size 0 4 (by rfl) 27 (awC o dr gp tl) (0, 0) _ (fun _ h => below_row h H0.out) Tryd.underlying27 rfl info_aw (aw_fits _ _ _ _) (awC o dr gp tl) (aw_all _ _ _ _)) hHeld ?_
  simp only [List.setIfInBounds_toArray, List.set_cons_zero, List.set_cons_succ]
  refine take_op (i := 1) (d := 12) (v := .agg (sunC hs ts)) rfl rfl (by kernel_rfl) (by kernel_rfl) (by kernel_rfl) (fun _ _ _ h => h) (yields_row (by rfl) 37 (.tmp 5) (by rfl) b1 0 48 (by rfl) 37 (sunC hs ts) (0, 0) _ (fun _ h => below_row h H1.out) Tryd.underlying37 rfl info_sun (sun_fits _ _ Hh.out Ht.out) (sunC hs ts) (sun_all _ _ Hh.out Ht.out)) hHeld ?_
  simp only [List.setIfInBounds_toArray, List.set_cons_zero, List.set_cons_succ]
  refine take_op (i := 2) (d := 13) (v := ?_) rfl rfl (by kernel_rfl) (by kernel_rfl) (by kernel_rfl) (fun _ _ _ h => h) (Or.inl ⟨by rfl, ?hy2u33⟩) hHeld ?rest2u33
  case hy2u33 =>
    intro w' hS'
    go_simp
    try with_reducible rfl
  simp only [List.setIfInBounds_toArray, List.set_cons_zero, List.set_cons_succ]
  refine wpAnyH_ready (rs := [3]) (by kernel_rfl) (by simp) ?_
  refine AllReadyH.cons rfl (fun K hK => ?_) AllReadyH.nil
  go_simp
  refine (isHour_is hour true A0.out _).mono ?_
  rintro e w1 ⟨rfl, rfl⟩
  refine hK.out _ _ (hHeld) (fun hHeld2 => ?_)
  clear hK K
  replace hHeld := hHeld2
  clear hHeld2
  refine take_op (i := 4) (d := 15) (v := ?_) rfl rfl (by kernel_rfl) (by kernel_rfl) (by kernel_rfl) (fun _ _ _ h => h) (Or.inl ⟨by rfl, ?hy4u34⟩) hHeld ?rest4u34
  case hy4u34 =>
    intro w' hS'
    go_simp
    try with_reducible rfl
  simp only [List.setIfInBounds_toArray, List.set_cons_zero, List.set_cons_succ]
  refine take_op (i := 5) (d := 16) (v := ?_) rfl rfl (by kernel_rfl) (by kernel_rfl) (by kernel_rfl) (fun _ _ _ h => h) (Or.inl ⟨by rfl, ?hy5u35⟩) hHeld ?rest5u35
  case hy5u35 =>
    intro w' hS'
    go_simp
    try with_reducible rfl
  simp only [List.setIfInBounds_toArray, List.set_cons_zero, List.set_cons_succ]
  refine wpAnyH_ready (rs := [6]) (by kernel_rfl) (by simp) ?_
  refine AllReadyH.cons rfl (fun K hK => ?_) AllReadyH.nil
  go_simp
  refine (isFacing_is fc z A1.out _).mono ?_
  rintro e w2 ⟨rfl, rfl⟩
  refine hK.out _ _ (hHeld) (fun hHeld2 => ?_)
  clear hK K
  replace hHeld := hHeld2
  clear hHeld2
  refine take_op (i := 7) (d := 18) (v := ?_) rfl rfl (by kernel_rfl) (by kernel_rfl) (by kernel_rfl) (fun _ _ _ h => h) (Or.inl ⟨by rfl, ?hy7u36⟩) hHeld ?rest7u36
  case hy7u36 =>
    intro w' hS'
    go_simp
    try with_reducible rfl
  simp only [List.setIfInBounds_toArray, List.set_cons_zero, List.set_cons_succ]
  refine wpAnyH_ready (rs := [8]) (by kernel_rfl) (by simp) ?_
  refine AllReadyH.cons rfl (fun K hK => ?_) AllReadyH.nil
  go_simp
  refine (checkAwning_is o dr gp tl hs ts Hh.out Ht.out z e0 e1 e2 e3 n HN.out _ (errs_below HX.out hHeld)).mono ?_
  rintro e W3 ⟨rfl, hb3⟩
  refine hK.out _ _ (hHeld.trans (hb3.mono hHeld.size)) (fun hHeld2 => ?_)
  clear hK K
  replace hHeld := hHeld2
  clear hHeld2
  clear hb3
  refine take_op (i := 9) (d := 10) (v := ?_) rfl rfl (by kernel_rfl) (by kernel_rfl) (by kernel_rfl) (fun _ _ _ h => h) (Or.inl ⟨by rfl, ?hy9u37⟩) hHeld ?rest9u37
  case hy9u37 =>
    intro w' hS'
    go_simp
    try with_reducible rfl
  simp only [List.setIfInBounds_toArray, List.set_cons_zero, List.set_cons_succ]
  refine wpAnyH_done (by kernel_rfl) ?_ _
  replace H0 := Lib.hid (below_row hHeld H0.out)
  replace H1 := Lib.hid (below_row hHeld H1.out)
  replace HX := Lib.hid (errs_below HX.out hHeld)
  replace hb := hb.trans (hHeld.mono hb.size)
  clear hHeld
  go_wp2
  go_ret2
  exact ⟨rfl, hb⟩

set_option maxRecDepth 100000 in
set_option maxHeartbeats 1000000 in
theorem slib_no (o dr gp tl : Nat) (hs ts : List Int) (hh : hs.length = 24) (ht : ts.length = 24) (rb : ∀ x ∈ hs ++ ts, -32768 ≤ x ∧ x ≤ 32767) (hour : Int) (fc : Int) (n : Nat) (hn : refN (okAw o dr gp tl && okB hs ts) (inH hour && inF fc && true) true = n) (hne : (codeE n != 0) = true) (w : World) :
    Calls Tryd.prog 22 #[.agg (awC o dr gp tl), .agg (sunC hs ts), .int .i64 hour, .int .i64 fc] w fun e w' => e = .returned (.tuple #[.float .f32 0, .int .i64 (codeE n)]) ∧ Below w.heap.size w w' := by
  have HL := Lib.hid (fun g1 g2 w q1 q2 => l04Asked_is o dr gp tl hs ts hh ht rb hour fc true n hn g1 g2 27 37 (0, 0) (0, 0) w q1 q2)
  clear hn rb
  have Hh := Lib.hid hh
  have Ht := Lib.hid ht
  clear hh ht
  go_enter Tryd.func22, Tryd.ntmps22
  go_upto_region 1 with (fail)
  refine abs_world (fun W => W.heap[w.heap.size]? = some (.cells (awC o dr gp tl) 27 (0, 0)) ∧ W.heap[w.heap.size + 1]? = some (.cells (sunC hs ts) 37 (0, 0)) ∧ Below w.heap.size w W) (box2 w (.cells (awC o dr gp tl) 27) (.cells (sunC hs ts) 37)) ?_
  rintro W ⟨h0, h1, hb⟩
  generalize w.heap.size + 1 = b1 at *
  have H0 := Lib.hid h0
  have H1 := Lib.hid h1
  clear h0 h1
  go_wp2_with (first | (refine wpList_load_partG 27 _ rfl w.heap.size 0 4 rfl rfl 27 (awC o dr gp tl) (0, 0) _ H0.out Tryd.underlying27 rfl info_aw (aw_fits _ _ _ _) _ (aw_all _ _ _ _) ?_) | (refine wpList_load_partG 37 _ rfl b1 0 48 rfl rfl 37 (sunC hs ts) (0, 0) _ H1.out Tryd.underlying37 rfl info_sun (sun_fits _ _ Hh.out Ht.out) _ (sun_all _ _ Hh.out Ht.out) ?_) | (go_at_call 64; refine (HL.out _ _ _ H0.out H1.out).mono ?_; rintro e w1 ⟨rfl, rfl⟩))
  go_ret2
  exact ⟨rfl, hb⟩

set_option maxRecDepth 100000 in
set_option maxHeartbeats 1000000 in
theorem lib_yes {o dr gp tl : Nat} (aw : AwOk o dr gp tl) (hs ts : List Int) (hh : hs.length = 24) (ht : ts.length = 24) (hour : Int) (fc : Int) (k : HrOk hs ts hour fc) (h1 : okAw o dr gp tl = true) (h2 : okB hs ts = true) (a0 : inH hour = true) (a1 : inF fc = true) (e0 e1 e2 e3 : Addr) (w : World) (hE : ErrsAt w e0 e1 e2 e3) :
    Calls Tryd.prog 23 #[.agg (awC o dr gp tl), .agg (sunC hs ts), .int .i64 hour, .int .i64 fc] w fun e w' => e = .returned (.tuple #[.float .f32 (behOf o dr gp tl hs ts hour fc), .int .i64 0]) ∧ Below w.heap.size w w' := by
  have HP := Lib.hid (fun w => behind_any aw hs ts hh ht fc hour k w)
  have A0 := Lib.hid a0
  have A1 := Lib.hid a1
  have HN : Hid (refN (okAw o dr gp tl && okB hs ts) true true = 0) := by rw [h1, h2]; rfl
  have Hh := Lib.hid hh
  have Ht := Lib.hid ht
  clear hh ht
  have HX := Lib.hid hE
  clear hE
  clear a0 a1 h1 h2 k aw
  go_enter Tryd.func23, Tryd.ntmps23
  go_upto_region 1 with (fail)
  refine abs_world (fun W => W.heap[w.heap.size]? = some (.cells (awC o dr gp tl) 27 (0, 0)) ∧ W.heap[w.heap.size + 1]? = some (.cells (sunC hs ts) 37 (0, 0)) ∧ Below w.heap.size w W) (box2 w (.cells (awC o dr gp tl) 27) (.cells (sunC hs ts) 37)) ?_
  rintro W ⟨h0, h1, hb⟩
  generalize w.heap.size + 1 = b1 at *
  have H0 := Lib.hid h0
  have H1 := Lib.hid h1
  clear h0 h1
  replace HX := Lib.hid (errs_below HX.out hb)
  refine wp_region_held_drew (S := (fun V => Below W.heap.size W V)) (by kernel_rfl) ((Below.refl _ _).drew) (fun hHeld => ?_)
  refine take_op (i := 0) (d := 11) (v := .agg (awC o dr gp tl)) rfl rfl (by kernel_rfl) (by kernel_rfl) (by kernel_rfl) (fun _ _ _ h => h) (yields_row (by rfl) 27 (.tmp 4) (by rfl) w.heap.size 0 4 (by rfl) 27 (awC o dr gp tl) (0, 0) _ (fun _ h => below_row h H0.out) Tryd.underlying27 rfl info_aw (aw_fits _ _ _ _) (awC o dr gp tl) (aw_all _ _ _ _)) hHeld ?_
  simp only [List.setIfInBounds_toArray, List.set_cons_zero, List.set_cons_succ]
  refine take_op (i := 1) (d := 12) (v := .agg (sunC hs ts)) rfl rfl (by kernel_rfl) (by kernel_rfl) (by kernel_rfl) (fun _ _ _ h => h) (yields_row (by rfl) 37 (.tmp 5) (by rfl) b1 0 48 (by rfl) 37 (sunC hs ts) (0, 0) _ (fun _ h => below_row h H1.out) Tryd.underlying37 rfl info_sun (sun_fits _ _ Hh.out Ht.out) (sunC hs ts) (sun_all _ _ Hh.out Ht.out)) hHeld ?_
  simp only [List.setIfInBounds_toArray, List.set_cons_zero, List.set_cons_succ]
  refine take_op (i := 2) (d := 13) (v := ?_) rfl rfl (by kernel_rfl) (by kernel_rfl) (by kernel_rfl) (fun _ _ _ h => h) (Or.inl ⟨by rfl, ?hy2u38⟩) hHeld ?rest2u38
  case hy2u38 =>
    intro w' hS'
    go_simp
    try with_reducible rfl
  simp only [List.setIfInBounds_toArray, List.set_cons_zero, List.set_cons_succ]
  refine wpAnyH_ready (rs := [3]) (by kernel_rfl) (by simp) ?_
  refine AllReadyH.cons rfl (fun K hK => ?_) AllReadyH.nil
  go_simp
  refine (isHour_is hour true A0.out _).mono ?_
  rintro e w1 ⟨rfl, rfl⟩
  refine hK.out _ _ (hHeld) (fun hHeld2 => ?_)
  clear hK K
  replace hHeld := hHeld2
  clear hHeld2
  refine take_op (i := 4) (d := 15) (v := ?_) rfl rfl (by kernel_rfl) (by kernel_rfl) (by kernel_rfl) (fun _ _ _ h => h) (Or.inl ⟨by rfl, ?hy4u39⟩) hHeld ?rest4u39
  case hy4u39 =>
    intro w' hS'
    go_simp
    try with_reducible rfl
  simp only [List.setIfInBounds_toArray, List.set_cons_zero, List.set_cons_succ]
  refine take_op (i := 5) (d := 16) (v := ?_) rfl rfl (by kernel_rfl) (by kernel_rfl) (by kernel_rfl) (fun _ _ _ h => h) (Or.inl ⟨by rfl, ?hy5u40⟩) hHeld ?rest5u40
  case hy5u40 =>
    intro w' hS'
    go_simp
    try with_reducible rfl
  simp only [List.setIfInBounds_toArray, List.set_cons_zero, List.set_cons_succ]
  refine wpAnyH_ready (rs := [6]) (by kernel_rfl) (by simp) ?_
  refine AllReadyH.cons rfl (fun K hK => ?_) AllReadyH.nil
  go_simp
  refine (isFacing_is fc true A1.out _).mono ?_
  rintro e w2 ⟨rfl, rfl⟩
  refine hK.out _ _ (hHeld) (fun hHeld2 => ?_)
  clear hK K
  replace hHeld := hHeld2
  clear hHeld2
  refine take_op (i := 7) (d := 18) (v := ?_) rfl rfl (by kernel_rfl) (by kernel_rfl) (by kernel_rfl) (fun _ _ _ h => h) (Or.inl ⟨by rfl, ?hy7u41⟩) hHeld ?rest7u41
  case hy7u41 =>
    intro w' hS'
    go_simp
    try with_reducible rfl
  simp only [List.setIfInBounds_toArray, List.set_cons_zero, List.set_cons_succ]
  refine wpAnyH_ready (rs := [8]) (by kernel_rfl) (by simp) ?_
  refine AllReadyH.cons rfl (fun K hK => ?_) AllReadyH.nil
  go_simp
  refine (checkAwning_is o dr gp tl hs ts Hh.out Ht.out true e0 e1 e2 e3 0 HN.out _ (errs_below HX.out hHeld)).mono ?_
  rintro e W3 ⟨rfl, hb3⟩
  refine hK.out _ _ (hHeld.trans (hb3.mono hHeld.size)) (fun hHeld2 => ?_)
  clear hK K
  replace hHeld := hHeld2
  clear hHeld2
  clear hb3
  refine take_op (i := 9) (d := 10) (v := ?_) rfl rfl (by kernel_rfl) (by kernel_rfl) (by kernel_rfl) (fun _ _ _ h => h) (Or.inl ⟨by rfl, ?hy9u42⟩) hHeld ?rest9u42
  case hy9u42 =>
    intro w' hS'
    go_simp
    try with_reducible rfl
  simp only [List.setIfInBounds_toArray, List.set_cons_zero, List.set_cons_succ]
  refine wpAnyH_done (by kernel_rfl) ?_ _
  replace H0 := Lib.hid (below_row hHeld H0.out)
  replace H1 := Lib.hid (below_row hHeld H1.out)
  replace HX := Lib.hid (errs_below HX.out hHeld)
  replace hb := hb.trans (hHeld.mono hb.size)
  clear hHeld
  clear HX
  go_wp2_with (first | (refine wpList_load_partG 27 _ rfl w.heap.size 0 4 rfl rfl 27 (awC o dr gp tl) (0, 0) _ H0.out Tryd.underlying27 rfl info_aw (aw_fits _ _ _ _) _ (aw_all _ _ _ _) ?_) | (refine wpList_load_partG 37 _ rfl b1 0 48 rfl rfl 37 (sunC hs ts) (0, 0) _ H1.out Tryd.underlying37 rfl info_sun (sun_fits _ _ Hh.out Ht.out) _ (sun_all _ _ Hh.out Ht.out) ?_) | (go_at_call 68; refine (isHour_is hour true A0.out _).mono ?_; rintro e w4 ⟨rfl, rfl⟩) | (go_at_call 69; refine (isFacing_is fc true A1.out _).mono ?_; rintro e w5 ⟨rfl, rfl⟩) | (go_at_call 67; refine (checkAwning_is o dr gp tl hs ts Hh.out Ht.out true e0 e1 e2 e3 0 HN.out _ {HX}).mono ?_; rintro e W6 ⟨rfl, hb6⟩; replace H0 := Lib.hid (below_row hb6 H0.out); replace H1 := Lib.hid (below_row hb6 H1.out); replace hb := hb.trans (hb6.mono hb.size); clear hb6) | (go_at_call 70; refine (shadeOf_any o dr gp tl hs ts Hh.out Ht.out fc _).mono ?_; rintro e W7 ⟨rfl, hb7⟩; replace H0 := Lib.hid (below_row hb7 H0.out); replace H1 := Lib.hid (below_row hb7 H1.out); replace hb := hb.trans (hb7.mono hb.size); clear hb7) | (go_at_call 73; refine (HP.out _).mono ?_; rintro e W8 ⟨rfl, hb8⟩; replace H0 := Lib.hid (below_row hb8 H0.out); replace H1 := Lib.hid (below_row hb8 H1.out); replace hb := hb.trans (hb8.mono hb.size); clear hb8))
  go_ret2
  exact ⟨rfl, hb⟩

set_option maxRecDepth 100000 in
set_option maxHeartbeats 1000000 in
theorem slib_yes {o dr gp tl : Nat} (aw : AwOk o dr gp tl) (hs ts : List Int) (hh : hs.length = 24) (ht : ts.length = 24) (rb : ∀ x ∈ hs ++ ts, -32768 ≤ x ∧ x ≤ 32767) (hour : Int) (fc : Int) (k : HrOk hs ts hour fc) (hn : refN (okAw o dr gp tl && okB hs ts) (inH hour && inF fc && true) true = 0) (w : World) :
    Calls Tryd.prog 22 #[.agg (awC o dr gp tl), .agg (sunC hs ts), .int .i64 hour, .int .i64 fc] w fun e w' => e = .returned (.tuple #[.float .f32 (behOf o dr gp tl hs ts hour fc), .int .i64 0]) ∧ Below w.heap.size w w' := by
  have HL := Lib.hid (fun g1 g2 w q1 q2 => l04Asked_is o dr gp tl hs ts hh ht rb hour fc true 0 hn g1 g2 27 37 (0, 0) (0, 0) w q1 q2)
  have HP := Lib.hid (fun g1 g2 w q1 q2 => l04Behind_any aw hs ts hh ht fc hour k g1 g2 27 37 (0, 0) (0, 0) w q1 q2)
  clear hn rb k aw
  have Hh := Lib.hid hh
  have Ht := Lib.hid ht
  clear hh ht
  go_enter Tryd.func22, Tryd.ntmps22
  go_upto_region 1 with (fail)
  refine abs_world (fun W => W.heap[w.heap.size]? = some (.cells (awC o dr gp tl) 27 (0, 0)) ∧ W.heap[w.heap.size + 1]? = some (.cells (sunC hs ts) 37 (0, 0)) ∧ Below w.heap.size w W) (box2 w (.cells (awC o dr gp tl) 27) (.cells (sunC hs ts) 37)) ?_
  rintro W ⟨h0, h1, hb⟩
  generalize w.heap.size + 1 = b1 at *
  have H0 := Lib.hid h0
  have H1 := Lib.hid h1
  clear h0 h1
  go_wp2_with (first | (refine wpList_load_partG 27 _ rfl w.heap.size 0 4 rfl rfl 27 (awC o dr gp tl) (0, 0) _ H0.out Tryd.underlying27 rfl info_aw (aw_fits _ _ _ _) _ (aw_all _ _ _ _) ?_) | (refine wpList_load_partG 37 _ rfl b1 0 48 rfl rfl 37 (sunC hs ts) (0, 0) _ H1.out Tryd.underlying37 rfl info_sun (sun_fits _ _ Hh.out Ht.out) _ (sun_all _ _ Hh.out Ht.out) ?_) | (go_at_call 64; refine (HL.out _ _ _ H0.out H1.out).mono ?_; rintro e w1 ⟨rfl, rfl⟩) | (go_at_call 72; refine (HP.out _ _ _ H0.out H1.out).mono ?_; rintro e W2 ⟨rfl, hb2⟩; replace H0 := Lib.hid (below_row hb2 H0.out); replace H1 := Lib.hid (below_row hb2 H1.out); replace hb := hb.trans (hb2.mono hb.size); clear hb2))
  go_ret2
  exact ⟨rfl, hb⟩

set_option maxRecDepth 100000 in
set_option maxHeartbeats 1000000 in
theorem FnExactLightBehind_core (o dr gp tl : Nat) (hs ts : List Int) (hh : hs.length = 24) (ht : ts.length = 24) (hour : Int) (fc : Int) (v0 : Nat) (v1 : Int) (hv0 : fin32 v0 = true) (e0 e1 e2 e3 : Addr)
    (hspec : ∀ w, Calls Tryd.prog 22 #[.agg (awC o dr gp tl), .agg (sunC hs ts), .int .i64 hour, .int .i64 fc] w fun e w' => e = .returned (.tuple #[.float .f32 v0, .int .i64 v1]) ∧ Below w.heap.size w w')
    (himpl : ∀ w, ErrsAt w e0 e1 e2 e3 → Calls Tryd.prog 23 #[.agg (awC o dr gp tl), .agg (sunC hs ts), .int .i64 hour, .int .i64 fc] w fun e w' => e = .returned (.tuple #[.float .f32 v0, .int .i64 v1]) ∧ Below w.heap.size w w') (w : World) (hE : ErrsAt w e0 e1 e2 e3) :
    Calls Tryd.prog 5 #[.agg (awC o dr gp tl), .agg (sunC hs ts), .int .i64 hour, .int .i64 fc] w fun e w' => e = .returned (.bool true) ∧ Below w.heap.size w w' := by
  have HS := Lib.hid hspec
  have HI := Lib.hid himpl
  clear hspec himpl
  have hw0 := run_wide _ hv0
  have Hv0 := Lib.hid hv0
  clear hv0
  have Hh := Lib.hid hh
  have Ht := Lib.hid ht
  clear hh ht
  have HX := Lib.hid hE
  clear hE
  go_enter Tryd.func5, Tryd.ntmps5
  go_upto_region 1 with (fail)
  refine abs_world (fun W => W.heap[w.heap.size]? = some (.cells (awC o dr gp tl) 24 (0, 0)) ∧ W.heap[w.heap.size + 1]? = some (.cells (sunC hs ts) 35 (0, 0)) ∧ Below w.heap.size w W) (box2 w (.cells (awC o dr gp tl) 24) (.cells (sunC hs ts) 35)) ?_
  rintro W ⟨h0, h1, hb⟩
  generalize w.heap.size + 1 = b1 at *
  have H0 := Lib.hid h0
  have H1 := Lib.hid h1
  clear h0 h1
  replace HX := Lib.hid (errs_below HX.out hb)
  refine wp_region_held_drew (S := (fun V => Below W.heap.size W V)) (by kernel_rfl) ((Below.refl _ _).drew) (fun hHeld => ?_)
  refine take_op (i := 0) (d := 14) (v := .agg (awC o dr gp tl)) rfl rfl (by kernel_rfl) (by kernel_rfl) (by kernel_rfl) (fun _ _ _ h => h) (yields_row (by rfl) 24 (.tmp 4) (by rfl) w.heap.size 0 4 (by rfl) 24 (awC o dr gp tl) (0, 0) _ (fun _ h => below_row h H0.out) Tryd.underlying24 rfl info_awL (aw_fits _ _ _ _) (awC o dr gp tl) (aw_all _ _ _ _)) hHeld ?_
  simp only [List.setIfInBounds_toArray, List.set_cons_zero, List.set_cons_succ]
  refine take_op (i := 2) (d := 16) (v := .agg (sunC hs ts)) rfl rfl (by kernel_rfl) (by kernel_rfl) (by kernel_rfl) (fun _ _ _ h => h) (yields_row (by rfl) 35 (.tmp 5) (by rfl) b1 0 48 (by rfl) 35 (sunC hs ts) (0, 0) _ (fun _ h => below_row h H1.out) Tryd.underlying35 rfl info_sunL (sun_fits _ _ Hh.out Ht.out) (sunC hs ts) (sun_all _ _ Hh.out Ht.out)) hHeld ?_
  simp only [List.setIfInBounds_toArray, List.set_cons_zero, List.set_cons_succ]
  refine take_op (i := 4) (d := 18) (v := ?_) rfl rfl (by kernel_rfl) (by kernel_rfl) (by kernel_rfl) (fun _ _ _ h => h) (Or.inl ⟨by rfl, ?hy4u43⟩) hHeld ?rest4u43
  case hy4u43 =>
    intro w' hS'
    go_simp
    try with_reducible rfl
  simp only [List.setIfInBounds_toArray, List.set_cons_zero, List.set_cons_succ]
  refine take_op (i := 5) (d := 19) (v := ?_) rfl rfl (by kernel_rfl) (by kernel_rfl) (by kernel_rfl) (fun _ _ _ h => h) (Or.inl ⟨by rfl, ?hy5u44⟩) hHeld ?rest5u44
  case hy5u44 =>
    intro w' hS'
    go_simp
    try with_reducible rfl
  simp only [List.setIfInBounds_toArray, List.set_cons_zero, List.set_cons_succ]
  refine wpAnyH_ready (rs := [1]) (by kernel_rfl) (by simp) ?_
  refine AllReadyH.cons rfl (fun K hK => ?_) AllReadyH.nil
  go_simp
  refine (toAwning_any _ _ _ _ _).mono ?_
  rintro e W1 ⟨rfl, hb1⟩
  refine hK.out _ _ (hHeld.trans (hb1.mono hHeld.size)) (fun hHeld2 => ?_)
  clear hK K
  replace hHeld := hHeld2
  clear hHeld2
  clear hb1
  refine wpAnyH_ready (rs := [3]) (by kernel_rfl) (by simp) ?_
  refine AllReadyH.cons rfl (fun K hK => ?_) AllReadyH.nil
  go_simp
  refine (toSun_any hs ts Hh.out Ht.out _).mono ?_
  rintro e W2 ⟨rfl, hb2⟩
  refine hK.out _ _ (hHeld.trans (hb2.mono hHeld.size)) (fun hHeld2 => ?_)
  clear hK K
  replace hHeld := hHeld2
  clear hHeld2
  clear hb2
  refine wpAnyH_ready (rs := [6]) (by kernel_rfl) (by simp) ?_
  refine AllReadyH.cons rfl (fun K hK => ?_) AllReadyH.nil
  go_simp
  refine (HS.out _).mono ?_
  rintro e W3 ⟨rfl, hb3⟩
  refine hK.out _ _ (hHeld.trans (hb3.mono hHeld.size)) (fun hHeld2 => ?_)
  clear hK K
  replace hHeld := hHeld2
  clear hHeld2
  clear hb3
  refine take_op (i := 7) (d := 13) (v := ?_) rfl rfl (by kernel_rfl) (by kernel_rfl) (by kernel_rfl) (fun _ _ _ h => h) (Or.inl ⟨by rfl, ?hy7u45⟩) hHeld ?rest7u45
  case hy7u45 =>
    intro w' hS'
    go_simp
    try with_reducible rfl
  simp only [List.setIfInBounds_toArray, List.set_cons_zero, List.set_cons_succ]
  refine take_op (i := 8) (d := 21) (v := ?_) rfl rfl (by kernel_rfl) (by kernel_rfl) (by kernel_rfl) (fun _ _ _ h => h) (Or.inl ⟨by rfl, ?hy8u46⟩) hHeld ?rest8u46
  case hy8u46 =>
    intro w' hS'
    go_simp
    try with_reducible rfl
  simp only [List.setIfInBounds_toArray, List.set_cons_zero, List.set_cons_succ]
  refine take_op (i := 9) (d := 22) (v := ?_) rfl rfl (by kernel_rfl) (by kernel_rfl) (by kernel_rfl) (fun _ _ _ h => h) (Or.inl ⟨by rfl, ?hy9u47⟩) hHeld ?rest9u47
  case hy9u47 =>
    intro w' hS'
    go_simp
    try with_reducible rfl
  simp only [List.setIfInBounds_toArray, List.set_cons_zero, List.set_cons_succ]
  refine take_op (i := 10) (d := 9) (v := ?_) rfl rfl (by kernel_rfl) (by kernel_rfl) (by kernel_rfl) (fun _ _ _ h => h) (Or.inl ⟨by rfl, ?hy10u48⟩) hHeld ?rest10u48
  case hy10u48 =>
    intro w' hS'
    go_simp
    try with_reducible rfl
  simp only [List.setIfInBounds_toArray, List.set_cons_zero, List.set_cons_succ]
  refine take_op (i := 11) (d := 10) (v := ?_) rfl rfl (by kernel_rfl) (by kernel_rfl) (by kernel_rfl) (fun _ _ _ h => h) (Or.inl ⟨by rfl, ?hy11u49⟩) hHeld ?rest11u49
  case hy11u49 =>
    intro w' hS'
    go_simp
    try with_reducible rfl
  simp only [List.setIfInBounds_toArray, List.set_cons_zero, List.set_cons_succ]
  refine wpAnyH_done (by kernel_rfl) ?_ _
  replace H0 := Lib.hid (below_row hHeld H0.out)
  replace H1 := Lib.hid (below_row hHeld H1.out)
  replace HX := Lib.hid (errs_below HX.out hHeld)
  replace hb := hb.trans (hHeld.mono hb.size)
  clear hHeld
  go_upto_region 2 with (fail)
  refine wp_region_held_drew (S := (fun V => Below W3.heap.size W3 V)) (by kernel_rfl) ((Below.refl _ _).drew) (fun hHeld => ?_)
  refine take_op (i := 0) (d := 24) (v := .agg (awC o dr gp tl)) rfl rfl (by kernel_rfl) (by kernel_rfl) (by kernel_rfl) (fun _ _ _ h => h) (yields_row (by rfl) 24 (.tmp 4) (by rfl) w.heap.size 0 4 (by rfl) 24 (awC o dr gp tl) (0, 0) _ (fun _ h => below_row h H0.out) Tryd.underlying24 rfl info_awL (aw_fits _ _ _ _) (awC o dr gp tl) (aw_all _ _ _ _)) hHeld ?_
  simp only [List.setIfInBounds_toArray, List.set_cons_zero, List.set_cons_succ]
  refine take_op (i := 2) (d := 26) (v := .agg (sunC hs ts)) rfl rfl (by kernel_rfl) (by kernel_rfl) (by kernel_rfl) (fun _ _ _ h => h) (yields_row (by rfl) 35 (.tmp 5) (by rfl) b1 0 48 (by rfl) 35 (sunC hs ts) (0, 0) _ (fun _ h => below_row h H1.out) Tryd.underlying35 rfl info_sunL (sun_fits _ _ Hh.out Ht.out) (sunC hs ts) (sun_all _ _ Hh.out Ht.out)) hHeld ?_
  simp only [List.setIfInBounds_toArray, List.set_cons_zero, List.set_cons_succ]
  refine take_op (i := 4) (d := 28) (v := ?_) rfl rfl (by kernel_rfl) (by kernel_rfl) (by kernel_rfl) (fun _ _ _ h => h) (Or.inl ⟨by rfl, ?hy4u50⟩) hHeld ?rest4u50
  case hy4u50 =>
    intro w' hS'
    go_simp
    try with_reducible rfl
  simp only [List.setIfInBounds_toArray, List.set_cons_zero, List.set_cons_succ]
  refine take_op (i := 5) (d := 29) (v := ?_) rfl rfl (by kernel_rfl) (by kernel_rfl) (by kernel_rfl) (fun _ _ _ h => h) (Or.inl ⟨by rfl, ?hy5u51⟩) hHeld ?rest5u51
  case hy5u51 =>
    intro w' hS'
    go_simp
    try with_reducible rfl
  simp only [List.setIfInBounds_toArray, List.set_cons_zero, List.set_cons_succ]
  refine wpAnyH_ready (rs := [1]) (by kernel_rfl) (by simp) ?_
  refine AllReadyH.cons rfl (fun K hK => ?_) AllReadyH.nil
  go_simp
  refine (toAwning_any _ _ _ _ _).mono ?_
  rintro e W4 ⟨rfl, hb4⟩
  refine hK.out _ _ (hHeld.trans (hb4.mono hHeld.size)) (fun hHeld2 => ?_)
  clear hK K
  replace hHeld := hHeld2
  clear hHeld2
  clear hb4
  refine wpAnyH_ready (rs := [3]) (by kernel_rfl) (by simp) ?_
  refine AllReadyH.cons rfl (fun K hK => ?_) AllReadyH.nil
  go_simp
  refine (toSun_any hs ts Hh.out Ht.out _).mono ?_
  rintro e W5 ⟨rfl, hb5⟩
  refine hK.out _ _ (hHeld.trans (hb5.mono hHeld.size)) (fun hHeld2 => ?_)
  clear hK K
  replace hHeld := hHeld2
  clear hHeld2
  clear hb5
  refine wpAnyH_ready (rs := [6]) (by kernel_rfl) (by simp) ?_
  refine AllReadyH.cons rfl (fun K hK => ?_) AllReadyH.nil
  go_simp
  refine (HI.out _ (errs_below HX.out hHeld)).mono ?_
  rintro e W6 ⟨rfl, hb6⟩
  refine hK.out _ _ (hHeld.trans (hb6.mono hHeld.size)) (fun hHeld2 => ?_)
  clear hK K
  replace hHeld := hHeld2
  clear hHeld2
  clear hb6
  refine take_op (i := 7) (d := 23) (v := ?_) rfl rfl (by kernel_rfl) (by kernel_rfl) (by kernel_rfl) (fun _ _ _ h => h) (Or.inl ⟨by rfl, ?hy7u52⟩) hHeld ?rest7u52
  case hy7u52 =>
    intro w' hS'
    go_simp
    try with_reducible rfl
  simp only [List.setIfInBounds_toArray, List.set_cons_zero, List.set_cons_succ]
  refine take_op (i := 8) (d := 31) (v := ?_) rfl rfl (by kernel_rfl) (by kernel_rfl) (by kernel_rfl) (fun _ _ _ h => h) (Or.inl ⟨by rfl, ?hy8u53⟩) hHeld ?rest8u53
  case hy8u53 =>
    intro w' hS'
    go_simp
    try with_reducible rfl
  simp only [List.setIfInBounds_toArray, List.set_cons_zero, List.set_cons_succ]
  refine take_op (i := 9) (d := 32) (v := ?_) rfl rfl (by kernel_rfl) (by kernel_rfl) (by kernel_rfl) (fun _ _ _ h => h) (Or.inl ⟨by rfl, ?hy9u54⟩) hHeld ?rest9u54
  case hy9u54 =>
    intro w' hS'
    go_simp
    try with_reducible rfl
  simp only [List.setIfInBounds_toArray, List.set_cons_zero, List.set_cons_succ]
  refine take_op (i := 10) (d := 11) (v := ?_) rfl rfl (by kernel_rfl) (by kernel_rfl) (by kernel_rfl) (fun _ _ _ h => h) (Or.inl ⟨by rfl, ?hy10u55⟩) hHeld ?rest10u55
  case hy10u55 =>
    intro w' hS'
    go_simp
    try with_reducible rfl
  simp only [List.setIfInBounds_toArray, List.set_cons_zero, List.set_cons_succ]
  refine take_op (i := 11) (d := 12) (v := ?_) rfl rfl (by kernel_rfl) (by kernel_rfl) (by kernel_rfl) (fun _ _ _ h => h) (Or.inl ⟨by rfl, ?hy11u56⟩) hHeld ?rest11u56
  case hy11u56 =>
    intro w' hS'
    go_simp
    try with_reducible rfl
  simp only [List.setIfInBounds_toArray, List.set_cons_zero, List.set_cons_succ]
  refine wpAnyH_done (by kernel_rfl) ?_ _
  replace H0 := Lib.hid (below_row hHeld H0.out)
  replace H1 := Lib.hid (below_row hHeld H1.out)
  replace HX := Lib.hid (errs_below HX.out hHeld)
  replace hb := hb.trans (hHeld.mono hb.size)
  clear hHeld
  clear H0 H1 HX HS HI
  go_wp2_with (go_at_call 18; refine (same_wide _ Hv0.out _).mono ?_; rintro e w7 ⟨rfl, rfl⟩)
  go_ret
  exact ⟨rfl, hb⟩

theorem lawLightBehind_walk (o dr gp tl : Nat) (ww : AwWf o dr gp tl) (hs ts : List Int) (hh : hs.length = 24) (ht : ts.length = 24) (rb : ∀ x ∈ hs ++ ts, -32768 ≤ x ∧ x ≤ 32767) (hour : Int) (fc : Int) (w : World) {e0 e1 e2 e3 : Addr} (hE : ErrsAt w e0 e1 e2 e3) :
    Calls Tryd.prog 5 #[.agg (awC o dr gp tl), .agg (sunC hs ts), .int .i64 hour, .int .i64 fc] w fun e w' => e = .returned (.bool true) ∧ Below w.heap.size w w' := by
  cases a0 : inH hour with
  | false =>
    have hne : refN (okAw o dr gp tl && okB hs ts) false true ≠ 0 := by rw [Ne, refN_ok]; simp
    exact FnExactLightBehind_core o dr gp tl hs ts hh ht hour fc _ _ zero_fin e0 e1 e2 e3 (fun w => slib_no o dr gp tl hs ts hh ht rb hour fc _ (by rw [a0]; rfl) (codeE_ne hne) w) (fun w h => lib_no0 o dr gp tl hs ts hh ht hour fc a0 e0 e1 e2 e3 _ rfl (codeE_ne hne) w h) w hE
  | true =>
    by_cases hz : refN (okAw o dr gp tl && okB hs ts) (inF fc) true = 0
    · obtain ⟨hv, a1, _⟩ := refN_ok.1 hz
      rw [Bool.and_eq_true] at hv
      obtain ⟨h1, h2⟩ := hv
      have aw := awok_of ww h1
      have k := hrok_of hh ht h2 (inH_bd a0).1 (inH_bd a0).2 a1
      exact FnExactLightBehind_core o dr gp tl hs ts hh ht hour fc _ _ (fin_of_lt (Nat.lt_of_le_of_lt (beh_le aw k) (by decide))) e0 e1 e2 e3 (fun w => slib_yes aw hs ts hh ht rb hour fc k (by rw [a0, Bool.true_and, Bool.and_true]; exact hz) w) (fun w h => lib_yes aw hs ts hh ht hour fc k h1 h2 a0 a1 e0 e1 e2 e3 w h) w hE
    · exact FnExactLightBehind_core o dr gp tl hs ts hh ht hour fc _ _ zero_fin e0 e1 e2 e3 (fun w => slib_no o dr gp tl hs ts hh ht rb hour fc _ (by rw [a0, Bool.true_and, Bool.and_true]) (codeE_ne hz) w) (fun w h => lib_no1 o dr gp tl hs ts hh ht hour fc _ a0 rfl e0 e1 e2 e3 _ rfl (codeE_ne hz) w h) w hE

end Go.Proofs.YtnienahjfocalaaDoor
