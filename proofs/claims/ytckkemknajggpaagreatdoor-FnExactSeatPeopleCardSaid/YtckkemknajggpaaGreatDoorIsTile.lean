/-
  Whether there is such a tile in a room.
-/
import Derived.Test.YtckkemknajggpaaGreatDoorPlace2
import Derived.IntWalk
namespace Go.Proofs.YtckkemknajggpaaGreatDoor
open Go.RowKit

attribute [local go_sem] run_store_f

/-- There is such a tile. -/
def isT (wd hg x y : Int) : Bool := inI 0 (wd - 1) x && inI 0 (hg - 1) y
theorem isT_get {wd hg x y : Int} (h : isT wd hg x y = true) : 0 ≤ x ∧ x < wd ∧ 0 ≤ y ∧ y < hg := by
  simp only [isT, Bool.and_eq_true] at h
  have a := inI_get h.1
  have b := inI_get h.2
  omega
theorem isT_bad {wd hg x y : Int} (h : ¬ (0 ≤ x ∧ x < wd ∧ 0 ≤ y ∧ y < hg)) : isT wd hg x y = false := by
  rw [Bool.eq_false_iff]
  intro k
  exact h (isT_get k)

set_option maxRecDepth 100000 in
set_option maxHeartbeats 1000000 in
theorem isTile_0 (wd hg x y : Int) (sv : Value) (hx : x < 0) (w : World) :
    Calls Tryz.prog 81 #[.agg (roomC wd hg sv), .agg (tileC x y)] w fun e w' => e = .returned (.bool false) ∧ Below w.heap.size w w' := by
  have d0 : decide (0 ≤ x) = false := by simp; omega
  unfold roomC tileC
  go_enter Tryz.func81, Tryz.ntmps81
  go_wp2
  go_ret
  exact ⟨rfl, by repeat' first | exact Below.refl _ _ | assumption | refine Below.alloc ?_ (by first | omega | (simp; done) | (simp; omega)) _ | refine Below.setCell ?_ (by first | omega | (simp; done) | (simp; omega)) _ | refine Below.drew ?_⟩

set_option maxRecDepth 100000 in
set_option maxHeartbeats 1000000 in
theorem isTile_1 (wd hg x y : Int) (sv : Value) (c0 : 0 ≤ x) (hx : wd ≤ x) (w : World) :
    Calls Tryz.prog 81 #[.agg (roomC wd hg sv), .agg (tileC x y)] w fun e w' => e = .returned (.bool false) ∧ Below w.heap.size w w' := by
  have d0 : decide (0 ≤ x) = true := by simp; omega
  have d1 : decide (x < wd) = false := by simp; omega
  unfold roomC tileC
  go_enter Tryz.func81, Tryz.ntmps81
  go_wp2
  go_ret
  exact ⟨rfl, by repeat' first | exact Below.refl _ _ | assumption | refine Below.alloc ?_ (by first | omega | (simp; done) | (simp; omega)) _ | refine Below.setCell ?_ (by first | omega | (simp; done) | (simp; omega)) _ | refine Below.drew ?_⟩

set_option maxRecDepth 100000 in
set_option maxHeartbeats 1000000 in
theorem isTile_2 (wd hg x y : Int) (sv : Value) (c0 : 0 ≤ x) (c1 : x < wd) (hx : y < 0) (w : World) :
    Calls Tryz.prog 81 #[.agg (roomC wd hg sv), .agg (tileC x y)] w fun e w' => e = .returned (.bool false) ∧ Below w.heap.size w w' := by
  have d0 : decide (0 ≤ x) = true := by simp; omega
  have d1 : decide (x < wd) = true := by simp; omega
  have d2 : decide (0 ≤ y) = false := by simp; omega
  unfold roomC tileC
  go_enter Tryz.func81, Tryz.ntmps81
  go_wp2
  go_ret
  exact ⟨rfl, by repeat' first | exact Below.refl _ _ | assumption | refine Below.alloc ?_ (by first | omega | (simp; done) | (simp; omega)) _ | refine Below.setCell ?_ (by first | omega | (simp; done) | (simp; omega)) _ | refine Below.drew ?_⟩

set_option maxRecDepth 100000 in
set_option maxHeartbeats 1000000 in
theorem isTile_3 (wd hg x y : Int) (sv : Value) (c0 : 0 ≤ x) (c1 : x < wd) (c2 : 0 ≤ y) (hx : hg ≤ y) (w : World) :
    Calls Tryz.prog 81 #[.agg (roomC wd hg sv), .agg (tileC x y)] w fun e w' => e = .returned (.bool false) ∧ Below w.heap.size w w' := by
  have d0 : decide (0 ≤ x) = true := by simp; omega
  have d1 : decide (x < wd) = true := by simp; omega
  have d2 : decide (0 ≤ y) = true := by simp; omega
  have d3 : decide (y < hg) = false := by simp; omega
  unfold roomC tileC
  go_enter Tryz.func81, Tryz.ntmps81
  go_wp2
  go_ret
  exact ⟨rfl, by repeat' first | exact Below.refl _ _ | assumption | refine Below.alloc ?_ (by first | omega | (simp; done) | (simp; omega)) _ | refine Below.setCell ?_ (by first | omega | (simp; done) | (simp; omega)) _ | refine Below.drew ?_⟩

set_option maxRecDepth 100000 in
set_option maxHeartbeats 1000000 in
theorem isTile_4 (wd hg x y : Int) (sv : Value) (c0 : 0 ≤ x) (c1 : x < wd) (c2 : 0 ≤ y) (c3 : y < hg) (w : World) :
    Calls Tryz.prog 81 #[.agg (roomC wd hg sv), .agg (tileC x y)] w fun e w' => e = .returned (.bool true) ∧ Below w.heap.size w w' := by
  have d0 : decide (0 ≤ x) = true := by simp; omega
  have d1 : decide (x < wd) = true := by simp; omega
  have d2 : decide (0 ≤ y) = true := by simp; omega
  have d3 : decide (y < hg) = true := by simp; omega
  unfold roomC tileC
  go_enter Tryz.func81, Tryz.ntmps81
  go_wp2
  go_ret
  exact ⟨rfl, by repeat' first | exact Below.refl _ _ | assumption | refine Below.alloc ?_ (by first | omega | (simp; done) | (simp; omega)) _ | refine Below.setCell ?_ (by first | omega | (simp; done) | (simp; omega)) _ | refine Below.drew ?_⟩

theorem isTile_any (wd hg x y : Int) (sv : Value) (w : World) :
    Calls Tryz.prog 81 #[.agg (roomC wd hg sv), .agg (tileC x y)] w fun e w' => e = .returned (.bool (isT wd hg x y)) ∧ Below w.heap.size w w' := by
  by_cases c0 : 0 ≤ x
  · by_cases c1 : x < wd
    · by_cases c2 : 0 ≤ y
      · by_cases c3 : y < hg
        · have e : isT wd hg x y = true := by simp [isT, inI]; omega
          rw [e]; exact isTile_4 wd hg x y sv c0 c1 c2 c3 w
        · rw [isT_bad (by omega)]; exact isTile_3 wd hg x y sv c0 c1 c2 (by omega) w
      · rw [isT_bad (by omega)]; exact isTile_2 wd hg x y sv c0 c1 (by omega) w
    · rw [isT_bad (by omega)]; exact isTile_1 wd hg x y sv c0 (by omega) w
  · rw [isT_bad (by omega)]; exact isTile_0 wd hg x y sv (by omega) w

theorem l00In_is (a lo hi : Int) (r : Bool) (h : inI lo hi a = r) (w : World) : Calls Tryz.prog 85 #[.int .i64 a, .int .i64 lo, .int .i64 hi] w fun e w' => e = .returned (.bool r) ∧ w = w' := by subst h; exact l00In_ban a lo hi w

set_option maxRecDepth 100000 in
set_option maxHeartbeats 1000000 in
theorem l03Is_A (wd hg x y : Int) (iw : I8 wd) (ih : I8 hg) (ix : I8 x) (iy : I8 y) (he : inI 0 (wd - 1) x = false) (sv : Value) (gb : Nat) (T : TypeId) (fr : Nat × Nat) (w : World) (hb0 : w.heap[gb]? = some (.cells (roomC wd hg sv) T fr)) :
    Calls Tryz.prog 71 #[.pointer (some ⟨gb, 0, none⟩), .agg (tileC x y)] w fun e w' => e = .returned (.bool (false)) ∧ Below w.heap.size w w' := by
  obtain ⟨iw0, iw1⟩ := iw
  obtain ⟨ih0, ih1⟩ := ih
  obtain ⟨ix0, ix1⟩ := ix
  obtain ⟨iy0, iy1⟩ := iy
  have HE := Lib.hid he
  have H0 := Lib.hid hb0
  clear he hb0
  have u1 : IntKind.i64.wrap x = x := IntWalk.i64_in _ (by omega)
  have u2 : IntKind.i64.wrap y = y := IntWalk.i64_in _ (by omega)
  have u3 : IntKind.i64.wrap wd = wd := IntWalk.i64_in _ (by omega)
  have u4 : IntKind.i64.wrap hg = hg := IntWalk.i64_in _ (by omega)
  have u5 : IntKind.i64.wrap (wd - 1) = wd - 1 := IntWalk.i64_in _ (by omega)
  have u6 : IntKind.i64.wrap (hg - 1) = hg - 1 := IntWalk.i64_in _ (by omega)
  go_enter Tryz.func71, Tryz.ntmps71
  go_upto_region 1 with (fail)
  refine abs_world (fun W => Below w.heap.size w W ∧ W.heap[w.heap.size]? = some (.cells (tileC x y) 63 (0, 0))) ⟨(Below.refl _ _).alloc (Nat.le_refl _) _, heap_alloc_new _ _⟩ ?_
  rintro W ⟨hb, h1⟩
  replace H0 := Lib.hid (below_row hb H0.out)
  have HT := Lib.hid h1
  clear h1
  refine wp_region_held_drew (S := (fun W => W.heap[gb]? = some (.cells (roomC wd hg sv) T fr) ∧ W.heap[w.heap.size]? = some (.cells (tileC x y) 63 (0, 0)) ∧ Below w.heap.size w W)) (by kernel_rfl) ⟨H0.out, HT.out, hb.drew⟩ (fun hHeld => ?_)
  refine take_op (i := 0) (d := 5) (v := ?_) rfl rfl (by kernel_rfl) (by kernel_rfl) (by kernel_rfl) (fun _ _ _ h => h) (Or.inl ⟨by rfl, ?hy0u1⟩) hHeld ?rest0u1
  case hy0u1 =>
    intro w' hS'
    go_simp
    try with_reducible rfl
  simp only [List.setIfInBounds_toArray, List.set_cons_zero, List.set_cons_succ]
  refine take_op (i := 1) (d := 6) (v := ?_) rfl rfl (by kernel_rfl) (by kernel_rfl) (by kernel_rfl) (fun _ _ _ h => h) (Or.inl ⟨by rfl, ?hy1u2⟩) hHeld ?rest1u2
  case hy1u2 =>
    intro w' hS'
    obtain ⟨s1, s2, _⟩ := hS'
    obtain ⟨r0, r1, r2⟩ := room_cells s1
    obtain ⟨k0, k1⟩ := tile_cells s2
    clear s1 s2
    go_simp
    try with_reducible rfl
  simp only [List.setIfInBounds_toArray, List.set_cons_zero, List.set_cons_succ]
  refine take_op (i := 2) (d := 7) (v := ?_) rfl rfl (by kernel_rfl) (by kernel_rfl) (by kernel_rfl) (fun _ _ _ h => h) (Or.inl ⟨by rfl, ?hy2u3⟩) hHeld ?rest2u3
  case hy2u3 =>
    intro w' hS'
    go_simp
    try with_reducible rfl
  simp only [List.setIfInBounds_toArray, List.set_cons_zero, List.set_cons_succ]
  refine take_op (i := 3) (d := 8) (v := ?_) rfl rfl (by kernel_rfl) (by kernel_rfl) (by kernel_rfl) (fun _ _ _ h => h) (Or.inl ⟨by rfl, ?hy3u4⟩) hHeld ?rest3u4
  case hy3u4 =>
    intro w' hS'
    go_simp
    try with_reducible rfl
  simp only [List.setIfInBounds_toArray, List.set_cons_zero, List.set_cons_succ]
  refine take_op (i := 4) (d := 9) (v := ?_) rfl rfl (by kernel_rfl) (by kernel_rfl) (by kernel_rfl) (fun _ _ _ h => h) (Or.inl ⟨by rfl, ?hy4u5⟩) hHeld ?rest4u5
  case hy4u5 =>
    intro w' hS'
    go_simp
    try with_reducible rfl
  simp only [List.setIfInBounds_toArray, List.set_cons_zero, List.set_cons_succ]
  refine take_op (i := 5) (d := 10) (v := ?_) rfl rfl (by kernel_rfl) (by kernel_rfl) (by kernel_rfl) (fun _ _ _ h => h) (Or.inl ⟨by rfl, ?hy5u6⟩) hHeld ?rest5u6
  case hy5u6 =>
    intro w' hS'
    go_simp
    try with_reducible rfl
  simp only [List.setIfInBounds_toArray, List.set_cons_zero, List.set_cons_succ]
  refine take_op (i := 6) (d := 11) (v := ?_) rfl rfl (by kernel_rfl) (by kernel_rfl) (by kernel_rfl) (fun _ _ _ h => h) (Or.inl ⟨by rfl, ?hy6u7⟩) hHeld ?rest6u7
  case hy6u7 =>
    intro w' hS'
    obtain ⟨s1, s2, _⟩ := hS'
    obtain ⟨r0, r1, r2⟩ := room_cells s1
    obtain ⟨k0, k1⟩ := tile_cells s2
    clear s1 s2
    go_simp
    try with_reducible rfl
  simp only [List.setIfInBounds_toArray, List.set_cons_zero, List.set_cons_succ]
  refine take_op (i := 7) (d := 12) (v := ?_) rfl rfl (by kernel_rfl) (by kernel_rfl) (by kernel_rfl) (fun _ _ _ h => h) (Or.inl ⟨by rfl, ?hy7u8⟩) hHeld ?rest7u8
  case hy7u8 =>
    intro w' hS'
    go_simp
    try with_reducible rfl
  simp only [List.setIfInBounds_toArray, List.set_cons_zero, List.set_cons_succ]
  refine take_op (i := 8) (d := 13) (v := ?_) rfl rfl (by kernel_rfl) (by kernel_rfl) (by kernel_rfl) (fun _ _ _ h => h) (Or.inl ⟨by rfl, ?hy8u9⟩) hHeld ?rest8u9
  case hy8u9 =>
    intro w' hS'
    go_simp
    try with_reducible rfl
  simp only [List.setIfInBounds_toArray, List.set_cons_zero, List.set_cons_succ]
  refine wpAnyH_ready (rs := [9]) (by kernel_rfl) (by simp) ?_
  refine AllReadyH.cons rfl (fun K hK => ?_) AllReadyH.nil
  go_simp
  refine (l00In_is x 0 (wd - 1) _ HE.out _).mono ?_
  rintro e w' ⟨rfl, rfl⟩
  refine hK.out _ _ (hHeld) (fun hHeld2 => ?_)
  clear hK K
  replace hHeld := hHeld2
  clear hHeld2
  refine take_op (i := 10) (d := 15) (v := ?_) rfl rfl (by kernel_rfl) (by kernel_rfl) (by kernel_rfl) (fun _ _ _ h => h) (Or.inl ⟨by rfl, ?hy10u10⟩) hHeld ?rest10u10
  case hy10u10 =>
    intro w' hS'
    go_simp
    try with_reducible rfl
  simp only [List.setIfInBounds_toArray, List.set_cons_zero, List.set_cons_succ]
  refine take_op (i := 11) (d := 16) rfl rfl (by kernel_rfl) (by kernel_rfl) (by kernel_rfl) (fun _ _ _ h => h) (Or.inr ⟨by rfl, rfl⟩) hHeld ?_
  simp only [List.setIfInBounds_toArray, List.set_cons_zero, List.set_cons_succ]
  refine take_op (i := 12) (d := 17) rfl rfl (by kernel_rfl) (by kernel_rfl) (by kernel_rfl) (fun _ _ _ h => h) (Or.inr ⟨by rfl, rfl⟩) hHeld ?_
  simp only [List.setIfInBounds_toArray, List.set_cons_zero, List.set_cons_succ]
  refine take_op (i := 13) (d := 18) rfl rfl (by kernel_rfl) (by kernel_rfl) (by kernel_rfl) (fun _ _ _ h => h) (Or.inr ⟨by rfl, rfl⟩) hHeld ?_
  simp only [List.setIfInBounds_toArray, List.set_cons_zero, List.set_cons_succ]
  refine take_op (i := 14) (d := 19) rfl rfl (by kernel_rfl) (by kernel_rfl) (by kernel_rfl) (fun _ _ _ h => h) (Or.inr ⟨by rfl, rfl⟩) hHeld ?_
  simp only [List.setIfInBounds_toArray, List.set_cons_zero, List.set_cons_succ]
  refine take_op (i := 15) (d := 20) rfl rfl (by kernel_rfl) (by kernel_rfl) (by kernel_rfl) (fun _ _ _ h => h) (Or.inr ⟨by rfl, rfl⟩) hHeld ?_
  simp only [List.setIfInBounds_toArray, List.set_cons_zero, List.set_cons_succ]
  refine take_op (i := 16) (d := 21) rfl rfl (by kernel_rfl) (by kernel_rfl) (by kernel_rfl) (fun _ _ _ h => h) (Or.inr ⟨by rfl, rfl⟩) hHeld ?_
  simp only [List.setIfInBounds_toArray, List.set_cons_zero, List.set_cons_succ]
  refine take_op (i := 17) (d := 22) rfl rfl (by kernel_rfl) (by kernel_rfl) (by kernel_rfl) (fun _ _ _ h => h) (Or.inr ⟨by rfl, rfl⟩) hHeld ?_
  simp only [List.setIfInBounds_toArray, List.set_cons_zero, List.set_cons_succ]
  refine take_op (i := 18) (d := 23) rfl rfl (by kernel_rfl) (by kernel_rfl) (by kernel_rfl) (fun _ _ _ h => h) (Or.inr ⟨by rfl, rfl⟩) hHeld ?_
  simp only [List.setIfInBounds_toArray, List.set_cons_zero, List.set_cons_succ]
  refine take_op (i := 19) (d := 24) rfl rfl (by kernel_rfl) (by kernel_rfl) (by kernel_rfl) (fun _ _ _ h => h) (Or.inr ⟨by rfl, rfl⟩) hHeld ?_
  simp only [List.setIfInBounds_toArray, List.set_cons_zero, List.set_cons_succ]
  refine take_op (i := 20) (d := 25) rfl rfl (by kernel_rfl) (by kernel_rfl) (by kernel_rfl) (fun _ _ _ h => h) (Or.inr ⟨by rfl, rfl⟩) hHeld ?_
  simp only [List.setIfInBounds_toArray, List.set_cons_zero, List.set_cons_succ]
  refine take_op (i := 21) (d := 26) (v := ?_) rfl rfl (by kernel_rfl) (by kernel_rfl) (by kernel_rfl) (fun _ _ _ h => h) (Or.inl ⟨by rfl, ?hy21u11⟩) hHeld ?rest21u11
  case hy21u11 =>
    intro w' hS'
    go_simp
    try with_reducible rfl
  simp only [List.setIfInBounds_toArray, List.set_cons_zero, List.set_cons_succ]
  refine take_op (i := 22) (d := 4) (v := ?_) rfl rfl (by kernel_rfl) (by kernel_rfl) (by kernel_rfl) (fun _ _ _ h => h) (Or.inl ⟨by rfl, ?hy22u12⟩) hHeld ?rest22u12
  case hy22u12 =>
    intro w' hS'
    go_simp
    try with_reducible rfl
  simp only [List.setIfInBounds_toArray, List.set_cons_zero, List.set_cons_succ]
  refine wpAnyH_done (by kernel_rfl) ?_ _
  have hbz := hHeld.2.2
  clear hHeld
  go_wp2
  go_ret
  exact ⟨rfl, hbz⟩

set_option maxRecDepth 100000 in
set_option maxHeartbeats 1000000 in
theorem l03Is_B (wd hg x y : Int) (iw : I8 wd) (ih : I8 hg) (ix : I8 x) (iy : I8 y) (he : inI 0 (wd - 1) x = true) (sv : Value) (gb : Nat) (T : TypeId) (fr : Nat × Nat) (w : World) (hb0 : w.heap[gb]? = some (.cells (roomC wd hg sv) T fr)) :
    Calls Tryz.prog 71 #[.pointer (some ⟨gb, 0, none⟩), .agg (tileC x y)] w fun e w' => e = .returned (.bool (inI 0 (hg - 1) y)) ∧ Below w.heap.size w w' := by
  obtain ⟨iw0, iw1⟩ := iw
  obtain ⟨ih0, ih1⟩ := ih
  obtain ⟨ix0, ix1⟩ := ix
  obtain ⟨iy0, iy1⟩ := iy
  have HE := Lib.hid he
  have H0 := Lib.hid hb0
  clear he hb0
  have u1 : IntKind.i64.wrap x = x := IntWalk.i64_in _ (by omega)
  have u2 : IntKind.i64.wrap y = y := IntWalk.i64_in _ (by omega)
  have u3 : IntKind.i64.wrap wd = wd := IntWalk.i64_in _ (by omega)
  have u4 : IntKind.i64.wrap hg = hg := IntWalk.i64_in _ (by omega)
  have u5 : IntKind.i64.wrap (wd - 1) = wd - 1 := IntWalk.i64_in _ (by omega)
  have u6 : IntKind.i64.wrap (hg - 1) = hg - 1 := IntWalk.i64_in _ (by omega)
  go_enter Tryz.func71, Tryz.ntmps71
  go_upto_region 1 with (fail)
  refine abs_world (fun W => Below w.heap.size w W ∧ W.heap[w.heap.size]? = some (.cells (tileC x y) 63 (0, 0))) ⟨(Below.refl _ _).alloc (Nat.le_refl _) _, heap_alloc_new _ _⟩ ?_
  rintro W ⟨hb, h1⟩
  replace H0 := Lib.hid (below_row hb H0.out)
  have HT := Lib.hid h1
  clear h1
  refine wp_region_held_drew (S := (fun W => W.heap[gb]? = some (.cells (roomC wd hg sv) T fr) ∧ W.heap[w.heap.size]? = some (.cells (tileC x y) 63 (0, 0)) ∧ Below w.heap.size w W)) (by kernel_rfl) ⟨H0.out, HT.out, hb.drew⟩ (fun hHeld => ?_)
  refine take_op (i := 0) (d := 5) (v := ?_) rfl rfl (by kernel_rfl) (by kernel_rfl) (by kernel_rfl) (fun _ _ _ h => h) (Or.inl ⟨by rfl, ?hy0u13⟩) hHeld ?rest0u13
  case hy0u13 =>
    intro w' hS'
    go_simp
    try with_reducible rfl
  simp only [List.setIfInBounds_toArray, List.set_cons_zero, List.set_cons_succ]
  refine take_op (i := 1) (d := 6) (v := ?_) rfl rfl (by kernel_rfl) (by kernel_rfl) (by kernel_rfl) (fun _ _ _ h => h) (Or.inl ⟨by rfl, ?hy1u14⟩) hHeld ?rest1u14
  case hy1u14 =>
    intro w' hS'
    obtain ⟨s1, s2, _⟩ := hS'
    obtain ⟨r0, r1, r2⟩ := room_cells s1
    obtain ⟨k0, k1⟩ := tile_cells s2
    clear s1 s2
    go_simp
    try with_reducible rfl
  simp only [List.setIfInBounds_toArray, List.set_cons_zero, List.set_cons_succ]
  refine take_op (i := 2) (d := 7) (v := ?_) rfl rfl (by kernel_rfl) (by kernel_rfl) (by kernel_rfl) (fun _ _ _ h => h) (Or.inl ⟨by rfl, ?hy2u15⟩) hHeld ?rest2u15
  case hy2u15 =>
    intro w' hS'
    go_simp
    try with_reducible rfl
  simp only [List.setIfInBounds_toArray, List.set_cons_zero, List.set_cons_succ]
  refine take_op (i := 3) (d := 8) (v := ?_) rfl rfl (by kernel_rfl) (by kernel_rfl) (by kernel_rfl) (fun _ _ _ h => h) (Or.inl ⟨by rfl, ?hy3u16⟩) hHeld ?rest3u16
  case hy3u16 =>
    intro w' hS'
    go_simp
    try with_reducible rfl
  simp only [List.setIfInBounds_toArray, List.set_cons_zero, List.set_cons_succ]
  refine take_op (i := 4) (d := 9) (v := ?_) rfl rfl (by kernel_rfl) (by kernel_rfl) (by kernel_rfl) (fun _ _ _ h => h) (Or.inl ⟨by rfl, ?hy4u17⟩) hHeld ?rest4u17
  case hy4u17 =>
    intro w' hS'
    go_simp
    try with_reducible rfl
  simp only [List.setIfInBounds_toArray, List.set_cons_zero, List.set_cons_succ]
  refine take_op (i := 5) (d := 10) (v := ?_) rfl rfl (by kernel_rfl) (by kernel_rfl) (by kernel_rfl) (fun _ _ _ h => h) (Or.inl ⟨by rfl, ?hy5u18⟩) hHeld ?rest5u18
  case hy5u18 =>
    intro w' hS'
    go_simp
    try with_reducible rfl
  simp only [List.setIfInBounds_toArray, List.set_cons_zero, List.set_cons_succ]
  refine take_op (i := 6) (d := 11) (v := ?_) rfl rfl (by kernel_rfl) (by kernel_rfl) (by kernel_rfl) (fun _ _ _ h => h) (Or.inl ⟨by rfl, ?hy6u19⟩) hHeld ?rest6u19
  case hy6u19 =>
    intro w' hS'
    obtain ⟨s1, s2, _⟩ := hS'
    obtain ⟨r0, r1, r2⟩ := room_cells s1
    obtain ⟨k0, k1⟩ := tile_cells s2
    clear s1 s2
    go_simp
    try with_reducible rfl
  simp only [List.setIfInBounds_toArray, List.set_cons_zero, List.set_cons_succ]
  refine take_op (i := 7) (d := 12) (v := ?_) rfl rfl (by kernel_rfl) (by kernel_rfl) (by kernel_rfl) (fun _ _ _ h => h) (Or.inl ⟨by rfl, ?hy7u20⟩) hHeld ?rest7u20
  case hy7u20 =>
    intro w' hS'
    go_simp
    try with_reducible rfl
  simp only [List.setIfInBounds_toArray, List.set_cons_zero, List.set_cons_succ]
  refine take_op (i := 8) (d := 13) (v := ?_) rfl rfl (by kernel_rfl) (by kernel_rfl) (by kernel_rfl) (fun _ _ _ h => h) (Or.inl ⟨by rfl, ?hy8u21⟩) hHeld ?rest8u21
  case hy8u21 =>
    intro w' hS'
    go_simp
    try with_reducible rfl
  simp only [List.setIfInBounds_toArray, List.set_cons_zero, List.set_cons_succ]
  refine wpAnyH_ready (rs := [9]) (by kernel_rfl) (by simp) ?_
  refine AllReadyH.cons rfl (fun K hK => ?_) AllReadyH.nil
  go_simp
  refine (l00In_is x 0 (wd - 1) _ HE.out _).mono ?_
  rintro e w' ⟨rfl, rfl⟩
  refine hK.out _ _ (hHeld) (fun hHeld2 => ?_)
  clear hK K
  replace hHeld := hHeld2
  clear hHeld2
  refine take_op (i := 10) (d := 15) (v := ?_) rfl rfl (by kernel_rfl) (by kernel_rfl) (by kernel_rfl) (fun _ _ _ h => h) (Or.inl ⟨by rfl, ?hy10u22⟩) hHeld ?rest10u22
  case hy10u22 =>
    intro w' hS'
    go_simp
    try with_reducible rfl
  simp only [List.setIfInBounds_toArray, List.set_cons_zero, List.set_cons_succ]
  refine take_op (i := 11) (d := 16) (v := ?_) rfl rfl (by kernel_rfl) (by kernel_rfl) (by kernel_rfl) (fun _ _ _ h => h) (Or.inl ⟨by rfl, ?hy11u23⟩) hHeld ?rest11u23
  case hy11u23 =>
    intro w' hS'
    go_simp
    try with_reducible rfl
  simp only [List.setIfInBounds_toArray, List.set_cons_zero, List.set_cons_succ]
  refine take_op (i := 12) (d := 17) (v := ?_) rfl rfl (by kernel_rfl) (by kernel_rfl) (by kernel_rfl) (fun _ _ _ h => h) (Or.inl ⟨by rfl, ?hy12u24⟩) hHeld ?rest12u24
  case hy12u24 =>
    intro w' hS'
    obtain ⟨s1, s2, _⟩ := hS'
    obtain ⟨r0, r1, r2⟩ := room_cells s1
    obtain ⟨k0, k1⟩ := tile_cells s2
    clear s1 s2
    go_simp
    try with_reducible rfl
  simp only [List.setIfInBounds_toArray, List.set_cons_zero, List.set_cons_succ]
  refine take_op (i := 13) (d := 18) (v := ?_) rfl rfl (by kernel_rfl) (by kernel_rfl) (by kernel_rfl) (fun _ _ _ h => h) (Or.inl ⟨by rfl, ?hy13u25⟩) hHeld ?rest13u25
  case hy13u25 =>
    intro w' hS'
    go_simp
    try with_reducible rfl
  simp only [List.setIfInBounds_toArray, List.set_cons_zero, List.set_cons_succ]
  refine take_op (i := 14) (d := 19) (v := ?_) rfl rfl (by kernel_rfl) (by kernel_rfl) (by kernel_rfl) (fun _ _ _ h => h) (Or.inl ⟨by rfl, ?hy14u26⟩) hHeld ?rest14u26
  case hy14u26 =>
    intro w' hS'
    go_simp
    try with_reducible rfl
  simp only [List.setIfInBounds_toArray, List.set_cons_zero, List.set_cons_succ]
  refine take_op (i := 15) (d := 20) (v := ?_) rfl rfl (by kernel_rfl) (by kernel_rfl) (by kernel_rfl) (fun _ _ _ h => h) (Or.inl ⟨by rfl, ?hy15u27⟩) hHeld ?rest15u27
  case hy15u27 =>
    intro w' hS'
    go_simp
    try with_reducible rfl
  simp only [List.setIfInBounds_toArray, List.set_cons_zero, List.set_cons_succ]
  refine take_op (i := 16) (d := 21) (v := ?_) rfl rfl (by kernel_rfl) (by kernel_rfl) (by kernel_rfl) (fun _ _ _ h => h) (Or.inl ⟨by rfl, ?hy16u28⟩) hHeld ?rest16u28
  case hy16u28 =>
    intro w' hS'
    go_simp
    try with_reducible rfl
  simp only [List.setIfInBounds_toArray, List.set_cons_zero, List.set_cons_succ]
  refine take_op (i := 17) (d := 22) (v := ?_) rfl rfl (by kernel_rfl) (by kernel_rfl) (by kernel_rfl) (fun _ _ _ h => h) (Or.inl ⟨by rfl, ?hy17u29⟩) hHeld ?rest17u29
  case hy17u29 =>
    intro w' hS'
    obtain ⟨s1, s2, _⟩ := hS'
    obtain ⟨r0, r1, r2⟩ := room_cells s1
    obtain ⟨k0, k1⟩ := tile_cells s2
    clear s1 s2
    go_simp
    try with_reducible rfl
  simp only [List.setIfInBounds_toArray, List.set_cons_zero, List.set_cons_succ]
  refine take_op (i := 18) (d := 23) (v := ?_) rfl rfl (by kernel_rfl) (by kernel_rfl) (by kernel_rfl) (fun _ _ _ h => h) (Or.inl ⟨by rfl, ?hy18u30⟩) hHeld ?rest18u30
  case hy18u30 =>
    intro w' hS'
    go_simp
    try with_reducible rfl
  simp only [List.setIfInBounds_toArray, List.set_cons_zero, List.set_cons_succ]
  refine take_op (i := 19) (d := 24) (v := ?_) rfl rfl (by kernel_rfl) (by kernel_rfl) (by kernel_rfl) (fun _ _ _ h => h) (Or.inl ⟨by rfl, ?hy19u31⟩) hHeld ?rest19u31
  case hy19u31 =>
    intro w' hS'
    go_simp
    try with_reducible rfl
  simp only [List.setIfInBounds_toArray, List.set_cons_zero, List.set_cons_succ]
  refine wpAnyH_ready (rs := [20]) (by kernel_rfl) (by simp) ?_
  refine AllReadyH.cons rfl (fun K hK => ?_) AllReadyH.nil
  go_simp
  refine (l00In_ban y 0 (hg - 1) _).mono ?_
  rintro e w' ⟨rfl, rfl⟩
  refine hK.out _ _ (hHeld) (fun hHeld2 => ?_)
  clear hK K
  replace hHeld := hHeld2
  clear hHeld2
  refine take_op (i := 21) (d := 26) (v := ?_) rfl rfl (by kernel_rfl) (by kernel_rfl) (by kernel_rfl) (fun _ _ _ h => h) (Or.inl ⟨by rfl, ?hy21u32⟩) hHeld ?rest21u32
  case hy21u32 =>
    intro w' hS'
    go_simp
    try with_reducible rfl
  simp only [List.setIfInBounds_toArray, List.set_cons_zero, List.set_cons_succ]
  refine take_op (i := 22) (d := 4) (v := ?_) rfl rfl (by kernel_rfl) (by kernel_rfl) (by kernel_rfl) (fun _ _ _ h => h) (Or.inl ⟨by rfl, ?hy22u33⟩) hHeld ?rest22u33
  case hy22u33 =>
    intro w' hS'
    go_simp
    try with_reducible rfl
  simp only [List.setIfInBounds_toArray, List.set_cons_zero, List.set_cons_succ]
  refine wpAnyH_done (by kernel_rfl) ?_ _
  have hbz := hHeld.2.2
  clear hHeld
  go_wp2
  go_ret
  exact ⟨rfl, hbz⟩

theorem l03Is_any (wd hg x y : Int) (iw : I8 wd) (ih : I8 hg) (ix : I8 x) (iy : I8 y) (sv : Value) (gb : Nat) (T : TypeId) (fr : Nat × Nat) (w : World) (hb0 : w.heap[gb]? = some (.cells (roomC wd hg sv) T fr)) :
    Calls Tryz.prog 71 #[.pointer (some ⟨gb, 0, none⟩), .agg (tileC x y)] w fun e w' => e = .returned (.bool (isT wd hg x y)) ∧ Below w.heap.size w w' := by
  cases he : inI 0 (wd - 1) x with
  | false =>
    have e : isT wd hg x y = false := by simp [isT, he]
    rw [e]; exact l03Is_A wd hg x y iw ih ix iy he sv gb T fr w hb0
  | true =>
    have e : isT wd hg x y = inI 0 (hg - 1) y := by simp [isT, he]
    rw [e]; exact l03Is_B wd hg x y iw ih ix iy he sv gb T fr w hb0

end Go.Proofs.YtckkemknajggpaaGreatDoor
