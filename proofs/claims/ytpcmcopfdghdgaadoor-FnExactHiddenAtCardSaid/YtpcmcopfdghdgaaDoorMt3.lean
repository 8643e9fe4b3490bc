/-
  TrH, Day, Over, FallDay, Best, BestRun, TrI.
-/
import Derived.Test.YtpcmcopfdghdgaaDoorMt2
import Derived.Test.YtpcmcopfdghdgaaDoorMt1

namespace Go.Proofs.YtpcmcopfdghdgaaDoor
open Go.ChangeShapes Go.WideShapes Go.ChangeAt Go.RowKit Go.Deep Go.Joins

attribute [local go_sem] run_store_f

/-- How far a sun stands from a tree, and whether the tree hides it. -/
def apT (a : Int) : Int := if 256 - a < a then 256 - a else a
def hidT (hs ts : List Int) (x : Tr) (k : Int) : Bool := decide (0 < atH hs k) && (decide (atH hs k ≤ x.2.2) && decide (apT (angB (atH ts k - x.1)) ≤ x.2.1))
theorem run_mini (a b : Int) (tys : Array TypeId) (T : TypeId) (w : World) : (Builtin.min_ tys T #[.int .i16 a, .int .i16 b]).run Tryd.prog w = .ok (.int .i16 (if b < a then b else a)) w := by
  simp only [Builtin.min_, List.foldlM_cons, List.foldlM_nil, Builtin.min2]
  rfl
set_option maxRecDepth 100000 in
set_option maxHeartbeats 1000000 in
theorem hides_A (x : Tr) (hx : TrWf x) (hs ts : List Int) (hh : hs.length = 24) (ht : ts.length = 24) (k : Nat) (hk : k < 24) (u v : Int) (hu : hs[k]?.getD 0 = u) (hv : ts[k]?.getD 0 = v) (v0 : 0 ≤ v ∧ v ≤ 255) (r : Bool) (hr : decide (0 < u) = r) (er : r = false) (w : World) :
    Calls Tryd.prog 72 #[.agg (treeC x), .agg (sunC hs ts), .int .i64 (k : Int)] w fun e w' => e = .returned (.bool false) ∧ Below w.heap.size w w' := by
  obtain ⟨⟨x0, x1⟩, ⟨y0, y1⟩, z0, z1⟩ := hx
  obtain ⟨v0, v1⟩ := v0
  have HU := Lib.hid (fun w => upAt_any hs ts hh (k : Int) (by omega) (by omega) w)
  rw [show atH hs (k : Int) = u by unfold atH; rw [Int.toNat_natCast]; exact hu, hr, er] at HU
  have Hu := Lib.hid hu
  have Hv := Lib.hid hv
  have a0 := angB_lo (v - x.1)
  have a1 := angB_hi (v - x.1)
  have HA := Lib.hid (fun w => angleOf_any (v - x.1) w)
  generalize angB (v - x.1) = a at *
  have hm := run_mini a (256 - a)
  have hk1 : (k : Int) < 24 := by omega
  have u1 : IntKind.i64.wrap v = v := IntWalk.i64_in _ (by omega)
  have u2 : IntKind.i64.wrap x.1 = x.1 := IntWalk.i64_in _ (by omega)
  have u3 : IntKind.i64.wrap (v - x.1) = v - x.1 := IntWalk.i64_in _ (by omega)
  have u4 : IntKind.i16.wrap (256 - a) = 256 - a := IntWalk.i16_in _ (by omega)
  clear hu hv hr er
  have Hh := Lib.hid hh
  have Ht := Lib.hid ht
  clear hh ht
  go_enter Tryd.func72, Tryd.ntmps72
  go_upto_region 1 with (fail)
  refine abs_world (fun W => W.heap[w.heap.size]? = some (.cells (treeC x) 85 (0, 0)) ∧ W.heap[w.heap.size + 1]? = some (.cells (sunC hs ts) 37 (0, 0)) ∧ Below w.heap.size w W) (box2 w (.cells (treeC x) 85) (.cells (sunC hs ts) 37)) ?_
  rintro W ⟨h0, h1, hb⟩
  generalize w.heap.size + 1 = b1 at *
  have H0 := Lib.hid h0
  have H1 := Lib.hid h1
  clear h0 h1
  refine wp_region_held_drew (S := (fun V => Below W.heap.size W V)) (by kernel_rfl) ((Below.refl _ _).drew) (fun hHeld => ?_)
  refine take_op (i := 0) (d := 8) (v := ?_) rfl rfl (by kernel_rfl) (by kernel_rfl) (by kernel_rfl) (fun _ _ _ h => h) (Or.inl ⟨by rfl, ?hy0u1⟩) hHeld ?rest0u1
  case hy0u1 =>
    intro w' hS'
    go_simp
    try with_reducible rfl
  simp only [List.setIfInBounds_toArray, List.set_cons_zero, List.set_cons_succ]
  refine take_op (i := 1) (d := 9) (v := ?_) rfl rfl (by kernel_rfl) (by kernel_rfl) (by kernel_rfl) (fun _ _ _ h => h) (Or.inl ⟨by rfl, ?hy1u2⟩) hHeld ?rest1u2
  case hy1u2 =>
    intro w' hS'
    go_simp
    try with_reducible rfl
  simp only [List.setIfInBounds_toArray, List.set_cons_zero, List.set_cons_succ]
  refine take_op (i := 2) (d := 10) (v := ?_) rfl rfl (by kernel_rfl) (by kernel_rfl) (by kernel_rfl) (fun _ _ _ h => h) (Or.inl ⟨by rfl, ?hy2u3⟩) hHeld ?rest2u3
  case hy2u3 =>
    intro w' hS'
    go_simp
    try with_reducible rfl
  simp only [List.setIfInBounds_toArray, List.set_cons_zero, List.set_cons_succ]
  refine take_op (i := 3) (d := 11) (v := ?_) rfl rfl (by kernel_rfl) (by kernel_rfl) (by kernel_rfl) (fun _ _ _ h => h) (Or.inl ⟨by rfl, ?hy3u4⟩) hHeld ?rest3u4
  case hy3u4 =>
    intro w' hS'
    (have q0 : w'.cell? ⟨b1, 24 + k, none⟩ = some (.int .i16 v) := by (have q := cell_sun_t (below_row hS' H1.out) Hh.out Ht.out k hk; rw [Hv.out] at q; exact q)); go_simp
    try with_reducible rfl
  simp only [List.setIfInBounds_toArray, List.set_cons_zero, List.set_cons_succ]
  refine take_op (i := 4) (d := 12) (v := ?_) rfl rfl (by kernel_rfl) (by kernel_rfl) (by kernel_rfl) (fun _ _ _ h => h) (Or.inl ⟨by rfl, ?hy4u5⟩) hHeld ?rest4u5
  case hy4u5 =>
    intro w' hS'
    go_simp
    try with_reducible rfl
  simp only [List.setIfInBounds_toArray, List.set_cons_zero, List.set_cons_succ]
  refine take_op (i := 5) (d := 13) (v := ?_) rfl rfl (by kernel_rfl) (by kernel_rfl) (by kernel_rfl) (fun _ _ _ h => h) (Or.inl ⟨by rfl, ?hy5u6⟩) hHeld ?rest5u6
  case hy5u6 =>
    intro w' hS'
    go_simp
    try with_reducible rfl
  simp only [List.setIfInBounds_toArray, List.set_cons_zero, List.set_cons_succ]
  refine take_op (i := 6) (d := 14) (v := ?_) rfl rfl (by kernel_rfl) (by kernel_rfl) (by kernel_rfl) (fun _ _ _ h => h) (Or.inl ⟨by rfl, ?hy6u7⟩) hHeld ?rest6u7
  case hy6u7 =>
    intro w' hS'
    (obtain ⟨q0, q1, q2⟩ := tree_cells (below_row hS' H0.out)); go_simp
    try with_reducible rfl
  simp only [List.setIfInBounds_toArray, List.set_cons_zero, List.set_cons_succ]
  refine take_op (i := 7) (d := 15) (v := ?_) rfl rfl (by kernel_rfl) (by kernel_rfl) (by kernel_rfl) (fun _ _ _ h => h) (Or.inl ⟨by rfl, ?hy7u8⟩) hHeld ?rest7u8
  case hy7u8 =>
    intro w' hS'
    go_simp
    try with_reducible rfl
  simp only [List.setIfInBounds_toArray, List.set_cons_zero, List.set_cons_succ]
  refine take_op (i := 8) (d := 16) (v := ?_) rfl rfl (by kernel_rfl) (by kernel_rfl) (by kernel_rfl) (fun _ _ _ h => h) (Or.inl ⟨by rfl, ?hy8u9⟩) hHeld ?rest8u9
  case hy8u9 =>
    intro w' hS'
    go_simp
    try with_reducible rfl
  simp only [List.setIfInBounds_toArray, List.set_cons_zero, List.set_cons_succ]
  refine wpAnyH_ready (rs := [9]) (by kernel_rfl) (by simp) ?_
  refine AllReadyH.cons rfl (fun K hK => ?_) AllReadyH.nil
  go_simp
  refine (HA.out _).mono ?_
  rintro e w1 ⟨rfl, rfl⟩
  refine hK.out _ _ (hHeld) (fun hHeld2 => ?_)
  clear hK K
  replace hHeld := hHeld2
  clear hHeld2
  refine take_op (i := 10) (d := 7) (v := ?_) rfl rfl (by kernel_rfl) (by kernel_rfl) (by kernel_rfl) (fun _ _ _ h => h) (Or.inl ⟨by rfl, ?hy10u10⟩) hHeld ?rest10u10
  case hy10u10 =>
    intro w' hS'
    go_simp
    try with_reducible rfl
  simp only [List.setIfInBounds_toArray, List.set_cons_zero, List.set_cons_succ]
  refine wpAnyH_done (by kernel_rfl) ?_ _
  revert hHeld
  generalize W.drew = W2
  intro hHeld
  replace H0 := Lib.hid (below_row hHeld H0.out)
  replace H1 := Lib.hid (below_row hHeld H1.out)
  replace hb := hb.trans (hHeld.mono hb.size)
  clear hHeld
  go_upto_region 2 with (fail)
  refine wp_region_held_drew (S := (fun V => Below W2.heap.size W2 V)) (by kernel_rfl) ((Below.refl _ _).drew) (fun hHeld => ?_)
  refine take_op (i := 0) (d := 18) (v := .agg (sunC hs ts)) rfl rfl (by kernel_rfl) (by kernel_rfl) (by kernel_rfl) (fun _ _ _ h => h) (yields_row (by rfl) 37 (.tmp 4) (by rfl) b1 0 48 (by rfl) 37 (sunC hs ts) (0, 0) _ (fun _ h => below_row h H1.out) Tryd.underlying37 rfl info_sun (sun_fits _ _ Hh.out Ht.out) (sunC hs ts) (sun_all _ _ Hh.out Ht.out)) hHeld ?_
  simp only [List.setIfInBounds_toArray, List.set_cons_zero, List.set_cons_succ]
  refine take_op (i := 1) (d := 19) (v := ?_) rfl rfl (by kernel_rfl) (by kernel_rfl) (by kernel_rfl) (fun _ _ _ h => h) (Or.inl ⟨by rfl, ?hy1u11⟩) hHeld ?rest1u11
  case hy1u11 =>
    intro w' hS'
    go_simp
    try with_reducible rfl
  simp only [List.setIfInBounds_toArray, List.set_cons_zero, List.set_cons_succ]
  refine wpAnyH_ready (rs := [2]) (by kernel_rfl) (by simp) ?_
  refine AllReadyH.cons rfl (fun K hK => ?_) AllReadyH.nil
  go_simp
  refine (HU.out _).mono ?_
  rintro e W3 ⟨rfl, hb3⟩
  refine hK.out _ _ (hHeld.trans (hb3.mono hHeld.size)) (fun hHeld2 => ?_)
  clear hK K
  replace hHeld := hHeld2
  clear hHeld2
  clear hb3
  refine take_op (i := 3) (d := 21) (v := ?_) rfl rfl (by kernel_rfl) (by kernel_rfl) (by kernel_rfl) (fun _ _ _ h => h) (Or.inl ⟨by rfl, ?hy3u12⟩) hHeld ?rest3u12
  case hy3u12 =>
    intro w' hS'
    go_simp
    try with_reducible rfl
  simp only [List.setIfInBounds_toArray, List.set_cons_zero, List.set_cons_succ]
  refine take_op (i := 4) (d := 22) rfl rfl (by kernel_rfl) (by kernel_rfl) (by kernel_rfl) (fun _ _ _ h => h) (Or.inr ⟨by rfl, rfl⟩) hHeld ?_
  simp only [List.setIfInBounds_toArray, List.set_cons_zero, List.set_cons_succ]
  refine take_op (i := 5) (d := 23) rfl rfl (by kernel_rfl) (by kernel_rfl) (by kernel_rfl) (fun _ _ _ h => h) (Or.inr ⟨by rfl, rfl⟩) hHeld ?_
  simp only [List.setIfInBounds_toArray, List.set_cons_zero, List.set_cons_succ]
  refine take_op (i := 6) (d := 24) rfl rfl (by kernel_rfl) (by kernel_rfl) (by kernel_rfl) (fun _ _ _ h => h) (Or.inr ⟨by rfl, rfl⟩) hHeld ?_
  simp only [List.setIfInBounds_toArray, List.set_cons_zero, List.set_cons_succ]
  refine take_op (i := 7) (d := 25) rfl rfl (by kernel_rfl) (by kernel_rfl) (by kernel_rfl) (fun _ _ _ h => h) (Or.inr ⟨by rfl, rfl⟩) hHeld ?_
  simp only [List.setIfInBounds_toArray, List.set_cons_zero, List.set_cons_succ]
  refine take_op (i := 8) (d := 26) rfl rfl (by kernel_rfl) (by kernel_rfl) (by kernel_rfl) (fun _ _ _ h => h) (Or.inr ⟨by rfl, rfl⟩) hHeld ?_
  simp only [List.setIfInBounds_toArray, List.set_cons_zero, List.set_cons_succ]
  refine take_op (i := 9) (d := 27) rfl rfl (by kernel_rfl) (by kernel_rfl) (by kernel_rfl) (fun _ _ _ h => h) (Or.inr ⟨by rfl, rfl⟩) hHeld ?_
  simp only [List.setIfInBounds_toArray, List.set_cons_zero, List.set_cons_succ]
  refine take_op (i := 10) (d := 28) rfl rfl (by kernel_rfl) (by kernel_rfl) (by kernel_rfl) (fun _ _ _ h => h) (Or.inr ⟨by rfl, rfl⟩) hHeld ?_
  simp only [List.setIfInBounds_toArray, List.set_cons_zero, List.set_cons_succ]
  refine take_op (i := 11) (d := 29) (v := ?_) rfl rfl (by kernel_rfl) (by kernel_rfl) (by kernel_rfl) (fun _ _ _ h => h) (Or.inl ⟨by rfl, ?hy11u13⟩) hHeld ?rest11u13
  case hy11u13 =>
    intro w' hS'
    go_simp
    try with_reducible rfl
  simp only [List.setIfInBounds_toArray, List.set_cons_zero, List.set_cons_succ]
  refine take_op (i := 12) (d := 30) (v := ?_) rfl rfl (by kernel_rfl) (by kernel_rfl) (by kernel_rfl) (fun _ _ _ h => h) (Or.inl ⟨by rfl, ?hy12u14⟩) hHeld ?rest12u14
  case hy12u14 =>
    intro w' hS'
    go_simp
    try with_reducible rfl
  simp only [List.setIfInBounds_toArray, List.set_cons_zero, List.set_cons_succ]
  refine take_op (i := 13) (d := 31) rfl rfl (by kernel_rfl) (by kernel_rfl) (by kernel_rfl) (fun _ _ _ h => h) (Or.inr ⟨by rfl, rfl⟩) hHeld ?_
  simp only [List.setIfInBounds_toArray, List.set_cons_zero, List.set_cons_succ]
  refine take_op (i := 14) (d := 32) rfl rfl (by kernel_rfl) (by kernel_rfl) (by kernel_rfl) (fun _ _ _ h => h) (Or.inr ⟨by rfl, rfl⟩) hHeld ?_
  simp only [List.setIfInBounds_toArray, List.set_cons_zero, List.set_cons_succ]
  refine take_op (i := 15) (d := 33) rfl rfl (by kernel_rfl) (by kernel_rfl) (by kernel_rfl) (fun _ _ _ h => h) (Or.inr ⟨by rfl, rfl⟩) hHeld ?_
  simp only [List.setIfInBounds_toArray, List.set_cons_zero, List.set_cons_succ]
  refine take_op (i := 16) (d := 34) rfl rfl (by kernel_rfl) (by kernel_rfl) (by kernel_rfl) (fun _ _ _ h => h) (Or.inr ⟨by rfl, rfl⟩) hHeld ?_
  simp only [List.setIfInBounds_toArray, List.set_cons_zero, List.set_cons_succ]
  refine take_op (i := 17) (d := 35) rfl rfl (by kernel_rfl) (by kernel_rfl) (by kernel_rfl) (fun _ _ _ h => h) (Or.inr ⟨by rfl, rfl⟩) hHeld ?_
  simp only [List.setIfInBounds_toArray, List.set_cons_zero, List.set_cons_succ]
  refine take_op (i := 18) (d := 36) rfl rfl (by kernel_rfl) (by kernel_rfl) (by kernel_rfl) (fun _ _ _ h => h) (Or.inr ⟨by rfl, rfl⟩) hHeld ?_
  simp only [List.setIfInBounds_toArray, List.set_cons_zero, List.set_cons_succ]
  refine take_op (i := 19) (d := 37) rfl rfl (by kernel_rfl) (by kernel_rfl) (by kernel_rfl) (fun _ _ _ h => h) (Or.inr ⟨by rfl, rfl⟩) hHeld ?_
  simp only [List.setIfInBounds_toArray, List.set_cons_zero, List.set_cons_succ]
  refine take_op (i := 20) (d := 38) (v := ?_) rfl rfl (by kernel_rfl) (by kernel_rfl) (by kernel_rfl) (fun _ _ _ h => h) (Or.inl ⟨by rfl, ?hy20u15⟩) hHeld ?rest20u15
  case hy20u15 =>
    intro w' hS'
    go_simp
    try with_reducible rfl
  simp only [List.setIfInBounds_toArray, List.set_cons_zero, List.set_cons_succ]
  refine take_op (i := 21) (d := 6) (v := ?_) rfl rfl (by kernel_rfl) (by kernel_rfl) (by kernel_rfl) (fun _ _ _ h => h) (Or.inl ⟨by rfl, ?hy21u16⟩) hHeld ?rest21u16
  case hy21u16 =>
    intro w' hS'
    go_simp
    try with_reducible rfl
  simp only [List.setIfInBounds_toArray, List.set_cons_zero, List.set_cons_succ]
  refine wpAnyH_done (by kernel_rfl) ?_ _
  replace H0 := Lib.hid (below_row hHeld H0.out)
  replace H1 := Lib.hid (below_row hHeld H1.out)
  replace hb := hb.trans (hHeld.mono hb.size)
  clear hHeld
  go_wp2
  all_goals
    go_ret
    first | exact ⟨rfl, hb⟩ | exact ⟨ret_boolR (by unfold apT; first | rw [if_pos (by omega)] | rw [if_neg (by omega)]), hb⟩

set_option maxRecDepth 100000 in
set_option maxHeartbeats 1000000 in
theorem hides_B (x : Tr) (hx : TrWf x) (hs ts : List Int) (hh : hs.length = 24) (ht : ts.length = 24) (k : Nat) (hk : k < 24) (u v : Int) (hu : hs[k]?.getD 0 = u) (hv : ts[k]?.getD 0 = v) (v0 : 0 ≤ v ∧ v ≤ 255) (r : Bool) (hr : decide (0 < u) = r) (er : r = true) (h : x.2.2 < u) (w : World) :
    Calls Tryd.prog 72 #[.agg (treeC x), .agg (sunC hs ts), .int .i64 (k : Int)] w fun e w' => e = .returned (.bool false) ∧ Below w.heap.size w w' := by
  obtain ⟨⟨x0, x1⟩, ⟨y0, y1⟩, z0, z1⟩ := hx
  obtain ⟨v0, v1⟩ := v0
  have HU := Lib.hid (fun w => upAt_any hs ts hh (k : Int) (by omega) (by omega) w)
  rw [show atH hs (k : Int) = u by unfold atH; rw [Int.toNat_natCast]; exact hu, hr, er] at HU
  have Hu := Lib.hid hu
  have Hv := Lib.hid hv
  have a0 := angB_lo (v - x.1)
  have a1 := angB_hi (v - x.1)
  have HA := Lib.hid (fun w => angleOf_any (v - x.1) w)
  generalize angB (v - x.1) = a at *
  have hm := run_mini a (256 - a)
  have hd : decide (u ≤ x.2.2) = false := decide_eq_false (by omega)
  have hk1 : (k : Int) < 24 := by omega
  have u1 : IntKind.i64.wrap v = v := IntWalk.i64_in _ (by omega)
  have u2 : IntKind.i64.wrap x.1 = x.1 := IntWalk.i64_in _ (by omega)
  have u3 : IntKind.i64.wrap (v - x.1) = v - x.1 := IntWalk.i64_in _ (by omega)
  have u4 : IntKind.i16.wrap (256 - a) = 256 - a := IntWalk.i16_in _ (by omega)
  clear hu hv hr er
  have Hh := Lib.hid hh
  have Ht := Lib.hid ht
  clear hh ht
  go_enter Tryd.func72, Tryd.ntmps72
  go_upto_region 1 with (fail)
  refine abs_world (fun W => W.heap[w.heap.size]? = some (.cells (treeC x) 85 (0, 0)) ∧ W.heap[w.heap.size + 1]? = some (.cells (sunC hs ts) 37 (0, 0)) ∧ Below w.heap.size w W) (box2 w (.cells (treeC x) 85) (.cells (sunC hs ts) 37)) ?_
  rintro W ⟨h0, h1, hb⟩
  generalize w.heap.size + 1 = b1 at *
  have H0 := Lib.hid h0
  have H1 := Lib.hid h1
  clear h0 h1
  refine wp_region_held_drew (S := (fun V => Below W.heap.size W V)) (by kernel_rfl) ((Below.refl _ _).drew) (fun hHeld => ?_)
  refine take_op (i := 0) (d := 8) (v := ?_) rfl rfl (by kernel_rfl) (by kernel_rfl) (by kernel_rfl) (fun _ _ _ h => h) (Or.inl ⟨by rfl, ?hy0u17⟩) hHeld ?rest0u17
  case hy0u17 =>
    intro w' hS'
    go_simp
    try with_reducible rfl
  simp only [List.setIfInBounds_toArray, List.set_cons_zero, List.set_cons_succ]
  refine take_op (i := 1) (d := 9) (v := ?_) rfl rfl (by kernel_rfl) (by kernel_rfl) (by kernel_rfl) (fun _ _ _ h => h) (Or.inl ⟨by rfl, ?hy1u18⟩) hHeld ?rest1u18
  case hy1u18 =>
    intro w' hS'
    go_simp
    try with_reducible rfl
  simp only [List.setIfInBounds_toArray, List.set_cons_zero, List.set_cons_succ]
  refine take_op (i := 2) (d := 10) (v := ?_) rfl rfl (by kernel_rfl) (by kernel_rfl) (by kernel_rfl) (fun _ _ _ h => h) (Or.inl ⟨by rfl, ?hy2u19⟩) hHeld ?rest2u19
  case hy2u19 =>
    intro w' hS'
    go_simp
    try with_reducible rfl
  simp only [List.setIfInBounds_toArray, List.set_cons_zero, List.set_cons_succ]
  refine take_op (i := 3) (d := 11) (v := ?_) rfl rfl (by kernel_rfl) (by kernel_rfl) (by kernel_rfl) (fun _ _ _ h => h) (Or.inl ⟨by rfl, ?hy3u20⟩) hHeld ?rest3u20
  case hy3u20 =>
    intro w' hS'
    (have q0 : w'.cell? ⟨b1, 24 + k, none⟩ = some (.int .i16 v) := by (have q := cell_sun_t (below_row hS' H1.out) Hh.out Ht.out k hk; rw [Hv.out] at q; exact q)); go_simp
    try with_reducible rfl
  simp only [List.setIfInBounds_toArray, List.set_cons_zero, List.set_cons_succ]
  refine take_op (i := 4) (d := 12) (v := ?_) rfl rfl (by kernel_rfl) (by kernel_rfl) (by kernel_rfl) (fun _ _ _ h => h) (Or.inl ⟨by rfl, ?hy4u21⟩) hHeld ?rest4u21
  case hy4u21 =>
    intro w' hS'
    go_simp
    try with_reducible rfl
  simp only [List.setIfInBounds_toArray, List.set_cons_zero, List.set_cons_succ]
  refine take_op (i := 5) (d := 13) (v := ?_) rfl rfl (by kernel_rfl) (by kernel_rfl) (by kernel_rfl) (fun _ _ _ h => h) (Or.inl ⟨by rfl, ?hy5u22⟩) hHeld ?rest5u22
  case hy5u22 =>
    intro w' hS'
    go_simp
    try with_reducible rfl
  simp only [List.setIfInBounds_toArray, List.set_cons_zero, List.set_cons_succ]
  refine take_op (i := 6) (d := 14) (v := ?_) rfl rfl (by kernel_rfl) (by kernel_rfl) (by kernel_rfl) (fun _ _ _ h => h) (Or.inl ⟨by rfl, ?hy6u23⟩) hHeld ?rest6u23
  case hy6u23 =>
    intro w' hS'
    (obtain ⟨q0, q1, q2⟩ := tree_cells (below_row hS' H0.out)); go_simp
    try with_reducible rfl
  simp only [List.setIfInBounds_toArray, List.set_cons_zero, List.set_cons_succ]
  refine take_op (i := 7) (d := 15) (v := ?_) rfl rfl (by kernel_rfl) (by kernel_rfl) (by kernel_rfl) (fun _ _ _ h => h) (Or.inl ⟨by rfl, ?hy7u24⟩) hHeld ?rest7u24
  case hy7u24 =>
    intro w' hS'
    go_simp
    try with_reducible rfl
  simp only [List.setIfInBounds_toArray, List.set_cons_zero, List.set_cons_succ]
  refine take_op (i := 8) (d := 16) (v := ?_) rfl rfl (by kernel_rfl) (by kernel_rfl) (by kernel_rfl) (fun _ _ _ h => h) (Or.inl ⟨by rfl, ?hy8u25⟩) hHeld ?rest8u25
  case hy8u25 =>
    intro w' hS'
    go_simp
    try with_reducible rfl
  simp only [List.setIfInBounds_toArray, List.set_cons_zero, List.set_cons_succ]
  refine wpAnyH_ready (rs := [9]) (by kernel_rfl) (by simp) ?_
  refine AllReadyH.cons rfl (fun K hK => ?_) AllReadyH.nil
  go_simp
  refine (HA.out _).mono ?_
  rintro e w1 ⟨rfl, rfl⟩
  refine hK.out _ _ (hHeld) (fun hHeld2 => ?_)
  clear hK K
  replace hHeld := hHeld2
  clear hHeld2
  refine take_op (i := 10) (d := 7) (v := ?_) rfl rfl (by kernel_rfl) (by kernel_rfl) (by kernel_rfl) (fun _ _ _ h => h) (Or.inl ⟨by rfl, ?hy10u26⟩) hHeld ?rest10u26
  case hy10u26 =>
    intro w' hS'
    go_simp
    try with_reducible rfl
  simp only [List.setIfInBounds_toArray, List.set_cons_zero, List.set_cons_succ]
  refine wpAnyH_done (by kernel_rfl) ?_ _
  revert hHeld
  generalize W.drew = W2
  intro hHeld
  replace H0 := Lib.hid (below_row hHeld H0.out)
  replace H1 := Lib.hid (below_row hHeld H1.out)
  replace hb := hb.trans (hHeld.mono hb.size)
  clear hHeld
  go_upto_region 2 with (fail)
  refine wp_region_held_drew (S := (fun V => Below W2.heap.size W2 V)) (by kernel_rfl) ((Below.refl _ _).drew) (fun hHeld => ?_)
  refine take_op (i := 0) (d := 18) (v := .agg (sunC hs ts)) rfl rfl (by kernel_rfl) (by kernel_rfl) (by kernel_rfl) (fun _ _ _ h => h) (yields_row (by rfl) 37 (.tmp 4) (by rfl) b1 0 48 (by rfl) 37 (sunC hs ts) (0, 0) _ (fun _ h => below_row h H1.out) Tryd.underlying37 rfl info_sun (sun_fits _ _ Hh.out Ht.out) (sunC hs ts) (sun_all _ _ Hh.out Ht.out)) hHeld ?_
  simp only [List.setIfInBounds_toArray, List.set_cons_zero, List.set_cons_succ]
  refine take_op (i := 1) (d := 19) (v := ?_) rfl rfl (by kernel_rfl) (by kernel_rfl) (by kernel_rfl) (fun _ _ _ h => h) (Or.inl ⟨by rfl, ?hy1u27⟩) hHeld ?rest1u27
  case hy1u27 =>
    intro w' hS'
    go_simp
    try with_reducible rfl
  simp only [List.setIfInBounds_toArray, List.set_cons_zero, List.set_cons_succ]
  refine wpAnyH_ready (rs := [2]) (by kernel_rfl) (by simp) ?_
  refine AllReadyH.cons rfl (fun K hK => ?_) AllReadyH.nil
  go_simp
  refine (HU.out _).mono ?_
  rintro e W3 ⟨rfl, hb3⟩
  refine hK.out _ _ (hHeld.trans (hb3.mono hHeld.size)) (fun hHeld2 => ?_)
  clear hK K
  replace hHeld := hHeld2
  clear hHeld2
  clear hb3
  refine take_op (i := 3) (d := 21) (v := ?_) rfl rfl (by kernel_rfl) (by kernel_rfl) (by kernel_rfl) (fun _ _ _ h => h) (Or.inl ⟨by rfl, ?hy3u28⟩) hHeld ?rest3u28
  case hy3u28 =>
    intro w' hS'
    go_simp
    try with_reducible rfl
  simp only [List.setIfInBounds_toArray, List.set_cons_zero, List.set_cons_succ]
  refine take_op (i := 4) (d := 22) (v := ?_) rfl rfl (by kernel_rfl) (by kernel_rfl) (by kernel_rfl) (fun _ _ _ h => h) (Or.inl ⟨by rfl, ?hy4u29⟩) hHeld ?rest4u29
  case hy4u29 =>
    intro w' hS'
    go_simp
    try with_reducible rfl
  simp only [List.setIfInBounds_toArray, List.set_cons_zero, List.set_cons_succ]
  refine take_op (i := 5) (d := 23) (v := ?_) rfl rfl (by kernel_rfl) (by kernel_rfl) (by kernel_rfl) (fun _ _ _ h => h) (Or.inl ⟨by rfl, ?hy5u30⟩) hHeld ?rest5u30
  case hy5u30 =>
    intro w' hS'
    go_simp
    try with_reducible rfl
  simp only [List.setIfInBounds_toArray, List.set_cons_zero, List.set_cons_succ]
  refine take_op (i := 6) (d := 24) (v := ?_) rfl rfl (by kernel_rfl) (by kernel_rfl) (by kernel_rfl) (fun _ _ _ h => h) (Or.inl ⟨by rfl, ?hy6u31⟩) hHeld ?rest6u31
  case hy6u31 =>
    intro w' hS'
    go_simp
    try with_reducible rfl
  simp only [List.setIfInBounds_toArray, List.set_cons_zero, List.set_cons_succ]
  refine take_op (i := 7) (d := 25) (v := ?_) rfl rfl (by kernel_rfl) (by kernel_rfl) (by kernel_rfl) (fun _ _ _ h => h) (Or.inl ⟨by rfl, ?hy7u32⟩) hHeld ?rest7u32
  case hy7u32 =>
    intro w' hS'
    (have q0 : w'.cell? ⟨b1, k, none⟩ = some (.int .i16 u) := by (have q := cell_sun_h (below_row hS' H1.out) Hh.out k hk; rw [Hu.out] at q; exact q)); go_simp
    try with_reducible rfl
  simp only [List.setIfInBounds_toArray, List.set_cons_zero, List.set_cons_succ]
  refine take_op (i := 8) (d := 26) (v := ?_) rfl rfl (by kernel_rfl) (by kernel_rfl) (by kernel_rfl) (fun _ _ _ h => h) (Or.inl ⟨by rfl, ?hy8u33⟩) hHeld ?rest8u33
  case hy8u33 =>
    intro w' hS'
    go_simp
    try with_reducible rfl
  simp only [List.setIfInBounds_toArray, List.set_cons_zero, List.set_cons_succ]
  refine take_op (i := 9) (d := 27) (v := ?_) rfl rfl (by kernel_rfl) (by kernel_rfl) (by kernel_rfl) (fun _ _ _ h => h) (Or.inl ⟨by rfl, ?hy9u34⟩) hHeld ?rest9u34
  case hy9u34 =>
    intro w' hS'
    (obtain ⟨q0, q1, q2⟩ := tree_cells (below_row hS' H0.out)); go_simp
    try with_reducible rfl
  simp only [List.setIfInBounds_toArray, List.set_cons_zero, List.set_cons_succ]
  refine take_op (i := 10) (d := 28) (v := ?_) rfl rfl (by kernel_rfl) (by kernel_rfl) (by kernel_rfl) (fun _ _ _ h => h) (Or.inl ⟨by rfl, ?hy10u35⟩) hHeld ?rest10u35
  case hy10u35 =>
    intro w' hS'
    go_simp; try rw [hd]
    try with_reducible rfl
  simp only [List.setIfInBounds_toArray, List.set_cons_zero, List.set_cons_succ]
  refine take_op (i := 11) (d := 29) (v := ?_) rfl rfl (by kernel_rfl) (by kernel_rfl) (by kernel_rfl) (fun _ _ _ h => h) (Or.inl ⟨by rfl, ?hy11u36⟩) hHeld ?rest11u36
  case hy11u36 =>
    intro w' hS'
    go_simp
    try with_reducible rfl
  simp only [List.setIfInBounds_toArray, List.set_cons_zero, List.set_cons_succ]
  refine take_op (i := 12) (d := 30) (v := ?_) rfl rfl (by kernel_rfl) (by kernel_rfl) (by kernel_rfl) (fun _ _ _ h => h) (Or.inl ⟨by rfl, ?hy12u37⟩) hHeld ?rest12u37
  case hy12u37 =>
    intro w' hS'
    go_simp
    try with_reducible rfl
  simp only [List.setIfInBounds_toArray, List.set_cons_zero, List.set_cons_succ]
  refine take_op (i := 13) (d := 31) rfl rfl (by kernel_rfl) (by kernel_rfl) (by kernel_rfl) (fun _ _ _ h => h) (Or.inr ⟨by rfl, rfl⟩) hHeld ?_
  simp only [List.setIfInBounds_toArray, List.set_cons_zero, List.set_cons_succ]
  refine take_op (i := 14) (d := 32) rfl rfl (by kernel_rfl) (by kernel_rfl) (by kernel_rfl) (fun _ _ _ h => h) (Or.inr ⟨by rfl, rfl⟩) hHeld ?_
  simp only [List.setIfInBounds_toArray, List.set_cons_zero, List.set_cons_succ]
  refine take_op (i := 15) (d := 33) rfl rfl (by kernel_rfl) (by kernel_rfl) (by kernel_rfl) (fun _ _ _ h => h) (Or.inr ⟨by rfl, rfl⟩) hHeld ?_
  simp only [List.setIfInBounds_toArray, List.set_cons_zero, List.set_cons_succ]
  refine take_op (i := 16) (d := 34) rfl rfl (by kernel_rfl) (by kernel_rfl) (by kernel_rfl) (fun _ _ _ h => h) (Or.inr ⟨by rfl, rfl⟩) hHeld ?_
  simp only [List.setIfInBounds_toArray, List.set_cons_zero, List.set_cons_succ]
  refine take_op (i := 17) (d := 35) rfl rfl (by kernel_rfl) (by kernel_rfl) (by kernel_rfl) (fun _ _ _ h => h) (Or.inr ⟨by rfl, rfl⟩) hHeld ?_
  simp only [List.setIfInBounds_toArray, List.set_cons_zero, List.set_cons_succ]
  refine take_op (i := 18) (d := 36) rfl rfl (by kernel_rfl) (by kernel_rfl) (by kernel_rfl) (fun _ _ _ h => h) (Or.inr ⟨by rfl, rfl⟩) hHeld ?_
  simp only [List.setIfInBounds_toArray, List.set_cons_zero, List.set_cons_succ]
  refine take_op (i := 19) (d := 37) rfl rfl (by kernel_rfl) (by kernel_rfl) (by kernel_rfl) (fun _ _ _ h => h) (Or.inr ⟨by rfl, rfl⟩) hHeld ?_
  simp only [List.setIfInBounds_toArray, List.set_cons_zero, List.set_cons_succ]
  refine take_op (i := 20) (d := 38) (v := ?_) rfl rfl (by kernel_rfl) (by kernel_rfl) (by kernel_rfl) (fun _ _ _ h => h) (Or.inl ⟨by rfl, ?hy20u38⟩) hHeld ?rest20u38
  case hy20u38 =>
    intro w' hS'
    go_simp
    try with_reducible rfl
  simp only [List.setIfInBounds_toArray, List.set_cons_zero, List.set_cons_succ]
  refine take_op (i := 21) (d := 6) (v := ?_) rfl rfl (by kernel_rfl) (by kernel_rfl) (by kernel_rfl) (fun _ _ _ h => h) (Or.inl ⟨by rfl, ?hy21u39⟩) hHeld ?rest21u39
  case hy21u39 =>
    intro w' hS'
    go_simp
    try with_reducible rfl
  simp only [List.setIfInBounds_toArray, List.set_cons_zero, List.set_cons_succ]
  refine wpAnyH_done (by kernel_rfl) ?_ _
  replace H0 := Lib.hid (below_row hHeld H0.out)
  replace H1 := Lib.hid (below_row hHeld H1.out)
  replace hb := hb.trans (hHeld.mono hb.size)
  clear hHeld
  go_wp2
  all_goals
    go_ret
    first | exact ⟨rfl, hb⟩ | exact ⟨ret_boolR (by unfold apT; first | rw [if_pos (by omega)] | rw [if_neg (by omega)]), hb⟩

set_option maxRecDepth 100000 in
set_option maxHeartbeats 1000000 in
theorem hides_C (x : Tr) (hx : TrWf x) (hs ts : List Int) (hh : hs.length = 24) (ht : ts.length = 24) (k : Nat) (hk : k < 24) (u v : Int) (hu : hs[k]?.getD 0 = u) (hv : ts[k]?.getD 0 = v) (v0 : 0 ≤ v ∧ v ≤ 255) (r : Bool) (hr : decide (0 < u) = r) (er : r = true) (h : u ≤ x.2.2) (w : World) :
    Calls Tryd.prog 72 #[.agg (treeC x), .agg (sunC hs ts), .int .i64 (k : Int)] w fun e w' => e = .returned (.bool (decide (apT (angB (v - x.1)) ≤ x.2.1))) ∧ Below w.heap.size w w' := by
  obtain ⟨⟨x0, x1⟩, ⟨y0, y1⟩, z0, z1⟩ := hx
  obtain ⟨v0, v1⟩ := v0
  have HU := Lib.hid (fun w => upAt_any hs ts hh (k : Int) (by omega) (by omega) w)
  rw [show atH hs (k : Int) = u by unfold atH; rw [Int.toNat_natCast]; exact hu, hr, er] at HU
  have Hu := Lib.hid hu
  have Hv := Lib.hid hv
  have a0 := angB_lo (v - x.1)
  have a1 := angB_hi (v - x.1)
  have HA := Lib.hid (fun w => angleOf_any (v - x.1) w)
  generalize angB (v - x.1) = a at *
  have hm := run_mini a (256 - a)
  have hd : decide (u ≤ x.2.2) = true := decide_eq_true h
  have hk1 : (k : Int) < 24 := by omega
  have u1 : IntKind.i64.wrap v = v := IntWalk.i64_in _ (by omega)
  have u2 : IntKind.i64.wrap x.1 = x.1 := IntWalk.i64_in _ (by omega)
  have u3 : IntKind.i64.wrap (v - x.1) = v - x.1 := IntWalk.i64_in _ (by omega)
  have u4 : IntKind.i16.wrap (256 - a) = 256 - a := IntWalk.i16_in _ (by omega)
  clear hu hv hr er
  have Hh := Lib.hid hh
  have Ht := Lib.hid ht
  clear hh ht
  go_enter Tryd.func72, Tryd.ntmps72
  go_upto_region 1 with (fail)
  refine abs_world (fun W => W.heap[w.heap.size]? = some (.cells (treeC x) 85 (0, 0)) ∧ W.heap[w.heap.size + 1]? = some (.cells (sunC hs ts) 37 (0, 0)) ∧ Below w.heap.size w W) (box2 w (.cells (treeC x) 85) (.cells (sunC hs ts) 37)) ?_
  rintro W ⟨h0, h1, hb⟩
  generalize w.heap.size + 1 = b1 at *
  have H0 := Lib.hid h0
  have H1 := Lib.hid h1
  clear h0 h1
  refine wp_region_held_drew (S := (fun V => Below W.heap.size W V)) (by kernel_rfl) ((Below.refl _ _).drew) (fun hHeld => ?_)
  refine take_op (i := 0) (d := 8) (v := ?_) rfl rfl (by kernel_rfl) (by kernel_rfl) (by kernel_rfl) (fun _ _ _ h => h) (Or.inl ⟨by rfl, ?hy0u40⟩) hHeld ?rest0u40
  case hy0u40 =>
    intro w' hS'
    go_simp
    try with_reducible rfl
  simp only [List.setIfInBounds_toArray, List.set_cons_zero, List.set_cons_succ]
  refine take_op (i := 1) (d := 9) (v := ?_) rfl rfl (by kernel_rfl) (by kernel_rfl) (by kernel_rfl) (fun _ _ _ h => h) (Or.inl ⟨by rfl, ?hy1u41⟩) hHeld ?rest1u41
  case hy1u41 =>
    intro w' hS'
    go_simp
    try with_reducible rfl
  simp only [List.setIfInBounds_toArray, List.set_cons_zero, List.set_cons_succ]
  refine take_op (i := 2) (d := 10) (v := ?_) rfl rfl (by kernel_rfl) (by kernel_rfl) (by kernel_rfl) (fun _ _ _ h => h) (Or.inl ⟨by rfl, ?hy2u42⟩) hHeld ?rest2u42
  case hy2u42 =>
    intro w' hS'
    go_simp
    try with_reducible rfl
  simp only [List.setIfInBounds_toArray, List.set_cons_zero, List.set_cons_succ]
  refine take_op (i := 3) (d := 11) (v := ?_) rfl rfl (by kernel_rfl) (by kernel_rfl) (by kernel_rfl) (fun _ _ _ h => h) (Or.inl ⟨by rfl, ?hy3u43⟩) hHeld ?rest3u43
  case hy3u43 =>
    intro w' hS'
    (have q0 : w'.cell? ⟨b1, 24 + k, none⟩ = some (.int .i16 v) := by (have q := cell_sun_t (below_row hS' H1.out) Hh.out Ht.out k hk; rw [Hv.out] at q; exact q)); go_simp
    try with_reducible rfl
  simp only [List.setIfInBounds_toArray, List.set_cons_zero, List.set_cons_succ]
  refine take_op (i := 4) (d := 12) (v := ?_) rfl rfl (by kernel_rfl) (by kernel_rfl) (by kernel_rfl) (fun _ _ _ h => h) (Or.inl ⟨by rfl, ?hy4u44⟩) hHeld ?rest4u44
  case hy4u44 =>
    intro w' hS'
    go_simp
    try with_reducible rfl
  simp only [List.setIfInBounds_toArray, List.set_cons_zero, List.set_cons_succ]
  refine take_op (i := 5) (d := 13) (v := ?_) rfl rfl (by kernel_rfl) (by kernel_rfl) (by kernel_rfl) (fun _ _ _ h => h) (Or.inl ⟨by rfl, ?hy5u45⟩) hHeld ?rest5u45
  case hy5u45 =>
    intro w' hS'
    go_simp
    try with_reducible rfl
  simp only [List.setIfInBounds_toArray, List.set_cons_zero, List.set_cons_succ]
  refine take_op (i := 6) (d := 14) (v := ?_) rfl rfl (by kernel_rfl) (by kernel_rfl) (by kernel_rfl) (fun _ _ _ h => h) (Or.inl ⟨by rfl, ?hy6u46⟩) hHeld ?rest6u46
  case hy6u46 =>
    intro w' hS'
    (obtain ⟨q0, q1, q2⟩ := tree_cells (below_row hS' H0.out)); go_simp
    try with_reducible rfl
  simp only [List.setIfInBounds_toArray, List.set_cons_zero, List.set_cons_succ]
  refine take_op (i := 7) (d := 15) (v := ?_) rfl rfl (by kernel_rfl) (by kernel_rfl) (by kernel_rfl) (fun _ _ _ h => h) (Or.inl ⟨by rfl, ?hy7u47⟩) hHeld ?rest7u47
  case hy7u47 =>
    intro w' hS'
    go_simp
    try with_reducible rfl
  simp only [List.setIfInBounds_toArray, List.set_cons_zero, List.set_cons_succ]
  refine take_op (i := 8) (d := 16) (v := ?_) rfl rfl (by kernel_rfl) (by kernel_rfl) (by kernel_rfl) (fun _ _ _ h => h) (Or.inl ⟨by rfl, ?hy8u48⟩) hHeld ?rest8u48
  case hy8u48 =>
    intro w' hS'
    go_simp
    try with_reducible rfl
  simp only [List.setIfInBounds_toArray, List.set_cons_zero, List.set_cons_succ]
  refine wpAnyH_ready (rs := [9]) (by kernel_rfl) (by simp) ?_
  refine AllReadyH.cons rfl (fun K hK => ?_) AllReadyH.nil
  go_simp
  refine (HA.out _).mono ?_
  rintro e w1 ⟨rfl, rfl⟩
  refine hK.out _ _ (hHeld) (fun hHeld2 => ?_)
  clear hK K
  replace hHeld := hHeld2
  clear hHeld2
  refine take_op (i := 10) (d := 7) (v := ?_) rfl rfl (by kernel_rfl) (by kernel_rfl) (by kernel_rfl) (fun _ _ _ h => h) (Or.inl ⟨by rfl, ?hy10u49⟩) hHeld ?rest10u49
  case hy10u49 =>
    intro w' hS'
    go_simp
    try with_reducible rfl
  simp only [List.setIfInBounds_toArray, List.set_cons_zero, List.set_cons_succ]
  refine wpAnyH_done (by kernel_rfl) ?_ _
  revert hHeld
  generalize W.drew = W2
  intro hHeld
  replace H0 := Lib.hid (below_row hHeld H0.out)
  replace H1 := Lib.hid (below_row hHeld H1.out)
  replace hb := hb.trans (hHeld.mono hb.size)
  clear hHeld
  go_upto_region 2 with (fail)
  refine wp_region_held_drew (S := (fun V => Below W2.heap.size W2 V)) (by kernel_rfl) ((Below.refl _ _).drew) (fun hHeld => ?_)
  refine take_op (i := 0) (d := 18) (v := .agg (sunC hs ts)) rfl rfl (by kernel_rfl) (by kernel_rfl) (by kernel_rfl) (fun _ _ _ h => h) (yields_row (by rfl) 37 (.tmp 4) (by rfl) b1 0 48 (by rfl) 37 (sunC hs ts) (0, 0) _ (fun _ h => below_row h H1.out) Tryd.underlying37 rfl info_sun (sun_fits _ _ Hh.out Ht.out) (sunC hs ts) (sun_all _ _ Hh.out Ht.out)) hHeld ?_
  simp only [List.setIfInBounds_toArray, List.set_cons_zero, List.set_cons_succ]
  refine take_op (i := 1) (d := 19) (v := ?_) rfl rfl (by kernel_rfl) (by kernel_rfl) (by kernel_rfl) (fun _ _ _ h => h) (Or.inl ⟨by rfl, ?hy1u50⟩) hHeld ?rest1u50
  case hy1u50 =>
    intro w' hS'
    go_simp
    try with_reducible rfl
  simp only [List.setIfInBounds_toArray, List.set_cons_zero, List.set_cons_succ]
  refine wpAnyH_ready (rs := [2]) (by kernel_rfl) (by simp) ?_
  refine AllReadyH.cons rfl (fun K hK => ?_) AllReadyH.nil
  go_simp
  refine (HU.out _).mono ?_
  rintro e W3 ⟨rfl, hb3⟩
  refine hK.out _ _ (hHeld.trans (hb3.mono hHeld.size)) (fun hHeld2 => ?_)
  clear hK K
  replace hHeld := hHeld2
  clear hHeld2
  clear hb3
  refine take_op (i := 3) (d := 21) (v := ?_) rfl rfl (by kernel_rfl) (by kernel_rfl) (by kernel_rfl) (fun _ _ _ h => h) (Or.inl ⟨by rfl, ?hy3u51⟩) hHeld ?rest3u51
  case hy3u51 =>
    intro w' hS'
    go_simp
    try with_reducible rfl
  simp only [List.setIfInBounds_toArray, List.set_cons_zero, List.set_cons_succ]
  refine take_op (i := 4) (d := 22) (v := ?_) rfl rfl (by kernel_rfl) (by kernel_rfl) (by kernel_rfl) (fun _ _ _ h => h) (Or.inl ⟨by rfl, ?hy4u52⟩) hHeld ?rest4u52
  case hy4u52 =>
    intro w' hS'
    go_simp
    try with_reducible rfl
  simp only [List.setIfInBounds_toArray, List.set_cons_zero, List.set_cons_succ]
  refine take_op (i := 5) (d := 23) (v := ?_) rfl rfl (by kernel_rfl) (by kernel_rfl) (by kernel_rfl) (fun _ _ _ h => h) (Or.inl ⟨by rfl, ?hy5u53⟩) hHeld ?rest5u53
  case hy5u53 =>
    intro w' hS'
    go_simp
    try with_reducible rfl
  simp only [List.setIfInBounds_toArray, List.set_cons_zero, List.set_cons_succ]
  refine take_op (i := 6) (d := 24) (v := ?_) rfl rfl (by kernel_rfl) (by kernel_rfl) (by kernel_rfl) (fun _ _ _ h => h) (Or.inl ⟨by rfl, ?hy6u54⟩) hHeld ?rest6u54
  case hy6u54 =>
    intro w' hS'
    go_simp
    try with_reducible rfl
  simp only [List.setIfInBounds_toArray, List.set_cons_zero, List.set_cons_succ]
  refine take_op (i := 7) (d := 25) (v := ?_) rfl rfl (by kernel_rfl) (by kernel_rfl) (by kernel_rfl) (fun _ _ _ h => h) (Or.inl ⟨by rfl, ?hy7u55⟩) hHeld ?rest7u55
  case hy7u55 =>
    intro w' hS'
    (have q0 : w'.cell? ⟨b1, k, none⟩ = some (.int .i16 u) := by (have q := cell_sun_h (below_row hS' H1.out) Hh.out k hk; rw [Hu.out] at q; exact q)); go_simp
    try with_reducible rfl
  simp only [List.setIfInBounds_toArray, List.set_cons_zero, List.set_cons_succ]
  refine take_op (i := 8) (d := 26) (v := ?_) rfl rfl (by kernel_rfl) (by kernel_rfl) (by kernel_rfl) (fun _ _ _ h => h) (Or.inl ⟨by rfl, ?hy8u56⟩) hHeld ?rest8u56
  case hy8u56 =>
    intro w' hS'
    go_simp
    try with_reducible rfl
  simp only [List.setIfInBounds_toArray, List.set_cons_zero, List.set_cons_succ]
  refine take_op (i := 9) (d := 27) (v := ?_) rfl rfl (by kernel_rfl) (by kernel_rfl) (by kernel_rfl) (fun _ _ _ h => h) (Or.inl ⟨by rfl, ?hy9u57⟩) hHeld ?rest9u57
  case hy9u57 =>
    intro w' hS'
    (obtain ⟨q0, q1, q2⟩ := tree_cells (below_row hS' H0.out)); go_simp
    try with_reducible rfl
  simp only [List.setIfInBounds_toArray, List.set_cons_zero, List.set_cons_succ]
  refine take_op (i := 10) (d := 28) (v := ?_) rfl rfl (by kernel_rfl) (by kernel_rfl) (by kernel_rfl) (fun _ _ _ h => h) (Or.inl ⟨by rfl, ?hy10u58⟩) hHeld ?rest10u58
  case hy10u58 =>
    intro w' hS'
    go_simp; try rw [hd]
    try with_reducible rfl
  simp only [List.setIfInBounds_toArray, List.set_cons_zero, List.set_cons_succ]
  refine take_op (i := 11) (d := 29) (v := ?_) rfl rfl (by kernel_rfl) (by kernel_rfl) (by kernel_rfl) (fun _ _ _ h => h) (Or.inl ⟨by rfl, ?hy11u59⟩) hHeld ?rest11u59
  case hy11u59 =>
    intro w' hS'
    go_simp
    try with_reducible rfl
  simp only [List.setIfInBounds_toArray, List.set_cons_zero, List.set_cons_succ]
  refine take_op (i := 12) (d := 30) (v := ?_) rfl rfl (by kernel_rfl) (by kernel_rfl) (by kernel_rfl) (fun _ _ _ h => h) (Or.inl ⟨by rfl, ?hy12u60⟩) hHeld ?rest12u60
  case hy12u60 =>
    intro w' hS'
    go_simp
    try with_reducible rfl
  simp only [List.setIfInBounds_toArray, List.set_cons_zero, List.set_cons_succ]
  refine take_op (i := 13) (d := 31) (v := ?_) rfl rfl (by kernel_rfl) (by kernel_rfl) (by kernel_rfl) (fun _ _ _ h => h) (Or.inl ⟨by rfl, ?hy13u61⟩) hHeld ?rest13u61
  case hy13u61 =>
    intro w' hS'
    go_simp
    try with_reducible rfl
  simp only [List.setIfInBounds_toArray, List.set_cons_zero, List.set_cons_succ]
  refine take_op (i := 14) (d := 32) (v := ?_) rfl rfl (by kernel_rfl) (by kernel_rfl) (by kernel_rfl) (fun _ _ _ h => h) (Or.inl ⟨by rfl, ?hy14u62⟩) hHeld ?rest14u62
  case hy14u62 =>
    intro w' hS'
    go_simp
    try with_reducible rfl
  simp only [List.setIfInBounds_toArray, List.set_cons_zero, List.set_cons_succ]
  refine take_op (i := 15) (d := 33) (v := ?_) rfl rfl (by kernel_rfl) (by kernel_rfl) (by kernel_rfl) (fun _ _ _ h => h) (Or.inl ⟨by rfl, ?hy15u63⟩) hHeld ?rest15u63
  case hy15u63 =>
    intro w' hS'
    go_simp
    try with_reducible rfl
  simp only [List.setIfInBounds_toArray, List.set_cons_zero, List.set_cons_succ]
  refine take_op (i := 16) (d := 34) (v := ?_) rfl rfl (by kernel_rfl) (by kernel_rfl) (by kernel_rfl) (fun _ _ _ h => h) (Or.inl ⟨by rfl, ?hy16u64⟩) hHeld ?rest16u64
  case hy16u64 =>
    intro w' hS'
    go_simp
    try with_reducible rfl
  simp only [List.setIfInBounds_toArray, List.set_cons_zero, List.set_cons_succ]
  refine take_op (i := 17) (d := 35) (v := ?_) rfl rfl (by kernel_rfl) (by kernel_rfl) (by kernel_rfl) (fun _ _ _ h => h) (Or.inl ⟨by rfl, ?hy17u65⟩) hHeld ?rest17u65
  case hy17u65 =>
    intro w' hS'
    go_simp
    try with_reducible rfl
  simp only [List.setIfInBounds_toArray, List.set_cons_zero, List.set_cons_succ]
  refine take_op (i := 18) (d := 36) (v := ?_) rfl rfl (by kernel_rfl) (by kernel_rfl) (by kernel_rfl) (fun _ _ _ h => h) (Or.inl ⟨by rfl, ?hy18u66⟩) hHeld ?rest18u66
  case hy18u66 =>
    intro w' hS'
    (obtain ⟨q0, q1, q2⟩ := tree_cells (below_row hS' H0.out)); go_simp
    try with_reducible rfl
  simp only [List.setIfInBounds_toArray, List.set_cons_zero, List.set_cons_succ]
  refine take_op (i := 19) (d := 37) (v := ?_) rfl rfl (by kernel_rfl) (by kernel_rfl) (by kernel_rfl) (fun _ _ _ h => h) (Or.inl ⟨by rfl, ?hy19u67⟩) hHeld ?rest19u67
  case hy19u67 =>
    intro w' hS'
    go_simp
    try with_reducible rfl
  simp only [List.setIfInBounds_toArray, List.set_cons_zero, List.set_cons_succ]
  refine take_op (i := 20) (d := 38) (v := ?_) rfl rfl (by kernel_rfl) (by kernel_rfl) (by kernel_rfl) (fun _ _ _ h => h) (Or.inl ⟨by rfl, ?hy20u68⟩) hHeld ?rest20u68
  case hy20u68 =>
    intro w' hS'
    go_simp
    try with_reducible rfl
  simp only [List.setIfInBounds_toArray, List.set_cons_zero, List.set_cons_succ]
  refine take_op (i := 21) (d := 6) (v := ?_) rfl rfl (by kernel_rfl) (by kernel_rfl) (by kernel_rfl) (fun _ _ _ h => h) (Or.inl ⟨by rfl, ?hy21u69⟩) hHeld ?rest21u69
  case hy21u69 =>
    intro w' hS'
    go_simp
    try with_reducible rfl
  simp only [List.setIfInBounds_toArray, List.set_cons_zero, List.set_cons_succ]
  refine wpAnyH_done (by kernel_rfl) ?_ _
  replace H0 := Lib.hid (below_row hHeld H0.out)
  replace H1 := Lib.hid (below_row hHeld H1.out)
  replace hb := hb.trans (hHeld.mono hb.size)
  clear hHeld
  go_wp2
  all_goals
    go_ret
    first | exact ⟨rfl, hb⟩ | exact ⟨ret_boolR (by unfold apT; first | rw [if_pos (by omega)] | rw [if_neg (by omega)]), hb⟩

theorem hides_any (x : Tr) (hx : TrWf x) (hs ts : List Int) (hh : hs.length = 24) (ht : ts.length = 24) (k : Nat) (hk : k < 24) (y0 : 0 ≤ atH ts (k : Int)) (y1 : atH ts (k : Int) ≤ 255) (w : World) :
    Calls Tryd.prog 72 #[.agg (treeC x), .agg (sunC hs ts), .int .i64 (k : Int)] w fun e w' => e = .returned (.bool (hidT hs ts x (k : Int))) ∧ Below w.heap.size w w' := by
  have eu : hs[k]?.getD 0 = atH hs (k : Int) := by unfold atH; rw [Int.toNat_natCast]
  have ev : ts[k]?.getD 0 = atH ts (k : Int) := by unfold atH; rw [Int.toNat_natCast]
  unfold hidT
  by_cases h0 : 0 < atH hs (k : Int)
  · rw [decide_eq_true h0, Bool.true_and]
    by_cases h1 : atH hs (k : Int) ≤ x.2.2
    · rw [decide_eq_true h1, Bool.true_and]
      exact hides_C x hx hs ts hh ht k hk _ _ eu ev ⟨y0, y1⟩ _ (decide_eq_true h0) rfl h1 w
    · rw [decide_eq_false h1, Bool.false_and]
      exact hides_B x hx hs ts hh ht k hk _ _ eu ev ⟨y0, y1⟩ _ (decide_eq_true h0) rfl (by omega) w
  · rw [decide_eq_false h0, Bool.false_and]
    exact hides_A x hx hs ts hh ht k hk _ _ eu ev ⟨y0, y1⟩ _ (decide_eq_false h0) rfl w

end Go.Proofs.YtpcmcopfdghdgaaDoor

namespace Go.Proofs.YtpcmcopfdghdgaaDoor
open Go.RowKit Go.Shelf

theorem run_store_float (P : Program) (w : World) (a : Addr) (k : FloatKind) (b : Nat) (m : Mode) : (store a (.float k b) m).run P w = stored P w a (.float k b) m := run_store P w a _ m rfl

attribute [local go_sem] Oper.semAt_some run_store_float

/-- What a sum over the hours keeps: the sun, the sum so far, whatever lay before. -/
def SumI (w : World) (hs ts : List Int) (sb : Nat) (g : Nat → Nat) (pre : List Hr) (W : World) : Prop :=
  ∃ s : Nat, pos32 s = true ∧ W.heap[w.heap.size]? = some (.cells (sunC hs ts) 37 (0, 0)) ∧ W.heap[sb]? = some (.cells #[.float .f32 s] 64 (0, 0)) ∧ (Good pre → s = sumTo g pre.length) ∧ Below w.heap.size w W

theorem keeps_of_below {W W1 : World} (hb : Below W.heap.size W W1) : KeepsOthers W W1 := by
  exact ⟨hb.size, fun b o ho _ => (hb.block b (Array.getElem?_eq_some_iff.1 ho).1).trans ho⟩

theorem sumI_own (w : World) (hs ts : List Int) (sb : Nat) (g : Nat → Nat) (B : Nat) (hB : w.heap.size ≤ B) : OwnFrom B (SumI w hs ts sb g) := by
  intro s W W' row ⟨x, hx, h0, h1, hg, hb⟩ hg' hr
  have hr2 := fun r e => (hr r e).2
  exact ⟨x, hx, heap_kept h0 hg' hr2, heap_kept h1 hg' hr2, hg, ownFrom_below (β := Unit) (Nat.le_refl _) hB () W W' row hb hg' hr⟩

theorem sum_step {w W W1 : World} {hs ts : List Int} {sb : Nat} {g : Nat → Nat} {pre : List Hr} {k : Nat} {h01 : 0 ≤ (k : Int) ∧ (k : Int) < 24} {s : Nat} (hsb : w.heap.size < sb) (hl : pre.length < 24) (hs0 : pos32 s = true) (hg0 : pos32 (g k) = true)
    (hgood : Good pre → s = sumTo g pre.length) (hk : KeepsOthers W W1) (hbW : Below w.heap.size W W1) (hH : W1.heap[w.heap.size]? = some (.cells (sunC hs ts) 37 (0, 0))) (hS : W1.heap[sb]? = some (.cells #[.float .f32 s] 64 (0, 0))) (hb : Below w.heap.size w W1) :
    KeepsOthers W (W1.setCell ⟨sb, 0, none⟩ (.float .f32 (fadd s (g k)))) ∧ Below w.heap.size W (W1.setCell ⟨sb, 0, none⟩ (.float .f32 (fadd s (g k)))) ∧ SumI w hs ts sb g (pre ++ [⟨k, h01⟩]) (W1.setCell ⟨sb, 0, none⟩ (.float .f32 (fadd s (g k)))) := by
  refine ⟨hk.trans (KeepsOthers.setCell _ _ _), hbW.setCell (p := ⟨sb, 0, none⟩) (Nat.le_of_lt hsb) _, fadd s (g k), (add_ok hs0 hg0).2, ?_, ?_, ?_, hb.setCell (p := ⟨sb, 0, none⟩) (Nat.le_of_lt hsb) _⟩
  · rw [heap_setCell_other _ _ _ _ (Nat.ne_of_lt hsb)]; exact hH
  · rw [heap_setCell_same _ _ _ _ _ _ hS]; rfl
  · intro hgs
    obtain ⟨hgp, hxk⟩ := good_snoc hgs hl
    have hkl : k = pre.length := by have : (k : Int) = (pre.length : Int) := hxk; omega
    rw [List.length_append, List.length_singleton, sumTo_succ, ← hgood hgp, hkl]

end Go.Proofs.YtpcmcopfdghdgaaDoor

namespace Go.Proofs.YtpcmcopfdghdgaaDoor
open Go.RowKit Go.Shelf

attribute [local go_sem] Oper.semAt_some run_store_float

def FallI (w : World) (hs ts : List Int) (facing : Int) (g : Nat → Nat) (pre : List Hr) (W : World) : Prop :=
  ∃ s : Nat, pos32 s = true ∧ W.heap[w.heap.size]? = some (.cells (sunC hs ts) 37 (0, 0)) ∧ W.heap[w.heap.size + 1]? = some (.cells #[.int .i64 facing] 2 (0, 0)) ∧ W.heap[w.heap.size + 1 + 1]? = some (.cells #[.float .f32 s] 64 (0, 0)) ∧ (Good pre → s = sumTo g pre.length) ∧ Below w.heap.size w W

theorem fallI_own (w : World) (hs ts : List Int) (facing : Int) (g : Nat → Nat) (B : Nat) (hB : w.heap.size ≤ B) : OwnFrom B (FallI w hs ts facing g) := by
  intro s W W' row ⟨x, hx, h0, h1, h2, hg, hb⟩ hg' hr
  have hr2 := fun r e => (hr r e).2
  exact ⟨x, hx, heap_kept h0 hg' hr2, heap_kept h1 hg' hr2, heap_kept h2 hg' hr2, hg, ownFrom_below (β := Unit) (Nat.le_refl _) hB () W W' row hb hg' hr⟩

theorem fall_step {w W W1 : World} {hs ts : List Int} {facing : Int} {g : Nat → Nat} {pre : List Hr} {k : Nat} {h01 : 0 ≤ (k : Int) ∧ (k : Int) < 24} {s : Nat} (hl : pre.length < 24) (hs0 : pos32 s = true) (hg0 : pos32 (g k) = true)
    (hgood : Good pre → s = sumTo g pre.length) (hk : KeepsOthers W W1) (hbW : Below w.heap.size W W1) (hH : W1.heap[w.heap.size]? = some (.cells (sunC hs ts) 37 (0, 0))) (hF : W1.heap[w.heap.size + 1]? = some (.cells #[.int .i64 facing] 2 (0, 0))) (hS : W1.heap[w.heap.size + 1 + 1]? = some (.cells #[.float .f32 s] 64 (0, 0))) (hb : Below w.heap.size w W1) :
    KeepsOthers W (W1.setCell ⟨w.heap.size + 1 + 1, 0, none⟩ (.float .f32 (fadd s (g k)))) ∧ Below w.heap.size W (W1.setCell ⟨w.heap.size + 1 + 1, 0, none⟩ (.float .f32 (fadd s (g k)))) ∧ FallI w hs ts facing g (pre ++ [⟨k, h01⟩]) (W1.setCell ⟨w.heap.size + 1 + 1, 0, none⟩ (.float .f32 (fadd s (g k)))) := by
  refine ⟨hk.trans (KeepsOthers.setCell _ _ _), hbW.setCell (p := ⟨w.heap.size + 1 + 1, 0, none⟩) (by simp; omega) _, fadd s (g k), (add_ok hs0 hg0).2, ?_, ?_, ?_, ?_, hb.setCell (p := ⟨w.heap.size + 1 + 1, 0, none⟩) (by simp; omega) _⟩
  · rw [heap_setCell_other _ _ _ _ (by simp; omega)]; exact hH
  · rw [heap_setCell_other _ _ _ _ (by simp)]; exact hF
  · rw [heap_setCell_same _ _ _ _ _ _ hS]; rfl
  · intro hgs
    obtain ⟨hgp, hxk⟩ := good_snoc hgs hl
    have hkl : k = pre.length := by have : (k : Int) = (pre.length : Int) := hxk; omega
    rw [List.length_append, List.length_singleton, sumTo_succ, ← hgood hgp, hkl]

end Go.Proofs.YtpcmcopfdghdgaaDoor

namespace Go.Proofs.YtpcmcopfdghdgaaDoor
open Go.ChangeShapes Go.WideShapes Go.ChangeAt Go.RowKit

/-- The light on a window of a day. -/
def dayOf (hs ts : List Int) (facing : Int) : Nat := sumTo (fun h => fallOf hs ts (h : Int) facing) 24
theorem dayOf_pos (hs ts : List Int) (facing : Int) : pos32 (dayOf hs ts facing) = true := sumTo_pos _ 24 (fun _ _ => fallB_pos _ _) 24 (Nat.le_refl _)

theorem dayOf_eq (hs ts : List Int) (facing : Int) : sumTo (fun h => fallOf hs ts (h : Int) facing) 24 = dayOf hs ts facing := rfl

end Go.Proofs.YtpcmcopfdghdgaaDoor

namespace Go.Proofs.YtpcmcopfdghdgaaDoor
open Go.ChangeShapes Go.WideShapes Go.ChangeAt Go.RowKit

/-- The first of the greatest, and where it is; what is not above 0 is never it. -/
def bestTo (g : Nat → Nat) : Nat → Nat × Nat
  | 0 => (0, 0)
  | k + 1 => if FloatKind.f32.format.order (g k) (bestTo g k).2 = some .gt then (k, g k) else bestTo g k

theorem bestTo_gt {g : Nat → Nat} {k : Nat} (h : FloatKind.f32.format.order (g k) (bestTo g k).2 = some .gt) : bestTo g (k + 1) = (k, g k) := if_pos h
theorem bestTo_no {g : Nat → Nat} {k : Nat} {o : Ordering} (h : FloatKind.f32.format.order (g k) (bestTo g k).2 = some o) (ho : o ≠ .gt) : bestTo g (k + 1) = bestTo g k := by
  show (if FloatKind.f32.format.order (g k) (bestTo g k).2 = some .gt then (k, g k) else bestTo g k) = bestTo g k
  exact if_neg (fun e => ho (by rw [h] at e; injection e))
theorem bestTo_pos {g : Nat → Nat} (hg : ∀ k, pos32 (g k) = true) : ∀ k, pos32 (bestTo g k).2 = true
  | 0 => by unfold bestTo; decide
  | k + 1 => by
    unfold bestTo
    split
    · exact hg k
    · exact bestTo_pos hg k
theorem bestTo_one {g : Nat → Nat} (h : g 0 = 0 ∨ FloatKind.f32.format.order (g 0) 0 = some .gt) : bestTo g 1 = (0, g 0) := by
  rcases h with h | h
  · unfold bestTo
    split
    · rfl
    · unfold bestTo; rw [h]
  · exact bestTo_gt (g := g) (k := 0) h
theorem litB_zero_or (l : Nat) : litB l = 0 ∨ FloatKind.f32.format.order (litB l) 0 = some .gt := by
  by_cases h : FloatKind.f32.format.order l 0 = some .gt
  · right; rw [litB_gt h]; exact h
  · left; exact if_neg h
theorem fallB_zero_or (x d : Int) : fallB x d = 0 ∨ FloatKind.f32.format.order (fallB x d) 0 = some .gt := by
  unfold fallB
  split
  · exact litB_zero_or _
  · exact .inl rfl
theorem best_pos (hs ts : List Int) (facing : Int) (k : Nat) : pos32 (bestTo (fun h => fallOf hs ts (h : Int) facing) k).2 = true := bestTo_pos (fun _ => fallB_pos _ _) k
theorem best_order (hs ts : List Int) (facing : Int) (k : Nat) : ∃ o, FloatKind.f32.format.order (fallOf hs ts (k : Int) facing) (bestTo (fun h => fallOf hs ts (h : Int) facing) k).2 = some o :=
  order_some (pos_fin (fallB_pos _ _)) (pos_fin (best_pos hs ts facing k))

end Go.Proofs.YtpcmcopfdghdgaaDoor

namespace Go.Proofs.YtpcmcopfdghdgaaDoor
open Go.RowKit Go.Shelf

attribute [local go_sem] Oper.semAt_some run_store_float

theorem list_round {P : Program} {l n : Nat} {ops : Array Oper} {Q : Exit → Act → World → Prop} (hlo : ¬ LetsOut Q) :
    ∀ (os : List Oper) (_ : ∀ o ∈ os, ∀ c, o.op ≠ .defer c) (a : Act) (w : World), wpList P ops Q os a w → wpListIn (Fence.wide.inRound l) n P ops Q os a w
  | [], _, _, _, h => h
  | o :: os, hd, a, w, h => by
    unfold wpList at h
    unfold wpListIn
    split
    · rename_i hw
      rw [if_pos hw] at h
      have h2 := h.resolve_right (fun h => hlo h.2)
      exact Oper.wpIn_mono (fun a w h => list_round hlo os (fun o ho => hd o (List.mem_cons_of_mem _ ho)) a w h) (op_round (hd o List.mem_cons_self) h2)
    · rename_i hw
      rw [if_neg hw] at h
      exact ⟨fun _ _ => trivial, list_round hlo os (fun o ho => hd o (List.mem_cons_of_mem _ ho)) _ w h⟩

/-- A region that draws no order, in a round: from the law outside. -/
theorem region_list_round {P : Program} {l n id : Nat} {os : List Oper} {Q : Exit → Act → World → Prop} {a : Act} {w : World} (hd : os.all (fun o => match o.op with | .defer _ => false | _ => true) = true) (hlo : ¬ LetsOut Q)
    (h : wpList P os.toArray Q os a w) : (Code.region id os.toArray false).wpIn (Fence.wide.inRound l) n P Q a w :=
  wpIn_region_lit (list_round hlo os (fun o ho c hc => by
    have := List.all_eq_true.1 hd o ho
    rw [hc] at this
    cases this) a w h)

theorem wp_only {P : Program} {c : Code} {K : Act → World → Prop} {Q : Exit → Act → World → Prop} {a : Act} {w : World} (h : c.wp P (Exit.then K (fun _ _ _ => False)) a w) : c.wp P (Exit.then K Q) a w :=
  Code.wp_mono (fun e a w h => by cases e <;> first | exact h | exact h.elim) h

/-- What the walk over the hours keeps: the sun, the facing, the best so far, whatever lay before. -/
def BestI (w : World) (hs ts : List Int) (facing : Int) (sb : Nat) (g : Nat → Nat) (pre : List Hr) (W : World) : Prop :=
  ∃ b s : Nat, pos32 s = true ∧ W.heap[w.heap.size]? = some (.cells (sunC hs ts) 37 (0, 0)) ∧ W.heap[w.heap.size + 1]? = some (.cells #[.int .i64 facing] 2 (0, 0)) ∧ W.heap[sb]? = some (.cells #[.int .i64 (b : Int)] 2 (0, 0)) ∧ W.heap[sb + 1]? = some (.cells #[.float .f32 s] 64 (0, 0)) ∧ (Good pre → bestTo g pre.length = (b, s)) ∧ Below w.heap.size w W

theorem bestI_own (w : World) (hs ts : List Int) (facing : Int) (sb : Nat) (g : Nat → Nat) (B : Nat) (hB : w.heap.size ≤ B) : OwnFrom B (BestI w hs ts facing sb g) := by
  intro s W W' row ⟨x, y, hx, h0, h1, h2, h3, hg, hb⟩ hg' hr
  have hr2 := fun r e => (hr r e).2
  exact ⟨x, y, hx, heap_kept h0 hg' hr2, heap_kept h1 hg' hr2, heap_kept h2 hg' hr2, heap_kept h3 hg' hr2, hg, ownFrom_below (β := Unit) (Nat.le_refl _) hB () W W' row hb hg' hr⟩

theorem best_snoc {g : Nat → Nat} {pre : List Hr} {k : Nat} {h01 : 0 ≤ (k : Int) ∧ (k : Int) < 24} {bs bs' : Nat × Nat} (hl : pre.length < 24) (hgood : Good pre → bestTo g pre.length = bs) (hn : bestTo g k = bs → bestTo g (k + 1) = bs') (hgs : Good (pre ++ [⟨k, h01⟩])) :
    bestTo g (pre ++ [(⟨k, h01⟩ : Hr)]).length = bs' := by
  obtain ⟨hgp, hxk⟩ := good_snoc hgs hl
  have hkl : k = pre.length := by have : (k : Int) = (pre.length : Int) := hxk; omega
  rw [List.length_append, List.length_singleton, ← hkl]
  exact hn (by rw [hkl]; exact hgood hgp)

theorem best_keep {w W W2 : World} {hs ts : List Int} {facing : Int} {sb : Nat} {g : Nat → Nat} {pre : List Hr} {k : Nat} {h01 : 0 ≤ (k : Int) ∧ (k : Int) < 24} {b s : Nat} {o : Ordering} (hl : pre.length < 24) (hs0 : pos32 s = true)
    (ho : FloatKind.f32.format.order (g k) s = some o) (hgt : o ≠ .gt)
    (hgood : Good pre → bestTo g pre.length = (b, s)) (hk : KeepsOthers W W2) (hbW : Below w.heap.size W W2) (hH : W2.heap[w.heap.size]? = some (.cells (sunC hs ts) 37 (0, 0))) (hF : W2.heap[w.heap.size + 1]? = some (.cells #[.int .i64 facing] 2 (0, 0))) (hB : W2.heap[sb]? = some (.cells #[.int .i64 (b : Int)] 2 (0, 0))) (hS : W2.heap[sb + 1]? = some (.cells #[.float .f32 s] 64 (0, 0))) (hb : Below w.heap.size w W2) :
    KeepsOthers W W2 ∧ Below w.heap.size W W2 ∧ BestI w hs ts facing sb g (pre ++ [⟨k, h01⟩]) W2 := by
  refine ⟨hk, hbW, b, s, hs0, hH, hF, hB, hS, best_snoc hl hgood (fun e => ?_), hb⟩
  exact (bestTo_no (g := g) (k := k) (by rw [e]; exact ho) hgt).trans e

theorem best_take {w W W2 : World} {hs ts : List Int} {facing : Int} {sb : Nat} {g : Nat → Nat} {pre : List Hr} {k : Nat} {h01 : 0 ≤ (k : Int) ∧ (k : Int) < 24} {b s : Nat} (hsb : w.heap.size + 1 < sb) (hl : pre.length < 24) (hg0 : pos32 (g k) = true)
    (ho : FloatKind.f32.format.order (g k) s = some .gt)
    (hgood : Good pre → bestTo g pre.length = (b, s)) (hk : KeepsOthers W W2) (hbW : Below w.heap.size W W2) (hH : W2.heap[w.heap.size]? = some (.cells (sunC hs ts) 37 (0, 0))) (hF : W2.heap[w.heap.size + 1]? = some (.cells #[.int .i64 facing] 2 (0, 0))) (hB : W2.heap[sb]? = some (.cells #[.int .i64 (b : Int)] 2 (0, 0))) (hS : W2.heap[sb + 1]? = some (.cells #[.float .f32 s] 64 (0, 0))) (hb : Below w.heap.size w W2) :
    let W3 := (W2.setCell ⟨sb, 0, none⟩ (.int .i64 (k : Int))).setCell ⟨sb + 1, 0, none⟩ (.float .f32 (g k))
    KeepsOthers W W3 ∧ Below w.heap.size W W3 ∧ BestI w hs ts facing sb g (pre ++ [⟨k, h01⟩]) W3 := by
  refine ⟨(hk.trans (KeepsOthers.setCell _ _ _)).trans (KeepsOthers.setCell _ _ _), (hbW.setCell (p := ⟨sb, 0, none⟩) (by simp; omega) _).setCell (p := ⟨sb + 1, 0, none⟩) (by simp; omega) _, k, g k, hg0, ?_, ?_, ?_, ?_, best_snoc hl hgood (fun e => ?_), (hb.setCell (p := ⟨sb, 0, none⟩) (by simp; omega) _).setCell (p := ⟨sb + 1, 0, none⟩) (by simp; omega) _⟩
  · rw [heap_setCell_other _ _ _ _ (by simp; omega), heap_setCell_other _ _ _ _ (by simp; omega)]; exact hH
  · rw [heap_setCell_other _ _ _ _ (by simp; omega), heap_setCell_other _ _ _ _ (by simp; omega)]; exact hF
  · rw [heap_setCell_other _ _ _ _ (by simp), heap_setCell_same _ _ _ _ _ _ hB]; rfl
  · rw [heap_setCell_same _ _ _ _ _ _ ((heap_setCell_other _ ⟨sb, 0, none⟩ _ _ (by simp)).trans hS)]; rfl
  · exact bestTo_gt (g := g) (k := k) (by rw [e]; exact ho)

end Go.Proofs.YtpcmcopfdghdgaaDoor

namespace Go.Proofs.YtpcmcopfdghdgaaDoor
open Go.ChangeShapes Go.WideShapes Go.ChangeAt Go.RowKit Go.Shelf Go.Deep Go.Joins Go.ChangeMaps Go.MapKept

attribute [local go_sem] Oper.semAt_some run_store_f

theorem laid_allT (cs vs : Array Value) (h : cs.size = vs.size) : laid cs vs 0 = vs := by
  apply Array.ext'
  simp [laid]
  rw [← h]; simp

theorem rwT (V : World) (o : Obj) (cs : Array Value) : Below V.heap.size V ((V.alloc o).setRow V.heap.size cs) := below_setRow ((Below.refl _ _).alloc (Nat.le_refl _) _) (Nat.le_refl _) _

theorem kept_obj {W W' : World} {b : Nat} {o : Obj} (hb : Below W.heap.size W W') (h : W.heap[b]? = some o) : W'.heap[b]? = some o := (hb.block b (Array.getElem?_eq_some_iff.1 h).1).trans h

theorem marks_kept {W W' : World} {lo : Nat} {Ds : List Nat} (h : MarksAt W lo Ds) (hb : Below W.heap.size W W') : MarksAt W' lo Ds := marks_to h (fun _ _ hd => kept_obj hb hd)

theorem take_any_seen {trs : List Tr} {k : Nat} {x : Tr} (hx : trs[k]? = some x) (hm : x ∈ trs.take k) (p : Tr → Bool) : (trs.take (k + 1)).any p = (trs.take k).any p := by
  obtain ⟨hk, e⟩ := List.getElem?_eq_some_iff.1 hx
  rw [List.take_succ_eq_append_getElem hk, e, List.any_append]
  cases h : p x with
  | false => simp [h]
  | true =>
    rw [List.any_eq_true.2 ⟨x, hm, h⟩]; rfl

theorem take_any_new {trs : List Tr} {k : Nat} {x : Tr} (hx : trs[k]? = some x) (p : Tr → Bool) : (trs.take (k + 1)).any p = ((trs.take k).any p || p x) := by
  obtain ⟨hk, e⟩ := List.getElem?_eq_some_iff.1 hx
  rw [List.take_succ_eq_append_getElem hk, e, List.any_append]
  simp

theorem mem_take_succ {trs : List Tr} {k : Nat} {x y : Tr} (hx : trs[k]? = some x) (h : y ∈ trs.take k ∨ y = x) : y ∈ trs.take (k + 1) := by
  obtain ⟨hk, e⟩ := List.getElem?_eq_some_iff.1 hx
  rw [List.take_succ_eq_append_getElem hk, e, List.mem_append, List.mem_singleton]
  exact h

set_option maxRecDepth 100000 in
set_option maxHeartbeats 8000000 in
theorem hiddenBy_any (sv : Value) (trs : List Tr) (hwf : ∀ x ∈ trs, TrWf x) (hs ts : List Int) (hh : hs.length = 24) (ht : ts.length = 24) (hy : ∀ k : Nat, k < 24 → 0 ≤ atH ts (k : Int) ∧ atH ts (k : Int) ≤ 255) (w : World) (hts : TreesAt w sv trs) :
    Calls Tryd.prog 51 #[sv, .agg (sunC hs ts)] w fun e w' => e = .returned (.int .u32 ((maskN (fun k => trs.any (fun x => hidT hs ts x (k : Int))) 24 : Nat) : Int)) ∧ Below w.heap.size w w' := by
  refine (callsIn_wide (n := 4)).1 ?_
  have HHI := Lib.hid (fun (x : Tr) (hx : TrWf x) (k : Nat) (hk : k < 24) V => hides_any x hx hs ts hh ht k hk (hy k hk).1 (hy k hk).2 V)
  have HWF := Lib.hid hwf
  have Hh := Lib.hid hh
  have Ht := Lib.hid ht
  have HT := Lib.hid hts
  have hmm := @run_makeMap Tryd.prog
  obtain ⟨a0, cap0, esv, hl1, hl2, -⟩ := hts
  subst esv
  unfold maxLen at hl2
  clear hwf hh ht hy
  refine callsIn_of_wp_marks Tryd.func51 rfl trivial ?_ rfl
  simp only [Tryd.ntmps51, List.size_toArray, List.length_cons, List.length_nil, Nat.reduceAdd, Nat.reduceSub, Array.replicate_succ, Array.replicate_zero, List.push_toArray, List.append_toArray, List.nil_append, List.cons_append]
  refine wpIn_wide.2 ?_
  go_upto_region 3 with (fail)
  refine abs_world (fun W => W.heap[w.heap.size]? = some (.cells (sunC hs ts) 37 (0, 0)) ∧ W.heap[w.heap.size + 1]? = some (.cells #[.int .u32 0] 50 (0, 0)) ∧ W.heap[w.heap.size + 1 + 1]? = some (.map #[] 0) ∧ Below w.heap.size w W) ?_ ?_
  · refine ⟨kept_obj ((Below.refl _ _).alloc (Nat.le_refl _) _) (box2 w (.cells (sunC hs ts) 37) (.cells #[.int .u32 0] 50)).1, kept_obj ((Below.refl _ _).alloc (Nat.le_refl _) _) (box2 w (.cells (sunC hs ts) 37) (.cells #[.int .u32 0] 50)).2.1, ?_, (box2 w (.cells (sunC hs ts) 37) (.cells #[.int .u32 0] 50)).2.2.alloc (by simp; omega) _⟩
    have h := heap_alloc_new ((w.alloc (.cells (sunC hs ts) 37)).alloc (.cells #[.int .u32 0] 50)) (.map #[] 0)
    simpa using h
  rintro W ⟨h0, hg, hm, hb⟩
  generalize hmb : w.heap.size + 1 + 1 = mb at *
  generalize hgb : w.heap.size + 1 = g at *
  have n0g : w.heap.size < g := by omega
  have ngm : g < mb := by omega
  clear hmb hgb
  go_upto_region 4 with (fail)
  refine (wpIn_wide (n := 4)).1 ?_
  refine wpIn_loop (fun a wr => ∃ (Ds : List Nat) (u8 u9 u14 u15 u16 u17 u18 u19 u20 u21 u22 u23 u24 u25 u26 u27 u28 u29 u30 u31 : Value) (k : Nat), (k ≤ trs.length ∧ wr.heap[w.heap.size]? = some (.cells (sunC hs ts) 37 (0, 0)) ∧ wr.heap[g]? = some (.cells #[.int .u32 ((maskN (fun h => (trs.take k).any (fun y => hidT hs ts y (h : Int))) 24 : Nat) : Int)] 50 (0, 0)) ∧ (∃ es clock seen, wr.heap[mb]? = some (.map es clock) ∧ Looked es seen ∧ ∀ y ∈ seen, y ∈ trs.take k) ∧ MarksAt wr w.heap.size Ds ∧ Below w.heap.size w wr) ∧ a = { tmps := #[.slice a0 trs.length cap0, .agg (sunC hs ts), undef, .pointer (some ⟨w.heap.size, 0, none⟩), .int .u32 0, .pointer (some ⟨g, 0, none⟩), .map (some mb), undef, u8, u9, .map (some mb), .slice a0 trs.length cap0, .int .i64 (trs.length : Int), .int .i64 (k : Int), u14, u15, u16, u17, u18, u19, u20, u21, u22, u23, u24, u25, u26, u27, u28, u29, u30, u31, undef], defers := Ds.map mkD }) (fun a _ => trs.length - (intOf (a.tmps.getD 13 undef)).toNat) ?h0 ?round
  case h0 =>
    refine ⟨[], _, _, _, _, _, _, _, _, _, _, _, _, _, _, _, _, _, _, _, _, 0, ⟨Nat.zero_le _, h0, ?_, ⟨#[], 0, [], hm, looked_nil, fun y hy => by cases hy⟩, marks_nil _ _, hb⟩, rfl⟩
    rw [hg]
    rfl
  case round =>
    clear h0 hg hm hb
    rintro a wr ⟨Ds, u8, u9, u14, u15, u16, u17, u18, u19, u20, u21, u22, u23, u24, u25, u26, u27, u28, u29, u30, u31, k, ⟨hk, h0, hg, ⟨es, clock, seen, hm, hlk, hse⟩, hmk, hb⟩, rfl⟩
    refine wpIn_wide.2 ?_
    have H0 := Lib.hid h0
    have HGB := Lib.hid hg
    have HM := Lib.hid hm
    have HLK := Lib.hid hlk
    have HSE := Lib.hid hse
    have HMK := Lib.hid hmk
    clear h0 hg hm hlk hse hmk
    by_cases hlt : k < trs.length
    · have hx : trs[k]? = some (trs[k]'hlt) := List.getElem?_eq_getElem _
      obtain ⟨gt, o, rfl, hc⟩ := tree_at (trees_below HT.out hb) hx
      have HC := Lib.hid hc
      generalize (trs[k]'hlt) = x at *
      have HX := Lib.hid hx
      have HXW := Lib.hid (HWF.out x (List.mem_of_getElem? hx))
      have z1 : (k : Int) < (trs.length : Int) := by omega
      have z2 : (0 : Int) ≤ (k : Int) := by omega
      have z3 : IntKind.i64.wrap ((k : Int) + 1) = (k : Int) + 1 := by rw [IntWalk.i64_in _ (by omega)]
      clear hc hx
      go_upto_region 6 with (first | (refine wpList_load_cells rfl 85 _ rfl gt (o + k * 3) 3 rfl _ Tryd.underlying85 rfl info_tree (treeC x) rfl HC.out ?_) | (refine wpList_store_part rfl 85 _ _ rfl _ 0 (treeC x) rfl rfl 85 _ (heap_alloc_new _ _) info_tree (Nat.le_refl _) (tree_one _) ?_; rw [laid_allT _ _ (by rfl)]))
      refine abs_world (fun V => V.heap[w.heap.size]? = some (.cells (sunC hs ts) 37 (0, 0)) ∧ V.heap[g]? = some (.cells #[.int .u32 ((maskN (fun h => (trs.take k).any (fun y => hidT hs ts y (h : Int))) 24 : Nat) : Int)] 50 (0, 0)) ∧ V.heap[mb]? = some (.map es clock) ∧ V.heap[wr.heap.size]? = some (.cells (treeC x) 85 (0, 0)) ∧ MarksAt V w.heap.size Ds ∧ Below w.heap.size w V) ⟨kept_obj (rwT _ _ _) H0.out, kept_obj (rwT _ _ _) HGB.out, kept_obj (rwT _ _ _) HM.out, setRow_heap _ _ _ _ _ _ (heap_alloc_new _ _), marks_kept HMK.out (rwT _ _ _), hb.trans ((rwT _ _ _).mono hb.size)⟩ ?_
      have htm : mb < wr.heap.size := (Array.getElem?_eq_some_iff.1 HM.out).1
      clear H0 HGB HM HMK hb
      generalize wr.heap.size = tb at *
      rintro V ⟨h0, hg, hm, htr, hmk, hb⟩
      have H0 := Lib.hid h0
      have HGB := Lib.hid hg
      have HM := Lib.hid hm
      have HTR := Lib.hid htr
      have HMK := Lib.hid hmk
      clear h0 hg hm htr hmk
      rcases look_tree HLK.out HM.out HXW.out with ⟨hsx, hrun⟩ | ⟨hnx, hrun⟩
      · have HMASK : Hid (maskN (fun h => (trs.take (k + 1)).any (fun y => hidT hs ts y (h : Int))) 24 = maskN (fun h => (trs.take k).any (fun y => hidT hs ts y (h : Int))) 24) := Lib.hid (mask_congr (fun h _ => take_any_seen HX.out (HSE.out x hsx) _))
        have HS2 := Lib.hid (fun y hy => mem_take_succ HX.out (.inl (HSE.out y hy)))
        clear hsx
        go_wp2_with (first | (refine wpList_load_part rfl 85 _ rfl tb 0 3 rfl 85 (treeC x) (0, 0) _ HTR.out Tryd.underlying85 rfl info_tree (tree_fits _) _ (tree_all _) ?_) | (refine wpList_lookup_run rfl _ _ 111 false rfl (.map (some mb)) (.agg (treeC x)) (.bool true) rfl rfl hrun ?_))
        refine ⟨⟨Ds, _, _, _, _, _, _, _, _, _, _, _, _, _, _, _, _, _, _, _, _, k + 1, ⟨by omega, H0.out, ?_, ⟨es, clock, seen, HM.out, HLK.out, HS2.out⟩, HMK.out, hb⟩, rfl⟩, ?_⟩
        · rw [HMASK.out]; exact HGB.out
        · simp [intOf]; omega
      · have HMASK : Hid (maskN (fun h => (trs.take (k + 1)).any (fun y => hidT hs ts y (h : Int))) 24 = (maskN (fun h => (trs.take k).any (fun y => hidT hs ts y (h : Int))) 24) ||| maskN (fun h => hidT hs ts x (h : Int)) 24) := Lib.hid (by rw [mask_or]; exact mask_congr (fun h _ => take_any_new HX.out _))
        have HS2 : Hid (∀ y ∈ seen ++ [x], y ∈ trs.take (k + 1)) := Lib.hid (fun y hy => mem_take_succ HX.out (by rcases List.mem_append.1 hy with h | h; exact .inl (HSE.out y h); exact .inr (List.mem_singleton.1 h)))
        have HPU := Lib.hid (looked_push HLK.out HXW.out clock)
        go_wp2_with (first | (refine wpList_load_part rfl 85 _ rfl tb 0 3 rfl 85 (treeC x) (0, 0) _ HTR.out Tryd.underlying85 rfl info_tree (tree_fits _) _ (tree_all _) ?_) | (refine wpList_lookup_run rfl _ _ 111 false rfl (.map (some mb)) (.agg (treeC x)) (.bool false) rfl rfl hrun ?_) | (refine wpList_mapUpdate_new rfl _ _ _ 111 rfl 85 4 kT_law Tryd.underlying111 mb es clock HM.out rfl (.agg (treeC x)) (.bool true) rfl rfl (kT_key HXW.out) (looked_keys HLK.out) (looked_ne HLK.out hnx) ?_))
        rename_i K hcont _
        dsimp only [Act.put]
        simp only [List.setIfInBounds_toArray, List.set_cons_zero, List.set_cons_succ]
        have hDm : ∀ D, V.heap[D]? = some (.deferred (some [])) → D ≠ mb := fun D hD e => by rw [e, HM.out] at hD; cases hD
        refine abs_world (fun V2 => V2.heap[w.heap.size]? = some (.cells (sunC hs ts) 37 (0, 0)) ∧ V2.heap[g]? = some (.cells #[.int .u32 ((maskN (fun h => (trs.take k).any (fun y => hidT hs ts y (h : Int))) 24 : Nat) : Int)] 50 (0, 0)) ∧ V2.heap[mb]? = some (.map (es.push { key := .agg (treeC x), val := .bool true, born := clock }) (clock + 1)) ∧ V2.heap[tb]? = some (.cells (treeC x) 85 (0, 0)) ∧ MarksAt V2 w.heap.size Ds ∧ Below w.heap.size w V2) ⟨(heap_setBlock_other HM.out _ (by omega)).trans H0.out, (heap_setBlock_other HM.out _ (by omega)).trans HGB.out, heap_setBlock_same HM.out _, (heap_setBlock_other HM.out _ (by omega)).trans HTR.out, marks_to HMK.out (fun D _ hd => (heap_setBlock_other HM.out _ (hDm D hd)).trans hd), below_setBlock hb (by omega) HM.out⟩ ?_
        clear H0 HGB HM HTR HMK hb hDm hrun HLK HSE hnx
        rintro V2 ⟨h0, hg, hm, htr, hmk, hb⟩
        have H0 := Lib.hid h0
        have HGB := Lib.hid hg
        have HM := Lib.hid hm
        have HTR := Lib.hid htr
        have HMK := Lib.hid hmk
        have hgV : g < V2.heap.size := (Array.getElem?_eq_some_iff.1 hg).1
        have hlV : w.heap.size ≤ V2.heap.size := hb.size
        have hmz : maskN (fun h => (trs.take k).any (fun y => hidT hs ts y (h : Int))) 24 < 4294967296 := Nat.lt_of_lt_of_le (mask_lt (fun h => (trs.take k).any (fun y => hidT hs ts y (h : Int))) 24) (by decide)
        clear h0 hg hm htr hmk
        refine (wpIn_wide (n := 4)).1 ?_
        refine wpIn_rangeFunc_ownF rfl (by decide) (gf := 53) (lb := #[]) rfl trivial (enters_of Tryd.func53 (by kernel_rfl) rfl)
          (eachHour_stops Fence.wide _ trivial rfl (by decide) w.heap.size _) belowK_t (belowK_b hlV) (Below.refl _ _) (fun _ => rfl)
          (HidI w w.heap.size V2 g (fun h => hidT hs ts x (h : Int)) (maskN (fun h => (trs.take k).any (fun y => hidT hs ts y (h : Int))) 24)) (fun _ _ _ => False) (hidI_own w _ V2 g _ _ (Nat.le_refl _) hgV hlV) (fun _ _ _ _ _ hs _ _ => hs) ?h0
          (fun hx => { tmps := #[.slice (some ⟨gt, o, none⟩) trs.length cap0, .agg (sunC hs ts), undef, .pointer (some ⟨w.heap.size, 0, none⟩), .int .u32 0, .pointer (some ⟨g, 0, none⟩), .map (some mb), undef, .pointer (some ⟨tb, 0, none⟩), .int .i64 hx.1, .map (some mb), .slice (some ⟨gt, o, none⟩) trs.length cap0, .int .i64 (trs.length : Int), .int .i64 (k : Int), .bool true, .pointer (some ⟨gt, o + k * 3, none⟩), .agg (treeC x), .map (some mb), .agg (treeC x), .bool false, .map (some mb), .agg (treeC x), .int .i64 hx.1, u23, u24, u25, u26, u27, u28, u29, u30, u31, undef], defers := [] }) ?assign ?body ?done ?stop
        case h0 => exact ⟨_, hmz, HGB.out, fun _ => by show _ = _ ||| 0; rw [Nat.or_zero], fun b o ho _ => ho, Nat.le_refl _, hb⟩
        case assign =>
          intro l hx W K hK
          gi_wp2
          exact hK
        case body =>
          rintro l pre ⟨xh, hx0, hx1⟩ W2 hI hl
          obtain ⟨j, rfl⟩ := Int.eq_ofNat_of_zero_le hx0
          have hj : j < 24 := by omega
          have HII := Lib.hid hI
          obtain ⟨z, hz, hc, hgd, hkp, hsz, hbw⟩ := hI
          have H0b := Lib.hid (hkp _ _ H0.out (by omega))
          have HTb := Lib.hid (hkp _ _ HTR.out (by omega))
          have HC2 := Lib.hid (HHI.out x HXW.out j hj)
          have HCc := Lib.hid hc
          have HGD := Lib.hid hgd
          have HKP := Lib.hid hkp
          obtain ⟨hor, hpw⟩ := or_u32 hz hj
          have w1 : IntKind.i64.wrap (j : Int) = (j : Int) := by rw [IntWalk.i64_in _ (by omega)]
          have w2 : IntKind.u64.wrap (j : Int) = (j : Int) := by rw [IntWalk.u64_in _ (by omega)]
          have w3 : (j : Int) ≤ 32 := by omega
          have w4 : IntKind.u32.wrap ((2 : Int) ^ j) = (2 : Int) ^ j := hpw
          clear hc hgd hkp
          refine wpIn_block (wpIn_seq ?_)
          refine region_list_round (by rfl) (fun ⟨_, _, h⟩ => h) ?_
          cases hq : hidT hs ts x (j : Int) with
          | false =>
            have HQ := Lib.hid hq
            rw [hq] at HC2
            clear hq
            go_wp2_with (first | (refine wpList_load_part rfl 85 _ rfl tb 0 3 rfl 85 (treeC x) (0, 0) _ HTb.out Tryd.underlying85 rfl info_tree (tree_fits _) _ (tree_all _) ?_) | (refine wpList_load_part rfl 37 _ rfl w.heap.size 0 48 rfl 37 (sunC hs ts) (0, 0) _ H0b.out Tryd.underlying37 rfl info_sun (sun_fits _ _ Hh.out Ht.out) _ (sun_all _ _ Hh.out Ht.out) ?_) | (go_at_call 72; refine (HC2.out _).mono ?_; rintro e W3 ⟨rfl, hb1⟩))
            gi_wp2
            exact hid_miss hl HII.out hb1 HQ.out (Nat.le_refl _)
          | true =>
            have HQ := Lib.hid hq
            rw [hq] at HC2
            clear hq
            go_wp2_with (first | (refine wpList_load_part rfl 85 _ rfl tb 0 3 rfl 85 (treeC x) (0, 0) _ HTb.out Tryd.underlying85 rfl info_tree (tree_fits _) _ (tree_all _) ?_) | (refine wpList_load_part rfl 37 _ rfl w.heap.size 0 48 rfl 37 (sunC hs ts) (0, 0) _ H0b.out Tryd.underlying37 rfl info_sun (sun_fits _ _ Hh.out Ht.out) _ (sun_all _ _ Hh.out Ht.out) ?_) | (go_at_call 72; refine (HC2.out _).mono ?_; rintro e W3 ⟨rfl, hb1⟩))
            have hBW : Below W2.heap.size W2 W3.drew := hb1.drew
            have hcd : W3.drew.heap[g]? = some (.cells #[.int .u32 (z : Int)] 50 (0, 0)) := kept_obj hBW HCc.out
            have hcell : W3.drew.cell? ⟨g, 0, none⟩ = some (.int .u32 (z : Int)) := by rw [cell_of_row _ _ _ _ _ _ hcd]; rfl
            have hfr := frozen_of_row W3.drew g 0 _ _ hcd
            gi_wp2
            refine region_round (S := (fun _ => True)) arrU (no_defer (by rfl)) (fun ⟨_, _, h⟩ => h) trivial (fun hHeld => ?_)
            refine take_at (i := 1) (d := 28) (v := ?_) rfl rfl (by kernel_rfl) (by kernel_rfl) (by kernel_rfl) (fun _ _ _ h => h) (Or.inl ⟨by rfl, ?hy1r1⟩) hHeld ?rest1r1
            case hy1r1 =>
              intro w' hS'
              go_simp
              try with_reducible rfl
            simp only [List.setIfInBounds_toArray, List.set_cons_zero, List.set_cons_succ]
            refine take_at (i := 2) (d := 29) (v := ?_) rfl rfl (by kernel_rfl) (by kernel_rfl) (by kernel_rfl) (fun _ _ _ h => h) (Or.inl ⟨by rfl, ?hy2r2⟩) hHeld ?rest2r2
            case hy2r2 =>
              intro w' hS'
              go_simp
              try with_reducible rfl
            simp only [List.setIfInBounds_toArray, List.set_cons_zero, List.set_cons_succ]
            refine wpAnyH_ready (rs := [0]) (by kernel_rfl) (by simp) ?_
            refine AllReadyH.cons rfl (fun K hK => ?_) AllReadyH.nil
            go_simp
            refine hK.out _ _ trivial (fun hHeld2 => ?_)
            clear hK K hHeld2
            refine take_at (i := 3) (d := 30) (v := ?_) rfl rfl (by kernel_rfl) (by kernel_rfl) (by kernel_rfl) (fun _ _ _ h => h) (Or.inl ⟨by rfl, ?hy3r3⟩) hHeld ?rest3r3
            case hy3r3 =>
              intro w' hS'
              go_simp
              try with_reducible rfl
            simp only [List.setIfInBounds_toArray, List.set_cons_zero, List.set_cons_succ]
            refine wpAnyH_ready (rs := [4]) (by kernel_rfl) (by simp) ?_
            refine AllReadyH.cons rfl (fun K hK => ?_) AllReadyH.nil
            go_simp
            refine hK.out _ _ trivial (fun hHeld2 => ?_)
            clear hK K hHeld2
            refine wpAnyH_done (by kernel_rfl) ?_ _
            gi_wp2
            exact hid_hit hl hz HCc.out HGD.out HKP.out hsz hbw hBW HQ.out (by omega) (Nat.le_refl _)
        case done =>
          rintro D zs W2 hD rfl ⟨z, hz, hc, hgd, hkp, hsz, hbw⟩ hK
          have hz2 := hgd good_all
          rw [hrs_length] at hz2
          have h0 := Lib.hid (hkp _ _ H0.out (by omega))
          have hm := Lib.hid (hkp _ _ HM.out (by omega))
          have HMK2 := Lib.hid (marks_cons HMK.out hD (by omega) hK (fun E hE hd => hkp E _ hd (fun e => by rw [e, HGB.out] at hd; cases hd)))
          have HC9 := Lib.hid hc
          have HZ2 := Lib.hid (hz2.trans HMASK.out.symm)
          clear hgd hkp hz2 hc hK
          refine hcont _ _ ?_
          go_wp2
          refine ⟨⟨D :: Ds, _, _, _, _, _, _, _, _, _, _, _, _, _, _, _, _, _, _, _, _, k + 1, ⟨by omega, h0.out, ?_, ⟨_, _, _, hm.out, HPU.out, HS2.out⟩, HMK2.out, hbw⟩, rfl⟩, ?_⟩
          · rw [← HZ2.out]; exact HC9.out
          · simp [intOf]; omega
        case stop =>
          rintro D c pre W2 _ _ h _
          exact h.elim
    · obtain rfl : k = trs.length := by omega
      have hg := HGB.out
      rw [List.take_length] at hg
      have hcg : wr.cell? ⟨g, 0, none⟩ = some (.int .u32 (((maskN (fun h => trs.any (fun y => hidT hs ts y (h : Int))) 24 : Nat)) : Int)) := by rw [cell_of_row _ _ _ _ _ _ hg]; rfl
      clear hg
      go_wp2
      exact leaves_marks Ds _ HMK.out hb (fun w' hb' => ⟨_, results_tmp (fn := Tryd.f51) (t := 4) rfl _ _ _, rfl, hb'⟩)

end Go.Proofs.YtpcmcopfdghdgaaDoor
