/-
  For every two awnings: whether they are the same is what the model says. No conditions.
-/
import Derived.Test.YtbmnjepaipphnabSameF
import Derived.Test.YtbmnjepaipphnabAwA
import Derived.Test.YtbmnjepaipphnabBox
import Derived.Test.YtbmnjepaipphnabTake
import Derived.Test.YtbmnjepaipphnabLeave
namespace Go.Proofs.Ytbmnjepaipphnab
open Go.ChangeShapes Go.WideShapes Go.ChangeAt Go.RowKit Go.Deep Go.Joins

attribute [local go_sem] run_store_f

theorem ret_boolA {a b : Bool} (h : a = b) : Ending.returned (.bool a) = .returned (.bool b) := by rw [h]
/-- Whether all numbers of two awnings are the same. -/
def sameAw (o d g t o' d' g' t' : Nat) : Bool := sameB o o' && sameB d d' && sameB g g' && sameB t t'
theorem sameAw_list (o d g t o' d' g' t' : Nat) : sameL [o, d, g, t] [o', d', g', t'] = sameAw o d g t o' d' g' t' := by
  simp [sameL, sameAw, Bool.and_assoc]

set_option maxRecDepth 100000 in
set_option maxHeartbeats 1000000 in
theorem equalFn_any (g1 g2 : Nat) (xs ys : List Nat) (n : Nat) (hx : xs.length = n) (hy : ys.length = n) (hn : n ≤ 1000) (w : World)
    (c1 : ∀ (k : Nat) x, xs[k]? = some x → w.cell? ⟨g1, k, none⟩ = some (.float .f32 x)) (c2 : ∀ (k : Nat) x, ys[k]? = some x → w.cell? ⟨g2, k, none⟩ = some (.float .f32 x)) :
    Calls Try.prog 53 #[.slice (some ⟨g1, 0, none⟩) n n, .slice (some ⟨g2, 0, none⟩) n n, .func (.func 55) #[] #[]] w fun e w' => e = .returned (.bool (sameL xs ys)) ∧ w = w' := by
  have HX := Lib.hid hx
  have HY := Lib.hid hy
  have C1 := Lib.hid c1
  have C2 := Lib.hid c2
  have zn : ((n : Int) != (n : Int)) = false := by simp
  clear hx hy c1 c2
  go_enter Try.func53, Try.ntmps53
  go_wp2
  go_loop [17] (fun i => ∃ k : Nat, k ≤ n ∧ i = .int .i64 k ∧ sameL (xs.take k) (ys.take k) = true) (fun i => n - (intOf i).toNat)
  case atStart => exact ⟨0, Nat.zero_le _, rfl, rfl⟩
  case round =>
    obtain ⟨k, hk, rfl, hs⟩ := hrel
    have HS := Lib.hid hs
    clear hs
    by_cases hlt : k < n
    · have hx : xs[k]? = some (xs[k]'(by rw [HX.out]; exact hlt)) := List.getElem?_eq_getElem _
      have hy : ys[k]? = some (ys[k]'(by rw [HY.out]; exact hlt)) := List.getElem?_eq_getElem _
      generalize (xs[k]'(by rw [HX.out]; exact hlt)) = x at *
      generalize (ys[k]'(by rw [HY.out]; exact hlt)) = y at *
      have q1 := C1.out k x hx
      have q2 := C2.out k y hy
      have KX := Lib.hid hx
      have KY := Lib.hid hy
      have HC := Lib.hid (fun w => SameNumber_is x y w)
      clear hx hy
      cases hb : sameB x y with
      | true =>
        rw [hb] at HC
        have HB := Lib.hid hb
        clear hb
        go_wp2_with (go_at_call 55; refine (HC.out _).mono ?_; rintro e w' ⟨rfl, rfl⟩)
        go_round
        case rel => exact ⟨k + 1, by omega, by go_num, by rw [sameL_take KX.out KY.out, HS.out, HB.out]; rfl⟩
        case measure => simp [intOf]; omega
      | false =>
        rw [hb] at HC
        have HR := Lib.hid (sameL_miss KX.out KY.out hb)
        clear hb
        go_wp2_with (go_at_call 55; refine (HC.out _).mono ?_; rintro e w' ⟨rfl, rfl⟩)
        go_ret
        exact ⟨ret_boolA HR.out.symm, rfl⟩
    · obtain rfl : k = n := by omega
      have HR : Hid (sameL xs ys = true) := by
        unfold Hid
        have h := HS.out
        rwa [List.take_of_length_le (by rw [HX.out]; exact Nat.le_refl _), List.take_of_length_le (by rw [HY.out]; exact Nat.le_refl _)] at h
      go_wp2
      go_ret
      exact ⟨ret_boolA HR.out.symm, rfl⟩

def RetNum (o dr gp tl : Nat) (w : World) (e : Ending) (w' : World) : Prop := ∃ g, e = .returned (.slice (some ⟨g, 0, none⟩) 4 4) ∧ w'.heap[g]? = some (.cells (awC o dr gp tl) 22 (0, 0)) ∧ Below w.heap.size w w'
set_option maxRecDepth 100000 in
set_option maxHeartbeats 1000000 in
theorem numbersOf_any (o dr gp tl : Nat) (w : World) : Calls Try.prog 54 #[.agg (awC o dr gp tl)] w fun e w' => RetNum o dr gp tl w e w' := by
  go_enter Try.func54, Try.ntmps54
  go_upto_region 1 with (fail)
  refine abs_world (fun W => Below w.heap.size w W ∧ W.heap[w.heap.size]? = some (.cells (awC o dr gp tl) 26 (0, 0))) ⟨(Below.refl _ _).alloc (Nat.le_refl _) _, heap_alloc_new _ _⟩ ?_
  rintro W ⟨hb, h0⟩
  obtain ⟨c0, c1, c2, c3⟩ := aw_cells h0
  clear h0
  go_wp2
  go_ret
  exact ⟨_, rfl, heap_alloc_new _ _, hb.alloc hb.size _⟩

theorem cells_list {W : World} {g : Nat} {o d g' t : Nat} {T : TypeId} {fr : Nat × Nat} (h : W.heap[g]? = some (.cells (awC o d g' t) T fr)) : ∀ (k : Nat) x, [o, d, g', t][k]? = some x → W.cell? ⟨g, k, none⟩ = some (.float .f32 x) := by
  obtain ⟨c0, c1, c2, c3⟩ := aw_cells h
  intro k x hx
  match k, hx with
  | 0, hx => simp at hx; subst hx; exact c0
  | 1, hx => simp at hx; subst hx; exact c1
  | 2, hx => simp at hx; subst hx; exact c2
  | 3, hx => simp at hx; subst hx; exact c3
  | k + 4, hx => simp at hx

set_option maxRecDepth 100000 in
set_option maxHeartbeats 1000000 in
theorem implSameAwning_any (o d g t o' d' g' t' : Nat) (w : World) :
    Calls Try.prog 17 #[.agg (awC o d g t), .agg (awC o' d' g' t')] w fun e w' => e = .returned (.bool (sameAw o d g t o' d' g' t')) ∧ Below w.heap.size w w' := by
  go_enter Try.func17, Try.ntmps17
  go_upto_region 1 with (fail)
  refine abs_world (fun W => W.heap[w.heap.size]? = some (.cells (awC o d g t) 26 (0, 0)) ∧ W.heap[w.heap.size + 1]? = some (.cells (awC o' d' g' t') 26 (0, 0)) ∧ Below w.heap.size w W) (box2 w (.cells (awC o d g t) 26) (.cells (awC o' d' g' t') 26)) ?_
  rintro W ⟨h0, h1, hb⟩
  generalize w.heap.size + 1 = b1 at *
  have H0 := Lib.hid h0
  have H1 := Lib.hid h1
  clear h0 h1
  refine wp_region_held_drew (S := (fun V => Below W.heap.size W V)) (by kernel_rfl) (Below.refl _ _).drew (fun hHeld => ?_)
  refine take_op (i := 0) (d := 5) (v := .agg (awC o d g t)) rfl rfl (by kernel_rfl) (by kernel_rfl) (by kernel_rfl) (fun _ _ _ h => h) (yields_row (by rfl) 26 (.tmp 2) (by rfl) w.heap.size 0 4 (by rfl) 26 (awC o d g t) (0, 0) _ (fun _ h => below_row h H0.out) Try.underlying26 rfl info_aw (aw_fits _ _ _ _) (awC o d g t) (aw_all _ _ _ _)) hHeld ?_
  simp only [List.setIfInBounds_toArray, List.set_cons_zero, List.set_cons_succ]
  refine take_op (i := 2) (d := 7) (v := .agg (awC o' d' g' t')) rfl rfl (by kernel_rfl) (by kernel_rfl) (by kernel_rfl) (fun _ _ _ h => h) (yields_row (by rfl) 26 (.tmp 3) (by rfl) b1 0 4 (by rfl) 26 (awC o' d' g' t') (0, 0) _ (fun _ h => below_row h H1.out) Try.underlying26 rfl info_aw (aw_fits _ _ _ _) (awC o' d' g' t') (aw_all _ _ _ _)) hHeld ?_
  simp only [List.setIfInBounds_toArray, List.set_cons_zero, List.set_cons_succ]
  refine wpAnyH_ready (rs := [1]) (by kernel_rfl) (by simp) ?_
  refine AllReadyH.cons rfl (fun K hK => ?_) AllReadyH.nil
  go_simp
  refine (numbersOf_any o d g t _).mono ?_
  rintro e W1 ⟨q1, rfl, hq1, hb1⟩
  have HQ1 := Lib.hid hq1
  clear hq1
  refine hK.out _ _ (hHeld.trans (hb1.mono hHeld.size)) (fun hHeld2 => ?_)
  clear hK K
  replace hHeld := hHeld2
  clear hHeld2
  clear hb1
  refine wpAnyH_ready (rs := [3]) (by kernel_rfl) (by simp) ?_
  refine AllReadyH.cons rfl (fun K hK => ?_) AllReadyH.nil
  go_simp
  refine (numbersOf_any o' d' g' t' _).mono ?_
  rintro e W2 ⟨q2, rfl, hq2, hb2⟩
  replace HQ1 := Lib.hid (below_row hb2 HQ1.out)
  have HQ2 := Lib.hid hq2
  clear hq2
  refine hK.out _ _ (hHeld.trans (hb2.mono hHeld.size)) (fun hHeld2 => ?_)
  clear hK K
  replace hHeld := hHeld2
  clear hHeld2
  clear hb2
  refine wpAnyH_ready (rs := [4]) (by kernel_rfl) (by simp) ?_
  refine AllReadyH.cons rfl (fun K hK => ?_) AllReadyH.nil
  go_simp
  refine (equalFn_any q1 q2 [o, d, g, t] [o', d', g', t'] 4 rfl rfl (by decide) _ (cells_list HQ1.out) (cells_list HQ2.out)).mono ?_
  rintro e w3 ⟨rfl, rfl⟩
  refine hK.out _ _ (hHeld) (fun hHeld2 => ?_)
  clear hK K
  replace hHeld := hHeld2
  clear hHeld2
  refine take_op (i := 5) (d := 4) (v := ?_) rfl rfl (by kernel_rfl) (by kernel_rfl) (by kernel_rfl) (fun _ _ _ h => h) (Or.inl ⟨by rfl, ?hy5u1⟩) hHeld ?rest5u1
  case hy5u1 =>
    intro w' hS'
    go_simp
    try with_reducible rfl
  simp only [List.setIfInBounds_toArray, List.set_cons_zero, List.set_cons_succ]
  refine wpAnyH_done (by kernel_rfl) ?_ _
  replace H0 := Lib.hid (below_row hHeld H0.out)
  replace H1 := Lib.hid (below_row hHeld H1.out)
  replace hb := hb.trans (hHeld.mono hb.size)
  clear hHeld
  go_wp2
  go_ret
  exact ⟨ret_boolA (sameAw_list _ _ _ _ _ _ _ _), hb⟩

set_option maxRecDepth 100000 in
set_option maxHeartbeats 1000000 in
theorem specSameAwning_any (o d g t o' d' g' t' : Nat) (w : World) :
    Calls Try.prog 16 #[.agg (awC o d g t), .agg (awC o' d' g' t')] w fun e w' => e = .returned (.bool (sameAw o d g t o' d' g' t')) ∧ Below w.heap.size w w' := by
  go_enter Try.func16, Try.ntmps16
  go_upto_region 1 with (fail)
  refine abs_world (fun W => W.heap[w.heap.size]? = some (.cells (awC o d g t) 26 (0, 0)) ∧ W.heap[w.heap.size + 1]? = some (.cells (awC o' d' g' t') 26 (0, 0)) ∧ Below w.heap.size w W) (box2 w (.cells (awC o d g t) 26) (.cells (awC o' d' g' t') 26)) ?_
  rintro W ⟨h0, h1, hb⟩
  generalize w.heap.size + 1 = b1 at *
  have H0 := Lib.hid h0
  have H1 := Lib.hid h1
  clear h0 h1
  obtain ⟨c0, c1, c2, c3⟩ := aw_cells H0.out
  obtain ⟨k0, k1, k2, k3⟩ := aw_cells H1.out
  go_wp2_with (go_at_call 52; refine (l01Same_is _ _ _).mono ?_; rintro e w' ⟨rfl, rfl⟩)
  all_goals
    go_ret
    refine ⟨ret_boolA ?_, hb⟩
    first | (simp only [sameAw, Bool.and_assoc]; done) | (simp [sameAw, *]; done)

set_option maxRecDepth 100000 in
set_option maxHeartbeats 1000000 in
theorem FnExactSameAwning_core (ao ad ag al : Nat) (bo bd bg bl : Nat) (v0 : Bool) 
    (hspec : ∀ w, Calls Try.prog 16 #[.agg (awC ao ad ag al), .agg (awC bo bd bg bl)] w fun e w' => e = .returned (.bool v0) ∧ Below w.heap.size w w')
    (himpl : ∀ w, Calls Try.prog 17 #[.agg (awC ao ad ag al), .agg (awC bo bd bg bl)] w fun e w' => e = .returned (.bool v0) ∧ Below w.heap.size w w') (w : World) :
    Calls Try.prog 4 #[.agg (awC ao ad ag al), .agg (awC bo bd bg bl)] w fun e w' => e = .returned (.bool true) ∧ Below w.heap.size w w' := by
  have HS := Lib.hid hspec
  have HI := Lib.hid himpl
  clear hspec himpl
  go_enter Try.func4, Try.ntmps4
  go_upto_region 1 with (fail)
  refine abs_world (fun W => W.heap[w.heap.size]? = some (.cells (awC ao ad ag al) 24 (0, 0)) ∧ W.heap[w.heap.size + 1]? = some (.cells (awC bo bd bg bl) 24 (0, 0)) ∧ Below w.heap.size w W) (box2 w (.cells (awC ao ad ag al) 24) (.cells (awC bo bd bg bl) 24)) ?_
  rintro W ⟨h0, h1, hb⟩
  generalize w.heap.size + 1 = b1 at *
  have H0 := Lib.hid h0
  have H1 := Lib.hid h1
  clear h0 h1
  refine wp_region_held_drew (S := (fun V => Below W.heap.size W V)) (by kernel_rfl) (Below.refl _ _).drew (fun hHeld => ?_)
  refine take_op (i := 0) (d := 7) (v := .agg (awC ao ad ag al)) rfl rfl (by kernel_rfl) (by kernel_rfl) (by kernel_rfl) (fun _ _ _ h => h) (yields_row (by rfl) 24 (.tmp 2) (by rfl) w.heap.size 0 4 (by rfl) 24 (awC ao ad ag al) (0, 0) _ (fun _ h => below_row h H0.out) Try.underlying24 rfl info_awL (aw_fits _ _ _ _) (awC ao ad ag al) (aw_all _ _ _ _)) hHeld ?_
  simp only [List.setIfInBounds_toArray, List.set_cons_zero, List.set_cons_succ]
  refine take_op (i := 2) (d := 9) (v := .agg (awC bo bd bg bl)) rfl rfl (by kernel_rfl) (by kernel_rfl) (by kernel_rfl) (fun _ _ _ h => h) (yields_row (by rfl) 24 (.tmp 3) (by rfl) b1 0 4 (by rfl) 24 (awC bo bd bg bl) (0, 0) _ (fun _ h => below_row h H1.out) Try.underlying24 rfl info_awL (aw_fits _ _ _ _) (awC bo bd bg bl) (aw_all _ _ _ _)) hHeld ?_
  simp only [List.setIfInBounds_toArray, List.set_cons_zero, List.set_cons_succ]
  refine wpAnyH_ready (rs := [1]) (by kernel_rfl) (by simp) ?_
  refine AllReadyH.cons rfl (fun K hK => ?_) AllReadyH.nil
  go_simp
  refine (toAwning_any _ _ _ _ _).mono ?_
  rintro e W1 ⟨rfl, hb1⟩
  refine hK.out _ _ (hHeld.trans (hb1.mono hHeld.size)) (fun hHeld2 => ?_)
  clear hK K
  replace hHeld := hHeld2
  clear hHeld2
  clear hb1
  refine wpAnyH_ready (rs := [3]) (by kernel_rfl) (by simp) ?_
  refine AllReadyH.cons rfl (fun K hK => ?_) AllReadyH.nil
  go_simp
  refine (toAwning_any _ _ _ _ _).mono ?_
  rintro e W2 ⟨rfl, hb2⟩
  refine hK.out _ _ (hHeld.trans (hb2.mono hHeld.size)) (fun hHeld2 => ?_)
  clear hK K
  replace hHeld := hHeld2
  clear hHeld2
  clear hb2
  refine wpAnyH_ready (rs := [4]) (by kernel_rfl) (by simp) ?_
  refine AllReadyH.cons rfl (fun K hK => ?_) AllReadyH.nil
  go_simp
  refine (HS.out _).mono ?_
  rintro e W3 ⟨rfl, hb3⟩
  refine hK.out _ _ (hHeld.trans (hb3.mono hHeld.size)) (fun hHeld2 => ?_)
  clear hK K
  replace hHeld := hHeld2
  clear hHeld2
  clear hb3
  refine take_op (i := 5) (d := 5) (v := ?_) rfl rfl (by kernel_rfl) (by kernel_rfl) (by kernel_rfl) (fun _ _ _ h => h) (Or.inl ⟨by rfl, ?hy5u2⟩) hHeld ?rest5u2
  case hy5u2 =>
    intro w' hS'
    go_simp
    try with_reducible rfl
  simp only [List.setIfInBounds_toArray, List.set_cons_zero, List.set_cons_succ]
  refine wpAnyH_done (by kernel_rfl) ?_ _
  replace H0 := Lib.hid (below_row hHeld H0.out)
  replace H1 := Lib.hid (below_row hHeld H1.out)
  replace hb := hb.trans (hHeld.mono hb.size)
  clear hHeld
  go_upto_region 2 with (fail)
  refine wp_region_held_drew (S := (fun V => Below W3.heap.size W3 V)) (by kernel_rfl) (Below.refl _ _).drew (fun hHeld => ?_)
  refine take_op (i := 0) (d := 12) (v := .agg (awC ao ad ag al)) rfl rfl (by kernel_rfl) (by kernel_rfl) (by kernel_rfl) (fun _ _ _ h => h) (yields_row (by rfl) 24 (.tmp 2) (by rfl) w.heap.size 0 4 (by rfl) 24 (awC ao ad ag al) (0, 0) _ (fun _ h => below_row h H0.out) Try.underlying24 rfl info_awL (aw_fits _ _ _ _) (awC ao ad ag al) (aw_all _ _ _ _)) hHeld ?_
  simp only [List.setIfInBounds_toArray, List.set_cons_zero, List.set_cons_succ]
  refine take_op (i := 2) (d := 14) (v := .agg (awC bo bd bg bl)) rfl rfl (by kernel_rfl) (by kernel_rfl) (by kernel_rfl) (fun _ _ _ h => h) (yields_row (by rfl) 24 (.tmp 3) (by rfl) b1 0 4 (by rfl) 24 (awC bo bd bg bl) (0, 0) _ (fun _ h => below_row h H1.out) Try.underlying24 rfl info_awL (aw_fits _ _ _ _) (awC bo bd bg bl) (aw_all _ _ _ _)) hHeld ?_
  simp only [List.setIfInBounds_toArray, List.set_cons_zero, List.set_cons_succ]
  refine wpAnyH_ready (rs := [1]) (by kernel_rfl) (by simp) ?_
  refine AllReadyH.cons rfl (fun K hK => ?_) AllReadyH.nil
  go_simp
  refine (toAwning_any _ _ _ _ _).mono ?_
  rintro e W4 ⟨rfl, hb4⟩
  refine hK.out _ _ (hHeld.trans (hb4.mono hHeld.size)) (fun hHeld2 => ?_)
  clear hK K
  replace hHeld := hHeld2
  clear hHeld2
  clear hb4
  refine wpAnyH_ready (rs := [3]) (by kernel_rfl) (by simp) ?_
  refine AllReadyH.cons rfl (fun K hK => ?_) AllReadyH.nil
  go_simp
  refine (toAwning_any _ _ _ _ _).mono ?_
  rintro e W5 ⟨rfl, hb5⟩
  refine hK.out _ _ (hHeld.trans (hb5.mono hHeld.size)) (fun hHeld2 => ?_)
  clear hK K
  replace hHeld := hHeld2
  clear hHeld2
  clear hb5
  refine wpAnyH_ready (rs := [4]) (by kernel_rfl) (by simp) ?_
  refine AllReadyH.cons rfl (fun K hK => ?_) AllReadyH.nil
  go_simp
  refine (HI.out _).mono ?_
  rintro e W6 ⟨rfl, hb6⟩
  refine hK.out _ _ (hHeld.trans (hb6.mono hHeld.size)) (fun hHeld2 => ?_)
  clear hK K
  replace hHeld := hHeld2
  clear hHeld2
  clear hb6
  refine take_op (i := 5) (d := 6) (v := ?_) rfl rfl (by kernel_rfl) (by kernel_rfl) (by kernel_rfl) (fun _ _ _ h => h) (Or.inl ⟨by rfl, ?hy5u3⟩) hHeld ?rest5u3
  case hy5u3 =>
    intro w' hS'
    go_simp
    try with_reducible rfl
  simp only [List.setIfInBounds_toArray, List.set_cons_zero, List.set_cons_succ]
  refine wpAnyH_done (by kernel_rfl) ?_ _
  replace H0 := Lib.hid (below_row hHeld H0.out)
  replace H1 := Lib.hid (below_row hHeld H1.out)
  replace hb := hb.trans (hHeld.mono hb.size)
  clear hHeld
  go_wp2_with (fail)
  go_ret
  exact ⟨rfl, hb⟩

theorem lawSameAwning_walk (o d g t : Nat) (_ : AwWf o d g t) (o' d' g' t' : Nat) (_ : AwWf o' d' g' t') (w : World) :
    Calls Try.prog 4 #[.agg (awC o d g t), .agg (awC o' d' g' t')] w fun e w' => e = .returned (.bool true) ∧ Below w.heap.size w w' :=
  FnExactSameAwning_core o d g t o' d' g' t' _ (fun w => specSameAwning_any o d g t o' d' g' t' w) (fun w => implSameAwning_any o d g t o' d' g' t' w) w

set_option maxRecDepth 100000 in
theorem FnExactSameAwning_holds : Rows.FnExactSameAwningSaid :=
  OpenClaim.holds_of_wide_leaving 4 Try.f4 rfl rfl rfl rfl rfl rfl rfl ⟨rfl, rfl, rfl, rfl, rfl⟩ rfl rfl rfl rfl rfl (by kernel_rfl) Try.func4 (by kernel_rfl)
    (of_decide_eq_true (by kernel_rfl)) (by unfold Func.isWrapper; first | (rw [if_pos (by decide +kernel)]; kernel_rfl) | (rw [if_neg (by decide +kernel)]; exact ⟨rfl, rfl⟩))
    (fun os started H enc _ => leaving_of_handed (law_lifted 4 Try.f4 Rows.fnExactSameAwningSpec Rows.fnExactSameAwningRow.domain os started H enc (by kernel_rfl) Try.func4 rfl rfl
      (by rw [Try.params4]; intro t ht; simp only [List.mem_cons, List.not_mem_nil, or_false] at ht; rcases ht with rfl | rfl <;> exact ⟨by kernel_rfl, of_decide_eq_true (by kernel_rfl)⟩)
      (fun ds hl => by
        match ds, hl with
        | [d0, d1], _ => rfl)
      (ChangeSpec.witness6 (enc := enc) (C := Try.checked) false ⟨#[], #[.agg #[.float .f32 0, .float .f32 0, .float .f32 0, .float .f32 0], .agg #[.float .f32 0, .float .f32 0, .float .f32 0, .float .f32 0]], []⟩ 8 (by kernel_rfl) (by kernel_rfl) (by kernel_rfl) (by kernel_rfl))
      (fun W base args ds p hval hA => by
        rw [Try.params4] at hA hval
        obtain ⟨v0, vs0, d0, ds0, p0, q0, hargs, rfl, rfl, h0, r0⟩ := trodAll_cons hA
        obtain ⟨v1, vs1, d1, ds1, p1, q1, rfl, rfl, rfl, h1, r1⟩ := trodAll_cons r0
        obtain ⟨rfl, rfl, rfl⟩ := trodAll_nil r1
        obtain rfl : args = #[v0, v1] := by cases args; simp_all
        obtain ⟨ao0, ad0, ag0, at0, aw0, rfl⟩ := open_aw (hval 0 24 v0 rfl rfl) h0
        obtain ⟨ao1, ad1, ag1, at1, aw1, rfl⟩ := open_aw (hval 1 24 v1 rfl rfl) h1
        exact lawSameAwning_walk ao0 ad0 ag0 at0 aw0 ao1 ad1 ag1 at1 aw1 W )))
#print axioms FnExactSameAwning_holds

end Go.Proofs.Ytbmnjepaipphnab
