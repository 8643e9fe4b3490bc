/-
  For every two suns, valid or not: whether they are equal is what the model says. No conditions.
-/
import Derived.Test.YtadonkadkikfpaaValid
import Derived.Test.YtadonkadkikfpaaOpen
namespace Go.Proofs.Ytadonkadkikfpaa
open Go.ChangeShapes Go.WideShapes Go.ChangeAt Go.RowKit

set_option maxRecDepth 100000 in
set_option maxHeartbeats 1000000 in
theorem lawSameSun_walk (h1 t1 : List Int) (a1 : h1.length = 24) (b1 : t1.length = 24) (h2 t2 : List Int) (a2 : h2.length = 24) (b2 : t2.length = 24) (w : World) :
    Calls Try.prog 6 #[.agg (sunC h1 t1), .agg (sunC h2 t2)] w fun e w' => e = .returned (.bool true) ∧ Below w.heap.size w w' := by
  have A1 := Lib.hid a1
  have A2 := Lib.hid a2
  have B1 := Lib.hid b1
  have B2 := Lib.hid b2
  clear a1 a2 b1 b2
  go_enter Try.func6, Try.ntmps6
  go_wp2
  refine wp_region_held_drew (S := (fun W => W.heap[w.heap.size]? = some (.cells (sunC h1 t1) 30 (0, 0)) ∧ W.heap[w.heap.size + 1]? = some (.cells (sunC h2 t2) 30 (0, 0)) ∧ Below w.heap.size w W)) (by kernel_rfl) ⟨heap_alloc2_old _ _ _, heap_alloc2_new _ _ _, (((Below.refl _ _).alloc (Nat.le_refl _) _).alloc (by simp) _).drew⟩ (fun hHeld => ?_)
  refine take_at (i := 0) (d := 7) (v := .agg (sunC h1 t1)) rfl rfl (by kernel_rfl) (by kernel_rfl) (by kernel_rfl) (fun _ _ _ h => h) (yields_part (by rfl) 30 (.tmp 2) (by rfl) w.heap.size 0 48 (by rfl) 30 (sunC h1 t1) (0, 0) _ (fun _ h => h.1) Try.underlying30 rfl info_sunL (sun_fits _ _ A1.out B1.out) (sunC h1 t1) (sun_all _ _ A1.out B1.out)) hHeld ?_
  simp only [List.setIfInBounds_toArray, List.set_cons_zero, List.set_cons_succ]
  refine take_at (i := 2) (d := 9) (v := .agg (sunC h2 t2)) rfl rfl (by kernel_rfl) (by kernel_rfl) (by kernel_rfl) (fun _ _ _ h => h) (yields_part (by rfl) 30 (.tmp 3) (by rfl) (w.heap.size + 1) 0 48 (by rfl) 30 (sunC h2 t2) (0, 0) _ (fun _ h => h.2.1) Try.underlying30 rfl info_sunL (sun_fits _ _ A2.out B2.out) (sunC h2 t2) (sun_all _ _ A2.out B2.out)) hHeld ?_
  simp only [List.setIfInBounds_toArray, List.set_cons_zero, List.set_cons_succ]
  refine wpAnyH_ready (rs := [1]) (by kernel_rfl) (by simp) ?_
  refine AllReadyH.cons rfl (fun K hK => ?_) AllReadyH.nil
  go_simp
  refine (toSun_any h1 t1 A1.out B1.out _).mono ?_
  rintro e W1 ⟨rfl, hb1⟩
  refine hK.out _ _ (⟨below_row hb1 hHeld.1, below_row hb1 hHeld.2.1, hHeld.2.2.trans (hb1.mono hHeld.2.2.size)⟩) (fun hHeld2 => ?_)
  clear hK K
  replace hHeld := hHeld2
  clear hHeld2
  refine wpAnyH_ready (rs := [3]) (by kernel_rfl) (by simp) ?_
  refine AllReadyH.cons rfl (fun K hK => ?_) AllReadyH.nil
  go_simp
  refine (toSun_any h2 t2 A2.out B2.out _).mono ?_
  rintro e W1 ⟨rfl, hb1⟩
  refine hK.out _ _ (⟨below_row hb1 hHeld.1, below_row hb1 hHeld.2.1, hHeld.2.2.trans (hb1.mono hHeld.2.2.size)⟩) (fun hHeld2 => ?_)
  clear hK K
  replace hHeld := hHeld2
  clear hHeld2
  refine wpAnyH_ready (rs := [4]) (by kernel_rfl) (by simp) ?_
  refine AllReadyH.cons rfl (fun K hK => ?_) AllReadyH.nil
  go_simp
  refine (specSameSun_any h1 t1 h2 t2 A1.out B1.out A2.out B2.out _).mono ?_
  rintro e W1 ⟨rfl, hb1⟩
  refine hK.out _ _ (⟨below_row hb1 hHeld.1, below_row hb1 hHeld.2.1, hHeld.2.2.trans (hb1.mono hHeld.2.2.size)⟩) (fun hHeld2 => ?_)
  clear hK K
  replace hHeld := hHeld2
  clear hHeld2
  refine take_at (i := 5) (d := 5) (v := ?_) rfl rfl (by kernel_rfl) (by kernel_rfl) (by kernel_rfl) (fun _ _ _ h => h) (Or.inl ⟨by rfl, ?hy5u1⟩) hHeld ?rest5u1
  case hy5u1 =>
    intro w' hS'
    go_simp
    try with_reducible rfl
  simp only [List.setIfInBounds_toArray, List.set_cons_zero, List.set_cons_succ]
  refine wpAnyH_done (by kernel_rfl) ?_ _
  go_wp2
  refine wp_region_held_drew (S := (fun W => W.heap[w.heap.size]? = some (.cells (sunC h1 t1) 30 (0, 0)) ∧ W.heap[w.heap.size + 1]? = some (.cells (sunC h2 t2) 30 (0, 0)) ∧ Below w.heap.size w W)) (by kernel_rfl) ⟨hHeld.1, hHeld.2.1, hHeld.2.2.drew⟩ (fun hHeld => ?_)
  refine take_at (i := 0) (d := 12) (v := .agg (sunC h1 t1)) rfl rfl (by kernel_rfl) (by kernel_rfl) (by kernel_rfl) (fun _ _ _ h => h) (yields_part (by rfl) 30 (.tmp 2) (by rfl) w.heap.size 0 48 (by rfl) 30 (sunC h1 t1) (0, 0) _ (fun _ h => h.1) Try.underlying30 rfl info_sunL (sun_fits _ _ A1.out B1.out) (sunC h1 t1) (sun_all _ _ A1.out B1.out)) hHeld ?_
  simp only [List.setIfInBounds_toArray, List.set_cons_zero, List.set_cons_succ]
  refine take_at (i := 2) (d := 14) (v := .agg (sunC h2 t2)) rfl rfl (by kernel_rfl) (by kernel_rfl) (by kernel_rfl) (fun _ _ _ h => h) (yields_part (by rfl) 30 (.tmp 3) (by rfl) (w.heap.size + 1) 0 48 (by rfl) 30 (sunC h2 t2) (0, 0) _ (fun _ h => h.2.1) Try.underlying30 rfl info_sunL (sun_fits _ _ A2.out B2.out) (sunC h2 t2) (sun_all _ _ A2.out B2.out)) hHeld ?_
  simp only [List.setIfInBounds_toArray, List.set_cons_zero, List.set_cons_succ]
  refine wpAnyH_ready (rs := [1]) (by kernel_rfl) (by simp) ?_
  refine AllReadyH.cons rfl (fun K hK => ?_) AllReadyH.nil
  go_simp
  refine (toSun_any h1 t1 A1.out B1.out _).mono ?_
  rintro e W1 ⟨rfl, hb1⟩
  refine hK.out _ _ (⟨below_row hb1 hHeld.1, below_row hb1 hHeld.2.1, hHeld.2.2.trans (hb1.mono hHeld.2.2.size)⟩) (fun hHeld2 => ?_)
  clear hK K
  replace hHeld := hHeld2
  clear hHeld2
  refine wpAnyH_ready (rs := [3]) (by kernel_rfl) (by simp) ?_
  refine AllReadyH.cons rfl (fun K hK => ?_) AllReadyH.nil
  go_simp
  refine (toSun_any h2 t2 A2.out B2.out _).mono ?_
  rintro e W1 ⟨rfl, hb1⟩
  refine hK.out _ _ (⟨below_row hb1 hHeld.1, below_row hb1 hHeld.2.1, hHeld.2.2.trans (hb1.mono hHeld.2.2.size)⟩) (fun hHeld2 => ?_)
  clear hK K
  replace hHeld := hHeld2
  clear hHeld2
  refine wpAnyH_ready (rs := [4]) (by kernel_rfl) (by simp) ?_
  refine AllReadyH.cons rfl (fun K hK => ?_) AllReadyH.nil
  go_simp
  refine (implSameSun_any h1 t1 h2 t2 A1.out B1.out A2.out B2.out _).mono ?_
  rintro e W1 ⟨rfl, hb1⟩
  refine hK.out _ _ (⟨below_row hb1 hHeld.1, below_row hb1 hHeld.2.1, hHeld.2.2.trans (hb1.mono hHeld.2.2.size)⟩) (fun hHeld2 => ?_)
  clear hK K
  replace hHeld := hHeld2
  clear hHeld2
  refine take_at (i := 5) (d := 6) (v := ?_) rfl rfl (by kernel_rfl) (by kernel_rfl) (by kernel_rfl) (fun _ _ _ h => h) (Or.inl ⟨by rfl, ?hy5u2⟩) hHeld ?rest5u2
  case hy5u2 =>
    intro w' hS'
    go_simp
    try with_reducible rfl
  simp only [List.setIfInBounds_toArray, List.set_cons_zero, List.set_cons_succ]
  refine wpAnyH_done (by kernel_rfl) ?_ _
  go_wp2
  go_ret
  exact ⟨rfl, hHeld.2.2⟩

set_option maxRecDepth 100000 in
theorem FnExactSameSun_holds : Rows.FnExactSameSunSaid :=
  OpenClaim.holds_of_wide 6 Try.f6 rfl rfl rfl rfl rfl rfl rfl ⟨rfl, rfl, rfl, rfl, rfl⟩ rfl rfl rfl rfl rfl (by kernel_rfl) Try.func6 (by kernel_rfl)
    (of_decide_eq_true (by kernel_rfl)) (by unfold Func.isWrapper; first | (rw [if_pos (by decide +kernel)]; kernel_rfl) | (rw [if_neg (by decide +kernel)]; exact ⟨rfl, rfl⟩))
    (fun os started H enc _ => law_lifted 6 Try.f6 Rows.fnExactSameSunSpec Rows.fnExactSameSunRow.domain os started H enc (by kernel_rfl) Try.func6 rfl rfl
      (by rw [Try.params6]; intro t ht; simp only [List.mem_cons, List.not_mem_nil, or_false] at ht; rcases ht with rfl | rfl <;> exact ⟨by kernel_rfl, of_decide_eq_true (by kernel_rfl)⟩)
      (fun ds hl => by
        match ds, hl with
        | [d0, d1], _ => rfl)
      (ChangeSpec.witness6 (enc := enc) (C := Try.checked) false ⟨#[], #[.agg #[.int .i16 0, .int .i16 0, .int .i16 0, .int .i16 0, .int .i16 0, .int .i16 0, .int .i16 0, .int .i16 0, .int .i16 0, .int .i16 0, .int .i16 0, .int .i16 0, .int .i16 0, .int .i16 0, .int .i16 0, .int .i16 0, .int .i16 0, .int .i16 0, .int .i16 0, .int .i16 0, .int .i16 0, .int .i16 0, .int .i16 0, .int .i16 0, .int .i16 0, .int .i16 0, .int .i16 0, .int .i16 0, .int .i16 0, .int .i16 0, .int .i16 0, .int .i16 0, .int .i16 0, .int .i16 0, .int .i16 0, .int .i16 0, .int .i16 0, .int .i16 0, .int .i16 0, .int .i16 0, .int .i16 0, .int .i16 0, .int .i16 0, .int .i16 0, .int .i16 0, .int .i16 0, .int .i16 0, .int .i16 0], .agg #[.int .i16 0, .int .i16 0, .int .i16 0, .int .i16 0, .int .i16 0, .int .i16 0, .int .i16 0, .int .i16 0, .int .i16 0, .int .i16 0, .int .i16 0, .int .i16 0, .int .i16 0, .int .i16 0, .int .i16 0, .int .i16 0, .int .i16 0, .int .i16 0, .int .i16 0, .int .i16 0, .int .i16 0, .int .i16 0, .int .i16 0, .int .i16 0, .int .i16 0, .int .i16 0, .int .i16 0, .int .i16 0, .int .i16 0, .int .i16 0, .int .i16 0, .int .i16 0, .int .i16 0, .int .i16 0, .int .i16 0, .int .i16 0, .int .i16 0, .int .i16 0, .int .i16 0, .int .i16 0, .int .i16 0, .int .i16 0, .int .i16 0, .int .i16 0, .int .i16 0, .int .i16 0, .int .i16 0, .int .i16 0]], []⟩ 8 (by kernel_rfl) (by kernel_rfl) (by kernel_rfl) (by kernel_rfl))
      (fun W base args ds p hval hA => by
        rw [Try.params6] at hA hval
        obtain ⟨v0, vs0, d0, ds0, p0, q0, hargs, rfl, rfl, h0, r0⟩ := trodAll_cons hA
        obtain ⟨v1, vs1, d1, ds1, p1, q1, rfl, rfl, rfl, h1, r1⟩ := trodAll_cons r0
        obtain ⟨rfl, rfl, rfl⟩ := trodAll_nil r1
        obtain rfl : args = #[v0, v1] := by cases args; simp_all
        obtain ⟨hs0, ts0, hh0, ht0, rb0, rfl⟩ := open_sun (hval 0 30 v0 rfl rfl) h0
        obtain ⟨hs1, ts1, hh1, ht1, rb1, rfl⟩ := open_sun (hval 1 30 v1 rfl rfl) h1
        exact lawSameSun_walk hs0 ts0 hh0 ht0 hs1 ts1 hh1 ht1 W))
#print axioms FnExactSameSun_holds

end Go.Proofs.Ytadonkadkikfpaa
