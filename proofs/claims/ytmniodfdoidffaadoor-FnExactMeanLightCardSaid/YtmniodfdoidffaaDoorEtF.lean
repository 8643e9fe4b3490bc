/-
  Two maps of light that are the same are told to be so.
-/
import Derived.Test.YtmniodfdoidffaaDoorEtD
import Derived.Test.YtmniodfdoidffaaDoorSameN
import Derived.Test.YtmniodfdoidffaaDoorRoomF
namespace Go.Proofs.YtmniodfdoidffaaDoor
open Go.ChangeShapes Go.WideShapes Go.ChangeAt Go.RowKit Go.Deep Go.Joins

attribute [local go_sem] run_store_floatE

set_option maxRecDepth 100000 in
set_option maxHeartbeats 4000000 in
theorem eqA10_any (xs : List Nat) (hx : xs.length = 10) (hv : ∀ x ∈ xs, fin32 x = true) (w : World) :
    Calls Tryd.prog 75 #[.agg (mpC xs), .agg (mpC xs)] w fun e w' => e = .returned (.bool true) ∧ Below w.heap.size w w' := by
  have Hx := Lib.hid hx
  have HVs := Lib.hid hv
  clear hx hv
  go_enter Tryd.func75, Tryd.ntmps75
  go_upto_region 1 with (fail)
  refine abs_code (fun W => W.heap[w.heap.size]? = some (.cells (mpC xs) 38 (0, 0)) ∧ W.heap[w.heap.size + 1]? = some (.cells (mpC xs) 38 (0, 0)) ∧ Below w.heap.size w W) (two_at w (.cells (mpC xs) 38) (.cells (mpC xs) 38)) ?_
  rintro W ⟨h0, h1, hb⟩
  generalize w.heap.size + 1 = b1 at *
  go_upto_region 2 with (fail)
  go_loopw [5] (fun i wr => ∃ k : Nat, k ≤ 10 ∧ i = .int .i64 k ∧ wr.heap[w.heap.size]? = some (.cells (mpC xs) 38 (0, 0)) ∧ wr.heap[b1]? = some (.cells (mpC xs) 38 (0, 0)) ∧ Below w.heap.size w wr) (fun i _ => 10 - (intOf i).toNat)
  case atStart => exact ⟨0, Nat.zero_le _, rfl, h0, h1, hb⟩
  case round =>
    clear h0 h1 hb
    obtain ⟨k, hk, rfl, h0, h1, hb⟩ := hrel
    by_cases hlt : k < 10
    · have ex : xs[k]? = some (xs[k]'(by rw [Hx.out]; exact hlt)) := List.getElem?_eq_getElem _
      have EX : Hid (xs[k]?.getD 0 = (xs[k]'(by rw [Hx.out]; exact hlt))) := by rw [ex]; rfl
      have hv := HVs.out _ (List.mem_of_getElem? ex)
      generalize (xs[k]'(by rw [Hx.out]; exact hlt)) = x at *
      have hw0 := run_wide _ hv
      have HV := Lib.hid hv
      have H0 := Lib.hid h0
      have H1 := Lib.hid h1
      have z1 : (k : Int) < 10 := by omega
      have z2 : (0 : Int) ≤ (k : Int) := by omega
      clear h0 h1 ex hv
      go_wp2
      refine wp_region_held_drew (S := (fun W => W.heap[w.heap.size]? = some (.cells (mpC xs) 38 (0, 0)) ∧ W.heap[b1]? = some (.cells (mpC xs) 38 (0, 0)) ∧ Below w.heap.size w W)) (by kernel_rfl) ⟨H0.out, H1.out, hb.drew⟩ (fun hHeld => ?_)
      refine take_op (i := 0) (d := 10) (v := ?_) rfl rfl (by kernel_rfl) (by kernel_rfl) (by kernel_rfl) (fun _ _ _ h => h) (Or.inl ⟨by rfl, ?hy0u37⟩) hHeld ?rest0u37
      case hy0u37 =>
        intro w' hS'
        go_simp
        try with_reducible rfl
      simp only [List.setIfInBounds_toArray, List.set_cons_zero, List.set_cons_succ]
      refine take_op (i := 1) (d := 11) (v := ?_) rfl rfl (by kernel_rfl) (by kernel_rfl) (by kernel_rfl) (fun _ _ _ h => h) (Or.inl ⟨by rfl, ?hy1u38⟩) hHeld ?rest1u38
      case hy1u38 =>
        intro w' hS'
        go_simp
        try with_reducible rfl
      simp only [List.setIfInBounds_toArray, List.set_cons_zero, List.set_cons_succ]
      refine take_op (i := 2) (d := 12) (v := ?_) rfl rfl (by kernel_rfl) (by kernel_rfl) (by kernel_rfl) (fun _ _ _ h => h) (Or.inl ⟨by rfl, ?hy2u39⟩) hHeld ?rest2u39
      case hy2u39 =>
        intro w' hS'
        obtain ⟨s1, s2, _⟩ := hS'
        have q1 := mpC_cell s1 k (by rw [Hx.out]; exact hlt)
        have q2 := mpC_cell s2 k (by rw [Hx.out]; exact hlt)
        rw [EX.out] at q1 q2
        clear s1 s2
        go_simp
        try with_reducible rfl
      simp only [List.setIfInBounds_toArray, List.set_cons_zero, List.set_cons_succ]
      refine take_op (i := 3) (d := 13) (v := ?_) rfl rfl (by kernel_rfl) (by kernel_rfl) (by kernel_rfl) (fun _ _ _ h => h) (Or.inl ⟨by rfl, ?hy3u40⟩) hHeld ?rest3u40
      case hy3u40 =>
        intro w' hS'
        go_simp
        try with_reducible rfl
      simp only [List.setIfInBounds_toArray, List.set_cons_zero, List.set_cons_succ]
      refine take_op (i := 4) (d := 14) (v := ?_) rfl rfl (by kernel_rfl) (by kernel_rfl) (by kernel_rfl) (fun _ _ _ h => h) (Or.inl ⟨by rfl, ?hy4u41⟩) hHeld ?rest4u41
      case hy4u41 =>
        intro w' hS'
        go_simp
        try with_reducible rfl
      simp only [List.setIfInBounds_toArray, List.set_cons_zero, List.set_cons_succ]
      refine take_op (i := 5) (d := 15) (v := ?_) rfl rfl (by kernel_rfl) (by kernel_rfl) (by kernel_rfl) (fun _ _ _ h => h) (Or.inl ⟨by rfl, ?hy5u42⟩) hHeld ?rest5u42
      case hy5u42 =>
        intro w' hS'
        go_simp
        try with_reducible rfl
      simp only [List.setIfInBounds_toArray, List.set_cons_zero, List.set_cons_succ]
      refine take_op (i := 6) (d := 16) (v := ?_) rfl rfl (by kernel_rfl) (by kernel_rfl) (by kernel_rfl) (fun _ _ _ h => h) (Or.inl ⟨by rfl, ?hy6u43⟩) hHeld ?rest6u43
      case hy6u43 =>
        intro w' hS'
        obtain ⟨s1, s2, _⟩ := hS'
        have q1 := mpC_cell s1 k (by rw [Hx.out]; exact hlt)
        have q2 := mpC_cell s2 k (by rw [Hx.out]; exact hlt)
        rw [EX.out] at q1 q2
        clear s1 s2
        go_simp
        try with_reducible rfl
      simp only [List.setIfInBounds_toArray, List.set_cons_zero, List.set_cons_succ]
      refine take_op (i := 7) (d := 17) (v := ?_) rfl rfl (by kernel_rfl) (by kernel_rfl) (by kernel_rfl) (fun _ _ _ h => h) (Or.inl ⟨by rfl, ?hy7u44⟩) hHeld ?rest7u44
      case hy7u44 =>
        intro w' hS'
        go_simp
        try with_reducible rfl
      simp only [List.setIfInBounds_toArray, List.set_cons_zero, List.set_cons_succ]
      refine wpAnyH_ready (rs := [8]) (by kernel_rfl) (by simp) ?_
      refine AllReadyH.cons rfl (fun K hK => ?_) AllReadyH.nil
      go_simp
      refine (same_wide _ HV.out _).mono ?_
      rintro e w1 ⟨rfl, rfl⟩
      refine hK.out _ _ (hHeld) (fun hHeld2 => ?_)
      clear hK K
      replace hHeld := hHeld2
      clear hHeld2
      refine take_op (i := 9) (d := 19) (v := ?_) rfl rfl (by kernel_rfl) (by kernel_rfl) (by kernel_rfl) (fun _ _ _ h => h) (Or.inl ⟨by rfl, ?hy9u45⟩) hHeld ?rest9u45
      case hy9u45 =>
        intro w' hS'
        go_simp
        try with_reducible rfl
      simp only [List.setIfInBounds_toArray, List.set_cons_zero, List.set_cons_succ]
      refine wpAnyH_done (by kernel_rfl) ?_ _
      obtain ⟨d0, d1, hbx⟩ := hHeld
      clear H0 H1 hb
      go_wp2
      go_roundw
      case rel => exact ⟨k + 1, by omega, by go_num, d0, d1, hbx⟩
      case measure => simp [intOf]; omega
    · obtain rfl : k = 10 := by omega
      clear h0 h1
      go_wp2
      go_ret
      exact ⟨rfl, hb⟩

theorem info_a1 : (Tryd.prog.info? 38).map (·.size) = some 10 := by kernel_rfl

/-- A row of a map. -/
def rowM (xs : List Nat) (k : Nat) : List Nat := (xs.drop (k * 10)).take 10

theorem rowM_len (xs : List Nat) (hx : xs.length = 100) (k : Nat) (hk : k < 10) : (rowM xs k).length = 10 := by
  unfold rowM
  rw [List.length_take, List.length_drop, hx]
  omega

theorem rowM_all (xs : List Nat) (k : Nat) : (mpC xs).extract (k * 10) (k * 10 + 10) = mpC (rowM xs k) := by
  apply Array.ext'
  simp only [mpC, rowM, Array.toList_extract, List.map_take, List.map_drop]
  simp

theorem rowM_mem {xs : List Nat} {k x : Nat} (h : x ∈ rowM xs k) : x ∈ xs := List.mem_of_mem_drop (List.mem_of_mem_take h)

set_option maxRecDepth 100000 in
set_option maxHeartbeats 4000000 in
theorem eqAA_any (xs : List Nat) (hx : xs.length = 100) (hv : ∀ x ∈ xs, fin32 x = true) (w : World) :
    Calls Tryd.prog 29 #[.agg (mpC xs), .agg (mpC xs)] w fun e w' => e = .returned (.bool true) ∧ Below w.heap.size w w' := by
  have HEQ : Hid (∀ k, k < 10 → ∀ w, Calls Tryd.prog 75 #[.agg (mpC (rowM xs k)), .agg (mpC (rowM xs k))] w fun e w' => e = .returned (.bool true) ∧ Below w.heap.size w w') := Lib.hid (fun k hk w => eqA10_any (rowM xs k) (rowM_len xs hx k hk) (fun x h => hv x (rowM_mem h)) w)
  have HRA := Lib.hid (fun k (_ : k < 10) => rowM_all xs k)
  have Hx := Lib.hid hx
  clear hx hv
  go_enter Tryd.func29, Tryd.ntmps29
  go_upto_region 1 with (fail)
  refine abs_code (fun W => W.heap[w.heap.size]? = some (.cells (mpC xs) 39 (0, 0)) ∧ W.heap[w.heap.size + 1]? = some (.cells (mpC xs) 39 (0, 0)) ∧ Below w.heap.size w W) (two_at w (.cells (mpC xs) 39) (.cells (mpC xs) 39)) ?_
  rintro W ⟨h0, h1, hb⟩
  generalize w.heap.size + 1 = b1 at *
  go_upto_region 2 with (fail)
  go_loopw [5] (fun i wr => ∃ k : Nat, k ≤ 10 ∧ i = .int .i64 (k : Int) ∧ wr.heap[w.heap.size]? = some (.cells (mpC xs) 39 (0, 0)) ∧ wr.heap[b1]? = some (.cells (mpC xs) 39 (0, 0)) ∧ Below w.heap.size w wr) (fun i _ => 10 - (intOf i).toNat)
  case atStart => exact ⟨0, Nat.zero_le _, rfl, h0, h1, hb⟩
  case round =>
    clear h0 h1 hb
    obtain ⟨k, hk, rfl, h0, h1, hb⟩ := hrel
    by_cases hlt : k < 10
    · have H0 := Lib.hid h0
      have H1 := Lib.hid h1
      have HE := Lib.hid (HEQ.out k hlt)
      have HA := Lib.hid (HRA.out k hlt)
      have z1 : (k : Int) < 10 := by omega
      have z2 : (0 : Int) ≤ (k : Int) := by omega
      clear h0 h1 HEQ HRA
      go_wp2
      refine wp_region_held_drew (S := (fun X => X.heap[w.heap.size]? = some (.cells (mpC xs) 39 (0, 0)) ∧ X.heap[b1]? = some (.cells (mpC xs) 39 (0, 0)) ∧ Below w.heap.size w X)) (by kernel_rfl) ⟨H0.out, H1.out, hb.drew⟩ (fun hHeld => ?_)
      refine take_op (i := 0) (d := 10) (v := ?_) rfl rfl (by kernel_rfl) (by kernel_rfl) (by kernel_rfl) (fun _ _ _ h => h) (Or.inl ⟨by rfl, ?hy0e22⟩) hHeld ?rest0e22
      case hy0e22 =>
        intro w' hS'
        go_simp
        try with_reducible rfl
      simp only [List.setIfInBounds_toArray, List.set_cons_zero, List.set_cons_succ]
      refine take_op (i := 1) (d := 11) (v := ?_) rfl rfl (by kernel_rfl) (by kernel_rfl) (by kernel_rfl) (fun _ _ _ h => h) (Or.inl ⟨by rfl, ?hy1e23⟩) hHeld ?rest1e23
      case hy1e23 =>
        intro w' hS'
        go_simp
        try with_reducible rfl
      simp only [List.setIfInBounds_toArray, List.set_cons_zero, List.set_cons_succ]
      refine take_op (i := 2) (d := 12) (v := .agg (mpC (rowM xs k))) rfl rfl (by kernel_rfl) (by kernel_rfl) (by kernel_rfl) (fun _ _ _ h => h) (yields_row (by rfl) 38 (.tmp 11) (by rfl) w.heap.size (k * 10) 10 (by rfl) 39 (mpC xs) (0, 0) _ (fun _ h => h.1) Tryd.underlying38 rfl info_a1 (by rw [mpC_size, Hx.out]; omega) (mpC (rowM xs k)) HA.out) hHeld ?_
      simp only [List.setIfInBounds_toArray, List.set_cons_zero, List.set_cons_succ]
      refine take_op (i := 3) (d := 13) (v := ?_) rfl rfl (by kernel_rfl) (by kernel_rfl) (by kernel_rfl) (fun _ _ _ h => h) (Or.inl ⟨by rfl, ?hy3e24⟩) hHeld ?rest3e24
      case hy3e24 =>
        intro w' hS'
        go_simp
        try with_reducible rfl
      simp only [List.setIfInBounds_toArray, List.set_cons_zero, List.set_cons_succ]
      refine take_op (i := 4) (d := 14) (v := ?_) rfl rfl (by kernel_rfl) (by kernel_rfl) (by kernel_rfl) (fun _ _ _ h => h) (Or.inl ⟨by rfl, ?hy4e25⟩) hHeld ?rest4e25
      case hy4e25 =>
        intro w' hS'
        go_simp
        try with_reducible rfl
      simp only [List.setIfInBounds_toArray, List.set_cons_zero, List.set_cons_succ]
      refine take_op (i := 5) (d := 15) (v := .agg (mpC (rowM xs k))) rfl rfl (by kernel_rfl) (by kernel_rfl) (by kernel_rfl) (fun _ _ _ h => h) (yields_row (by rfl) 38 (.tmp 14) (by rfl) b1 (k * 10) 10 (by rfl) 39 (mpC xs) (0, 0) _ (fun _ h => h.2.1) Tryd.underlying38 rfl info_a1 (by rw [mpC_size, Hx.out]; omega) (mpC (rowM xs k)) HA.out) hHeld ?_
      simp only [List.setIfInBounds_toArray, List.set_cons_zero, List.set_cons_succ]
      refine wpAnyH_ready (rs := [6]) (by kernel_rfl) (by simp) ?_
      refine AllReadyH.cons rfl (fun K hK => ?_) AllReadyH.nil
      go_simp
      refine (HE.out _).mono ?_
      rintro e W1 ⟨rfl, hb1⟩
      refine hK.out _ _ ⟨below_row hb1 hHeld.1, below_row hb1 hHeld.2.1, hHeld.2.2.trans (hb1.mono hHeld.2.2.size)⟩ (fun hHeld2 => ?_)
      clear hK K hb1
      replace hHeld := hHeld2
      clear hHeld2
      refine take_op (i := 7) (d := 17) (v := ?_) rfl rfl (by kernel_rfl) (by kernel_rfl) (by kernel_rfl) (fun _ _ _ h => h) (Or.inl ⟨by rfl, ?hy7e26⟩) hHeld ?rest7e26
      case hy7e26 =>
        intro w' hS'
        go_simp
        try with_reducible rfl
      simp only [List.setIfInBounds_toArray, List.set_cons_zero, List.set_cons_succ]
      refine wpAnyH_done (by kernel_rfl) ?_ _
      obtain ⟨d0, d1, hbx⟩ := hHeld
      clear H0 H1 hb
      go_wp2
      go_roundw
      case rel => exact ⟨k + 1, by omega, by go_num, d0, d1, hbx⟩
      case measure => simp [intOf]; omega
    · obtain rfl : k = 10 := by omega
      clear h0 h1
      go_wp2
      go_ret
      exact ⟨rfl, hb⟩

end Go.Proofs.YtmniodfdoidffaaDoor
