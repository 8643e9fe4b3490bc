/-
  ChangesOf: the program and the model.
-/
import Derived.Test.YtmniodfdoidffaaGreatDoorRuN
import Derived.Test.YtmniodfdoidffaaGreatDoorCkP
namespace Go.Proofs.YtmniodfdoidffaaGreatDoor
open Go.ChangeShapes Go.WideShapes Go.ChangeAt Go.RowKit Go.Deep Go.Joins

attribute [local go_sem] run_store_f

set_option maxRecDepth 100000 in
set_option maxHeartbeats 2000000 in
theorem changes_any (ps : List Int) (hp : ps.length = 24) (w : World) :
    Calls Tryz.prog 27 #[.agg (i16s ps)] w fun e w' => e = .returned (.int .i64 ((cntR ps 24 : Int) - 1)) ∧ Below w.heap.size w w' := by
  have HR := Lib.hid (fun w => runs_any ps hp w)
  have hc := cntR_le ps 24
  have hp1 := cntR_pos ps 24 (by decide)
  have hw : IntKind.i64.wrap ((cntR ps 24 : Int) - 1) = (cntR ps 24 : Int) - 1 := i64_smallR _ (by omega) (by omega)
  have Hp := Lib.hid hp
  clear hp
  generalize cntR ps 24 = m at *
  go_enter Tryz.func27, Tryz.ntmps27
  go_upto_region 1 with (fail)
  refine abs_code (fun W => W.heap[w.heap.size]? = some (.cells (i16s ps) 30 (0, 0)) ∧ Below w.heap.size w W) ⟨heap_alloc_new _ _, (Below.refl _ _).alloc (Nat.le_refl _) _⟩ ?_
  rintro W ⟨h0, hb⟩
  have H0 := Lib.hid h0
  clear h0
  go_wp2_with (first | (refine wpList_load_part rfl 30 _ rfl w.heap.size 0 24 rfl 30 (i16s ps) (0, 0) _ H0.out Tryz.underlying30 rfl info_plan (by rw [i16s_size, Hp.out]; decide) (i16s ps) (i16s_all _ 24 Hp.out) ?_) | (go_at_call 44; refine (HR.out _).mono ?_; rintro e W1 ⟨⟨a, cap, rfl⟩, hb1⟩; replace hb := hb.trans (hb1.mono hb.size); clear hb1))
  go_ret
  exact ⟨rfl, hb⟩

set_option maxRecDepth 100000 in
set_option maxHeartbeats 2000000 in
theorem l07Changes_any (ps : List Int) (hp : ps.length = 24) (g : Nat) (w : World) (q : w.heap[g]? = some (.cells (i16s ps) 30 (0, 0))) :
    Calls Tryz.prog 18 #[.pointer (some ⟨g, 0, none⟩)] w fun e w' => e = .returned (.int .i64 ((cntR ps 24 : Int) - 1)) ∧ Below w.heap.size w w' := by
  have Hp := Lib.hid hp
  have Q := Lib.hid q
  clear hp q
  go_enter Tryz.func18, Tryz.ntmps18
  go_wp2
  go_loopw [3, 4] (fun c i wr => ∃ k : Nat, 1 ≤ k ∧ k ≤ 24 ∧ i = .int .i64 (k : Int) ∧ c = .int .i64 ((cntR ps k : Int) - 1) ∧ Below w.heap.size w wr) (fun _ i _ => 24 - (intOf i).toNat)
  case atStart => exact ⟨1, by omega, by omega, rfl, by rfl, Below.refl _ _⟩
  case round =>
    obtain ⟨k, hk1, hk, rfl, rfl, hb⟩ := hrel
    by_cases hlt : k < 24
    · have HS : Hid (∀ V, Below w.heap.size w V → V.heap[g]? = some (.cells (i16s ps) 30 (0, 0))) := fun V h => below_row h Q.out
      have z0 : (0 : Int) ≤ (k : Int) := by omega
      have z1 : (k : Int) < 24 := by omega
      have hw2 : IntKind.i64.wrap ((k : Int) - 1) = ((k - 1 : Nat) : Int) := by rw [i64_smallR _ (by omega) (by omega)]; omega
      have x0 : (0 : Int) ≤ ((k - 1 : Nat) : Int) := by omega
      have x1 : ((k - 1 : Nat) : Int) < 24 := by omega
      have hcl := cntR_le ps k
      have hcp := cntR_pos ps k (by omega)
      obtain ⟨tl, hE⟩ : ∃ tl, ps[k]?.getD 0 = tl := ⟨_, rfl⟩
      obtain ⟨tm, hF⟩ : ∃ tm, ps[k - 1]?.getD 0 = tm := ⟨_, rfl⟩
      have EX := Lib.hid hE
      have EY := Lib.hid hF
      have hir : isRun ps k = (tl != tm) := by
        unfold isRun
        rw [hE, hF, show (k == 0) = false from beq_eq_false_iff_ne.2 (by omega), Bool.false_or]
      have HC1 : Hid (cntR ps (k + 1) = cntR ps k + (if (tl != tm) = true then 1 else 0)) := by unfold Hid; rw [← hir]; rfl
      clear hE hF hir
      go_upto_region 5 with (fail)
      refine wp_region_held_drew (S := (fun V => Below w.heap.size w V)) (by kernel_rfl) hb.drew (fun hHeld => ?_)
      refine take_op (i := 0) (d := 9) (v := ?_) rfl rfl (by kernel_rfl) (by kernel_rfl) (by kernel_rfl) (fun _ _ _ h => h) (Or.inl ⟨by rfl, ?hy0u59⟩) hHeld ?rest0u59
      case hy0u59 =>
        intro w' hS'
        go_simp
        try with_reducible rfl
      simp only [List.setIfInBounds_toArray, List.set_cons_zero, List.set_cons_succ]
      refine take_op (i := 1) (d := 10) (v := ?_) rfl rfl (by kernel_rfl) (by kernel_rfl) (by kernel_rfl) (fun _ _ _ h => h) (Or.inl ⟨by rfl, ?hy1u60⟩) hHeld ?rest1u60
      case hy1u60 =>
        intro w' hS'
        go_simp
        try with_reducible rfl
      simp only [List.setIfInBounds_toArray, List.set_cons_zero, List.set_cons_succ]
      refine take_op (i := 2) (d := 11) (v := ?_) rfl rfl (by kernel_rfl) (by kernel_rfl) (by kernel_rfl) (fun _ _ _ h => h) (Or.inl ⟨by rfl, ?hy2u61⟩) hHeld ?rest2u61
      case hy2u61 =>
        intro w' hS'
        go_simp
        try with_reducible rfl
      simp only [List.setIfInBounds_toArray, List.set_cons_zero, List.set_cons_succ]
      refine take_op (i := 3) (d := 12) (v := ?_) rfl rfl (by kernel_rfl) (by kernel_rfl) (by kernel_rfl) (fun _ _ _ h => h) (Or.inl ⟨by rfl, ?hy3u62⟩) hHeld ?rest3u62
      case hy3u62 =>
        intro w' hS'
        go_simp
        try with_reducible rfl
      simp only [List.setIfInBounds_toArray, List.set_cons_zero, List.set_cons_succ]
      refine take_op (i := 4) (d := 13) (v := ?_) rfl rfl (by kernel_rfl) (by kernel_rfl) (by kernel_rfl) (fun _ _ _ h => h) (Or.inl ⟨by rfl, ?hy4u63⟩) hHeld ?rest4u63
      case hy4u63 =>
        intro w' hS'
        have qz := cell_of_i16s (HS.out _ hS') k (by rw [Hp.out]; omega)
        rw [EX.out] at qz
        go_simp
        try with_reducible rfl
      simp only [List.setIfInBounds_toArray, List.set_cons_zero, List.set_cons_succ]
      refine take_op (i := 5) (d := 14) (v := ?_) rfl rfl (by kernel_rfl) (by kernel_rfl) (by kernel_rfl) (fun _ _ _ h => h) (Or.inl ⟨by rfl, ?hy5u64⟩) hHeld ?rest5u64
      case hy5u64 =>
        intro w' hS'
        go_simp
        try with_reducible rfl
      simp only [List.setIfInBounds_toArray, List.set_cons_zero, List.set_cons_succ]
      refine take_op (i := 6) (d := 15) (v := ?_) rfl rfl (by kernel_rfl) (by kernel_rfl) (by kernel_rfl) (fun _ _ _ h => h) (Or.inl ⟨by rfl, ?hy6u65⟩) hHeld ?rest6u65
      case hy6u65 =>
        intro w' hS'
        go_simp
        try with_reducible rfl
      simp only [List.setIfInBounds_toArray, List.set_cons_zero, List.set_cons_succ]
      refine take_op (i := 7) (d := 16) (v := ?_) rfl rfl (by kernel_rfl) (by kernel_rfl) (by kernel_rfl) (fun _ _ _ h => h) (Or.inl ⟨by rfl, ?hy7u66⟩) hHeld ?rest7u66
      case hy7u66 =>
        intro w' hS'
        go_simp
        try with_reducible rfl
      simp only [List.setIfInBounds_toArray, List.set_cons_zero, List.set_cons_succ]
      refine take_op (i := 8) (d := 17) (v := ?_) rfl rfl (by kernel_rfl) (by kernel_rfl) (by kernel_rfl) (fun _ _ _ h => h) (Or.inl ⟨by rfl, ?hy8u67⟩) hHeld ?rest8u67
      case hy8u67 =>
        intro w' hS'
        go_simp
        try with_reducible rfl
      simp only [List.setIfInBounds_toArray, List.set_cons_zero, List.set_cons_succ]
      refine take_op (i := 9) (d := 18) (v := ?_) rfl rfl (by kernel_rfl) (by kernel_rfl) (by kernel_rfl) (fun _ _ _ h => h) (Or.inl ⟨by rfl, ?hy9u68⟩) hHeld ?rest9u68
      case hy9u68 =>
        intro w' hS'
        go_simp
        try with_reducible rfl
      simp only [List.setIfInBounds_toArray, List.set_cons_zero, List.set_cons_succ]
      refine take_op (i := 10) (d := 19) (v := ?_) rfl rfl (by kernel_rfl) (by kernel_rfl) (by kernel_rfl) (fun _ _ _ h => h) (Or.inl ⟨by rfl, ?hy10u69⟩) hHeld ?rest10u69
      case hy10u69 =>
        intro w' hS'
        have qz := cell_of_i16s (HS.out _ hS') (k - 1) (by rw [Hp.out]; omega)
        rw [EY.out] at qz
        go_simp
        try with_reducible rfl
      simp only [List.setIfInBounds_toArray, List.set_cons_zero, List.set_cons_succ]
      refine take_op (i := 11) (d := 20) (v := ?_) rfl rfl (by kernel_rfl) (by kernel_rfl) (by kernel_rfl) (fun _ _ _ h => h) (Or.inl ⟨by rfl, ?hy11u70⟩) hHeld ?rest11u70
      case hy11u70 =>
        intro w' hS'
        go_simp
        try with_reducible rfl
      simp only [List.setIfInBounds_toArray, List.set_cons_zero, List.set_cons_succ]
      refine wpAnyH_done (by kernel_rfl) ?_ _
      have hbx := hHeld
      clear hHeld hb
      cases hnt : (tl != tm) with
      | true =>
        rw [hnt] at HC1
        have HC2 : cntR ps (k + 1) = cntR ps k + 1 := by rw [HC1.out]; rfl
        have hw3 : IntKind.i64.wrap ((cntR ps k : Int) - 1 + 1) = (cntR ps (k + 1) : Int) - 1 := by rw [i64_smallR _ (by omega) (by omega)]; omega
        go_wp2
        go_roundw
        case rel => exact ⟨k + 1, by omega, by omega, by go_num, by go_num, hbx⟩
        case measure => simp [intOf]; omega
      | false =>
        rw [hnt] at HC1
        have hw3 : (cntR ps (k + 1) : Int) - 1 = (cntR ps k : Int) - 1 := by rw [HC1.out]; simp
        go_wp2
        go_roundw
        case rel => exact ⟨k + 1, by omega, by omega, by go_num, by rw [hw3], hbx⟩
        case measure => simp [intOf]; omega
    · obtain rfl : k = 24 := by omega
      go_wp2
      go_ret
      exact ⟨rfl, hb⟩

end Go.Proofs.YtmniodfdoidffaaGreatDoor
