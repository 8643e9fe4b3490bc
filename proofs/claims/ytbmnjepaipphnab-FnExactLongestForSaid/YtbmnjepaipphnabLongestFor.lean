/-
  For every gust and bound, be they what they may: how far an awning may reach out is what the model says. No conditions.
-/
import Derived.Test.YtbmnjepaipphnabLongN
import Derived.Test.YtbmnjepaipphnabKeOk
import Derived.Test.YtbmnjepaipphnabLaw
import Derived.Test.YtbmnjepaipphnabSame
namespace Go.Proofs.Ytbmnjepaipphnab
open Go.ChangeShapes Go.WideShapes Go.ChangeAt Go.RowKit Go.Deep Go.Joins

theorem frc_get {a : Nat} (hw : (Lit.float .f32 a).wf = true) (h : frcB a = true) : a ≤ 1233125376 ∨ a = 2147483648 := by
  unfold frcB plainB betw at h
  simp only [Bool.and_eq_true] at h
  refine betw_zero hw (by decide) ?_
  unfold betw
  rw [h.2, h.1.2]; rfl
theorem run_mul (x y r : Nat) (h : floatBits .mul .f32 x y = some r) : ∀ t w, (binOp .mul t (.float .f32 x) (.float .f32 y)).run Try.prog w = .ok (.float .f32 r) w := fun t w => run_float_arith w .mul t .f32 x y r h
theorem run_quo (x y r : Nat) (h : floatBits .quo .f32 x y = some r) : ∀ t w, (binOp .quo t (.float .f32 x) (.float .f32 y)).run Try.prog w = .ok (.float .f32 r) w := fun t w => run_float_arith w .quo t .f32 x y r h
theorem run_sub (x y r : Nat) (h : floatBits .sub .f32 x y = some r) : ∀ t w, (binOp .sub t (.float .f32 x) (.float .f32 y)).run Try.prog w = .ok (.float .f32 r) w := fun t w => run_float_arith w .sub t .f32 x y r h

set_option maxHeartbeats 1000000 in
theorem strainWith_any {g : Nat} (hg : g ≤ 1233125376 ∨ g = 2147483648) (k : Nat) (h : k ≤ 64) (w : World) :
    Calls Try.prog 66 #[.float .f32 (eig k), .float .f32 g] w fun e w' => e = .returned (.float .f32 (stn (eig k) g)) ∧ w = w' := by
  have r1 := run_mul _ _ _ (eig_get k h).2.2.1
  have r2 := run_mul _ _ _ (stn_ok hg k h).1
  clear hg h
  generalize stn (eig k) g = q at *
  generalize fmul (eig k) (eig k) = p at *
  generalize eig k = x at *
  go_enter Try.func66, Try.ntmps66
  go_wp2
  go_ret
  exact ⟨rfl, rfl⟩
set_option maxHeartbeats 1000000 in
theorem l04Strain_any {g : Nat} (hg : g ≤ 1233125376 ∨ g = 2147483648) (k : Nat) (h : k ≤ 64) (w : World) :
    Calls Try.prog 65 #[.float .f32 (eig k), .float .f32 g] w fun e w' => e = .returned (.float .f32 (stn (eig k) g)) ∧ w = w' := by
  have r1 := run_mul _ _ _ (eig_get k h).2.2.1
  have r2 := run_mul _ _ _ (stn_ok hg k h).1
  clear hg h
  generalize stn (eig k) g = q at *
  generalize fmul (eig k) (eig k) = p at *
  generalize eig k = x at *
  go_enter Try.func65, Try.ntmps65
  go_wp2
  go_ret
  exact ⟨rfl, rfl⟩

set_option maxRecDepth 100000 in
set_option maxHeartbeats 1000000 in
theorem implLongestFor_no (g b : Nat) (h : ¬ (frcB g = true ∧ frcB b = true)) (w : World) :
    Calls Try.prog 27 #[.float .f32 g, .float .f32 b] w fun e w' => e = .returned (.tuple #[.float .f32 0, .int .i64 2]) ∧ Below w.heap.size w w' := by
  have HG := Lib.hid (fun w => isForce_any g w)
  have HB := Lib.hid (fun w => isForce_any b w)
  cases hg : frcB g
  · rw [hg] at HG
    go_enter Try.func27, Try.ntmps27
    go_wp2_with (go_at_call 63; refine (HG.out _).mono ?_; rintro e w' ⟨rfl, rfl⟩)
    go_ret2
    exact ⟨rfl, Below.refl _ _⟩
  · cases hb : frcB b
    · rw [hg] at HG
      rw [hb] at HB
      clear h hg hb
      go_enter Try.func27, Try.ntmps27
      go_wp2_with (go_at_call 63; (first | (with_reducible refine (HG.out _).mono ?_) | (with_reducible refine (HB.out _).mono ?_)); rintro e w' ⟨rfl, rfl⟩)
      all_goals
        go_ret2
        exact ⟨rfl, Below.refl _ _⟩
    · exact absurd ⟨hg, hb⟩ h

set_option maxRecDepth 100000 in
set_option maxHeartbeats 1000000 in
theorem specLongestFor_no (g b : Nat) (h : ¬ (frcB g = true ∧ frcB b = true)) (w : World) :
    Calls Try.prog 26 #[.float .f32 g, .float .f32 b] w fun e w' => e = .returned (.tuple #[.float .f32 0, .int .i64 2]) ∧ Below w.heap.size w w' := by
  have HG := Lib.hid (fun w => l04Gust_any g w)
  have HB := Lib.hid (fun w => l04Gust_any b w)
  cases hg : frcB g
  · rw [hg] at HG
    go_enter Try.func26, Try.ntmps26
    go_wp2_with (go_at_call 64; refine (HG.out _).mono ?_; rintro e w' ⟨rfl, rfl⟩)
    go_ret2
    exact ⟨rfl, Below.refl _ _⟩
  · cases hb : frcB b
    · rw [hg] at HG
      rw [hb] at HB
      clear h hg hb
      go_enter Try.func26, Try.ntmps26
      go_wp2_with (go_at_call 64; (first | (with_reducible refine (HG.out _).mono ?_) | (with_reducible refine (HB.out _).mono ?_)); rintro e w' ⟨rfl, rfl⟩)
      all_goals
        go_ret2
        exact ⟨rfl, Below.refl _ _⟩
    · exact absurd ⟨hg, hb⟩ h

set_option maxRecDepth 100000 in
set_option maxHeartbeats 1000000 in
theorem implLongestFor_yes (g b : Nat) (wg : (Lit.float .f32 g).wf = true) (wb : (Lit.float .f32 b).wf = true) (hg : frcB g = true) (hb : frcB b = true) (w : World) :
    Calls Try.prog 27 #[.float .f32 g, .float .f32 b] w fun e w' => e = .returned (.tuple #[.float .f32 (eig (lastK (fitK g b) 64)), .int .i64 0]) ∧ Below w.heap.size w w' := by
  have HG := Lib.hid (fun w => isForce_any g w)
  have HB := Lib.hid (fun w => isForce_any b w)
  rw [hg] at HG
  rw [hb] at HB
  have G := Lib.hid (frc_get wg hg)
  have B := Lib.hid (frc_get wb hb)
  clear hg hb wg wb
  go_enter Try.func27, Try.ntmps27
  go_wp2_with (go_at_call 63; (first | (with_reducible refine (HG.out _).mono ?_) | (with_reducible refine (HB.out _).mono ?_)); rintro e w' ⟨rfl, rfl⟩)
  go_loop [6] (fun o => ∃ k : Nat, k ≤ 64 ∧ o = .float .f32 (eig k) ∧ lastK (fitK g b) 64 = lastK (fitK g b) k) (fun o => fltN o)
  case atStart => exact ⟨64, Nat.le_refl _, by rw [eig_top], rfl⟩
  case round =>
    obtain ⟨k, hk, rfl, hl⟩ := hrel
    have HL := Lib.hid hl
    clear hl
    have HC := Lib.hid (fun w => strainWith_any G.out k hk w)
    rcases fit_cases G.out B.out k hk with ⟨ho, hf⟩ | ⟨ho, hf⟩ | ⟨ho, hf⟩
    · cases k with
      | zero => exact absurd (fit_zero G.out B.out) (by rw [hf]; decide)
      | succ k =>
        have r1 := run_sub _ _ _ (eig_pred k hk).1
        have hlt := Lib.hid (eig_pred k hk).2
        have HF := Lib.hid hf
        clear hf
        go_wp2_with (go_at_call 66; refine (HC.out _).mono ?_; rintro e w' ⟨rfl, rfl⟩)
        go_round
        case rel => exact ⟨k, by omega, rfl, by rw [HL.out, lastK_miss HF.out]⟩
        case measure => exact hlt.out
    · have HF := Lib.hid hf
      clear hf
      have HK : Hid (eig (lastK (fitK g b) 64) = eig k) := by
        unfold Hid
        rw [HL.out]
        cases k with
        | zero => rfl
        | succ k => rw [lastK_hit HF.out]
      go_wp2_with (go_at_call 66; refine (HC.out _).mono ?_; rintro e w' ⟨rfl, rfl⟩)
      go_ret2
      rw [HK.out]
      exact ⟨rfl, Below.refl _ _⟩
    · have HF := Lib.hid hf
      clear hf
      have HK : Hid (eig (lastK (fitK g b) 64) = eig k) := by
        unfold Hid
        rw [HL.out]
        cases k with
        | zero => rfl
        | succ k => rw [lastK_hit HF.out]
      go_wp2_with (go_at_call 66; refine (HC.out _).mono ?_; rintro e w' ⟨rfl, rfl⟩)
      go_ret2
      rw [HK.out]
      exact ⟨rfl, Below.refl _ _⟩

set_option maxRecDepth 100000 in
set_option maxHeartbeats 1000000 in
theorem specLongestFor_yes (g b : Nat) (wg : (Lit.float .f32 g).wf = true) (wb : (Lit.float .f32 b).wf = true) (hg : frcB g = true) (hb : frcB b = true) (w : World) :
    Calls Try.prog 26 #[.float .f32 g, .float .f32 b] w fun e w' => e = .returned (.tuple #[.float .f32 (eig (lastK (fitK g b) 64)), .int .i64 0]) ∧ Below w.heap.size w w' := by
  have HG := Lib.hid (fun w => l04Gust_any g w)
  have HB := Lib.hid (fun w => l04Gust_any b w)
  rw [hg] at HG
  rw [hb] at HB
  have G := Lib.hid (frc_get wg hg)
  have B := Lib.hid (frc_get wb hb)
  clear hg hb wg wb
  go_enter Try.func26, Try.ntmps26
  go_wp2_with (go_at_call 64; (first | (with_reducible refine (HG.out _).mono ?_) | (with_reducible refine (HB.out _).mono ?_)); rintro e w' ⟨rfl, rfl⟩)
  go_loop [6, 7] (fun o i => ∃ k : Nat, k ≤ 64 ∧ i = .int .i64 ((k : Int) + 1) ∧ o = .float .f32 (eig (lastK (fitK g b) k))) (fun _ i => (65 - intOf i).toNat)
  case atStart => exact ⟨0, Nat.zero_le _, rfl, by rw [show lastK (fitK g b) 0 = 0 from rfl, eig_zero]⟩
  case round =>
    obtain ⟨k, hk, rfl, rfl⟩ := hrel
    by_cases hlt : k < 64
    · have HC := Lib.hid (fun w => l04Strain_any G.out (k + 1) hlt w)
      have r1 := run_quo _ _ _ (eig_get (k + 1) hlt).1
      have e1 : (((k + 1 : Nat) : Int)) = (k : Int) + 1 := by omega
      rw [e1] at r1
      clear e1
      rcases fit_cases G.out B.out (k + 1) hlt with ⟨ho, hf⟩ | ⟨ho, hf⟩ | ⟨ho, hf⟩
      · have HF := Lib.hid (lastK_miss hf)
        clear hf
        go_wp2_with (go_at_call 65; refine (HC.out _).mono ?_; rintro e w' ⟨rfl, rfl⟩)
        go_round
        case rel => exact ⟨k + 1, by omega, by go_num, by rw [HF.out]⟩
        case measure => simp [intOf]; omega
      · have HF := Lib.hid (lastK_hit hf)
        clear hf
        go_wp2_with (go_at_call 65; refine (HC.out _).mono ?_; rintro e w' ⟨rfl, rfl⟩)
        go_round
        case rel => exact ⟨k + 1, by omega, by go_num, by rw [HF.out]⟩
        case measure => simp [intOf]; omega
      · have HF := Lib.hid (lastK_hit hf)
        clear hf
        go_wp2_with (go_at_call 65; refine (HC.out _).mono ?_; rintro e w' ⟨rfl, rfl⟩)
        go_round
        case rel => exact ⟨k + 1, by omega, by go_num, by rw [HF.out]⟩
        case measure => simp [intOf]; omega
    · obtain rfl : k = 64 := by omega
      go_wp2
      go_ret2
      exact ⟨rfl, Below.refl _ _⟩

set_option maxRecDepth 100000 in
set_option maxHeartbeats 1000000 in
theorem FnExactLongestFor_core (g : Nat) (b : Nat) (v0 : Nat) (v1 : Int) (hv0 : fin32 v0 = true) 
    (hspec : ∀ w, Calls Try.prog 26 #[.float .f32 g, .float .f32 b] w fun e w' => e = .returned (.tuple #[.float .f32 v0, .int .i64 v1]) ∧ Below w.heap.size w w')
    (himpl : ∀ w, Calls Try.prog 27 #[.float .f32 g, .float .f32 b] w fun e w' => e = .returned (.tuple #[.float .f32 v0, .int .i64 v1]) ∧ Below w.heap.size w w') (w : World) :
    Calls Try.prog 7 #[.float .f32 g, .float .f32 b] w fun e w' => e = .returned (.bool true) ∧ Below w.heap.size w w' := by
  have HS := Lib.hid hspec
  have HI := Lib.hid himpl
  clear hspec himpl
  have hw0 := run_wide _ hv0
  have Hv0 := Lib.hid hv0
  clear hv0
  go_enter Try.func7, Try.ntmps7
  have hb : Below w.heap.size w w := Below.refl _ _
  go_wp2_with (first | (go_at_call 26; refine (HS.out _).mono ?_; rintro e W1 ⟨rfl, hb1⟩; replace hb := hb.trans (hb1.mono hb.size); clear hb1) | (go_at_call 27; refine (HI.out _).mono ?_; rintro e W2 ⟨rfl, hb2⟩; replace hb := hb.trans (hb2.mono hb.size); clear hb2) | (go_at_call 28; refine (same_wide _ Hv0.out _).mono ?_; rintro e w3 ⟨rfl, rfl⟩))
  go_ret
  exact ⟨rfl, hb⟩

theorem lawLongestFor_walk (g : Nat) (wg : (Lit.float .f32 g).wf = true) (b : Nat) (wb : (Lit.float .f32 b).wf = true) (w : World) :
    Calls Try.prog 7 #[.float .f32 g, .float .f32 b] w fun e w' => e = .returned (.bool true) ∧ Below w.heap.size w w' := by
  by_cases h : frcB g = true ∧ frcB b = true
  · exact FnExactLongestFor_core g b _ _ (num_fin (eig_get _ (lastK_le _ _)).2.1) (fun w => specLongestFor_yes g b wg wb h.1 h.2 w) (fun w => implLongestFor_yes g b wg wb h.1 h.2 w) w
  · exact FnExactLongestFor_core g b _ _ (by decide) (fun w => specLongestFor_no g b h w) (fun w => implLongestFor_no g b h w) w

set_option maxRecDepth 100000 in
theorem FnExactLongestFor_holds : Rows.FnExactLongestForSaid :=
  OpenClaim.holds_of_wide 7 Try.f7 rfl rfl rfl rfl rfl rfl rfl ⟨rfl, rfl, rfl, rfl, rfl⟩ rfl rfl rfl rfl rfl (by kernel_rfl) Try.func7 (by kernel_rfl)
    (of_decide_eq_true (by kernel_rfl)) (by unfold Func.isWrapper; first | (rw [if_pos (by decide +kernel)]; kernel_rfl) | (rw [if_neg (by decide +kernel)]; exact ⟨rfl, rfl⟩))
    (fun os started H enc _ => law_lifted 7 Try.f7 Rows.fnExactLongestForSpec Rows.fnExactLongestForRow.domain os started H enc (by kernel_rfl) Try.func7 rfl rfl
      (by rw [Try.params7]; intro t ht; simp only [List.mem_cons, List.not_mem_nil, or_false] at ht; rcases ht with rfl | rfl <;> exact ⟨by kernel_rfl, of_decide_eq_true (by kernel_rfl)⟩)
      (fun ds hl => by
        match ds, hl with
        | [d0, d1], _ => rfl)
      (ChangeSpec.witness6 (enc := enc) (C := Try.checked) false ⟨#[], #[.float .f32 0, .float .f32 0], []⟩ 8 (by kernel_rfl) (by kernel_rfl) (by kernel_rfl) (by kernel_rfl))
      (fun W base args ds p hval hA => by
        rw [Try.params7] at hA hval
        obtain ⟨v0, vs0, d0, ds0, p0, q0, hargs, rfl, rfl, h0, r0⟩ := trodAll_cons hA
        obtain ⟨v1, vs1, d1, ds1, p1, q1, rfl, rfl, rfl, h1, r1⟩ := trodAll_cons r0
        obtain ⟨rfl, rfl, rfl⟩ := trodAll_nil r1
        obtain rfl : args = #[v0, v1] := by cases args; simp_all
        obtain ⟨a0, rfl, rfl, rfl, w0⟩ := open_float Try.underlying22 (hval 0 22 v0 rfl rfl) h0
        obtain ⟨a1, rfl, rfl, rfl, w1⟩ := open_float Try.underlying22 (hval 1 22 v1 rfl rfl) h1
        exact lawLongestFor_walk a0 w0 a1 w1 W ))
#print axioms FnExactLongestFor_holds

end Go.Proofs.Ytbmnjepaipphnab
