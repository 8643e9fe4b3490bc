/-
  The source from which the laws draw: parts.
-/
import Derived.Test.YtddnfbpgldchcaaSrB
import Derived.Test.YtddnfbpgldchcaaBlk
namespace Go.Proofs.Ytddnfbpgldchcaa
open Go.RowKit

theorem ofNat_rnd (k : Nat) : Rnd (k * 2 ^ 149) 1 (floatOfInt .f32 (k : Int)) := by
  have e : floatOfInt .f32 (k : Int) = Ieee.single.nearest false k 0 := by
    have h0 : decide ((k : Int) < 0) = false := decide_eq_false (by omega)
    show Ieee.single.write (.number (decide ((k : Int) < 0)) (k : Int).natAbs 0) = _
    rw [h0, Int.natAbs_natCast]
    rfl
  rw [e]
  exact nearest_rnd k 0 149 0 (by decide)

theorem ofNat_mono {j k : Nat} (h : j ≤ k) : floatOfInt .f32 (j : Int) ≤ floatOfInt .f32 (k : Int) :=
  rnd_mono (ofNat_rnd j) (ofNat_rnd k) (by decide) (by decide) (by rw [Nat.mul_one, Nat.mul_one]; exact Nat.mul_le_mul_right _ h)

/-- A part of whole numbers. -/
theorem tone_of {r R c : Nat} (hr : r ≤ R) (hR : floatOfInt .f32 (R : Int) < 2139095040) (hc0 : 0 < c) (hc : c < 2139095040) (h1 : fdiv (floatOfInt .f32 (R : Int)) c ≤ 1065353216) : floatBits .quo .f32 (floatOfInt .f32 (r : Int)) c = some (fdiv (floatOfInt .f32 (r : Int)) c) ∧ fdiv (floatOfInt .f32 (r : Int)) c ≤ 1065353216 := by
  have hm := ofNat_mono hr
  exact ⟨(div_rnd (by omega) hc hc0).1, Nat.le_trans (div_mono hR hc hc0 hm (Nat.le_refl _)) h1⟩

theorem tone16 {r : Nat} (hr : r ≤ 16) : floatBits .quo .f32 (floatOfInt .f32 (r : Int)) 1098907648 = some (fdiv (floatOfInt .f32 (r : Int)) 1098907648) ∧ fdiv (floatOfInt .f32 (r : Int)) 1098907648 ≤ 1065353216 := tone_of (R := 16) hr (by decide +kernel) (by decide) (by decide) (by decide +kernel)

theorem tone1000 {r : Nat} (hr : r ≤ 1000) : floatBits .quo .f32 (floatOfInt .f32 (r : Int)) 1148846080 = some (fdiv (floatOfInt .f32 (r : Int)) 1148846080) ∧ fdiv (floatOfInt .f32 (r : Int)) 1148846080 ≤ 1065353216 := tone_of (R := 1000) hr (by decide +kernel) (by decide) (by decide) (by decide +kernel)

theorem tone24 {r : Nat} (hr : r ≤ 16777216) : floatBits .quo .f32 (floatOfInt .f32 (r : Int)) 1266679808 = some (fdiv (floatOfInt .f32 (r : Int)) 1266679808) ∧ fdiv (floatOfInt .f32 (r : Int)) 1266679808 ≤ 1065353216 := tone_of (R := 16777216) hr (by decide +kernel) (by decide) (by decide) (by decide +kernel)

set_option maxRecDepth 100000 in
set_option maxHeartbeats 2000000 in
theorem l01Raw_any (b n m : Nat) (v : Value) (hm : m ≤ 800000) (V : World) (h : SrcAt V b v n m) :
    Calls Try.prog 49 #[.pointer (some ⟨b, 0, none⟩)] V fun e V' => (∃ r : Nat, e = .returned (.int .u32 (r : Int)) ∧ r < 4294967296) ∧ SrcAt V' b v n (m + 4) ∧ V.grownBy V' (some b) := by
  have HP1 := Lib.hid (fun V h => pick_any b n m v (by omega) 65536 (by decide) (by decide) V h)
  have HP2 := Lib.hid (fun V h => pick_any b n (m + 2) v (by omega) 65536 (by decide) (by decide) V h)
  have HS := Lib.hid h
  clear h
  go_enter Try.func49, Try.ntmps49
  go_upto_region 2 with (go_at_call 25; refine (HP1.out _ HS.out).mono ?_; rintro e W1 ⟨⟨x, rfl, x0, x1⟩, hs1, hg1⟩)
  have HS1 := Lib.hid hs1
  obtain ⟨p, rfl⟩ := Int.eq_ofNat_of_zero_le x0
  have hw1 : IntKind.u32.wrap (p : Int) = (p : Int) := by rw [IntWalk.u32_in _ (by omega)]
  have hw3 : IntKind.u32.wrap ((p : Int) * 65536) = (p : Int) * 65536 := by rw [IntWalk.u32_in _ (by omega)]
  have hw4 : IntKind.u32.wrap ((p : Int) * 2 ^ 16) = (p : Int) * 2 ^ 16 := by rw [IntWalk.u32_in _ (by omega)]
  go_wp2_with (go_at_call 25; refine (HP2.out _ HS1.out).mono ?_; rintro e W2 ⟨⟨y, rfl, y0, y1⟩, hs2, hg2⟩)
  go_ret
  obtain ⟨q, rfl⟩ := Int.eq_ofNat_of_zero_le y0
  have e : bits .or .u32 ((p : Int) * 65536) (q : Int) = ((p * 65536 ||| q : Nat) : Int) := by
    have := u32_or_nat (p * 65536) q (by omega) (by omega)
    rw [Int.natCast_mul] at this
    exact this
  refine ⟨⟨p * 65536 ||| q, ?_, Nat.or_lt_two_pow (n := 32) (by omega) (by omega)⟩, hs2, grown_t hg1 hg2⟩
  show Ending.returned (.int .u32 (bits .or .u32 ((p : Int) * 65536) (q : Int))) = _
  rw [e]

set_option maxRecDepth 100000 in
set_option maxHeartbeats 2000000 in
theorem l01Tone_any (b n m : Nat) (v : Value) (hm : m ≤ 700000) (V : World) (h : SrcAt V b v n m) :
    Calls Try.prog 24 #[.pointer (some ⟨b, 0, none⟩)] V fun e V' => (∃ z : Nat, e = .returned (.float .f32 z) ∧ z ≤ 1065353216) ∧ SrcAt V' b v n (m + 6) ∧ V.grownBy V' (some b) := by
  have HP1 := Lib.hid (fun V h => pick_any b n m v (by omega) 4 (by decide) (by decide) V h)
  have HP2 := Lib.hid (fun V h => pick_any b n (m + 2) v (by omega) 17 (by decide) (by decide) V h)
  have HP3 := Lib.hid (fun V h => pick_any b n (m + 2) v (by omega) 1001 (by decide) (by decide) V h)
  have HRW := Lib.hid (fun V h => l01Raw_any b n (m + 2) v (by omega) V h)
  have HS := Lib.hid h
  clear h
  go_enter Try.func24, Try.ntmps24
  go_upto_region 2 with (go_at_call 25; refine (HP1.out _ HS.out).mono ?_; rintro e W1 ⟨⟨x, rfl, x0, x1⟩, hs1, hg1⟩)
  have HS1 := Lib.hid hs1
  by_cases c0 : x = 0
  · subst c0
    go_wp2_with (go_at_call 25; refine (HP2.out _ HS1.out).mono ?_; rintro e W2 ⟨⟨y, rfl, y0, y1⟩, hs2, hg2⟩; obtain ⟨p, rfl⟩ := Int.eq_ofNat_of_zero_le y0; have hp : p ≤ 16 := (by omega); have rq : ∀ T w, (binOp .quo T (.float .f32 (floatOfInt .f32 (p : Int))) (.float .f32 1098907648)).run Try.prog w = .ok (.float .f32 (fdiv (floatOfInt .f32 (p : Int)) 1098907648)) w := (fun T w => run_float_arith w .quo T .f32 _ _ _ (tone16 hp).1))
    go_ret
    exact ⟨⟨_, rfl, (tone16 hp).2⟩, src_mono hs2 (by omega), grown_t hg1 hg2⟩
  · have z0 : (x == 0) = false := by simpa using c0
    by_cases c1 : x = 1
    · subst c1
      go_wp2_with (go_at_call 25; refine (HP3.out _ HS1.out).mono ?_; rintro e W2 ⟨⟨y, rfl, y0, y1⟩, hs2, hg2⟩; obtain ⟨p, rfl⟩ := Int.eq_ofNat_of_zero_le y0; have hp : p ≤ 1000 := (by omega); have rq : ∀ T w, (binOp .quo T (.float .f32 (floatOfInt .f32 (p : Int))) (.float .f32 1148846080)).run Try.prog w = .ok (.float .f32 (fdiv (floatOfInt .f32 (p : Int)) 1148846080)) w := (fun T w => run_float_arith w .quo T .f32 _ _ _ (tone1000 hp).1))
      go_ret
      exact ⟨⟨_, rfl, (tone1000 hp).2⟩, src_mono hs2 (by omega), grown_t hg1 hg2⟩
    · have z1 : (x == 1) = false := by simpa using c1
      go_wp2_with (go_at_call 49; refine (HRW.out _ HS1.out).mono ?_; rintro e W2 ⟨⟨r, rfl, hr⟩, hs2, hg2⟩; have h9 := (tone24 (r := r / 256) (by omega)).1; rw [Int.natCast_ediv] at h9; have rq : ∀ T w, (binOp .quo T (.float .f32 (floatOfInt .f32 ((r : Int) / 256))) (.float .f32 1266679808)).run Try.prog w = .ok (.float .f32 (fdiv (floatOfInt .f32 ((r : Int) / 256)) 1266679808)) w := (fun T w => run_float_arith w .quo T .f32 _ _ _ h9))
      go_ret
      refine ⟨⟨_, rfl, ?_⟩, src_mono hs2 (by omega), grown_t hg1 hg2⟩
      have h8 := (tone24 (r := r / 256) (by omega)).2
      rw [Int.natCast_ediv] at h8
      exact h8

end Go.Proofs.Ytddnfbpgldchcaa
