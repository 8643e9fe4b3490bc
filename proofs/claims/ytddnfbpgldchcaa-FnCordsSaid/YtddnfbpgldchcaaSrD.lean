/-
  The source from which the laws draw: lengths.
-/
import Derived.Test.YtddnfbpgldchcaaSrC
namespace Go.Proofs.Ytddnfbpgldchcaa
open Go.RowKit

def Sized (z : Nat) : Prop := 1031798784 ≤ z ∧ z ≤ 1115684864

theorem sized16 {k : Nat} (h0 : 1 ≤ k) (h1 : k ≤ 64) : floatBits .quo .f32 (floatOfInt .f32 (k : Int)) 1098907648 = some (fdiv (floatOfInt .f32 (k : Int)) 1098907648) ∧ Sized (fdiv (floatOfInt .f32 (k : Int)) 1098907648) := by
  have hm := ofNat_mono h1
  have hl := ofNat_mono h0
  have hR : floatOfInt .f32 ((64 : Nat) : Int) < 2139095040 := by decide +kernel
  have e1 : fdiv (floatOfInt .f32 ((64 : Nat) : Int)) 1098907648 ≤ 1115684864 := by decide +kernel
  have e2 : 1031798784 ≤ fdiv (floatOfInt .f32 ((1 : Nat) : Int)) 1098907648 := by decide +kernel
  exact ⟨(div_rnd (by omega) (by decide) (by decide)).1, Nat.le_trans e2 (div_mono (by omega) (by decide) (by decide) hl (Nat.le_refl _)), Nat.le_trans (div_mono hR (by decide) (by decide) hm (Nat.le_refl _)) e1⟩

theorem sized21 {k : Nat} (h1 : k ≤ 16777216) : floatBits .quo .f32 (floatOfInt .f32 (k : Int)) 1241513984 = some (fdiv (floatOfInt .f32 (k : Int)) 1241513984) ∧ floatBits .add .f32 1031798784 (fdiv (floatOfInt .f32 (k : Int)) 1241513984) = some (fadd 1031798784 (fdiv (floatOfInt .f32 (k : Int)) 1241513984)) ∧ Sized (fadd 1031798784 (fdiv (floatOfInt .f32 (k : Int)) 1241513984)) := by
  have hm := ofNat_mono h1
  have hR : floatOfInt .f32 ((16777216 : Nat) : Int) < 2139095040 := by decide +kernel
  have e1 : fdiv (floatOfInt .f32 ((16777216 : Nat) : Int)) 1241513984 ≤ 1090519040 := by decide +kernel
  have e2 : fadd 1031798784 1090519040 ≤ 1115684864 := by decide +kernel
  have e3 : 1031798784 ≤ fadd 1031798784 0 := by decide +kernel
  have hq := Nat.le_trans (div_mono (y := 1241513984) (Y := 1241513984) hR (by decide) (by decide) hm (Nat.le_refl _)) e1
  exact ⟨(div_rnd (by omega) (by decide) (by decide)).1, (add_rnd (by decide) (by omega)).1, Nat.le_trans e3 (add_mono (by decide) (by omega) (Nat.le_refl _) (Nat.zero_le _)), Nat.le_trans (add_mono (by decide) (by decide) (Nat.le_refl _) hq) e2⟩

set_option maxRecDepth 100000 in
set_option maxHeartbeats 2000000 in
theorem l02Sized_any (b n m : Nat) (v : Value) (hm : m ≤ 700000) (V : World) (h : SrcAt V b v n m) :
    Calls Try.prog 23 #[.pointer (some ⟨b, 0, none⟩)] V fun e V' => (∃ z : Nat, e = .returned (.float .f32 z) ∧ Sized z) ∧ SrcAt V' b v n (m + 6) ∧ V.grownBy V' (some b) := by
  have HON := Lib.hid (fun V h => one_any b n m v (by omega) 3 (by decide) (by decide) V h)
  have HP2 := Lib.hid (fun V h => pick_any b n (m + 2) v (by omega) 64 (by decide) (by decide) V h)
  have HRW := Lib.hid (fun V h => l01Raw_any b n (m + 2) v (by omega) V h)
  have HS := Lib.hid h
  clear h
  go_enter Try.func23, Try.ntmps23
  go_upto_region 2 with (go_at_call 48; refine (HON.out _ HS.out).mono ?_; rintro e W1 ⟨⟨rb, rfl⟩, hs1, hg1⟩)
  all_goals have HS1 := Lib.hid hs1
  · go_wp2_with (go_at_call 25; refine (HP2.out _ HS1.out).mono ?_; rintro e W2 ⟨⟨y, rfl, y0, y1⟩, hs2, hg2⟩; obtain ⟨p, rfl⟩ := Int.eq_ofNat_of_zero_le y0; have hw : IntKind.i64.wrap (1 + (p : Int)) = 1 + (p : Int) := (by rw [IntWalk.i64_in _ (by omega)]); have hz := sized16 (k := 1 + p) (by omega) (by omega); rw [Int.natCast_add] at hz; have rq : ∀ T w, (binOp .quo T (.float .f32 (floatOfInt .f32 (1 + (p : Int)))) (.float .f32 1098907648)).run Try.prog w = .ok (.float .f32 (fdiv (floatOfInt .f32 (1 + (p : Int))) 1098907648)) w := (fun T w => run_float_arith w .quo T .f32 _ _ _ hz.1))
    go_ret
    exact ⟨⟨_, rfl, hz.2⟩, src_mono hs2 (by omega), grown_t hg1 hg2⟩
  · go_wp2_with (go_at_call 49; refine (HRW.out _ HS1.out).mono ?_; rintro e W2 ⟨⟨r, rfl, hr⟩, hs2, hg2⟩; have hz := sized21 (k := r / 256) (by omega); rw [Int.natCast_ediv] at hz; have rq : ∀ T w, (binOp .quo T (.float .f32 (floatOfInt .f32 ((r : Int) / 256))) (.float .f32 1241513984)).run Try.prog w = .ok (.float .f32 (fdiv (floatOfInt .f32 ((r : Int) / 256)) 1241513984)) w := (fun T w => run_float_arith w .quo T .f32 _ _ _ hz.1); have ra : ∀ T w, (binOp .add T (.float .f32 1031798784) (.float .f32 (fdiv (floatOfInt .f32 ((r : Int) / 256)) 1241513984))).run Try.prog w = .ok (.float .f32 (fadd 1031798784 (fdiv (floatOfInt .f32 ((r : Int) / 256)) 1241513984))) w := (fun T w => run_float_arith w .add T .f32 _ _ _ hz.2.1))
    go_ret
    exact ⟨⟨_, rfl, hz.2.2⟩, src_mono hs2 (by omega), grown_t hg1 hg2⟩

end Go.Proofs.Ytddnfbpgldchcaa
