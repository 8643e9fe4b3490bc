/-
  Contracts of the angle functions of the program and of the model: both give the sine by quarters.

-/
import Derived.Test.YtddnfbpgldchcaaGreatDoorPlain
import Derived.Test.YtddnfbpgldchcaaGreatDoorRows
import Derived.WalkKit
import Derived.WalkSpells
import Derived.WalkLawsBesides
import Derived.Lib.Hide
import Derived.Laws.EntriesVeiled

namespace Go.Proofs.YtddnfbpgldchcaaGreatDoor

open Go.RowKit

theorem qfacts (a : Int) (h0 : 0 ≤ a) (h1 : a ≤ 64) :
    floatBits .quo .f32 (floatOfInt .f32 a) 1115684864 = some (qx a) ∧ floatBits .mul .f32 (qx a) (qx a) = some (qy a)
    ∧ floatBits .mul .f32 (qy a) 1033109504 = some (qyk a) ∧ floatBits .sub .f32 1059356672 (qyk a) = some (qp a)
    ∧ floatBits .mul .f32 (qy a) (qp a) = some (qyp a) ∧ floatBits .sub .f32 1070137344 (qyp a) = some (qq a)
    ∧ floatBits .mul .f32 (qx a) (qq a) = some (qs a) ∧ floatBits .sub .f32 0 (qs a) = some (qn a) := by
  have h := qOk_all a h0 h1
  simpa [qOk, Bool.and_eq_true, and_assoc] using h

set_option maxHeartbeats 400000 in
theorem firstSine_any (a : Int) (h0 : 0 ≤ a) (h1 : a ≤ 64) (w : World) :
    Calls Tryz.prog 178 #[.int .i16 a] w fun e w' => e = .returned (.float .f32 (qs a)) ∧ w = w' := by
  obtain ⟨e1, e2, e3, e4, e5, e6, e7, _⟩ := qfacts a h0 h1
  have r1 : ∀ t w, (binOp .quo t (.float .f32 (floatOfInt .f32 a)) (.float .f32 1115684864)).run Tryz.prog w = .ok (.float .f32 (qx a)) w := fun t w => run_float_arith w .quo t .f32 _ _ _ e1
  have r2 : ∀ t w, (binOp .mul t (.float .f32 (qx a)) (.float .f32 (qx a))).run Tryz.prog w = .ok (.float .f32 (qy a)) w := fun t w => run_float_arith w .mul t .f32 _ _ _ e2
  have r3 : ∀ t w, (binOp .mul t (.float .f32 (qy a)) (.float .f32 1033109504)).run Tryz.prog w = .ok (.float .f32 (qyk a)) w := fun t w => run_float_arith w .mul t .f32 _ _ _ e3
  have r4 : ∀ t w, (binOp .sub t (.float .f32 1059356672) (.float .f32 (qyk a))).run Tryz.prog w = .ok (.float .f32 (qp a)) w := fun t w => run_float_arith w .sub t .f32 _ _ _ e4
  have r5 : ∀ t w, (binOp .mul t (.float .f32 (qy a)) (.float .f32 (qp a))).run Tryz.prog w = .ok (.float .f32 (qyp a)) w := fun t w => run_float_arith w .mul t .f32 _ _ _ e5
  have r6 : ∀ t w, (binOp .sub t (.float .f32 1070137344) (.float .f32 (qyp a))).run Tryz.prog w = .ok (.float .f32 (qq a)) w := fun t w => run_float_arith w .sub t .f32 _ _ _ e6
  have r7 : ∀ t w, (binOp .mul t (.float .f32 (qx a)) (.float .f32 (qq a))).run Tryz.prog w = .ok (.float .f32 (qs a)) w := fun t w => run_float_arith w .mul t .f32 _ _ _ e7
  clear e1 e2 e3 e4 e5 e6 e7
  go_enter Tryz.func178, Tryz.ntmps178
  go_wp2_with (simp only [r1, r2, r3, r4, r5, r6, r7])
  go_ret
  exact ⟨rfl, rfl⟩

set_option maxHeartbeats 400000 in
theorem secondSine_any (a : Int) (h0 : 64 ≤ a) (h1 : a ≤ 128) (w : World) :
    Calls Tryz.prog 179 #[.int .i16 a] w fun e w' => e = .returned (.float .f32 (qs (128 - a))) ∧ w = w' := by
  go_enter Tryz.func179, Tryz.ntmps179
  go_wp2_with (go_at_call 178; refine (firstSine_any _ (by omega) (by omega) _).mono ?_; rintro e w' ⟨rfl, rfl⟩)
  go_ret
  exact ⟨rfl, rfl⟩

set_option maxHeartbeats 400000 in
theorem thirdSine_any (a : Int) (h0 : 128 ≤ a) (h1 : a ≤ 192) (w : World) :
    Calls Tryz.prog 180 #[.int .i16 a] w fun e w' => e = .returned (.float .f32 (qn (a - 128))) ∧ w = w' := by
  obtain ⟨_, _, _, _, _, _, _, e8⟩ := qfacts (a - 128) (by omega) (by omega)
  have r8 : ∀ t w, (binOp .sub t (.float .f32 0) (.float .f32 (qs (a - 128)))).run Tryz.prog w = .ok (.float .f32 (qn (a - 128))) w := fun t w => run_float_arith w .sub t .f32 _ _ _ e8
  clear e8
  go_enter Tryz.func180, Tryz.ntmps180
  go_wp2_with (go_at_call 178; refine (firstSine_any _ (by omega) (by omega) _).mono ?_; rintro e w' ⟨rfl, rfl⟩)
  go_ret
  exact ⟨rfl, rfl⟩

set_option maxHeartbeats 400000 in
theorem fourthSine_any (a : Int) (h0 : 192 ≤ a) (h1 : a ≤ 255) (w : World) :
    Calls Tryz.prog 181 #[.int .i16 a] w fun e w' => e = .returned (.float .f32 (qn (256 - a))) ∧ w = w' := by
  obtain ⟨_, _, _, _, _, _, _, e8⟩ := qfacts (256 - a) (by omega) (by omega)
  have r8 : ∀ t w, (binOp .sub t (.float .f32 0) (.float .f32 (qs (256 - a)))).run Tryz.prog w = .ok (.float .f32 (qn (256 - a))) w := fun t w => run_float_arith w .sub t .f32 _ _ _ e8
  clear e8
  go_enter Tryz.func181, Tryz.ntmps181
  go_wp2_with (go_at_call 178; refine (firstSine_any _ (by omega) (by omega) _).mono ?_; rintro e w' ⟨rfl, rfl⟩)
  go_ret
  exact ⟨rfl, rfl⟩

theorem ret_int {k : IntKind} {a b : Int} (h : a = b) : Ending.returned (.int k a) = .returned (.int k b) := by rw [h]

theorem ret_f32 {a b : Nat} (h : a = b) : Ending.returned (.float .f32 a) = .returned (.float .f32 b) := by rw [h]

theorem tmod_ang (a : Int) : a.tmod 256 % 256 = angB a := by
  unfold angB
  have h3 : a = 256 * a.tdiv 256 + a.tmod 256 := (Int.mul_tdiv_add_tmod a 256).symm
  omega

theorem tmod_ang2 (a : Int) : (a.tmod 256 + 256) % 256 = angB a := by
  have h := tmod_ang a
  omega

theorem tmod_bd (a : Int) : -256 < a.tmod 256 ∧ a.tmod 256 < 256 :=
  ⟨Int.lt_tmod_of_pos a (b := 256) (by decide), Int.tmod_lt_of_pos a (b := 256) (by decide)⟩

set_option maxHeartbeats 400000 in
theorem angleOf_any (a : Int) (w : World) :
    Calls Tryz.prog 106 #[.int .i64 a] w fun e w' => e = .returned (.int .i16 (angB a)) ∧ w = w' := by
  obtain ⟨h1, h2⟩ := tmod_bd a
  have h3 := angB_lo a
  have h4 := angB_hi a
  go_enter Tryz.func106, Tryz.ntmps106
  go_wp2
  go_ret
  exact ⟨ret_int (tmod_ang a), rfl⟩

set_option maxHeartbeats 400000 in
theorem l01Angle_any (a : Int) (w : World) :
    Calls Tryz.prog 151 #[.int .i64 a] w fun e w' => e = .returned (.int .i64 (angB a)) ∧ w = w' := by
  obtain ⟨h1, h2⟩ := tmod_bd a
  go_enter Tryz.func151, Tryz.ntmps151
  go_wp2
  go_ret
  exact ⟨ret_int (tmod_ang2 a), rfl⟩

theorem i16_in (n : Int) (h0 : -32768 ≤ n) (h1 : n ≤ 32767) : IntKind.i16.wrap n = n := by
  simp [IntKind.wrap, IntKind.signed, IntKind.bits]
  omega

theorem quart (a k : Int) (h0 : 0 ≤ k) (h3 : k ≤ 3) (hl : 64 * k ≤ a) (hh : a < 64 * k + 64) : IntKind.i16.wrap (a.tdiv 64) = k := by
  have h : a.tdiv 64 = k := by
    rw [Int.tdiv_eq_ediv_of_nonneg (by omega)]; omega
  rw [h]; exact i16_in k (by omega) (by omega)

set_option maxHeartbeats 400000 in
theorem sine_q1 (a : Int) (h0 : 0 ≤ a) (h1 : a < 64) (w : World) :
    Calls Tryz.prog 148 #[.int .i16 a] w fun e w' => e = .returned (.float .f32 (qs a)) ∧ Below w.heap.size w w' := by
  have hq := quart a 0 (by omega) (by omega) (by omega) (by omega)
  go_enter Tryz.func148, Tryz.ntmps148
  go_wp2_with (go_at_call 178; refine (firstSine_any _ (by omega) (by omega) _).mono ?_; rintro e w' ⟨rfl, rfl⟩)
  go_ret
  exact ⟨rfl, (Below.refl _ _).alloc (Nat.le_refl _) _⟩

set_option maxHeartbeats 400000 in
theorem sine_q2 (a : Int) (h0 : 64 ≤ a) (h1 : a < 128) (w : World) :
    Calls Tryz.prog 148 #[.int .i16 a] w fun e w' => e = .returned (.float .f32 (qs (128 - a))) ∧ Below w.heap.size w w' := by
  have hq := quart a 1 (by omega) (by omega) (by omega) (by omega)
  go_enter Tryz.func148, Tryz.ntmps148
  go_wp2_with (go_at_call 179; refine (secondSine_any _ (by omega) (by omega) _).mono ?_; rintro e w' ⟨rfl, rfl⟩)
  go_ret
  exact ⟨rfl, (Below.refl _ _).alloc (Nat.le_refl _) _⟩

set_option maxHeartbeats 400000 in
theorem sine_q3 (a : Int) (h0 : 128 ≤ a) (h1 : a < 192) (w : World) :
    Calls Tryz.prog 148 #[.int .i16 a] w fun e w' => e = .returned (.float .f32 (qn (a - 128))) ∧ Below w.heap.size w w' := by
  have hq := quart a 2 (by omega) (by omega) (by omega) (by omega)
  go_enter Tryz.func148, Tryz.ntmps148
  go_wp2_with (go_at_call 180; refine (thirdSine_any _ (by omega) (by omega) _).mono ?_; rintro e w' ⟨rfl, rfl⟩)
  go_ret
  exact ⟨rfl, (Below.refl _ _).alloc (Nat.le_refl _) _⟩

set_option maxHeartbeats 400000 in
theorem sine_q4 (a : Int) (h0 : 192 ≤ a) (h1 : a < 256) (w : World) :
    Calls Tryz.prog 148 #[.int .i16 a] w fun e w' => e = .returned (.float .f32 (qn (256 - a))) ∧ Below w.heap.size w w' := by
  have hq := quart a 3 (by omega) (by omega) (by omega) (by omega)
  go_enter Tryz.func148, Tryz.ntmps148
  go_wp2_with (go_at_call 181; refine (fourthSine_any _ (by omega) (by omega) _).mono ?_; rintro e w' ⟨rfl, rfl⟩)
  go_ret
  exact ⟨rfl, (Below.refl _ _).alloc (Nat.le_refl _) _⟩

theorem qn_0 : qn 0 = qs 0 := by decide +kernel

theorem sine_any (a : Int) (h0 : 0 ≤ a) (h1 : a ≤ 255) (w : World) :
    Calls Tryz.prog 148 #[.int .i16 a] w fun e w' => e = .returned (.float .f32 (sineB a)) ∧ Below w.heap.size w w' := by
  have key : ∀ x, sineB a = x → (Calls Tryz.prog 148 #[.int .i16 a] w fun e w' => e = .returned (.float .f32 x) ∧ Below w.heap.size w w') → Calls Tryz.prog 148 #[.int .i16 a] w fun e w' => e = .returned (.float .f32 (sineB a)) ∧ Below w.heap.size w w' := by
    intro x hx h
    rw [hx]; exact h
  by_cases c1 : a < 64
  · exact key _ (by unfold sineB; rw [if_pos (by omega)]) (sine_q1 a h0 c1 w)
  by_cases c2 : a < 128
  · refine key _ ?_ (sine_q2 a (by omega) c2 w)
    unfold sineB
    by_cases e : a = 64
    · subst e; rfl
    · rw [if_neg (by omega), if_pos (by omega)]
  by_cases c3 : a < 192
  · refine key _ ?_ (sine_q3 a (by omega) c3 w)
    unfold sineB
    by_cases e : a = 128
    · subst e; rw [if_neg (by omega), if_pos (by omega)]; exact qn_0.symm
    · rw [if_neg (by omega), if_neg (by omega), if_pos (by omega)]
  · refine key _ ?_ (sine_q4 a (by omega) (by omega) w)
    unfold sineB
    by_cases e : a = 192
    · subst e; rfl
    · rw [if_neg (by omega), if_neg (by omega), if_neg (by omega)]

set_option maxHeartbeats 400000 in
theorem cosine_any (a : Int) (h0 : -32768 ≤ a) (h1 : a ≤ 32767) (w : World) :
    Calls Tryz.prog 107 #[.int .i16 a] w fun e w' => e = .returned (.float .f32 (cosB a)) ∧ Below w.heap.size w w' := by
  have hl := angB_lo (a + 64)
  have hh := angB_hi (a + 64)
  go_enter Tryz.func107, Tryz.ntmps107
  go_wp2_with (first | (go_at_call 106; refine (angleOf_any _ _).mono ?_; rintro e w' ⟨rfl, rfl⟩) | (go_at_call 148; refine (sine_any _ (by omega) (by omega) _).mono ?_; rintro e w1 ⟨rfl, hb⟩))
  go_ret
  exact ⟨rfl, hb⟩

set_option maxHeartbeats 400000 in
theorem SineOf_any (a : Int) (w : World) :
    Calls Tryz.prog 156 #[.int .i64 a] w fun e w' => e = .returned (.float .f32 (sineB (angB a))) ∧ Below w.heap.size w w' := by
  have hl := angB_lo a
  have hh := angB_hi a
  go_enter Tryz.func156, Tryz.ntmps156
  go_wp2_with (first | (go_at_call 106; refine (angleOf_any _ _).mono ?_; rintro e w' ⟨rfl, rfl⟩) | (go_at_call 148; refine (sine_any _ (by omega) (by omega) _).mono ?_; rintro e w1 ⟨rfl, hb⟩))
  go_ret
  exact ⟨rfl, hb⟩

theorem cosB_ang (a : Int) : cosB (angB a) = cosB a := by
  unfold cosB angB
  congr 1
  omega

set_option maxHeartbeats 400000 in
theorem CosineOf_any (a : Int) (w : World) :
    Calls Tryz.prog 154 #[.int .i64 a] w fun e w' => e = .returned (.float .f32 (cosB a)) ∧ Below w.heap.size w w' := by
  have hl := angB_lo a
  have hh := angB_hi a
  have H := Lib.hid (cosB_ang a)
  go_enter Tryz.func154, Tryz.ntmps154
  go_wp2_with (first | (go_at_call 106; refine (angleOf_any _ _).mono ?_; rintro e w' ⟨rfl, rfl⟩) | (go_at_call 107; refine (cosine_any _ (by omega) (by omega) _).mono ?_; rintro e w1 ⟨rfl, hb⟩))
  go_ret
  exact ⟨ret_f32 H.out, hb⟩

/-! ### The model's functions -/

set_option maxHeartbeats 400000 in
theorem l01Quarter_any (a : Int) (h0 : 0 ≤ a) (h1 : a ≤ 64) (w : World) :
    Calls Tryz.prog 182 #[.int .i64 a] w fun e w' => e = .returned (.float .f32 (qs a)) ∧ w = w' := by
  obtain ⟨e1, e2, e3, e4, e5, e6, e7, _⟩ := qfacts a h0 h1
  have r1 : ∀ t w, (binOp .quo t (.float .f32 (floatOfInt .f32 a)) (.float .f32 1115684864)).run Tryz.prog w = .ok (.float .f32 (qx a)) w := fun t w => run_float_arith w .quo t .f32 _ _ _ e1
  have r2 : ∀ t w, (binOp .mul t (.float .f32 (qx a)) (.float .f32 (qx a))).run Tryz.prog w = .ok (.float .f32 (qy a)) w := fun t w => run_float_arith w .mul t .f32 _ _ _ e2
  have r3 : ∀ t w, (binOp .mul t (.float .f32 (qy a)) (.float .f32 1033109504)).run Tryz.prog w = .ok (.float .f32 (qyk a)) w := fun t w => run_float_arith w .mul t .f32 _ _ _ e3
  have r4 : ∀ t w, (binOp .sub t (.float .f32 1059356672) (.float .f32 (qyk a))).run Tryz.prog w = .ok (.float .f32 (qp a)) w := fun t w => run_float_arith w .sub t .f32 _ _ _ e4
  have r5 : ∀ t w, (binOp .mul t (.float .f32 (qy a)) (.float .f32 (qp a))).run Tryz.prog w = .ok (.float .f32 (qyp a)) w := fun t w => run_float_arith w .mul t .f32 _ _ _ e5
  have r6 : ∀ t w, (binOp .sub t (.float .f32 1070137344) (.float .f32 (qyp a))).run Tryz.prog w = .ok (.float .f32 (qq a)) w := fun t w => run_float_arith w .sub t .f32 _ _ _ e6
  have r7 : ∀ t w, (binOp .mul t (.float .f32 (qx a)) (.float .f32 (qq a))).run Tryz.prog w = .ok (.float .f32 (qs a)) w := fun t w => run_float_arith w .mul t .f32 _ _ _ e7
  clear e1 e2 e3 e4 e5 e6 e7
  go_enter Tryz.func182, Tryz.ntmps182
  go_wp2
  go_ret
  exact ⟨rfl, rfl⟩

set_option maxHeartbeats 400000 in
theorem l01Sine_any (a : Int) (w : World) :
    Calls Tryz.prog 150 #[.int .i64 a] w fun e w' => e = .returned (.float .f32 (sineB (angB a))) ∧ w = w' := by
  have hl := angB_lo a
  have hh := angB_hi a
  have hs : ∀ x, (∀ t w, (binOp .sub t (.float .f32 0) (.float .f32 (qs x))).run Tryz.prog w = .ok (.float .f32 (qn x)) w) ∨ ¬ (0 ≤ x ∧ x ≤ 64) := by
    intro x
    by_cases h : 0 ≤ x ∧ x ≤ 64
    · obtain ⟨_, _, _, _, _, _, _, e8⟩ := qfacts x h.1 h.2
      exact .inl fun t w => run_float_arith w .sub t .f32 _ _ _ e8
    · exact .inr h
  generalize hn : angB a = n at *
  have H := Lib.hid hn
  clear hn
  unfold sineB
  by_cases c1 : n ≤ 64
  · rw [if_pos c1]
    clear hs
    go_enter Tryz.func150, Tryz.ntmps150
    go_wp2_with (first | (go_at_call 151; refine (l01Angle_any _ _).mono ?_; rintro e w' ⟨rfl, rfl⟩; rw [H.out]) | (go_at_call 182; refine (l01Quarter_any _ (by omega) (by omega) _).mono ?_; rintro e w1 ⟨rfl, rfl⟩))
    go_ret
    exact ⟨rfl, rfl⟩
  rw [if_neg c1]
  by_cases c2 : n ≤ 128
  · rw [if_pos c2]
    clear hs
    go_enter Tryz.func150, Tryz.ntmps150
    go_wp2_with (first | (go_at_call 151; refine (l01Angle_any _ _).mono ?_; rintro e w' ⟨rfl, rfl⟩; rw [H.out]) | (go_at_call 182; refine (l01Quarter_any _ (by omega) (by omega) _).mono ?_; rintro e w1 ⟨rfl, rfl⟩))
    go_ret
    exact ⟨rfl, rfl⟩
  rw [if_neg c2]
  by_cases c3 : n ≤ 192
  · rw [if_pos c3]
    have r := (hs (n - 128)).resolve_right (by omega)
    clear hs
    go_enter Tryz.func150, Tryz.ntmps150
    go_wp2_with (first | (go_at_call 151; refine (l01Angle_any _ _).mono ?_; rintro e w' ⟨rfl, rfl⟩; rw [H.out]) | (go_at_call 182; refine (l01Quarter_any _ (by omega) (by omega) _).mono ?_; rintro e w1 ⟨rfl, rfl⟩))
    go_ret
    exact ⟨rfl, rfl⟩
  · rw [if_neg c3]
    have r := (hs (256 - n)).resolve_right (by omega)
    clear hs
    go_enter Tryz.func150, Tryz.ntmps150
    go_wp2_with (first | (go_at_call 151; refine (l01Angle_any _ _).mono ?_; rintro e w' ⟨rfl, rfl⟩; rw [H.out]) | (go_at_call 182; refine (l01Quarter_any _ (by omega) (by omega) _).mono ?_; rintro e w1 ⟨rfl, rfl⟩))
    go_ret
    exact ⟨rfl, rfl⟩

theorem cos_ang2 (a : Int) : angB (angB a + 64) = angB (a + 64) := by unfold angB; omega

set_option maxHeartbeats 400000 in
theorem l01Cosine_any (a : Int) (w : World) :
    Calls Tryz.prog 109 #[.int .i64 a] w fun e w' => e = .returned (.float .f32 (cosB a)) ∧ w = w' := by
  have hl := angB_lo a
  have hh := angB_hi a
  have H := Lib.hid (cos_ang2 a)
  go_enter Tryz.func109, Tryz.ntmps109
  go_wp2_with (first | (go_at_call 151; refine (l01Angle_any _ _).mono ?_; rintro e w' ⟨rfl, rfl⟩) | (go_at_call 150; refine (l01Sine_any _ _).mono ?_; rintro e w1 ⟨rfl, rfl⟩))
  go_ret
  exact ⟨ret_f32 (by unfold cosB; rw [H.out]), rfl⟩

end Go.Proofs.YtddnfbpgldchcaaGreatDoor
