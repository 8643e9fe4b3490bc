/-
  Steps between numbers: the program and the model.
-/
import Derived.Test.YtjpnbcfdnolcjaaStp
namespace Go.Proofs.Ytjpnbcfdnolcjaa
open Go.ChangeShapes Go.WideShapes Go.ChangeAt Go.RowKit Go.Deep Go.Joins

attribute [local go_sem] run_store_f

/-- The number that is so many steps above 0. -/
def numB (p : Int) : Nat := if p < 0 then (2147483648 - p).toNat else p.toNat
def farI (a b : Int) : Int := if a ≤ b then b - a else a - b
theorem place_bd {x : Nat} (h : PlnOk x) : -1233125376 ≤ placeI x ∧ placeI x ≤ 1233125376 := by
  obtain ⟨h1, h2⟩ := h
  unfold mag at h2
  unfold placeI
  rcases h1 with h1 | ⟨h1, h3⟩
  · rw [if_pos (by omega)] at h2 ⊢; omega
  · rw [if_neg (by omega)] at h2 ⊢; omega
theorem numB_num {p : Int} (h0 : -1234125376 ≤ p) (h1 : p ≤ 1234125376) : isNum (numB p) := by
  unfold numB
  split
  · right; omega
  · left; omega
theorem ret_ic {a b c : Int} (h : a = b) : Ending.returned (.tuple #[.int .i64 a, .int .i64 c]) = .returned (.tuple #[.int .i64 b, .int .i64 c]) := by rw [h]
theorem word_lt {x : Nat} (h : (Lit.float .f32 x).wf = true) : x < 4294967296 := by
  have : decide (x < 4294967296) = true := by simpa [Lit.wf] using h
  exact of_decide_eq_true this
theorem in6_any (a lo hi : Int) (w : World) :
    Calls Try.prog 58 #[.int .i64 a, .int .i64 lo, .int .i64 hi] w fun e w' => e = .returned (.bool (decide (lo ≤ a) && decide (a ≤ hi))) ∧ w = w' := by
  by_cases h0 : lo ≤ a
  · by_cases h1 : a ≤ hi
    · go_enter Try.func58, Try.ntmps58
      go_wp2
      go_ret
      first | (simp; done) | (simp; omega)
    · go_enter Try.func58, Try.ntmps58
      go_wp2
      go_ret
      first | (simp; done) | (simp; omega)
  · go_enter Try.func58, Try.ntmps58
    go_wp2
    go_ret
    first | (simp; done) | (simp; omega)
theorem in6_is (a lo hi : Int) (r : Bool) (hr : (decide (lo ≤ a) && decide (a ≤ hi)) = r) (w : World) :
    Calls Try.prog 58 #[.int .i64 a, .int .i64 lo, .int .i64 hi] w fun e w' => e = .returned (.bool r) ∧ w = w' := by subst hr; exact in6_any a lo hi w
theorem max6_any (a b : Int) (w : World) : Calls Try.prog 77 #[.int .i64 a, .int .i64 b] w fun e w' => e = .returned (.int .i64 (if b < a then a else b)) ∧ w = w' := by
  by_cases h : b < a
  · rw [if_pos h]
    go_enter Try.func77, Try.ntmps77
    go_wp2
    go_ret
    exact ⟨rfl, rfl⟩
  · rw [if_neg h]
    go_enter Try.func77, Try.ntmps77
    go_wp2
    go_ret
    exact ⟨rfl, rfl⟩
set_option maxRecDepth 100000 in
set_option maxHeartbeats 1000000 in
theorem far_any (a b : Int) (ha : -1233125376 ≤ a) (ha' : a ≤ 1233125376) (hb : -1233125376 ≤ b) (hb' : b ≤ 1233125376) (w : World) : Calls Try.prog 55 #[.int .i64 a, .int .i64 b] w fun e w' => e = .returned (.int .i64 (farI a b)) ∧ w = w' := by
  have e : farI a b = if b - a < a - b then a - b else b - a := by unfold farI; split <;> split <;> omega
  rw [e]
  clear e
  go_enter Try.func55, Try.ntmps55
  go_wp2_with (go_at_call 77; refine (max6_any _ _ _).mono ?_; rintro e w' ⟨rfl, rfl⟩)
  all_goals
    go_ret
    exact ⟨rfl, rfl⟩
set_option maxRecDepth 100000 in
set_option maxHeartbeats 1000000 in
theorem iStepsApart_yes (a b : Nat) (ha : plainB a = true) (hb : plainB b = true) (wa : (Lit.float .f32 a).wf = true) (wb : (Lit.float .f32 b).wf = true) (w : World) :
    Calls Try.prog 22 #[.float .f32 a, .float .f32 b] w fun e w' => e = .returned (.tuple #[.int .i64 (farI (placeI a) (placeI b)), .int .i64 0]) ∧ w = w' := by
  obtain ⟨p1, p2⟩ := place_bd (plain_get wa ha)
  obtain ⟨q1, q2⟩ := place_bd (plain_get wb hb)
  have HSa := Lib.hid (stepsTo_any a (word_lt wa))
  have HSb := Lib.hid (stepsTo_any b (word_lt wb))
  have HPa := Lib.hid (isPlain_is a _ ha)
  have HPb := Lib.hid (isPlain_is b _ hb)
  clear ha hb wa wb
  generalize placeI a = x at *
  generalize placeI b = y at *
  unfold farI
  by_cases h : x ≤ y
  all_goals
    first | rw [if_pos h] | rw [if_neg h]
    go_enter Try.func22, Try.ntmps22
    go_wp2_with (first | (go_at_call 49; (with_reducible refine (HPa.out _).mono ?_); rintro e w' ⟨rfl, rfl⟩) | (go_at_call 49; (with_reducible refine (HPb.out _).mono ?_); rintro e w' ⟨rfl, rfl⟩) | (go_at_call 57; (with_reducible refine (HSa.out _).mono ?_); rintro e w' ⟨rfl, rfl⟩) | (go_at_call 57; (with_reducible refine (HSb.out _).mono ?_); rintro e w' ⟨rfl, rfl⟩))
    all_goals
      go_ret2
      exact ⟨ret_ic (by omega), rfl⟩
set_option maxRecDepth 100000 in
set_option maxHeartbeats 1000000 in
theorem iStepsApart_no (a b : Nat) (h : (plainB a && plainB b) = false) (w : World) :
    Calls Try.prog 22 #[.float .f32 a, .float .f32 b] w fun e w' => e = .returned (.tuple #[.int .i64 0, .int .i64 1]) ∧ w = w' := by
  cases ha : plainB a
  · have HPa := Lib.hid (isPlain_is a _ ha)
    clear ha h
    go_enter Try.func22, Try.ntmps22
    go_wp2_with (go_at_call 49; (with_reducible refine (HPa.out _).mono ?_); rintro e w' ⟨rfl, rfl⟩)
    go_ret2
    exact ⟨rfl, rfl⟩
  · have hb : plainB b = false := by rw [ha, Bool.true_and] at h; exact h
    have HPa := Lib.hid (isPlain_is a _ ha)
    have HPb := Lib.hid (isPlain_is b _ hb)
    clear ha h hb
    go_enter Try.func22, Try.ntmps22
    go_wp2_with (first | (go_at_call 49; (with_reducible refine (HPa.out _).mono ?_); rintro e w' ⟨rfl, rfl⟩) | (go_at_call 49; (with_reducible refine (HPb.out _).mono ?_); rintro e w' ⟨rfl, rfl⟩))
    go_ret2
    exact ⟨rfl, rfl⟩
set_option maxRecDepth 100000 in
set_option maxHeartbeats 1000000 in
theorem sStepsApart_yes (a b : Nat) (ha : plainB a = true) (hb : plainB b = true) (wa : (Lit.float .f32 a).wf = true) (wb : (Lit.float .f32 b).wf = true) (w : World) :
    Calls Try.prog 21 #[.float .f32 a, .float .f32 b] w fun e w' => e = .returned (.tuple #[.int .i64 (farI (placeI a) (placeI b)), .int .i64 0]) ∧ w = w' := by
  obtain ⟨p1, p2⟩ := place_bd (plain_get wa ha)
  obtain ⟨q1, q2⟩ := place_bd (plain_get wb hb)
  have HSa := Lib.hid (l06Place_any a (word_lt wa))
  have HSb := Lib.hid (l06Place_any b (word_lt wb))
  have HPa := Lib.hid (l01Plain_is a _ ha)
  have HPb := Lib.hid (l01Plain_is b _ hb)
  clear ha hb wa wb
  generalize placeI a = x at *
  generalize placeI b = y at *
  have HF := Lib.hid (far_any x y p1 p2 q1 q2)
  go_enter Try.func21, Try.ntmps21
  go_wp2_with (first | (go_at_call 54; (with_reducible refine (HPa.out _).mono ?_); rintro e w' ⟨rfl, rfl⟩) | (go_at_call 54; (with_reducible refine (HPb.out _).mono ?_); rintro e w' ⟨rfl, rfl⟩) | (go_at_call 56; (with_reducible refine (HSa.out _).mono ?_); rintro e w' ⟨rfl, rfl⟩) | (go_at_call 56; (with_reducible refine (HSb.out _).mono ?_); rintro e w' ⟨rfl, rfl⟩) | (go_at_call 55; (with_reducible refine (HF.out _).mono ?_); rintro e w' ⟨rfl, rfl⟩))
  go_ret2
  exact ⟨rfl, rfl⟩
set_option maxRecDepth 100000 in
set_option maxHeartbeats 1000000 in
theorem sStepsApart_no (a b : Nat) (h : (plainB a && plainB b) = false) (w : World) :
    Calls Try.prog 21 #[.float .f32 a, .float .f32 b] w fun e w' => e = .returned (.tuple #[.int .i64 0, .int .i64 1]) ∧ w = w' := by
  cases ha : plainB a
  · have HPa := Lib.hid (l01Plain_is a _ ha)
    clear ha h
    go_enter Try.func21, Try.ntmps21
    go_wp2_with (go_at_call 54; (with_reducible refine (HPa.out _).mono ?_); rintro e w' ⟨rfl, rfl⟩)
    go_ret2
    exact ⟨rfl, rfl⟩
  · have hb : plainB b = false := by rw [ha, Bool.true_and] at h; exact h
    have HPa := Lib.hid (l01Plain_is a _ ha)
    have HPb := Lib.hid (l01Plain_is b _ hb)
    clear ha h hb
    go_enter Try.func21, Try.ntmps21
    go_wp2_with (first | (go_at_call 54; (with_reducible refine (HPa.out _).mono ?_); rintro e w' ⟨rfl, rfl⟩) | (go_at_call 54; (with_reducible refine (HPb.out _).mono ?_); rintro e w' ⟨rfl, rfl⟩))
    go_ret2
    exact ⟨rfl, rfl⟩

end Go.Proofs.Ytjpnbcfdnolcjaa
