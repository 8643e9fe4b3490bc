/-
  Which of two numbers comes first: the program and the model.
-/
import Derived.Test.YtjpnbcfdnolcjaaSbL
import Derived.Test.YtjpnbcfdnolcjaaOrd
import Derived.Test.YtjpnbcfdnolcjaaBsame
import Derived.IntWalk
import Derived.Sort.Grow
namespace Go.Proofs.Ytjpnbcfdnolcjaa
open Go.ChangeShapes Go.WideShapes Go.ChangeAt Go.RowKit Go.Deep Go.Joins

attribute [local go_sem] run_store_f

theorem run_bits64 (a : Nat) (w : World) : (callFunc 83 #[.float .f64 a]).run Try.prog w = .ok (.value (.int .u64 a)) w := by kernel_rfl

def signW (y : Nat) : Bool := decide (9223372036854775808 ≤ y)

theorem wrap_i64 (y : Nat) (hy : y < 18446744073709551616) : ∃ v : Int, IntKind.i64.wrap (y : Int) = v ∧ decide (v < 0) = signW y := by
  refine ⟨_, rfl, ?_⟩
  unfold signW
  have e : IntKind.i64.wrap (y : Int) = if (y : Int) < 9223372036854775808 then (y : Int) else (y : Int) - 18446744073709551616 := by
    simp only [IntKind.wrap, IntKind.bits, IntKind.signed]
    simp
    omega
  rw [e, Bool.eq_iff_iff, decide_eq_true_iff, decide_eq_true_iff]
  split <;> omega

set_option maxRecDepth 100000 in
set_option maxHeartbeats 1000000 in
theorem signbit_any (y : Nat) (hy : y < 18446744073709551616) (w : World) : Calls Try.prog 82 #[.float .f64 y] w fun e w' => e = .returned (.bool (signW y)) ∧ w = w' := by
  have rb := run_bits64 y
  obtain ⟨v, hv, h⟩ := wrap_i64 y hy
  have H := Lib.hid h
  clear hy h
  generalize (y : Int) = yi at *
  go_enter Try.func82, Try.ntmps82
  go_wp2
  go_ret
  exact ⟨ret_bool5 H.out, rfl⟩

theorem order_selfN {x : Nat} (h : isNum x) : FloatKind.f32.format.order x x = some .eq := order_self h

def cmpF (a b : Nat) : Int := match FloatKind.f32.format.order a b with | some .lt => -1 | some .gt => 1 | _ => 0



def cmpU (a b : Int) : Int := if a < b then -1 else if b < a then 1 else 0

def orI (r1 r2 : Int) : Int := if r1 = 0 then r2 else r1

theorem ret_i64N {a b : Int} (h : a = b) : Ending.returned (.int .i64 a) = .returned (.int .i64 b) := by rw [h]

theorem cf_of {a b : Nat} (ha : isNum a) (hb : isNum b) : orI (cmpF a b) (cmpU (b : Int) (a : Int)) = cfI a b := by
  rcases num_order ha hb with ⟨h, h2⟩ | ⟨h, h2⟩ | ⟨h, h2⟩
  · have e : cmpF a b = -1 := by unfold cmpF; rw [h]
    unfold orI cfI
    rw [e, if_neg (by decide), if_pos h2]
  · have e : cmpF a b = 1 := by unfold cmpF; rw [h]
    unfold orI cfI
    rw [e, if_neg (by decide), if_neg (by omega), if_pos h2]
  · have e : cmpF a b = 0 := by unfold cmpF; rw [h]
    unfold orI
    rw [e, if_pos rfl]
    rcases h2 with rfl | ⟨rfl, rfl⟩ | ⟨rfl, rfl⟩
    · unfold cmpU cfI
      rw [if_neg (Int.lt_irrefl _), if_neg (Int.lt_irrefl _), if_neg (Int.lt_irrefl _), if_neg (Int.lt_irrefl _)]
    · decide
    · decide

def belowB (a b : Nat) : Bool := decide (kI a < kI b)

set_option maxRecDepth 100000 in
set_option maxHeartbeats 4000000 in
theorem l06Below_any (a b : Nat) (ha : isNum a) (hb : isNum b) (w : World) : Calls Try.prog 81 #[.float .f32 a, .float .f32 b] w fun e w' => e = .returned (.bool (belowB a b)) ∧ w = w' := by
  obtain ⟨_, wa, _⟩ := wide_ok a (num_finN ha)
  obtain ⟨_, wb, _⟩ := wide_ok b (num_finN hb)
  have ra := run_wide a (num_finN ha)
  have rb := run_wide b (num_finN hb)
  have HA := Lib.hid (signbit_any (wide a) wa)
  have HB := Lib.hid (signbit_any (wide b) wb)
  have s0 : signW (wide 0) = false := by decide +kernel
  have s1 : signW (wide 2147483648) = true := by decide +kernel
  unfold belowB
  rcases num_order ha hb with ⟨h, h2⟩ | ⟨h, h2⟩ | ⟨h, h2⟩
  · rw [decide_eq_true h2]
    clear ha hb wa wb HA HB s0 s1 h2
    go_enter Try.func81, Try.ntmps81
    go_wp2
    go_ret
    exact ⟨rfl, rfl⟩
  · rw [decide_eq_false (show ¬ kI a < kI b by omega)]
    clear ha hb wa wb HA HB s0 s1 h2
    go_enter Try.func81, Try.ntmps81
    go_wp2
    go_ret
    exact ⟨rfl, rfl⟩
  · clear ha hb wa wb
    rcases h2 with rfl | ⟨rfl, rfl⟩ | ⟨rfl, rfl⟩
    · rw [decide_eq_false (show ¬ kI a < kI a by omega)]
      clear s0 s1 HB rb
      generalize signW (wide a) = r at *
      generalize wide a = y at *
      cases r
      all_goals
        go_enter Try.func81, Try.ntmps81
        go_wp2_with (go_at_call 82; (with_reducible refine (HA.out _).mono ?_); rintro e w' ⟨rfl, rfl⟩)
        go_ret
        exact ⟨rfl, rfl⟩
    · rw [show decide (kI 0 < kI 2147483648) = false by decide]
      rw [s0] at HA
      rw [s1] at HB
      clear s0 s1
      generalize wide 0 = y at *
      generalize wide 2147483648 = z at *
      go_enter Try.func81, Try.ntmps81
      go_wp2_with (first | (go_at_call 82; (with_reducible refine (HA.out _).mono ?_); rintro e w' ⟨rfl, rfl⟩) | (go_at_call 82; (with_reducible refine (HB.out _).mono ?_); rintro e w' ⟨rfl, rfl⟩))
      go_ret
      exact ⟨rfl, rfl⟩
    · rw [show decide (kI 2147483648 < kI 0) = true by decide]
      rw [s1] at HA
      rw [s0] at HB
      clear s0 s1
      generalize wide 0 = y at *
      generalize wide 2147483648 = z at *
      go_enter Try.func81, Try.ntmps81
      go_wp2_with (first | (go_at_call 82; (with_reducible refine (HA.out _).mono ?_); rintro e w' ⟨rfl, rfl⟩) | (go_at_call 82; (with_reducible refine (HB.out _).mono ?_); rintro e w' ⟨rfl, rfl⟩))
      go_ret
      exact ⟨rfl, rfl⟩

end Go.Proofs.Ytjpnbcfdnolcjaa
