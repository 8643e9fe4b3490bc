/-
  Which of two numbers comes first: the program and the model.
-/
import Derived.Test.YtjpnbcfdnolcjabSbL
import Derived.Test.YtjpnbcfdnolcjabOrd
import Derived.Test.YtjpnbcfdnolcjabBsame
import Derived.IntWalk
import Derived.Sort.Grow
namespace Go.Proofs.Ytjpnbcfdnolcjab
open Go.ChangeShapes Go.WideShapes Go.ChangeAt Go.RowKit Go.Deep Go.Joins

attribute [local go_sem] run_store_f

theorem run_bits64 (a : Nat) (w : World) : (callFunc 98 #[.float .f64 a]).run Try.prog w = .ok (.value (.int .u64 a)) w := by kernel_rfl

def signW (y : Nat) : Bool := decide (9223372036854775808 ≤ y)

theorem wrap_i64 (y : Nat) (hy : y < 18446744073709551616) : ∃ v : Int, IntKind.i64.wrap (y : Int) = v ∧ decide (v < 0) = signW y := by
  refine ⟨_, rfl, ?_⟩
  unfold signW
  have e : IntKind.i64.wrap (y : Int) = if (y : Int) < 9223372036854775808 then (y : Int) else (y : Int) - 18446744073709551616 := by
    simp only [IntKind.wrap, IntKind.bits, IntKind.signed]
    simp
    omega
  rw [e, Bool.eq_iff_iff, decide_eq_true_iff, decide_eq_true_iff]
  split <;> omega

set_option maxRecDepth 100000 in
set_option maxHeartbeats 1000000 in
theorem signbit_any (y : Nat) (hy : y < 18446744073709551616) (w : World) : Calls Try.prog 90 #[.float .f64 y] w fun e w' => e = .returned (.bool (signW y)) ∧ w = w' := by
  have rb := run_bits64 y
  obtain ⟨v, hv, h⟩ := wrap_i64 y hy
  have H := Lib.hid h
  clear hy h
  generalize (y : Int) = yi at *
  go_enter Try.func90, Try.ntmps90
  go_wp2
  go_ret
  exact ⟨ret_bool5 H.out, rfl⟩

theorem order_selfN {x : Nat} (h : isNum x) : FloatKind.f32.format.order x x = some .eq := order_self h

set_option maxRecDepth 100000 in
set_option maxHeartbeats 1000000 in
theorem isNaN_any (x : Nat) (h : isNum x) (w : World) : Calls Try.prog 97 #[.float .f32 x] w fun e w' => e = .returned (.bool false) ∧ w = w' := by
  have h1 := order_selfN h
  clear h
  go_enter Try.func97, Try.ntmps97
  go_wp2
  go_ret
  exact ⟨rfl, rfl⟩

def cmpF (a b : Nat) : Int := match FloatKind.f32.format.order a b with | some .lt => -1 | some .gt => 1 | _ => 0

set_option maxRecDepth 100000 in
set_option maxHeartbeats 1000000 in
theorem cmpF_any (a b : Nat) (ha : isNum a) (hb : isNum b) (w : World) : Calls Try.prog 88 #[.float .f32 a, .float .f32 b] w fun e w' => e = .returned (.int .i64 (cmpF a b)) ∧ w = w' := by
  have HA := Lib.hid (isNaN_any a ha)
  have HB := Lib.hid (isNaN_any b hb)
  unfold cmpF
  rcases num_order ha hb with ⟨h, _⟩ | ⟨h, _⟩ | ⟨h, _⟩
  all_goals
    rw [h]
    clear ha hb
    go_enter Try.func88, Try.ntmps88
    go_wp2_with (first | (go_at_call 97; (with_reducible refine (HA.out _).mono ?_); rintro e w' ⟨rfl, rfl⟩) | (go_at_call 97; (with_reducible refine (HB.out _).mono ?_); rintro e w' ⟨rfl, rfl⟩))
    go_ret
    exact ⟨rfl, rfl⟩

theorem isNaNU_any (x : Int) (w : World) : Calls Try.prog 109 #[.int .u32 x] w fun e w' => e = .returned (.bool false) ∧ w = w' := by
  go_enter Try.func109, Try.ntmps109
  go_wp2
  go_ret
  first | exact ⟨rfl, rfl⟩ | (simp)

def cmpU (a b : Int) : Int := if a < b then -1 else if b < a then 1 else 0

set_option maxRecDepth 100000 in
set_option maxHeartbeats 1000000 in
theorem cmpU_any (a b : Int) (w : World) : Calls Try.prog 94 #[.int .u32 a, .int .u32 b] w fun e w' => e = .returned (.int .i64 (cmpU a b)) ∧ w = w' := by
  unfold cmpU
  have hc : a < b ∨ (¬ a < b ∧ b < a) ∨ (¬ a < b ∧ ¬ b < a) := by omega
  rcases hc with h | ⟨h, h2⟩ | ⟨h, h2⟩
  · rw [if_pos h]
    go_enter Try.func94, Try.ntmps94
    go_wp2_with (go_at_call 109; refine (isNaNU_any _ _).mono ?_; rintro e w' ⟨rfl, rfl⟩)
    go_ret
    exact ⟨rfl, rfl⟩
  · rw [if_neg h, if_pos h2]
    go_enter Try.func94, Try.ntmps94
    go_wp2_with (go_at_call 109; refine (isNaNU_any _ _).mono ?_; rintro e w' ⟨rfl, rfl⟩)
    go_ret
    exact ⟨rfl, rfl⟩
  · rw [if_neg h, if_neg h2]
    have z1 : b ≤ a := by omega
    have z2 : a ≤ b := by omega
    go_enter Try.func94, Try.ntmps94
    go_wp2_with (go_at_call 109; refine (isNaNU_any _ _).mono ?_; rintro e w' ⟨rfl, rfl⟩)
    go_ret
    exact ⟨rfl, rfl⟩

def orI (r1 r2 : Int) : Int := if r1 = 0 then r2 else r1

theorem ret_i64N {a b : Int} (h : a = b) : Ending.returned (.int .i64 a) = .returned (.int .i64 b) := by rw [h]

set_option maxRecDepth 100000 in
set_option maxHeartbeats 1000000 in
theorem or_any (r1 r2 : Int) (g : Nat) (w : World) (h0 : w.cell? ⟨g, 0, none⟩ = some (.int .i64 r1)) (h1 : w.cell? ⟨g, 1, none⟩ = some (.int .i64 r2)) :
    Calls Try.prog 93 #[.slice (some ⟨g, 0, none⟩) 2 2] w fun e w' => e = .returned (.int .i64 (orI r1 r2)) ∧ w = w' := by
  go_enter Try.func93, Try.ntmps93
  go_wp2
  go_loopw [8] (fun i wr => ∃ k : Nat, k ≤ 2 ∧ i = .int .i64 k ∧ wr = w ∧ (1 ≤ k → r1 = 0) ∧ (2 ≤ k → r2 = 0)) (fun i _ => 2 - (intOf i).toNat)
  case atStart => exact ⟨0, by decide, rfl, rfl, fun h => by omega, fun h => by omega⟩
  case round =>
    obtain ⟨k, hk, rfl, rfl, e1, e2⟩ := hrel
    have hc : k = 0 ∨ k = 1 ∨ k = 2 := by omega
    have E1 := Lib.hid e1
    have E2 := Lib.hid e2
    clear e1 e2 hk
    rcases hc with rfl | rfl | rfl
    · by_cases h : r1 = 0
      · have z' : (r1 != 0) = false := by rw [h]; rfl
        have H := Lib.hid h
        clear h
        go_wp2
        go_roundw
        case rel => exact ⟨1, by decide, by first | rfl | simp, by trivial, fun _ => H.out, fun h => by omega⟩
        case measure => simp [intOf]
      · have z' : (r1 != 0) = true := bne_iff_ne.2 h
        have H := Lib.hid h
        clear h
        go_wp2
        go_ret
        exact ⟨ret_i64N (by unfold orI; rw [if_neg H.out]), rfl⟩
    · by_cases h : r2 = 0
      · have z' : (r2 != 0) = false := by rw [h]; rfl
        have H := Lib.hid h
        clear h
        go_wp2
        go_roundw
        case rel => exact ⟨2, by decide, by first | rfl | simp, by trivial, fun _ => E1.out (by decide), fun _ => H.out⟩
        case measure => simp [intOf]
      · have z' : (r2 != 0) = true := bne_iff_ne.2 h
        clear h
        go_wp2
        go_ret
        exact ⟨ret_i64N (by unfold orI; rw [if_pos (E1.out (by decide))]), rfl⟩
    · go_wp2
      go_ret
      exact ⟨ret_i64N (by unfold orI; rw [if_pos (E1.out (by decide)), E2.out (by decide)]), rfl⟩

theorem cf_of {a b : Nat} (ha : isNum a) (hb : isNum b) : orI (cmpF a b) (cmpU (b : Int) (a : Int)) = cfI a b := by
  rcases num_order ha hb with ⟨h, h2⟩ | ⟨h, h2⟩ | ⟨h, h2⟩
  · have e : cmpF a b = -1 := by unfold cmpF; rw [h]
    unfold orI cfI
    rw [e, if_neg (by decide), if_pos h2]
  · have e : cmpF a b = 1 := by unfold cmpF; rw [h]
    unfold orI cfI
    rw [e, if_neg (by decide), if_neg (by omega), if_pos h2]
  · have e : cmpF a b = 0 := by unfold cmpF; rw [h]
    unfold orI
    rw [e, if_pos rfl]
    rcases h2 with rfl | ⟨rfl, rfl⟩ | ⟨rfl, rfl⟩
    · unfold cmpU cfI
      rw [if_neg (Int.lt_irrefl _), if_neg (Int.lt_irrefl _), if_neg (Int.lt_irrefl _), if_neg (Int.lt_irrefl _)]
    · decide
    · decide

set_option maxRecDepth 100000 in
set_option maxHeartbeats 4000000 in
theorem compareNumbers_any (a b : Nat) (ha : isNum a) (hb : isNum b) (w : World) : Calls Try.prog 83 #[.float .f32 a, .float .f32 b] w fun e w' => e = .returned (.int .i64 (cfI a b)) ∧ ∃ q os', w' = Go.Sort.grow (w.drewN q) os' := by
  have HF := Lib.hid (cmpF_any a b ha hb)
  have HA := Lib.hid (numberBits_num a (order_selfN ha))
  have HB := Lib.hid (numberBits_num b (order_selfN hb))
  have HE := Lib.hid (cf_of ha hb)
  clear ha hb
  generalize cmpF a b = r1 at *
  go_enter Try.func83, Try.ntmps83
  go_wp2_with (first | (go_at_call 88; refine (HF.out _).mono ?_; rintro e w' ⟨rfl, rfl⟩) | (go_at_call 95; (with_reducible refine (HB.out _).mono ?_); rintro e w' ⟨rfl, rfl⟩) | (go_at_call 95; (with_reducible refine (HA.out _).mono ?_); rintro e w' ⟨rfl, rfl⟩) | (go_at_call 94; refine (cmpU_any _ _ _).mono ?_; rintro e w' ⟨rfl, rfl⟩) | (go_at_call 93; refine (or_any _ _ _ _ (by rw [cell_of_row _ _ _ _ _ _ (heap_alloc_new _ _)]; rfl) (by rw [cell_of_row _ _ _ _ _ _ (heap_alloc_new _ _)]; rfl)).mono ?_; rintro e w1 ⟨rfl, rfl⟩))
  go_ret
  exact ⟨ret_i64N HE.out, 0, _, by rw [Go.Sort.alloc_eq_grow]; rfl⟩

def belowB (a b : Nat) : Bool := decide (kI a < kI b)

set_option maxRecDepth 100000 in
set_option maxHeartbeats 4000000 in
theorem l06Below_any (a b : Nat) (ha : isNum a) (hb : isNum b) (w : World) : Calls Try.prog 80 #[.float .f32 a, .float .f32 b] w fun e w' => e = .returned (.bool (belowB a b)) ∧ w = w' := by
  obtain ⟨_, wa, _⟩ := wide_ok a (num_finN ha)
  obtain ⟨_, wb, _⟩ := wide_ok b (num_finN hb)
  have ra := run_wide a (num_finN ha)
  have rb := run_wide b (num_finN hb)
  have HA := Lib.hid (signbit_any (wide a) wa)
  have HB := Lib.hid (signbit_any (wide b) wb)
  have s0 : signW (wide 0) = false := by decide +kernel
  have s1 : signW (wide 2147483648) = true := by decide +kernel
  unfold belowB
  rcases num_order ha hb with ⟨h, h2⟩ | ⟨h, h2⟩ | ⟨h, h2⟩
  · rw [decide_eq_true h2]
    clear ha hb wa wb HA HB s0 s1 h2
    go_enter Try.func80, Try.ntmps80
    go_wp2
    go_ret
    exact ⟨rfl, rfl⟩
  · rw [decide_eq_false (show ¬ kI a < kI b by omega)]
    clear ha hb wa wb HA HB s0 s1 h2
    go_enter Try.func80, Try.ntmps80
    go_wp2
    go_ret
    exact ⟨rfl, rfl⟩
  · clear ha hb wa wb
    rcases h2 with rfl | ⟨rfl, rfl⟩ | ⟨rfl, rfl⟩
    · rw [decide_eq_false (show ¬ kI a < kI a by omega)]
      clear s0 s1 HB rb
      generalize signW (wide a) = r at *
      generalize wide a = y at *
      cases r
      all_goals
        go_enter Try.func80, Try.ntmps80
        go_wp2_with (go_at_call 90; (with_reducible refine (HA.out _).mono ?_); rintro e w' ⟨rfl, rfl⟩)
        go_ret
        exact ⟨rfl, rfl⟩
    · rw [show decide (kI 0 < kI 2147483648) = false by decide]
      rw [s0] at HA
      rw [s1] at HB
      clear s0 s1
      generalize wide 0 = y at *
      generalize wide 2147483648 = z at *
      go_enter Try.func80, Try.ntmps80
      go_wp2_with (first | (go_at_call 90; (with_reducible refine (HA.out _).mono ?_); rintro e w' ⟨rfl, rfl⟩) | (go_at_call 90; (with_reducible refine (HB.out _).mono ?_); rintro e w' ⟨rfl, rfl⟩))
      go_ret
      exact ⟨rfl, rfl⟩
    · rw [show decide (kI 2147483648 < kI 0) = true by decide]
      rw [s1] at HA
      rw [s0] at HB
      clear s0 s1
      generalize wide 0 = y at *
      generalize wide 2147483648 = z at *
      go_enter Try.func80, Try.ntmps80
      go_wp2_with (first | (go_at_call 90; (with_reducible refine (HA.out _).mono ?_); rintro e w' ⟨rfl, rfl⟩) | (go_at_call 90; (with_reducible refine (HB.out _).mono ?_); rintro e w' ⟨rfl, rfl⟩))
      go_ret
      exact ⟨rfl, rfl⟩

end Go.Proofs.Ytjpnbcfdnolcjab
