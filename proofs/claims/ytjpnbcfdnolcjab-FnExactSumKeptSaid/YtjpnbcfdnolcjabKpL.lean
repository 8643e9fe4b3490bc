/-
  The sum that keeps a rest: the program and the model.
-/
import Derived.Test.YtjpnbcfdnolcjabSbL
namespace Go.Proofs.Ytjpnbcfdnolcjab
open Go.ChangeShapes Go.WideShapes Go.ChangeAt Go.RowKit Go.Deep Go.Joins

attribute [local go_sem] run_store_f

set_option maxRecDepth 100000 in
set_option maxHeartbeats 4000000 in
theorem addedWithRest_any (sv : Value) (zs : List Nat) (hq : ∀ z ∈ zs, PlnOk z) (hlen : zs.length ≤ 48) (w : World) (hz : FloatsAt w sv zs) :
    Calls Try.prog 75 #[sv] w fun e w' => e = .returned (.float .f32 (keptS zs).1) ∧ w = w' := by
  have HT := Lib.hid (fun k x => keptS_take (k := k) (x := x) hq hlen)
  have HW := Lib.hid hz
  obtain ⟨a, cap, rfl, hl, hm, _⟩ := hz
  unfold maxLen at hm
  generalize hn : zs.length = n at *
  have HN := Lib.hid hn
  clear hn hq
  go_enter Try.func75, Try.ntmps75
  go_wp2
  go_loopw [3, 4, 11] (fun s r i wr => ∃ k : Nat, k ≤ n ∧ i = .int .i64 k ∧ s = .float .f32 (keptS (zs.take k)).1 ∧ r = .float .f32 (keptS (zs.take k)).2 ∧ wr = w) (fun _ _ i _ => n - (intOf i).toNat)
  case atStart => exact ⟨0, Nat.zero_le _, rfl, rfl, rfl, rfl⟩
  case round =>
    obtain ⟨k, hk, rfl, rfl, rfl, rfl⟩ := hrel
    by_cases hlt : k < n
    · have hx : zs[k]? = some (zs[k]'(by rw [HN.out]; exact hlt)) := List.getElem?_eq_getElem _
      obtain ⟨g, o, rfl, hc⟩ := float_at HW.out hx
      generalize (zs[k]'(by rw [HN.out]; exact hlt)) = x at *
      have z1 : (k : Int) < (n : Int) := by omega
      have z2 : (0 : Int) ≤ (k : Int) := by omega
      have z3 : decide ((k : Int) < (n : Int)) = true := decide_eq_true z1
      obtain ⟨d1, d2, d3, d4⟩ := HT.out k x hx
      have r1 := fun T w => run_float_arith (P := Try.prog) w .sub T .f32 _ _ _ d1
      have r2 := fun T w => run_float_arith (P := Try.prog) w .add T .f32 _ _ _ d2
      have r3 := fun T w => run_float_arith (P := Try.prog) w .sub T .f32 _ _ _ d3
      have r4 := fun T w => run_float_arith (P := Try.prog) w .sub T .f32 _ _ _ d4
      clear hx d1 d2 d3 d4
      go_wp2
      go_roundw
      case rel => exact ⟨k + 1, by omega, by go_num, by trivial, by trivial, by trivial⟩
      case measure => simp [intOf]; omega
    · obtain rfl : k = n := by omega
      go_wp2
      go_ret
      exact ⟨ret_f32L (by rw [List.take_of_length_le (by rw [HN.out]; exact Nat.le_refl _)]), rfl⟩

set_option maxRecDepth 100000 in
set_option maxHeartbeats 4000000 in
theorem l06Kept_any (sv : Value) (zs : List Nat) (hq : ∀ z ∈ zs, PlnOk z) (hlen : zs.length ≤ 48) (w : World) (hz : FloatsAt w sv zs) :
    Calls Try.prog 46 #[sv] w fun e w' => e = .returned (.float .f32 (keptS zs).1) ∧ w = w' := by
  have HT := Lib.hid (fun k x => keptS_take (k := k) (x := x) hq hlen)
  have HW := Lib.hid hz
  obtain ⟨a, cap, rfl, hl, hm, _⟩ := hz
  unfold maxLen at hm
  generalize hn : zs.length = n at *
  have HN := Lib.hid hn
  clear hn hq
  go_enter Try.func46, Try.ntmps46
  go_wp2
  go_loopw [3, 4, 5] (fun s r i wr => ∃ k : Nat, k ≤ n ∧ i = .int .i64 k ∧ s = .float .f32 (keptS (zs.take k)).1 ∧ r = .float .f32 (keptS (zs.take k)).2 ∧ wr = w) (fun _ _ i _ => n - (intOf i).toNat)
  case atStart => exact ⟨0, Nat.zero_le _, rfl, rfl, rfl, rfl⟩
  case round =>
    obtain ⟨k, hk, rfl, rfl, rfl, rfl⟩ := hrel
    by_cases hlt : k < n
    · have hx : zs[k]? = some (zs[k]'(by rw [HN.out]; exact hlt)) := List.getElem?_eq_getElem _
      obtain ⟨g, o, rfl, hc⟩ := float_at HW.out hx
      generalize (zs[k]'(by rw [HN.out]; exact hlt)) = x at *
      have z1 : (k : Int) < (n : Int) := by omega
      have z2 : (0 : Int) ≤ (k : Int) := by omega
      have z3 : decide ((k : Int) < (n : Int)) = true := decide_eq_true z1
      obtain ⟨d1, d2, d3, d4⟩ := HT.out k x hx
      have r1 := fun T w => run_float_arith (P := Try.prog) w .sub T .f32 _ _ _ d1
      have r2 := fun T w => run_float_arith (P := Try.prog) w .add T .f32 _ _ _ d2
      have r3 := fun T w => run_float_arith (P := Try.prog) w .sub T .f32 _ _ _ d3
      have r4 := fun T w => run_float_arith (P := Try.prog) w .sub T .f32 _ _ _ d4
      clear hx d1 d2 d3 d4
      go_wp2
      go_roundw
      case rel => exact ⟨k + 1, by omega, by go_num, by trivial, by trivial, by trivial⟩
      case measure => simp [intOf]; omega
    · obtain rfl : k = n := by omega
      go_wp2
      go_ret
      exact ⟨ret_f32L (by rw [List.take_of_length_le (by rw [HN.out]; exact Nat.le_refl _)]), rfl⟩

end Go.Proofs.Ytjpnbcfdnolcjab
