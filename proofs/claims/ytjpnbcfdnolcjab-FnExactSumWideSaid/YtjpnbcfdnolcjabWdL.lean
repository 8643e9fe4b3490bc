/-
  The sum of widened numbers: the program and the model.
-/
import Derived.Test.YtjpnbcfdnolcjabSbL
import Derived.Test.YtjpnbcfdnolcjabWdP
namespace Go.Proofs.Ytjpnbcfdnolcjab
open Go.ChangeShapes Go.WideShapes Go.ChangeAt Go.RowKit Go.Deep Go.Joins

attribute [local go_sem] run_store_f

theorem run_narrow (x r : Nat) (h : floatToFloatBits .f64 x .f32 = some r) (w : World) : (convert 28 23 (.float .f64 x)).run Try.prog w = .ok (.float .f32 r) w :=
  run_convert_float_float w 28 23 .f64 .f32 x _ (by rw [Try.underlying28]; rfl) Try.underlying23 h

set_option maxRecDepth 100000 in
set_option maxHeartbeats 4000000 in
theorem addedWide_any (sv : Value) (zs : List Nat) (hq : ∀ z ∈ zs, PlnOk z) (hlen : zs.length ≤ 48) (w : World) (hz : FloatsAt w sv zs) :
    Calls Try.prog 76 #[sv] w fun e w' => e = .returned (.float .f32 (nar (wideS zs))) ∧ w = w' := by
  have HT := Lib.hid (fun k x => wideS_take (k := k) (x := x) hq hlen)
  have rn := fun w => run_narrow (wideS zs) _ (nar_wide hq hlen).1 w
  have HW := Lib.hid hz
  obtain ⟨a, cap, rfl, hl, hm, _⟩ := hz
  unfold maxLen at hm
  have RN := Lib.hid rn
  clear rn
  generalize hn : zs.length = n at *
  have HN := Lib.hid hn
  clear hn hq
  go_enter Try.func76, Try.ntmps76
  go_wp2
  go_loopw [3, 8] (fun s i wr => ∃ k : Nat, k ≤ n ∧ i = .int .i64 k ∧ s = .float .f64 (wideS (zs.take k)) ∧ wr = w) (fun _ i _ => n - (intOf i).toNat)
  case atStart => exact ⟨0, Nat.zero_le _, rfl, rfl, rfl⟩
  case round =>
    obtain ⟨k, hk, rfl, rfl, rfl⟩ := hrel
    by_cases hlt : k < n
    · have hx : zs[k]? = some (zs[k]'(by rw [HN.out]; exact hlt)) := List.getElem?_eq_getElem _
      obtain ⟨g, o, rfl, hc⟩ := float_at HW.out hx
      generalize (zs[k]'(by rw [HN.out]; exact hlt)) = x at *
      have z1 : (k : Int) < (n : Int) := by omega
      have z2 : (0 : Int) ≤ (k : Int) := by omega
      have z3 : decide ((k : Int) < (n : Int)) = true := decide_eq_true z1
      obtain ⟨d1, d2⟩ := HT.out k x hx
      have r1 := fun T w => run_float_arith (P := Try.prog) w .add T .f64 _ _ _ d1
      have r2 := run_wide _ d2
      clear hx d1 d2
      go_wp2
      go_roundw
      case rel => exact ⟨k + 1, by omega, by go_num, by trivial, by trivial⟩
      case measure => simp [intOf]; omega
    · obtain rfl : k = n := by omega
      have rn := RN.out
      have et : zs.take k = zs := List.take_of_length_le (by rw [HN.out]; exact Nat.le_refl _)
      rw [et]
      clear et
      go_wp2
      go_ret
      exact ⟨rfl, rfl⟩

set_option maxRecDepth 100000 in
set_option maxHeartbeats 4000000 in
theorem l06Wide_any (sv : Value) (zs : List Nat) (hq : ∀ z ∈ zs, PlnOk z) (hlen : zs.length ≤ 48) (w : World) (hz : FloatsAt w sv zs) :
    Calls Try.prog 47 #[sv] w fun e w' => e = .returned (.float .f32 (nar (wideS zs))) ∧ w = w' := by
  have HT := Lib.hid (fun k x => wideS_take (k := k) (x := x) hq hlen)
  have rn := fun w => run_narrow (wideS zs) _ (nar_wide hq hlen).1 w
  have HW := Lib.hid hz
  obtain ⟨a, cap, rfl, hl, hm, _⟩ := hz
  unfold maxLen at hm
  have RN := Lib.hid rn
  clear rn
  generalize hn : zs.length = n at *
  have HN := Lib.hid hn
  clear hn hq
  go_enter Try.func47, Try.ntmps47
  go_wp2
  go_loopw [3, 4] (fun s i wr => ∃ k : Nat, k ≤ n ∧ i = .int .i64 k ∧ s = .float .f64 (wideS (zs.take k)) ∧ wr = w) (fun _ i _ => n - (intOf i).toNat)
  case atStart => exact ⟨0, Nat.zero_le _, rfl, rfl, rfl⟩
  case round =>
    obtain ⟨k, hk, rfl, rfl, rfl⟩ := hrel
    by_cases hlt : k < n
    · have hx : zs[k]? = some (zs[k]'(by rw [HN.out]; exact hlt)) := List.getElem?_eq_getElem _
      obtain ⟨g, o, rfl, hc⟩ := float_at HW.out hx
      generalize (zs[k]'(by rw [HN.out]; exact hlt)) = x at *
      have z1 : (k : Int) < (n : Int) := by omega
      have z2 : (0 : Int) ≤ (k : Int) := by omega
      have z3 : decide ((k : Int) < (n : Int)) = true := decide_eq_true z1
      obtain ⟨d1, d2⟩ := HT.out k x hx
      have r1 := fun T w => run_float_arith (P := Try.prog) w .add T .f64 _ _ _ d1
      have r2 := run_wide _ d2
      clear hx d1 d2
      go_wp2
      go_roundw
      case rel => exact ⟨k + 1, by omega, by go_num, by trivial, by trivial⟩
      case measure => simp [intOf]; omega
    · obtain rfl : k = n := by omega
      have rn := RN.out
      have et : zs.take k = zs := List.take_of_length_le (by rw [HN.out]; exact Nat.le_refl _)
      rw [et]
      clear et
      go_wp2
      go_ret
      exact ⟨rfl, rfl⟩

end Go.Proofs.Ytjpnbcfdnolcjab
