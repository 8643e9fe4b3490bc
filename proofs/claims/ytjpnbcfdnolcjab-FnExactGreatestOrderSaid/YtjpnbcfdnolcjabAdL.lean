/-
  The sum of a list of plain numbers from the first one on, the mean, and which code a list has.
-/
import Derived.Test.YtjpnbcfdnolcjabPlnL
namespace Go.Proofs.Ytjpnbcfdnolcjab
open Go.ChangeShapes Go.WideShapes Go.ChangeAt Go.RowKit Go.Deep Go.Joins

attribute [local go_sem] run_store_f

theorem ret_f32L {a b : Nat} (h : a = b) : Ending.returned (.float .f32 a) = .returned (.float .f32 b) := by rw [h]

set_option maxRecDepth 100000 in
set_option maxHeartbeats 1000000 in
theorem added_any (sv : Value) (zs : List Nat) (hq : ∀ z ∈ zs, PlnOk z) (hlen : zs.length ≤ 48) (w : World) (hz : FloatsAt w sv zs) :
    Calls Try.prog 61 #[sv] w fun e w' => e = .returned (.float .f32 (leftS zs)) ∧ w = w' := by
  have HT := Lib.hid (fun k x => leftS_take (k := k) (x := x) hq hlen)
  have HW := Lib.hid hz
  obtain ⟨a, cap, rfl, hl, hm, _⟩ := hz
  unfold maxLen at hm
  generalize hn : zs.length = n at *
  have HN := Lib.hid hn
  clear hn hq
  go_enter Try.func61, Try.ntmps61
  go_wp2
  go_loopw [3, 8] (fun s i wr => ∃ k : Nat, k ≤ n ∧ i = .int .i64 k ∧ s = .float .f32 (leftS (zs.take k)) ∧ wr = w) (fun _ i _ => n - (intOf i).toNat)
  case atStart => exact ⟨0, Nat.zero_le _, rfl, rfl, rfl⟩
  case round =>
    obtain ⟨k, hk, rfl, rfl, rfl⟩ := hrel
    by_cases hlt : k < n
    · have hx : zs[k]? = some (zs[k]'(by rw [HN.out]; exact hlt)) := List.getElem?_eq_getElem _
      obtain ⟨g, o, rfl, hc⟩ := float_at HW.out hx
      generalize (zs[k]'(by rw [HN.out]; exact hlt)) = x at *
      have z1 : (k : Int) < (n : Int) := by omega
      have z2 : (0 : Int) ≤ (k : Int) := by omega
      have z3 : decide ((k : Int) < (n : Int)) = true := decide_eq_true z1
      have ra := fun T w => run_float_arith (P := Try.prog) w .add T .f32 _ _ _ (HT.out k x hx)
      clear hx
      go_wp2
      go_roundw
      case rel => exact ⟨k + 1, by omega, by go_num, by trivial, by trivial⟩
      case measure => simp [intOf]; omega
    · obtain rfl : k = n := by omega
      go_wp2
      go_ret
      exact ⟨ret_f32L (by rw [List.take_of_length_le (by rw [HN.out]; exact Nat.le_refl _)]), rfl⟩

set_option maxRecDepth 100000 in
set_option maxHeartbeats 1000000 in
theorem l06Left_any (sv : Value) (zs : List Nat) (hq : ∀ z ∈ zs, PlnOk z) (hlen : zs.length ≤ 48) (w : World) (hz : FloatsAt w sv zs) :
    Calls Try.prog 42 #[sv] w fun e w' => e = .returned (.float .f32 (leftS zs)) ∧ w = w' := by
  have HT := Lib.hid (fun k x => leftS_take (k := k) (x := x) hq hlen)
  have HW := Lib.hid hz
  obtain ⟨a, cap, rfl, hl, hm, _⟩ := hz
  unfold maxLen at hm
  generalize hn : zs.length = n at *
  have HN := Lib.hid hn
  clear hn hq
  go_enter Try.func42, Try.ntmps42
  go_wp2
  go_loopw [3, 4] (fun s i wr => ∃ k : Nat, k ≤ n ∧ i = .int .i64 k ∧ s = .float .f32 (leftS (zs.take k)) ∧ wr = w) (fun _ i _ => n - (intOf i).toNat)
  case atStart => exact ⟨0, Nat.zero_le _, rfl, rfl, rfl⟩
  case round =>
    obtain ⟨k, hk, rfl, rfl, rfl⟩ := hrel
    by_cases hlt : k < n
    · have hx : zs[k]? = some (zs[k]'(by rw [HN.out]; exact hlt)) := List.getElem?_eq_getElem _
      obtain ⟨g, o, rfl, hc⟩ := float_at HW.out hx
      generalize (zs[k]'(by rw [HN.out]; exact hlt)) = x at *
      have z1 : (k : Int) < (n : Int) := by omega
      have z2 : (0 : Int) ≤ (k : Int) := by omega
      have z3 : decide ((k : Int) < (n : Int)) = true := decide_eq_true z1
      have ra := fun T w => run_float_arith (P := Try.prog) w .add T .f32 _ _ _ (HT.out k x hx)
      clear hx
      go_wp2
      go_roundw
      case rel => exact ⟨k + 1, by omega, by go_num, by trivial, by trivial⟩
      case measure => simp [intOf]; omega
    · obtain rfl : k = n := by omega
      go_wp2
      go_ret
      exact ⟨ret_f32L (by rw [List.take_of_length_le (by rw [HN.out]; exact Nat.le_refl _)]), rfl⟩

/-- The code of a list that has to have so many numbers. -/
def codeLs (zs : List Nat) (least : Nat) : Int := if okLs zs = false then 1 else if zs.length < least then 6 else 0

theorem codeLs_zero {zs : List Nat} {m : Nat} (hw : ∀ z ∈ zs, (Lit.float .f32 z).wf = true) (h : codeLs zs m = 0) : m ≤ zs.length ∧ zs.length ≤ 48 ∧ ∀ z ∈ zs, PlnOk z := by
  unfold codeLs at h
  cases ho : okLs zs with
  | false => rw [ho, if_pos rfl] at h; cases h
  | true =>
    rw [ho, if_neg (by decide)] at h
    obtain ⟨a, b⟩ := okLs_get hw ho
    refine ⟨?_, a, b⟩
    by_cases c : zs.length < m
    · rw [if_pos c] at h; cases h
    · omega

set_option maxRecDepth 100000 in
set_option maxHeartbeats 1000000 in
theorem checkSome_any (sv : Value) (zs : List Nat) (w : World) (hz : FloatsAt w sv zs) :
    Calls Try.prog 66 #[sv] w fun e w' => e = .returned (.int .i64 (codeLs zs 1)) ∧ w = w' := by
  have HV := Lib.hid (ValidList_any sv zs w hz)
  have HW := Lib.hid hz
  obtain ⟨a, cap, rfl, hl, hm, _⟩ := hz
  unfold maxLen at hm
  clear HW
  unfold codeLs
  generalize okLs zs = ok at *
  generalize zs.length = n at *
  cases ok with
  | false =>
    rw [if_pos rfl]
    go_enter Try.func66, Try.ntmps66
    go_wp2_with (go_at_call 53; refine HV.out.mono ?_; rintro e w' ⟨rfl, rfl⟩)
    go_ret
    exact ⟨rfl, rfl⟩
  | true =>
    rw [if_neg (by decide)]
    by_cases h : n < 1
    · obtain rfl : n = 0 := by omega
      rw [if_pos h]
      clear h
      go_enter Try.func66, Try.ntmps66
      go_wp2_with (go_at_call 53; refine HV.out.mono ?_; rintro e w' ⟨rfl, rfl⟩)
      go_ret
      exact ⟨rfl, rfl⟩
    · rw [if_neg h]
      have z1 : (0 : Int) < (n : Int) := by omega
      have z2 : ((n : Int) == 0) = false := beq_eq_false_iff_ne.2 (by omega)
      clear h
      go_enter Try.func66, Try.ntmps66
      go_wp2_with (go_at_call 53; refine HV.out.mono ?_; rintro e w' ⟨rfl, rfl⟩)
      go_ret
      exact ⟨rfl, rfl⟩

set_option maxRecDepth 100000 in
set_option maxHeartbeats 1000000 in
theorem l06Code_any (sv : Value) (zs : List Nat) (m : Nat) (w : World) (hz : FloatsAt w sv zs) :
    Calls Try.prog 41 #[sv, .int .i64 (m : Int)] w fun e w' => e = .returned (.int .i64 (codeLs zs m)) ∧ w = w' := by
  have HV := Lib.hid (l06Ok_any sv zs w hz)
  have HW := Lib.hid hz
  obtain ⟨a, cap, rfl, hl, hm, _⟩ := hz
  unfold maxLen at hm
  clear HW
  unfold codeLs
  generalize okLs zs = ok at *
  generalize zs.length = n at *
  cases ok with
  | false =>
    rw [if_pos rfl]
    go_enter Try.func41, Try.ntmps41
    go_wp2_with (go_at_call 49; refine HV.out.mono ?_; rintro e w' ⟨rfl, rfl⟩)
    go_ret
    exact ⟨rfl, rfl⟩
  | true =>
    rw [if_neg (by decide)]
    by_cases h : n < m
    · have z1 : (n : Int) < (m : Int) := by omega
      rw [if_pos h]
      have h' := h
      go_enter Try.func41, Try.ntmps41
      go_wp2_with (go_at_call 49; refine HV.out.mono ?_; rintro e w' ⟨rfl, rfl⟩)
      go_ret
      exact ⟨rfl, rfl⟩
    · rw [if_neg h]
      have z1 : (m : Int) ≤ (n : Int) := by omega
      go_enter Try.func41, Try.ntmps41
      go_wp2_with (go_at_call 49; refine HV.out.mono ?_; rintro e w' ⟨rfl, rfl⟩)
      go_ret
      exact ⟨rfl, rfl⟩

end Go.Proofs.Ytjpnbcfdnolcjab
