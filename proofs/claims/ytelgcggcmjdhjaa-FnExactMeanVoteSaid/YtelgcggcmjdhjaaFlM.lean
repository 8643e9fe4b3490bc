/-
  The mean of votes: contracts of the program and of the model.
-/
import Derived.Test.YtelgcggcmjdhjaaFlV
namespace Go.Proofs.Ytelgcggcmjdhjaa
open Go.ChangeShapes Go.WideShapes Go.ChangeAt Go.RowKit Go.Deep Go.Joins

attribute [local go_sem] run_store_f

set_option maxRecDepth 100000 in
set_option maxHeartbeats 1000000 in
theorem iMeanVote_no (sv : Value) (zs : List Nat) (w : World) (hzs : FloatsAt w sv zs) (hok : okVs zs = false) :
    Calls Try.prog 39 #[sv] w fun e w' => e = .returned (.tuple #[.float .f32 0, .int .i64 2]) ∧ w = w' := by
  have HC := Lib.hid (areVotes_any sv zs w hzs)
  rw [hok] at HC
  clear hzs hok
  go_enter Try.func39, Try.ntmps39
  go_wp2_with (go_at_call 67; refine HC.out.mono ?_; rintro e w1 ⟨rfl, rfl⟩)
  go_ret2
  exact ⟨rfl, rfl⟩
set_option maxRecDepth 100000 in
set_option maxHeartbeats 1000000 in
theorem sMeanVote_no (sv : Value) (zs : List Nat) (w : World) (hzs : FloatsAt w sv zs) (hok : okVs zs = false) :
    Calls Try.prog 37 #[sv] w fun e w' => e = .returned (.tuple #[.float .f32 0, .int .i64 2]) ∧ w = w' := by
  have HC := Lib.hid (l05Votes_any sv zs w hzs)
  rw [hok] at HC
  clear hzs hok
  go_enter Try.func37, Try.ntmps37
  go_wp2_with (go_at_call 66; refine HC.out.mono ?_; rintro e w1 ⟨rfl, rfl⟩)
  go_ret2
  exact ⟨rfl, rfl⟩
set_option maxRecDepth 100000 in
set_option maxHeartbeats 1000000 in
theorem iMeanVote_yes (sv : Value) (zs : List Nat) (hwf : ∀ z ∈ zs, (Lit.float .f32 z).wf = true) (w : World) (hzs : FloatsAt w sv zs) (hok : okVs zs = true) :
    Calls Try.prog 39 #[sv] w fun e w' => e = .returned (.tuple #[.float .f32 (meanF zs), .int .i64 0]) ∧ w = w' := by
  have HC := Lib.hid (areVotes_any sv zs w hzs)
  rw [hok] at HC
  obtain ⟨h1, h12, hp⟩ := okVs_get hwf hok
  have hm := (mean_ok hp h1 h12).1
  have rq : ∀ T w, (binOp .quo T (.float .f32 (sumP zs (zs.length - 1))) (.float .f32 (floatOfInt .f32 (zs.length : Int)))).run Try.prog w = .ok (.float .f32 (meanF zs)) w := fun T w => run_float_arith w .quo T .f32 _ _ _ hm
  have HS := Lib.hid (fun k hk => sumP_step hp h12 k hk)
  have HW := Lib.hid hzs
  obtain ⟨x0, hx0⟩ : ∃ x, zs[0]? = some x := ⟨_, List.getElem?_eq_getElem (by omega)⟩
  have e0 : sumP zs 0 = x0 := by show zs.getD 0 0 = x0; simp [List.getD, hx0]
  obtain ⟨a, cap, rfl, hl1, hl2, _⟩ := hzs
  obtain ⟨g, o, rfl, hc0⟩ := float_at HW.out hx0
  rw [Nat.add_zero] at hc0
  have RQ := Lib.hid rq
  unfold maxLen at hl2
  generalize hn : zs.length = n at *
  have HN := Lib.hid hn
  have z1 : (1 : Int) ≤ (n : Int) := by omega
  have z0 : (0 : Int) < (n : Int) := by omega
  have z2 : n ≤ cap := by omega
  clear hn hok hwf hp hm rq hx0
  by_cases hcap : cap = 1
  · subst hcap
    go_enter Try.func39, Try.ntmps39
    go_wp2_with (go_at_call 67; refine HC.out.mono ?_; rintro e w1 ⟨rfl, rfl⟩)
    go_loopw [4, 16] (fun s i wr => ∃ k : Nat, k ≤ n - 1 ∧ i = .int .i64 k ∧ s = .float .f32 (sumP zs k) ∧ wr = w) (fun _ i _ => (n - 1) - (intOf i).toNat)
    case atStart => exact ⟨0, Nat.zero_le _, rfl, by rw [e0], rfl⟩
    case round =>
      clear HC
      obtain ⟨k, hk, rfl, rfl, rfl⟩ := hrel
      obtain rfl : k = n - 1 := by omega
      have rq := RQ.out
      rw [show n - 1 = 0 by omega, e0] at rq
      go_wp2
      go_ret2
      exact ⟨rfl, rfl⟩
  · have hcap' : 1 < cap := by omega
    go_enter Try.func39, Try.ntmps39
    go_wp2_with (go_at_call 67; refine HC.out.mono ?_; rintro e w1 ⟨rfl, rfl⟩)
    go_loopw [4, 16] (fun s i wr => ∃ k : Nat, k ≤ n - 1 ∧ i = .int .i64 k ∧ s = .float .f32 (sumP zs k) ∧ wr = w) (fun _ i _ => (n - 1) - (intOf i).toNat)
    case atStart => exact ⟨0, Nat.zero_le _, rfl, by rw [e0], rfl⟩
    case round =>
      clear HC
      obtain ⟨k, hk, rfl, rfl, rfl⟩ := hrel
      by_cases hlt : k < n - 1
      · have hx : zs[k + 1]? = some (zs.getD (k + 1) 0) := by rw [List.getElem?_eq_getElem (by rw [HN.out]; omega)]; simp [List.getD, HN.out, show k + 1 < n by omega]
        have hs := HS.out k (by omega)
        obtain ⟨g', o', eg, hc⟩ := float_at HW.out hx
        obtain ⟨rfl, rfl⟩ : g = g' ∧ o = o' := by simpa using eg
        rw [show o + (k + 1) = o + 1 + k by omega] at hc
        generalize hxe : zs.getD (k + 1) 0 = x at *
        have ra : ∀ T w, (binOp .add T (.float .f32 (sumP zs k)) (.float .f32 x)).run Try.prog w = .ok (.float .f32 (sumP zs (k + 1))) w := fun T w => run_float_arith w .add T .f32 _ _ _ hs
        have z3 : (k : Int) < ((n - 1 : Nat) : Int) := by omega
        have z3' : (k : Int) < (n : Int) - 1 := by omega
        have z4 : (0 : Int) ≤ (k : Int) := by omega
        clear hx hs hxe eg
        go_wp2
        go_roundw
        case rel => exact ⟨k + 1, by omega, by go_num, rfl, by trivial⟩
        case measure => simp [intOf]; omega
      · obtain rfl : k = n - 1 := by omega
        have rq := RQ.out
        go_wp2
        go_ret2
        exact ⟨rfl, rfl⟩

set_option maxRecDepth 100000 in
set_option maxHeartbeats 1000000 in
theorem sMeanVote_yes (sv : Value) (zs : List Nat) (hwf : ∀ z ∈ zs, (Lit.float .f32 z).wf = true) (w : World) (hzs : FloatsAt w sv zs) (hok : okVs zs = true) :
    Calls Try.prog 37 #[sv] w fun e w' => e = .returned (.tuple #[.float .f32 (meanF zs), .int .i64 0]) ∧ w = w' := by
  have HC := Lib.hid (l05Votes_any sv zs w hzs)
  rw [hok] at HC
  obtain ⟨h1, h12, hp⟩ := okVs_get hwf hok
  have hm := (mean_ok hp h1 h12).1
  have rq : ∀ T w, (binOp .quo T (.float .f32 (sumP zs (zs.length - 1))) (.float .f32 (floatOfInt .f32 (zs.length : Int)))).run Try.prog w = .ok (.float .f32 (meanF zs)) w := fun T w => run_float_arith w .quo T .f32 _ _ _ hm
  have HS := Lib.hid (fun k hk => sumP_step hp h12 k hk)
  have HW := Lib.hid hzs
  obtain ⟨x0, hx0⟩ : ∃ x, zs[0]? = some x := ⟨_, List.getElem?_eq_getElem (by omega)⟩
  have e0 : sumP zs 0 = x0 := by show zs.getD 0 0 = x0; simp [List.getD, hx0]
  obtain ⟨a, cap, rfl, hl1, hl2, _⟩ := hzs
  obtain ⟨g, o, rfl, hc0⟩ := float_at HW.out hx0
  rw [Nat.add_zero] at hc0
  have RQ := Lib.hid rq
  unfold maxLen at hl2
  generalize hn : zs.length = n at *
  have HN := Lib.hid hn
  have z1 : (1 : Int) ≤ (n : Int) := by omega
  have z0 : (0 : Int) < (n : Int) := by omega
  have z2 : n ≤ cap := by omega
  clear hn hok hwf hp hm rq hx0
  go_enter Try.func37, Try.ntmps37
  go_wp2_with (go_at_call 66; refine HC.out.mono ?_; rintro e w1 ⟨rfl, rfl⟩)
  go_loopw [4, 5] (fun s i wr => ∃ k : Nat, 1 ≤ k ∧ k ≤ n ∧ i = .int .i64 k ∧ s = .float .f32 (sumP zs (k - 1)) ∧ wr = w) (fun _ i _ => n - (intOf i).toNat)
  case atStart => exact ⟨1, Nat.le_refl _, by omega, rfl, by rw [Nat.sub_self, e0], rfl⟩
  case round =>
    clear HC
    obtain ⟨k, hk, hkn, rfl, rfl, rfl⟩ := hrel
    by_cases hlt : k < n
    · obtain ⟨j, rfl⟩ : ∃ j, k = j + 1 := ⟨k - 1, by omega⟩
      have hx : zs[j + 1]? = some (zs.getD (j + 1) 0) := by rw [List.getElem?_eq_getElem (by rw [HN.out]; omega)]; simp [List.getD, HN.out, hlt]
      have hs := HS.out j (by omega)
      obtain ⟨g', o', eg, hc⟩ := float_at HW.out hx
      obtain ⟨rfl, rfl⟩ : g = g' ∧ o = o' := by simpa using eg
      generalize hxe : zs.getD (j + 1) 0 = x at *
      have ra : ∀ T w, (binOp .add T (.float .f32 (sumP zs j)) (.float .f32 x)).run Try.prog w = .ok (.float .f32 (sumP zs (j + 1))) w := fun T w => run_float_arith w .add T .f32 _ _ _ hs
      generalize hje : j + 1 = k at *
      have hj : k - 1 = j := by omega
      rw [hj]
      have z3 : (k : Int) < (n : Int) := by omega
      have z4 : (0 : Int) ≤ (k : Int) := by omega
      clear hx hs hxe eg
      go_wp2
      go_roundw
      case rel => exact ⟨k + 1, by omega, by omega, by go_num, by rfl, by trivial⟩
      case measure => simp [intOf]; omega
    · obtain rfl : k = n := by omega
      have rq := RQ.out
      go_wp2
      go_ret2
      exact ⟨rfl, rfl⟩

end Go.Proofs.Ytelgcggcmjdhjaa
