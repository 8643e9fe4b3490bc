/-
  The number some steps away: the program and the model.
-/
import Derived.Test.YtjpnbcfdnolcjaaStpA
namespace Go.Proofs.Ytjpnbcfdnolcjaa
open Go.ChangeShapes Go.WideShapes Go.ChangeAt Go.RowKit Go.Deep Go.Joins

attribute [local go_sem] run_store_f

theorem neg_pos {r : Nat} (h : r < 2147483648) : Op.negFloat .f32 r = 2147483648 + r := by
  show r ^^^ 2 ^ 31 = 2147483648 + r
  have e : 2147483648 + r = 2 ^ 31 ||| r := by
    have := Nat.two_pow_add_eq_or_of_lt (i := 31) (b := r) h 1
    simpa using this
  rw [e]
  apply Nat.eq_of_testBit_eq
  intro j
  rw [Nat.testBit_xor, Nat.testBit_or, Nat.testBit_two_pow]
  by_cases c : 31 = j
  · subst c
    rw [Nat.testBit_lt_two_pow h]; decide
  · simp [c]
set_option maxRecDepth 100000 in
set_option maxHeartbeats 1000000 in
theorem behind_any (p : Int) (h0 : -1234125376 ≤ p) (h1 : p ≤ 1234125376) (w : World) : Calls Try.prog 60 #[.int .i64 p] w fun e w' => e = .returned (.float .f32 (numB p)) ∧ w = w' := by
  unfold numB
  by_cases h : p < 0
  · obtain ⟨n, rfl⟩ : ∃ n : Nat, p = -(n : Int) := ⟨(-p).toNat, by omega⟩
    rw [if_pos h, show (2147483648 - -(n : Int)).toNat = 2147483648 + n by omega]
    have rb := run_from6 n
    have e := neg_pos (r := n) (by omega)
    have rn : ∀ w, (Op.unary .neg (.float .f32 n)).run Try.prog w = .ok (.float .f32 (2147483648 + n)) w := fun w => by rw [← e]; rfl
    clear e
    have z3 : (0 : Int) < (n : Int) := by omega
    have z0 : (0 : Int) ≤ (n : Int) := by omega
    have z1 : (n : Int) < 2147483648 := by omega
    have z2 : IntKind.u32.wrap (n : Int) = (n : Int) := by rw [IntWalk.u32_in _ (by omega)]
    generalize (n : Int) = k at *
    go_enter Try.func60, Try.ntmps60
    go_wp2
    go_ret
    exact ⟨rfl, rfl⟩
  · obtain ⟨n, rfl⟩ : ∃ n : Nat, p = (n : Int) := ⟨p.toNat, by omega⟩
    rw [if_neg h, Int.toNat_natCast]
    have rb := run_from6 n
    have z0 : (0 : Int) ≤ (n : Int) := by omega
    have z1 : (n : Int) < 2147483648 := by omega
    have z2 : IntKind.u32.wrap (n : Int) = (n : Int) := by rw [IntWalk.u32_in _ (by omega)]
    generalize (n : Int) = k at *
    clear h
    go_enter Try.func60, Try.ntmps60
    go_wp2
    go_ret
    exact ⟨rfl, rfl⟩
set_option maxRecDepth 100000 in
set_option maxHeartbeats 1000000 in
theorem l06At_any (p : Int) (h0 : -1234125376 ≤ p) (h1 : p ≤ 1234125376) (w : World) : Calls Try.prog 59 #[.int .i64 p] w fun e w' => e = .returned (.float .f32 (numB p)) ∧ w = w' := by
  unfold numB
  by_cases h : p < 0
  · obtain ⟨n, hn⟩ : ∃ n : Nat, 2147483648 - p = (n : Int) := ⟨(2147483648 - p).toNat, by omega⟩
    obtain rfl : p = 2147483648 - (n : Int) := by omega
    rw [if_pos h, hn, Int.toNat_natCast]
    have rb := run_from6 n
    have z0 : (0 : Int) ≤ (n : Int) := by omega
    have z1 : (n : Int) < 4294967296 := by omega
    have z2 : IntKind.u32.wrap (n : Int) = (n : Int) := by rw [IntWalk.u32_in _ (by omega)]
    generalize (n : Int) = k at *
    go_enter Try.func59, Try.ntmps59
    go_wp2
    go_ret
    exact ⟨rfl, rfl⟩
  · obtain ⟨n, rfl⟩ : ∃ n : Nat, p = (n : Int) := ⟨p.toNat, by omega⟩
    rw [if_neg h, Int.toNat_natCast]
    have rb := run_from6 n
    have z0 : (0 : Int) ≤ (n : Int) := by omega
    have z1 : (n : Int) < 2147483648 := by omega
    have z2 : IntKind.u32.wrap (n : Int) = (n : Int) := by rw [IntWalk.u32_in _ (by omega)]
    generalize (n : Int) = k at *
    clear h
    go_enter Try.func59, Try.ntmps59
    go_wp2
    go_ret
    exact ⟨rfl, rfl⟩
/-- The code of a step. -/
def codeSt (a : Nat) (s : Int) : Int := if plainB a = false then 1 else if (decide (-1000000 ≤ s) && decide (s ≤ 1000000)) = false then 2 else if plainB (numB (placeI a + s)) = false then 3 else 0
def valSt (a : Nat) (s : Int) : Nat := if codeSt a s = 0 then numB (placeI a + s) else 0
set_option maxRecDepth 100000 in
set_option maxHeartbeats 1000000 in
theorem iStepFrom_any (a : Nat) (wa : (Lit.float .f32 a).wf = true) (s : Int) (w : World) :
    Calls Try.prog 24 #[.float .f32 a, .int .i64 s] w fun e w' => e = .returned (.tuple #[.float .f32 (valSt a s), .int .i64 (codeSt a s)]) ∧ w = w' := by
  cases ha : plainB a with
  | false =>
    have eC : codeSt a s = 1 := by unfold codeSt; rw [ha, if_pos rfl]
    have eV : valSt a s = 0 := by unfold valSt; rw [eC, if_neg (by decide)]
    rw [eC, eV]
    clear eC eV
    have HP := Lib.hid (isPlain_is a _ ha)
    clear ha
    go_enter Try.func24, Try.ntmps24
    go_wp2_with (go_at_call 49; (with_reducible refine (HP.out _).mono ?_); rintro e w' ⟨rfl, rfl⟩)
    go_ret2
    exact ⟨rfl, rfl⟩
  | true =>
    have eA : codeSt a s = if (decide (-1000000 ≤ s) && decide (s ≤ 1000000)) = false then 2 else if plainB (numB (placeI a + s)) = false then 3 else 0 := by unfold codeSt; rw [ha, if_neg (by decide)]
    have HP := Lib.hid (isPlain_is a _ ha)
    obtain ⟨p1, p2⟩ := place_bd (plain_get wa ha)
    have HS := Lib.hid (stepsTo_any a (word_lt wa))
    clear ha wa
    cases hs : (decide (-1000000 ≤ s) && decide (s ≤ 1000000)) with
    | false =>
      rw [hs, if_pos rfl] at eA
      have eV : valSt a s = 0 := by unfold valSt; rw [eA, if_neg (by decide)]
      rw [eA, eV]
      clear eA eV
      have hs' : ¬ (-1000000 ≤ s) ∨ (-1000000 ≤ s ∧ ¬ s ≤ 1000000) := by
        simp only [Bool.and_eq_false_iff, decide_eq_false_iff_not] at hs
        omega
      clear hs HS
      rcases hs' with hs' | ⟨hs0, hs'⟩
      all_goals
        go_enter Try.func24, Try.ntmps24
        go_wp2_with (first | (go_at_call 49; (with_reducible refine (HP.out _).mono ?_); rintro e w' ⟨rfl, rfl⟩))
        go_ret2
        exact ⟨rfl, rfl⟩
    | true =>
      rw [hs, if_neg (by decide)] at eA
      have eV : valSt a s = if codeSt a s = 0 then numB (placeI a + s) else 0 := rfl
      simp only [Bool.and_eq_true, decide_eq_true_eq] at hs
      obtain ⟨s1, s2⟩ := hs
      generalize placeI a = x at *
      have HB := Lib.hid (behind_any (x + s) (by omega) (by omega))
      cases hq : plainB (numB (x + s)) with
      | false =>
        rw [hq, if_pos rfl] at eA
        rw [eA, if_neg (by decide)] at eV
        rw [eA, eV]
        clear eA eV
        have HQ := Lib.hid (isPlain_is _ _ hq)
        clear hq
        generalize numB (x + s) = y at *
        go_enter Try.func24, Try.ntmps24
        go_wp2_with (first | (go_at_call 49; (with_reducible refine (HP.out _).mono ?_); rintro e w' ⟨rfl, rfl⟩) | (go_at_call 57; (with_reducible refine (HS.out _).mono ?_); rintro e w' ⟨rfl, rfl⟩) | (go_at_call 60; (with_reducible refine (HB.out _).mono ?_); rintro e w' ⟨rfl, rfl⟩) | (go_at_call 49; (with_reducible refine (HQ.out _).mono ?_); rintro e w' ⟨rfl, rfl⟩))
        go_ret2
        exact ⟨rfl, rfl⟩
      | true =>
        rw [hq, if_neg (by decide)] at eA
        rw [eA, if_pos rfl] at eV
        rw [eA, eV]
        clear eA eV
        have HQ := Lib.hid (isPlain_is _ _ hq)
        clear hq
        generalize numB (x + s) = y at *
        go_enter Try.func24, Try.ntmps24
        go_wp2_with (first | (go_at_call 49; (with_reducible refine (HP.out _).mono ?_); rintro e w' ⟨rfl, rfl⟩) | (go_at_call 57; (with_reducible refine (HS.out _).mono ?_); rintro e w' ⟨rfl, rfl⟩) | (go_at_call 60; (with_reducible refine (HB.out _).mono ?_); rintro e w' ⟨rfl, rfl⟩) | (go_at_call 49; (with_reducible refine (HQ.out _).mono ?_); rintro e w' ⟨rfl, rfl⟩))
        go_ret2
        exact ⟨rfl, rfl⟩
set_option maxRecDepth 100000 in
set_option maxHeartbeats 1000000 in
theorem sStepFrom_any (a : Nat) (wa : (Lit.float .f32 a).wf = true) (s : Int) (w : World) :
    Calls Try.prog 23 #[.float .f32 a, .int .i64 s] w fun e w' => e = .returned (.tuple #[.float .f32 (valSt a s), .int .i64 (codeSt a s)]) ∧ w = w' := by
  cases ha : plainB a with
  | false =>
    have eC : codeSt a s = 1 := by unfold codeSt; rw [ha, if_pos rfl]
    have eV : valSt a s = 0 := by unfold valSt; rw [eC, if_neg (by decide)]
    rw [eC, eV]
    clear eC eV
    have HP := Lib.hid (l01Plain_is a _ ha)
    clear ha
    go_enter Try.func23, Try.ntmps23
    go_wp2_with (go_at_call 54; (with_reducible refine (HP.out _).mono ?_); rintro e w' ⟨rfl, rfl⟩)
    go_ret2
    exact ⟨rfl, rfl⟩
  | true =>
    have eA : codeSt a s = if (decide (-1000000 ≤ s) && decide (s ≤ 1000000)) = false then 2 else if plainB (numB (placeI a + s)) = false then 3 else 0 := by unfold codeSt; rw [ha, if_neg (by decide)]
    have HP := Lib.hid (l01Plain_is a _ ha)
    obtain ⟨p1, p2⟩ := place_bd (plain_get wa ha)
    have HS := Lib.hid (l06Place_any a (word_lt wa))
    clear ha wa
    cases hs : (decide (-1000000 ≤ s) && decide (s ≤ 1000000)) with
    | false =>
      rw [hs, if_pos rfl] at eA
      have eV : valSt a s = 0 := by unfold valSt; rw [eA, if_neg (by decide)]
      rw [eA, eV]
      clear eA eV
      have HN := Lib.hid (in6_is s (-1000000) 1000000 _ hs)
      have hs' : ¬ (-1000000 ≤ s) ∨ (-1000000 ≤ s ∧ ¬ s ≤ 1000000) := by
        simp only [Bool.and_eq_false_iff, decide_eq_false_iff_not] at hs
        omega
      clear hs HS
      rcases hs' with hs' | ⟨hs0, hs'⟩
      all_goals
        go_enter Try.func23, Try.ntmps23
        go_wp2_with (first | (go_at_call 54; (with_reducible refine (HP.out _).mono ?_); rintro e w' ⟨rfl, rfl⟩) | (go_at_call 58; (with_reducible refine (HN.out _).mono ?_); rintro e w' ⟨rfl, rfl⟩))
        go_ret2
        exact ⟨rfl, rfl⟩
    | true =>
      rw [hs, if_neg (by decide)] at eA
      have eV : valSt a s = if codeSt a s = 0 then numB (placeI a + s) else 0 := rfl
      have HN := Lib.hid (in6_is s (-1000000) 1000000 _ hs)
      simp only [Bool.and_eq_true, decide_eq_true_eq] at hs
      obtain ⟨s1, s2⟩ := hs
      generalize placeI a = x at *
      have HB := Lib.hid (l06At_any (x + s) (by omega) (by omega))
      cases hq : plainB (numB (x + s)) with
      | false =>
        rw [hq, if_pos rfl] at eA
        rw [eA, if_neg (by decide)] at eV
        rw [eA, eV]
        clear eA eV
        have HQ := Lib.hid (l01Plain_is _ _ hq)
        clear hq
        generalize numB (x + s) = y at *
        go_enter Try.func23, Try.ntmps23
        go_wp2_with (first | (go_at_call 54; (with_reducible refine (HP.out _).mono ?_); rintro e w' ⟨rfl, rfl⟩) | (go_at_call 56; (with_reducible refine (HS.out _).mono ?_); rintro e w' ⟨rfl, rfl⟩) | (go_at_call 59; (with_reducible refine (HB.out _).mono ?_); rintro e w' ⟨rfl, rfl⟩) | (go_at_call 54; (with_reducible refine (HQ.out _).mono ?_); rintro e w' ⟨rfl, rfl⟩) | (go_at_call 58; (with_reducible refine (HN.out _).mono ?_); rintro e w' ⟨rfl, rfl⟩))
        go_ret2
        exact ⟨rfl, rfl⟩
      | true =>
        rw [hq, if_neg (by decide)] at eA
        rw [eA, if_pos rfl] at eV
        rw [eA, eV]
        clear eA eV
        have HQ := Lib.hid (l01Plain_is _ _ hq)
        clear hq
        generalize numB (x + s) = y at *
        go_enter Try.func23, Try.ntmps23
        go_wp2_with (first | (go_at_call 54; (with_reducible refine (HP.out _).mono ?_); rintro e w' ⟨rfl, rfl⟩) | (go_at_call 56; (with_reducible refine (HS.out _).mono ?_); rintro e w' ⟨rfl, rfl⟩) | (go_at_call 59; (with_reducible refine (HB.out _).mono ?_); rintro e w' ⟨rfl, rfl⟩) | (go_at_call 54; (with_reducible refine (HQ.out _).mono ?_); rintro e w' ⟨rfl, rfl⟩) | (go_at_call 58; (with_reducible refine (HN.out _).mono ?_); rintro e w' ⟨rfl, rfl⟩))
        go_ret2
        exact ⟨rfl, rfl⟩
theorem valSt_fin (a : Nat) (wa : (Lit.float .f32 a).wf = true) (s : Int) : fin32 (valSt a s) = true := by
  unfold valSt
  split
  · rename_i h
    unfold codeSt at h
    cases ha : plainB a with
    | false => rw [ha, if_pos rfl] at h; cases h
    | true =>
      rw [ha, if_neg (by decide)] at h
      obtain ⟨p1, p2⟩ := place_bd (plain_get wa ha)
      cases hs : (decide (-1000000 ≤ s) && decide (s ≤ 1000000)) with
      | false => rw [hs, if_pos rfl] at h; cases h
      | true =>
        simp only [Bool.and_eq_true, decide_eq_true_eq] at hs
        exact num_finN (numB_num (by omega) (by omega))
  · exact zero_fin

end Go.Proofs.Ytjpnbcfdnolcjaa
