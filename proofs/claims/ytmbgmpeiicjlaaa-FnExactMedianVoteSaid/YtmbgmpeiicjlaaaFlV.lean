/-
  Votes in a list: whether they are all parts, for the program and the model.

-/
import Derived.Test.YtmbgmpeiicjlaaaFlA
import Derived.Test.YtmbgmpeiicjlaaaFlP
import Derived.Test.YtmbgmpeiicjlaaaBok
import Derived.Test.YtmbgmpeiicjlaaaCtOk

namespace Go.Proofs.Ytmbgmpeiicjlaaa

open Go.ChangeShapes Go.WideShapes Go.ChangeAt Go.RowKit Go.Deep Go.Joins

attribute [local go_sem] run_store_f

set_option maxHeartbeats 400000 in
theorem badVote_any (x : Nat) (r : Bool) (hr : partB x = r) (w : World) : Calls Try.prog 17 #[.float .f32 x] w fun e w' => e = .returned (.bool (!r)) ∧ w = w' := by
  subst hr
  go_enter Try.func17, Try.ntmps17
  go_wp2_with (go_at_call 18; refine (isPart_any _ _).mono ?_; rintro e w' ⟨rfl, rfl⟩)
  go_ret
  exact ⟨rfl, rfl⟩

theorem l01Part_is (x : Nat) (r : Bool) (hr : partB x = r) (w : World) : Calls Try.prog 15 #[.float .f32 x] w fun e w' => e = .returned (.bool r) ∧ w = w' := by subst hr; exact l01Part_any x w

theorem all_bad {zs : List Nat} {k x : Nat} (h : zs[k]? = some x) (hf : partB x = false) : zs.all partB = false := by
  rw [Bool.eq_false_iff]
  intro ha
  have := List.all_eq_true.1 ha x (List.mem_of_getElem? h)
  rw [hf] at this; cases this

/-- What looking for a vote that is no part finds. -/
def FoundF (zs : List Nat) (w : World) (e : Ending) (w' : World) : Prop := ∃ r : Int, e = .returned (.int .i64 r) ∧ decide (0 ≤ r) = !zs.all partB ∧ w = w'

set_option maxRecDepth 100000 in
set_option maxHeartbeats 1000000 in
theorem indexFl_any (sv : Value) (zs : List Nat) (w : World) (hzs : FloatsAt w sv zs) :
    Calls Try.prog 24 #[sv, .func (.func 17) #[] #[]] w fun e w' => FoundF zs w e w' := by
  have hzs' := hzs
  obtain ⟨a, cap, rfl, hl1, hl2, _⟩ := hzs'
  have HW := Lib.hid hzs
  clear hzs
  unfold maxLen at hl2
  generalize hn : zs.length = n at *
  have HN := Lib.hid hn
  clear hn
  go_enter Try.func24, Try.ntmps24
  go_wp2
  go_loopw [8] (fun i wr => ∃ k : Nat, k ≤ n ∧ i = .int .i64 k ∧ wr = w ∧ (zs.take k).all partB = true) (fun i _ => n - (intOf i).toNat)
  case atStart => exact ⟨0, Nat.zero_le _, rfl, rfl, rfl⟩
  case round =>
    obtain ⟨k, hk, rfl, rfl, hall⟩ := hrel
    have HA := Lib.hid hall
    clear hall
    by_cases hlt : k < n
    · have hx : zs[k]? = some (zs[k]'(by rw [HN.out]; exact hlt)) := List.getElem?_eq_getElem _
      obtain ⟨g, o, rfl, hc⟩ := float_at HW.out hx
      have HT : Hid (zs.take (k + 1) = zs.take k ++ [zs[k]'(by rw [HN.out]; exact hlt)]) := Lib.hid (by rw [List.take_succ_eq_append_getElem])
      generalize (zs[k]'(by rw [HN.out]; exact hlt)) = x at *
      have HD := Lib.hid hx
      have z1 : (k : Int) < (n : Int) := by omega
      have z2 : (0 : Int) ≤ (k : Int) := by omega
      clear hx
      cases hf : partB x with
      | true =>
        have HF := Lib.hid hf
        clear hf
        go_wp2_with (go_at_call 17; refine (badVote_any x _ HF.out _).mono ?_; rintro e w1 ⟨rfl, rfl⟩)
        go_roundw
        case rel => exact ⟨k + 1, by omega, by go_num, by trivial, by rw [HT.out, List.all_append, HA.out]; simp [HF.out]⟩
        case measure => simp [intOf]; omega
      | false =>
        have HF := Lib.hid hf
        clear hf
        go_wp2_with (go_at_call 17; refine (badVote_any x _ HF.out _).mono ?_; rintro e w1 ⟨rfl, rfl⟩)
        go_ret
        exact ⟨k, rfl, by rw [all_bad HD.out HF.out]; simp, rfl⟩
    · obtain rfl : k = n := by omega
      have hall := HA.out
      rw [List.take_of_length_le (by rw [HN.out]; exact Nat.le_refl _)] at hall
      have HL := Lib.hid hall
      clear hall
      go_wp2
      go_ret
      exact ⟨-1, rfl, by rw [HL.out]; rfl, rfl⟩

set_option maxRecDepth 100000 in
set_option maxHeartbeats 1000000 in
theorem containsFl_any (sv : Value) (zs : List Nat) (w : World) (hzs : FloatsAt w sv zs) :
    Calls Try.prog 19 #[sv, .func (.func 17) #[] #[]] w fun e w' => e = .returned (.bool (!zs.all partB)) ∧ w = w' := by
  have HC := indexFl_any sv zs w hzs
  clear hzs
  go_enter Try.func19, Try.ntmps19
  go_wp2_with (go_at_call 24; refine HC.mono ?_; rintro e w1 ⟨r, rfl, hd, rfl⟩)
  go_ret
  first | exact ⟨ret_bool5 hd, rfl⟩ | exact ⟨rfl, rfl⟩

set_option maxRecDepth 100000 in
set_option maxHeartbeats 1000000 in
theorem areVotes_any (sv : Value) (zs : List Nat) (w : World) (hzs : FloatsAt w sv zs) :
    Calls Try.prog 10 #[sv] w fun e w' => e = .returned (.bool (okVs zs)) ∧ w = w' := by
  have HC := Lib.hid (containsFl_any sv zs w hzs)
  obtain ⟨a, cap, rfl, hl1, hl2, _⟩ := hzs
  unfold maxLen at hl2
  by_cases h0 : zs.length < 1
  · have eo : okVs zs = false := by simp [okVs]; omega
    rw [eo]
    have z0 : ((zs.length : Nat) : Int) < 1 := by omega
    clear eo HC
    go_enter Try.func10, Try.ntmps10
    go_wp2
    go_ret
    exact ⟨rfl, rfl⟩
  · by_cases h1 : zs.length ≤ 12
    · have eo : okVs zs = zs.all partB := by
        unfold okVs; rw [decide_eq_true (by omega), decide_eq_true h1, Bool.true_and, Bool.true_and]
      rw [eo]
      generalize zs.all partB = ok at *
      have z0 : (1 : Int) ≤ ((zs.length : Nat) : Int) := by omega
      have z1 : ((zs.length : Nat) : Int) ≤ 12 := by omega
      clear eo
      go_enter Try.func10, Try.ntmps10
      go_wp2_with (go_at_call 19; refine HC.out.mono ?_; rintro e w1 ⟨rfl, rfl⟩)
      go_ret
      exact ⟨ret_bool5 (by simp), rfl⟩
    · have eo : okVs zs = false := by
        unfold okVs; rw [decide_eq_false h1, Bool.and_false, Bool.false_and]
      rw [eo]
      have z0 : (1 : Int) ≤ ((zs.length : Nat) : Int) := by omega
      have z1 : (12 : Int) < ((zs.length : Nat) : Int) := by omega
      clear eo HC
      go_enter Try.func10, Try.ntmps10
      go_wp2
      go_ret
      exact ⟨rfl, rfl⟩

set_option maxRecDepth 100000 in
set_option maxHeartbeats 1000000 in
theorem l05Votes_any (sv : Value) (zs : List Nat) (w : World) (hzs : FloatsAt w sv zs) :
    Calls Try.prog 9 #[sv] w fun e w' => e = .returned (.bool (okVs zs)) ∧ w = w' := by
  have HW := Lib.hid hzs
  obtain ⟨a, cap, rfl, hl1, hl2, _⟩ := hzs
  unfold maxLen at hl2
  generalize hn : zs.length = n at *
  have HN := Lib.hid hn
  clear hn
  go_enter Try.func9, Try.ntmps9
  go_wp2
  go_loopw [3] (fun i wr => ∃ k : Nat, k ≤ n ∧ i = .int .i64 k ∧ wr = w ∧ (zs.take k).all partB = true) (fun i _ => n - (intOf i).toNat)
  case atStart => exact ⟨0, Nat.zero_le _, rfl, rfl, rfl⟩
  case round =>
    obtain ⟨k, hk, rfl, rfl, hall⟩ := hrel
    have HA := Lib.hid hall
    clear hall
    by_cases hlt : k < n
    · have hx : zs[k]? = some (zs[k]'(by rw [HN.out]; exact hlt)) := List.getElem?_eq_getElem _
      obtain ⟨g, o, rfl, hc⟩ := float_at HW.out hx
      have HT : Hid (zs.take (k + 1) = zs.take k ++ [zs[k]'(by rw [HN.out]; exact hlt)]) := Lib.hid (by rw [List.take_succ_eq_append_getElem])
      generalize (zs[k]'(by rw [HN.out]; exact hlt)) = x at *
      have HD := Lib.hid hx
      have z1 : (k : Int) < (n : Int) := by omega
      have z2 : (0 : Int) ≤ (k : Int) := by omega
      clear hx
      cases hf : partB x with
      | true =>
        have HF := Lib.hid hf
        clear hf
        go_wp2_with (go_at_call 15; refine (l01Part_is x _ HF.out _).mono ?_; rintro e w1 ⟨rfl, rfl⟩)
        go_roundw
        case rel => exact ⟨k + 1, by omega, by go_num, by trivial, by rw [HT.out, List.all_append, HA.out]; simp [HF.out]⟩
        case measure => simp [intOf]; omega
      | false =>
        have HF := Lib.hid hf
        clear hf
        go_wp2_with (go_at_call 15; refine (l01Part_is x _ HF.out _).mono ?_; rintro e w1 ⟨rfl, rfl⟩)
        go_ret
        refine ⟨ret_bool5 ?_, rfl⟩
        unfold okVs; rw [all_bad HD.out HF.out, Bool.and_false]
    · obtain rfl : k = n := by omega
      have hall := HA.out
      rw [List.take_of_length_le (by rw [HN.out]; exact Nat.le_refl _)] at hall
      have HL : Hid (okVs zs = inI 1 12 (k : Int)) := by
        unfold Hid okVs inI
        rw [hall, Bool.and_true, HN.out, Bool.eq_iff_iff, Bool.and_eq_true, Bool.and_eq_true, decide_eq_true_iff, decide_eq_true_iff, decide_eq_true_iff, decide_eq_true_iff]; omega
      clear hall
      go_wp2_with (go_at_call 16; refine (l00In_ban _ _ _ _).mono ?_; rintro e w' ⟨rfl, rfl⟩)
      go_ret
      exact ⟨ret_bool5 HL.out.symm, rfl⟩

end Go.Proofs.Ytmbgmpeiicjlaaa
