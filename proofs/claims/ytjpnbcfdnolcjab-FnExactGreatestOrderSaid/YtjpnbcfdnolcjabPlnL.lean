/-
  Lists of numbers: whether all of them are plain, for the program and the model.
-/
import Derived.Test.YtjpnbcfdnolcjabFlA
import Derived.Test.YtjpnbcfdnolcjabPlainN
import Derived.Test.YtjpnbcfdnolcjabSms
namespace Go.Proofs.Ytjpnbcfdnolcjab
open Go.ChangeShapes Go.WideShapes Go.ChangeAt Go.RowKit Go.Deep Go.Joins

attribute [local go_sem] run_store_f

theorem ret_bool5 {a b : Bool} (h : a = b) : Ending.returned (.bool a) = .returned (.bool b) := by rw [h]
/-- A list is valid. -/
def okLs (zs : List Nat) : Bool := decide (zs.length ≤ 48) && zs.all plainB
theorem plain_get {z : Nat} (hw : (Lit.float .f32 z).wf = true) (h : plainB z = true) : PlnOk z := by
  have e1 : sv 3380609024 = -(rv 1233125376 : Int) := by
    rw [show (3380609024 : Nat) = 2147483648 + 1233125376 by rfl, sv_neg]
  have e2 : sv 1233125376 = (rv 1233125376 : Int) := sv_pos (by decide)
  obtain ⟨a, b, c⟩ := betw_get hw (.inr ⟨by decide, by decide⟩) (.inl (by decide)) h
  refine ⟨a, rv_le_iff.1 ?_⟩
  rw [← (mag_num a).1]
  rw [e1] at b
  rw [e2] at c
  omega
theorem okLs_get {zs : List Nat} (hw : ∀ z ∈ zs, (Lit.float .f32 z).wf = true) (h : okLs zs = true) : zs.length ≤ 48 ∧ ∀ z ∈ zs, PlnOk z := by
  simp only [okLs, Bool.and_eq_true, decide_eq_true_eq] at h
  exact ⟨h.1, fun z hz => plain_get (hw z hz) (List.all_eq_true.1 h.2 z hz)⟩
theorem isPlain_is (x : Nat) (r : Bool) (hr : plainB x = r) (w : World) : Calls Try.prog 55 #[.float .f32 x] w fun e w' => e = .returned (.bool r) ∧ w = w' := by subst hr; exact isPlain_any x w
theorem l01Plain_is (x : Nat) (r : Bool) (hr : plainB x = r) (w : World) : Calls Try.prog 69 #[.float .f32 x] w fun e w' => e = .returned (.bool r) ∧ w = w' := by subst hr; exact l01Plain_any x w
set_option maxHeartbeats 400000 in
theorem badNum_any (x : Nat) (r : Bool) (hr : plainB x = r) (w : World) : Calls Try.prog 71 #[.float .f32 x] w fun e w' => e = .returned (.bool (!r)) ∧ w = w' := by
  have HR := Lib.hid hr
  clear hr
  go_enter Try.func71, Try.ntmps71
  go_wp2_with (go_at_call 55; refine (isPlain_is _ _ HR.out _).mono ?_; rintro e w' ⟨rfl, rfl⟩)
  go_ret
  exact ⟨rfl, rfl⟩
theorem all_badP {zs : List Nat} {k x : Nat} (h : zs[k]? = some x) (hf : plainB x = false) : zs.all plainB = false := by
  rw [Bool.eq_false_iff]
  intro ha
  have := List.all_eq_true.1 ha x (List.mem_of_getElem? h)
  rw [hf] at this; cases this
/-- What looking for a number that is not plain finds. -/
def FoundP (zs : List Nat) (w : World) (e : Ending) (w' : World) : Prop := ∃ r : Int, e = .returned (.int .i64 r) ∧ decide (0 ≤ r) = !zs.all plainB ∧ w = w'
set_option maxRecDepth 100000 in
set_option maxHeartbeats 1000000 in
theorem indexPl_any (sv : Value) (zs : List Nat) (w : World) (hzs : FloatsAt w sv zs) :
    Calls Try.prog 84 #[sv, .func (.func 71) #[] #[]] w fun e w' => FoundP zs w e w' := by
  have hzs' := hzs
  obtain ⟨a, cap, rfl, hl1, hl2, _⟩ := hzs'
  have HW := Lib.hid hzs
  clear hzs
  unfold maxLen at hl2
  generalize hn : zs.length = n at *
  have HN := Lib.hid hn
  clear hn
  go_enter Try.func84, Try.ntmps84
  go_wp2
  go_loopw [8] (fun i wr => ∃ k : Nat, k ≤ n ∧ i = .int .i64 k ∧ wr = w ∧ (zs.take k).all plainB = true) (fun i _ => n - (intOf i).toNat)
  case atStart => exact ⟨0, Nat.zero_le _, rfl, rfl, rfl⟩
  case round =>
    obtain ⟨k, hk, rfl, rfl, hall⟩ := hrel
    have HA := Lib.hid hall
    clear hall
    by_cases hlt : k < n
    · have hx : zs[k]? = some (zs[k]'(by rw [HN.out]; exact hlt)) := List.getElem?_eq_getElem _
      obtain ⟨g, o, rfl, hc⟩ := float_at HW.out hx
      have HT : Hid (zs.take (k + 1) = zs.take k ++ [zs[k]'(by rw [HN.out]; exact hlt)]) := Lib.hid (by rw [List.take_succ_eq_append_getElem])
      generalize (zs[k]'(by rw [HN.out]; exact hlt)) = x at *
      have HD := Lib.hid hx
      have z1 : (k : Int) < (n : Int) := by omega
      have z2 : (0 : Int) ≤ (k : Int) := by omega
      clear hx
      cases hf : plainB x with
      | true =>
        have HF := Lib.hid hf
        clear hf
        go_wp2_with (go_at_call 71; refine (badNum_any x _ HF.out _).mono ?_; rintro e w1 ⟨rfl, rfl⟩)
        go_roundw
        case rel => exact ⟨k + 1, by omega, by go_num, by trivial, by rw [HT.out, List.all_append, HA.out]; simp [HF.out]⟩
        case measure => simp [intOf]; omega
      | false =>
        have HF := Lib.hid hf
        clear hf
        go_wp2_with (go_at_call 71; refine (badNum_any x _ HF.out _).mono ?_; rintro e w1 ⟨rfl, rfl⟩)
        go_ret
        exact ⟨k, rfl, by rw [all_badP HD.out HF.out]; simp, rfl⟩
    · obtain rfl : k = n := by omega
      have hall := HA.out
      rw [List.take_of_length_le (by rw [HN.out]; exact Nat.le_refl _)] at hall
      have HL := Lib.hid hall
      clear hall
      go_wp2
      go_ret
      exact ⟨-1, rfl, by rw [HL.out]; rfl, rfl⟩
set_option maxRecDepth 100000 in
set_option maxHeartbeats 1000000 in
theorem containsPl_any (sv : Value) (zs : List Nat) (w : World) (hzs : FloatsAt w sv zs) :
    Calls Try.prog 72 #[sv, .func (.func 71) #[] #[]] w fun e w' => e = .returned (.bool (!zs.all plainB)) ∧ w = w' := by
  have HC := indexPl_any sv zs w hzs
  clear hzs
  go_enter Try.func72, Try.ntmps72
  go_wp2_with (go_at_call 84; refine HC.mono ?_; rintro e w1 ⟨r, rfl, hd, rfl⟩)
  go_ret
  first | exact ⟨ret_bool5 hd, rfl⟩ | exact ⟨rfl, rfl⟩
set_option maxRecDepth 100000 in
set_option maxHeartbeats 1000000 in
theorem ValidList_any (sv : Value) (zs : List Nat) (w : World) (hzs : FloatsAt w sv zs) :
    Calls Try.prog 53 #[sv] w fun e w' => e = .returned (.bool (okLs zs)) ∧ w = w' := by
  have HC := Lib.hid (containsPl_any sv zs w hzs)
  obtain ⟨a, cap, rfl, hl1, hl2, _⟩ := hzs
  unfold maxLen at hl2
  by_cases h1 : zs.length ≤ 48
  · have eo : okLs zs = zs.all plainB := by unfold okLs; rw [decide_eq_true h1, Bool.true_and]
    rw [eo]
    generalize zs.all plainB = ok at *
    have z1 : ((zs.length : Nat) : Int) ≤ 48 := by omega
    clear eo
    go_enter Try.func53, Try.ntmps53
    go_wp2_with (go_at_call 72; refine HC.out.mono ?_; rintro e w1 ⟨rfl, rfl⟩)
    go_ret
    exact ⟨ret_bool5 (by simp), rfl⟩
  · have eo : okLs zs = false := by unfold okLs; rw [decide_eq_false h1, Bool.false_and]
    rw [eo]
    have z1 : (48 : Int) < ((zs.length : Nat) : Int) := by omega
    clear eo HC
    go_enter Try.func53, Try.ntmps53
    go_wp2
    go_ret
    exact ⟨rfl, rfl⟩
set_option maxRecDepth 100000 in
set_option maxHeartbeats 1000000 in
theorem l06Ok_any (sv : Value) (zs : List Nat) (w : World) (hzs : FloatsAt w sv zs) :
    Calls Try.prog 49 #[sv] w fun e w' => e = .returned (.bool (okLs zs)) ∧ w = w' := by
  have HW := Lib.hid hzs
  obtain ⟨a, cap, rfl, hl1, hl2, _⟩ := hzs
  unfold maxLen at hl2
  generalize hn : zs.length = n at *
  have HN := Lib.hid hn
  clear hn
  go_enter Try.func49, Try.ntmps49
  go_wp2
  go_loopw [3] (fun i wr => ∃ k : Nat, k ≤ n ∧ i = .int .i64 k ∧ wr = w ∧ (zs.take k).all plainB = true) (fun i _ => n - (intOf i).toNat)
  case atStart => exact ⟨0, Nat.zero_le _, rfl, rfl, rfl⟩
  case round =>
    obtain ⟨k, hk, rfl, rfl, hall⟩ := hrel
    have HA := Lib.hid hall
    clear hall
    by_cases hlt : k < n
    · have hx : zs[k]? = some (zs[k]'(by rw [HN.out]; exact hlt)) := List.getElem?_eq_getElem _
      obtain ⟨g, o, rfl, hc⟩ := float_at HW.out hx
      have HT : Hid (zs.take (k + 1) = zs.take k ++ [zs[k]'(by rw [HN.out]; exact hlt)]) := Lib.hid (by rw [List.take_succ_eq_append_getElem])
      generalize (zs[k]'(by rw [HN.out]; exact hlt)) = x at *
      have HD := Lib.hid hx
      have z1 : (k : Int) < (n : Int) := by omega
      have z2 : (0 : Int) ≤ (k : Int) := by omega
      clear hx
      cases hf : plainB x with
      | true =>
        have HF := Lib.hid hf
        clear hf
        go_wp2_with (go_at_call 69; refine (l01Plain_is x _ HF.out _).mono ?_; rintro e w1 ⟨rfl, rfl⟩)
        go_roundw
        case rel => exact ⟨k + 1, by omega, by go_num, by trivial, by rw [HT.out, List.all_append, HA.out]; simp [HF.out]⟩
        case measure => simp [intOf]; omega
      | false =>
        have HF := Lib.hid hf
        clear hf
        go_wp2_with (go_at_call 69; refine (l01Plain_is x _ HF.out _).mono ?_; rintro e w1 ⟨rfl, rfl⟩)
        go_ret
        refine ⟨ret_bool5 ?_, rfl⟩
        unfold okLs; rw [all_badP HD.out HF.out, Bool.and_false]
    · obtain rfl : k = n := by omega
      have hall := HA.out
      rw [List.take_of_length_le (by rw [HN.out]; exact Nat.le_refl _)] at hall
      have HL : Hid (okLs zs = decide ((k : Int) ≤ 48)) := by
        unfold Hid okLs
        rw [hall, Bool.and_true, HN.out, Bool.eq_iff_iff, decide_eq_true_iff, decide_eq_true_iff]; omega
      clear hall
      go_wp2
      go_ret
      exact ⟨ret_bool5 HL.out.symm, rfl⟩

end Go.Proofs.Ytjpnbcfdnolcjab
