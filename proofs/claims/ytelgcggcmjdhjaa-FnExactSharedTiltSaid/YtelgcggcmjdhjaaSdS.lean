/-
  The tilt of several blinds that is nearest to what is wanted: the model.
-/
import Derived.Test.YtelgcggcmjdhjaaSdJ
import Derived.Test.YtelgcggcmjdhjaaLaS
namespace Go.Proofs.Ytelgcggcmjdhjaa
open Go.ChangeShapes Go.WideShapes Go.ChangeAt Go.RowKit Go.Deep Go.Joins

attribute [local go_sem] run_store_f

theorem l00In_iS (a lo hi : Int) (r : Bool) (h : inI lo hi a = r) (w : World) : Calls Try.prog 82 #[.int .i64 a, .int .i64 lo, .int .i64 hi] w fun e w' => e = .returned (.bool r) ∧ w = w' := by subst h; exact l00In_ban a lo hi w
set_option maxRecDepth 100000 in
set_option maxHeartbeats 1000000 in
theorem l02Ok_at (x : Bd) (hx : BdWf x) (g o : Nat) (r : Bool) (hr : fitB x = r) (w : World) (hc : ∀ j v, (bdC x)[j]? = some v → w.cell? ⟨g, o + j, none⟩ = some v) :
    Calls Try.prog 81 #[.pointer (some ⟨g, o, none⟩)] w fun e w' => e = .returned (.bool r) ∧ w = w' := by
  subst hr
  obtain ⟨n, wd, gp, t, sh⟩ := x
  have c0 : w.cell? ⟨g, o + 0, none⟩ = some (.int .i8 n) := hc 0 _ rfl
  have c1 : w.cell? ⟨g, o + 1, none⟩ = some (.float .f32 wd) := hc 1 _ rfl
  have c2 : w.cell? ⟨g, o + 2, none⟩ = some (.float .f32 gp) := hc 2 _ rfl
  have c3 : w.cell? ⟨g, o + 3, none⟩ = some (.int .i16 t) := hc 3 _ rfl
  have c4 : w.cell? ⟨g, o + 4, none⟩ = some (.float .f32 sh) := hc 4 _ rfl
  rw [Nat.add_zero] at c0
  obtain ⟨t0, t1⟩ := blwf_t hx
  obtain ⟨n0, n1⟩ := blwf_n hx
  dsimp only at t0 t1 n0 n1
  unfold fitB
  dsimp only
  clear hc hx
  go_enter Try.func81, Try.ntmps81
  go_wp2_with (first | (go_at_call 110; refine (l02Length_any _ _).mono ?_; rintro e w' ⟨rfl, rfl⟩) | (go_at_call 89; refine (l02Tilt_any _ _).mono ?_; rintro e w' ⟨rfl, rfl⟩) | (go_at_call 83; refine (l01Part_any _ _).mono ?_; rintro e w' ⟨rfl, rfl⟩) | (go_at_call 82; refine (l00In_ban _ _ _ _).mono ?_; rintro e w' ⟨rfl, rfl⟩))
  all_goals
    go_ret
    refine ⟨?_, rfl⟩
    simp [okBl, *]

set_option maxRecDepth 100000 in
set_option maxHeartbeats 4000000 in
theorem sSD_a (sv : Value) (ws : List Bd) (hwf : ∀ x ∈ ws, BdWf x) (h : Int) (want : Nat) (w : World) (hz : BdsAt w sv ws) (ha : ws.all fitB = false) :
    Calls Try.prog 46 #[sv, .int .i64 h, .float .f32 want] w fun e w' => e = .returned (.tuple #[.int .i64 0, .float .f32 0, .int .i64 1]) ∧ Below w.heap.size w w' := by
  have HZ := Lib.hid hz
  have HW := Lib.hid hwf
  have HAll := Lib.hid ha
  obtain ⟨a, cap, rfl, hl1, hl2, _⟩ := hz
  unfold maxLen at hl2
  generalize hn : ws.length = n' at *
  have HN := Lib.hid hn
  clear hn hwf
  clear ha
  go_enter Try.func46, Try.ntmps46
  go_wp2
  go_loopw [9] (fun i wr => ∃ k : Nat, k ≤ n' ∧ i = .int .i64 k ∧ w = wr ∧ (ws.take k).all fitB = true) (fun i _ => n' - (intOf i).toNat)
  case atStart => exact ⟨0, Nat.zero_le _, rfl, rfl, rfl⟩
  case round =>
    obtain ⟨k, hk, rfl, rfl, hall⟩ := hrel
    have HA := Lib.hid hall
    clear hall
    by_cases hlt : k < n'
    · have hx : ws[k]? = some (ws[k]'(by rw [HN.out]; exact hlt)) := List.getElem?_eq_getElem _
      obtain ⟨g, o, rfl, hc⟩ := bd_at HZ.out hx
      have HCx := Lib.hid hc
      have HT : Hid (ws.take (k + 1) = ws.take k ++ [ws[k]'(by rw [HN.out]; exact hlt)]) := Lib.hid (by rw [List.take_succ_eq_append_getElem])
      have HWx := Lib.hid (HW.out _ (List.mem_of_getElem? hx))
      have hmem := List.mem_of_getElem? hx
      generalize (ws[k]'(by rw [HN.out]; exact hlt)) = x at *
      have HD := Lib.hid hx
      have z1 : (k : Int) < (n' : Int) := by omega
      have z2 : (0 : Int) ≤ (k : Int) := by omega
      clear hc hx
      clear hmem
      cases hf : fitB x with
      | true =>
        have HFx := Lib.hid hf
        clear hf
        go_wp2_with (go_at_call 81; refine (l02Ok_at x HWx.out g (o + k * 5) true HFx.out _ HCx.out).mono ?_; rintro e w1 ⟨rfl, rfl⟩)
        go_roundw
        case rel => exact ⟨k + 1, by omega, by go_num, by trivial, by rw [HT.out, List.all_append, HA.out]; simp [HFx.out]⟩
        case measure => simp [intOf]; omega
      | false =>
        have HFx := Lib.hid hf
        clear hf
        go_wp2_with (go_at_call 81; refine (l02Ok_at x HWx.out g (o + k * 5) false HFx.out _ HCx.out).mono ?_; rintro e w1 ⟨rfl, rfl⟩)
        go_ret3
        exact ⟨rfl, Below.refl _ _⟩
    · exfalso
      have hall := HA.out
      rw [List.take_of_length_le (by rw [HN.out]; omega)] at hall
      rw [HAll.out] at hall
      cases hall

set_option maxRecDepth 100000 in
set_option maxHeartbeats 16000000 in
theorem sSD_l (sv : Value) (ws : List Bd) (hwf : ∀ x ∈ ws, BdWf x) (h : Int) (want : Nat) (w : World) (hz : BdsAt w sv ws) (ha : ws.all fitB = true) (hl : inI 1 8 (ws.length : Int) = false) :
    Calls Try.prog 46 #[sv, .int .i64 h, .float .f32 want] w fun e w' => e = .returned (.tuple #[.int .i64 0, .float .f32 0, .int .i64 3]) ∧ Below w.heap.size w w' := by
  have HZ := Lib.hid hz
  have HW := Lib.hid hwf
  have HAll := Lib.hid (List.all_eq_true.1 ha)
  have HL := Lib.hid hl
  clear hl
  obtain ⟨a, cap, rfl, hl1, hl2, _⟩ := hz
  unfold maxLen at hl2
  generalize hn : ws.length = n' at *
  have HN := Lib.hid hn
  clear hn hwf
  clear ha
  go_enter Try.func46, Try.ntmps46
  go_wp2
  go_loopw [9] (fun i wr => ∃ k : Nat, k ≤ n' ∧ i = .int .i64 k ∧ w = wr ∧ (ws.take k).all fitB = true) (fun i _ => n' - (intOf i).toNat)
  case atStart => exact ⟨0, Nat.zero_le _, rfl, rfl, rfl⟩
  case round =>
    obtain ⟨k, hk, rfl, rfl, hall⟩ := hrel
    have HA := Lib.hid hall
    clear hall
    by_cases hlt : k < n'
    · have hx : ws[k]? = some (ws[k]'(by rw [HN.out]; exact hlt)) := List.getElem?_eq_getElem _
      obtain ⟨g, o, rfl, hc⟩ := bd_at HZ.out hx
      have HCx := Lib.hid hc
      have HT : Hid (ws.take (k + 1) = ws.take k ++ [ws[k]'(by rw [HN.out]; exact hlt)]) := Lib.hid (by rw [List.take_succ_eq_append_getElem])
      have HWx := Lib.hid (HW.out _ (List.mem_of_getElem? hx))
      have hmem := List.mem_of_getElem? hx
      generalize (ws[k]'(by rw [HN.out]; exact hlt)) = x at *
      have HD := Lib.hid hx
      have z1 : (k : Int) < (n' : Int) := by omega
      have z2 : (0 : Int) ≤ (k : Int) := by omega
      clear hc hx
      have HFx := Lib.hid (HAll.out x hmem)
      clear hmem
      go_wp2_with (go_at_call 81; refine (l02Ok_at x HWx.out g (o + k * 5) true HFx.out _ HCx.out).mono ?_; rintro e w1 ⟨rfl, rfl⟩)
      go_roundw
      case rel => exact ⟨k + 1, by omega, by go_num, by trivial, by rw [HT.out, List.all_append, HA.out]; simp [HFx.out]⟩
      case measure => simp [intOf]; omega
    · obtain rfl : n' = k := by omega
      clear HA HW HAll hlt
      go_wp2_with (go_at_call 82; refine (l00In_iS _ 1 8 false HL.out _).mono ?_; rintro e w' ⟨rfl, rfl⟩)
      go_ret3
      exact ⟨rfl, Below.refl _ _⟩

set_option maxRecDepth 100000 in
set_option maxHeartbeats 16000000 in
theorem sSD_h (sv : Value) (ws : List Bd) (hwf : ∀ x ∈ ws, BdWf x) (h : Int) (want : Nat) (w : World) (hz : BdsAt w sv ws) (ha : ws.all fitB = true) (hl : inI 1 8 (ws.length : Int) = true) (hi : inI 1 64 h = false) :
    Calls Try.prog 46 #[sv, .int .i64 h, .float .f32 want] w fun e w' => e = .returned (.tuple #[.int .i64 0, .float .f32 0, .int .i64 2]) ∧ Below w.heap.size w w' := by
  have HZ := Lib.hid hz
  have HW := Lib.hid hwf
  have HAll := Lib.hid (List.all_eq_true.1 ha)
  have HL := Lib.hid hl
  have Hi := Lib.hid hi
  clear hl hi
  obtain ⟨a, cap, rfl, hl1, hl2, _⟩ := hz
  unfold maxLen at hl2
  generalize hn : ws.length = n' at *
  have HN := Lib.hid hn
  clear hn hwf
  clear ha
  go_enter Try.func46, Try.ntmps46
  go_wp2
  go_loopw [9] (fun i wr => ∃ k : Nat, k ≤ n' ∧ i = .int .i64 k ∧ w = wr ∧ (ws.take k).all fitB = true) (fun i _ => n' - (intOf i).toNat)
  case atStart => exact ⟨0, Nat.zero_le _, rfl, rfl, rfl⟩
  case round =>
    obtain ⟨k, hk, rfl, rfl, hall⟩ := hrel
    have HA := Lib.hid hall
    clear hall
    by_cases hlt : k < n'
    · have hx : ws[k]? = some (ws[k]'(by rw [HN.out]; exact hlt)) := List.getElem?_eq_getElem _
      obtain ⟨g, o, rfl, hc⟩ := bd_at HZ.out hx
      have HCx := Lib.hid hc
      have HT : Hid (ws.take (k + 1) = ws.take k ++ [ws[k]'(by rw [HN.out]; exact hlt)]) := Lib.hid (by rw [List.take_succ_eq_append_getElem])
      have HWx := Lib.hid (HW.out _ (List.mem_of_getElem? hx))
      have hmem := List.mem_of_getElem? hx
      generalize (ws[k]'(by rw [HN.out]; exact hlt)) = x at *
      have HD := Lib.hid hx
      have z1 : (k : Int) < (n' : Int) := by omega
      have z2 : (0 : Int) ≤ (k : Int) := by omega
      clear hc hx
      have HFx := Lib.hid (HAll.out x hmem)
      clear hmem
      go_wp2_with (go_at_call 81; refine (l02Ok_at x HWx.out g (o + k * 5) true HFx.out _ HCx.out).mono ?_; rintro e w1 ⟨rfl, rfl⟩)
      go_roundw
      case rel => exact ⟨k + 1, by omega, by go_num, by trivial, by rw [HT.out, List.all_append, HA.out]; simp [HFx.out]⟩
      case measure => simp [intOf]; omega
    · obtain rfl : n' = k := by omega
      clear HA HW HAll hlt
      go_wp2_with (first | (go_at_call 82; refine (l00In_iS _ 1 8 true HL.out _).mono ?_; rintro e w' ⟨rfl, rfl⟩) | (go_at_call 72; refine (l02Up_is h false Hi.out _).mono ?_; rintro e w' ⟨rfl, rfl⟩))
      go_ret3
      exact ⟨rfl, Below.refl _ _⟩

set_option maxRecDepth 100000 in
set_option maxHeartbeats 16000000 in
theorem sSD_p (sv : Value) (ws : List Bd) (hwf : ∀ x ∈ ws, BdWf x) (h : Int) (want : Nat) (w : World) (hz : BdsAt w sv ws) (ha : ws.all fitB = true) (hl : inI 1 8 (ws.length : Int) = true) (hi : inI 1 64 h = true) (hp : partB want = false) :
    Calls Try.prog 46 #[sv, .int .i64 h, .float .f32 want] w fun e w' => e = .returned (.tuple #[.int .i64 0, .float .f32 0, .int .i64 2]) ∧ Below w.heap.size w w' := by
  have HZ := Lib.hid hz
  have HW := Lib.hid hwf
  have HAll := Lib.hid (List.all_eq_true.1 ha)
  have HL := Lib.hid hl
  have Hi := Lib.hid hi
  have Hp := Lib.hid hp
  clear hl hi hp
  obtain ⟨a, cap, rfl, hl1, hl2, _⟩ := hz
  unfold maxLen at hl2
  generalize hn : ws.length = n' at *
  have HN := Lib.hid hn
  clear hn hwf
  clear ha
  go_enter Try.func46, Try.ntmps46
  go_wp2
  go_loopw [9] (fun i wr => ∃ k : Nat, k ≤ n' ∧ i = .int .i64 k ∧ w = wr ∧ (ws.take k).all fitB = true) (fun i _ => n' - (intOf i).toNat)
  case atStart => exact ⟨0, Nat.zero_le _, rfl, rfl, rfl⟩
  case round =>
    obtain ⟨k, hk, rfl, rfl, hall⟩ := hrel
    have HA := Lib.hid hall
    clear hall
    by_cases hlt : k < n'
    · have hx : ws[k]? = some (ws[k]'(by rw [HN.out]; exact hlt)) := List.getElem?_eq_getElem _
      obtain ⟨g, o, rfl, hc⟩ := bd_at HZ.out hx
      have HCx := Lib.hid hc
      have HT : Hid (ws.take (k + 1) = ws.take k ++ [ws[k]'(by rw [HN.out]; exact hlt)]) := Lib.hid (by rw [List.take_succ_eq_append_getElem])
      have HWx := Lib.hid (HW.out _ (List.mem_of_getElem? hx))
      have hmem := List.mem_of_getElem? hx
      generalize (ws[k]'(by rw [HN.out]; exact hlt)) = x at *
      have HD := Lib.hid hx
      have z1 : (k : Int) < (n' : Int) := by omega
      have z2 : (0 : Int) ≤ (k : Int) := by omega
      clear hc hx
      have HFx := Lib.hid (HAll.out x hmem)
      clear hmem
      go_wp2_with (go_at_call 81; refine (l02Ok_at x HWx.out g (o + k * 5) true HFx.out _ HCx.out).mono ?_; rintro e w1 ⟨rfl, rfl⟩)
      go_roundw
      case rel => exact ⟨k + 1, by omega, by go_num, by trivial, by rw [HT.out, List.all_append, HA.out]; simp [HFx.out]⟩
      case measure => simp [intOf]; omega
    · obtain rfl : n' = k := by omega
      clear HA HW HAll hlt
      go_wp2_with (first | (go_at_call 82; refine (l00In_iS _ 1 8 true HL.out _).mono ?_; rintro e w' ⟨rfl, rfl⟩) | (go_at_call 72; refine (l02Up_is h true Hi.out _).mono ?_; rintro e w' ⟨rfl, rfl⟩) | (go_at_call 83; refine (l01Part_iS want false Hp.out _).mono ?_; rintro e w' ⟨rfl, rfl⟩))
      go_ret3
      exact ⟨rfl, Below.refl _ _⟩

theorem sSD_no (sv : Value) (ws : List Bd) (hwf : ∀ x ∈ ws, BdWf x) (h : Int) (want : Nat) (w : World) (hz : BdsAt w sv ws) (hc : codeS ws h want ≠ 0) :
    Calls Try.prog 46 #[sv, .int .i64 h, .float .f32 want] w fun e w' => e = .returned (.tuple #[.int .i64 0, .float .f32 0, .int .i64 (codeS ws h want)]) ∧ Below w.heap.size w w' := by
  unfold codeS at hc ⊢
  cases ha : ws.all fitB with
  | false => rw [if_pos rfl]; exact sSD_a sv ws hwf h want w hz ha
  | true =>
    rw [ha] at hc
    rw [if_neg (by decide)] at hc ⊢
    cases hl : inI 1 8 (ws.length : Int) with
    | false => rw [if_pos rfl]; exact sSD_l sv ws hwf h want w hz ha hl
    | true =>
      rw [hl] at hc
      rw [if_neg (by decide)] at hc ⊢
      cases hi : inI 1 64 h with
      | false => rw [if_pos (by rfl)]; exact sSD_h sv ws hwf h want w hz ha hl hi
      | true =>
        cases hp : partB want with
        | false => rw [if_pos (by rfl)]; exact sSD_p sv ws hwf h want w hz ha hl hi hp
        | true => rw [hi, hp] at hc; exact absurd rfl hc
set_option maxRecDepth 100000 in
set_option maxHeartbeats 16000000 in
theorem sSD_yes (sv : Value) (ws : List Bd) (hwf : ∀ x ∈ ws, BdWf x) (h : Int) (want : Nat) (w : World) (hz : BdsAt w sv ws) (ha : ws.all fitB = true) (hl : inI 1 8 (ws.length : Int) = true) (hi : inI 1 64 h = true) (hp : partB want = true) (hww : (Lit.float .f32 want).wf = true) (m r : Nat) (hm : firstMin (dS h want ws) 128 = m) (hr : dS h want ws m = r) :
    Calls Try.prog 46 #[sv, .int .i64 h, .float .f32 want] w fun e w' => e = .returned (.tuple #[.int .i64 ((m : Int) - 64), .float .f32 r, .int .i64 0]) ∧ Below w.heap.size w w' := by
  have HZ := Lib.hid hz
  have HW := Lib.hid hwf
  have HAll := Lib.hid (List.all_eq_true.1 ha)
  have HL := Lib.hid hl
  have Hi := Lib.hid hi
  have Hp := Lib.hid hp
  obtain ⟨h0, h1⟩ := inI_get hi
  obtain ⟨l1, l8⟩ := inI_get hl
  have OK := all_ok hwf ha
  have WP := part_get hww hp
  have l12 : ws.length ≤ 12 := by omega
  have HO : Hid (∀ (n : Int) (wd gp : Nat) (t : Int) (sh : Nat), BlOk n wd gp t sh → ∀ (x : Int), -64 ≤ x → x ≤ 64 → ∀ (tb : Nat) (W : World), W.heap[tb]? = some (.cells (blindC n wd gp x sh) 49 (0, 0)) → Calls Try.prog 73 #[.pointer (some ⟨tb, 0, none⟩), .int .i64 h] W fun e W' => e = .returned (.float .f32 (pasB wd gp x sh h)) ∧ Below W.heap.size W W') :=
    fun n wd gp t sh ok x x0 x1 tb W hg => l02Pass_any n wd gp x sh (blok_tiltA n wd gp t sh ok x0 x1) h h0 h1 tb 49 (0, 0) W hg
  have HS := Lib.hid (fun x k hk => And.intro (dV_ok (pBd_le x h (getD_bd OK k hk)) WP) (sumB_step (x := x) (h := h) OK WP l12 k hk))
  have HOK := Lib.hid (fun k hk => getD_bd OK k hk)
  obtain ⟨d, hd⟩ : ∃ d, d = (dS h want ws) := ⟨_, rfl⟩
  have HDL : Hid (∀ k, d k < 2139095040) := by subst hd; exact fun k => dS_lt h OK WP l12 k
  have HDA : Hid (∀ (k : Nat) (x : Int), x = (k : Int) - 64 → sumB x h want ws ws.length = d k) := by
    subst hd; intro k x hx; subst hx; rfl
  rw [← hd] at hm
  have HB : Hid (bM d 129 = (m : Int) - 64 ∧ sM d 129 = r) := by
    refine ⟨?_, ?_⟩
    · show (firstMin d 128 : Int) - 64 = _; rw [hm]
    · show d (firstMin d 128) = _; rw [hm, ← hr, hd]
  clear OK WP h0 h1 l1 l8 hl hi hp hm hr hd hww l12
  obtain ⟨a, cap, rfl, hl1, hl2, _⟩ := hz
  unfold maxLen at hl2
  generalize hn : ws.length = n' at *
  have HN := Lib.hid hn
  clear hn hwf
  clear ha
  go_enter Try.func46, Try.ntmps46
  go_wp2
  go_loopw [9] (fun i wr => ∃ k : Nat, k ≤ n' ∧ i = .int .i64 k ∧ w = wr ∧ (ws.take k).all fitB = true) (fun i _ => n' - (intOf i).toNat)
  case atStart => exact ⟨0, Nat.zero_le _, rfl, rfl, rfl⟩
  case round =>
    obtain ⟨k, hk, rfl, rfl, hall⟩ := hrel
    have HA := Lib.hid hall
    clear hall
    by_cases hlt : k < n'
    · have hx : ws[k]? = some (ws[k]'(by rw [HN.out]; exact hlt)) := List.getElem?_eq_getElem _
      obtain ⟨g, o, rfl, hc⟩ := bd_at HZ.out hx
      have HCx := Lib.hid hc
      have HT : Hid (ws.take (k + 1) = ws.take k ++ [ws[k]'(by rw [HN.out]; exact hlt)]) := Lib.hid (by rw [List.take_succ_eq_append_getElem])
      have HWx := Lib.hid (HW.out _ (List.mem_of_getElem? hx))
      have hmem := List.mem_of_getElem? hx
      generalize (ws[k]'(by rw [HN.out]; exact hlt)) = x at *
      have HD := Lib.hid hx
      have z1 : (k : Int) < (n' : Int) := by omega
      have z2 : (0 : Int) ≤ (k : Int) := by omega
      clear hc hx
      have HFx := Lib.hid (HAll.out x hmem)
      clear hmem
      go_wp2_with (go_at_call 81; refine (l02Ok_at x HWx.out g (o + k * 5) true HFx.out _ HCx.out).mono ?_; rintro e w1 ⟨rfl, rfl⟩)
      go_roundw
      case rel => exact ⟨k + 1, by omega, by go_num, by trivial, by rw [HT.out, List.all_append, HA.out]; simp [HFx.out]⟩
      case measure => simp [intOf]; omega
    · obtain rfl : n' = k := by omega
      clear HA HW HAll hlt
      go_wp2_with (first | (go_at_call 82; refine (l00In_iS _ 1 8 true HL.out _).mono ?_; rintro e w' ⟨rfl, rfl⟩) | (go_at_call 72; refine (l02Up_is h true Hi.out _).mono ?_; rintro e w' ⟨rfl, rfl⟩) | (go_at_call 83; refine (l01Part_iS want true Hp.out _).mono ?_; rintro e w' ⟨rfl, rfl⟩))
      clear HL Hi Hp
      go_loopw [10, 11, 12] (fun b s i wr => ∃ (k : Nat) (x : Int), k ≤ 129 ∧ x = (k : Int) - 64 ∧ i = .int .i64 x ∧ b = .int .i64 (bM d k) ∧ s = .float .f32 (sM d k) ∧ Below w.heap.size w wr) (fun _ _ i _ => (65 - intOf i).toNat)
      case atStart => exact ⟨0, -64, by omega, by decide, rfl, rfl, rfl, Below.refl _ _⟩
      case round =>
        obtain ⟨k, x, hk, hx, rfl, rfl, rfl, hb⟩ := hrel
        by_cases hlt : k < 129
        · have z0 : (-64 : Int) ≤ x := by omega
          have z1 : x ≤ 64 := by omega
          have HDk := Lib.hid (HDA.out k x hx)
          have HSt := Lib.hid (stepM d HDL.out k)
          have HXX := Lib.hid hx
          clear hx
          obtain ⟨wo, rfl⟩ : ∃ wo : World, wo = wr := ⟨_, rfl⟩
          go_wp2
          go_loopw [13, 14] (fun s i wr => ∃ m2 : Nat, m2 ≤ n' ∧ i = .int .i64 m2 ∧ s = .float .f32 (sumB x h want ws m2) ∧ Below w.heap.size w wr) (fun _ i _ => n' - (intOf i).toNat)
          case atStart => exact ⟨0, Nat.zero_le _, rfl, rfl, hb⟩
          case round =>
            clear hb
            obtain ⟨m2, hm2, rfl, rfl, hb⟩ := hrel
            by_cases hlt2 : m2 < n'
            · have hx2 : ws[m2]? = some (ws.getD m2 (0, 0, 0, 0, 0)) := by rw [List.getElem?_eq_getElem (by rw [HN.out]; exact hlt2)]; simp [List.getD, HN.out, hlt2]
              obtain ⟨⟨hs1, hs2, _⟩, hs3⟩ := HS.out x m2 hlt2
              have hok := HOK.out m2 hlt2
              obtain ⟨g, o, rfl, hc⟩ := bd_at (bds_below HZ.out hb) hx2
              unfold dV at hs3
              generalize ws.getD m2 (0, 0, 0, 0, 0) = b at *
              obtain ⟨n, wd, gp, t, sh⟩ := b
              unfold pBd at hs1 hs2 hs3
              dsimp only at hs1 hs2 hs3
              have HC := Lib.hid hc
              have HX := Lib.hid (HO.out n wd gp t sh hok x z0 z1)
              have r1 : ∀ T w, (binOp .sub T (.float .f32 (pasB wd gp x sh h)) (.float .f32 want)).run Try.prog w = .ok (.float .f32 (fsub (pasB wd gp x sh h) want)) w := fun T w => run_float_arith w .sub T .f32 _ _ _ hs1
              have HZ2 := Lib.hid (fun w => l01Size_any (fsub (pasB wd gp x sh h) want) hs2 w)
              have r2 : ∀ T w, (binOp .add T (.float .f32 (sumB x h want ws m2)) (.float .f32 (sizeB (fsub (pasB wd gp x sh h) want)))).run Try.prog w = .ok (.float .f32 (sumB x h want ws (m2 + 1))) w := fun T w => run_float_arith w .add T .f32 _ _ _ hs3
              have y1 : (m2 : Int) < (n' : Int) := by omega
              have y2 : (0 : Int) ≤ (m2 : Int) := by omega
              clear hx2 hs1 hs2 hs3 hok hc
              generalize sizeB (fsub (pasB wd gp x sh h) want) = dd at *
              generalize fsub (pasB wd gp x sh h) want = df at *
              generalize pasB wd gp x sh h = p at *
              go_upto_region 20 with (first | (refine wpList_load_cells rfl 49 _ rfl g (o + m2 * 5) 5 rfl _ Try.underlying49 rfl info_blind (blindC n wd gp t sh) rfl HC.out ?_) | (refine wpList_store_part rfl 49 _ _ rfl _ 0 (blindC n wd gp t sh) rfl rfl 49 _ (heap_alloc_new _ _) (by kernel_rfl) (Nat.le_refl _) (bd_one (n, wd, gp, t, sh)) ?_; rw [laid_allb _ _ (by rfl)]))
              refine abs_world (fun V => Below w.heap.size w V ∧ V.heap[wr.heap.size]? = some (.cells (blindC n wd gp t sh) 49 (0, 0))) ⟨below_setRow (hb.alloc hb.size _) hb.size _, setRow_heap _ _ _ _ _ _ (heap_alloc_new _ _)⟩ ?_
              rintro V ⟨hbv, hrow⟩
              have RB := Lib.hid hrow
              have htb := hb.size
              obtain ⟨k0, k1, k2, k3, k4⟩ := blind_cells hrow
              have kf := frozen_of_row V wr.heap.size 3 _ _ hrow
              generalize wr.heap.size = tb at *
              clear hrow hb HC
              go_upto_region 21 with (fail)
              refine abs_world (fun U => Below w.heap.size w U ∧ U.heap[tb]? = some (.cells (blindC n wd gp x sh) 49 (0, 0))) ⟨hbv.setCell (p := ⟨tb, 3, none⟩) htb _, by rw [heap_setCell_same _ _ _ _ _ _ RB.out]; rfl⟩ ?_
              clear hbv RB k0 k1 k2 k3 k4 kf
              rintro U ⟨hb, d2⟩
              have HD2 := Lib.hid d2
              clear d2
              go_wp2_with (first | (go_at_call 73; refine (HX.out _ _ HD2.out).mono ?_; rintro e W3 ⟨rfl, hb3⟩; replace hb := hb.trans (hb3.mono hb.size); clear hb3 HD2) | (go_at_call 74; refine (HZ2.out _).mono ?_; rintro e w1 ⟨rfl, rfl⟩))
              go_roundw
              case rel => exact ⟨m2 + 1, by omega, by go_num, rfl, hb⟩
              case measure => simp [intOf]; omega
            · obtain rfl : m2 = n' := by omega
              rw [HDk.out]
              clear hlt2 hm2
              generalize d k = dk at *
              generalize sM d k = ls at *
              generalize bM d k = bs at *
              rcases HSt.out with ⟨o1, e1, e2⟩ | ⟨o1 | o1, ⟨o2, e1, e2⟩ | ⟨o2 | o2, e1, e2⟩⟩
              · go_wp2
                go_roundw
                case rel => exact ⟨k + 1, x + 1, by omega, by have := HXX.out; omega, by go_num, by rw [e1, HXX.out], by rw [e2], hb⟩
                case measure => simp [intOf]; omega
              · go_wp2
                go_roundw
                case rel => exact ⟨k + 1, x + 1, by omega, by have := HXX.out; omega, by go_num, by rw [e1, HXX.out], by rw [e2], hb⟩
                case measure => simp [intOf]; omega
              · go_wp2
                go_roundw
                case rel => exact ⟨k + 1, x + 1, by omega, by have := HXX.out; omega, by go_num, by rw [e1], by rw [e2], hb⟩
                case measure => simp [intOf]; omega
              · go_wp2
                go_roundw
                case rel => exact ⟨k + 1, x + 1, by omega, by have := HXX.out; omega, by go_num, by rw [e1], by rw [e2], hb⟩
                case measure => simp [intOf]; omega
              · go_wp2
                go_roundw
                case rel => exact ⟨k + 1, x + 1, by omega, by have := HXX.out; omega, by go_num, by rw [e1, HXX.out], by rw [e2], hb⟩
                case measure => simp [intOf]; omega
              · go_wp2
                go_roundw
                case rel => exact ⟨k + 1, x + 1, by omega, by have := HXX.out; omega, by go_num, by rw [e1], by rw [e2], hb⟩
                case measure => simp [intOf]; omega
              · go_wp2
                go_roundw
                case rel => exact ⟨k + 1, x + 1, by omega, by have := HXX.out; omega, by go_num, by rw [e1], by rw [e2], hb⟩
                case measure => simp [intOf]; omega
        · obtain rfl : k = 129 := by omega
          obtain rfl : x = 65 := by omega
          obtain ⟨hB1, hB2⟩ := HB.out
          rw [hB1, hB2]
          clear hB1 hB2
          go_wp2
          go_ret3
          exact ⟨rfl, hb⟩

end Go.Proofs.Ytelgcggcmjdhjaa
