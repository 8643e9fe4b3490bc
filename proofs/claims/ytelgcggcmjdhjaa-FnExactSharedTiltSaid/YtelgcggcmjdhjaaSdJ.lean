/-
  The tilt of several blinds that is nearest to what is wanted: the program.
-/
import Derived.Test.YtelgcggcmjdhjaaSdI
namespace Go.Proofs.Ytelgcggcmjdhjaa
open Go.ChangeShapes Go.WideShapes Go.ChangeAt Go.RowKit Go.Deep Go.Joins

attribute [local go_sem] run_store_f

theorem isPart_iS (x : Nat) (fine : Bool) (hi : partB x = fine) (w : World) : Calls Try.prog 53 #[.float .f32 x] w fun e w' => e = .returned (.bool fine) ∧ w = w' := by subst hi; exact isPart_any x w
theorem l01Part_iS (x : Nat) (fine : Bool) (hi : partB x = fine) (w : World) : Calls Try.prog 83 #[.float .f32 x] w fun e w' => e = .returned (.bool fine) ∧ w = w' := by subst hi; exact l01Part_any x w
set_option maxRecDepth 100000 in
set_option maxHeartbeats 4000000 in
theorem iSD_a (sv : Value) (ws : List Bd) (hwf : ∀ x ∈ ws, BdWf x) (h : Int) (want : Nat) (w : World) (hz : BdsAt w sv ws) (ha : ws.all fitB = false) :
    Calls Try.prog 48 #[sv, .int .i64 h, .float .f32 want] w fun e w' => e = .returned (.tuple #[.int .i64 0, .float .f32 0, .int .i64 1]) ∧ Below w.heap.size w w' := by
  have HZ := Lib.hid hz
  have HF := Lib.hid (fun W hz => containsBd_any sv ws hwf W hz)
  rw [ha] at HF
  obtain ⟨a, cap, rfl, hl1, hl2, _⟩ := hz
  unfold maxLen at hl2
  generalize hn : ws.length = n' at *
  clear hn ha hwf
  go_enter Try.func48, Try.ntmps48
  go_upto_region 1 with (fail)
  refine abs_world (fun W => W.heap[w.heap.size]? = some (.cells #[.slice a n' cap] 72 (0, 0)) ∧ W.heap[w.heap.size + 1]? = some (.cells #[.int .i64 h] 2 (0, 0)) ∧ W.heap[w.heap.size + 1 + 1]? = some (.cells #[.float .f32 want] 22 (0, 0)) ∧ Below w.heap.size w W) (three_at w (.cells #[.slice a n' cap] 72) (.cells #[.int .i64 h] 2) (.cells #[.float .f32 want] 22)) ?_
  rintro W ⟨d1, d2, d3, hb⟩
  generalize w.heap.size + 1 + 1 = g3 at *
  generalize w.heap.size + 1 = g2 at *
  have C1 := Lib.hid d1
  have C2 := Lib.hid d2
  have C3 := Lib.hid d3
  have k1 : W.cell? ⟨w.heap.size, 0, none⟩ = some (.slice a n' cap) := by rw [cell_of_row W _ _ _ _ _ d1]; rfl
  have k2 : W.cell? ⟨g2, 0, none⟩ = some (.int .i64 h) := by rw [cell_of_row W _ _ _ _ _ d2]; rfl
  have k3 : W.cell? ⟨g3, 0, none⟩ = some (.float .f32 want) := by rw [cell_of_row W _ _ _ _ _ d3]; rfl
  clear d1 d2 d3
  go_wp2_with (go_at_call 86; refine (HF.out _ (bds_below HZ.out hb)).mono ?_; rintro e W1 ⟨rfl, hb1⟩; replace k1 := cell_belowB hb1 k1; replace k2 := cell_belowB hb1 k2; replace k3 := cell_belowB hb1 k3; replace C1 := Lib.hid (below_row hb1 C1.out); replace C2 := Lib.hid (below_row hb1 C2.out); replace C3 := Lib.hid (below_row hb1 C3.out); replace hb := hb.trans (hb1.mono hb.size); clear hb1)
  go_ret3
  exact ⟨rfl, hb⟩
set_option maxRecDepth 100000 in
set_option maxHeartbeats 4000000 in
theorem iSD_s (sv : Value) (ws : List Bd) (hwf : ∀ x ∈ ws, BdWf x) (h : Int) (want : Nat) (w : World) (hz : BdsAt w sv ws) (ha : ws.all fitB = true) (hl : (ws.length : Int) < 1) :
    Calls Try.prog 48 #[sv, .int .i64 h, .float .f32 want] w fun e w' => e = .returned (.tuple #[.int .i64 0, .float .f32 0, .int .i64 3]) ∧ Below w.heap.size w w' := by
  have HZ := Lib.hid hz
  have HF := Lib.hid (fun W hz => containsBd_any sv ws hwf W hz)
  rw [ha] at HF
  obtain ⟨a, cap, rfl, hl1, hl2, _⟩ := hz
  unfold maxLen at hl2
  generalize hn : ws.length = n' at *
  clear hn ha hwf
  go_enter Try.func48, Try.ntmps48
  go_upto_region 1 with (fail)
  refine abs_world (fun W => W.heap[w.heap.size]? = some (.cells #[.slice a n' cap] 72 (0, 0)) ∧ W.heap[w.heap.size + 1]? = some (.cells #[.int .i64 h] 2 (0, 0)) ∧ W.heap[w.heap.size + 1 + 1]? = some (.cells #[.float .f32 want] 22 (0, 0)) ∧ Below w.heap.size w W) (three_at w (.cells #[.slice a n' cap] 72) (.cells #[.int .i64 h] 2) (.cells #[.float .f32 want] 22)) ?_
  rintro W ⟨d1, d2, d3, hb⟩
  generalize w.heap.size + 1 + 1 = g3 at *
  generalize w.heap.size + 1 = g2 at *
  have C1 := Lib.hid d1
  have C2 := Lib.hid d2
  have C3 := Lib.hid d3
  have k1 : W.cell? ⟨w.heap.size, 0, none⟩ = some (.slice a n' cap) := by rw [cell_of_row W _ _ _ _ _ d1]; rfl
  have k2 : W.cell? ⟨g2, 0, none⟩ = some (.int .i64 h) := by rw [cell_of_row W _ _ _ _ _ d2]; rfl
  have k3 : W.cell? ⟨g3, 0, none⟩ = some (.float .f32 want) := by rw [cell_of_row W _ _ _ _ _ d3]; rfl
  clear d1 d2 d3
  go_wp2_with (go_at_call 86; refine (HF.out _ (bds_below HZ.out hb)).mono ?_; rintro e W1 ⟨rfl, hb1⟩; replace k1 := cell_belowB hb1 k1; replace k2 := cell_belowB hb1 k2; replace k3 := cell_belowB hb1 k3; replace C1 := Lib.hid (below_row hb1 C1.out); replace C2 := Lib.hid (below_row hb1 C2.out); replace C3 := Lib.hid (below_row hb1 C3.out); replace hb := hb.trans (hb1.mono hb.size); clear hb1)
  go_ret3
  exact ⟨rfl, hb⟩
set_option maxRecDepth 100000 in
set_option maxHeartbeats 4000000 in
theorem iSD_l (sv : Value) (ws : List Bd) (hwf : ∀ x ∈ ws, BdWf x) (h : Int) (want : Nat) (w : World) (hz : BdsAt w sv ws) (ha : ws.all fitB = true) (hl : 8 < (ws.length : Int)) :
    Calls Try.prog 48 #[sv, .int .i64 h, .float .f32 want] w fun e w' => e = .returned (.tuple #[.int .i64 0, .float .f32 0, .int .i64 3]) ∧ Below w.heap.size w w' := by
  have HZ := Lib.hid hz
  have HF := Lib.hid (fun W hz => containsBd_any sv ws hwf W hz)
  rw [ha] at HF
  obtain ⟨a, cap, rfl, hl1, hl2, _⟩ := hz
  unfold maxLen at hl2
  generalize hn : ws.length = n' at *
  have hl' : (1 : Int) ≤ (n' : Int) := by omega
  clear hn ha hwf
  go_enter Try.func48, Try.ntmps48
  go_upto_region 1 with (fail)
  refine abs_world (fun W => W.heap[w.heap.size]? = some (.cells #[.slice a n' cap] 72 (0, 0)) ∧ W.heap[w.heap.size + 1]? = some (.cells #[.int .i64 h] 2 (0, 0)) ∧ W.heap[w.heap.size + 1 + 1]? = some (.cells #[.float .f32 want] 22 (0, 0)) ∧ Below w.heap.size w W) (three_at w (.cells #[.slice a n' cap] 72) (.cells #[.int .i64 h] 2) (.cells #[.float .f32 want] 22)) ?_
  rintro W ⟨d1, d2, d3, hb⟩
  generalize w.heap.size + 1 + 1 = g3 at *
  generalize w.heap.size + 1 = g2 at *
  have C1 := Lib.hid d1
  have C2 := Lib.hid d2
  have C3 := Lib.hid d3
  have k1 : W.cell? ⟨w.heap.size, 0, none⟩ = some (.slice a n' cap) := by rw [cell_of_row W _ _ _ _ _ d1]; rfl
  have k2 : W.cell? ⟨g2, 0, none⟩ = some (.int .i64 h) := by rw [cell_of_row W _ _ _ _ _ d2]; rfl
  have k3 : W.cell? ⟨g3, 0, none⟩ = some (.float .f32 want) := by rw [cell_of_row W _ _ _ _ _ d3]; rfl
  clear d1 d2 d3
  go_wp2_with (go_at_call 86; refine (HF.out _ (bds_below HZ.out hb)).mono ?_; rintro e W1 ⟨rfl, hb1⟩; replace k1 := cell_belowB hb1 k1; replace k2 := cell_belowB hb1 k2; replace k3 := cell_belowB hb1 k3; replace C1 := Lib.hid (below_row hb1 C1.out); replace C2 := Lib.hid (below_row hb1 C2.out); replace C3 := Lib.hid (below_row hb1 C3.out); replace hb := hb.trans (hb1.mono hb.size); clear hb1)
  go_ret3
  exact ⟨rfl, hb⟩
set_option maxRecDepth 100000 in
set_option maxHeartbeats 4000000 in
theorem iSD_h (sv : Value) (ws : List Bd) (hwf : ∀ x ∈ ws, BdWf x) (h : Int) (want : Nat) (w : World) (hz : BdsAt w sv ws) (ha : ws.all fitB = true) (hl : inI 1 8 (ws.length : Int) = true) (hi : inI 1 64 h = false) :
    Calls Try.prog 48 #[sv, .int .i64 h, .float .f32 want] w fun e w' => e = .returned (.tuple #[.int .i64 0, .float .f32 0, .int .i64 2]) ∧ Below w.heap.size w w' := by
  have HZ := Lib.hid hz
  have HF := Lib.hid (fun W hz => containsBd_any sv ws hwf W hz)
  rw [ha] at HF
  obtain ⟨a, cap, rfl, hl1, hl2, _⟩ := hz
  unfold maxLen at hl2
  generalize hn : ws.length = n' at *
  obtain ⟨l1, l8⟩ := inI_get hl
  clear hl
  have Hi := Lib.hid hi
  clear hi
  clear hn ha hwf
  go_enter Try.func48, Try.ntmps48
  go_upto_region 1 with (fail)
  refine abs_world (fun W => W.heap[w.heap.size]? = some (.cells #[.slice a n' cap] 72 (0, 0)) ∧ W.heap[w.heap.size + 1]? = some (.cells #[.int .i64 h] 2 (0, 0)) ∧ W.heap[w.heap.size + 1 + 1]? = some (.cells #[.float .f32 want] 22 (0, 0)) ∧ Below w.heap.size w W) (three_at w (.cells #[.slice a n' cap] 72) (.cells #[.int .i64 h] 2) (.cells #[.float .f32 want] 22)) ?_
  rintro W ⟨d1, d2, d3, hb⟩
  generalize w.heap.size + 1 + 1 = g3 at *
  generalize w.heap.size + 1 = g2 at *
  have C1 := Lib.hid d1
  have C2 := Lib.hid d2
  have C3 := Lib.hid d3
  have k1 : W.cell? ⟨w.heap.size, 0, none⟩ = some (.slice a n' cap) := by rw [cell_of_row W _ _ _ _ _ d1]; rfl
  have k2 : W.cell? ⟨g2, 0, none⟩ = some (.int .i64 h) := by rw [cell_of_row W _ _ _ _ _ d2]; rfl
  have k3 : W.cell? ⟨g3, 0, none⟩ = some (.float .f32 want) := by rw [cell_of_row W _ _ _ _ _ d3]; rfl
  clear d1 d2 d3
  go_wp2_with (first | (go_at_call 86; refine (HF.out _ (bds_below HZ.out hb)).mono ?_; rintro e W1 ⟨rfl, hb1⟩; replace k1 := cell_belowB hb1 k1; replace k2 := cell_belowB hb1 k2; replace k3 := cell_belowB hb1 k3; replace C1 := Lib.hid (below_row hb1 C1.out); replace C2 := Lib.hid (below_row hb1 C2.out); replace C3 := Lib.hid (below_row hb1 C3.out); replace hb := hb.trans (hb1.mono hb.size); clear hb1) | (go_at_call 58; refine (isHeight_is h false Hi.out _).mono ?_; rintro e w' ⟨rfl, rfl⟩))
  go_ret3
  exact ⟨rfl, hb⟩
set_option maxRecDepth 100000 in
set_option maxHeartbeats 4000000 in
theorem iSD_p (sv : Value) (ws : List Bd) (hwf : ∀ x ∈ ws, BdWf x) (h : Int) (want : Nat) (w : World) (hz : BdsAt w sv ws) (ha : ws.all fitB = true) (hl : inI 1 8 (ws.length : Int) = true) (hi : inI 1 64 h = true) (hp : partB want = false) :
    Calls Try.prog 48 #[sv, .int .i64 h, .float .f32 want] w fun e w' => e = .returned (.tuple #[.int .i64 0, .float .f32 0, .int .i64 2]) ∧ Below w.heap.size w w' := by
  have HZ := Lib.hid hz
  have HF := Lib.hid (fun W hz => containsBd_any sv ws hwf W hz)
  rw [ha] at HF
  obtain ⟨a, cap, rfl, hl1, hl2, _⟩ := hz
  unfold maxLen at hl2
  generalize hn : ws.length = n' at *
  obtain ⟨l1, l8⟩ := inI_get hl
  clear hl
  have Hi := Lib.hid hi
  have Hp := Lib.hid hp
  clear hi hp
  clear hn ha hwf
  go_enter Try.func48, Try.ntmps48
  go_upto_region 1 with (fail)
  refine abs_world (fun W => W.heap[w.heap.size]? = some (.cells #[.slice a n' cap] 72 (0, 0)) ∧ W.heap[w.heap.size + 1]? = some (.cells #[.int .i64 h] 2 (0, 0)) ∧ W.heap[w.heap.size + 1 + 1]? = some (.cells #[.float .f32 want] 22 (0, 0)) ∧ Below w.heap.size w W) (three_at w (.cells #[.slice a n' cap] 72) (.cells #[.int .i64 h] 2) (.cells #[.float .f32 want] 22)) ?_
  rintro W ⟨d1, d2, d3, hb⟩
  generalize w.heap.size + 1 + 1 = g3 at *
  generalize w.heap.size + 1 = g2 at *
  have C1 := Lib.hid d1
  have C2 := Lib.hid d2
  have C3 := Lib.hid d3
  have k1 : W.cell? ⟨w.heap.size, 0, none⟩ = some (.slice a n' cap) := by rw [cell_of_row W _ _ _ _ _ d1]; rfl
  have k2 : W.cell? ⟨g2, 0, none⟩ = some (.int .i64 h) := by rw [cell_of_row W _ _ _ _ _ d2]; rfl
  have k3 : W.cell? ⟨g3, 0, none⟩ = some (.float .f32 want) := by rw [cell_of_row W _ _ _ _ _ d3]; rfl
  clear d1 d2 d3
  go_wp2_with (first | (go_at_call 86; refine (HF.out _ (bds_below HZ.out hb)).mono ?_; rintro e W1 ⟨rfl, hb1⟩; replace k1 := cell_belowB hb1 k1; replace k2 := cell_belowB hb1 k2; replace k3 := cell_belowB hb1 k3; replace C1 := Lib.hid (below_row hb1 C1.out); replace C2 := Lib.hid (below_row hb1 C2.out); replace C3 := Lib.hid (below_row hb1 C3.out); replace hb := hb.trans (hb1.mono hb.size); clear hb1) | (go_at_call 58; refine (isHeight_is h true Hi.out _).mono ?_; rintro e w' ⟨rfl, rfl⟩) | (go_at_call 53; refine (isPart_iS want false Hp.out _).mono ?_; rintro e w' ⟨rfl, rfl⟩))
  go_ret3
  exact ⟨rfl, hb⟩
theorem iSD_no (sv : Value) (ws : List Bd) (hwf : ∀ x ∈ ws, BdWf x) (h : Int) (want : Nat) (w : World) (hz : BdsAt w sv ws) (hc : codeS ws h want ≠ 0) :
    Calls Try.prog 48 #[sv, .int .i64 h, .float .f32 want] w fun e w' => e = .returned (.tuple #[.int .i64 0, .float .f32 0, .int .i64 (codeS ws h want)]) ∧ Below w.heap.size w w' := by
  unfold codeS at hc ⊢
  cases ha : ws.all fitB with
  | false => rw [if_pos rfl]; exact iSD_a sv ws hwf h want w hz ha
  | true =>
    rw [ha] at hc
    rw [if_neg (by decide)] at hc ⊢
    cases hl : inI 1 8 (ws.length : Int) with
    | false =>
      rw [if_pos rfl]
      by_cases h1 : (ws.length : Int) < 1
      · exact iSD_s sv ws hwf h want w hz ha h1
      · refine iSD_l sv ws hwf h want w hz ha ?_
        have hl' := hl
        unfold inI at hl'
        simp at hl'
        omega
    | true =>
      rw [hl] at hc
      rw [if_neg (by decide)] at hc ⊢
      cases hi : inI 1 64 h with
      | false => rw [if_pos (by rfl)]; exact iSD_h sv ws hwf h want w hz ha hl hi
      | true =>
        cases hp : partB want with
        | false => rw [if_pos (by rfl)]; exact iSD_p sv ws hwf h want w hz ha hl hi hp
        | true => rw [hi, hp] at hc; exact absurd rfl hc

set_option maxRecDepth 100000 in
set_option maxHeartbeats 4000000 in
theorem iSD_yes (sv : Value) (ws : List Bd) (hwf : ∀ x ∈ ws, BdWf x) (h : Int) (want : Nat) (hww : (Lit.float .f32 want).wf = true) (w : World) (hz : BdsAt w sv ws) (hc : codeS ws h want = 0) (m r : Nat) (hm : firstMin (dS h want ws) 128 = m) (hr : dS h want ws m = r) :
    Calls Try.prog 48 #[sv, .int .i64 h, .float .f32 want] w fun e w' => e = .returned (.tuple #[.int .i64 ((m : Int) - 64), .float .f32 r, .int .i64 0]) ∧ Below w.heap.size w w' := by
  obtain ⟨ha, hl, hi, hp⟩ := codeS_ok hc
  obtain ⟨h0, h1⟩ := inI_get hi
  obtain ⟨l1, l8⟩ := inI_get hl
  have HZ := Lib.hid hz
  have HF := Lib.hid (fun W hz => containsBd_any sv ws hwf W hz)
  rw [ha] at HF
  have OK := all_ok hwf ha
  have WP := part_get hww hp
  have l12 : ws.length ≤ 12 := by omega
  have HT : Hid (∀ (g1 g2 g3 : Nat) (W : World), W.heap[g1]? = some (.cells #[sv] 72 (0, 0)) → W.heap[g2]? = some (.cells #[.int .i64 h] 2 (0, 0)) → W.heap[g3]? = some (.cells #[.float .f32 want] 22 (0, 0)) → BdsAt W sv ws →
      Calls Try.prog 76 #[.func (.func 87) #[] #[.pointer (some ⟨g1, 0, none⟩), .pointer (some ⟨g2, 0, none⟩), .pointer (some ⟨g3, 0, none⟩)]] W fun e w' => e = .returned (.tuple #[.int .i64 ((m : Int) - 64), .float .f32 r]) ∧ Below W.heap.size W w') := by
    intro g1 g2 g3 W c1 c2 c3 hz
    have hL := leastTilt_sd g1 g2 g3 (dS h want ws) (fun k _ => .inl (dS_lt h OK WP l12 k)) W (fun k hk x hx V hb => sd_call h h0 h1 want WP sv ws l12 OK k hk x hx _ rfl g1 g2 g3 V (below_row hb c1) (below_row hb c2) (below_row hb c3) (bds_below hz hb))
    rw [hm, hr] at hL
    exact hL
  have Hi := Lib.hid hi
  have Hp := Lib.hid hp
  clear OK WP h0 h1 hl ha hi hp hc hm hr hwf hww l12
  obtain ⟨a, cap, rfl, hl1, hl2, _⟩ := hz
  unfold maxLen at hl2
  generalize hn : ws.length = n' at *
  clear hn
  go_enter Try.func48, Try.ntmps48
  go_upto_region 1 with (fail)
  refine abs_world (fun W => W.heap[w.heap.size]? = some (.cells #[.slice a n' cap] 72 (0, 0)) ∧ W.heap[w.heap.size + 1]? = some (.cells #[.int .i64 h] 2 (0, 0)) ∧ W.heap[w.heap.size + 1 + 1]? = some (.cells #[.float .f32 want] 22 (0, 0)) ∧ Below w.heap.size w W) (three_at w (.cells #[.slice a n' cap] 72) (.cells #[.int .i64 h] 2) (.cells #[.float .f32 want] 22)) ?_
  rintro W ⟨d1, d2, d3, hb⟩
  generalize w.heap.size + 1 + 1 = g3 at *
  generalize w.heap.size + 1 = g2 at *
  have C1 := Lib.hid d1
  have C2 := Lib.hid d2
  have C3 := Lib.hid d3
  have k1 : W.cell? ⟨w.heap.size, 0, none⟩ = some (.slice a n' cap) := by rw [cell_of_row W _ _ _ _ _ d1]; rfl
  have k2 : W.cell? ⟨g2, 0, none⟩ = some (.int .i64 h) := by rw [cell_of_row W _ _ _ _ _ d2]; rfl
  have k3 : W.cell? ⟨g3, 0, none⟩ = some (.float .f32 want) := by rw [cell_of_row W _ _ _ _ _ d3]; rfl
  clear d1 d2 d3
  go_wp2_with (first | (go_at_call 86; refine (HF.out _ (bds_below HZ.out hb)).mono ?_; rintro e W1 ⟨rfl, hb1⟩; replace k1 := cell_belowB hb1 k1; replace k2 := cell_belowB hb1 k2; replace k3 := cell_belowB hb1 k3; replace C1 := Lib.hid (below_row hb1 C1.out); replace C2 := Lib.hid (below_row hb1 C2.out); replace C3 := Lib.hid (below_row hb1 C3.out); replace hb := hb.trans (hb1.mono hb.size); clear hb1) | (go_at_call 58; refine (isHeight_is h true Hi.out _).mono ?_; rintro e w' ⟨rfl, rfl⟩) | (go_at_call 53; refine (isPart_iS want true Hp.out _).mono ?_; rintro e w' ⟨rfl, rfl⟩) | (go_at_call 76; refine (HT.out _ _ _ _ C1.out C2.out C3.out (bds_below HZ.out hb)).mono ?_; rintro e W3 ⟨rfl, hb3⟩; replace hb := hb.trans (hb3.mono hb.size); clear hb3))
  go_ret3
  exact ⟨rfl, hb⟩

end Go.Proofs.Ytelgcggcmjdhjaa
