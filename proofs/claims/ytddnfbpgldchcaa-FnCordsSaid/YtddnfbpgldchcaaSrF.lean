/-
  What the laws draw from their bytes: blinds, parts, numbers.
-/
import Derived.Test.YtddnfbpgldchcaaSrE
namespace Go.Proofs.Ytddnfbpgldchcaa
open Go.RowKit

attribute [local go_sem] run_store_float

theorem bytes_below {V V' : World} {B B' n : Nat} {v : Value} (h : BytesAt V B v n) (hb : Below V.heap.size V V') (hB : B ≤ B') : BytesAt V' B' v n := by
  obtain ⟨a, cap, e1, e2, e3, e4⟩ := h
  refine ⟨a, cap, e1, e2, e3, fun i hi => ?_⟩
  obtain ⟨g, o, z, e, hgb, z0, z1, hc⟩ := e4 i hi
  exact ⟨g, o, z, e, by omega, z0, z1, (hb.cell (p := ⟨g, o + i, none⟩) (World.block_lt_of_cell? _ _ hc)).trans hc⟩

theorem below_grown {A B C : World} {b : Nat} (h : Below A.heap.size A B) (k : B.grownBy C (some b)) (hb : A.heap.size ≤ b) : Below A.heap.size A C :=
  h.grown k h.size (fun j e => by injection e with e; omega)

set_option maxRecDepth 100000 in
set_option maxHeartbeats 2000000 in
theorem A2Part_any (n cap : Nat) (a : Option Addr) (V : World) (h : BytesAt V V.heap.size (.slice a n cap) n) :
    Calls Try.prog 7 #[.slice a n cap] V fun e V' => (∃ z : Nat, e = .returned (.float .f32 z) ∧ z ≤ 1065353216) ∧ Below V.heap.size V V' := by
  have HFR := Lib.hid (fun V h => l00From_any n cap a V h)
  have HT := Lib.hid (fun b V h => l01Tone_any b n 0 (.slice a n cap) (by decide) V h)
  have HBY := Lib.hid h
  clear h
  go_enter Try.func7, Try.ntmps7
  go_wp2_with (first | (go_at_call 22; refine (HFR.out _ HBY.out).mono ?_; rintro e W1 ⟨rfl, hs1, hb1⟩) | (go_at_call 24; refine (HT.out _ _ hs1).mono ?_; rintro e W2 ⟨⟨z, rfl, hz⟩, hs2, hg2⟩))
  go_ret
  exact ⟨⟨_, rfl, hz⟩, below_grown hb1 hg2 (Nat.le_refl _)⟩

set_option maxRecDepth 100000 in
set_option maxHeartbeats 2000000 in
theorem a2Long_any (n cap n' cap' : Nat) (a a' : Option Addr) (V : World) :
    Calls Try.prog 5 #[.slice a n cap, .slice a' n' cap'] V fun e V' => e = .returned (.bool (decide (3000 < n) || decide (3000 < n'))) ∧ V = V' := by
  by_cases h : (n : Int) > 3000
  · have e1 : decide (3000 < n) = true := decide_eq_true (by omega)
    have z1 : decide ((n : Int) > 3000) = true := decide_eq_true h
    rw [e1]
    go_enter Try.func5, Try.ntmps5
    go_wp2
    go_ret
    exact ⟨rfl, rfl⟩
  · have e1 : decide (3000 < n) = false := decide_eq_false (by omega)
    have z1 : decide ((n : Int) > 3000) = false := decide_eq_false h
    rw [e1, Bool.false_or]
    by_cases h2 : (n' : Int) > 3000
    · have e2 : decide (3000 < n') = true := decide_eq_true (by omega)
      have z2 : decide ((n' : Int) > 3000) = true := decide_eq_true h2
      rw [e2]
      go_enter Try.func5, Try.ntmps5
      go_wp2
      go_ret
      exact ⟨rfl, rfl⟩
    · have e2 : decide (3000 < n') = false := decide_eq_false (by omega)
      have z2 : decide ((n' : Int) > 3000) = false := decide_eq_false h2
      rw [e2]
      go_enter Try.func5, Try.ntmps5
      go_wp2
      go_ret
      exact ⟨rfl, rfl⟩

end Go.Proofs.Ytddnfbpgldchcaa
