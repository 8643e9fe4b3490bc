/-
  A ballot's own comparison, the swap that reflectlite hands out, and the insertion sort over both.

-/
import Derived.Test.YtmbgmpeiicjlaaaMvA
import Derived.Lib.Hide
import Derived.Shelf.GgSortFunc.Insertion
import Derived.Shelf.GgSortFunc.Small
import Derived.Shelf.GgSortMore.Stable

namespace Go.Proofs.Ytmbgmpeiicjlaaa

open Go.RowKit Go.Lib Go.Sort Go.Shelf

def mvLt (x y : Nat) : Bool := FloatKind.f32.format.order x y == some .lt

abbrev mvE : Nat → Value := Value.float .f32

set_option maxRecDepth 100000 in
set_option maxHeartbeats 1000000 in
theorem mv_less (g n c i j x y : Nat) (hi : i < n) (hj : j < n) (W : World) (hx : W.cell? ⟨g, 0 + i, none⟩ = some (.float .f32 x)) (hy : W.cell? ⟨g, 0 + j, none⟩ = some (.float .f32 y)) :
    Calls Try.prog 13 #[.slice (some ⟨g, 0, none⟩) n c, .int .i64 (i : Int), .int .i64 (j : Int)] W fun e W' => e = .returned (.bool (mvLt x y)) ∧ ∃ q, W' = W.drewN q := by
  have z1 : (i : Int) < (n : Int) := by omega
  have z2 : (j : Int) < (n : Int) := by omega
  rw [Nat.zero_add] at hx hy
  have rr : ∀ T w, (binOp .lss T (.float .f32 x) (.float .f32 y)).run Try.prog w = .ok (.bool (mvLt x y)) w := fun T w => rfl
  go_enter Try.func13, Try.ntmps13
  go_wp2
  go_quiet (fail)
  go_wp2
  go_ret
  exact ⟨rfl, nq, rfl⟩

set_option maxRecDepth 100000 in
theorem mv_swaps (g n c : Nat) : SwapSwaps Try.prog 30 #[.slice (some ⟨g, 0, none⟩) n c, .pointer (some ⟨Try.prog.globals.size, 23, none⟩)] mvE g 0 n := by
  obtain ⟨ie, hie, hs⟩ : ∃ ie, Try.prog.info? 23 = some ie ∧ ie.size = 1 := ⟨(Try.prog.info? 23).get!, by kernel_rfl, by kernel_rfl⟩
  exact swapSwaps_of_literal true 30 (fun args W => run_callFunc_extern Try.func30 (by kernel_rfl) (by kernel_rfl) (by kernel_rfl) (e := Extern.ReflectliteSwapper.swap true) (by kernel_rfl) args W) 23 ie hie hs (fun w => by kernel_rfl) mvE (fun _ => rfl) g 0 n c

set_option maxRecDepth 100000 in
set_option maxHeartbeats 8000000 in
theorem mv_ins (g c : Nat) (d : Array Nat) (sf : Nat) (sb : Array Value) (hsw : 2 ≤ d.size → SwapSwaps Try.prog sf sb mvE g 0 d.size) (w : World) (hH : Holds mvE w g 0 d) (hblk : g < w.heap.size) (h1 : 1 ≤ d.size) (h20 : d.size ≤ 20) :
    Calls Try.prog 34 #[.agg #[.func (.func 13) #[.slice (some ⟨g, 0, none⟩) d.size c] #[], .func (.func sf) #[] sb], .int .i64 0, .int .i64 (d.size : Int)] w fun e w' => e = .returned (.tuple #[]) ∧ ∃ q, w' = putRow mvE (Sort.ahead (w.alloc (.cells #[.func (.func 13) #[.slice (some ⟨g, 0, none⟩) d.size c] #[], .func (.func sf) #[] sb] 47)) q) g 0 (Sort.insertionSort mvLt d 0 d.size) := by
  have hH1 : Holds mvE (w.alloc (.cells #[.func (.func 13) #[.slice (some ⟨g, 0, none⟩) d.size c] #[], .func (.func sf) #[] sb] 47)) g 0 d := by rw [alloc_eq_grow]; exact holds_grow mvE w _ g 0 d hblk hH
  go_enter Try.func34, Try.ntmps34
  go_wp2
  go_loopw [6] (fun vi wr => ∃ (i q : Nat) (dk : Array Nat), vi = .int .i64 (i : Int) ∧ 1 ≤ i ∧ i ≤ d.size + 1 ∧ dk.size = d.size ∧ wr = putRow mvE (Sort.ahead (w.alloc (.cells #[.func (.func 13) #[.slice (some ⟨g, 0, none⟩) d.size c] #[], .func (.func sf) #[] sb] 47)) q) g 0 dk ∧ insOuter mvLt 0 d.size i dk = insOuter mvLt 0 d.size 1 d) (fun vi _ => d.size + 1 - (intOf vi).toNat)
  case atStart => exact ⟨1, 0, d, by go_num, Nat.le_refl _, by omega, rfl, (putRow_self _ _ _ _ _ hH1).symm, rfl⟩
  case round =>
    obtain ⟨i, q, dk, rfl, hi0, hib, hsk, hwr, hO⟩ := hrel
    have HO := Lib.hid hO
    clear hO
    by_cases hlt : i < d.size
    · have z0 : (i : Int) < (d.size : Int) := by omega
      go_wp2
      go_loopw [7] (fun vj wr2 => ∃ (j m : Nat) (dj : Array Nat), vj = .int .i64 (j : Int) ∧ j ≤ i ∧ dj.size = d.size ∧ wr2 = putRow mvE (Sort.ahead (w.alloc (.cells #[.func (.func 13) #[.slice (some ⟨g, 0, none⟩) d.size c] #[], .func (.func sf) #[] sb] 47)) m) g 0 dj ∧ insInner mvLt 0 j dj = insInner mvLt 0 i dk) (fun vj _ => (intOf vj).toNat)
      case atStart => exact ⟨i, q, dk, rfl, Nat.le_refl _, hsk, by first | exact hwr | rfl, rfl⟩
      case round =>
        obtain ⟨j, m, dj, rfl, hji, hsj, hw2, hI⟩ := hrel
        have hHw : ∀ q, Holds mvE (wr.drewN q) g 0 dj := fun q => by
          rw [hw2, putRow_drewN]; exact holds_putRow mvE _ g 0 d dj (holds_ahead _ _ _ _ _ _ hH1) hsj
        have cc : ∀ k v, (w.alloc (.cells #[.func (.func 13) #[.slice (some ⟨g, 0, none⟩) d.size c] #[], .func (.func sf) #[] sb] 47)).cell? ⟨w.heap.size, k, none⟩ = some v → ∀ q, (wr.drewN q).cell? ⟨w.heap.size, k, none⟩ = some v := fun k v h q => by
          rw [hw2, putRow_drewN, cell?_putRow_other mvE _ g 0 dj _ (Or.inl (by show w.heap.size ≠ g; omega))]; exact h
        have c0 := cc 0 (.func (.func 13) #[.slice (some ⟨g, 0, none⟩) d.size c] #[]) (by simp)
        have c1 := cc 1 (.func (.func sf) #[] sb) (by simp)
        have c0' : wr.cell? ⟨w.heap.size, 0, none⟩ = some (.func (.func 13) #[.slice (some ⟨g, 0, none⟩) d.size c] #[]) := c0 0
        have HW := Lib.hid hw2
        have HI := Lib.hid hI
        clear hw2 hI cc
        by_cases hja : 0 < j
        · have z1 : (0 : Int) < (j : Int) := by omega
          have hl := mv_less g d.size c j (j - 1) (dj[j]!) (dj[j - 1]!) (by omega) (by omega) wr (hHw 0 j (by omega)).1 (hHw 0 (j - 1) (by omega)).1
          rw [show (((j - 1 : Nat) : Int)) = (j : Int) - 1 by omega] at hl
          have HL := Lib.hid hl
          have hwj : IntKind.i64.wrap ((j : Int) - 1) = (j : Int) - 1 := by rw [IntWalk.i64_in _ (by omega)]
          clear hl
          cases hlv : mvLt dj[j]! dj[j - 1]! with
          | true =>
            rw [hlv] at HL
            go_wp2_with (go_at_call 13; refine HL.out.mono ?_; rintro e w' ⟨rfl, q', rfl⟩)
            have hs := hsw (by omega) (wr.drewN q') dj (hHw q') hsj j (j - 1) (by omega) (by omega)
            rw [show (((j - 1 : Nat) : Int)) = (j : Int) - 1 by omega] at hs
            rw [hs, Oper.upon_value]
            go_wp2
            go_roundw
            case rel =>
              refine ⟨j - 1, m + q', swp dj j (j - 1), by congr 1; omega, by omega, by rw [size_swp]; exact hsj, ?_, ?_⟩
              · rw [HW.out]
                have := swap_worldA (enc := mvE) (w.alloc (.cells #[.func (.func 13) #[.slice (some ⟨g, 0, none⟩) d.size c] #[], .func (.func sf) #[] sb] 47)) m q' g 0 dj j (j - 1) (by omega) (by omega)
                rw [Nat.zero_add, Nat.zero_add] at this
                exact this
              · rw [← HI.out, insInner_go mvLt 0 j dj hja hlv]
            case measure => simp [intOf]; omega
          | false =>
            rw [hlv] at HL
            go_wp2_with (go_at_call 13; refine HL.out.mono ?_; rintro e w' ⟨rfl, q', rfl⟩)
            go_roundw
            case rel => exact ⟨i + 1, m + q', dj, by go_num, by omega, by omega, hsj, by rw [HW.out]; exact putRow_drewN _ _ _ _ _ _ _, by rw [← HO.out, insOuter_go mvLt 0 d.size i dk hlt, ← HI.out, insInner_stop mvLt 0 j dj (Or.inr hlv)]⟩
            case measure => simp [intOf]; omega
        · obtain rfl : j = 0 := by omega
          go_wp2
          go_roundw
          case rel => exact ⟨i + 1, m, dj, by go_num, by omega, by omega, hsj, HW.out, by rw [← HO.out, insOuter_go mvLt 0 d.size i dk hlt, ← HI.out, insInner_stop mvLt 0 0 dj (Or.inl (Nat.le_refl _))]⟩
          case measure => simp [intOf]; omega
    · have z0 : decide ((i : Int) < (d.size : Int)) = false := decide_eq_false (by omega)
      go_wp2
      go_end0
      exact ⟨rfl, q, by (try rw [hwr]); unfold Sort.insertionSort; rw [← HO.out, insOuter_stop mvLt 0 d.size i dk (by omega)]⟩

end Go.Proofs.Ytmbgmpeiicjlaaa
