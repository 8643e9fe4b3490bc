/-
  The comparison of two suns in a law: a sun is the same as itself.
-/
import Derived.Test.YtadonkadkikfpabFallDay
namespace Go.Proofs.Ytadonkadkikfpab
open Go.ChangeShapes Go.WideShapes Go.ChangeAt Go.RowKit

theorem new2_fst (w : World) (a b : Obj) : ((w.alloc a).alloc b).heap[w.heap.size]? = some a := (heap_alloc _ _ _).trans (by rw [if_neg (by simp)]; exact heap_alloc_new _ _)
theorem new2_snd (w : World) (a b : Obj) : ((w.alloc a).alloc b).heap[w.heap.size + 1]? = some b := (heap_alloc _ _ _).trans (by rw [if_pos (by simp)])
theorem new2_below (w : World) (a b : Obj) : Below w.heap.size w ((w.alloc a).alloc b) := ((Below.refl _ _).alloc (Nat.le_refl _) _).alloc (by simp) _

set_option maxRecDepth 100000 in
set_option maxHeartbeats 1000000 in
theorem eqArr_same (xs : List Int) (hx : xs.length = 24) (w : World) :
    Calls Try.prog 35 #[.agg (i16s xs), .agg (i16s xs)] w fun e w' => e = .returned (.bool true) ∧ Below w.heap.size w w' := by
  have Hx := Lib.hid hx
  clear hx
  go_enter Try.func35, Try.ntmps35
  go_upto_region 1 with (fail)
  refine abs_code (fun W => Below w.heap.size w W ∧ W.heap[w.heap.size]? = some (.cells (i16s xs) 28 (0, 0)) ∧ W.heap[w.heap.size + 1]? = some (.cells (i16s xs) 28 (0, 0))) ⟨new2_below _ _ _, new2_fst _ _ _, new2_snd _ _ _⟩ ?_
  rintro W ⟨hb, h0, h1⟩
  have H0 := Lib.hid h0
  have H1 := Lib.hid h1
  clear h0 h1
  go_wp2
  go_loopw [5] (fun i wr => ∃ k : Nat, k ≤ 24 ∧ i = .int .i64 k ∧ Below w.heap.size w wr ∧ wr.heap[w.heap.size]? = some (.cells (i16s xs) 28 (0, 0)) ∧ wr.heap[w.heap.size + 1]? = some (.cells (i16s xs) 28 (0, 0))) (fun i _ => 24 - (intOf i).toNat)
  case atStart => exact ⟨0, Nat.zero_le _, rfl, hb, H0.out, H1.out⟩
  case round =>
    clear hb H0 H1
    obtain ⟨k, hk, rfl, hb, h0, h1⟩ := hrel
    have H0 := Lib.hid h0
    have H1 := Lib.hid h1
    by_cases hlt : k < 24
    · have c0 := cell_of_i16s h0 k (by rw [Hx.out]; exact hlt)
      have c1 := cell_of_i16s h1 k (by rw [Hx.out]; exact hlt)
      clear h0 h1
      go_wp2
      go_quiet (fail)
      go_wp2
      go_roundw
      case rel => exact ⟨k + 1, by omega, by go_num, ⟨hb.os, hb.tape, hb.output, hb.size, hb.block⟩, H0.out, H1.out⟩
      case measure => simp [intOf]; omega
    · obtain rfl : k = 24 := by omega
      clear h0 h1
      go_wp2
      go_ret
      exact ⟨rfl, hb⟩

set_option maxRecDepth 100000 in
set_option maxHeartbeats 1000000 in
theorem eqSun_same (hs ts : List Int) (hh : hs.length = 24) (ht : ts.length = 24) (w : World) :
    Calls Try.prog 20 #[.agg (sunC hs ts), .agg (sunC hs ts)] w fun e w' => e = .returned (.bool true) ∧ Below w.heap.size w w' := by
  have Hh := Lib.hid hh
  have Ht := Lib.hid ht
  clear hh ht
  go_enter Try.func20, Try.ntmps20
  go_upto_region 1 with (fail)
  generalize he : w.heap.size + 1 = b1
  refine abs_code (fun W => Below w.heap.size w W ∧ W.heap[w.heap.size]? = some (.cells (sunC hs ts) 31 (0, 0)) ∧ W.heap[b1]? = some (.cells (sunC hs ts) 31 (0, 0))) ⟨new2_below _ _ _, new2_fst _ _ _, he ▸ new2_snd _ _ _⟩ ?_
  rintro W ⟨hb, h0, h1⟩
  have H0 := Lib.hid h0
  have H1 := Lib.hid h1
  clear h0 h1 he
  go_upto_region 3 with (first | (refine wpList_load_part rfl 28 _ rfl w.heap.size 0 24 rfl 31 (sunC hs ts) (0, 0) _ H0.out Try.underlying28 rfl info_arr (by rw [sunC_size _ _ Hh.out Ht.out]; decide) (i16s hs) (sunC_fst hs ts Hh.out) ?_) | (refine wpList_load_part rfl 28 _ rfl b1 0 24 rfl 31 (sunC hs ts) (0, 0) _ H1.out Try.underlying28 rfl info_arr (by rw [sunC_size _ _ Hh.out Ht.out]; decide) (i16s hs) (sunC_fst hs ts Hh.out) ?_) | (go_at_call 35; refine (eqArr_same hs Hh.out _).mono ?_; rintro e W2 ⟨rfl, hb1⟩; replace H0 := Lib.hid (below_row hb1 H0.out); replace H1 := Lib.hid (below_row hb1 H1.out); replace hb := hb.trans (hb1.mono hb.size); clear hb1))
  go_wp2_with (first | (refine wpList_load_part rfl 28 _ rfl w.heap.size 24 24 rfl 31 (sunC hs ts) (0, 0) _ H0.out Try.underlying28 rfl info_arr (by rw [sunC_size _ _ Hh.out Ht.out]; decide) (i16s ts) (sunC_snd hs ts Hh.out Ht.out) ?_) | (refine wpList_load_part rfl 28 _ rfl b1 24 24 rfl 31 (sunC hs ts) (0, 0) _ H1.out Try.underlying28 rfl info_arr (by rw [sunC_size _ _ Hh.out Ht.out]; decide) (i16s ts) (sunC_snd hs ts Hh.out Ht.out) ?_) | (go_at_call 35; refine (eqArr_same ts Ht.out _).mono ?_; rintro e W2 ⟨rfl, hb1⟩; replace H0 := Lib.hid (below_row hb1 H0.out); replace H1 := Lib.hid (below_row hb1 H1.out); replace hb := hb.trans (hb1.mono hb.size); clear hb1))
  go_ret
  exact ⟨rfl, hb⟩

end Go.Proofs.Ytadonkadkikfpab
