/-
  The source from which the laws draw: what it hands out is always within its bounds.
-/
import Derived.IntWalk
import Derived.Laws.AppendOwn
import Derived.Laws.BitsAllLaws
import Derived.Test.YtddnfbpgldchcaaEq
import Derived.Test.YtddnfbpgldchcaaHeld
namespace Go.Proofs.Ytddnfbpgldchcaa
open Go.RowKit

/-- A list of bytes, all of it below a block. -/
def BytesAt (V : World) (B : Nat) (v : Value) (n : Nat) : Prop :=
  ∃ a cap, v = .slice a n cap ∧ n ≤ cap ∧ cap ≤ maxLen ∧ ∀ i, i < n → ∃ (g o : Nat) (x : Int), a = some ⟨g, o, none⟩ ∧ g < B ∧ 0 ≤ x ∧ x ≤ 255 ∧ V.cell? ⟨g, o + i, none⟩ = some (.int .u8 x)

def srcC (v : Value) (at' sd : Int) : Array Value := #[v, .int .i64 at', .int .u64 sd]

/-- The source lies in block b; it has handed out at most m bytes. -/
def SrcAt (V : World) (b : Nat) (v : Value) (n m : Nat) : Prop :=
  BytesAt V b v n ∧ ∃ at' sd : Int, 0 ≤ at' ∧ at' ≤ (m : Int) ∧ 0 ≤ sd ∧ sd ≤ 18446744073709551615 ∧ V.heap[b]? = some (.cells (srcC v at' sd) 71 (0, 0))

theorem bytes_grown {V V' : World} {b n : Nat} {v : Value} (h : BytesAt V b v n) (hg : V.grownBy V' (some b)) : BytesAt V' b v n := by
  obtain ⟨a, cap, h1, h2, h3, h4⟩ := h
  refine ⟨a, cap, h1, h2, h3, fun i hi => ?_⟩
  obtain ⟨g, o, x, e, hgb, x0, x1, hc⟩ := h4 i hi
  have hlt := World.block_lt_of_cell? _ _ hc
  exact ⟨g, o, x, e, hgb, x0, x1, (World.cell?_of_block (hg.block g hlt (fun e => by injection e with e; omega))).trans hc⟩

theorem u64_bd (n : Int) : 0 ≤ IntKind.u64.wrap n ∧ IntKind.u64.wrap n ≤ 18446744073709551615 := by
  rw [IntKind.wrap_u64]
  omega

theorem and255 {s : Int} (h0 : 0 ≤ s) (h1 : s ≤ 18446744073709551615) : 0 ≤ wrap64 (bits BinOp.and IntKind.u64 (s / 1099511627776) 255) ∧ wrap64 (bits BinOp.and IntKind.u64 (s / 1099511627776) 255) ≤ 255 := by
  obtain ⟨a, ha⟩ := Int.eq_ofNat_of_zero_le (by omega : 0 ≤ s / 1099511627776)
  rw [ha]
  have hl : a < 18446744073709551616 := by omega
  have e : bits BinOp.and IntKind.u64 (a : Int) 255 = ((a &&& 255 : Nat) : Int) := u64_and_nat a 255 hl (by decide)
  have h2 : a &&& 255 ≤ 255 := Nat.and_le_right
  rw [e]
  unfold wrap64
  omega

theorem src_cells {V : World} {b : Nat} {v : Value} {x y : Int} {fr : Nat × Nat} (h : V.heap[b]? = some (.cells (srcC v x y) 71 fr)) : V.cell? ⟨b, 0, none⟩ = some v ∧ V.cell? ⟨b, 1, none⟩ = some (.int .i64 x) ∧ V.cell? ⟨b, 2, none⟩ = some (.int .u64 y) :=
  ⟨by rw [cell_of_row _ _ _ _ _ _ h]; rfl, by rw [cell_of_row _ _ _ _ _ _ h]; rfl, by rw [cell_of_row _ _ _ _ _ _ h]; rfl⟩

theorem grown_set {V : World} {b o : Nat} (x : Value) : V.grownBy (V.setCell ⟨b, o, none⟩ x) (some b) :=
  ⟨rfl, rfl, rfl, by simp, fun k _ hk => heap_setCell_other _ _ _ _ (fun e => hk (congrArg some e))⟩

theorem grown_t {A B C : World} {r : Option Nat} (h : A.grownBy B r) (k : B.grownBy C r) : A.grownBy C r :=
  ⟨k.os.trans h.os, k.tape.trans h.tape, k.output.trans h.output, Nat.le_trans h.size k.size, fun i hi hne => (k.block i (Nat.lt_of_lt_of_le hi h.size) hne).trans (h.block i hi hne)⟩

set_option maxRecDepth 100000 in
set_option maxHeartbeats 4000000 in
theorem next_any (b n m : Nat) (v : Value) (hm : m ≤ 1000000) (V : World) (h : SrcAt V b v n m) :
    Calls Try.prog 50 #[.pointer (some ⟨b, 0, none⟩)] V fun e V' => (∃ r : Int, e = .returned (.int .i64 r) ∧ 0 ≤ r ∧ r ≤ 255) ∧ SrcAt V' b v n (m + 1) ∧ V.grownBy V' (some b) := by
  obtain ⟨hB, at', sd, a0, a1, s0, s1, hrow⟩ := h
  have HB := Lib.hid hB
  obtain ⟨a, cap, ev, hc1, hc2, hall⟩ := id hB
  unfold maxLen at hc2
  have HR := Lib.hid hrow
  obtain ⟨k0, k1, k2⟩ := src_cells hrow
  rw [ev] at k0
  have f1 := frozen_of_row V b 1 _ _ hrow
  have hw1 : IntKind.i64.wrap (at' + 1) = at' + 1 := by rw [IntWalk.i64_in _ (by omega)]
  clear hrow hB
  by_cases hlt : at' < (n : Int)
  · obtain ⟨i, rfl⟩ := Int.eq_ofNat_of_zero_le a0
    obtain ⟨g, o, x, ea, hgb, x0, x1, hcx⟩ := hall i (by omega)
    subst ea
    have hwx : IntKind.i64.wrap x = x := by rw [IntWalk.i64_in _ (by omega)]
    have z3 : decide ((i : Int) < (n : Int)) = true := decide_eq_true hlt
    clear hall
    go_enter Try.func50, Try.ntmps50
    go_wp2
    go_quiet (fail)
    go_wp2
    go_quiet (fail)
    go_upto_region 5 with (fail)
    refine abs_code (fun W => W.heap[b]? = some (.cells (srcC v ((i : Int) + 1) sd) 71 (0, 0)) ∧ V.grownBy W (some b)) ⟨?_, ⟨rfl, rfl, rfl, by simp, fun k _ hk => heap_setCell_other _ _ _ _ (fun e => hk (congrArg some e))⟩⟩ ?_
    · show (V.setCell ⟨b, 1, none⟩ (.int .i64 ((i : Int) + 1))).heap[b]? = _
      rw [heap_setCell_same _ _ _ _ _ _ HR.out]
      rfl
    rintro W ⟨hr, hg⟩
    have HRW := Lib.hid hr
    obtain ⟨j0, j1, j2⟩ := src_cells hr
    have f2 := frozen_of_row W b 2 _ _ hr
    clear k0 k1 k2 f1 hr
    go_upto_region 6 with (fail)
    refine abs_code (fun X => ∃ sd' : Int, 0 ≤ sd' ∧ sd' ≤ 18446744073709551615 ∧ X.heap[b]? = some (.cells (srcC v ((i : Int) + 1) sd') 71 (0, 0)) ∧ V.grownBy X (some b)) ⟨_, (u64_bd _).1, (u64_bd _).2, by rw [heap_setCell_same _ _ _ _ _ _ HRW.out]; rfl, grown_t hg (grown_set _)⟩ ?_
    clear j0 j1 j2 f2 hg HRW HR
    rintro X ⟨sd', d0, d1, hr, hg⟩
    have HRX := Lib.hid hr
    obtain ⟨j0, j1, j2⟩ := src_cells hr
    rw [ev] at j0
    clear hr
    have z4 : (i : Int) + 1 ≤ (n : Int) := by omega
    have z5 : decide ((i : Int) + 1 ≤ (n : Int)) = true := decide_eq_true z4
    go_wp2
    go_quiet (fail)
    go_wp2
    go_ret
    exact ⟨⟨x, rfl, x0, x1⟩, ⟨bytes_grown HB.out ⟨hg.os, hg.tape, hg.output, hg.size, hg.block⟩, (i : Int) + 1, sd', by omega, by omega, d0, d1, HRX.out⟩, ⟨hg.os, hg.tape, hg.output, hg.size, hg.block⟩⟩
  · have z3 : decide (at' < (n : Int)) = false := decide_eq_false hlt
    clear hall
    go_enter Try.func50, Try.ntmps50
    go_wp2
    go_quiet (fail)
    go_upto_region 5 with (fail)
    refine abs_code (fun W => W.heap[b]? = some (.cells (srcC v (at' + 1) sd) 71 (0, 0)) ∧ V.grownBy W (some b)) ⟨?_, ⟨rfl, rfl, rfl, by simp, fun k _ hk => heap_setCell_other _ _ _ _ (fun e => hk (congrArg some e))⟩⟩ ?_
    · show (V.setCell ⟨b, 1, none⟩ (.int .i64 (at' + 1))).heap[b]? = _
      rw [heap_setCell_same _ _ _ _ _ _ HR.out]
      rfl
    rintro W ⟨hr, hg⟩
    have HRW := Lib.hid hr
    obtain ⟨j0, j1, j2⟩ := src_cells hr
    have f2 := frozen_of_row W b 2 _ _ hr
    clear k0 k1 k2 f1 hr
    go_upto_region 6 with (fail)
    refine abs_code (fun X => ∃ sd' : Int, 0 ≤ sd' ∧ sd' ≤ 18446744073709551615 ∧ X.heap[b]? = some (.cells (srcC v (at' + 1) sd') 71 (0, 0)) ∧ V.grownBy X (some b)) ⟨_, (u64_bd _).1, (u64_bd _).2, by rw [heap_setCell_same _ _ _ _ _ _ HRW.out]; rfl, grown_t hg (grown_set _)⟩ ?_
    clear j0 j1 j2 f2 hg HRW HR
    rintro X ⟨sd', d0, d1, hr, hg⟩
    have HRX := Lib.hid hr
    obtain ⟨j0, j1, j2⟩ := src_cells hr
    rw [ev] at j0
    clear hr
    have z4 : ¬ (at' + 1 ≤ (n : Int)) := by omega
    have z5 : decide (at' + 1 ≤ (n : Int)) = false := decide_eq_false z4
    go_wp2
    go_quiet (fail)
    go_wp2
    go_ret
    refine ⟨⟨_, rfl, ?_, ?_⟩, ⟨bytes_grown HB.out ⟨hg.os, hg.tape, hg.output, hg.size, hg.block⟩, at' + 1, sd', by omega, by omega, d0, d1, HRX.out⟩, ⟨hg.os, hg.tape, hg.output, hg.size, hg.block⟩⟩
    · exact (and255 d0 d1).1
    · exact (and255 d0 d1).2

theorem src_mono {V : World} {b n m k : Nat} {v : Value} (h : SrcAt V b v n m) (hk : m ≤ k) : SrcAt V b v n k := by
  obtain ⟨hB, x, y, h0, h1, h2, h3, h4⟩ := h
  exact ⟨hB, x, y, h0, by omega, h2, h3, h4⟩

theorem grown_r (V : World) (r : Option Nat) : V.grownBy V r := ⟨rfl, rfl, rfl, Nat.le_refl _, fun _ _ _ => rfl⟩

set_option maxRecDepth 100000 in
set_option maxHeartbeats 2000000 in
theorem pick_any (b n m : Nat) (v : Value) (hm : m ≤ 900000) (k : Int) (k0 : 1 ≤ k) (k1 : k ≤ 65536) (V : World) (h : SrcAt V b v n m) :
    Calls Try.prog 25 #[.pointer (some ⟨b, 0, none⟩), .int .i64 k] V fun e V' => (∃ r : Int, e = .returned (.int .i64 r) ∧ 0 ≤ r ∧ r < k) ∧ SrcAt V' b v n (m + 2) ∧ V.grownBy V' (some b) := by
  have HN1 := Lib.hid (fun V h => next_any b n m v (by omega) V h)
  have HN2 := Lib.hid (fun V h => next_any b n (m + 1) v (by omega) V h)
  have HS := Lib.hid h
  clear h
  by_cases hk : k ≤ 1
  · have e1 : k = 1 := by omega
    subst e1
    go_enter Try.func25, Try.ntmps25
    go_wp2
    go_ret
    exact ⟨⟨0, rfl, by decide, by decide⟩, src_mono HS.out (by omega), grown_r _ _⟩
  · have z1 : decide (k ≤ 1) = false := decide_eq_false hk
    have hne : k ≠ 0 := by omega
    have hr : ∀ x : Int, 0 ≤ x % k ∧ x % k < k := fun x => ⟨Int.emod_nonneg _ hne, Int.emod_lt_of_pos _ (by omega)⟩
    by_cases h2 : k > 200
    · have z2 : decide (k > 200) = true := decide_eq_true h2
      go_enter Try.func25, Try.ntmps25
      go_upto_region 4 with (go_at_call 50; refine (HN1.out _ HS.out).mono ?_; rintro e W1 ⟨⟨x, rfl, x0, x1⟩, hs1, hg1⟩)
      have HS1 := Lib.hid hs1
      have hw1 : IntKind.i64.wrap (x * 256) = x * 256 := by rw [IntWalk.i64_in _ (by omega)]
      go_upto_region 6 with (go_at_call 50; refine (HN2.out _ HS1.out).mono ?_; rintro e W2 ⟨⟨y, rfl, y0, y1⟩, hs2, hg2⟩)
      have hw2 : IntKind.i64.wrap (x * 256 + y) = x * 256 + y := by rw [IntWalk.i64_in _ (by omega)]
      go_wp2
      go_ret
      exact ⟨⟨_, rfl, hr _⟩, hs2, grown_t hg1 hg2⟩
    · have z2 : decide (k > 200) = false := decide_eq_false h2
      go_enter Try.func25, Try.ntmps25
      go_upto_region 4 with (go_at_call 50; refine (HN1.out _ HS.out).mono ?_; rintro e W1 ⟨⟨x, rfl, x0, x1⟩, hs1, hg1⟩)
      go_wp2
      go_ret
      exact ⟨⟨_, rfl, hr _⟩, src_mono hs1 (by omega), hg1⟩

end Go.Proofs.Ytddnfbpgldchcaa
