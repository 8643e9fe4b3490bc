/-
  For every sun and facing: the light on a window of a day is what the model says. No conditions.
-/
import Derived.Test.YtmniodfdoidffaaOver
namespace Go.Proofs.Ytmniodfdoidffaa
open Go.ChangeShapes Go.WideShapes Go.ChangeAt Go.RowKit

/-- The light on a window of a day. -/
def dayOf (hs ts : List Int) (facing : Int) : Nat := sumTo (fun h => fallOf hs ts (h : Int) facing) 24
theorem dayOf_pos (hs ts : List Int) (facing : Int) : pos32 (dayOf hs ts facing) = true := sumTo_pos _ 24 (fun _ _ => fallB_pos _ _) 24 (Nat.le_refl _)

set_option maxRecDepth 100000 in
set_option maxHeartbeats 1000000 in
theorem l01Day_any (b : Nat) (hs ts : List Int) (hh : hs.length = 24) (ht : ts.length = 24) (h1 : okB hs ts = true) (facing : Int) (hf0 : 0 ≤ facing) (hf1 : facing ≤ 255) (t : TypeId) (fr : Nat × Nat) (w : World) (hg : w.heap[b]? = some (.cells (sunC hs ts) t fr)) :
    Calls Try.prog 77 #[.pointer (some ⟨b, 0, none⟩), .int .i64 facing] w fun e w' => e = .returned (.float .f32 (dayOf hs ts facing)) ∧ Below w.heap.size w w' := by
  have Hok := Lib.hid h1
  have Hg := Lib.hid hg
  have Hh := Lib.hid hh
  have Ht := Lib.hid ht
  clear hh ht h1 hg
  go_enter Try.func77, Try.ntmps77
  go_wp2
  go_loopw [5, 6] (fun s i wr => ∃ k : Nat, k ≤ 24 ∧ i = .int .i64 k ∧ s = .float .f32 (sumTo (fun h => fallOf hs ts (h : Int) facing) k) ∧ Below w.heap.size w wr) (fun _ i _ => 24 - (intOf i).toNat)
  case atStart => exact ⟨0, Nat.zero_le _, rfl, rfl, Below.refl _ _⟩
  case round =>
    obtain ⟨k, hk, rfl, rfl, hb⟩ := hrel
    by_cases hlt : k < 24
    · have hbd := okB_h Hh.out Ht.out Hok.out (k : Int) (by omega) (by omega)
      have hby := okB_t Hh.out Ht.out Hok.out (k : Int) (by omega) (by omega)
      have hp : pos32 (sumTo (fun h => fallOf hs ts (h : Int) facing) k) = true := sumTo_pos _ 24 (fun _ _ => fallB_pos _ _) k hk
      have hgp : pos32 (fallOf hs ts (k : Int) facing) = true := fallB_pos _ _
      have HC := Lib.hid (l01Fall_any b hs ts Hh.out Ht.out (k : Int) facing (by omega) (by omega) hf0 hf1 hbd.2 hby.1 hby.2 t fr wr (below_row hb Hg.out))
      have hs1 := sumTo_succ (fun h => fallOf hs ts (h : Int) facing) k
      have hadd := (add_ok hp hgp).1
      have HS := Lib.hid hs1
      generalize sumTo (fun h => fallOf hs ts (h : Int) facing) k = s at *
      have radd : ∀ t w, (binOp .add t (.float .f32 s) (.float .f32 (fallOf hs ts (k : Int) facing))).run Try.prog w = .ok (.float .f32 (fadd s (fallOf hs ts (k : Int) facing))) w := fun t w => run_float_arith w .add t .f32 _ _ _ hadd
      clear hbd hby hp hgp hs1 hadd
      go_wp2_with (go_at_call 99; refine HC.out.mono ?_; rintro e W1 ⟨rfl, hb1⟩)
      go_roundw
      case rel => exact ⟨k + 1, by omega, by go_num, by rw [HS.out], hb.trans (hb1.mono hb.size)⟩
      case measure => simp [intOf]; omega
    · obtain rfl : k = 24 := by omega
      go_wp2
      go_ret
      exact ⟨rfl, hb⟩

theorem dayOf_eq (hs ts : List Int) (facing : Int) : sumTo (fun h => fallOf hs ts (h : Int) facing) 24 = dayOf hs ts facing := rfl

end Go.Proofs.Ytmniodfdoidffaa
