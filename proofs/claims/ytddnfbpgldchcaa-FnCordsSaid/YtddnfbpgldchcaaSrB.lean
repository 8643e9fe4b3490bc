/-
  The source from which the laws draw: a source that is made, a yes once in n times, raw bits.
-/
import Derived.Test.YtddnfbpgldchcaaSrA
namespace Go.Proofs.Ytddnfbpgldchcaa
open Go.RowKit

set_option maxRecDepth 100000 in
set_option maxHeartbeats 2000000 in
theorem one_any (b n m : Nat) (v : Value) (hm : m ≤ 900000) (k : Int) (k0 : 1 ≤ k) (k1 : k ≤ 65536) (V : World) (h : SrcAt V b v n m) :
    Calls Try.prog 48 #[.pointer (some ⟨b, 0, none⟩), .int .i64 k] V fun e V' => (∃ r : Bool, e = .returned (.bool r)) ∧ SrcAt V' b v n (m + 2) ∧ V.grownBy V' (some b) := by
  have HP := Lib.hid (fun V h => pick_any b n m v hm k k0 k1 V h)
  have HS := Lib.hid h
  clear h
  go_enter Try.func48, Try.ntmps48
  go_wp2_with (go_at_call 25; refine (HP.out _ HS.out).mono ?_; rintro e W1 ⟨⟨x, rfl, x0, x1⟩, hs1, hg1⟩)
  go_ret
  exact ⟨⟨_, rfl⟩, hs1, hg1⟩

set_option maxRecDepth 100000 in
set_option maxHeartbeats 2000000 in
theorem l00From_any (n cap : Nat) (a : Option Addr) (V : World) (h : BytesAt V V.heap.size (.slice a n cap) n) :
    Calls Try.prog 22 #[.slice a n cap] V fun e V' => e = .returned (.pointer (some ⟨V.heap.size, 0, none⟩)) ∧ SrcAt V' V.heap.size (.slice a n cap) n 0 ∧ Below V.heap.size V V' := by
  have hbi : Try.prog.built 71 [(0, .slice a n cap)] = some (srcC (.slice a n cap) 0 0) := by kernel_rfl
  have HB := Lib.hid h
  clear h
  go_enter Try.func22, Try.ntmps22
  go_wp2
  go_ret
  have hbl : Below V.heap.size V (V.alloc (.cells (srcC (.slice a n cap) 0 0) 71)) := (Below.refl _ _).alloc (Nat.le_refl _) _
  exact ⟨rfl, ⟨bytes_grown HB.out ⟨hbl.os, hbl.tape, hbl.output, hbl.size, fun k hk _ => hbl.block k hk⟩, 0, 0, by decide, by decide, by decide, by decide, heap_alloc_new _ _⟩, hbl⟩

end Go.Proofs.Ytddnfbpgldchcaa
