/-
  The contract of the iterator over the hours of a day: it hands out 0 to 23, in their order.
-/
import Derived.RangeFuncNested
import Derived.RangeFuncBound
import Derived.RangeFuncCalls
import Derived.RangeFuncLeaves
import Derived.RangeFuncFrom
import Derived.RangeFuncWrites
import Derived.Shelf.Abstract
import Derived.Shelf.RegionOpen
import Derived.WalkKit
import Derived.OwnWalkIn
import Derived.TacticsInMore
import Derived.LoopNIn
import Derived.LoopIn
import Derived.Test.YthpimcfmgefkkaaDoorSun
namespace Go.Proofs.YthpimcfmgefkkaaDoor
open Go.RowKit Go.Shelf

/-- An hour of a day. -/
abbrev Hr := { h : Int // 0 ≤ h ∧ h < 24 }

def hr (k : Nat) : Hr := ⟨(k % 24 : Nat), by omega⟩

theorem hr_val (k : Nat) (h : k < 24) : (hr k).1 = (k : Int) := by simp [hr, Nat.mod_eq_of_lt h]

def hrs (k : Nat) : List Hr := (List.range k).map hr

theorem hrs_succ (k : Nat) : hrs (k + 1) = hrs k ++ [hr k] := by simp [hrs, List.range_succ]
@[simp] theorem hrs_length (k : Nat) : (hrs k).length = k := by simp [hrs]

set_option maxRecDepth 100000 in
set_option maxHeartbeats 1000000 in
theorem eachHour_in (F : Fence) (n : Nat) (hF : F.fn 46) (hro : F.round = none) (hn : 1 ≤ n) (l n₀ : Nat) (J Jx : List Hr → World → Prop)
    (hY : ∀ pre x W, J pre W → pre.length < 24 → YieldAt F (n - 1) Tryd.prog l #[.int .i64 x.1] W fun e W' =>
      (e = .returned (.bool true) ∧ J (pre ++ [x]) W' ∧ Below n₀ W W') ∨ (e = .returned (.bool false) ∧ Jx (pre ++ [x]) W'))
    (W : World) (h0 : J [] W) :
    CallsIn F n Tryd.prog 46 #[.func (.yield l) #[] #[]] W fun e W' => (∃ v, e = .returned v) ∧
      ((∃ xs, xs = hrs 24 ∧ J xs W') ∨ (∃ pre, (∃ k, k ≤ 24 ∧ pre = hrs k) ∧ Jx pre W')) := by
  refine callsIn_of_wp Tryd.func46 rfl hF ?_ hro
  simp only [Tryd.ntmps46, List.size_toArray, List.length_cons, List.length_nil, Nat.reduceAdd, Nat.reduceSub, Array.replicate_succ, Array.replicate_zero, List.push_toArray, List.append_toArray, List.nil_append, List.cons_append]
  gi_wp2
  gi_loopw [3] (fun i wr => ∃ k : Nat, k ≤ 24 ∧ i = .int .i64 k ∧ J (hrs k) wr ∧ Below n₀ W wr) (fun i _ => 24 - (intOf i).toNat)
  case atStart => exact ⟨0, Nat.zero_le _, rfl, h0, Below.refl _ _⟩
  case round =>
    obtain ⟨k, hk, rfl, hJs, hnx⟩ := hrel
    by_cases hlt : k < 24
    · obtain ⟨fn, tmps, assign, body, hy, hR⟩ := hY _ (hr k) wr hJs (by rw [hrs_length]; exact hlt)
      rw [hr_val k hlt] at hy
      gi_wp2
      refine hR.mono ?_
      rintro e W3 (⟨rfl, hJ3, hk3⟩ | ⟨rfl, hJx3⟩)
      · gi_wp2
        go_roundw
        case rel => exact ⟨k + 1, by omega, by simp, by rw [hrs_succ]; exact hJ3, hnx.trans hk3⟩
        case measure => simp [intOf]; omega
      · gi_wp2
        refine bodyPost_ret (results_none rfl _ _ _) rfl ?_
        exact ⟨⟨_, rfl⟩, .inr ⟨_, ⟨k + 1, by omega, (hrs_succ _).symm⟩, hJx3⟩⟩
    · obtain rfl : k = 24 := by omega
      gi_wp2
      go_end0
      exact ⟨⟨_, rfl⟩, .inl ⟨_, rfl, hJs⟩⟩

theorem eachHour_stops (F : Fence) (n : Nat) (hF : F.fn 46) (hro : F.round = none) (hn : 1 ≤ n) (n₀ : Nat) (w : World) :
    SeqStopsK F n Tryd.prog 46 #[] (fun x : Hr => #[Value.int .i64 x.1]) (Below n₀) (fun xs => xs = hrs 24) (fun pre => ∃ k, k ≤ 24 ∧ pre = hrs k) 24 w := fun l J Jx W _ _ _ hY h0 =>
  eachHour_in F n hF hro hn l n₀ J Jx hY W h0

end Go.Proofs.YthpimcfmgefkkaaDoor
