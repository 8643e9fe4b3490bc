/-
  The iterator over a blind with each tilt: it hands out the tilts -64 to 64, in their order.
-/
import Derived.RangeFuncNested
import Derived.RangeFuncBound
import Derived.RangeFuncCalls
import Derived.RangeFuncLeaves
import Derived.RangeFuncFrom
import Derived.RangeFuncWrites
import Derived.Shelf.Abstract
import Derived.Shelf.RegionOpen
import Derived.OwnWalkIn
import Derived.TacticsInMore
import Derived.LoopNIn
import Derived.LoopIn
import Derived.Sort.AtCallIn
import Derived.Test.YtdccmdcgbembpaaTilted
namespace Go.Proofs.Ytdccmdcgbembpaa
open Go.RowKit Go.Shelf

/-- A tilt. -/
abbrev Tl := { x : Int // -64 ≤ x ∧ x ≤ 64 }

def tl (k : Nat) : Tl := ⟨((k % 129 : Nat) : Int) - 64, by omega⟩

theorem tl_val (k : Nat) (h : k < 129) : (tl k).1 = (k : Int) - 64 := by simp [tl, Nat.mod_eq_of_lt h]

def tls (k : Nat) : List Tl := (List.range k).map tl

theorem tls_succ (k : Nat) : tls (k + 1) = tls k ++ [tl k] := by simp [tls, List.range_succ]
@[simp] theorem tls_length (k : Nat) : (tls k).length = k := by simp [tls]

/-- One block stays as it is. -/
def KeepsAt (g : Nat) (A B : World) : Prop := ∀ o, A.heap[g]? = some o → B.heap[g]? = some o

theorem keepsAt_t {g : Nat} {A B C : World} (h : KeepsAt g A B) (k : KeepsAt g B C) : KeepsAt g A C := fun o ho => k o (h o ho)

theorem keepsAt_b {g : Nat} {w : World} (hg : g < w.heap.size) (W : World) (l : Nat) (o o' : Obj) (hl : w.heap.size ≤ l) (_ : W.heap[l]? = some o) (_ : o.isCells = false) (_ : o.isWalk = false) : KeepsAt g W (W.putObj l o') := by
  intro x hx
  rw [World.putObj_heap_other (by omega)]; exact hx

theorem grown_of_below {w w' : World} (h : Below w.heap.size w w') (row : Option Nat) : w.grownBy w' row := ⟨h.os, h.tape, h.output, h.size, fun k hk _ => h.block k hk⟩

set_option maxRecDepth 100000 in
set_option maxHeartbeats 1000000 in
theorem eachTilted_in (n : Int) (wd gp : Nat) (t : Int) (sh : Nat) (gb : Nat) (m : Nat) (l : Nat) (J Jx : List Tl → World → Prop)
    (hY : ∀ pre x W, J pre W → pre.length < 129 → YieldAt Fence.wide (m + 1) Try.prog l #[.agg (blindC n wd gp x.1 sh)] W fun e W' =>
      (e = .returned (.bool true) ∧ J (pre ++ [x]) W' ∧ KeepsAt gb W W') ∨ (e = .returned (.bool false) ∧ Jx (pre ++ [x]) W'))
    (W : World) (hJ : AbidesFrom W.heap.size J) (h0 : J [] W) (hg : W.heap[gb]? = some (.cells (blindC n wd gp t sh) 28 (0, 0))) :
    CallsIn Fence.wide (m + 2) Try.prog 52 #[.func (.yield l) #[] #[], .pointer (some ⟨gb, 0, none⟩)] W fun e W' => (∃ v, e = .returned v) ∧
      ((∃ xs, xs = tls 129 ∧ J xs W') ∨ (∃ pre, (∃ k, k ≤ 129 ∧ pre = tls k) ∧ Jx pre W')) := by
  refine callsIn_of_wp Try.func52 rfl trivial ?_ rfl
  simp only [Try.ntmps52, List.size_toArray, List.length_cons, List.length_nil, Nat.reduceAdd, Nat.reduceSub, Array.replicate_succ, Array.replicate_zero, List.push_toArray, List.append_toArray, List.nil_append, List.cons_append]
  gi_wp2
  gi_loopw [3] (fun i wr => ∃ k : Nat, k ≤ 129 ∧ i = .int .i64 ((k : Int) - 64) ∧ J (tls k) wr ∧ wr.heap[gb]? = some (.cells (blindC n wd gp t sh) 28 (0, 0))) (fun i _ => (65 - intOf i).toNat)
  case atStart => exact ⟨0, Nat.zero_le _, rfl, h0, hg⟩
  case round =>
    obtain ⟨k, hk, rfl, hJs, hgk⟩ := hrel
    by_cases hlt : k < 129
    · have HT := Lib.hid (fun w => tilted_any2 n wd gp t sh ((k : Int) - 64) (by omega) (by omega) w)
      have HGK := Lib.hid hgk
      have HJS := Lib.hid hJs
      clear hgk hJs
      obtain ⟨k0, k1, k2, k3, k4⟩ := blind_cells HGK.out
      have z0 : (-64 : Int) ≤ (k : Int) - 64 := by omega
      have z1 : (k : Int) - 64 ≤ 64 := by omega
      gi_wp2_with (refine ⟨trivial, (callsIn_wide.2 (HT.out _)).mono ?_⟩; rintro e W1 ⟨rfl, hb1⟩)
      obtain ⟨fn, tmps, assign, body, hy, hR⟩ := hY (tls k) (tl k) W1 (hJ (tls k) wr W1 none HJS.out (grown_of_below hb1 none) (fun r e => by cases e)) (by rw [tls_length]; exact hlt)
      rw [tl_val k hlt] at hy
      have HG1 := Lib.hid (below_row hb1 HGK.out)
      clear k0 k1 k2 k3 k4
      rw [hy]
      go_simp
      refine hR.mono ?_
      rintro e W3 (⟨rfl, hJ3, hk3⟩ | ⟨rfl, hJx3⟩)
      · gi_wp2
        go_roundw
        case rel => exact ⟨k + 1, by omega, by simp; omega, by rw [tls_succ]; exact hJ3, hk3 _ HG1.out⟩
        case measure => simp [intOf]; omega
      · gi_wp2
        refine bodyPost_ret (results_none rfl _ _ _) rfl ?_
        exact ⟨⟨_, rfl⟩, .inr ⟨_, ⟨k + 1, by omega, (tls_succ _).symm⟩, hJx3⟩⟩
    · obtain rfl : k = 129 := by omega
      gi_wp2
      go_end0
      exact ⟨⟨_, rfl⟩, .inl ⟨_, rfl, hJs⟩⟩

end Go.Proofs.Ytdccmdcgbembpaa
