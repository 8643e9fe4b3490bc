/-
  An iterator over the tiles of a room.
-/
import Derived.RangeFuncNested
import Derived.RangeFuncBound
import Derived.RangeFuncCalls
import Derived.RangeFuncLeaves
import Derived.RangeFuncFrom
import Derived.RangeFuncWrites
import Derived.Shelf.Abstract
import Derived.Shelf.RegionOpen
import Derived.OwnWalkIn
import Derived.TacticsInMore
import Derived.LoopNIn
import Derived.LoopIn
import Derived.Sort.AtCallIn
import Derived.RangeFuncBox
import Derived.Test.YtddnfbpgldchcaaDoorRoomP
import Derived.Test.YtddnfbpgldchcaaDoorTileA
import Derived.Test.YtddnfbpgldchcaaDoorNew
namespace Go.Proofs.YtddnfbpgldchcaaDoor
open Go.RowKit Go.Shelf

attribute [local go_sem] Oper.semAt_some

/-- A tile of a room. -/
abbrev Tt (W H : Nat) := { t : Int × Int // inRoom (W : Int) (H : Int) t }

def tk (W H : Nat) (hW : 0 < W) (hH : 0 < H) (k : Nat) : Tt W H := ⟨(((k % W : Nat) : Int), ((k / W % H : Nat) : Int)), by
  have h1 := Nat.mod_lt k hW
  have h2 := Nat.mod_lt (k / W) hH
  exact ⟨by show (0 : Int) ≤ ((k % W : Nat) : Int); omega, by show ((k % W : Nat) : Int) < (W : Int); omega, by show (0 : Int) ≤ ((k / W % H : Nat) : Int); omega, by show ((k / W % H : Nat) : Int) < (H : Int); omega⟩⟩

def tks (W H : Nat) (hW : 0 < W) (hH : 0 < H) (k : Nat) : List (Tt W H) := (List.range k).map (tk W H hW hH)

theorem tks_succ (W H : Nat) (hW : 0 < W) (hH : 0 < H) (k : Nat) : tks W H hW hH (k + 1) = tks W H hW hH k ++ [tk W H hW hH k] := by simp [tks, List.range_succ]
@[simp] theorem tks_length (W H : Nat) (hW : 0 < W) (hH : 0 < H) (k : Nat) : (tks W H hW hH k).length = k := by simp [tks]

theorem tk_at (W H : Nat) (hW : 0 < W) (hH : 0 < H) {x y : Nat} (hx : x < W) (hy : y < H) : (tk W H hW hH (y * W + x)).1 = ((x : Int), (y : Int)) := by
  have e1 : (y * W + x) % W = x := by rw [Nat.mul_comm, Nat.mul_add_mod]; exact Nat.mod_eq_of_lt hx
  have e2 : (y * W + x) / W = y := by rw [Nat.mul_comm, Nat.mul_add_div hW, Nat.div_eq_of_lt hx, Nat.add_zero]
  have e3 : y % H = y := Nat.mod_eq_of_lt hy
  simp [tk, e1, e2, e3]

/-- One block stays as it is. -/
def KeepsAt (g : Nat) (A B : World) : Prop := ∀ o, A.heap[g]? = some o → B.heap[g]? = some o

theorem keepsAt_t {g : Nat} {A B C : World} (h : KeepsAt g A B) (k : KeepsAt g B C) : KeepsAt g A C := fun o ho => k o (h o ho)

theorem keepsAt_b {g : Nat} {w : World} (hg : g < w.heap.size) (W : World) (l : Nat) (o o' : Obj) (hl : w.heap.size ≤ l) (_ : W.heap[l]? = some o) (_ : o.isCells = false) (_ : o.isWalk = false) : KeepsAt g W (W.putObj l o') := by
  intro x hx
  rw [World.putObj_heap_other (by omega)]; exact hx

theorem room_cell0 {V : World} {g : Nat} {wd hg : Int} {sv : Value} {T : TypeId} {fr : Nat × Nat} (h : V.heap[g]? = some (.cells (roomC wd hg sv) T fr)) : V.cell? ⟨g, 0, none⟩ = some (.int .i8 wd) := by rw [cell_of_row _ _ _ _ _ _ h]; rfl

theorem room_cell1 {V : World} {g : Nat} {wd hg : Int} {sv : Value} {T : TypeId} {fr : Nat × Nat} (h : V.heap[g]? = some (.cells (roomC wd hg sv) T fr)) : V.cell? ⟨g, 1, none⟩ = some (.int .i8 hg) := by rw [cell_of_row _ _ _ _ _ _ h]; rfl

theorem i8_small (n : Int) (h0 : -128 ≤ n) (h1 : n ≤ 127) : IntKind.i8.wrap n = n := by
  rw [IntWalk.i8_in _ (by omega)]

set_option maxRecDepth 100000 in
set_option maxHeartbeats 4000000 in
theorem eachTile_in (W H : Nat) (hW : 0 < W) (hH : 0 < H) (hW1 : W ≤ 10) (hH1 : H ≤ 10) (sv : Value) (gb : Nat) (m : Nat) (l : Nat) (J Jx : List (Tt W H) → World → Prop)
    (hY : ∀ pre x V, J pre V → pre.length < W * H → YieldAt Fence.wide (m + 1) Tryd.prog l #[.agg (tileC x.1.1 x.1.2)] V fun e V' =>
      (e = .returned (.bool true) ∧ J (pre ++ [x]) V' ∧ KeepsAt gb V V') ∨ (e = .returned (.bool false) ∧ Jx (pre ++ [x]) V'))
    (V : World) (h0 : J [] V) (hg : V.heap[gb]? = some (.cells (roomC (W : Int) (H : Int) sv) 33 (0, 0))) :
    CallsIn Fence.wide (m + 2) Tryd.prog 51 #[.func (.yield l) #[] #[], .pointer (some ⟨gb, 0, none⟩)] V fun e V' => (∃ v, e = .returned v) ∧
      ((∃ xs, xs = tks W H hW hH (W * H) ∧ J xs V') ∨ (∃ pre, (∃ k, k ≤ W * H ∧ pre = tks W H hW hH k) ∧ Jx pre V')) := by
  have HBI : Hid (∀ x y : Int, Tryd.prog.built 48 [(0, .int .i8 x), (1, .int .i8 y)] = some (tileC x y)) := Lib.hid (fun x y => by kernel_rfl)
  have hbi := HBI.out
  refine callsIn_of_wp Tryd.func51 rfl trivial ?_ rfl
  simp only [Tryd.ntmps51, List.size_toArray, List.length_cons, List.length_nil, Nat.reduceAdd, Nat.reduceSub, Array.replicate_succ, Array.replicate_zero, List.push_toArray, List.append_toArray, List.nil_append, List.cons_append]
  have c1 := room_cell1 hg
  gi_wp2
  clear c1
  gi_loopw [7] (fun i wr => ∃ y : Nat, y ≤ H ∧ i = .int .i8 (y : Int) ∧ J (tks W H hW hH (y * W)) wr ∧ wr.heap[gb]? = some (.cells (roomC (W : Int) (H : Int) sv) 33 (0, 0))) (fun i _ => (H : Nat) - (intOf i).toNat)
  case atStart => exact ⟨0, Nat.zero_le _, rfl, by rw [Nat.zero_mul]; exact h0, hg⟩
  case round =>
    obtain ⟨y, hy, rfl, hJy, hgy⟩ := hrel
    have HJY := Lib.hid hJy
    have HGY := Lib.hid hgy
    by_cases hlt : y < H
    · have c0 := room_cell0 HGY.out
      have z1 : (y : Int) < (H : Int) := by omega
      clear hJy hgy
      gi_wp2
      clear c0
      gi_loopw [12] (fun i wq => ∃ x : Nat, x ≤ W ∧ i = .int .i8 (x : Int) ∧ J (tks W H hW hH (y * W + x)) wq ∧ wq.heap[gb]? = some (.cells (roomC (W : Int) (H : Int) sv) 33 (0, 0))) (fun i _ => (W : Nat) - (intOf i).toNat)
      case atStart => exact ⟨0, Nat.zero_le _, rfl, HJY.out, HGY.out⟩
      case round =>
        clear HJY HGY
        obtain ⟨x, hx, rfl, hJx, hgx⟩ := hrel
        have HJX := Lib.hid hJx
        have HGX := Lib.hid hgx
        clear hJx hgx
        by_cases hlx : x < W
        · have y1 : (x : Int) < (W : Int) := by omega
          have hn : y * W + x < W * H := by
            have h2 : (y + 1) * W ≤ H * W := Nat.mul_le_mul_right W (by omega)
            rw [Nat.add_mul, Nat.one_mul] at h2
            rw [Nat.mul_comm W H]
            omega
          have hw1 := i8_small ((x : Int) + 1) (by omega) (by omega)
          obtain ⟨fn, tmps, assign, body, hyy, hR⟩ := hY (tks W H hW hH (y * W + x)) (tk W H hW hH (y * W + x)) _ HJX.out (by rw [tks_length]; exact hn)
          rw [tk_at W H hW hH hlx hlt] at hyy
          simp only [tileC] at hyy
          gi_wp2
          refine hR.mono ?_
          rintro e W3 (⟨rfl, hJ3, hk3⟩ | ⟨rfl, hJx3⟩)
          · gi_wp2
            go_roundw
            case rel => exact ⟨x + 1, by omega, by first | (simp; done) | (simp; omega), by rw [← Nat.add_assoc, tks_succ]; exact hJ3, hk3 _ HGX.out⟩
            case measure => simp [intOf]; omega
          · gi_wp2
            refine bodyPost_ret (results_none rfl _ _ _) rfl ?_
            exact ⟨⟨_, rfl⟩, .inr ⟨_, ⟨y * W + x + 1, by omega, (tks_succ _ _ _ _ _).symm⟩, hJx3⟩⟩
        · obtain rfl : x = W := by omega
          have hw1 := i8_small ((y : Int) + 1) (by omega) (by omega)
          gi_wp2
          go_roundw
          case rel => exact ⟨y + 1, by omega, by first | (simp; done) | (simp; omega), by rw [Nat.add_mul, Nat.one_mul]; exact HJX.out, HGX.out⟩
          case measure => simp [intOf]; omega
    · obtain rfl : y = H := by omega
      gi_wp2
      go_end0
      exact ⟨⟨_, rfl⟩, .inl ⟨_, rfl, by rw [Nat.mul_comm]; exact HJY.out⟩⟩

theorem eachTile_any (wd hg : Int) (sv : Value) (w : World) :
    Calls Tryd.prog 38 #[.agg (roomC wd hg sv)] w fun e w' => e = .returned (.func (.func 51) #[] #[.pointer (some ⟨w.heap.size, 0, none⟩)]) ∧ w' = w.alloc (.cells (roomC wd hg sv) 33) := by
  go_enter Tryd.func38, Tryd.ntmps38
  go_wp2
  go_ret
  exact ⟨rfl, rfl⟩

theorem eachTile_stops (W H : Nat) (hW : 0 < W) (hH : 0 < H) (hW1 : W ≤ 10) (hH1 : H ≤ 10) (sv : Value) (gb : Nat) (w : World) (hg : w.heap[gb]? = some (.cells (roomC (W : Int) (H : Int) sv) 33 (0, 0))) :
    SeqStopsK Fence.wide 3 Tryd.prog 51 #[.pointer (some ⟨gb, 0, none⟩)] (fun x : Tt W H => #[.agg (tileC x.1.1 x.1.2)]) (KeepsAt gb) (fun xs => xs = tks W H hW hH (W * H)) (fun pre => ∃ k, k ≤ W * H ∧ pre = tks W H hW hH k) (W * H) w := fun l J Jx V hV _ _ hY h0 =>
  eachTile_in W H hW hH hW1 hH1 sv gb 1 l J Jx hY V h0 (below_row hV hg)

end Go.Proofs.YtddnfbpgldchcaaDoor
