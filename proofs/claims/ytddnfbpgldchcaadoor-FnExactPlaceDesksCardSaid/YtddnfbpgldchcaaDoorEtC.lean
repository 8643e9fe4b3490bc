/-
  The tiles of a room, one after the other: the model's list.
-/
import Derived.Maps.AppendAt
import Derived.OwnWalk
import Derived.Test.YtddnfbpgldchcaaDoorEtB
namespace Go.Proofs.YtddnfbpgldchcaaDoor
open Go.RowKit Go.Shelf

attribute [local go_sem] Oper.semAt_some

/-- The cells of the first tiles of a room that is W wide. -/
def tC (W k : Nat) : List Value := (List.range k).flatMap (fun i => [.int .i8 ((i % W : Nat) : Int), .int .i8 ((i / W : Nat) : Int)])

theorem tC_succ (W : Nat) (hW : 0 < W) {x y : Nat} (hx : x < W) : tC W (y * W + x + 1) = tC W (y * W + x) ++ [.int .i8 (x : Int), .int .i8 (y : Int)] := by
  have e1 : (y * W + x) % W = x := by rw [Nat.mul_comm, Nat.mul_add_mod]; exact Nat.mod_eq_of_lt hx
  have e2 : (y * W + x) / W = y := by rw [Nat.mul_comm, Nat.mul_add_div hW, Nat.div_eq_of_lt hx, Nat.add_zero]
  unfold tC
  rw [List.range_succ, List.flatMap_append, List.flatMap_cons, List.flatMap_nil, List.append_nil, e1, e2]

theorem infoTE : (Tryd.prog.info? 48).map (fun i => (i.zero, i.size, i.bytes)) = some (some (.agg #[.int .i8 0, .int .i8 0]), 2, 2) := by kernel_rfl

theorem owns_bE {W w1 : World} {base s k : Nat} {e : TypeId} {v : Value} {xs : List Value} (h : W.ownsRow base e s v k xs) (hb : Below W.heap.size W w1) : w1.ownsRow base e s v k xs :=
  h.kept (row := none) ⟨hb.os, hb.tape, hb.output, hb.size, fun k hk _ => hb.block k hk⟩ (by cases v.ownBlock <;> simp)

theorem cells_newE (w : World) (cs : Array Value) (t : TypeId) : ∀ j u, cs.toList[j]? = some u → (w.alloc (.cells cs t)).cell? ((⟨w.heap.size, 0, none⟩ : Addr).add j) = some u := by
  intro j u hj
  have e : (⟨w.heap.size, 0, none⟩ : Addr).add j = ⟨w.heap.size, j, none⟩ := by simp [Addr.add]; exact fun h => h.symm
  rw [e, cell_of_row _ _ _ _ _ _ (heap_alloc_new _ _)]
  simpa using hj

set_option maxRecDepth 100000 in
set_option maxHeartbeats 4000000 in
theorem l03Tiles_any (W H : Nat) (hW : 0 < W) (hW1 : W ≤ 10) (hH1 : H ≤ 10) (sv : Value) (gb : Nat) (w : World) (hg : w.heap[gb]? = some (.cells (roomC (W : Int) (H : Int) sv) 33 (0, 0))) :
    Calls Tryd.prog 17 #[.pointer (some ⟨gb, 0, none⟩)] w fun e w' => (∃ v, e = .returned v ∧ w'.ownsRow w.heap.size 48 2 v (W * H) (tC W (W * H))) ∧ Below w.heap.size w w' := by
  obtain ⟨i0, hi, hz0, hz1, hz2⟩ := info_parts infoTE
  have HBI : Hid (∀ x y : Int, Tryd.prog.built 48 [(0, .int .i8 x), (1, .int .i8 y)] = some (tileC x y)) := Lib.hid (fun x y => by kernel_rfl)
  have hbi := HBI.out
  have HG := Lib.hid hg
  have hgl := row_lt hg
  clear hg
  go_enter Tryd.func17, Tryd.ntmps17
  go_wp2
  have hrow0 : (w.alloc (.cells #[] 48)).ownsRow w.heap.size 48 2 (.slice (some ⟨w.heap.size, 0, none⟩) 0 0) 0 [] := World.ownsRow_made _ _ _ (Nat.le_refl _) (Nat.zero_le _) rfl
  go_loopw [3, 4] (fun o i wr => ∃ y : Nat, y ≤ H ∧ i = .int .i8 (y : Int) ∧ wr.ownsRow w.heap.size 48 2 o (y * W) (tC W (y * W)) ∧ Below w.heap.size w wr) (fun _ i _ => (H : Nat) - (intOf i).toNat)
  case atStart => exact ⟨0, Nat.zero_le _, rfl, by rw [Nat.zero_mul]; exact hrow0, (Below.refl _ _).alloc (Nat.le_refl _) _⟩
  case round =>
    clear hrow0
    obtain ⟨y, hy, rfl, hrow, hb⟩ := hrel
    have HR := Lib.hid hrow
    have c1 := room_cell1 (below_row hb HG.out)
    have c0 := room_cell0 (below_row hb HG.out)
    clear hrow
    by_cases hlt : y < H
    · have z1 : (y : Int) < (H : Int) := by omega
      go_wp2
      go_loopw [3, 5] (fun o i wq => ∃ x : Nat, x ≤ W ∧ i = .int .i8 (x : Int) ∧ wq.ownsRow w.heap.size 48 2 o (y * W + x) (tC W (y * W + x)) ∧ Below w.heap.size w wq) (fun _ i _ => (W : Nat) - (intOf i).toNat)
      case atStart => exact ⟨0, Nat.zero_le _, rfl, HR.out, hb⟩
      case round =>
        clear c0 c1 HR hb
        obtain ⟨x, hx, rfl, hrow, hb⟩ := hrel
        have c0 := room_cell0 (below_row hb HG.out)
        by_cases hlx : x < W
        · have y1 : (x : Int) < (W : Int) := by omega
          have hn : y * W + x < 100 := by
            have h2 : y * W ≤ 9 * 10 := Nat.mul_le_mul (by omega) hW1
            omega
          have hw1 := i8_small ((x : Int) + 1) (by omega) (by omega)
          have hsz := hb.size
          have HN := Lib.hid (tC_succ W hW (y := y) hlx)
          go_wp2_with (at_builtin; refine wpList_append_own _ rfl _ _ 28 rfl w.heap.size 48 i0 (.agg #[.int .i8 0, .int .i8 0]) 2 2 Tryd.underlying28 hi hz0 hz1 hz2 rfl (by decide) _ _ _ rfl (hrow.alloc _) ⟨_, 0, none⟩ 1 1 [.int .i8 (x : Int), .int .i8 (y : Int)] rfl rfl (cells_newE _ #[.int .i8 (x : Int), .int .i8 (y : Int)] _) (by intro u hu; simp at hu; rcases hu with rfl | rfl <;> rfl) (by unfold maxLen; omega) (by omega) (by simp; omega) ?_; intro v' w1 hown' hgrow _)
          go_roundw
          case rel => exact ⟨x + 1, by omega, by first | (simp; done) | (simp; omega), by rw [← Nat.add_assoc, HN.out]; exact hown', (hb.alloc hsz _).grown hgrow (by simp; omega) (fun j e => (hrow.lt j e).1)⟩
          case measure => simp [intOf]; omega
        · obtain rfl : x = W := by omega
          have hw1 := i8_small ((y : Int) + 1) (by omega) (by omega)
          go_wp2
          go_roundw
          case rel => exact ⟨y + 1, by omega, by first | (simp; done) | (simp; omega), by rw [Nat.add_mul, Nat.one_mul]; exact hrow, hb⟩
          case measure => simp [intOf]; omega
    · obtain rfl : y = H := by omega
      go_wp2
      go_ret
      exact ⟨⟨_, rfl, by rw [Nat.mul_comm W y]; exact HR.out⟩, hb⟩

end Go.Proofs.YtddnfbpgldchcaaDoor
