/-
  An order in memory: the first one, the numbers of a list in an order, the next order: the program.
-/
import Derived.Test.YtjpnbcfdnolcjabGoP
import Derived.Test.YtjpnbcfdnolcjabOrd
import Derived.Test.YtjpnbcfdnolcjabListLaw
import Derived.IntWalk
import Derived.Shelf.SlicesE.Reverse
import Derived.Shelf.SlGeneric
import Derived.Deep.Cut
import Derived.Deep.DeepCutAuto
namespace Go.Proofs.Ytjpnbcfdnolcjab
open Go.ChangeShapes Go.WideShapes Go.ChangeAt Go.RowKit Go.Deep Go.Joins

attribute [local go_sem] run_store_f

open Go.Shelf in
def layRevI_ren : Go.Shelf.Ren := ⟨fun | 35 => 79 | n => n, fun | 0 => 0 | 3 => 3 | 4 => 4 | 22 => 33 | 23 => 2 | n => n, fun n => n⟩

open Go.Shelf in
theorem layRevI : SlLaysE.n35 Try.prog layRevI_ren :=
  {
    mixed := by kernel_rfl,
    f35 := ⟨Try.f79.name, by decide, Try.func79.trans (congrArg some (by kernel_rfl))⟩,
    t0 := Try.underlying0,
    a0 := Try.isAgg0,
    z0 := Try.sizeOf0,
    v0 := Try.zeroValue0,
    t3 := Try.underlying3,
    a3 := Try.isAgg3,
    z3 := Try.sizeOf3,
    v3 := Try.zeroValue3,
    t4 := Try.underlying4,
    a4 := Try.isAgg4,
    z4 := Try.sizeOf4,
    v4 := Try.zeroValue4,
    t22 := Try.underlying33,
    a22 := Try.isAgg33,
    z22 := Try.sizeOf33,
    v22 := Try.zeroValue33,
    a23 := Try.isAgg2,
    z23 := Try.sizeOf2 }

theorem info_i64 : (Try.prog.info? 2).map (fun i => (i.zero, i.size, i.bytes)) = some (some (.int .i64 0), 1, 8) := by kernel_rfl

theorem make_ints (n : Nat) (hn : n ≤ 1048576) (w : World) : (Instr.makeSlice 33 (.int .i64 (n : Int)) (.int .i64 (n : Int))).run Try.prog w = .ok (.slice (some ⟨w.heap.size, 0, none⟩) n n) (w.alloc (.cells (madeCells #[.int .i64 0] n) 2)) := by
  obtain ⟨i0, hi, hz0, hz1, hz2⟩ := info_parts info_i64
  have h := run_make (P := Try.prog) w 33 2 i0 _ Try.underlying33 hi hz0 .i64 .i64 (n : Int) (n : Int) (by omega) (Int.le_refl _) (by rw [hz2]; omega) (by omega)
  rw [hz1] at h
  simpa [Value.cells] using h

/-- An order lies in a block. -/
def IRow (W : World) (g : Nat) (o : List Nat) : Prop := ∃ cur : Array Value, W.heap[g]? = some (.cells cur 2 (0, 0)) ∧ cur.size = o.length ∧ ∀ (j x : Nat), o[j]? = some x → cur[j]? = some (Value.int .i64 (x : Int))

theorem irow_lt {W : World} {g : Nat} {o : List Nat} (h : IRow W g o) : g < W.heap.size := by
  obtain ⟨cur, h1, _, _⟩ := h
  exact (Array.getElem?_eq_some_iff.1 h1).1

theorem irow_keep {W W' : World} {g : Nat} {o : List Nat} (h : IRow W g o) (hb : Below W.heap.size W W') : IRow W' g o := by
  have hl := irow_lt h
  obtain ⟨cur, h1, h2, h3⟩ := h
  exact ⟨cur, by rw [hb.block g hl]; exact h1, h2, h3⟩

theorem irow_other {W W' : World} {g g2 : Nat} {o : List Nat} (h : IRow W g o) (hb : W.grownBy W' (some g2)) (hne : g ≠ g2) : IRow W' g o := by
  have hl := irow_lt h
  obtain ⟨cur, h1, h2, h3⟩ := h
  exact ⟨cur, by rw [hb.block g hl (by simpa using hne)]; exact h1, h2, h3⟩

theorem irow_cell {W : World} {g : Nat} {o : List Nat} (h : IRow W g o) {j : Nat} (hj : j < o.length) : W.cell? ⟨g, j, none⟩ = some (.int .i64 ((o.getD j 0 : Nat) : Int)) ∧ W.frozen? ⟨g, j, none⟩ = false := by
  obtain ⟨cur, h1, h2, h3⟩ := h
  exact ⟨cell_k h1 (h3 j _ (getD_get hj)), frozen_of_row W g j _ _ h1⟩

theorem irow_set {W : World} {g : Nat} {o : List Nat} (h : IRow W g o) (j x : Nat) : IRow (W.setCell ⟨g, j, none⟩ (.int .i64 (x : Int))) g (o.set j x) := by
  obtain ⟨cur, h1, h2, h3⟩ := h
  refine ⟨_, heap_setCell_same _ _ _ _ _ _ h1, by simpa using h2, fun k y hy => ?_⟩
  rw [List.getElem?_set] at hy
  rw [Array.getElem?_setIfInBounds]
  by_cases e : j = k
  · subst e
    rw [if_pos rfl] at hy ⊢
    by_cases c : j < o.length
    · rw [if_pos c] at hy
      obtain rfl := Option.some.inj hy
      rw [if_pos (by omega)]
    · rw [if_neg c] at hy; cases hy
  · rw [if_neg e] at hy ⊢
    exact h3 k y hy

theorem irow_own {W : World} {g B : Nat} {o : List Nat} (h : IRow W g o) (hB : B ≤ g) (hn : o.length ≤ 48) : Own W B 2 (Value.int .i64) (.slice (some ⟨g, 0, none⟩) o.length o.length) (o.map fun (x : Nat) => (x : Int)) := by
  obtain ⟨cur, h1, h2, h3⟩ := h
  refine ⟨_, o.length, by rw [List.length_map], by unfold maxLen; omega, by rw [List.length_map]; exact Nat.le_refl _, .inr ⟨g, cur, rfl, hB, h1, fun k hk => ?_⟩⟩
  rw [List.length_map] at hk
  rw [h3 k _ (getD_get hk), List.getElem?_map, getD_get hk]; rfl

def encN (x : Nat) : Value := .int .i64 (x : Int)

theorem irow_holds {W : World} {g : Nat} {o : List Nat} (h : IRow W g o) (s : Nat) : Go.Sort.Holds encN W g s (o.drop s).toArray := by
  intro j hj
  have hj2 : s + j < o.length := by simp at hj; omega
  obtain ⟨a, b⟩ := irow_cell h hj2
  refine ⟨?_, b⟩
  rw [a]
  have e : (o.drop s).toArray[j]! = o.getD (s + j) 0 := by
    rw [getElem!_pos _ j hj]
    simp [List.getD, hj2]
  rw [e]; rfl

theorem irow_rev {W : World} {g s q : Nat} {o : List Nat} (h : IRow W g o) : IRow (Go.Sort.putRow encN (Go.Sort.ahead W q) g s (o.drop s).reverse.toArray) g (revT o s) := by
  obtain ⟨cur, h1, h2, h3⟩ := h
  refine ⟨Go.Sort.putCells encN s (o.drop s).reverse.toArray cur, ?_, ?_, fun k x hx => ?_⟩
  · simp [Go.Sort.putRow, Go.Sort.mapBlock, Go.Sort.ahead, Array.getElem?_modify, h1, Go.Sort.onCells]
  · simp [Go.Sort.putCells, revT, h2]; omega
  · have hk : k < (revT o s).length := (List.getElem?_eq_some_iff.1 hx).1
    have hk2 : k < o.length := by simp [revT] at hk; omega
    have hkc : k < cur.size := by omega
    rw [Go.Sort.putCells, Array.getElem?_mapIdx, Array.getElem?_eq_getElem hkc]
    unfold revT at hx
    by_cases c : s ≤ k
    · have hc2 : s ≤ k ∧ k < s + (o.drop s).reverse.toArray.size := ⟨c, by simp; omega⟩
      rw [Option.map_some, if_pos hc2]
      have hlt : (o.take s).length ≤ k := by simp; omega
      rw [List.getElem?_append_right hlt] at hx
      have hts : (o.take s).length = s := by simp; omega
      rw [hts] at hx
      have hj := (List.getElem?_eq_some_iff.1 hx).1
      rw [getElem!_pos _ (k - s) (by simpa using hj)]
      have := (List.getElem?_eq_some_iff.1 hx).2
      simp only [List.getElem_toArray]
      rw [this]; rfl
    · rw [Option.map_some, if_neg (fun h => c h.1)]
      rw [List.getElem?_append_left (by simp; omega), List.getElem?_take_of_lt (by omega)] at hx
      rw [← h3 k x hx, Array.getElem?_eq_getElem hkc]

theorem put_grown {W0 W : World} {g s q : Nat} {d : Array Nat} (h : W0.grownBy W (some g)) : W0.grownBy (Go.Sort.putRow encN (Go.Sort.ahead W q) g s d) (some g) :=
  ⟨h.os, h.tape, h.output, by simpa [Go.Sort.putRow, Go.Sort.mapBlock, Go.Sort.ahead] using h.size, fun k hk hne => by
    rw [← h.block k hk hne]
    have e : g ≠ k := fun e => hne (by rw [e])
    simp [Go.Sort.putRow, Go.Sort.mapBlock, Go.Sort.ahead, Array.getElem?_modify, e]⟩

theorem set_grown {W0 W : World} {g j : Nat} {v : Value} (h : W0.grownBy W (some g)) : W0.grownBy (W.setCell ⟨g, j, none⟩ v) (some g) :=
  ⟨h.os, h.tape, h.output, by simpa [World.setCell] using h.size, fun k hk hne => by
    rw [← h.block k hk hne]
    exact heap_setCell_other _ _ _ _ (fun e => hne (by rw [e]))⟩

theorem irow_new {W : World} {n : Nat} : IRow (W.alloc (.cells (madeCells #[.int .i64 0] n) 2)) W.heap.size (List.replicate n 0) := by
  refine ⟨_, heap_alloc_new _ _, by simp [size_madeCells], fun j x hx => ?_⟩
  have hj : j < n := by simpa using (List.getElem?_eq_some_iff.1 hx).1
  obtain rfl : 0 = x := by simpa [hj] using hx
  rw [madeCells, Array.getElem?_map, Array.getElem?_range, if_pos hj]
  simp [Nat.mod_one]

/-- An order of the call's own. -/
def RowRet (o : List Nat) (w : World) (e : Ending) (w' : World) : Prop := ∃ g, e = .returned (.slice (some ⟨g, 0, none⟩) o.length o.length) ∧ w.heap.size ≤ g ∧ IRow w' g o ∧ Below w.heap.size w w'

set_option maxRecDepth 100000 in
set_option maxHeartbeats 4000000 in
theorem firstOrder_any (n : Nat) (hn : n ≤ 48) (w : World) : Calls Try.prog 60 #[.int .i64 n] w (RowRet (List.range n) w) := by
  have hmk := fun w => make_ints n (by omega) w
  go_enter Try.func60, Try.ntmps60
  go_wp2
  go_loopw [9] (fun i wr => ∃ k : Nat, k ≤ n ∧ i = .int .i64 k ∧ Below w.heap.size w wr ∧ ∃ cur : Array Value, wr.heap[w.heap.size]? = some (.cells cur 2 (0, 0)) ∧ cur.size = n ∧ ∀ (j : Nat), j < k → cur[j]? = some (Value.int .i64 (j : Int))) (fun i _ => n - (intOf i).toNat)
  case atStart => exact ⟨0, Nat.zero_le _, rfl, (Below.refl _ _).alloc (Nat.le_refl _) _, _, heap_alloc_new _ _, size_madeCells _ _, fun j hj => by omega⟩
  case round =>
    clear hmk
    obtain ⟨k, hk, rfl, hb, cur, hg, hs, hp⟩ := hrel
    have HP := Lib.hid hp
    have HG2 := Lib.hid hg
    by_cases hlt : k < n
    · have z1 : (k : Int) < (n : Int) := by omega
      have z2 : (0 : Int) ≤ (k : Int) := by omega
      have z3 : decide ((k : Int) < (n : Int)) = true := decide_eq_true z1
      have q1 : wr.cell? ⟨w.heap.size, k, none⟩ = some (cur[k]'(by omega)) := by rw [cell_of_row wr _ _ _ _ _ hg]; exact Array.getElem?_eq_getElem (by omega)
      have q2 := frozen_of_row wr w.heap.size k _ _ hg
      clear hp hg
      go_wp2
      go_roundw
      case rel =>
        refine ⟨k + 1, by omega, by go_num, hb.setCell (p := ⟨w.heap.size, k, none⟩) (Nat.le_refl _) _, cur.setIfInBounds k (.int .i64 (k : Int)), heap_setCell_same _ _ _ _ _ _ HG2.out, by simpa using hs, fun j hj => ?_⟩
        rw [Array.getElem?_setIfInBounds]
        by_cases e : k = j
        · subst e
          rw [if_pos rfl, if_pos (by omega)]
        · rw [if_neg e]; exact HP.out j (by omega)
      case measure => simp [intOf]; omega
    · obtain rfl : k = n := by omega
      have HR : Hid (IRow wr w.heap.size (List.range k)) := by
        refine ⟨cur, HG2.out, by simpa using hs, fun j x hx => ?_⟩
        have hj : j < k := by simpa using (List.getElem?_eq_some_iff.1 hx).1
        obtain rfl : j = x := by simpa [hj] using hx
        exact HP.out j hj
      clear hp hg
      go_wp2
      go_ret
      exact ⟨_, by simp [List.length_range], Nat.le_refl _, HR.out, hb⟩

set_option maxRecDepth 100000 in
set_option maxHeartbeats 4000000 in
theorem inOrder_any (sv : Value) (zs o : List Nat) (g : Nat) (hlen : o.length ≤ 48) (ho : ∀ x ∈ o, x < zs.length) (w : World) (hz : FloatsAt w sv zs) (hr : IRow w g o) :
    Calls Try.prog 63 #[sv, .slice (some ⟨g, 0, none⟩) o.length o.length] w fun e w' => ∃ v, e = .returned v ∧ FloatsAt w' v (o.map fun i => zs.getD i 0) ∧ Below w.heap.size w w' := by
  have HZ := Lib.hid hz
  have HR := Lib.hid hr
  have HO := Lib.hid ho
  obtain ⟨a, cap, rfl, hl, hm, _⟩ := hz
  unfold maxLen at hm
  generalize hn : o.length = n at *
  have HN := Lib.hid hn
  generalize hm2 : zs.length = m at *
  have HM := Lib.hid hm2
  have hmk := fun w => make_floats n (by omega) w
  clear hn hm2 ho hr
  go_enter Try.func63, Try.ntmps63
  go_wp2
  go_loopw [13] (fun i wr => ∃ k : Nat, k ≤ n ∧ i = .int .i64 k ∧ Below w.heap.size w wr ∧ ∃ cur : Array Value, wr.heap[w.heap.size]? = some (.cells cur 23 (0, 0)) ∧ cur.size = n ∧ ∀ j x, j < k → o[j]? = some x → cur[j]? = some (.float .f32 (zs.getD x 0))) (fun i _ => n - (intOf i).toNat)
  case atStart => exact ⟨0, Nat.zero_le _, rfl, (Below.refl _ _).alloc (Nat.le_refl _) _, _, heap_alloc_new _ _, size_madeCells _ _, fun j x hj => by omega⟩
  case round =>
    clear hmk
    obtain ⟨k, hk, rfl, hb, cur, hg, hs, hp⟩ := hrel
    have HP := Lib.hid hp
    have HG2 := Lib.hid hg
    by_cases hlt : k < n
    · have hx := getD_get (l := o) (i := k) (by rw [HN.out]; exact hlt)
      have c1 := (irow_cell (irow_keep HR.out hb) (j := k) (by rw [HN.out]; exact hlt)).1
      have hxm := HO.out _ (List.mem_of_getElem? hx)
      have HX := Lib.hid hx
      clear hx
      generalize o.getD k 0 = x at *
      have hy := getD_get (l := zs) (i := x) (by rw [HM.out]; exact hxm)
      obtain ⟨g2, o2, rfl, hc⟩ := float_at (floats_below HZ.out hb) hy
      have z1 : (k : Int) < (n : Int) := by omega
      have z2 : (0 : Int) ≤ (k : Int) := by omega
      have z3 : decide ((k : Int) < (n : Int)) = true := decide_eq_true z1
      have z4 : (x : Int) < (m : Int) := by omega
      have z5 : (0 : Int) ≤ (x : Int) := by omega
      have q1 : wr.cell? ⟨w.heap.size, k, none⟩ = some (cur[k]'(by omega)) := by rw [cell_of_row wr _ _ _ _ _ hg]; exact Array.getElem?_eq_getElem (by omega)
      have q2 := frozen_of_row wr w.heap.size k _ _ hg
      clear hp hg hy
      generalize hY : zs.getD x 0 = y at *
      have HY := Lib.hid hY
      clear hY
      go_wp2
      go_roundw
      case rel =>
        refine ⟨k + 1, by omega, by go_num, hb.setCell (p := ⟨w.heap.size, k, none⟩) (Nat.le_refl _) _, cur.setIfInBounds k (.float .f32 y), heap_setCell_same _ _ _ _ _ _ HG2.out, by simpa using hs, fun j u hj hu => ?_⟩
        rw [Array.getElem?_setIfInBounds]
        by_cases e : k = j
        · subst e
          rw [HX.out] at hu
          obtain rfl := Option.some.inj hu
          rw [if_pos rfl, if_pos (by omega), HY.out]
        · rw [if_neg e]; exact HP.out j u (by omega) hu
      case measure => simp [intOf]; omega
    · obtain rfl : k = n := by omega
      have HF : Hid (FloatsAt wr (.slice (some ⟨w.heap.size, 0, none⟩) k k) (o.map fun i => zs.getD i 0)) := by
        refine ⟨_, k, by rw [List.length_map, HN.out], by rw [List.length_map, HN.out]; exact Nat.le_refl _, by unfold maxLen; omega, fun i x hx => ⟨w.heap.size, 0, rfl, ?_⟩⟩
        rw [List.getElem?_map, Option.map_eq_some_iff] at hx
        obtain ⟨u, hu, rfl⟩ := hx
        rw [Nat.zero_add]
        exact cell_k HG2.out (HP.out i u (by have := (List.getElem?_eq_some_iff.1 hu).1; have := HN.out; omega) hu)
      clear hp hg
      go_wp2
      go_ret
      exact ⟨_, rfl, HF.out, hb⟩

end Go.Proofs.Ytjpnbcfdnolcjab
