/-
  Tilts, List, RoundL, Where, ListLaw, TaA, TaW.
-/
import Derived.RangeFuncNested
import Derived.RangeFuncBound
import Derived.RangeFuncCalls
import Derived.RangeFuncLeaves
import Derived.RangeFuncFrom
import Derived.RangeFuncWrites
import Derived.Shelf.Abstract
import Derived.Shelf.RegionOpen
import Derived.OwnWalkIn
import Derived.TacticsInMore
import Derived.LoopNIn
import Derived.LoopIn
import Derived.Sort.AtCallIn
import Derived.Test.YtdbleddcnknmiaaGreatDoorMg3
import Derived.Test.YtdbleddcnknmiaaGreatDoorMg2
import Derived.Test.YtdbleddcnknmiaaGreatDoorRows
import Derived.WalkSpells
import Derived.WalkLawsBesides
import Derived.Lib.Hide
import Derived.Deep.Cut
import Derived.Deep.DeepCutAuto
import Derived.RangeFuncBox
import Derived.Maps.AppendAt
import Derived.Test.YtdbleddcnknmiaaGreatDoorMg4

namespace Go.Proofs.YtdbleddcnknmiaaGreatDoor
open Go.RowKit Go.Shelf

/-- A tilt. -/
abbrev Tl := { x : Int // -64 ≤ x ∧ x ≤ 64 }

def tl (k : Nat) : Tl := ⟨((k % 129 : Nat) : Int) - 64, by omega⟩

theorem tl_val (k : Nat) (h : k < 129) : (tl k).1 = (k : Int) - 64 := by simp [tl, Nat.mod_eq_of_lt h]

def tls (k : Nat) : List Tl := (List.range k).map tl

theorem tls_succ (k : Nat) : tls (k + 1) = tls k ++ [tl k] := by simp [tls, List.range_succ]
@[simp] theorem tls_length (k : Nat) : (tls k).length = k := by simp [tls]

/-- One block stays as it is. -/
def KeepsAt (g : Nat) (A B : World) : Prop := ∀ o, A.heap[g]? = some o → B.heap[g]? = some o

theorem keepsAt_t {g : Nat} {A B C : World} (h : KeepsAt g A B) (k : KeepsAt g B C) : KeepsAt g A C := fun o ho => k o (h o ho)

theorem keepsAt_b {g : Nat} {w : World} (hg : g < w.heap.size) (W : World) (l : Nat) (o o' : Obj) (hl : w.heap.size ≤ l) (_ : W.heap[l]? = some o) (_ : o.isCells = false) (_ : o.isWalk = false) : KeepsAt g W (W.putObj l o') := by
  intro x hx
  rw [World.putObj_heap_other (by omega)]; exact hx

theorem grown_of_below {w w' : World} (h : Below w.heap.size w w') (row : Option Nat) : w.grownBy w' row := ⟨h.os, h.tape, h.output, h.size, fun k hk _ => h.block k hk⟩

set_option maxRecDepth 100000 in
set_option maxHeartbeats 1000000 in
theorem eachTilted_in (n : Int) (wd gp : Nat) (t : Int) (sh : Nat) (gb : Nat) (m : Nat) (l : Nat) (J Jx : List Tl → World → Prop)
    (hY : ∀ pre x W, J pre W → pre.length < 129 → YieldAt Fence.wide (m + 1) Tryz.prog l #[.agg (blindC n wd gp x.1 sh)] W fun e W' =>
      (e = .returned (.bool true) ∧ J (pre ++ [x]) W' ∧ KeepsAt gb W W') ∨ (e = .returned (.bool false) ∧ Jx (pre ++ [x]) W'))
    (W : World) (hJ : AbidesFrom W.heap.size J) (h0 : J [] W) (hg : W.heap[gb]? = some (.cells (blindC n wd gp t sh) 33 (0, 0))) :
    CallsIn Fence.wide (m + 2) Tryz.prog 93 #[.func (.yield l) #[] #[], .pointer (some ⟨gb, 0, none⟩)] W fun e W' => (∃ v, e = .returned v) ∧
      ((∃ xs, xs = tls 129 ∧ J xs W') ∨ (∃ pre, (∃ k, k ≤ 129 ∧ pre = tls k) ∧ Jx pre W')) := by
  refine callsIn_of_wp Tryz.func93 rfl trivial ?_ rfl
  simp only [Tryz.ntmps93, List.size_toArray, List.length_cons, List.length_nil, Nat.reduceAdd, Nat.reduceSub, Array.replicate_succ, Array.replicate_zero, List.push_toArray, List.append_toArray, List.nil_append, List.cons_append]
  gi_wp2
  gi_loopw [3] (fun i wr => ∃ k : Nat, k ≤ 129 ∧ i = .int .i64 ((k : Int) - 64) ∧ J (tls k) wr ∧ wr.heap[gb]? = some (.cells (blindC n wd gp t sh) 33 (0, 0))) (fun i _ => (65 - intOf i).toNat)
  case atStart => exact ⟨0, Nat.zero_le _, rfl, h0, hg⟩
  case round =>
    obtain ⟨k, hk, rfl, hJs, hgk⟩ := hrel
    by_cases hlt : k < 129
    · have HT := Lib.hid (fun w => tilted_any2 n wd gp t sh ((k : Int) - 64) (by omega) (by omega) w)
      have HGK := Lib.hid hgk
      have HJS := Lib.hid hJs
      clear hgk hJs
      obtain ⟨k0, k1, k2, k3, k4⟩ := blind_cells HGK.out
      have z0 : (-64 : Int) ≤ (k : Int) - 64 := by omega
      have z1 : (k : Int) - 64 ≤ 64 := by omega
      gi_wp2_with (refine ⟨trivial, (callsIn_wide.2 (HT.out _)).mono ?_⟩; rintro e W1 ⟨rfl, hb1⟩)
      obtain ⟨fn, tmps, assign, body, hy, hR⟩ := hY (tls k) (tl k) W1 (hJ (tls k) wr W1 none HJS.out (grown_of_below hb1 none) (fun r e => by cases e)) (by rw [tls_length]; exact hlt)
      rw [tl_val k hlt] at hy
      have HG1 := Lib.hid (below_row hb1 HGK.out)
      clear k0 k1 k2 k3 k4
      rw [hy]
      go_simp
      refine hR.mono ?_
      rintro e W3 (⟨rfl, hJ3, hk3⟩ | ⟨rfl, hJx3⟩)
      · gi_wp2
        go_roundw
        case rel => exact ⟨k + 1, by omega, by simp; omega, by rw [tls_succ]; exact hJ3, hk3 _ HG1.out⟩
        case measure => simp [intOf]; omega
      · gi_wp2
        refine bodyPost_ret (results_none rfl _ _ _) rfl ?_
        exact ⟨⟨_, rfl⟩, .inr ⟨_, ⟨k + 1, by omega, (tls_succ _).symm⟩, hJx3⟩⟩
    · obtain rfl : k = 129 := by omega
      gi_wp2
      go_end0
      exact ⟨⟨_, rfl⟩, .inl ⟨_, rfl, hJs⟩⟩

end Go.Proofs.YtdbleddcnknmiaaGreatDoor

namespace Go.Proofs.YtdbleddcnknmiaaGreatDoor
open Go.RowKit

/-- A slice of the call's own, from block number base on, that holds the elements xs. -/
def Own {α : Type} (w : World) (base : Nat) (E : TypeId) (mk : α → Value) (v : Value) (xs : List α) : Prop :=
  ∃ a cap, v = .slice a xs.length cap ∧ cap ≤ maxLen ∧ xs.length ≤ cap ∧
    ((a = none ∧ xs = []) ∨ ∃ g cur, a = some ⟨g, 0, none⟩ ∧ base ≤ g ∧ w.heap[g]? = some (.cells cur E (0, 0)) ∧ ∀ k, k < xs.length → cur[k]? = (xs[k]?).map mk)

theorem own_below {α : Type} {w w' : World} {base B : Nat} {E : TypeId} {mk : α → Value} {v : Value} {xs : List α} (h : Own w base E mk v xs) (hb : Below w.heap.size w w') (hB : B ≤ base) : Own w' B E mk v xs := by
  obtain ⟨a, cap, h1, h2, h3, h4⟩ := h
  refine ⟨a, cap, h1, h2, h3, h4.imp id ?_⟩
  rintro ⟨g, cur, e, hg, hc, hk⟩
  exact ⟨g, cur, e, by omega, below_row hb hc, hk⟩

/-- The block of a list that is not empty. -/
theorem own_get {α : Type} {w : World} {base : Nat} {E : TypeId} {mk : α → Value} {a : Option Addr} {n cap : Nat} {xs : List α} (h : Own w base E mk (.slice a n cap) xs) (k : Nat) (hk : k < n) :
    ∃ g cur, a = some ⟨g, 0, none⟩ ∧ base ≤ g ∧ w.heap[g]? = some (.cells cur E (0, 0)) ∧ n ≤ cap ∧ cap ≤ maxLen ∧ ∃ x, xs[k]? = some x ∧ cur[k]? = some (mk x) := by
  obtain ⟨a', cap', h1, h2, h3, h4⟩ := h
  injection h1 with e1 e2 e3
  subst e1 e3
  rcases h4 with ⟨_, rfl⟩ | ⟨g, cur, e, hg, hc, hx⟩
  · simp at e2; omega
  · have h5 := hx k (by omega)
    rw [List.getElem?_eq_getElem (by omega)] at h5
    exact ⟨g, cur, e, hg, hc, by omega, h2, _, List.getElem?_eq_getElem (by omega), h5⟩

theorem own_len {α : Type} {w : World} {base : Nat} {E : TypeId} {mk : α → Value} {v : Value} {xs : List α} (h : Own w base E mk v xs) : ∃ a cap, v = .slice a xs.length cap ∧ xs.length ≤ maxLen := by
  obtain ⟨a, cap, h1, h2, h3, h4⟩ := h
  exact ⟨a, cap, h1, by omega⟩

theorem cell_k {w : World} {g : Nat} {cur : Array Value} {E : TypeId} {fr : Nat × Nat} {k : Nat} {v : Value} (hc : w.heap[g]? = some (.cells cur E fr)) (hk : cur[k]? = some v) : w.cell? ⟨g, k, none⟩ = some v := by
  rw [cell_of_row w g k cur E fr hc, hk]

set_option maxRecDepth 100000 in
set_option maxHeartbeats 1000000 in
theorem eqI_same (xs : List Int) (v1 v2 : Value) (b1 b2 : Nat) (w : World) (h1 : Own w b1 2 (Value.int .i64) v1 xs) (h2 : Own w b2 2 (Value.int .i64) v2 xs) :
    Calls Tryz.prog 21 #[v1, v2] w fun e w' => e = .returned (.bool true) ∧ Below w.heap.size w w' := by
  obtain ⟨a1, c1, rfl, hm⟩ := own_len h1
  obtain ⟨a2, c2, rfl, _⟩ := own_len h2
  have HO1 : Hid (∀ wr, Below w.heap.size w wr → Own wr b1 2 (Value.int .i64) (.slice a1 xs.length c1) xs) := fun wr hb => own_below h1 hb (Nat.le_refl _)
  have HO2 : Hid (∀ wr, Below w.heap.size w wr → Own wr b2 2 (Value.int .i64) (.slice a2 xs.length c2) xs) := fun wr hb => own_below h2 hb (Nat.le_refl _)
  clear h1 h2
  generalize xs.length = n at *
  unfold maxLen at hm
  go_enter Tryz.func21, Tryz.ntmps21
  go_wp2
  go_loopw [5] (fun i wr => ∃ k : Nat, k ≤ n ∧ i = .int .i64 k ∧ Below w.heap.size w wr) (fun i _ => n - (intOf i).toNat)
  case atStart => exact ⟨0, Nat.zero_le _, rfl, Below.refl _ _⟩
  case round =>
    obtain ⟨k, hk, rfl, hb⟩ := hrel
    by_cases hlt : k < n
    · obtain ⟨g1, cur1, rfl, _, hg1, hc1, hm1, x, hx, hk1⟩ := own_get (HO1.out wr hb) k hlt
      obtain ⟨g2, cur2, rfl, _, hg2, hc2, hm2, y, hy, hk2⟩ := own_get (HO2.out wr hb) k hlt
      obtain rfl : x = y := by rw [hx] at hy; exact Option.some.inj hy
      have q1 := cell_k hg1 hk1
      have q2 := cell_k hg2 hk2
      unfold maxLen at hm1 hm2
      clear hg1 hg2 hk1 hk2 hx hy
      have z0 : (0 : Int) ≤ (k : Int) := by omega
      have z1 : (k : Int) < (n : Int) := by omega
      have z2 : decide ((k : Int) < (n : Int)) = true := decide_eq_true z1
      go_wp2
      refine wp_region_held_drew (S := (fun W => W.cell? ⟨g1, k, none⟩ = some (.int .i64 x) ∧ W.cell? ⟨g2, k, none⟩ = some (.int .i64 x) ∧ Below w.heap.size w W)) (by kernel_rfl) ⟨by simpa using q1, by simpa using q2, hb.drew⟩ (fun hHeld => ?_)
      refine take_op (i := 0) (d := 17) (v := ?_) rfl rfl (by kernel_rfl) (by kernel_rfl) (by kernel_rfl) (fun _ _ _ h => h) (Or.inl ⟨by rfl, ?hy0u1⟩) hHeld ?rest0u1
      case hy0u1 =>
        intro w' hS'
        obtain ⟨s1, s2, _⟩ := hS'
        go_simp
        try with_reducible rfl
      simp only [List.setIfInBounds_toArray, List.set_cons_zero, List.set_cons_succ]
      refine take_op (i := 1) (d := 18) (v := ?_) rfl rfl (by kernel_rfl) (by kernel_rfl) (by kernel_rfl) (fun _ _ _ h => h) (Or.inl ⟨by rfl, ?hy1u2⟩) hHeld ?rest1u2
      case hy1u2 =>
        intro w' hS'
        obtain ⟨s1, s2, _⟩ := hS'
        go_simp
        try with_reducible rfl
      simp only [List.setIfInBounds_toArray, List.set_cons_zero, List.set_cons_succ]
      refine take_op (i := 2) (d := 19) (v := ?_) rfl rfl (by kernel_rfl) (by kernel_rfl) (by kernel_rfl) (fun _ _ _ h => h) (Or.inl ⟨by rfl, ?hy2u3⟩) hHeld ?rest2u3
      case hy2u3 =>
        intro w' hS'
        obtain ⟨s1, s2, _⟩ := hS'
        go_simp
        try with_reducible rfl
      simp only [List.setIfInBounds_toArray, List.set_cons_zero, List.set_cons_succ]
      refine take_op (i := 3) (d := 20) (v := ?_) rfl rfl (by kernel_rfl) (by kernel_rfl) (by kernel_rfl) (fun _ _ _ h => h) (Or.inl ⟨by rfl, ?hy3u4⟩) hHeld ?rest3u4
      case hy3u4 =>
        intro w' hS'
        obtain ⟨s1, s2, _⟩ := hS'
        go_simp
        try with_reducible rfl
      simp only [List.setIfInBounds_toArray, List.set_cons_zero, List.set_cons_succ]
      refine take_op (i := 4) (d := 21) (v := ?_) rfl rfl (by kernel_rfl) (by kernel_rfl) (by kernel_rfl) (fun _ _ _ h => h) (Or.inl ⟨by rfl, ?hy4u5⟩) hHeld ?rest4u5
      case hy4u5 =>
        intro w' hS'
        obtain ⟨s1, s2, _⟩ := hS'
        go_simp
        try with_reducible rfl
      simp only [List.setIfInBounds_toArray, List.set_cons_zero, List.set_cons_succ]
      refine take_op (i := 5) (d := 22) (v := ?_) rfl rfl (by kernel_rfl) (by kernel_rfl) (by kernel_rfl) (fun _ _ _ h => h) (Or.inl ⟨by rfl, ?hy5u6⟩) hHeld ?rest5u6
      case hy5u6 =>
        intro w' hS'
        obtain ⟨s1, s2, _⟩ := hS'
        go_simp
        try with_reducible rfl
      simp only [List.setIfInBounds_toArray, List.set_cons_zero, List.set_cons_succ]
      refine take_op (i := 6) (d := 23) (v := ?_) rfl rfl (by kernel_rfl) (by kernel_rfl) (by kernel_rfl) (fun _ _ _ h => h) (Or.inl ⟨by rfl, ?hy6u7⟩) hHeld ?rest6u7
      case hy6u7 =>
        intro w' hS'
        obtain ⟨s1, s2, _⟩ := hS'
        go_simp
        try with_reducible rfl
      simp only [List.setIfInBounds_toArray, List.set_cons_zero, List.set_cons_succ]
      refine take_op (i := 7) (d := 24) (v := ?_) rfl rfl (by kernel_rfl) (by kernel_rfl) (by kernel_rfl) (fun _ _ _ h => h) (Or.inl ⟨by rfl, ?hy7u8⟩) hHeld ?rest7u8
      case hy7u8 =>
        intro w' hS'
        obtain ⟨s1, s2, _⟩ := hS'
        go_simp
        try with_reducible rfl
      simp only [List.setIfInBounds_toArray, List.set_cons_zero, List.set_cons_succ]
      refine take_op (i := 8) (d := 25) (v := ?_) rfl rfl (by kernel_rfl) (by kernel_rfl) (by kernel_rfl) (fun _ _ _ h => h) (Or.inl ⟨by rfl, ?hy8u9⟩) hHeld ?rest8u9
      case hy8u9 =>
        intro w' hS'
        obtain ⟨s1, s2, _⟩ := hS'
        go_simp
        try with_reducible rfl
      simp only [List.setIfInBounds_toArray, List.set_cons_zero, List.set_cons_succ]
      refine wpAnyH_done (by kernel_rfl) ?_ _
      have hbx := hHeld.2.2
      clear hHeld q1 q2 hb
      go_wp2
      go_roundw
      case rel => exact ⟨k + 1, by omega, by go_num, hbx⟩
      case measure => simp [intOf]; omega
    · obtain rfl : k = n := by omega
      go_wp2
      go_ret
      exact ⟨rfl, hb⟩

/-- The numbers that the helpers write. -/
def marks (k : Int) (n : Nat) : List Int := (List.range n).map (fun i : Nat => k + (i : Int))

theorem marks_len (k : Int) (n : Nat) : (marks k n).length = n := by simp [marks]

theorem marks_get (k : Int) (n i : Nat) (h : i < n) : (marks k n)[i]? = some (k + (i : Int)) := by simp [marks, h]

set_option maxRecDepth 100000 in
set_option maxHeartbeats 1000000 in
theorem heldI_same (m : Int) (n : Nat) (v : Value) (b : Nat) (w : World) (hm0 : 0 ≤ m) (hm1 : m ≤ 1000) (hn : n ≤ 2000000) (h1 : Own w b 2 (Value.int .i64) v (marks m n)) :
    Calls Tryz.prog 23 #[v, .int .i64 m] w fun e w' => e = .returned (.int .i64 (m + n)) ∧ Below w.heap.size w w' := by
  obtain ⟨a1, c1, rfl, hm⟩ := own_len h1
  have HO1 : Hid (∀ wr, Below w.heap.size w wr → Own wr b 2 (Value.int .i64) (.slice a1 (marks m n).length c1) (marks m n)) := fun wr hb => own_below h1 hb (Nat.le_refl _)
  rw [marks_len] at HO1 hm ⊢
  clear h1
  unfold maxLen at hm
  go_enter Tryz.func23, Tryz.ntmps23
  go_wp2
  go_loopw [1, 5] (fun q i wr => ∃ k : Nat, k ≤ n ∧ i = .int .i64 k ∧ q = .int .i64 (m + k) ∧ Below w.heap.size w wr) (fun _ i _ => n - (intOf i).toNat)
  case atStart => exact ⟨0, Nat.zero_le _, rfl, by simp, Below.refl _ _⟩
  case round =>
    obtain ⟨k, hk, rfl, rfl, hb⟩ := hrel
    by_cases hlt : k < n
    · obtain ⟨g1, cur1, rfl, _, hg1, hc1, hm1, x, hx, hk1⟩ := own_get (HO1.out wr hb) k hlt
      obtain rfl : m + (k : Int) = x := by rw [marks_get m n k hlt] at hx; exact Option.some.inj hx
      have q1 := cell_k hg1 hk1
      unfold maxLen at hm1
      clear hg1 hk1 hx
      have z0 : (0 : Int) ≤ (k : Int) := by omega
      have z1 : (k : Int) < (n : Int) := by omega
      go_wp2
      go_roundw
      case rel => exact ⟨k + 1, by omega, by go_num, by go_num, hb⟩
      case measure => simp [intOf]; omega
    · obtain rfl : k = n := by omega
      go_wp2
      go_ret
      exact ⟨rfl, hb⟩

/-- What writing into a list does: it holds other elements, and all else is as it was. -/
def Marked (w : World) (E : TypeId) (b : Nat) (v : Value) (m : Int) (n : Nat) (e : Ending) (w' : World) : Prop :=
  e = .returned (.int .i64 (m + n)) ∧ Own w' b E (Value.int .i64) v (marks m n) ∧ Below b w w' ∧ ∀ k o, w.heap[k]? = some o → (∀ g n c, v = .slice (some ⟨g, 0, none⟩) n c → k ≠ g) → w'.heap[k]? = some o

set_option maxRecDepth 100000 in
set_option maxHeartbeats 1000000 in
theorem markI_any (m : Int) (xs : List Int) (v : Value) (b : Nat) (w : World) (hm0 : 0 ≤ m) (hm1 : m ≤ 1000) (hn : xs.length ≤ 2000000) (h1 : Own w b 2 (Value.int .i64) v xs) :
    Calls Tryz.prog 22 #[v, .int .i64 m] w fun e w' => Marked w 2 b v m xs.length e w' := by
  by_cases hz : xs.length = 0
  · obtain ⟨a1, c1, rfl, hm⟩ := own_len h1
    have HR : Hid (∀ wr, Below w.heap.size w wr → Own wr b 2 (Value.int .i64) (.slice a1 xs.length c1) (marks m xs.length)) := by
      intro wr hb
      obtain ⟨a, cap, e1, e2, e3, e4⟩ := own_below h1 hb (Nat.le_refl _)
      refine ⟨a, cap, by rw [marks_len]; exact e1, e2, by rw [marks_len]; omega, ?_⟩
      rcases e4 with ⟨ea, _⟩ | ⟨g, cur, ea, eb, ec, _⟩
      · exact .inl ⟨ea, List.eq_nil_of_length_eq_zero (by rw [marks_len]; exact hz)⟩
      · exact .inr ⟨g, cur, ea, eb, ec, fun k hk => by rw [marks_len] at hk; omega⟩
    clear h1
    generalize xs.length = n at *
    subst hz
    go_enter Tryz.func22, Tryz.ntmps22
    go_wp2
    go_loopw [1, 5] (fun q i wr => q = .int .i64 m ∧ i = .int .i64 0 ∧ wr = w) (fun _ _ _ => 0)
    case atStart => exact ⟨rfl, rfl, rfl⟩
    case round =>
      obtain ⟨rfl, rfl, rfl⟩ := hrel
      go_wp2
      go_ret
      exact ⟨by simp, HR.out _ (Below.refl _ _), Below.refl _ _, fun k o hk _ => hk⟩
  · obtain ⟨a1, c1, rfl, hm⟩ := own_len h1
    obtain ⟨g, cur0, rfl, hbg, hg0, hc1, hmc, _, _, _⟩ := own_get h1 0 (by omega)
    have hsz : xs.length ≤ cur0.size := by
      obtain ⟨g', cur', e', _, hg0', _, _, x, _, hl⟩ := own_get h1 (xs.length - 1) (by omega)
      injection e' with e'
      injection e' with e'
      subst e'
      rw [hg0] at hg0'
      injection hg0' with e''
      injection e'' with e''
      subst e''
      have := (Array.getElem?_eq_some_iff.1 hl).1
      omega
    have HG := Lib.hid hg0
    clear h1 hg0
    generalize hln : xs.length = n at *
    unfold maxLen at hmc
    go_enter Tryz.func22, Tryz.ntmps22
    go_wp2
    go_loopw [1, 5] (fun q i wr => ∃ k : Nat, k ≤ n ∧ i = .int .i64 k ∧ q = .int .i64 (m + k) ∧ Below b w wr ∧ (∀ j o, w.heap[j]? = some o → j ≠ g → wr.heap[j]? = some o) ∧ ∃ cur : Array Value, wr.heap[g]? = some (.cells cur 2 (0, 0)) ∧ n ≤ cur.size ∧ ∀ j, j < k → cur[j]? = some (.int .i64 (m + j))) (fun _ i _ => n - (intOf i).toNat)
    case atStart => exact ⟨0, Nat.zero_le _, rfl, by simp, Below.refl _ _, fun j o h _ => h, cur0, HG.out, hsz, fun j h => by omega⟩
    case round =>
      clear HG
      obtain ⟨k, hk, rfl, rfl, hb, hot, cur, hg, hs, hp⟩ := hrel
      have Hot := Lib.hid hot
      have Hp := Lib.hid hp
      have HG := Lib.hid hg
      by_cases hlt : k < n
      · have q1 : wr.cell? ⟨g, k, none⟩ = some (cur[k]'(by omega)) := cell_k hg (Array.getElem?_eq_getElem (by omega))
        have q2 := frozen_of_row wr g k _ _ hg
        have z0 : (0 : Int) ≤ (k : Int) := by omega
        have z1 : (k : Int) < (n : Int) := by omega
        clear hot hp hg
        go_wp2
        go_roundw
        case rel =>
          refine ⟨k + 1, by omega, by go_num, by go_num, hb.setCell (p := ⟨g, k, none⟩) hbg _, ?_, cur.setIfInBounds k (.int .i64 (m + k)), ?_, by simpa using hs, ?_⟩
          · intro j o h hne
            rw [heap_setCell_other _ _ _ _ (by simpa using hne)]
            exact Hot.out j o h hne
          · rw [heap_setCell_same _ _ _ _ _ _ HG.out]
          · intro j hj
            rw [Array.getElem?_setIfInBounds]
            by_cases e : k = j
            · subst e; rw [if_pos rfl, if_pos (by omega)]
            · rw [if_neg e]; exact Hp.out j (by omega)
        case measure => simp [intOf]; omega
      · obtain rfl : k = n := by omega
        have HR : Hid (Own wr b 2 (Value.int .i64) (.slice (some ⟨g, 0, none⟩) k c1) (marks m k)) := by
          refine ⟨_, c1, by rw [marks_len], by unfold maxLen; omega, by rw [marks_len]; exact hc1, .inr ⟨g, cur, rfl, hbg, hg, fun j hj => ?_⟩⟩
          rw [marks_len] at hj
          rw [hp j hj, marks_get m k j hj]; rfl
        clear hot hp hg
        go_wp2
        go_ret
        exact ⟨rfl, HR.out, hb, fun j o h hne => Hot.out j o h (hne g _ _ rfl)⟩

end Go.Proofs.YtdbleddcnknmiaaGreatDoor

namespace Go.Proofs.YtdbleddcnknmiaaGreatDoor
open Go Go.RowKit

theorem list_roundL {P : Program} {l n : Nat} {ops : Array Oper} {Q : Exit → Act → World → Prop} (hlo : ¬ LetsOut Q) :
    ∀ (os : List Oper) (_ : ∀ o ∈ os, ∀ c, o.op ≠ .defer c) (a : Act) (w : World), wpList P ops Q os a w → wpListIn (Fence.wide.inRound l) n P ops Q os a w
  | [], _, _, _, h => h
  | o :: os, hd, a, w, h => by
    unfold wpList at h
    unfold wpListIn
    split
    · rename_i hw
      rw [if_pos hw] at h
      have h2 := h.resolve_right (fun h => hlo h.2)
      exact Oper.wpIn_mono (fun a w h => list_roundL hlo os (fun o ho => hd o (List.mem_cons_of_mem _ ho)) a w h) (op_round (hd o List.mem_cons_self) h2)
    · rename_i hw
      rw [if_neg hw] at h
      exact ⟨fun _ _ => trivial, list_roundL hlo os (fun o ho => hd o (List.mem_cons_of_mem _ ho)) _ w h⟩

/-- A region that draws no order, in a round: from the law outside. -/
theorem region_plain_round {P : Program} {l n id : Nat} {os : List Oper} {Q : Exit → Act → World → Prop} {a : Act} {w : World} (hd : os.all (fun o => match o.op with | .defer _ => false | _ => true) = true) (hlo : ¬ LetsOut Q)
    (h : wpList P os.toArray Q os a w) : (Code.region id os.toArray false).wpIn (Fence.wide.inRound l) n P Q a w :=
  wpIn_region_lit (list_roundL hlo os (fun o ho c hc => by
    have := List.all_eq_true.1 hd o ho
    rw [hc] at this
    cases this) a w h)

theorem wp_onlyL {P : Program} {c : Code} {K : Act → World → Prop} {Q : Exit → Act → World → Prop} {a : Act} {w : World} (h : c.wp P (Exit.then K (fun _ _ _ => False)) a w) : c.wp P (Exit.then K Q) a w :=
  Code.wp_mono (fun e a w h => by cases e <;> first | exact h | exact h.elim) h

end Go.Proofs.YtdbleddcnknmiaaGreatDoor

namespace Go.Proofs.YtdbleddcnknmiaaGreatDoor
open Go.RowKit Go.Shelf

attribute [local go_sem] Oper.semAt_some run_store_f

/-- The tilts of a list that are wanted. -/
def wantT (p : Int → Bool) (pre : List Tl) : List Int := (pre.map (·.1)).filter p

theorem wantT_hit (p : Int → Bool) (pre : List Tl) (x : Tl) (h : p x.1 = true) : wantT p (pre ++ [x]) = wantT p pre ++ [x.1] := by simp [wantT, h]

theorem wantT_miss (p : Int → Bool) (pre : List Tl) (x : Tl) (h : p x.1 = false) : wantT p (pre ++ [x]) = wantT p pre := by simp [wantT, h]

theorem wantT_len (p : Int → Bool) (pre : List Tl) : (wantT p pre).length ≤ pre.length := by
  have := List.length_filter_le p (pre.map (·.1))
  rw [List.length_map] at this
  exact this

theorem heap_keptW {W W' : World} {row : Option Nat} {b : Nat} {cs : Array Value} {t : TypeId} {fr : Nat × Nat} (h : W.heap[b]? = some (.cells cs t fr)) (hg : W.grownBy W' row)
    (hr : ∀ r, row = some r → ∃ o : Obj, W.heap[r]? = some o ∧ o.isCells = false) : W'.heap[b]? = some (.cells cs t fr) := by
  have hlt := (Array.getElem?_eq_some_iff.1 h).1
  rw [← h]
  refine hg.block b hlt fun e => ?_
  obtain ⟨o, ho, hc⟩ := hr b e.symm
  rw [h] at ho
  cases ho
  cases hc

theorem keeps_of_belowW {W W1 : World} (hb : Below W.heap.size W W1) : KeepsOthers W W1 := ⟨hb.size, fun b _ ho _ => (hb.block b (Array.getElem?_eq_some_iff.1 ho).1).trans ho⟩

theorem laid_allw (cs vs : Array Value) (h : cs.size = vs.size) : laid cs vs 0 = vs := by
  apply Array.ext'
  simp [laid]
  rw [← h]; simp

theorem blind_onew (n : Int) (wd gp : Nat) (t : Int) (sh : Nat) : ∀ v ∈ blindC n wd gp t sh, v.oneCell' = true := by
  intro v hv
  simp only [blindC, List.mem_toArray, List.mem_cons, List.not_mem_nil, or_false] at hv
  rcases hv with rfl | rfl | rfl | rfl | rfl <;> rfl

theorem not_rowW {W : World} {g : Nat} {cs : Array Value} {t e : TypeId} {fr : Nat × Nat} (h : W.heap[g]? = some (.cells cs t fr)) (hte : t ≠ e) {base size k : Nat} {v : Value} {xs : List Value} (hr : W.ownsRow base e size v k xs) : some g ≠ v.ownBlock := by
  rcases hr.2 with ⟨rfl, _⟩ | ⟨g', cap, cur, rfl, _, hgb, _⟩
  · simp [Value.ownBlock]
  · intro e'
    obtain rfl : g = g' := by simpa [Value.ownBlock] using e'
    rw [h] at hgb
    injection hgb with e1
    injection e1 with _ e2 _
    exact hte e2

theorem kept_append {W w1 : World} {g b3 base k : Nat} {cs : Array Value} {t e : TypeId} {fr : Nat × Nat} {v u : Value} {xs : List Value} {tmp : Obj} (h : W.heap[g]? = some (.cells cs t fr)) (hte : t ≠ e) (hr : W.ownsRow base e 1 v k xs)
    (hg : (W.alloc tmp).grownBy w1 v.ownBlock) (hne : g ≠ b3) : (w1.setCell ⟨b3, 0, none⟩ u).heap[g]? = some (.cells cs t fr) := by
  rw [heap_setCell_other _ _ _ _ hne]
  have h1 : (W.alloc tmp).heap[g]? = some (.cells cs t fr) := below_row ((Below.refl W.heap.size W).alloc (Nat.le_refl _) _) h
  exact (hg.block g (row_lt h1) (not_rowW h hte hr)).trans h1

theorem owns_below {W w1 : World} {base k : Nat} {e : TypeId} {v : Value} {xs : List Value} (h : W.ownsRow base e 1 v k xs) (hb : Below W.heap.size W w1) : w1.ownsRow base e 1 v k xs :=
  h.kept (grown_of_below hb none) (by cases v.ownBlock <;> simp)

theorem own_of_row {α : Type} {W : World} {base : Nat} {e : TypeId} {mk : α → Value} {v : Value} {xs : List α} (h : W.ownsRow base e 1 v xs.length (xs.map mk)) (_ : xs.length ≤ maxLen) : Own W base e mk v xs := by
  rcases h.2 with ⟨rfl, hz⟩ | ⟨g, cap, cur, rfl, hbg, hg, hnc, hcm, hsz, htk⟩
  · exact ⟨none, 0, by rw [hz], Nat.zero_le _, by omega, .inl ⟨rfl, List.eq_nil_of_length_eq_zero hz⟩⟩
  · refine ⟨_, cap, rfl, hcm, hnc, .inr ⟨g, cur, rfl, hbg, hg, fun k hk => ?_⟩⟩
    have h1 : (cur.toList.take (xs.length * 1))[k]? = cur[k]? := by
      rw [List.getElem?_take_of_lt (by omega), Array.getElem?_toList]
    rw [← h1, htk, List.getElem?_map]

/-- A list cut to its length, behind the turn of a block that is no cells. -/
theorem own_cut {α : Type} {W : World} {base g cap D : Nat} {e : TypeId} {mk : α → Value} {xs : List α} {o o' : Obj} (h : Own W base e mk (.slice (some ⟨g, 0, none⟩) xs.length cap) xs) (hD : W.heap[D]? = some o) (ho : o.isCells = false) :
    Own (W.putObj D o') base e mk (.slice (some ⟨g, 0, none⟩) xs.length xs.length) xs := by
  obtain ⟨a, c, h1, h2, h3, h4⟩ := h
  injection h1 with e1 e2 e3
  refine ⟨_, _, rfl, by omega, Nat.le_refl _, ?_⟩
  rcases h4 with ⟨ea, _⟩ | ⟨g', cur, ea, hb, hc, hk⟩
  · rw [ea] at e1; cases e1
  · rw [ea] at e1
    injection e1 with e1
    injection e1 with e1
    subst e1
    refine .inr ⟨g, cur, rfl, hb, ?_, hk⟩
    rw [World.putObj_heap_other ?_]
    · exact hc
    · rintro rfl
      rw [hc] at hD
      injection hD with hD
      subst hD
      cases ho

/-- What the walk over the tilts keeps: the tilts so far, what asks, the blind that the iterator holds. -/
def WhereI (n : Int) (wd gp : Nat) (t : Int) (sh : Nat) (p : Int → Bool) (w : World) (b1 b3 gb : Nat) (fv : Value) (pre : List Tl) (W : World) : Prop :=
  (∃ v, Boxed W b3 47 v ∧ W.ownsRow w.heap.size 2 1 v (wantT p pre).length ((wantT p pre).map (Value.int .i64)) ∧ True) ∧ Boxed W b1 117 fv ∧ W.heap[gb]? = some (.cells (blindC n wd gp t sh) 33 (0, 0)) ∧ Below w.heap.size w W

theorem whereI_own (n : Int) (wd gp : Nat) (t : Int) (sh : Nat) (p : Int → Bool) (w : World) (b1 b3 gb : Nat) (fv : Value) (B : Nat) (hB : w.heap.size ≤ B) : OwnFrom B (WhereI n wd gp t sh p w b1 b3 gb fv) := by
  intro s W W' row ⟨h1, h2, h3, h4⟩ hg' hr
  have hr2 := fun r e => (hr r e).2
  refine ⟨Go.holdsRow_own w.heap.size b3 47 2 1 (fun pre => (wantT p pre).length) (fun pre => (wantT p pre).map (Value.int .i64)) (fun _ _ => True) s W W' row h1 hg' hr2, ?_, ?_, ownFrom_below (β := Unit) (Nat.le_refl _) hB () W W' row h4 hg' hr⟩
  · exact boxed_own (β := Unit) b1 117 (fun _ => fv) () W W' row h2 hg' hr2
  · exact heap_keptW h3 hg' hr2

theorem infoW : (Tryz.prog.info? 2).map (fun i => (i.zero, i.size, i.bytes)) = some (some (.int .i64 0), 1, 8) := by kernel_rfl

set_option maxRecDepth 100000 in
set_option maxHeartbeats 1000000 in
theorem eachTilted_any (n : Int) (wd gp : Nat) (t : Int) (sh : Nat) (w : World) :
    Calls Tryz.prog 80 #[.agg (blindC n wd gp t sh)] w fun e w' => e = .returned (.func (.func 93) #[] #[.pointer (some ⟨w.heap.size, 0, none⟩)]) ∧ w' = w.alloc (.cells (blindC n wd gp t sh) 33) := by
  go_enter Tryz.func80, Tryz.ntmps80
  go_wp2
  go_ret
  exact ⟨rfl, rfl⟩

theorem eachTilted_stops (n : Int) (wd gp : Nat) (t : Int) (sh : Nat) (gb : Nat) (w : World) (hg : w.heap[gb]? = some (.cells (blindC n wd gp t sh) 33 (0, 0))) :
    SeqStopsK Fence.wide 3 Tryz.prog 93 #[.pointer (some ⟨gb, 0, none⟩)] (fun x : Tl => #[.agg (blindC n wd gp x.1 sh)]) (KeepsAt gb) (fun xs => xs = tls 129) (fun pre => ∃ k, k ≤ 129 ∧ pre = tls k) 129 w := fun l J Jx W hW hJ _ hY h0 =>
  eachTilted_in n wd gp t sh gb 1 l J Jx hY W hJ h0 (below_row hW hg)

set_option maxRecDepth 100000 in
set_option maxHeartbeats 2000000 in
theorem tiltsWhere_any (n : Int) (wd gp : Nat) (t : Int) (sh : Nat) (Fc : FuncId) (hE : ∀ args w, (callFunc Fc args).run Tryz.prog w = .ok (.enter Fc args) w) (lbw : Array Value) (p : Int → Bool) (C : World → Prop) (w : World) (hC : ∀ W, Below w.heap.size w W → C W)
    (hP : ∀ (x : Int) (W : World), -64 ≤ x → x ≤ 64 → C W → Calls Tryz.prog Fc (#[.agg (blindC n wd gp x sh)] ++ lbw) W fun e W' => e = .returned (.bool (p x)) ∧ Below W.heap.size W W') :
    Calls Tryz.prog 60 #[.agg (blindC n wd gp t sh), .func (.func Fc) #[] lbw] w fun e w' => (∃ v, e = .returned v ∧ Own w' w.heap.size 2 (Value.int .i64) v (wantT p (tls 129))) ∧ Below w.heap.size w w' := by
  refine (callsIn_wide (n := 4)).1 ?_
  obtain ⟨i0, hi, hz0, hz1, hz2⟩ := info_parts infoW
  have hmk : ∀ w, (Instr.makeSlice 47 (.int .i64 0) (.int .i64 129)).run Tryz.prog w = .ok (.slice (some ⟨w.heap.size, 0, none⟩) 0 129) (w.alloc (.cells (List.replicate 129 (.int .i64 0)).toArray 2)) := fun _ => by kernel_rfl
  refine callsIn_of_wp_marks Tryz.func60 rfl trivial ?_ rfl
  simp only [Tryz.ntmps60, List.size_toArray, List.length_cons, List.length_nil, Nat.reduceAdd, Nat.reduceSub, Array.replicate_succ, Array.replicate_zero, List.push_toArray, List.append_toArray, List.nil_append, List.cons_append]
  refine wpIn_wide.2 ?_
  go_upto_region 2 with (fail)
  refine abs_world (fun W => Below w.heap.size w W ∧ W.heap[w.heap.size]? = some (.cells (blindC n wd gp t sh) 33 (0, 0)) ∧ Boxed W (w.heap.size + 1) 117 (.func (.func Fc) #[] lbw) ∧ Boxed W (w.heap.size + 1 + 1 + 1) 47 (.slice (some ⟨w.heap.size + 1 + 1, 0, none⟩) 0 129) ∧ W.ownsRow w.heap.size 2 1 (.slice (some ⟨w.heap.size + 1 + 1, 0, none⟩) 0 129) 0 []) ⟨(four_new _ _ _ _ _).2.2.2.2, (four_new _ _ _ _ _).1, (four_new _ _ _ _ _).2.1, (four_new _ _ _ _ _).2.2.2.1, by simp, .inr ⟨_, _, _, rfl, by omega, (four_new _ _ _ _ _).2.2.1, by omega, by decide, rfl, by simp⟩⟩ ?_
  rintro W ⟨hb, h0, hF, hS, hrow⟩
  have hlt := row_lt hF
  have hlt3 := row_lt hS
  generalize hb3 : w.heap.size + 1 + 1 + 1 = b3 at *
  generalize hb2 : w.heap.size + 1 + 1 = b2 at *
  generalize hb1 : w.heap.size + 1 = b1 at *
  have H0 := Lib.hid h0
  clear h0
  go_wp2_with (first | (refine wpList_load_part rfl 33 _ rfl w.heap.size 0 5 rfl 33 (blindC n wd gp t sh) (0, 0) _ H0.out Tryz.underlying33 rfl info_blind (blind_fits _ _ _ _ _) _ (blind_all _ _ _ _ _) ?_) | (go_at_call 80; refine (eachTilted_any _ _ _ _ _ _).mono ?_; rintro e w' ⟨rfl, rfl⟩))
  refine (wpIn_wide (n := 4)).1 ?_
  have hgl : w.heap.size ≤ W.heap.size := hb.size
  refine wpIn_rangeFunc_ownH rfl (by decide) (gf := 93) (lb := #[.pointer (some ⟨W.heap.size, 0, none⟩)]) rfl trivial (enters_of Tryz.func93 (by kernel_rfl) rfl)
    (eachTilted_stops n wd gp t sh W.heap.size _ (heap_alloc_new _ _)) keepsAt_t (keepsAt_b (by simp)) (Below.refl _ _) (fun _ => rfl)
    (WhereI n wd gp t sh p w b1 b3 W.heap.size (.func (.func Fc) #[] lbw)) (fun _ _ _ => False) (whereI_own _ _ _ _ _ _ _ _ _ _ _ _ (by simp; omega)) (fun _ _ _ _ _ hs _ _ => hs) ?h0
    (fun x a' V => ∃ b6 : Nat, a' = { tmps := #[.agg (blindC n wd gp t sh), .func (.func Fc) #[] lbw, .pointer (some ⟨w.heap.size, 0, none⟩), .pointer (some ⟨b1, 0, none⟩), .slice none 0 0, .pointer (some ⟨b3, 0, none⟩), .pointer (some ⟨b6, 0, none⟩), .slice (some ⟨b2, 0, none⟩) 0 129, .agg (blindC n wd gp t sh), .func (.func 93) #[] #[.pointer (some ⟨W.heap.size, 0, none⟩)], .agg (blindC n wd gp x.1 sh), undef, undef, undef, undef, undef, undef, undef, undef, undef, undef, undef, undef, undef, undef, undef], defers := [] } ∧ V.heap[b6]? = some (.cells (blindC n wd gp x.1 sh) 33 (0, 0)))
    (fun x a' s V V' row hx hg hr => by obtain ⟨b6, e, h⟩ := hx; exact ⟨b6, e, heap_keptW h hg (fun r e => (hr r e).2)⟩) ?assign ?body ?done ?stop
  case h0 =>
    exact ⟨⟨_, hS.alloc _, hrow.alloc _, trivial⟩, hF.alloc _, heap_alloc_new _ _, hb.alloc hb.size _⟩
  case assign =>
    rintro l pre x W2 K hI hK
    refine region_plain_round (by rfl) (fun ⟨_, _, h⟩ => h) ?_
    go_wp2_with (refine wpList_store_part rfl 33 _ _ rfl _ 0 (blindC n wd gp x.1 sh) rfl rfl 33 _ (heap_alloc_new _ _) (by kernel_rfl) (Nat.le_refl _) (blind_onew _ _ _ _ _) ?_; rw [laid_allw _ _ (by rfl)])
    have hbn : ∀ o, Below W2.heap.size W2 ((W2.alloc o).setRow W2.heap.size (blindC n wd gp x.1 sh)) := fun o => below_setRow ((Below.refl _ _).alloc (Nat.le_refl _) _) (Nat.le_refl _) _
    exact hK _ _ ((keeps_of_belowW (hbn _)).from _) (fun _ ho => below_row (hbn _) ho) (whereI_own _ _ _ _ _ _ _ _ _ _ _ _ (Nat.le_refl _) _ _ _ none hI (grown_of_below (hbn _) none) (fun r e => by cases e)) ⟨_, rfl, setRow_heap _ _ _ _ _ _ (heap_alloc_new _ _)⟩
  case body =>
    rintro l pre ⟨x, hx0, hx1⟩ a' W2 hl0 hlr ⟨⟨v, hv, hrow2, _⟩, hF2, hG2, hbw⟩ ⟨b6, rfl, h6⟩ hl
    have HP := Lib.hid (hP x W2 hx0 hx1 (hC W2 hbw))
    have H6 := Lib.hid h6
    have cF := hF2.cell
    dsimp only
    cases hp : p x with
    | true =>
      rw [hp] at HP
      refine wpIn_block (wpIn_seq ?_)
      refine region_plain_round (by rfl) (fun ⟨_, _, h⟩ => h) ?_
      go_wp2_with (first | (refine wpList_load_part rfl 33 _ rfl b6 0 5 rfl 33 (blindC n wd gp x sh) (0, 0) _ H6.out Tryz.underlying33 rfl info_blind (blind_fits _ _ _ _ _) _ (blind_all _ _ _ _ _) ?_) | (refine HP.out.mono ?_; rintro e W3 ⟨rfl, hb3⟩))
      have hv3 : Boxed W3 b3 47 v := below_row hb3 hv
      have hrow3 := owns_below hrow2 hb3
      have h63 := below_row hb3 H6.out
      obtain ⟨k0, k1, k2, k3, k4⟩ := blind_cells h63
      have hG3 := below_row hb3 hG2
      have hF3 : W3.heap[b1]? = some (.cells #[.func (.func Fc) #[] lbw] 117 (0, 0)) := below_row hb3 hF2
      have hbw3 := hbw.trans (hb3.mono hbw.size)
      have hcv := hv3.cell
      have hwl := wantT_len p pre
      have hsz3 := hbw3.size
      have hk23 := keeps_of_belowW hb3
      have HX : Hid (wantT p (pre ++ [⟨x, hx0, hx1⟩]) = wantT p pre ++ [x]) := wantT_hit p pre ⟨x, hx0, hx1⟩ hp
      have HG3 := Lib.hid hG3
      have HF3 := Lib.hid hF3
      have HKA : Hid (KeepsAt W.heap.size W2 W3) := fun o ho => below_row hb3 ho
      clear h63 hG3 hF3 hG2 hF2 cF H6 h6 hp hv hrow2 hb3 HP
      gi_wp2_with (gi_at_builtin; refine wpListIn_append_own _ rfl _ _ 47 rfl w.heap.size 2 i0 (.int .i64 0) 1 8 Tryz.underlying47 hi hz0 hz1 hz2 rfl (by decide) _ _ _ rfl (hrow3.alloc _) ⟨W3.heap.size, 0, none⟩ 1 1 [.int .i64 x] rfl rfl (cell_one_new _ _ _) (by simp [Value.oneCell']) (by unfold maxLen; omega) (by omega) (by simp; omega) ?_; intro v' w1 hown' hgrow _; obtain ⟨g', cap', rfl⟩ := ownsRow_succ hown'; obtain ⟨hv1, hv2, hr2, hk2, hbA⟩ := hv3.appended (by decide) hrow3 hsz3 (by omega) hown' hgrow; have hc1 := hv1.cell; have hf1 := hv1.frozen)
      refine ⟨(hk23.trans hk2).from _, ?_, ⟨_, hv2, ?_, trivial⟩, ?_, ?_, hbw3.trans hbA⟩
      · intro o ho
        have ho3 := HKA.out o ho
        rw [HG3.out] at ho3
        injection ho3 with ho3
        subst ho3
        exact kept_append HG3.out (by decide) hrow3 hgrow (by omega)
      · rw [HX.out]; simpa using hr2
      · exact kept_append HF3.out (by decide) hrow3 hgrow (by omega)
      · exact kept_append HG3.out (by decide) hrow3 hgrow (by omega)
    | false =>
      rw [hp] at HP
      refine wpIn_block (wpIn_seq ?_)
      refine region_plain_round (by rfl) (fun ⟨_, _, h⟩ => h) ?_
      go_wp2_with (first | (refine wpList_load_part rfl 33 _ rfl b6 0 5 rfl 33 (blindC n wd gp x sh) (0, 0) _ H6.out Tryz.underlying33 rfl info_blind (blind_fits _ _ _ _ _) _ (blind_all _ _ _ _ _) ?_) | (refine HP.out.mono ?_; rintro e W3 ⟨rfl, hb3⟩))
      have hwl : wantT p (pre ++ [⟨x, hx0, hx1⟩]) = wantT p pre := wantT_miss p pre ⟨x, hx0, hx1⟩ hp
      gi_wp2
      exact ⟨(keeps_of_belowW hb3).from _, fun o ho => below_row hb3 ho, ⟨v, below_row hb3 hv, by rw [hwl]; exact owns_below hrow2 hb3, trivial⟩, below_row hb3 hF2, below_row hb3 hG2, hbw.trans (hb3.mono hbw.size)⟩
  case done =>
    rintro D zs W2 hD rfl ⟨⟨v, hv, hrow2, -⟩, hF2, hG2, hbw⟩ hK
    rename_i K hcont
    have hcv := hv.cell
    have hD' : w.heap.size ≤ D := by simp at hD; omega
    have hwl := wantT_len p (tls 129)
    rw [tls_length] at hwl
    have HK := Lib.hid hK
    have HB := Lib.hid hbw
    have HO : Hid (Own W2 w.heap.size 2 (Value.int .i64) v (wantT p (tls 129))) := own_of_row hrow2 (by unfold maxLen; omega)
    clear hF2 hG2 hbw hv hK
    rcases hrow2.2 with ⟨rfl, hz⟩ | ⟨g, cap, cur, rfl, hbg, hg, hnc, hcm, hsz, htk⟩
    · refine hcont _ _ ?_
      go_wp2
      refine ⟨by simp, .inl ⟨_, _, rfl, run_takeDeferred HK.out, ?_⟩⟩
      refine ⟨_, results_tmp (fn := Tryz.f60) rfl _ _ _, ⟨_, rfl, ?_⟩, HB.out.trans (belowK_b (w := w) (Nat.le_refl _) W2 D _ _ hD' HK.out rfl rfl)⟩
      show Own _ _ _ _ (.slice none 0 0) _
      exact ⟨none, 0, by rw [hz], Nat.zero_le _, by omega, .inl ⟨rfl, List.eq_nil_of_length_eq_zero hz⟩⟩
    · have z0 : ((wantT p (tls 129)).length : Int) ≤ (cap : Int) := by omega
      have z1 : (0 : Int) ≤ ((wantT p (tls 129)).length : Int) := by omega
      have HG := Lib.hid hg
      clear hg htk
      refine hcont _ _ ?_
      go_wp2
      refine ⟨by simp, .inl ⟨_, _, rfl, run_takeDeferred HK.out, ?_⟩⟩
      refine ⟨_, results_tmp (fn := Tryz.f60) rfl _ _ _, ⟨_, rfl, ?_⟩, HB.out.trans (belowK_b (w := w) (Nat.le_refl _) W2 D _ _ hD' HK.out rfl rfl)⟩
      exact own_cut HO.out HK.out rfl
  case stop =>
    rintro D c pre W _ _ h _
    exact h.elim

end Go.Proofs.YtdbleddcnknmiaaGreatDoor

namespace Go.Proofs.YtdbleddcnknmiaaGreatDoor
open Go.RowKit

/-- The block of a list lies below B, or from B on. -/
def Under (v : Value) (B : Nat) : Prop := ∀ g n c, v = .slice (some ⟨g, 0, none⟩) n c → g < B

def Above (v : Value) (B : Nat) : Prop := ∀ g n c, v = .slice (some ⟨g, 0, none⟩) n c → B ≤ g

theorem under_of {α : Type} {w : World} {b : Nat} {E : TypeId} {mk : α → Value} {v : Value} {xs : List α} (h : Own w b E mk v xs) : Under v w.heap.size := by
  obtain ⟨a, c, rfl, _, _, h4⟩ := h
  intro g n c' e
  injection e with e1 e2 e3
  rcases h4 with ⟨ea, _⟩ | ⟨g', cur, ea, _, hc, _⟩
  · rw [ea] at e1; cases e1
  · rw [ea] at e1
    injection e1 with e1
    injection e1 with e1
    subst e1
    exact row_lt hc

theorem above_of {α : Type} {w : World} {b : Nat} {E : TypeId} {mk : α → Value} {v : Value} {xs : List α} (h : Own w b E mk v xs) : Above v b := by
  obtain ⟨a, c, rfl, _, _, h4⟩ := h
  intro g n c' e
  injection e with e1 e2 e3
  rcases h4 with ⟨ea, _⟩ | ⟨g', cur, ea, hb, hc, _⟩
  · rw [ea] at e1; cases e1
  · rw [ea] at e1
    injection e1 with e1
    injection e1 with e1
    subst e1
    exact hb

theorem under_mono {v : Value} {B C : Nat} (h : Under v B) (hBC : B ≤ C) : Under v C := fun g n c e => Nat.lt_of_lt_of_le (h g n c e) hBC

/-- A list is as it was, when another one has been written into. -/
theorem own_marked {α : Type} {w w' : World} {b B : Nat} {E : TypeId} {mk : α → Value} {v v1 : Value} {xs : List α} {m : Int} {n : Nat} {e : Ending} {E1 : TypeId} (h : Own w b E mk v xs) (hu : Under v B) (ha : Above v1 B) (hm : Marked w E1 B v1 m n e w') : Own w' b E mk v xs := by
  obtain ⟨a, c, rfl, h2, h3, h4⟩ := h
  refine ⟨a, c, rfl, h2, h3, h4.imp id ?_⟩
  rintro ⟨g, cur, rfl, hg, hc, hk⟩
  refine ⟨g, cur, rfl, hg, hm.2.2.2 g _ hc ?_, hk⟩
  intro g' n' c' e'
  have h5 := hu g _ _ rfl
  have h6 := ha g' _ _ e'
  omega

theorem row_marked {w w' : World} {B g : Nat} {v1 : Value} {m : Int} {n : Nat} {e : Ending} {E1 : TypeId} {o : Obj} (h : w.heap[g]? = some o) (hg : g < B) (ha : Above v1 B) (hm : Marked w E1 B v1 m n e w') : w'.heap[g]? = some o := by
  refine hm.2.2.2 g o h ?_
  intro g' n' c' e'
  have h6 := ha g' _ _ e'
  omega

/-- A list and a code, the list being the call's own. -/
def RetList (xs : List Int) (c : Int) (w : World) (e : Ending) (w' : World) : Prop := (∃ v, e = .returned (.tuple #[v, .int .i64 c]) ∧ Own w' w.heap.size 2 (Value.int .i64) v xs) ∧ Below w.heap.size w w'

end Go.Proofs.YtdbleddcnknmiaaGreatDoor

namespace Go.Proofs.YtdbleddcnknmiaaGreatDoor
open Go.ChangeShapes Go.WideShapes Go.ChangeAt Go.RowKit Go.Deep Go.Joins

attribute [local go_sem] run_store_f

set_option maxRecDepth 100000 in
set_option maxHeartbeats 2000000 in
theorem tiltsAt_call (hs ts : List Int) (hh : hs.length = 24) (ht : ts.length = 24) (fc : Int) (lo hi : Nat) (n : Int) (wd gp : Nat) (t : Int) (sh : Nat) (ok : BlOk n wd gp t sh) (hour x : Int) (k : HrOk hs ts hour fc) (x0 : -64 ≤ x) (x1 : x ≤ 64) (g1 g2 : Nat) (w : World) (c1 : w.heap[g1]? = some (.cells (dayC hs ts fc lo hi n wd gp t sh) 69 (0, 0))) (c2 : w.heap[g2]? = some (.cells #[.int .i64 hour] 2 (0, 0))) :
    Calls Tryz.prog 61 #[.agg (blindC n wd gp x sh), .pointer (some ⟨g1, 0, none⟩), .pointer (some ⟨g2, 0, none⟩)] w fun e w' => e = .returned (.bool (kpB hs ts fc lo hi wd gp sh hour x)) ∧ Below w.heap.size w w' := by
  have HK := Lib.hid (fun w => keeps_any hs ts hh ht fc lo hi n wd gp t sh ok hour x k x0 x1 w)
  have Hh := Lib.hid hh
  have Ht := Lib.hid ht
  have C1 := Lib.hid c1
  have C2 := Lib.hid c2
  clear ok k c1 c2 hh ht
  generalize kpB hs ts fc lo hi wd gp sh hour x = kb at *
  go_enter Tryz.func61, Tryz.ntmps61
  go_upto_region 1 with (fail)
  refine abs_code (fun W => W.heap[w.heap.size]? = some (.cells (blindC n wd gp x sh) 33 (0, 0)) ∧ W.heap[g1]? = some (.cells (dayC hs ts fc lo hi n wd gp t sh) 69 (0, 0)) ∧ W.heap[g2]? = some (.cells #[.int .i64 hour] 2 (0, 0)) ∧ Below w.heap.size w W) ⟨heap_alloc_new _ _, below_row ((Below.refl _ _).alloc (Nat.le_refl _) _) C1.out, below_row ((Below.refl _ _).alloc (Nat.le_refl _) _) C2.out, (Below.refl _ _).alloc (Nat.le_refl _) _⟩ ?_
  clear C1 C2
  rintro W ⟨h0, h1, h2, hb⟩
  obtain ⟨k0, k1, k2, k3, k4⟩ := blind_cells h0
  have q2 : W.cell? ⟨g2, 0, none⟩ = some (.int .i64 hour) := by rw [cell_of_row W _ _ _ _ _ h2]; rfl
  have H1 := Lib.hid h1
  clear h0 h1 h2 k0 k1 k2 k4
  go_wp2_with (first | (refine wpList_load_part rfl 69 _ rfl g1 0 56 rfl 69 (dayC hs ts fc lo hi n wd gp t sh) (0, 0) _ H1.out Tryz.underlying69 rfl info_dy (dy_fits 56 (by decide) hs ts Hh.out Ht.out fc lo hi n wd gp t sh) _ (dy_all hs ts Hh.out Ht.out fc lo hi n wd gp t sh) ?_) | (go_at_call 53; refine (HK.out _).mono ?_; rintro e W9 ⟨rfl, hb1⟩; replace hb := hb.trans (hb1.mono hb.size); clear hb1))
  go_ret
  exact ⟨rfl, hb⟩

theorem two_newQ (w : World) (a b : Obj) : ((w.alloc a).alloc b).heap[w.heap.size]? = some a ∧ ((w.alloc a).alloc b).heap[w.heap.size + 1]? = some b ∧ Below w.heap.size w ((w.alloc a).alloc b) := by
  have hb : Below w.heap.size w (w.alloc a) := (Below.refl _ _).alloc (Nat.le_refl _) _
  refine ⟨below_row ((Below.refl (w.alloc a).heap.size _).alloc (Nat.le_refl _) b) (heap_alloc_new w a), ?_, hb.alloc hb.size _⟩
  have := heap_alloc_new (w.alloc a) b
  rwa [World.size_alloc] at this

set_option maxRecDepth 100000 in
set_option maxHeartbeats 2000000 in
theorem dayTilts_any (hs ts : List Int) (hh : hs.length = 24) (ht : ts.length = 24) (fc : Int) (lo hi : Nat) (n : Int) (wd gp : Nat) (t : Int) (sh : Nat) (ok : BlOk n wd gp t sh) (hour : Int) (k : HrOk hs ts hour fc) (w : World) :
    Calls Tryz.prog 43 #[.agg (dayC hs ts fc lo hi n wd gp t sh), .int .i64 hour] w fun e w' => (∃ v, e = .returned v ∧ Own w' w.heap.size 2 (Value.int .i64) v (wantT (kpB hs ts fc lo hi wd gp sh hour) (tls 129))) ∧ Below w.heap.size w w' := by
  have HW : Hid (∀ (g1 g2 : Nat) (W : World), W.heap[g1]? = some (.cells (dayC hs ts fc lo hi n wd gp t sh) 69 (0, 0)) → W.heap[g2]? = some (.cells #[.int .i64 hour] 2 (0, 0)) → Calls Tryz.prog 60 #[.agg (blindC n wd gp t sh), .func (.func 61) #[] #[.pointer (some ⟨g1, 0, none⟩), .pointer (some ⟨g2, 0, none⟩)]] W fun e w' => (∃ v, e = .returned v ∧ Own w' W.heap.size 2 (Value.int .i64) v (wantT (kpB hs ts fc lo hi wd gp sh hour) (tls 129))) ∧ Below W.heap.size W w') := by
    intro g1 g2 W q1 q2
    exact tiltsWhere_any n wd gp t sh 61 (enters_of Tryz.func61 (by kernel_rfl) rfl) #[.pointer (some ⟨g1, 0, none⟩), .pointer (some ⟨g2, 0, none⟩)] (kpB hs ts fc lo hi wd gp sh hour) (fun V => V.heap[g1]? = some (.cells (dayC hs ts fc lo hi n wd gp t sh) 69 (0, 0)) ∧ V.heap[g2]? = some (.cells #[.int .i64 hour] 2 (0, 0))) W (fun V hV => ⟨below_row hV q1, below_row hV q2⟩)
      (fun x V x0 x1 hV => tiltsAt_call hs ts hh ht fc lo hi n wd gp t sh ok hour x k x0 x1 g1 g2 V hV.1 hV.2)
  have Hh := Lib.hid hh
  have Ht := Lib.hid ht
  clear ok k hh ht
  generalize kpB hs ts fc lo hi wd gp sh hour = P at *
  go_enter Tryz.func43, Tryz.ntmps43
  go_upto_region 1 with (fail)
  refine abs_code (fun W => W.heap[w.heap.size]? = some (.cells (dayC hs ts fc lo hi n wd gp t sh) 69 (0, 0)) ∧ W.heap[w.heap.size + 1]? = some (.cells #[.int .i64 hour] 2 (0, 0)) ∧ Below w.heap.size w W) ⟨(two_newQ _ _ _).1, (two_newQ _ _ _).2.1, (two_newQ _ _ _).2.2⟩ ?_
  rintro W ⟨h0, h1, hb⟩
  generalize w.heap.size + 1 = b1 at *
  have H0 := Lib.hid h0
  have H1 := Lib.hid h1
  clear h0 h1
  go_wp2_with (first | (refine wpList_load_part rfl 33 _ rfl w.heap.size 51 5 rfl 69 (dayC hs ts fc lo hi n wd gp t sh) (0, 0) _ H0.out Tryz.underlying33 rfl info_blind (dy_fits 56 (by decide) hs ts Hh.out Ht.out fc lo hi n wd gp t sh) _ (dy_bl hs ts Hh.out Ht.out fc lo hi n wd gp t sh) ?_) | (go_at_call 60; refine (HW.out _ _ _ H0.out H1.out).mono ?_; rintro e W9 ⟨⟨v, rfl, hv⟩, hb1⟩))
  go_ret
  exact ⟨⟨_, rfl, own_below hv (Below.refl _ _) hb.size⟩, hb.trans (hb1.mono hb.size)⟩

theorem row_baseQ {W : World} {base k : Nat} {e : TypeId} {v : Value} {xs : List Value} (h : W.ownsRow base e 1 v k xs) : ∀ j, v.ownBlock = some j → base ≤ j := fun j e => (h.lt j e).1

set_option maxRecDepth 100000 in
set_option maxHeartbeats 2000000 in
theorem l07Tilts_any (n : Int) (wd gp : Nat) (t : Int) (sh : Nat) (hs ts : List Int) (hh : hs.length = 24) (ht : ts.length = 24) (ok : BlOk n wd gp t sh) (fc hour : Int) (kk : HrOk hs ts hour fc) (lo hi : Nat) (hlo : fin32 lo = true) (hhi : fin32 hi = true) (g1 g2 : Nat) (w : World) (q1 : w.heap[g1]? = some (.cells (blindC n wd gp t sh) 33 (0, 0))) (q2 : w.heap[g2]? = some (.cells (sunC hs ts) 35 (0, 0))) :
    Calls Tryz.prog 40 #[.pointer (some ⟨g1, 0, none⟩), .pointer (some ⟨g2, 0, none⟩), .int .i64 fc, .int .i64 hour, .float .f32 lo, .float .f32 hi] w fun e w' => (∃ v, e = .returned v ∧ Own w' w.heap.size 2 (Value.int .i64) v (wantT (kpB hs ts fc lo hi wd gp sh hour) (tls 129))) ∧ Below w.heap.size w w' := by
  obtain ⟨i0, hin, hz0, hz1, hz2⟩ := info_parts infoW
  have HO := Lib.hid (fun (x : Int) (x0 : -64 ≤ x) (x1 : x ≤ 64) W q1 q2 => l07Within_any n wd gp t sh hs ts hh ht ok fc hour x kk x0 x1 lo hi hlo hhi g1 g2 W q1 q2)
  have Q1 := Lib.hid q1
  have Q2 := Lib.hid q2
  clear ok kk hlo hhi hh ht q1 q2
  generalize kpB hs ts fc lo hi wd gp sh hour = P at *
  go_enter Tryz.func40, Tryz.ntmps40
  go_wp2
  have hrow0 : (w.alloc (.cells #[] 2)).ownsRow w.heap.size 2 1 (.slice (some ⟨w.heap.size, 0, none⟩) 0 0) 0 [] := World.ownsRow_made _ _ _ (Nat.le_refl _) (Nat.zero_le _) rfl
  go_loopw [13, 14] (fun o i wr => ∃ (vo : Value) (k : Nat), vo = o ∧ k ≤ 129 ∧ i = .int .i64 ((k : Int) - 64) ∧ wr.ownsRow w.heap.size 2 1 o (wantT P (tls k)).length ((wantT P (tls k)).map (Value.int .i64)) ∧ Below w.heap.size w wr) (fun _ i _ => (65 - intOf i).toNat)
  case atStart => exact ⟨_, 0, rfl, Nat.zero_le _, rfl, hrow0, (Below.refl _ _).alloc (Nat.le_refl _) _⟩
  case round =>
    clear hrow0
    obtain ⟨vo, k, rfl, hk, rfl, hrow, hb⟩ := hrel
    have hwl := wantT_len P (tls k)
    rw [tls_length] at hwl
    by_cases hlt : k < 129
    · have z0 : (-64 : Int) ≤ (k : Int) - 64 := by omega
      have z1 : (k : Int) - 64 ≤ 64 := by omega
      have HX := Lib.hid (HO.out ((k : Int) - 64) z0 z1)
      have hsz := hb.size
      cases hI : P ((k : Int) - 64) with
      | true =>
        have HN : Hid (wantT P (tls (k + 1)) = wantT P (tls k) ++ [(k : Int) - 64]) := by
          unfold Hid; rw [tls_succ, wantT_hit _ _ _ (by rw [tl_val k hlt]; exact hI), tl_val k hlt]
        rw [hI] at HX
        clear hI
        go_wp2_with (first | (go_at_call 52; refine (HX.out _ (below_row hb Q1.out) (below_row hb Q2.out)).mono ?_; rintro e W3 ⟨rfl, hb3⟩; have hrow3 := owns_below hrow hb3; have hbw3 := hb.trans (hb3.mono hb.size); have hsz3 := hbw3.size) | (at_builtin; refine wpList_append_own _ rfl _ _ 47 rfl w.heap.size 2 i0 (.int .i64 0) 1 8 Tryz.underlying47 hin hz0 hz1 hz2 rfl (by decide) _ _ _ rfl (hrow3.alloc _) ⟨W3.heap.size, 0, none⟩ 1 1 [.int .i64 ((k : Int) - 64)] rfl rfl (cell_one_new _ _ _) (by simp [Value.oneCell']) (by unfold maxLen; omega) (by omega) (by simp; omega) ?_; intro v' w1 hown' hgrow _))
        go_roundw
        case rel => exact ⟨_, k + 1, rfl, by omega, by simp; omega, by rw [HN.out]; simpa using hown', (hbw3.alloc (by omega) _).grown hgrow (by simp; omega) (row_baseQ hrow3)⟩
        case measure => simp [intOf]; omega
      | false =>
        have HN : Hid (wantT P (tls (k + 1)) = wantT P (tls k)) := by
          unfold Hid; rw [tls_succ]; exact wantT_miss _ _ _ (by rw [tl_val k hlt]; exact hI)
        rw [hI] at HX
        clear hI
        go_wp2_with (go_at_call 52; refine (HX.out _ (below_row hb Q1.out) (below_row hb Q2.out)).mono ?_; rintro e W3 ⟨rfl, hb3⟩; have hrow3 := owns_below hrow hb3; have hbw3 := hb.trans (hb3.mono hb.size); have hsz3 := hbw3.size)
        go_roundw
        case rel => exact ⟨_, k + 1, rfl, by omega, by simp; omega, by rw [HN.out]; exact hrow3, hbw3⟩
        case measure => simp [intOf]; omega
    · obtain rfl : k = 129 := by omega
      have HR2 : Hid (Own wr w.heap.size 2 (Value.int .i64) vo (wantT P (tls 129))) := own_of_row hrow (by unfold maxLen; omega)
      clear hrow
      go_wp2
      go_ret
      exact ⟨⟨_, rfl, HR2.out⟩, hb⟩

end Go.Proofs.YtdbleddcnknmiaaGreatDoor

namespace Go.Proofs.YtdbleddcnknmiaaGreatDoor
open Go.ChangeShapes Go.WideShapes Go.ChangeAt Go.RowKit Go.Deep Go.Joins

attribute [local go_sem] run_store_f

/-- The plan of no tilt. -/
def zP : List Int := [0, 0, 0, 0, 0, 0, 0, 0, 0, 0, 0, 0, 0, 0, 0, 0, 0, 0, 0, 0, 0, 0, 0, 0]

theorem zP_ok : okP zP = true := by decide

theorem zP_len : zP.length = 24 := rfl

theorem zP_b : ∀ x ∈ zP, -32768 ≤ x ∧ x ≤ 32767 := by decide

theorem zP_one : ∀ v ∈ i16s zP, v.oneCell' = true := by
  intro v hv
  simp only [i16s, zP, List.map_cons, List.map_nil, List.mem_toArray, List.mem_cons, List.not_mem_nil, or_false] at hv
  rcases hv with rfl | rfl | rfl | rfl | rfl | rfl | rfl | rfl | rfl | rfl | rfl | rfl | rfl | rfl | rfl | rfl | rfl | rfl | rfl | rfl | rfl | rfl | rfl | rfl <;> rfl

set_option maxRecDepth 100000 in
set_option maxHeartbeats 4000000 in
theorem iTiltsAt_F (n : Int) (wd gp : Nat) (t : Int) (sh : Nat) (hs ts : List Int) (hh : hs.length = 24) (ht : ts.length = 24) (fc hour : Int) (lo hi : Nat) (T0 : -32768 ≤ t) (T1 : t ≤ 32767) (hf : inF fc = false) (c : Int) (hc : cdP true (okBl n wd gp t sh) (okB hs ts) false = c) (hne : c ≠ 0) (w : World) (hE : ErrT w) :
    Calls Tryz.prog 20 #[.agg (blindC n wd gp t sh), .agg (sunC hs ts), .int .i64 fc, .int .i64 hour, .float .f32 lo, .float .f32 hi] w (RetList [] c w) := by
  have HC := Lib.hid (fun w => checkDay_no n wd gp t sh hs ts hh ht T0 T1 false c hc hne w)
  have HD := Lib.hid (fun w hE => codeD_call c w hE)
  have HF := Lib.hid hf
  have Hh := Lib.hid hh
  have Ht := Lib.hid ht
  have hn := fun w => run_neq_held_nil (P := Tryz.prog) (w := w) 61 90 (.agg #[.int .i64 c]) (by kernel_rfl)
  have HE0 := Lib.hid hE
  clear hh ht hc hne hE hf
  go_enter Tryz.func20, Tryz.ntmps20
  go_upto_region 1 with (fail)
  refine abs_code (fun W => W.heap[w.heap.size]? = some (.cells (blindC n wd gp t sh) 33 (0, 0)) ∧ W.heap[w.heap.size + 1]? = some (.cells (sunC hs ts) 35 (0, 0)) ∧ Below w.heap.size w W) ⟨(two_newQ _ _ _).1, (two_newQ _ _ _).2.1, (two_newQ _ _ _).2.2⟩ ?_
  rintro W ⟨h0, h1, hb⟩
  generalize w.heap.size + 1 = b1 at *
  have H0 := Lib.hid h0
  have H1 := Lib.hid h1
  clear h0 h1
  have HE := Lib.hid (errT_below HE0.out hb)
  refine wp_region_held_drew (S := (fun V => Below W.heap.size W V)) (by kernel_rfl) (Below.refl _ _).drew (fun hHeld => ?_)
  refine take_op (i := 0) (d := 15) (v := .agg (blindC n wd gp t sh)) rfl rfl (by kernel_rfl) (by kernel_rfl) (by kernel_rfl) (fun _ _ _ h => h) (yields_row (by rfl) 33 (.tmp 6) (by rfl) w.heap.size 0 5 (by rfl) 33 (blindC n wd gp t sh) (0, 0) _ (fun _ h => below_row h H0.out) Tryz.underlying33 rfl info_blind (blind_fits _ _ _ _ _) (blindC n wd gp t sh) (blind_all _ _ _ _ _)) hHeld ?_
  simp only [List.setIfInBounds_toArray, List.set_cons_zero, List.set_cons_succ]
  refine take_op (i := 1) (d := 16) (v := .agg (sunC hs ts)) rfl rfl (by kernel_rfl) (by kernel_rfl) (by kernel_rfl) (fun _ _ _ h => h) (yields_row (by rfl) 35 (.tmp 7) (by rfl) b1 0 48 (by rfl) 35 (sunC hs ts) (0, 0) _ (fun _ h => below_row h H1.out) Tryz.underlying35 rfl info_sun (sun_fits _ _ Hh.out Ht.out) (sunC hs ts) (sun_all _ _ Hh.out Ht.out)) hHeld ?_
  simp only [List.setIfInBounds_toArray, List.set_cons_zero, List.set_cons_succ]
  refine take_op (i := 2) (d := 17) (v := ?_) rfl rfl (by kernel_rfl) (by kernel_rfl) (by kernel_rfl) (fun _ _ _ h => h) (Or.inl ⟨by rfl, ?hy2u159⟩) hHeld ?rest2u159
  case hy2u159 =>
    intro w' hS'
    go_simp
    try with_reducible rfl
  simp only [List.setIfInBounds_toArray, List.set_cons_zero, List.set_cons_succ]
  refine wpAnyH_ready (rs := [3]) (by kernel_rfl) (by simp) ?_
  refine AllReadyH.cons rfl (fun K hK => ?_) AllReadyH.nil
  go_simp
  refine (isFacing_is fc false HF.out _).mono ?_
  rintro e w' ⟨rfl, rfl⟩
  refine hK.out _ _ (hHeld) (fun hHeld2 => ?_)
  clear hK K
  replace hHeld := hHeld2
  clear hHeld2
  refine take_op (i := 4) (d := 19) (v := ?_) rfl rfl (by kernel_rfl) (by kernel_rfl) (by kernel_rfl) (fun _ _ _ h => h) (Or.inl ⟨by rfl, ?hy4u160⟩) hHeld ?rest4u160
  case hy4u160 =>
    intro w' hS'
    go_simp
    try with_reducible rfl
  simp only [List.setIfInBounds_toArray, List.set_cons_zero, List.set_cons_succ]
  refine take_op (i := 5) (d := 20) rfl rfl (by kernel_rfl) (by kernel_rfl) (by kernel_rfl) (fun _ _ _ h => h) (Or.inr ⟨by rfl, rfl⟩) hHeld ?_
  simp only [List.setIfInBounds_toArray, List.set_cons_zero, List.set_cons_succ]
  refine take_op (i := 6) (d := 21) rfl rfl (by kernel_rfl) (by kernel_rfl) (by kernel_rfl) (fun _ _ _ h => h) (Or.inr ⟨by rfl, rfl⟩) hHeld ?_
  simp only [List.setIfInBounds_toArray, List.set_cons_zero, List.set_cons_succ]
  refine take_op (i := 7) (d := 22) (v := ?_) rfl rfl (by kernel_rfl) (by kernel_rfl) (by kernel_rfl) (fun _ _ _ h => h) (Or.inl ⟨by rfl, ?hy7u161⟩) hHeld ?rest7u161
  case hy7u161 =>
    intro w' hS'
    go_simp
    try with_reducible rfl
  simp only [List.setIfInBounds_toArray, List.set_cons_zero, List.set_cons_succ]
  refine take_op (i := 8) (d := 23) (v := ?_) rfl rfl (by kernel_rfl) (by kernel_rfl) (by kernel_rfl) (fun _ _ _ h => h) (Or.inl ⟨by rfl, ?hy8u162⟩) hHeld ?rest8u162
  case hy8u162 =>
    intro w' hS'
    go_simp
    try with_reducible rfl
  simp only [List.setIfInBounds_toArray, List.set_cons_zero, List.set_cons_succ]
  refine take_op (i := 9) (d := 24) rfl rfl (by kernel_rfl) (by kernel_rfl) (by kernel_rfl) (fun _ _ _ h => h) (Or.inr ⟨by rfl, rfl⟩) hHeld ?_
  simp only [List.setIfInBounds_toArray, List.set_cons_zero, List.set_cons_succ]
  refine take_op (i := 10) (d := 25) rfl rfl (by kernel_rfl) (by kernel_rfl) (by kernel_rfl) (fun _ _ _ h => h) (Or.inr ⟨by rfl, rfl⟩) hHeld ?_
  simp only [List.setIfInBounds_toArray, List.set_cons_zero, List.set_cons_succ]
  refine take_op (i := 11) (d := 26) (v := ?_) rfl rfl (by kernel_rfl) (by kernel_rfl) (by kernel_rfl) (fun _ _ _ h => h) (Or.inl ⟨by rfl, ?hy11u163⟩) hHeld ?rest11u163
  case hy11u163 =>
    intro w' hS'
    go_simp
    try with_reducible rfl
  simp only [List.setIfInBounds_toArray, List.set_cons_zero, List.set_cons_succ]
  refine take_op (i := 12) (d := 27) (v := ?_) rfl rfl (by kernel_rfl) (by kernel_rfl) (by kernel_rfl) (fun _ _ _ h => h) (Or.inl ⟨by rfl, ?hy12u164⟩) hHeld ?rest12u164
  case hy12u164 =>
    intro w' hS'
    go_simp
    try with_reducible rfl
  simp only [List.setIfInBounds_toArray, List.set_cons_zero, List.set_cons_succ]
  refine take_op (i := 13) (d := 28) rfl rfl (by kernel_rfl) (by kernel_rfl) (by kernel_rfl) (fun _ _ _ h => h) (Or.inr ⟨by rfl, rfl⟩) hHeld ?_
  simp only [List.setIfInBounds_toArray, List.set_cons_zero, List.set_cons_succ]
  refine take_op (i := 14) (d := 29) rfl rfl (by kernel_rfl) (by kernel_rfl) (by kernel_rfl) (fun _ _ _ h => h) (Or.inr ⟨by rfl, rfl⟩) hHeld ?_
  simp only [List.setIfInBounds_toArray, List.set_cons_zero, List.set_cons_succ]
  refine take_op (i := 15) (d := 30) (v := ?_) rfl rfl (by kernel_rfl) (by kernel_rfl) (by kernel_rfl) (fun _ _ _ h => h) (Or.inl ⟨by rfl, ?hy15u165⟩) hHeld ?rest15u165
  case hy15u165 =>
    intro w' hS'
    go_simp
    try with_reducible rfl
  simp only [List.setIfInBounds_toArray, List.set_cons_zero, List.set_cons_succ]
  refine wpAnyH_ready (rs := [16]) (by kernel_rfl) (by simp) ?_
  refine AllReadyH.cons rfl (fun K hK => ?_) AllReadyH.nil
  go_simp
  refine (HC.out _).mono ?_
  rintro e W1 ⟨rfl, hb1⟩
  refine hK.out _ _ (hHeld.trans (hb1.mono hHeld.size)) (fun hHeld2 => ?_)
  clear hK K
  replace hHeld := hHeld2
  clear hHeld2
  clear hb1
  refine take_op (i := 17) (d := 14) (v := ?_) rfl rfl (by kernel_rfl) (by kernel_rfl) (by kernel_rfl) (fun _ _ _ h => h) (Or.inl ⟨by rfl, ?hy17u166⟩) hHeld ?rest17u166
  case hy17u166 =>
    intro w' hS'
    go_simp
    try with_reducible rfl
  simp only [List.setIfInBounds_toArray, List.set_cons_zero, List.set_cons_succ]
  refine wpAnyH_done (by kernel_rfl) ?_ _
  replace H0 := Lib.hid (below_row hHeld H0.out)
  replace H1 := Lib.hid (below_row hHeld H1.out)
  replace hb := hb.trans (hHeld.mono hb.size)
  replace HE := Lib.hid (errT_below HE.out hHeld)
  clear hHeld
  go_wp2_with (go_at_call 30; refine (HD.out _ HE.out).mono ?_; rintro e W9 ⟨rfl, hb1⟩; replace hb := hb.trans (hb1.mono hb.size); clear hb1)
  go_ret2
  exact ⟨⟨_, rfl, ⟨none, 0, rfl, Nat.zero_le _, Nat.le_refl _, .inl ⟨rfl, rfl⟩⟩⟩, hb⟩

set_option maxRecDepth 100000 in
set_option maxHeartbeats 4000000 in
theorem iTiltsAt_H (n : Int) (wd gp : Nat) (t : Int) (sh : Nat) (hs ts : List Int) (hh : hs.length = 24) (ht : ts.length = 24) (fc hour : Int) (lo hi : Nat) (T0 : -32768 ≤ t) (T1 : t ≤ 32767) (hf : inF fc = true) (hH : inH hour = false) (c : Int) (hc : cdP true (okBl n wd gp t sh) (okB hs ts) false = c) (hne : c ≠ 0) (w : World) (hE : ErrT w) :
    Calls Tryz.prog 20 #[.agg (blindC n wd gp t sh), .agg (sunC hs ts), .int .i64 fc, .int .i64 hour, .float .f32 lo, .float .f32 hi] w (RetList [] c w) := by
  have HC := Lib.hid (fun w => checkDay_no n wd gp t sh hs ts hh ht T0 T1 false c hc hne w)
  have HD := Lib.hid (fun w hE => codeD_call c w hE)
  have HF := Lib.hid hf
  have HH := Lib.hid hH
  have Hh := Lib.hid hh
  have Ht := Lib.hid ht
  have hn := fun w => run_neq_held_nil (P := Tryz.prog) (w := w) 61 90 (.agg #[.int .i64 c]) (by kernel_rfl)
  have HE0 := Lib.hid hE
  clear hh ht hc hne hE hf hH
  go_enter Tryz.func20, Tryz.ntmps20
  go_upto_region 1 with (fail)
  refine abs_code (fun W => W.heap[w.heap.size]? = some (.cells (blindC n wd gp t sh) 33 (0, 0)) ∧ W.heap[w.heap.size + 1]? = some (.cells (sunC hs ts) 35 (0, 0)) ∧ Below w.heap.size w W) ⟨(two_newQ _ _ _).1, (two_newQ _ _ _).2.1, (two_newQ _ _ _).2.2⟩ ?_
  rintro W ⟨h0, h1, hb⟩
  generalize w.heap.size + 1 = b1 at *
  have H0 := Lib.hid h0
  have H1 := Lib.hid h1
  clear h0 h1
  have HE := Lib.hid (errT_below HE0.out hb)
  refine wp_region_held_drew (S := (fun V => Below W.heap.size W V)) (by kernel_rfl) (Below.refl _ _).drew (fun hHeld => ?_)
  refine take_op (i := 0) (d := 15) (v := .agg (blindC n wd gp t sh)) rfl rfl (by kernel_rfl) (by kernel_rfl) (by kernel_rfl) (fun _ _ _ h => h) (yields_row (by rfl) 33 (.tmp 6) (by rfl) w.heap.size 0 5 (by rfl) 33 (blindC n wd gp t sh) (0, 0) _ (fun _ h => below_row h H0.out) Tryz.underlying33 rfl info_blind (blind_fits _ _ _ _ _) (blindC n wd gp t sh) (blind_all _ _ _ _ _)) hHeld ?_
  simp only [List.setIfInBounds_toArray, List.set_cons_zero, List.set_cons_succ]
  refine take_op (i := 1) (d := 16) (v := .agg (sunC hs ts)) rfl rfl (by kernel_rfl) (by kernel_rfl) (by kernel_rfl) (fun _ _ _ h => h) (yields_row (by rfl) 35 (.tmp 7) (by rfl) b1 0 48 (by rfl) 35 (sunC hs ts) (0, 0) _ (fun _ h => below_row h H1.out) Tryz.underlying35 rfl info_sun (sun_fits _ _ Hh.out Ht.out) (sunC hs ts) (sun_all _ _ Hh.out Ht.out)) hHeld ?_
  simp only [List.setIfInBounds_toArray, List.set_cons_zero, List.set_cons_succ]
  refine take_op (i := 2) (d := 17) (v := ?_) rfl rfl (by kernel_rfl) (by kernel_rfl) (by kernel_rfl) (fun _ _ _ h => h) (Or.inl ⟨by rfl, ?hy2u167⟩) hHeld ?rest2u167
  case hy2u167 =>
    intro w' hS'
    go_simp
    try with_reducible rfl
  simp only [List.setIfInBounds_toArray, List.set_cons_zero, List.set_cons_succ]
  refine wpAnyH_ready (rs := [3]) (by kernel_rfl) (by simp) ?_
  refine AllReadyH.cons rfl (fun K hK => ?_) AllReadyH.nil
  go_simp
  refine (isFacing_is fc true HF.out _).mono ?_
  rintro e w' ⟨rfl, rfl⟩
  refine hK.out _ _ (hHeld) (fun hHeld2 => ?_)
  clear hK K
  replace hHeld := hHeld2
  clear hHeld2
  refine take_op (i := 4) (d := 19) (v := ?_) rfl rfl (by kernel_rfl) (by kernel_rfl) (by kernel_rfl) (fun _ _ _ h => h) (Or.inl ⟨by rfl, ?hy4u168⟩) hHeld ?rest4u168
  case hy4u168 =>
    intro w' hS'
    go_simp
    try with_reducible rfl
  simp only [List.setIfInBounds_toArray, List.set_cons_zero, List.set_cons_succ]
  refine take_op (i := 5) (d := 20) (v := ?_) rfl rfl (by kernel_rfl) (by kernel_rfl) (by kernel_rfl) (fun _ _ _ h => h) (Or.inl ⟨by rfl, ?hy5u169⟩) hHeld ?rest5u169
  case hy5u169 =>
    intro w' hS'
    go_simp
    try with_reducible rfl
  simp only [List.setIfInBounds_toArray, List.set_cons_zero, List.set_cons_succ]
  refine wpAnyH_ready (rs := [6]) (by kernel_rfl) (by simp) ?_
  refine AllReadyH.cons rfl (fun K hK => ?_) AllReadyH.nil
  go_simp
  refine (isHour_is hour false HH.out _).mono ?_
  rintro e w' ⟨rfl, rfl⟩
  refine hK.out _ _ (hHeld) (fun hHeld2 => ?_)
  clear hK K
  replace hHeld := hHeld2
  clear hHeld2
  refine take_op (i := 7) (d := 22) (v := ?_) rfl rfl (by kernel_rfl) (by kernel_rfl) (by kernel_rfl) (fun _ _ _ h => h) (Or.inl ⟨by rfl, ?hy7u170⟩) hHeld ?rest7u170
  case hy7u170 =>
    intro w' hS'
    go_simp
    try with_reducible rfl
  simp only [List.setIfInBounds_toArray, List.set_cons_zero, List.set_cons_succ]
  refine take_op (i := 8) (d := 23) (v := ?_) rfl rfl (by kernel_rfl) (by kernel_rfl) (by kernel_rfl) (fun _ _ _ h => h) (Or.inl ⟨by rfl, ?hy8u171⟩) hHeld ?rest8u171
  case hy8u171 =>
    intro w' hS'
    go_simp
    try with_reducible rfl
  simp only [List.setIfInBounds_toArray, List.set_cons_zero, List.set_cons_succ]
  refine take_op (i := 9) (d := 24) rfl rfl (by kernel_rfl) (by kernel_rfl) (by kernel_rfl) (fun _ _ _ h => h) (Or.inr ⟨by rfl, rfl⟩) hHeld ?_
  simp only [List.setIfInBounds_toArray, List.set_cons_zero, List.set_cons_succ]
  refine take_op (i := 10) (d := 25) rfl rfl (by kernel_rfl) (by kernel_rfl) (by kernel_rfl) (fun _ _ _ h => h) (Or.inr ⟨by rfl, rfl⟩) hHeld ?_
  simp only [List.setIfInBounds_toArray, List.set_cons_zero, List.set_cons_succ]
  refine take_op (i := 11) (d := 26) (v := ?_) rfl rfl (by kernel_rfl) (by kernel_rfl) (by kernel_rfl) (fun _ _ _ h => h) (Or.inl ⟨by rfl, ?hy11u172⟩) hHeld ?rest11u172
  case hy11u172 =>
    intro w' hS'
    go_simp
    try with_reducible rfl
  simp only [List.setIfInBounds_toArray, List.set_cons_zero, List.set_cons_succ]
  refine take_op (i := 12) (d := 27) (v := ?_) rfl rfl (by kernel_rfl) (by kernel_rfl) (by kernel_rfl) (fun _ _ _ h => h) (Or.inl ⟨by rfl, ?hy12u173⟩) hHeld ?rest12u173
  case hy12u173 =>
    intro w' hS'
    go_simp
    try with_reducible rfl
  simp only [List.setIfInBounds_toArray, List.set_cons_zero, List.set_cons_succ]
  refine take_op (i := 13) (d := 28) rfl rfl (by kernel_rfl) (by kernel_rfl) (by kernel_rfl) (fun _ _ _ h => h) (Or.inr ⟨by rfl, rfl⟩) hHeld ?_
  simp only [List.setIfInBounds_toArray, List.set_cons_zero, List.set_cons_succ]
  refine take_op (i := 14) (d := 29) rfl rfl (by kernel_rfl) (by kernel_rfl) (by kernel_rfl) (fun _ _ _ h => h) (Or.inr ⟨by rfl, rfl⟩) hHeld ?_
  simp only [List.setIfInBounds_toArray, List.set_cons_zero, List.set_cons_succ]
  refine take_op (i := 15) (d := 30) (v := ?_) rfl rfl (by kernel_rfl) (by kernel_rfl) (by kernel_rfl) (fun _ _ _ h => h) (Or.inl ⟨by rfl, ?hy15u174⟩) hHeld ?rest15u174
  case hy15u174 =>
    intro w' hS'
    go_simp
    try with_reducible rfl
  simp only [List.setIfInBounds_toArray, List.set_cons_zero, List.set_cons_succ]
  refine wpAnyH_ready (rs := [16]) (by kernel_rfl) (by simp) ?_
  refine AllReadyH.cons rfl (fun K hK => ?_) AllReadyH.nil
  go_simp
  refine (HC.out _).mono ?_
  rintro e W1 ⟨rfl, hb1⟩
  refine hK.out _ _ (hHeld.trans (hb1.mono hHeld.size)) (fun hHeld2 => ?_)
  clear hK K
  replace hHeld := hHeld2
  clear hHeld2
  clear hb1
  refine take_op (i := 17) (d := 14) (v := ?_) rfl rfl (by kernel_rfl) (by kernel_rfl) (by kernel_rfl) (fun _ _ _ h => h) (Or.inl ⟨by rfl, ?hy17u175⟩) hHeld ?rest17u175
  case hy17u175 =>
    intro w' hS'
    go_simp
    try with_reducible rfl
  simp only [List.setIfInBounds_toArray, List.set_cons_zero, List.set_cons_succ]
  refine wpAnyH_done (by kernel_rfl) ?_ _
  replace H0 := Lib.hid (below_row hHeld H0.out)
  replace H1 := Lib.hid (below_row hHeld H1.out)
  replace hb := hb.trans (hHeld.mono hb.size)
  replace HE := Lib.hid (errT_below HE.out hHeld)
  clear hHeld
  go_wp2_with (go_at_call 30; refine (HD.out _ HE.out).mono ?_; rintro e W9 ⟨rfl, hb1⟩; replace hb := hb.trans (hb1.mono hb.size); clear hb1)
  go_ret2
  exact ⟨⟨_, rfl, ⟨none, 0, rfl, Nat.zero_le _, Nat.le_refl _, .inl ⟨rfl, rfl⟩⟩⟩, hb⟩

set_option maxRecDepth 100000 in
set_option maxHeartbeats 4000000 in
theorem iTiltsAt_T (n : Int) (wd gp : Nat) (t : Int) (sh : Nat) (hs ts : List Int) (hh : hs.length = 24) (ht : ts.length = 24) (fc hour : Int) (lo hi : Nat) (T0 : -32768 ≤ t) (T1 : t ≤ 32767) (hf : inF fc = true) (hH : inH hour = true) (hlo : partB lo = false) (c : Int) (hc : cdP true (okBl n wd gp t sh) (okB hs ts) false = c) (hne : c ≠ 0) (w : World) (hE : ErrT w) :
    Calls Tryz.prog 20 #[.agg (blindC n wd gp t sh), .agg (sunC hs ts), .int .i64 fc, .int .i64 hour, .float .f32 lo, .float .f32 hi] w (RetList [] c w) := by
  have HC := Lib.hid (fun w => checkDay_no n wd gp t sh hs ts hh ht T0 T1 false c hc hne w)
  have HD := Lib.hid (fun w hE => codeD_call c w hE)
  have HF := Lib.hid hf
  have HH := Lib.hid hH
  have HLo := Lib.hid hlo
  have Hh := Lib.hid hh
  have Ht := Lib.hid ht
  have hn := fun w => run_neq_held_nil (P := Tryz.prog) (w := w) 61 90 (.agg #[.int .i64 c]) (by kernel_rfl)
  have HE0 := Lib.hid hE
  clear hh ht hc hne hE hf hH hlo
  go_enter Tryz.func20, Tryz.ntmps20
  go_upto_region 1 with (fail)
  refine abs_code (fun W => W.heap[w.heap.size]? = some (.cells (blindC n wd gp t sh) 33 (0, 0)) ∧ W.heap[w.heap.size + 1]? = some (.cells (sunC hs ts) 35 (0, 0)) ∧ Below w.heap.size w W) ⟨(two_newQ _ _ _).1, (two_newQ _ _ _).2.1, (two_newQ _ _ _).2.2⟩ ?_
  rintro W ⟨h0, h1, hb⟩
  generalize w.heap.size + 1 = b1 at *
  have H0 := Lib.hid h0
  have H1 := Lib.hid h1
  clear h0 h1
  have HE := Lib.hid (errT_below HE0.out hb)
  refine wp_region_held_drew (S := (fun V => Below W.heap.size W V)) (by kernel_rfl) (Below.refl _ _).drew (fun hHeld => ?_)
  refine take_op (i := 0) (d := 15) (v := .agg (blindC n wd gp t sh)) rfl rfl (by kernel_rfl) (by kernel_rfl) (by kernel_rfl) (fun _ _ _ h => h) (yields_row (by rfl) 33 (.tmp 6) (by rfl) w.heap.size 0 5 (by rfl) 33 (blindC n wd gp t sh) (0, 0) _ (fun _ h => below_row h H0.out) Tryz.underlying33 rfl info_blind (blind_fits _ _ _ _ _) (blindC n wd gp t sh) (blind_all _ _ _ _ _)) hHeld ?_
  simp only [List.setIfInBounds_toArray, List.set_cons_zero, List.set_cons_succ]
  refine take_op (i := 1) (d := 16) (v := .agg (sunC hs ts)) rfl rfl (by kernel_rfl) (by kernel_rfl) (by kernel_rfl) (fun _ _ _ h => h) (yields_row (by rfl) 35 (.tmp 7) (by rfl) b1 0 48 (by rfl) 35 (sunC hs ts) (0, 0) _ (fun _ h => below_row h H1.out) Tryz.underlying35 rfl info_sun (sun_fits _ _ Hh.out Ht.out) (sunC hs ts) (sun_all _ _ Hh.out Ht.out)) hHeld ?_
  simp only [List.setIfInBounds_toArray, List.set_cons_zero, List.set_cons_succ]
  refine take_op (i := 2) (d := 17) (v := ?_) rfl rfl (by kernel_rfl) (by kernel_rfl) (by kernel_rfl) (fun _ _ _ h => h) (Or.inl ⟨by rfl, ?hy2u176⟩) hHeld ?rest2u176
  case hy2u176 =>
    intro w' hS'
    go_simp
    try with_reducible rfl
  simp only [List.setIfInBounds_toArray, List.set_cons_zero, List.set_cons_succ]
  refine wpAnyH_ready (rs := [3]) (by kernel_rfl) (by simp) ?_
  refine AllReadyH.cons rfl (fun K hK => ?_) AllReadyH.nil
  go_simp
  refine (isFacing_is fc true HF.out _).mono ?_
  rintro e w' ⟨rfl, rfl⟩
  refine hK.out _ _ (hHeld) (fun hHeld2 => ?_)
  clear hK K
  replace hHeld := hHeld2
  clear hHeld2
  refine take_op (i := 4) (d := 19) (v := ?_) rfl rfl (by kernel_rfl) (by kernel_rfl) (by kernel_rfl) (fun _ _ _ h => h) (Or.inl ⟨by rfl, ?hy4u177⟩) hHeld ?rest4u177
  case hy4u177 =>
    intro w' hS'
    go_simp
    try with_reducible rfl
  simp only [List.setIfInBounds_toArray, List.set_cons_zero, List.set_cons_succ]
  refine take_op (i := 5) (d := 20) (v := ?_) rfl rfl (by kernel_rfl) (by kernel_rfl) (by kernel_rfl) (fun _ _ _ h => h) (Or.inl ⟨by rfl, ?hy5u178⟩) hHeld ?rest5u178
  case hy5u178 =>
    intro w' hS'
    go_simp
    try with_reducible rfl
  simp only [List.setIfInBounds_toArray, List.set_cons_zero, List.set_cons_succ]
  refine wpAnyH_ready (rs := [6]) (by kernel_rfl) (by simp) ?_
  refine AllReadyH.cons rfl (fun K hK => ?_) AllReadyH.nil
  go_simp
  refine (isHour_is hour true HH.out _).mono ?_
  rintro e w' ⟨rfl, rfl⟩
  refine hK.out _ _ (hHeld) (fun hHeld2 => ?_)
  clear hK K
  replace hHeld := hHeld2
  clear hHeld2
  refine take_op (i := 7) (d := 22) (v := ?_) rfl rfl (by kernel_rfl) (by kernel_rfl) (by kernel_rfl) (fun _ _ _ h => h) (Or.inl ⟨by rfl, ?hy7u179⟩) hHeld ?rest7u179
  case hy7u179 =>
    intro w' hS'
    go_simp
    try with_reducible rfl
  simp only [List.setIfInBounds_toArray, List.set_cons_zero, List.set_cons_succ]
  refine take_op (i := 8) (d := 23) (v := ?_) rfl rfl (by kernel_rfl) (by kernel_rfl) (by kernel_rfl) (fun _ _ _ h => h) (Or.inl ⟨by rfl, ?hy8u180⟩) hHeld ?rest8u180
  case hy8u180 =>
    intro w' hS'
    go_simp
    try with_reducible rfl
  simp only [List.setIfInBounds_toArray, List.set_cons_zero, List.set_cons_succ]
  refine take_op (i := 9) (d := 24) (v := ?_) rfl rfl (by kernel_rfl) (by kernel_rfl) (by kernel_rfl) (fun _ _ _ h => h) (Or.inl ⟨by rfl, ?hy9u181⟩) hHeld ?rest9u181
  case hy9u181 =>
    intro w' hS'
    go_simp
    try with_reducible rfl
  simp only [List.setIfInBounds_toArray, List.set_cons_zero, List.set_cons_succ]
  refine wpAnyH_ready (rs := [10]) (by kernel_rfl) (by simp) ?_
  refine AllReadyH.cons rfl (fun K hK => ?_) AllReadyH.nil
  go_simp
  refine (isPart_is lo false HLo.out _).mono ?_
  rintro e w' ⟨rfl, rfl⟩
  refine hK.out _ _ (hHeld) (fun hHeld2 => ?_)
  clear hK K
  replace hHeld := hHeld2
  clear hHeld2
  refine take_op (i := 11) (d := 26) (v := ?_) rfl rfl (by kernel_rfl) (by kernel_rfl) (by kernel_rfl) (fun _ _ _ h => h) (Or.inl ⟨by rfl, ?hy11u182⟩) hHeld ?rest11u182
  case hy11u182 =>
    intro w' hS'
    go_simp
    try with_reducible rfl
  simp only [List.setIfInBounds_toArray, List.set_cons_zero, List.set_cons_succ]
  refine take_op (i := 12) (d := 27) (v := ?_) rfl rfl (by kernel_rfl) (by kernel_rfl) (by kernel_rfl) (fun _ _ _ h => h) (Or.inl ⟨by rfl, ?hy12u183⟩) hHeld ?rest12u183
  case hy12u183 =>
    intro w' hS'
    go_simp
    try with_reducible rfl
  simp only [List.setIfInBounds_toArray, List.set_cons_zero, List.set_cons_succ]
  refine take_op (i := 13) (d := 28) rfl rfl (by kernel_rfl) (by kernel_rfl) (by kernel_rfl) (fun _ _ _ h => h) (Or.inr ⟨by rfl, rfl⟩) hHeld ?_
  simp only [List.setIfInBounds_toArray, List.set_cons_zero, List.set_cons_succ]
  refine take_op (i := 14) (d := 29) rfl rfl (by kernel_rfl) (by kernel_rfl) (by kernel_rfl) (fun _ _ _ h => h) (Or.inr ⟨by rfl, rfl⟩) hHeld ?_
  simp only [List.setIfInBounds_toArray, List.set_cons_zero, List.set_cons_succ]
  refine take_op (i := 15) (d := 30) (v := ?_) rfl rfl (by kernel_rfl) (by kernel_rfl) (by kernel_rfl) (fun _ _ _ h => h) (Or.inl ⟨by rfl, ?hy15u184⟩) hHeld ?rest15u184
  case hy15u184 =>
    intro w' hS'
    go_simp
    try with_reducible rfl
  simp only [List.setIfInBounds_toArray, List.set_cons_zero, List.set_cons_succ]
  refine wpAnyH_ready (rs := [16]) (by kernel_rfl) (by simp) ?_
  refine AllReadyH.cons rfl (fun K hK => ?_) AllReadyH.nil
  go_simp
  refine (HC.out _).mono ?_
  rintro e W1 ⟨rfl, hb1⟩
  refine hK.out _ _ (hHeld.trans (hb1.mono hHeld.size)) (fun hHeld2 => ?_)
  clear hK K
  replace hHeld := hHeld2
  clear hHeld2
  clear hb1
  refine take_op (i := 17) (d := 14) (v := ?_) rfl rfl (by kernel_rfl) (by kernel_rfl) (by kernel_rfl) (fun _ _ _ h => h) (Or.inl ⟨by rfl, ?hy17u185⟩) hHeld ?rest17u185
  case hy17u185 =>
    intro w' hS'
    go_simp
    try with_reducible rfl
  simp only [List.setIfInBounds_toArray, List.set_cons_zero, List.set_cons_succ]
  refine wpAnyH_done (by kernel_rfl) ?_ _
  replace H0 := Lib.hid (below_row hHeld H0.out)
  replace H1 := Lib.hid (below_row hHeld H1.out)
  replace hb := hb.trans (hHeld.mono hb.size)
  replace HE := Lib.hid (errT_below HE.out hHeld)
  clear hHeld
  go_wp2_with (go_at_call 30; refine (HD.out _ HE.out).mono ?_; rintro e W9 ⟨rfl, hb1⟩; replace hb := hb.trans (hb1.mono hb.size); clear hb1)
  go_ret2
  exact ⟨⟨_, rfl, ⟨none, 0, rfl, Nat.zero_le _, Nat.le_refl _, .inl ⟨rfl, rfl⟩⟩⟩, hb⟩

set_option maxRecDepth 100000 in
set_option maxHeartbeats 4000000 in
theorem iTiltsAt_TT (n : Int) (wd gp : Nat) (t : Int) (sh : Nat) (hs ts : List Int) (hh : hs.length = 24) (ht : ts.length = 24) (fc hour : Int) (lo hi : Nat) (T0 : -32768 ≤ t) (T1 : t ≤ 32767) (hf : inF fc = true) (hH : inH hour = true) (hlo : partB lo = true) (hgh : Bool) (hhi : partB hi = hgh) (c : Int) (hc : cdP true (okBl n wd gp t sh) (okB hs ts) hgh = c) (hne : c ≠ 0) (w : World) (hE : ErrT w) :
    Calls Tryz.prog 20 #[.agg (blindC n wd gp t sh), .agg (sunC hs ts), .int .i64 fc, .int .i64 hour, .float .f32 lo, .float .f32 hi] w (RetList [] c w) := by
  have HC := Lib.hid (fun w => checkDay_no n wd gp t sh hs ts hh ht T0 T1 hgh c hc hne w)
  have HD := Lib.hid (fun w hE => codeD_call c w hE)
  have HF := Lib.hid hf
  have HH := Lib.hid hH
  have HLo := Lib.hid hlo
  have HHi := Lib.hid hhi
  have Hh := Lib.hid hh
  have Ht := Lib.hid ht
  have hn := fun w => run_neq_held_nil (P := Tryz.prog) (w := w) 61 90 (.agg #[.int .i64 c]) (by kernel_rfl)
  have HE0 := Lib.hid hE
  clear hh ht hc hne hE hf hH hlo hhi
  go_enter Tryz.func20, Tryz.ntmps20
  go_upto_region 1 with (fail)
  refine abs_code (fun W => W.heap[w.heap.size]? = some (.cells (blindC n wd gp t sh) 33 (0, 0)) ∧ W.heap[w.heap.size + 1]? = some (.cells (sunC hs ts) 35 (0, 0)) ∧ Below w.heap.size w W) ⟨(two_newQ _ _ _).1, (two_newQ _ _ _).2.1, (two_newQ _ _ _).2.2⟩ ?_
  rintro W ⟨h0, h1, hb⟩
  generalize w.heap.size + 1 = b1 at *
  have H0 := Lib.hid h0
  have H1 := Lib.hid h1
  clear h0 h1
  have HE := Lib.hid (errT_below HE0.out hb)
  refine wp_region_held_drew (S := (fun V => Below W.heap.size W V)) (by kernel_rfl) (Below.refl _ _).drew (fun hHeld => ?_)
  refine take_op (i := 0) (d := 15) (v := .agg (blindC n wd gp t sh)) rfl rfl (by kernel_rfl) (by kernel_rfl) (by kernel_rfl) (fun _ _ _ h => h) (yields_row (by rfl) 33 (.tmp 6) (by rfl) w.heap.size 0 5 (by rfl) 33 (blindC n wd gp t sh) (0, 0) _ (fun _ h => below_row h H0.out) Tryz.underlying33 rfl info_blind (blind_fits _ _ _ _ _) (blindC n wd gp t sh) (blind_all _ _ _ _ _)) hHeld ?_
  simp only [List.setIfInBounds_toArray, List.set_cons_zero, List.set_cons_succ]
  refine take_op (i := 1) (d := 16) (v := .agg (sunC hs ts)) rfl rfl (by kernel_rfl) (by kernel_rfl) (by kernel_rfl) (fun _ _ _ h => h) (yields_row (by rfl) 35 (.tmp 7) (by rfl) b1 0 48 (by rfl) 35 (sunC hs ts) (0, 0) _ (fun _ h => below_row h H1.out) Tryz.underlying35 rfl info_sun (sun_fits _ _ Hh.out Ht.out) (sunC hs ts) (sun_all _ _ Hh.out Ht.out)) hHeld ?_
  simp only [List.setIfInBounds_toArray, List.set_cons_zero, List.set_cons_succ]
  refine take_op (i := 2) (d := 17) (v := ?_) rfl rfl (by kernel_rfl) (by kernel_rfl) (by kernel_rfl) (fun _ _ _ h => h) (Or.inl ⟨by rfl, ?hy2u186⟩) hHeld ?rest2u186
  case hy2u186 =>
    intro w' hS'
    go_simp
    try with_reducible rfl
  simp only [List.setIfInBounds_toArray, List.set_cons_zero, List.set_cons_succ]
  refine wpAnyH_ready (rs := [3]) (by kernel_rfl) (by simp) ?_
  refine AllReadyH.cons rfl (fun K hK => ?_) AllReadyH.nil
  go_simp
  refine (isFacing_is fc true HF.out _).mono ?_
  rintro e w' ⟨rfl, rfl⟩
  refine hK.out _ _ (hHeld) (fun hHeld2 => ?_)
  clear hK K
  replace hHeld := hHeld2
  clear hHeld2
  refine take_op (i := 4) (d := 19) (v := ?_) rfl rfl (by kernel_rfl) (by kernel_rfl) (by kernel_rfl) (fun _ _ _ h => h) (Or.inl ⟨by rfl, ?hy4u187⟩) hHeld ?rest4u187
  case hy4u187 =>
    intro w' hS'
    go_simp
    try with_reducible rfl
  simp only [List.setIfInBounds_toArray, List.set_cons_zero, List.set_cons_succ]
  refine take_op (i := 5) (d := 20) (v := ?_) rfl rfl (by kernel_rfl) (by kernel_rfl) (by kernel_rfl) (fun _ _ _ h => h) (Or.inl ⟨by rfl, ?hy5u188⟩) hHeld ?rest5u188
  case hy5u188 =>
    intro w' hS'
    go_simp
    try with_reducible rfl
  simp only [List.setIfInBounds_toArray, List.set_cons_zero, List.set_cons_succ]
  refine wpAnyH_ready (rs := [6]) (by kernel_rfl) (by simp) ?_
  refine AllReadyH.cons rfl (fun K hK => ?_) AllReadyH.nil
  go_simp
  refine (isHour_is hour true HH.out _).mono ?_
  rintro e w' ⟨rfl, rfl⟩
  refine hK.out _ _ (hHeld) (fun hHeld2 => ?_)
  clear hK K
  replace hHeld := hHeld2
  clear hHeld2
  refine take_op (i := 7) (d := 22) (v := ?_) rfl rfl (by kernel_rfl) (by kernel_rfl) (by kernel_rfl) (fun _ _ _ h => h) (Or.inl ⟨by rfl, ?hy7u189⟩) hHeld ?rest7u189
  case hy7u189 =>
    intro w' hS'
    go_simp
    try with_reducible rfl
  simp only [List.setIfInBounds_toArray, List.set_cons_zero, List.set_cons_succ]
  refine take_op (i := 8) (d := 23) (v := ?_) rfl rfl (by kernel_rfl) (by kernel_rfl) (by kernel_rfl) (fun _ _ _ h => h) (Or.inl ⟨by rfl, ?hy8u190⟩) hHeld ?rest8u190
  case hy8u190 =>
    intro w' hS'
    go_simp
    try with_reducible rfl
  simp only [List.setIfInBounds_toArray, List.set_cons_zero, List.set_cons_succ]
  refine take_op (i := 9) (d := 24) (v := ?_) rfl rfl (by kernel_rfl) (by kernel_rfl) (by kernel_rfl) (fun _ _ _ h => h) (Or.inl ⟨by rfl, ?hy9u191⟩) hHeld ?rest9u191
  case hy9u191 =>
    intro w' hS'
    go_simp
    try with_reducible rfl
  simp only [List.setIfInBounds_toArray, List.set_cons_zero, List.set_cons_succ]
  refine wpAnyH_ready (rs := [10]) (by kernel_rfl) (by simp) ?_
  refine AllReadyH.cons rfl (fun K hK => ?_) AllReadyH.nil
  go_simp
  refine (isPart_is lo true HLo.out _).mono ?_
  rintro e w' ⟨rfl, rfl⟩
  refine hK.out _ _ (hHeld) (fun hHeld2 => ?_)
  clear hK K
  replace hHeld := hHeld2
  clear hHeld2
  refine take_op (i := 11) (d := 26) (v := ?_) rfl rfl (by kernel_rfl) (by kernel_rfl) (by kernel_rfl) (fun _ _ _ h => h) (Or.inl ⟨by rfl, ?hy11u192⟩) hHeld ?rest11u192
  case hy11u192 =>
    intro w' hS'
    go_simp
    try with_reducible rfl
  simp only [List.setIfInBounds_toArray, List.set_cons_zero, List.set_cons_succ]
  refine take_op (i := 12) (d := 27) (v := ?_) rfl rfl (by kernel_rfl) (by kernel_rfl) (by kernel_rfl) (fun _ _ _ h => h) (Or.inl ⟨by rfl, ?hy12u193⟩) hHeld ?rest12u193
  case hy12u193 =>
    intro w' hS'
    go_simp
    try with_reducible rfl
  simp only [List.setIfInBounds_toArray, List.set_cons_zero, List.set_cons_succ]
  refine take_op (i := 13) (d := 28) (v := ?_) rfl rfl (by kernel_rfl) (by kernel_rfl) (by kernel_rfl) (fun _ _ _ h => h) (Or.inl ⟨by rfl, ?hy13u194⟩) hHeld ?rest13u194
  case hy13u194 =>
    intro w' hS'
    go_simp
    try with_reducible rfl
  simp only [List.setIfInBounds_toArray, List.set_cons_zero, List.set_cons_succ]
  refine wpAnyH_ready (rs := [14]) (by kernel_rfl) (by simp) ?_
  refine AllReadyH.cons rfl (fun K hK => ?_) AllReadyH.nil
  go_simp
  refine (isPart_is hi hgh HHi.out _).mono ?_
  rintro e w' ⟨rfl, rfl⟩
  refine hK.out _ _ (hHeld) (fun hHeld2 => ?_)
  clear hK K
  replace hHeld := hHeld2
  clear hHeld2
  refine take_op (i := 15) (d := 30) (v := ?_) rfl rfl (by kernel_rfl) (by kernel_rfl) (by kernel_rfl) (fun _ _ _ h => h) (Or.inl ⟨by rfl, ?hy15u195⟩) hHeld ?rest15u195
  case hy15u195 =>
    intro w' hS'
    go_simp
    try with_reducible rfl
  simp only [List.setIfInBounds_toArray, List.set_cons_zero, List.set_cons_succ]
  refine wpAnyH_ready (rs := [16]) (by kernel_rfl) (by simp) ?_
  refine AllReadyH.cons rfl (fun K hK => ?_) AllReadyH.nil
  go_simp
  refine (HC.out _).mono ?_
  rintro e W1 ⟨rfl, hb1⟩
  refine hK.out _ _ (hHeld.trans (hb1.mono hHeld.size)) (fun hHeld2 => ?_)
  clear hK K
  replace hHeld := hHeld2
  clear hHeld2
  clear hb1
  refine take_op (i := 17) (d := 14) (v := ?_) rfl rfl (by kernel_rfl) (by kernel_rfl) (by kernel_rfl) (fun _ _ _ h => h) (Or.inl ⟨by rfl, ?hy17u196⟩) hHeld ?rest17u196
  case hy17u196 =>
    intro w' hS'
    go_simp
    try with_reducible rfl
  simp only [List.setIfInBounds_toArray, List.set_cons_zero, List.set_cons_succ]
  refine wpAnyH_done (by kernel_rfl) ?_ _
  replace H0 := Lib.hid (below_row hHeld H0.out)
  replace H1 := Lib.hid (below_row hHeld H1.out)
  replace hb := hb.trans (hHeld.mono hb.size)
  replace HE := Lib.hid (errT_below HE.out hHeld)
  clear hHeld
  go_wp2_with (go_at_call 30; refine (HD.out _ HE.out).mono ?_; rintro e W9 ⟨rfl, hb1⟩; replace hb := hb.trans (hb1.mono hb.size); clear hb1)
  go_ret2
  exact ⟨⟨_, rfl, ⟨none, 0, rfl, Nat.zero_le _, Nat.le_refl _, .inl ⟨rfl, rfl⟩⟩⟩, hb⟩

set_option maxRecDepth 100000 in
set_option maxHeartbeats 4000000 in
theorem iTiltsAt_yes (n : Int) (wd gp : Nat) (t : Int) (sh : Nat) (hs ts : List Int) (hh : hs.length = 24) (ht : ts.length = 24) (fc hour : Int) (lo hi : Nat) (bw : BlWf n wd gp t sh) (T0 : -32768 ≤ t) (T1 : t ≤ 32767) (hf : inF fc = true) (hH : inH hour = true) (hlo : partB lo = true) (hhi : partB hi = true) (hc : cdP true (okBl n wd gp t sh) (okB hs ts) true = 0) (w : World) :
    Calls Tryz.prog 20 #[.agg (blindC n wd gp t sh), .agg (sunC hs ts), .int .i64 fc, .int .i64 hour, .float .f32 lo, .float .f32 hi] w (RetList (wantT (kpB hs ts fc lo hi wd gp sh hour) (tls 129)) 0 w) := by
  have HC := Lib.hid (fun w => checkDay_ok n wd gp t sh hs ts hh ht T0 T1 true hc w)
  obtain ⟨_, hk, hos, _⟩ := cdP_yes hc
  have OK := blok_of bw hk
  have kk : HrOk hs ts hour fc := hrok_of hh ht hos (by have := inB_true (show inB hour 0 23 = true from hH); omega) (by have := inB_true (show inB hour 0 23 = true from hH); omega) hf
  have HDO := Lib.hid (fun w => dayOf_any hs ts hh ht fc lo hi n wd gp t sh w)
  have HTI := Lib.hid (fun w => dayTilts_any hs ts hh ht fc lo hi n wd gp t sh OK hour kk w)
  obtain ⟨hgh, hgt⟩ : ∃ b : Bool, b = true := ⟨true, rfl⟩
  have HF := Lib.hid hf
  have HH := Lib.hid hH
  have HLo := Lib.hid hlo
  have HHi : Hid (partB hi = hgh) := by rw [hgt]; exact hhi
  have Hh := Lib.hid hh
  have Ht := Lib.hid ht
  have hn := fun w => run_neq_nil_nil (P := Tryz.prog) (w := w) 61 (by kernel_rfl)
  have HBT : Hid (Tryz.prog.built 67 [(0, .float .f32 lo), (1, .float .f32 hi)] = some (bnC lo hi)) := by unfold Hid; kernel_rfl
  subst hgt
  generalize kpB hs ts fc lo hi wd gp sh hour = P at *
  clear hh ht hc hf hH hlo hhi OK kk bw
  go_enter Tryz.func20, Tryz.ntmps20
  go_upto_region 1 with (fail)
  refine abs_code (fun W => W.heap[w.heap.size]? = some (.cells (blindC n wd gp t sh) 33 (0, 0)) ∧ W.heap[w.heap.size + 1]? = some (.cells (sunC hs ts) 35 (0, 0)) ∧ Below w.heap.size w W) ⟨(two_newQ _ _ _).1, (two_newQ _ _ _).2.1, (two_newQ _ _ _).2.2⟩ ?_
  rintro W ⟨h0, h1, hb⟩
  generalize w.heap.size + 1 = b1 at *
  have H0 := Lib.hid h0
  have H1 := Lib.hid h1
  clear h0 h1
  refine wp_region_held_drew (S := (fun V => Below W.heap.size W V)) (by kernel_rfl) (Below.refl _ _).drew (fun hHeld => ?_)
  refine take_op (i := 0) (d := 15) (v := .agg (blindC n wd gp t sh)) rfl rfl (by kernel_rfl) (by kernel_rfl) (by kernel_rfl) (fun _ _ _ h => h) (yields_row (by rfl) 33 (.tmp 6) (by rfl) w.heap.size 0 5 (by rfl) 33 (blindC n wd gp t sh) (0, 0) _ (fun _ h => below_row h H0.out) Tryz.underlying33 rfl info_blind (blind_fits _ _ _ _ _) (blindC n wd gp t sh) (blind_all _ _ _ _ _)) hHeld ?_
  simp only [List.setIfInBounds_toArray, List.set_cons_zero, List.set_cons_succ]
  refine take_op (i := 1) (d := 16) (v := .agg (sunC hs ts)) rfl rfl (by kernel_rfl) (by kernel_rfl) (by kernel_rfl) (fun _ _ _ h => h) (yields_row (by rfl) 35 (.tmp 7) (by rfl) b1 0 48 (by rfl) 35 (sunC hs ts) (0, 0) _ (fun _ h => below_row h H1.out) Tryz.underlying35 rfl info_sun (sun_fits _ _ Hh.out Ht.out) (sunC hs ts) (sun_all _ _ Hh.out Ht.out)) hHeld ?_
  simp only [List.setIfInBounds_toArray, List.set_cons_zero, List.set_cons_succ]
  refine take_op (i := 2) (d := 17) (v := ?_) rfl rfl (by kernel_rfl) (by kernel_rfl) (by kernel_rfl) (fun _ _ _ h => h) (Or.inl ⟨by rfl, ?hy2u197⟩) hHeld ?rest2u197
  case hy2u197 =>
    intro w' hS'
    go_simp
    try with_reducible rfl
  simp only [List.setIfInBounds_toArray, List.set_cons_zero, List.set_cons_succ]
  refine wpAnyH_ready (rs := [3]) (by kernel_rfl) (by simp) ?_
  refine AllReadyH.cons rfl (fun K hK => ?_) AllReadyH.nil
  go_simp
  refine (isFacing_is fc true HF.out _).mono ?_
  rintro e w' ⟨rfl, rfl⟩
  refine hK.out _ _ (hHeld) (fun hHeld2 => ?_)
  clear hK K
  replace hHeld := hHeld2
  clear hHeld2
  refine take_op (i := 4) (d := 19) (v := ?_) rfl rfl (by kernel_rfl) (by kernel_rfl) (by kernel_rfl) (fun _ _ _ h => h) (Or.inl ⟨by rfl, ?hy4u198⟩) hHeld ?rest4u198
  case hy4u198 =>
    intro w' hS'
    go_simp
    try with_reducible rfl
  simp only [List.setIfInBounds_toArray, List.set_cons_zero, List.set_cons_succ]
  refine take_op (i := 5) (d := 20) (v := ?_) rfl rfl (by kernel_rfl) (by kernel_rfl) (by kernel_rfl) (fun _ _ _ h => h) (Or.inl ⟨by rfl, ?hy5u199⟩) hHeld ?rest5u199
  case hy5u199 =>
    intro w' hS'
    go_simp
    try with_reducible rfl
  simp only [List.setIfInBounds_toArray, List.set_cons_zero, List.set_cons_succ]
  refine wpAnyH_ready (rs := [6]) (by kernel_rfl) (by simp) ?_
  refine AllReadyH.cons rfl (fun K hK => ?_) AllReadyH.nil
  go_simp
  refine (isHour_is hour true HH.out _).mono ?_
  rintro e w' ⟨rfl, rfl⟩
  refine hK.out _ _ (hHeld) (fun hHeld2 => ?_)
  clear hK K
  replace hHeld := hHeld2
  clear hHeld2
  refine take_op (i := 7) (d := 22) (v := ?_) rfl rfl (by kernel_rfl) (by kernel_rfl) (by kernel_rfl) (fun _ _ _ h => h) (Or.inl ⟨by rfl, ?hy7u200⟩) hHeld ?rest7u200
  case hy7u200 =>
    intro w' hS'
    go_simp
    try with_reducible rfl
  simp only [List.setIfInBounds_toArray, List.set_cons_zero, List.set_cons_succ]
  refine take_op (i := 8) (d := 23) (v := ?_) rfl rfl (by kernel_rfl) (by kernel_rfl) (by kernel_rfl) (fun _ _ _ h => h) (Or.inl ⟨by rfl, ?hy8u201⟩) hHeld ?rest8u201
  case hy8u201 =>
    intro w' hS'
    go_simp
    try with_reducible rfl
  simp only [List.setIfInBounds_toArray, List.set_cons_zero, List.set_cons_succ]
  refine take_op (i := 9) (d := 24) (v := ?_) rfl rfl (by kernel_rfl) (by kernel_rfl) (by kernel_rfl) (fun _ _ _ h => h) (Or.inl ⟨by rfl, ?hy9u202⟩) hHeld ?rest9u202
  case hy9u202 =>
    intro w' hS'
    go_simp
    try with_reducible rfl
  simp only [List.setIfInBounds_toArray, List.set_cons_zero, List.set_cons_succ]
  refine wpAnyH_ready (rs := [10]) (by kernel_rfl) (by simp) ?_
  refine AllReadyH.cons rfl (fun K hK => ?_) AllReadyH.nil
  go_simp
  refine (isPart_is lo true HLo.out _).mono ?_
  rintro e w' ⟨rfl, rfl⟩
  refine hK.out _ _ (hHeld) (fun hHeld2 => ?_)
  clear hK K
  replace hHeld := hHeld2
  clear hHeld2
  refine take_op (i := 11) (d := 26) (v := ?_) rfl rfl (by kernel_rfl) (by kernel_rfl) (by kernel_rfl) (fun _ _ _ h => h) (Or.inl ⟨by rfl, ?hy11u203⟩) hHeld ?rest11u203
  case hy11u203 =>
    intro w' hS'
    go_simp
    try with_reducible rfl
  simp only [List.setIfInBounds_toArray, List.set_cons_zero, List.set_cons_succ]
  refine take_op (i := 12) (d := 27) (v := ?_) rfl rfl (by kernel_rfl) (by kernel_rfl) (by kernel_rfl) (fun _ _ _ h => h) (Or.inl ⟨by rfl, ?hy12u204⟩) hHeld ?rest12u204
  case hy12u204 =>
    intro w' hS'
    go_simp
    try with_reducible rfl
  simp only [List.setIfInBounds_toArray, List.set_cons_zero, List.set_cons_succ]
  refine take_op (i := 13) (d := 28) (v := ?_) rfl rfl (by kernel_rfl) (by kernel_rfl) (by kernel_rfl) (fun _ _ _ h => h) (Or.inl ⟨by rfl, ?hy13u205⟩) hHeld ?rest13u205
  case hy13u205 =>
    intro w' hS'
    go_simp
    try with_reducible rfl
  simp only [List.setIfInBounds_toArray, List.set_cons_zero, List.set_cons_succ]
  refine wpAnyH_ready (rs := [14]) (by kernel_rfl) (by simp) ?_
  refine AllReadyH.cons rfl (fun K hK => ?_) AllReadyH.nil
  go_simp
  refine (isPart_is hi true HHi.out _).mono ?_
  rintro e w' ⟨rfl, rfl⟩
  refine hK.out _ _ (hHeld) (fun hHeld2 => ?_)
  clear hK K
  replace hHeld := hHeld2
  clear hHeld2
  refine take_op (i := 15) (d := 30) (v := ?_) rfl rfl (by kernel_rfl) (by kernel_rfl) (by kernel_rfl) (fun _ _ _ h => h) (Or.inl ⟨by rfl, ?hy15u206⟩) hHeld ?rest15u206
  case hy15u206 =>
    intro w' hS'
    go_simp
    try with_reducible rfl
  simp only [List.setIfInBounds_toArray, List.set_cons_zero, List.set_cons_succ]
  refine wpAnyH_ready (rs := [16]) (by kernel_rfl) (by simp) ?_
  refine AllReadyH.cons rfl (fun K hK => ?_) AllReadyH.nil
  go_simp
  refine (HC.out _).mono ?_
  rintro e W1 ⟨rfl, hb1⟩
  refine hK.out _ _ (hHeld.trans (hb1.mono hHeld.size)) (fun hHeld2 => ?_)
  clear hK K
  replace hHeld := hHeld2
  clear hHeld2
  clear hb1
  refine take_op (i := 17) (d := 14) (v := ?_) rfl rfl (by kernel_rfl) (by kernel_rfl) (by kernel_rfl) (fun _ _ _ h => h) (Or.inl ⟨by rfl, ?hy17u207⟩) hHeld ?rest17u207
  case hy17u207 =>
    intro w' hS'
    go_simp
    try with_reducible rfl
  simp only [List.setIfInBounds_toArray, List.set_cons_zero, List.set_cons_succ]
  refine wpAnyH_done (by kernel_rfl) ?_ _
  replace H0 := Lib.hid (below_row hHeld H0.out)
  replace H1 := Lib.hid (below_row hHeld H1.out)
  replace hb := hb.trans (hHeld.mono hb.size)
  clear hHeld HC HF HH HLo HHi
  go_wp2_with (first | (refine wpList_load_part rfl 33 _ rfl w.heap.size 0 5 rfl 33 (blindC n wd gp t sh) (0, 0) _ H0.out Tryz.underlying33 rfl info_blind (blind_fits _ _ _ _ _) _ (blind_all _ _ _ _ _) ?_) | (refine wpList_load_part rfl 35 _ rfl b1 0 48 rfl 35 (sunC hs ts) (0, 0) _ H1.out Tryz.underlying35 rfl info_sun (sun_fits _ _ Hh.out Ht.out) (sunC hs ts) (sun_all _ _ Hh.out Ht.out) ?_) | (refine wpList_buildL rfl 67 _ rfl _ rfl [(0, .float .f32 lo), (1, .float .f32 hi)] rfl (bnC lo hi) HBT.out ?_) | (go_at_call 31; refine (HDO.out _).mono ?_; rintro e W5 ⟨rfl, hb1⟩; replace hb := hb.trans (hb1.mono hb.size); clear hb1) | (go_at_call 43; refine (HTI.out _).mono ?_; rintro e W6 ⟨⟨v, rfl, hv⟩, hb1⟩))
  go_ret2
  exact ⟨⟨_, rfl, own_below hv (Below.refl _ _) hb.size⟩, hb.trans (hb1.mono hb.size)⟩

theorem zbel (W : World) (o : Obj) (cs : Array Value) : Below W.heap.size W ((W.alloc o).setRow W.heap.size cs) := below_setRow ((Below.refl _ _).alloc (Nat.le_refl _) _) (Nat.le_refl _) _

set_option maxRecDepth 100000 in
set_option maxHeartbeats 4000000 in
theorem sTiltsAt_F (n : Int) (wd gp : Nat) (t : Int) (sh : Nat) (hs ts : List Int) (hh : hs.length = 24) (ht : ts.length = 24) (fc hour : Int) (lo hi : Nat) (T0 : -32768 ≤ t) (T1 : t ≤ 32767) (N0 : -128 ≤ n) (N1 : n ≤ 127) (rb : ∀ x ∈ hs ++ ts, -32768 ≤ x ∧ x ≤ 32767) (hf : inF fc = false) (c : Int) (hc : cdP true (okBl n wd gp t sh) (okB hs ts) false = c) (hne : c ≠ 0) (w : World) :
    Calls Tryz.prog 19 #[.agg (blindC n wd gp t sh), .agg (sunC hs ts), .int .i64 fc, .int .i64 hour, .float .f32 lo, .float .f32 hi] w (RetList [] c w) := by
  have HA := Lib.hid (fun g1 g2 g3 w q1 q2 q3 => l07Asked_is n wd gp t sh hs ts hh ht zP zP_len T0 T1 N0 N1 rb zP_b false c (by rw [zP_ok]; exact hc) g1 g2 g3 w q1 q2 q3)
  have HF := Lib.hid hf
  have HZB : Hid (Tryz.prog.built 37 [] = some (i16s zP)) := by unfold Hid; kernel_rfl
  clear hh ht hc hf T0 T1 N0 N1 rb
  go_enter Tryz.func19, Tryz.ntmps19
  go_upto_region 1 with (fail)
  refine abs_code (fun W => W.heap[w.heap.size]? = some (.cells (blindC n wd gp t sh) 33 (0, 0)) ∧ W.heap[w.heap.size + 1]? = some (.cells (sunC hs ts) 35 (0, 0)) ∧ Below w.heap.size w W) ⟨(two_newQ _ _ _).1, (two_newQ _ _ _).2.1, (two_newQ _ _ _).2.2⟩ ?_
  rintro W ⟨h0, h1, hb⟩
  generalize w.heap.size + 1 = b1 at *
  have H0 := Lib.hid h0
  have H1 := Lib.hid h1
  clear h0 h1
  go_upto_region 2 with (first | (refine wpList_buildL rfl 37 _ rfl _ rfl [] rfl (i16s zP) HZB.out ?_) | (refine wpList_store_part rfl 37 _ _ rfl _ 0 (i16s zP) rfl rfl 37 _ (heap_alloc_new _ _) info_plan (Nat.le_refl _) zP_one ?_; rw [laid_all _ _ (by rfl)]))
  refine abs_code (fun V => V.heap[w.heap.size]? = some (.cells (blindC n wd gp t sh) 33 (0, 0)) ∧ V.heap[b1]? = some (.cells (sunC hs ts) 35 (0, 0)) ∧ V.heap[W.heap.size]? = some (.cells (i16s zP) 37 (0, 0)) ∧ Below w.heap.size w V) ⟨below_row (zbel _ _ _) H0.out, below_row (zbel _ _ _) H1.out, setRow_heap _ _ _ _ _ _ (heap_alloc_new _ _), below_setRow (hb.alloc hb.size _) hb.size _⟩ ?_
  clear H0 H1 hb
  generalize W.heap.size = b2 at *
  rintro V ⟨h0, h1, h2, hb⟩
  have H0 := Lib.hid h0
  have H1 := Lib.hid h1
  have H2 := Lib.hid h2
  clear h0 h1 h2
  go_wp2_with (first | (go_at_call 25; refine (l01Faced_is fc false HF.out _).mono ?_; rintro e w' ⟨rfl, rfl⟩) | (go_at_call 24; refine (HA.out _ _ _ _ H0.out H1.out H2.out).mono ?_; rintro e w' ⟨rfl, rfl⟩))
  go_ret2
  exact ⟨⟨_, rfl, ⟨_, 0, rfl, Nat.zero_le _, Nat.le_refl _, .inr ⟨_, #[], rfl, hb.size, heap_alloc_new _ _, fun k hk => absurd hk (Nat.not_lt_zero k)⟩⟩⟩, hb.alloc hb.size _⟩

set_option maxRecDepth 100000 in
set_option maxHeartbeats 4000000 in
theorem sTiltsAt_H (n : Int) (wd gp : Nat) (t : Int) (sh : Nat) (hs ts : List Int) (hh : hs.length = 24) (ht : ts.length = 24) (fc hour : Int) (lo hi : Nat) (T0 : -32768 ≤ t) (T1 : t ≤ 32767) (N0 : -128 ≤ n) (N1 : n ≤ 127) (rb : ∀ x ∈ hs ++ ts, -32768 ≤ x ∧ x ≤ 32767) (hf : inF fc = true) (hH : inH hour = false) (c : Int) (hc : cdP true (okBl n wd gp t sh) (okB hs ts) false = c) (hne : c ≠ 0) (w : World) :
    Calls Tryz.prog 19 #[.agg (blindC n wd gp t sh), .agg (sunC hs ts), .int .i64 fc, .int .i64 hour, .float .f32 lo, .float .f32 hi] w (RetList [] c w) := by
  have HA := Lib.hid (fun g1 g2 g3 w q1 q2 q3 => l07Asked_is n wd gp t sh hs ts hh ht zP zP_len T0 T1 N0 N1 rb zP_b false c (by rw [zP_ok]; exact hc) g1 g2 g3 w q1 q2 q3)
  have HF := Lib.hid hf
  have HH := Lib.hid hH
  have HZB : Hid (Tryz.prog.built 37 [] = some (i16s zP)) := by unfold Hid; kernel_rfl
  clear hh ht hc hf hH T0 T1 N0 N1 rb
  go_enter Tryz.func19, Tryz.ntmps19
  go_upto_region 1 with (fail)
  refine abs_code (fun W => W.heap[w.heap.size]? = some (.cells (blindC n wd gp t sh) 33 (0, 0)) ∧ W.heap[w.heap.size + 1]? = some (.cells (sunC hs ts) 35 (0, 0)) ∧ Below w.heap.size w W) ⟨(two_newQ _ _ _).1, (two_newQ _ _ _).2.1, (two_newQ _ _ _).2.2⟩ ?_
  rintro W ⟨h0, h1, hb⟩
  generalize w.heap.size + 1 = b1 at *
  have H0 := Lib.hid h0
  have H1 := Lib.hid h1
  clear h0 h1
  go_upto_region 2 with (first | (refine wpList_buildL rfl 37 _ rfl _ rfl [] rfl (i16s zP) HZB.out ?_) | (refine wpList_store_part rfl 37 _ _ rfl _ 0 (i16s zP) rfl rfl 37 _ (heap_alloc_new _ _) info_plan (Nat.le_refl _) zP_one ?_; rw [laid_all _ _ (by rfl)]))
  refine abs_code (fun V => V.heap[w.heap.size]? = some (.cells (blindC n wd gp t sh) 33 (0, 0)) ∧ V.heap[b1]? = some (.cells (sunC hs ts) 35 (0, 0)) ∧ V.heap[W.heap.size]? = some (.cells (i16s zP) 37 (0, 0)) ∧ Below w.heap.size w V) ⟨below_row (zbel _ _ _) H0.out, below_row (zbel _ _ _) H1.out, setRow_heap _ _ _ _ _ _ (heap_alloc_new _ _), below_setRow (hb.alloc hb.size _) hb.size _⟩ ?_
  clear H0 H1 hb
  generalize W.heap.size = b2 at *
  rintro V ⟨h0, h1, h2, hb⟩
  have H0 := Lib.hid h0
  have H1 := Lib.hid h1
  have H2 := Lib.hid h2
  clear h0 h1 h2
  go_wp2_with (first | (go_at_call 25; refine (l01Faced_is fc true HF.out _).mono ?_; rintro e w' ⟨rfl, rfl⟩) | (go_at_call 39; refine (l01Hour_is hour false HH.out _).mono ?_; rintro e w' ⟨rfl, rfl⟩) | (go_at_call 24; refine (HA.out _ _ _ _ H0.out H1.out H2.out).mono ?_; rintro e w' ⟨rfl, rfl⟩))
  go_ret2
  exact ⟨⟨_, rfl, ⟨_, 0, rfl, Nat.zero_le _, Nat.le_refl _, .inr ⟨_, #[], rfl, hb.size, heap_alloc_new _ _, fun k hk => absurd hk (Nat.not_lt_zero k)⟩⟩⟩, hb.alloc hb.size _⟩

set_option maxRecDepth 100000 in
set_option maxHeartbeats 4000000 in
theorem sTiltsAt_T (n : Int) (wd gp : Nat) (t : Int) (sh : Nat) (hs ts : List Int) (hh : hs.length = 24) (ht : ts.length = 24) (fc hour : Int) (lo hi : Nat) (T0 : -32768 ≤ t) (T1 : t ≤ 32767) (N0 : -128 ≤ n) (N1 : n ≤ 127) (rb : ∀ x ∈ hs ++ ts, -32768 ≤ x ∧ x ≤ 32767) (hf : inF fc = true) (hH : inH hour = true) (hlo : partB lo = false) (c : Int) (hc : cdP true (okBl n wd gp t sh) (okB hs ts) false = c) (hne : c ≠ 0) (w : World) :
    Calls Tryz.prog 19 #[.agg (blindC n wd gp t sh), .agg (sunC hs ts), .int .i64 fc, .int .i64 hour, .float .f32 lo, .float .f32 hi] w (RetList [] c w) := by
  have HA := Lib.hid (fun g1 g2 g3 w q1 q2 q3 => l07Asked_is n wd gp t sh hs ts hh ht zP zP_len T0 T1 N0 N1 rb zP_b false c (by rw [zP_ok]; exact hc) g1 g2 g3 w q1 q2 q3)
  have HF := Lib.hid hf
  have HH := Lib.hid hH
  have HLo := Lib.hid (fun w => l01Part_is lo false hlo w)
  have HZB : Hid (Tryz.prog.built 37 [] = some (i16s zP)) := by unfold Hid; kernel_rfl
  clear hh ht hc hf hH hlo T0 T1 N0 N1 rb
  go_enter Tryz.func19, Tryz.ntmps19
  go_upto_region 1 with (fail)
  refine abs_code (fun W => W.heap[w.heap.size]? = some (.cells (blindC n wd gp t sh) 33 (0, 0)) ∧ W.heap[w.heap.size + 1]? = some (.cells (sunC hs ts) 35 (0, 0)) ∧ Below w.heap.size w W) ⟨(two_newQ _ _ _).1, (two_newQ _ _ _).2.1, (two_newQ _ _ _).2.2⟩ ?_
  rintro W ⟨h0, h1, hb⟩
  generalize w.heap.size + 1 = b1 at *
  have H0 := Lib.hid h0
  have H1 := Lib.hid h1
  clear h0 h1
  go_upto_region 2 with (first | (refine wpList_buildL rfl 37 _ rfl _ rfl [] rfl (i16s zP) HZB.out ?_) | (refine wpList_store_part rfl 37 _ _ rfl _ 0 (i16s zP) rfl rfl 37 _ (heap_alloc_new _ _) info_plan (Nat.le_refl _) zP_one ?_; rw [laid_all _ _ (by rfl)]))
  refine abs_code (fun V => V.heap[w.heap.size]? = some (.cells (blindC n wd gp t sh) 33 (0, 0)) ∧ V.heap[b1]? = some (.cells (sunC hs ts) 35 (0, 0)) ∧ V.heap[W.heap.size]? = some (.cells (i16s zP) 37 (0, 0)) ∧ Below w.heap.size w V) ⟨below_row (zbel _ _ _) H0.out, below_row (zbel _ _ _) H1.out, setRow_heap _ _ _ _ _ _ (heap_alloc_new _ _), below_setRow (hb.alloc hb.size _) hb.size _⟩ ?_
  clear H0 H1 hb
  generalize W.heap.size = b2 at *
  rintro V ⟨h0, h1, h2, hb⟩
  have H0 := Lib.hid h0
  have H1 := Lib.hid h1
  have H2 := Lib.hid h2
  clear h0 h1 h2
  go_wp2_with (first | (go_at_call 25; refine (l01Faced_is fc true HF.out _).mono ?_; rintro e w' ⟨rfl, rfl⟩) | (go_at_call 39; refine (l01Hour_is hour true HH.out _).mono ?_; rintro e w' ⟨rfl, rfl⟩) | (go_at_call 34; refine (HLo.out _).mono ?_; rintro e w' ⟨rfl, rfl⟩) | (go_at_call 24; refine (HA.out _ _ _ _ H0.out H1.out H2.out).mono ?_; rintro e w' ⟨rfl, rfl⟩))
  go_ret2
  exact ⟨⟨_, rfl, ⟨_, 0, rfl, Nat.zero_le _, Nat.le_refl _, .inr ⟨_, #[], rfl, hb.size, heap_alloc_new _ _, fun k hk => absurd hk (Nat.not_lt_zero k)⟩⟩⟩, hb.alloc hb.size _⟩

set_option maxRecDepth 100000 in
set_option maxHeartbeats 4000000 in
theorem sTiltsAt_TT (n : Int) (wd gp : Nat) (t : Int) (sh : Nat) (hs ts : List Int) (hh : hs.length = 24) (ht : ts.length = 24) (fc hour : Int) (lo hi : Nat) (T0 : -32768 ≤ t) (T1 : t ≤ 32767) (N0 : -128 ≤ n) (N1 : n ≤ 127) (rb : ∀ x ∈ hs ++ ts, -32768 ≤ x ∧ x ≤ 32767) (hf : inF fc = true) (hH : inH hour = true) (hlo : partB lo = true) (hgh : Bool) (hhi : partB hi = hgh) (c : Int) (hc : cdP true (okBl n wd gp t sh) (okB hs ts) hgh = c) (hne : c ≠ 0) (w : World) :
    Calls Tryz.prog 19 #[.agg (blindC n wd gp t sh), .agg (sunC hs ts), .int .i64 fc, .int .i64 hour, .float .f32 lo, .float .f32 hi] w (RetList [] c w) := by
  have HA := Lib.hid (fun g1 g2 g3 w q1 q2 q3 => l07Asked_is n wd gp t sh hs ts hh ht zP zP_len T0 T1 N0 N1 rb zP_b hgh c (by rw [zP_ok]; exact hc) g1 g2 g3 w q1 q2 q3)
  have HF := Lib.hid hf
  have HH := Lib.hid hH
  have HLo := Lib.hid (fun w => l01Part_is lo true hlo w)
  have HHi := Lib.hid (fun w => l01Part_is hi hgh hhi w)
  have HZB : Hid (Tryz.prog.built 37 [] = some (i16s zP)) := by unfold Hid; kernel_rfl
  clear hh ht hc hf hH hlo hhi T0 T1 N0 N1 rb
  go_enter Tryz.func19, Tryz.ntmps19
  go_upto_region 1 with (fail)
  refine abs_code (fun W => W.heap[w.heap.size]? = some (.cells (blindC n wd gp t sh) 33 (0, 0)) ∧ W.heap[w.heap.size + 1]? = some (.cells (sunC hs ts) 35 (0, 0)) ∧ Below w.heap.size w W) ⟨(two_newQ _ _ _).1, (two_newQ _ _ _).2.1, (two_newQ _ _ _).2.2⟩ ?_
  rintro W ⟨h0, h1, hb⟩
  generalize w.heap.size + 1 = b1 at *
  have H0 := Lib.hid h0
  have H1 := Lib.hid h1
  clear h0 h1
  go_upto_region 2 with (first | (refine wpList_buildL rfl 37 _ rfl _ rfl [] rfl (i16s zP) HZB.out ?_) | (refine wpList_store_part rfl 37 _ _ rfl _ 0 (i16s zP) rfl rfl 37 _ (heap_alloc_new _ _) info_plan (Nat.le_refl _) zP_one ?_; rw [laid_all _ _ (by rfl)]))
  refine abs_code (fun V => V.heap[w.heap.size]? = some (.cells (blindC n wd gp t sh) 33 (0, 0)) ∧ V.heap[b1]? = some (.cells (sunC hs ts) 35 (0, 0)) ∧ V.heap[W.heap.size]? = some (.cells (i16s zP) 37 (0, 0)) ∧ Below w.heap.size w V) ⟨below_row (zbel _ _ _) H0.out, below_row (zbel _ _ _) H1.out, setRow_heap _ _ _ _ _ _ (heap_alloc_new _ _), below_setRow (hb.alloc hb.size _) hb.size _⟩ ?_
  clear H0 H1 hb
  generalize W.heap.size = b2 at *
  rintro V ⟨h0, h1, h2, hb⟩
  have H0 := Lib.hid h0
  have H1 := Lib.hid h1
  have H2 := Lib.hid h2
  clear h0 h1 h2
  go_wp2_with (first | (go_at_call 25; refine (l01Faced_is fc true HF.out _).mono ?_; rintro e w' ⟨rfl, rfl⟩) | (go_at_call 39; refine (l01Hour_is hour true HH.out _).mono ?_; rintro e w' ⟨rfl, rfl⟩) | (go_at_call 34; (first | (with_reducible refine (HLo.out _).mono ?_) | (with_reducible refine (HHi.out _).mono ?_)); rintro e w' ⟨rfl, rfl⟩) | (go_at_call 24; refine (HA.out _ _ _ _ H0.out H1.out H2.out).mono ?_; rintro e w' ⟨rfl, rfl⟩))
  go_ret2
  exact ⟨⟨_, rfl, ⟨_, 0, rfl, Nat.zero_le _, Nat.le_refl _, .inr ⟨_, #[], rfl, hb.size, heap_alloc_new _ _, fun k hk => absurd hk (Nat.not_lt_zero k)⟩⟩⟩, hb.alloc hb.size _⟩

set_option maxRecDepth 100000 in
set_option maxHeartbeats 4000000 in
theorem sTiltsAt_yes (n : Int) (wd gp : Nat) (t : Int) (sh : Nat) (hs ts : List Int) (hh : hs.length = 24) (ht : ts.length = 24) (fc hour : Int) (lo hi : Nat) (bw : BlWf n wd gp t sh) (T0 : -32768 ≤ t) (T1 : t ≤ 32767) (N0 : -128 ≤ n) (N1 : n ≤ 127) (rb : ∀ x ∈ hs ++ ts, -32768 ≤ x ∧ x ≤ 32767) (hf : inF fc = true) (hH : inH hour = true) (hlo : partB lo = true) (hhi : partB hi = true) (wlo : (Lit.float .f32 lo).wf = true) (whi : (Lit.float .f32 hi).wf = true) (hc : cdP true (okBl n wd gp t sh) (okB hs ts) true = 0) (w : World) :
    Calls Tryz.prog 19 #[.agg (blindC n wd gp t sh), .agg (sunC hs ts), .int .i64 fc, .int .i64 hour, .float .f32 lo, .float .f32 hi] w (RetList (wantT (kpB hs ts fc lo hi wd gp sh hour) (tls 129)) 0 w) := by
  have HA := Lib.hid (fun g1 g2 g3 w q1 q2 q3 => l07Asked_is n wd gp t sh hs ts hh ht zP zP_len T0 T1 N0 N1 rb zP_b true 0 (by rw [zP_ok]; exact hc) g1 g2 g3 w q1 q2 q3)
  obtain ⟨_, hk, hos, _⟩ := cdP_yes hc
  have OK := blok_of bw hk
  have kk : HrOk hs ts hour fc := hrok_of hh ht hos (by have := inB_true (show inB hour 0 23 = true from hH); omega) (by have := inB_true (show inB hour 0 23 = true from hH); omega) hf
  have HTI := Lib.hid (fun g1 g2 w q1 q2 => l07Tilts_any n wd gp t sh hs ts hh ht OK fc hour kk lo hi (part_fin wlo hlo) (part_fin whi hhi) g1 g2 w q1 q2)
  have HF := Lib.hid hf
  have HH := Lib.hid hH
  have HLo := Lib.hid (fun w => l01Part_is lo true hlo w)
  have HHi := Lib.hid (fun w => l01Part_is hi true hhi w)
  have HZB : Hid (Tryz.prog.built 37 [] = some (i16s zP)) := by unfold Hid; kernel_rfl
  generalize kpB hs ts fc lo hi wd gp sh hour = P at *
  clear hh ht hc hf hH hlo hhi OK kk bw T0 T1 N0 N1 rb wlo whi
  go_enter Tryz.func19, Tryz.ntmps19
  go_upto_region 1 with (fail)
  refine abs_code (fun W => W.heap[w.heap.size]? = some (.cells (blindC n wd gp t sh) 33 (0, 0)) ∧ W.heap[w.heap.size + 1]? = some (.cells (sunC hs ts) 35 (0, 0)) ∧ Below w.heap.size w W) ⟨(two_newQ _ _ _).1, (two_newQ _ _ _).2.1, (two_newQ _ _ _).2.2⟩ ?_
  rintro W ⟨h0, h1, hb⟩
  generalize w.heap.size + 1 = b1 at *
  have H0 := Lib.hid h0
  have H1 := Lib.hid h1
  clear h0 h1
  go_upto_region 2 with (first | (refine wpList_buildL rfl 37 _ rfl _ rfl [] rfl (i16s zP) HZB.out ?_) | (refine wpList_store_part rfl 37 _ _ rfl _ 0 (i16s zP) rfl rfl 37 _ (heap_alloc_new _ _) info_plan (Nat.le_refl _) zP_one ?_; rw [laid_all _ _ (by rfl)]))
  refine abs_code (fun V => V.heap[w.heap.size]? = some (.cells (blindC n wd gp t sh) 33 (0, 0)) ∧ V.heap[b1]? = some (.cells (sunC hs ts) 35 (0, 0)) ∧ V.heap[W.heap.size]? = some (.cells (i16s zP) 37 (0, 0)) ∧ Below w.heap.size w V) ⟨below_row (zbel _ _ _) H0.out, below_row (zbel _ _ _) H1.out, setRow_heap _ _ _ _ _ _ (heap_alloc_new _ _), below_setRow (hb.alloc hb.size _) hb.size _⟩ ?_
  clear H0 H1 hb
  generalize W.heap.size = b2 at *
  rintro V ⟨h0, h1, h2, hb⟩
  have H0 := Lib.hid h0
  have H1 := Lib.hid h1
  have H2 := Lib.hid h2
  clear h0 h1 h2
  go_wp2_with (first | (go_at_call 25; refine (l01Faced_is fc true HF.out _).mono ?_; rintro e w' ⟨rfl, rfl⟩) | (go_at_call 39; refine (l01Hour_is hour true HH.out _).mono ?_; rintro e w' ⟨rfl, rfl⟩) | (go_at_call 34; (first | (with_reducible refine (HLo.out _).mono ?_) | (with_reducible refine (HHi.out _).mono ?_)); rintro e w' ⟨rfl, rfl⟩) | (go_at_call 24; refine (HA.out _ _ _ _ H0.out H1.out H2.out).mono ?_; rintro e w' ⟨rfl, rfl⟩) | (go_at_call 40; refine (HTI.out _ _ _ H0.out H1.out).mono ?_; rintro e W1 ⟨⟨v, rfl, hv⟩, hb1⟩))
  go_ret2
  exact ⟨⟨_, rfl, own_below hv (Below.refl _ _) hb.size⟩, hb.trans (hb1.mono hb.size)⟩

end Go.Proofs.YtdbleddcnknmiaaGreatDoor
