/-
  SbA, GbA, GbI, Errs, Code, SbI, List, New.
-/
import Derived.Test.YtckkemknajggpaaGreatDoorRoomE
import Derived.Test.YtckkemknajggpaaGreatDoorPersonA
import Derived.Test.YtckkemknajggpaaGreatDoorSameN
import Derived.Test.YtckkemknajggpaaGreatDoorLaw
import Derived.Test.YtckkemknajggpaaGreatDoorBox
import Derived.Test.YtckkemknajggpaaGreatDoorDeskA
import Derived.Test.YtckkemknajggpaaGreatDoorPart
import Derived.Test.YtckkemknajggpaaGreatDoorRoomV
import Derived.Test.YtckkemknajggpaaGreatDoorRows
import Derived.Stop.LaidTwo
import Derived.LaidEql
import Derived.LaidMore
import Derived.LaidHandle
import Derived.WalkKit
import Derived.ProofKit
import Derived.OpenShut
import Derived.RowKitTokens
import Derived.Test.YtckkemknajggpaaGreatDoorRow
import Derived.Test.YtckkemknajggpaaGreatDoorChecked
import Derived.Stop.Asserts
import Derived.Elder7
import Derived.Lib.Hide
import Derived.Test.YtckkemknajggpaaGreatDoorValidPerson
import Derived.Test.YtckkemknajggpaaGreatDoorTake
import Derived.WalkSpells
import Derived.WalkLawsBesides
import Derived.Deep.Cut
import Derived.Deep.DeepCutAuto

namespace Go.Proofs.YtckkemknajggpaaGreatDoor
open Go.ChangeShapes Go.WideShapes Go.ChangeAt Go.RowKit Go.Deep Go.Joins

attribute [local go_sem] run_store_f

/-- A person: the least light, the most light, the most glare. -/
abbrev Pn := Nat × Nat × Nat

def pnC (x : Pn) : Array Value := persC x.1 x.2.1 x.2.2

def PnWf (x : Pn) : Prop := PeWf x.1 x.2.1 x.2.2

def PnsAt (W : World) (v : Value) (ws : List Pn) : Prop :=
  ∃ a cap, v = .slice a ws.length cap ∧ ws.length ≤ cap ∧ cap ≤ maxLen ∧ ∀ i x, ws[i]? = some x → ∃ g o, a = some ⟨g, o, none⟩ ∧ ∀ j v, (pnC x)[j]? = some v → W.cell? ⟨g, o + i * 3 + j, none⟩ = some v

theorem pns_below {W W' : World} {v : Value} {ws : List Pn} (h : PnsAt W v ws) (hb : Below W.heap.size W W') : PnsAt W' v ws := by
  obtain ⟨a, cap, h1, h2, h3, h4⟩ := h
  refine ⟨a, cap, h1, h2, h3, fun i x hx => ?_⟩
  obtain ⟨g, o, e, c0⟩ := h4 i x hx
  exact ⟨g, o, e, fun j v hv => cell_below hb (c0 j v hv)⟩

theorem pn_at {W : World} {a : Option Addr} {n cap : Nat} {ws : List Pn} (h : PnsAt W (.slice a n cap) ws) {k : Nat} {x : Pn} (hx : ws[k]? = some x) :
    ∃ g o, a = some ⟨g, o, none⟩ ∧ ∀ j v, (pnC x)[j]? = some v → W.cell? ⟨g, o + k * 3 + j, none⟩ = some v := by
  obtain ⟨a', cap', e, _, _, h4⟩ := h
  injection e with e1 e2 e3
  subst e1
  exact h4 k x hx

theorem trod_struct3P {P : Program} {H : Type} {enc : TypeId × Value → H} {w : World} {base : Nat} {spare : Nat → Bool} {held : Bool} {t : TypeId} {f0 f1 f2 : Field} {fuel : Nat} {cs : List Value} {x : DataW H × List MemPlace} (ht : P.underlying t = some (.struct #[f0, f1, f2])) (h : DataW.trod enc P w base spare held fuel t cs = some x) :
    ∃ y0 y1 y2 n, DataW.trod enc P w base spare held n f0.type ((cs.drop f0.offset).take (P.cellsOf f0.type)) = some y0 ∧
      DataW.trod enc P w base spare held n f1.type ((cs.drop f1.offset).take (P.cellsOf f1.type)) = some y1 ∧ DataW.trod enc P w base spare held n f2.type ((cs.drop f2.offset).take (P.cellsOf f2.type)) = some y2 := by
  obtain ⟨xs, n, _, rfl, hl, hlen, hf⟩ := DataW.trod_struct ht h
  match xs, hlen with
  | [y0, y1, y2], _ => exact ⟨y0, y1, y2, n, by simpa using hf 0 f0 rfl, by simpa using hf 1 f1 rfl, by simpa using hf 2 f2 rfl⟩

theorem cells_pnL : Tryz.prog.cellsOf 74 = 3 := by kernel_rfl

set_option maxRecDepth 100000 in
theorem open_persons {H : Type} {enc : TypeId × Value → H} {W : World} {b0 base : Nat} {spare : Nat → Bool} {held : Bool} {r : Reach} {v : Value} {d : DataW H} {p : List MemPlace}
    (hv : Value.okWide Tryz.prog W r b0 27 v) (h : DataW.Trod enc Tryz.prog W base spare held 27 v d p) : ∃ ws, PnsAt W v ws ∧ ∀ x ∈ ws, PnWf x := by
  obtain ⟨a0, len0, cap0, rfl⟩ := okWide_slice Tryz.underlying27 hv
  obtain ⟨fuel, hfu⟩ := h
  obtain ⟨f0, f1, f2, hu, e0, e1, e2, hone⟩ := under_persL
  rcases open_slice Tryz.underlying27 hfu with ⟨hcs, _⟩ | ⟨a, len, cap, m, n, D, Pl, hcs, _, hl, hm, hmm, _, hi⟩
  · simp [Value.cells] at hcs
    obtain ⟨rfl, rfl, rfl⟩ := hcs
    exact ⟨[], ⟨none, 0, rfl, Nat.le_refl _, by unfold maxLen; omega, fun i x hx => by simp at hx⟩, fun x hx => by cases hx⟩
  · simp [Value.cells] at hcs
    obtain ⟨rfl, rfl, rfl⟩ := hcs
    have hspot : 0 < len0 → a.spot = none := by
      intro h0
      obtain ⟨cs', hcs, _⟩ := hi 0 (by rw [hmm]; split <;> omega)
      rw [cells_pnL] at hcs
      obtain ⟨_, hcl, hat⟩ := World.cells?_some hcs
      have g0 := hat 0 (by omega)
      rw [List.getElem?_eq_getElem (by omega)] at g0
      have := World.cell?_spot g0
      simpa [Addr.add] using this
    have key : ∀ i, i < len0 → ∃ x : Pn, PnWf x ∧ ∃ g o, some a = some ⟨g, o, none⟩ ∧ ∀ j v, (pnC x)[j]? = some v → W.cell? ⟨g, o + i * 3 + j, none⟩ = some v := by
      intro i hlt
      obtain ⟨cs', hcs, ht⟩ := hi i (by rw [hmm]; split <;> omega)
      rw [cells_pnL] at hcs
      obtain ⟨_, hcl, hat⟩ := World.cells?_some hcs
      obtain ⟨y0, y1, y2, n', h0, h1, h2⟩ := trod_struct3P hu ht
      obtain ⟨o0, k0⟩ := hone_of hone 0 f0 rfl
      obtain ⟨o1, k1⟩ := hone_of hone 1 f1 rfl
      obtain ⟨o2, k2⟩ := hone_of hone 2 f2 rfl
      match cs', hcl with
      | [c0, c1, c2], _ =>
        rw [o0, k0, e0] at h0
        rw [o1, k1, e1] at h1
        rw [o2, k2, e2] at h2
        obtain ⟨z0, q0, w0⟩ := trod_f Tryz.underlying70 h0
        obtain ⟨z1, q1, w1⟩ := trod_f Tryz.underlying70 h1
        obtain ⟨z2, q2, w2⟩ := trod_f Tryz.underlying70 h2
        simp at q0 q1 q2
        subst q0 q1 q2
        have hsp := hspot (by omega)
        obtain ⟨g, o, spot⟩ := a
        obtain rfl : spot = none := hsp
        refine ⟨(z0, z1, z2), ⟨w0, w1, w2⟩, g, o, rfl, fun j v hv => ?_⟩
        have hj : j < 3 := (Array.getElem?_eq_some_iff.1 hv).1
        have hg := hat j hj
        simp only [addr_add] at hg
        rw [hg]
        match j, hj, hv with
        | 0, _, hv => simpa [pnC, persC] using hv
        | 1, _, hv => simpa [pnC, persC] using hv
        | 2, _, hv => simpa [pnC, persC] using hv
    obtain ⟨ws, hlen, hall⟩ := list_of len0 key
    subst hlen
    refine ⟨ws, ⟨some a, cap0, rfl, hl, hm, fun i x hx => (hall i x hx).2⟩, fun x hx => ?_⟩
    obtain ⟨i, hi⟩ := List.mem_iff_getElem?.1 hx
    exact (hall i x hi).1

theorem pn_fits (x : Pn) : 0 + 3 ≤ (pnC x).size := Nat.le_refl _

theorem pn_all (x : Pn) : (pnC x).extract 0 (0 + 3) = pnC x := rfl

theorem pn_one (x : Pn) : ∀ v ∈ pnC x, v.oneCell' = true := by
  intro v hv
  simp only [pnC, persC, List.mem_toArray, List.mem_cons, List.not_mem_nil, or_false] at hv
  rcases hv with rfl | rfl | rfl <;> rfl

theorem info_pnz : (Tryz.prog.info? 72).map (fun i => (i.zero, i.size, i.bytes)) = some (some (.agg #[.float .f32 0, .float .f32 0, .float .f32 0]), 3, 12) := by kernel_rfl

theorem make_pns (n : Nat) (hn : n ≤ 1048576) (w : World) : (Instr.makeSlice 40 (.int .i64 (n : Int)) (.int .i64 (n : Int))).run Tryz.prog w = .ok (.slice (some ⟨w.heap.size, 0, none⟩) n n) (w.alloc (.cells (madeCells #[.float .f32 0, .float .f32 0, .float .f32 0] (n * 3)) 72)) := by
  obtain ⟨i0, hi, hz0, hz1, hz2⟩ := info_parts info_pnz
  have h := run_make (P := Tryz.prog) w 40 72 i0 _ Tryz.underlying40 hi hz0 .i64 .i64 (n : Int) (n : Int) (by omega) (Int.le_refl _) (by rw [hz2]; omega) (by omega)
  rw [hz1] at h
  simpa [Value.cells] using h

theorem row_pn {W : World} {g : Nat} {cur : Array Value} {T : TypeId} {k : Nat} {x : Pn} (hg : W.heap[g]? = some (.cells cur T (0, 0))) (he : cur.extract (k * 3) (k * 3 + 3) = pnC x) : ∀ j v, (pnC x)[j]? = some v → W.cell? ⟨g, 0 + k * 3 + j, none⟩ = some v := by
  intro j v hv
  rw [Nat.zero_add, cell_of_row W _ _ _ _ _ hg]
  rw [← he, Array.getElem?_extract] at hv
  split at hv
  · exact hv
  · cases hv

/-- Persons in a block of the call's own. -/
def OwnPn (w : World) (b : Nat) (v : Value) (ws : List Pn) : Prop :=
  ∃ g cur, v = .slice (some ⟨g, 0, none⟩) ws.length ws.length ∧ b ≤ g ∧ w.heap[g]? = some (.cells cur 72 (0, 0)) ∧ cur.size = ws.length * 3 ∧ ws.length ≤ 1048576 ∧ ∀ k x, ws[k]? = some x → cur.extract (k * 3) (k * 3 + 3) = pnC x

theorem ownPn_at {w : World} {b : Nat} {v : Value} {ws : List Pn} (h : OwnPn w b v ws) : PnsAt w v ws := by
  obtain ⟨g, cur, rfl, h2, h3, h4, h5, h6⟩ := h
  exact ⟨_, _, rfl, Nat.le_refl _, by unfold maxLen; omega, fun k x hx => ⟨g, 0, rfl, row_pn h3 (h6 k x hx)⟩⟩

theorem ownPn_below {w w' : World} {b B : Nat} {v : Value} {ws : List Pn} (h : OwnPn w b v ws) (hb : Below w.heap.size w w') (hB : B ≤ b) : OwnPn w' B v ws := by
  obtain ⟨g, cur, h1, h2, h3, h4, h5, h6⟩ := h
  exact ⟨g, cur, h1, by omega, below_row hb h3, h4, h5, h6⟩

set_option maxRecDepth 100000 in
set_option maxHeartbeats 1000000 in
theorem toPersonS_any (sv : Value) (ws : List Pn) (hlen : ws.length ≤ 1048576) (w : World) (hws : PnsAt w sv ws) :
    Calls Tryz.prog 10 #[sv] w fun e w' => (∃ v, e = .returned v ∧ OwnPn w' w.heap.size v ws) ∧ Below w.heap.size w w' := by
  have HW := Lib.hid hws
  obtain ⟨a, cap, rfl, hl1, hl2, _⟩ := hws
  unfold maxLen at hl2
  generalize hn : ws.length = n at *
  have HN := Lib.hid hn
  have hmk := fun w => make_pns n hlen w
  clear hn
  go_enter Tryz.func10, Tryz.ntmps10
  go_wp2
  go_loopw [4] (fun i wr => ∃ k : Nat, k ≤ n ∧ i = .int .i64 k ∧ Below w.heap.size w wr ∧ ∃ cur, wr.heap[w.heap.size]? = some (.cells cur 72 (0, 0)) ∧ cur.size = n * 3 ∧ ∀ j x, j < k → ws[j]? = some x → cur.extract (j * 3) (j * 3 + 3) = pnC x) (fun i _ => n - (intOf i).toNat)
  case atStart => exact ⟨0, Nat.zero_le _, rfl, (Below.refl _ _).alloc (Nat.le_refl _) _, _, heap_alloc_new _ _, size_madeCells _ _, fun j x hj => by omega⟩
  case round =>
    clear hmk
    obtain ⟨k, hk, rfl, hb, cur, hg, hs, hp⟩ := hrel
    have HP := Lib.hid hp
    have HG := Lib.hid hg
    have hgl := row_lt hg
    clear hp hg
    by_cases hlt : k < n
    · have hx : ws[k]? = some (ws[k]'(by rw [HN.out]; exact hlt)) := List.getElem?_eq_getElem _
      obtain ⟨g, o, rfl, hc⟩ := pn_at (pns_below HW.out hb) hx
      have HC := Lib.hid hc
      generalize (ws[k]'(by rw [HN.out]; exact hlt)) = x at *
      have HX := Lib.hid hx
      have hks : k * 3 + 3 ≤ cur.size := by omega
      have z1 : (k : Int) < (n : Int) := by omega
      have z2 : (0 : Int) ≤ (k : Int) := by omega
      clear hc hx
      go_wp2_with (first | (refine wpList_load_cells rfl 74 _ rfl g (o + k * 3) 3 rfl _ Tryz.underlying74 rfl info_persL (pnC x) rfl HC.out ?_) | (go_at_call 26; refine (toPerson_any x.1 x.2.1 x.2.2 _).mono ?_; rintro e W1 ⟨rfl, hb1⟩) | (refine wpList_store_part rfl 72 _ _ rfl w.heap.size (k * 3) (pnC x) rfl rfl 72 cur (below_row hb1 HG.out) (by kernel_rfl) hks (pn_one _) ?_))
      go_roundw
      case rel =>
        refine ⟨k + 1, by omega, by go_num, below_setRow (hb.trans (hb1.mono hb.size)) (Nat.le_refl _) _, _, setRow_heap _ _ _ _ _ _ (below_row hb1 HG.out), by rw [laid_size _ _ _ hks]; exact hs, fun j y hj hy => ?_⟩
        by_cases e : j = k
        · subst e
          rw [HX.out] at hy
          obtain rfl := Option.some.inj hy
          exact laid_here cur (pnC x) (j * 3) hks
        · rw [laid_there cur (pnC x) (k * 3) (j * 3) 3 hks (by omega)]
          exact HP.out j y (by omega) hy
      case measure => simp [intOf]; omega
    · obtain rfl : k = n := by omega
      have HR : Hid (OwnPn wr w.heap.size (.slice (some ⟨w.heap.size, 0, none⟩) k k) ws) := by
        refine ⟨_, cur, by rw [HN.out], Nat.le_refl _, HG.out, by rw [HN.out]; exact hs, by rw [HN.out]; exact hlen, fun j x hx => ?_⟩
        have := (List.getElem?_eq_some_iff.1 hx).1
        exact HP.out j x (by have := HN.out; omega) hx
      go_wp2
      go_ret
      exact ⟨⟨_, rfl, HR.out⟩, hb⟩

set_option maxRecDepth 100000 in
set_option maxHeartbeats 1000000 in
theorem szPersonS_any (a : Option Addr) (n cap : Nat) (left : Int) (hn : n ≤ 9223372036854775807) (h0 : 0 ≤ left) (h1 : left ≤ 1048576) (w : World) :
    Calls Tryz.prog 6 #[.slice a n cap, .int .i64 left] w fun e w' => e = .returned (.int .i64 (leftI n left)) ∧ w = w' := by
  unfold leftI
  by_cases h : left - (n : Int) < 0
  · rw [if_pos h]
    go_enter Tryz.func6, Tryz.ntmps6
    go_wp2
    go_ret
    exact ⟨rfl, rfl⟩
  · rw [if_neg h]
    go_enter Tryz.func6, Tryz.ntmps6
    go_wp2
    go_ret
    exact ⟨rfl, rfl⟩


set_option maxRecDepth 100000 in
set_option maxHeartbeats 4000000 in
theorem eqPe_nan (l m g : Nat) (w : World) : Calls Tryz.prog 33 #[.agg (persC l m g), .agg (persC l m g)] w fun e w' => e = .returned (.bool true) ∧ Below w.heap.size w w' := by
  have HA := Lib.hid (box2 w (.cells (persC l m g) 72) (.cells (persC l m g) 72))
  cases h0 : fin32 l with
  | true =>
    cases h1 : fin32 m with
    | true =>
      cases h2 : fin32 g with
      | true =>
        have hw0 := run_wide _ h0
        have Hv0 := Lib.hid h0
        clear h0
        have hw1 := run_wide _ h1
        have Hv1 := Lib.hid h1
        clear h1
        have hw2 := run_wide _ h2
        have Hv2 := Lib.hid h2
        clear h2
        go_enter Tryz.func33, Tryz.ntmps33
        go_upto_region 1 with (fail)
        refine abs_world (fun W => W.heap[w.heap.size]? = some (.cells (persC l m g) 72 (0, 0)) ∧ W.heap[w.heap.size + 1]? = some (.cells (persC l m g) 72 (0, 0)) ∧ Below w.heap.size w W) HA.out ?_
        clear HA
        rintro W ⟨q0, q1, hb⟩
        obtain ⟨k0, k1, k2⟩ := pers_cells q0
        obtain ⟨p0, p1, p2⟩ := pers_cells q1
        clear q0 q1
        generalize w.heap.size + 1 = b1 at *
        go_wp2_with (first | (go_at_call 53; with_reducible refine (same_wide _ Hv0.out _).mono ?_; rintro e w1 ⟨rfl, rfl⟩) | (go_at_call 53; with_reducible refine (same_wide _ Hv1.out _).mono ?_; rintro e w1 ⟨rfl, rfl⟩) | (go_at_call 53; with_reducible refine (same_wide _ Hv2.out _).mono ?_; rintro e w1 ⟨rfl, rfl⟩))
        go_ret
        exact ⟨rfl, by (repeat' first | exact Below.refl _ _ | assumption | refine Below.alloc ?_ (by first | omega | (simp; done) | (simp; omega)) _ | refine Below.setCell ?_ (by first | omega | (simp; done) | (simp; omega)) _ | refine Below.drew ?_)⟩
      | false =>
        have hw0 := run_wide _ h0
        have Hv0 := Lib.hid h0
        clear h0
        have hw1 := run_wide _ h1
        have Hv1 := Lib.hid h1
        clear h1
        have hw2 := run_wide_nan _ h2
        clear h2
        go_enter Tryz.func33, Tryz.ntmps33
        go_upto_region 1 with (fail)
        refine abs_world (fun W => W.heap[w.heap.size]? = some (.cells (persC l m g) 72 (0, 0)) ∧ W.heap[w.heap.size + 1]? = some (.cells (persC l m g) 72 (0, 0)) ∧ Below w.heap.size w W) HA.out ?_
        clear HA
        rintro W ⟨q0, q1, hb⟩
        obtain ⟨k0, k1, k2⟩ := pers_cells q0
        obtain ⟨p0, p1, p2⟩ := pers_cells q1
        clear q0 q1
        generalize w.heap.size + 1 = b1 at *
        go_wp2_with (first | (go_at_call 53; with_reducible refine (same_wide _ Hv0.out _).mono ?_; rintro e w1 ⟨rfl, rfl⟩) | (go_at_call 53; with_reducible refine (same_wide _ Hv1.out _).mono ?_; rintro e w1 ⟨rfl, rfl⟩) | (go_at_call 53; with_reducible refine (same_nan _ _ (nanW_nan _ _) (nanW_nan _ _) _).mono ?_; rintro e w1 ⟨rfl, rfl⟩))
        go_ret
        exact ⟨rfl, by (repeat' first | exact Below.refl _ _ | assumption | refine Below.alloc ?_ (by first | omega | (simp; done) | (simp; omega)) _ | refine Below.setCell ?_ (by first | omega | (simp; done) | (simp; omega)) _ | refine Below.drew ?_)⟩
    | false =>
      cases h2 : fin32 g with
      | true =>
        have hw0 := run_wide _ h0
        have Hv0 := Lib.hid h0
        clear h0
        have hw1 := run_wide_nan _ h1
        clear h1
        have hw2 := run_wide _ h2
        have Hv2 := Lib.hid h2
        clear h2
        go_enter Tryz.func33, Tryz.ntmps33
        go_upto_region 1 with (fail)
        refine abs_world (fun W => W.heap[w.heap.size]? = some (.cells (persC l m g) 72 (0, 0)) ∧ W.heap[w.heap.size + 1]? = some (.cells (persC l m g) 72 (0, 0)) ∧ Below w.heap.size w W) HA.out ?_
        clear HA
        rintro W ⟨q0, q1, hb⟩
        obtain ⟨k0, k1, k2⟩ := pers_cells q0
        obtain ⟨p0, p1, p2⟩ := pers_cells q1
        clear q0 q1
        generalize w.heap.size + 1 = b1 at *
        go_wp2_with (first | (go_at_call 53; with_reducible refine (same_wide _ Hv0.out _).mono ?_; rintro e w1 ⟨rfl, rfl⟩) | (go_at_call 53; with_reducible refine (same_wide _ Hv2.out _).mono ?_; rintro e w1 ⟨rfl, rfl⟩) | (go_at_call 53; with_reducible refine (same_nan _ _ (nanW_nan _ _) (nanW_nan _ _) _).mono ?_; rintro e w1 ⟨rfl, rfl⟩))
        go_ret
        exact ⟨rfl, by (repeat' first | exact Below.refl _ _ | assumption | refine Below.alloc ?_ (by first | omega | (simp; done) | (simp; omega)) _ | refine Below.setCell ?_ (by first | omega | (simp; done) | (simp; omega)) _ | refine Below.drew ?_)⟩
      | false =>
        have hw0 := run_wide _ h0
        have Hv0 := Lib.hid h0
        clear h0
        have hw1 := run_wide_nan _ h1
        clear h1
        have hw2 := run_wide_nan _ h2
        clear h2
        go_enter Tryz.func33, Tryz.ntmps33
        go_upto_region 1 with (fail)
        refine abs_world (fun W => W.heap[w.heap.size]? = some (.cells (persC l m g) 72 (0, 0)) ∧ W.heap[w.heap.size + 1]? = some (.cells (persC l m g) 72 (0, 0)) ∧ Below w.heap.size w W) HA.out ?_
        clear HA
        rintro W ⟨q0, q1, hb⟩
        obtain ⟨k0, k1, k2⟩ := pers_cells q0
        obtain ⟨p0, p1, p2⟩ := pers_cells q1
        clear q0 q1
        generalize w.heap.size + 1 = b1 at *
        go_wp2_with (first | (go_at_call 53; with_reducible refine (same_wide _ Hv0.out _).mono ?_; rintro e w1 ⟨rfl, rfl⟩) | (go_at_call 53; with_reducible refine (same_nan _ _ (nanW_nan _ _) (nanW_nan _ _) _).mono ?_; rintro e w1 ⟨rfl, rfl⟩))
        go_ret
        exact ⟨rfl, by (repeat' first | exact Below.refl _ _ | assumption | refine Below.alloc ?_ (by first | omega | (simp; done) | (simp; omega)) _ | refine Below.setCell ?_ (by first | omega | (simp; done) | (simp; omega)) _ | refine Below.drew ?_)⟩
  | false =>
    cases h1 : fin32 m with
    | true =>
      cases h2 : fin32 g with
      | true =>
        have hw0 := run_wide_nan _ h0
        clear h0
        have hw1 := run_wide _ h1
        have Hv1 := Lib.hid h1
        clear h1
        have hw2 := run_wide _ h2
        have Hv2 := Lib.hid h2
        clear h2
        go_enter Tryz.func33, Tryz.ntmps33
        go_upto_region 1 with (fail)
        refine abs_world (fun W => W.heap[w.heap.size]? = some (.cells (persC l m g) 72 (0, 0)) ∧ W.heap[w.heap.size + 1]? = some (.cells (persC l m g) 72 (0, 0)) ∧ Below w.heap.size w W) HA.out ?_
        clear HA
        rintro W ⟨q0, q1, hb⟩
        obtain ⟨k0, k1, k2⟩ := pers_cells q0
        obtain ⟨p0, p1, p2⟩ := pers_cells q1
        clear q0 q1
        generalize w.heap.size + 1 = b1 at *
        go_wp2_with (first | (go_at_call 53; with_reducible refine (same_wide _ Hv1.out _).mono ?_; rintro e w1 ⟨rfl, rfl⟩) | (go_at_call 53; with_reducible refine (same_wide _ Hv2.out _).mono ?_; rintro e w1 ⟨rfl, rfl⟩) | (go_at_call 53; with_reducible refine (same_nan _ _ (nanW_nan _ _) (nanW_nan _ _) _).mono ?_; rintro e w1 ⟨rfl, rfl⟩))
        go_ret
        exact ⟨rfl, by (repeat' first | exact Below.refl _ _ | assumption | refine Below.alloc ?_ (by first | omega | (simp; done) | (simp; omega)) _ | refine Below.setCell ?_ (by first | omega | (simp; done) | (simp; omega)) _ | refine Below.drew ?_)⟩
      | false =>
        have hw0 := run_wide_nan _ h0
        clear h0
        have hw1 := run_wide _ h1
        have Hv1 := Lib.hid h1
        clear h1
        have hw2 := run_wide_nan _ h2
        clear h2
        go_enter Tryz.func33, Tryz.ntmps33
        go_upto_region 1 with (fail)
        refine abs_world (fun W => W.heap[w.heap.size]? = some (.cells (persC l m g) 72 (0, 0)) ∧ W.heap[w.heap.size + 1]? = some (.cells (persC l m g) 72 (0, 0)) ∧ Below w.heap.size w W) HA.out ?_
        clear HA
        rintro W ⟨q0, q1, hb⟩
        obtain ⟨k0, k1, k2⟩ := pers_cells q0
        obtain ⟨p0, p1, p2⟩ := pers_cells q1
        clear q0 q1
        generalize w.heap.size + 1 = b1 at *
        go_wp2_with (first | (go_at_call 53; with_reducible refine (same_wide _ Hv1.out _).mono ?_; rintro e w1 ⟨rfl, rfl⟩) | (go_at_call 53; with_reducible refine (same_nan _ _ (nanW_nan _ _) (nanW_nan _ _) _).mono ?_; rintro e w1 ⟨rfl, rfl⟩))
        go_ret
        exact ⟨rfl, by (repeat' first | exact Below.refl _ _ | assumption | refine Below.alloc ?_ (by first | omega | (simp; done) | (simp; omega)) _ | refine Below.setCell ?_ (by first | omega | (simp; done) | (simp; omega)) _ | refine Below.drew ?_)⟩
    | false =>
      cases h2 : fin32 g with
      | true =>
        have hw0 := run_wide_nan _ h0
        clear h0
        have hw1 := run_wide_nan _ h1
        clear h1
        have hw2 := run_wide _ h2
        have Hv2 := Lib.hid h2
        clear h2
        go_enter Tryz.func33, Tryz.ntmps33
        go_upto_region 1 with (fail)
        refine abs_world (fun W => W.heap[w.heap.size]? = some (.cells (persC l m g) 72 (0, 0)) ∧ W.heap[w.heap.size + 1]? = some (.cells (persC l m g) 72 (0, 0)) ∧ Below w.heap.size w W) HA.out ?_
        clear HA
        rintro W ⟨q0, q1, hb⟩
        obtain ⟨k0, k1, k2⟩ := pers_cells q0
        obtain ⟨p0, p1, p2⟩ := pers_cells q1
        clear q0 q1
        generalize w.heap.size + 1 = b1 at *
        go_wp2_with (first | (go_at_call 53; with_reducible refine (same_wide _ Hv2.out _).mono ?_; rintro e w1 ⟨rfl, rfl⟩) | (go_at_call 53; with_reducible refine (same_nan _ _ (nanW_nan _ _) (nanW_nan _ _) _).mono ?_; rintro e w1 ⟨rfl, rfl⟩))
        go_ret
        exact ⟨rfl, by (repeat' first | exact Below.refl _ _ | assumption | refine Below.alloc ?_ (by first | omega | (simp; done) | (simp; omega)) _ | refine Below.setCell ?_ (by first | omega | (simp; done) | (simp; omega)) _ | refine Below.drew ?_)⟩
      | false =>
        have hw0 := run_wide_nan _ h0
        clear h0
        have hw1 := run_wide_nan _ h1
        clear h1
        have hw2 := run_wide_nan _ h2
        clear h2
        go_enter Tryz.func33, Tryz.ntmps33
        go_upto_region 1 with (fail)
        refine abs_world (fun W => W.heap[w.heap.size]? = some (.cells (persC l m g) 72 (0, 0)) ∧ W.heap[w.heap.size + 1]? = some (.cells (persC l m g) 72 (0, 0)) ∧ Below w.heap.size w W) HA.out ?_
        clear HA
        rintro W ⟨q0, q1, hb⟩
        obtain ⟨k0, k1, k2⟩ := pers_cells q0
        obtain ⟨p0, p1, p2⟩ := pers_cells q1
        clear q0 q1
        generalize w.heap.size + 1 = b1 at *
        go_wp2_with (go_at_call 53; with_reducible refine (same_nan _ _ (nanW_nan _ _) (nanW_nan _ _) _).mono ?_; rintro e w1 ⟨rfl, rfl⟩)
        go_ret
        exact ⟨rfl, by (repeat' first | exact Below.refl _ _ | assumption | refine Below.alloc ?_ (by first | omega | (simp; done) | (simp; omega)) _ | refine Below.setCell ?_ (by first | omega | (simp; done) | (simp; omega)) _ | refine Below.drew ?_)⟩

set_option maxRecDepth 100000 in
set_option maxHeartbeats 4000000 in
theorem eqPersonS_any (v1 v2 : Value) (ws : List Pn) (w : World) (hv1 : PnsAt w v1 ws) (hv2 : PnsAt w v2 ws) :
    Calls Tryz.prog 15 #[v1, v2] w fun e w' => e = .returned (.bool true) ∧ Below w.heap.size w w' := by
  have HW1 := Lib.hid hv1
  have HW2 := Lib.hid hv2
  obtain ⟨a1, c1, rfl, hl1, hm1, _⟩ := hv1
  obtain ⟨a2, c2, rfl, hl2, hm2, _⟩ := hv2
  unfold maxLen at hm1 hm2
  generalize hn : ws.length = n at *
  have HN := Lib.hid hn
  have zn : ((n : Int) != (n : Int)) = false := by simp
  clear hn
  go_enter Tryz.func15, Tryz.ntmps15
  go_wp2
  go_loopw [5] (fun i wr => ∃ k : Nat, k ≤ n ∧ i = .int .i64 k ∧ Below w.heap.size w wr) (fun i _ => n - (intOf i).toNat)
  case atStart => exact ⟨0, Nat.zero_le _, rfl, Below.refl _ _⟩
  case round =>
    obtain ⟨k, hk, rfl, hb⟩ := hrel
    by_cases hlt : k < n
    · have hx : ws[k]? = some (ws[k]'(by rw [HN.out]; exact hlt)) := List.getElem?_eq_getElem _
      obtain ⟨g1, o1, rfl, hc1⟩ := pn_at (pns_below HW1.out hb) hx
      obtain ⟨g2, o2, rfl, hc2⟩ := pn_at (pns_below HW2.out hb) hx
      have HC1 := Lib.hid hc1
      have HC2 := Lib.hid hc2
      generalize (ws[k]'(by rw [HN.out]; exact hlt)) = x at *
      have z1 : (k : Int) < (n : Int) := by omega
      have z2 : (0 : Int) ≤ (k : Int) := by omega
      have z3 : decide ((k : Int) < (n : Int)) = true := decide_eq_true z1
      clear hc1 hc2 hx
      go_wp2
      refine wp_region_held_drew (S := (fun W => (∀ j v, (pnC x)[j]? = some v → W.cell? ⟨g1, o1 + k * 3 + j, none⟩ = some v) ∧ (∀ j v, (pnC x)[j]? = some v → W.cell? ⟨g2, o2 + k * 3 + j, none⟩ = some v) ∧ Below w.heap.size w W)) (by kernel_rfl) ⟨HC1.out, HC2.out, hb.drew⟩ (fun hHeld => ?_)
      refine take_op (i := 0) (d := 17) (v := ?_) rfl rfl (by kernel_rfl) (by kernel_rfl) (by kernel_rfl) (fun _ _ _ h => h) (Or.inl ⟨by rfl, ?hy0u1⟩) hHeld ?rest0u1
      case hy0u1 =>
        intro w' hS'
        go_simp
        try with_reducible rfl
      simp only [List.setIfInBounds_toArray, List.set_cons_zero, List.set_cons_succ]
      refine take_op (i := 1) (d := 18) (v := ?_) rfl rfl (by kernel_rfl) (by kernel_rfl) (by kernel_rfl) (fun _ _ _ h => h) (Or.inl ⟨by rfl, ?hy1u2⟩) hHeld ?rest1u2
      case hy1u2 =>
        intro w' hS'
        go_simp
        try with_reducible rfl
      simp only [List.setIfInBounds_toArray, List.set_cons_zero, List.set_cons_succ]
      refine take_op (i := 2) (d := 19) (v := ?_) rfl rfl (by kernel_rfl) (by kernel_rfl) (by kernel_rfl) (fun _ _ _ h => h) (Or.inl ⟨by rfl, ?hy2u3⟩) hHeld ?rest2u3
      case hy2u3 =>
        intro w' hS'
        go_simp
        try with_reducible rfl
      simp only [List.setIfInBounds_toArray, List.set_cons_zero, List.set_cons_succ]
      refine take_op (i := 3) (d := 20) (v := .agg (pnC x)) rfl rfl (by kernel_rfl) (by kernel_rfl) (by kernel_rfl) (fun _ _ _ h => h) (yields_cells (by rfl) 72 (.tmp 19) (by rfl) g1 (o1 + k * 3) 3 (by rfl) _ Tryz.underlying72 rfl info_pers (pnC x) rfl (fun W h => h.1)) hHeld ?_
      simp only [List.setIfInBounds_toArray, List.set_cons_zero, List.set_cons_succ]
      refine take_op (i := 4) (d := 21) (v := ?_) rfl rfl (by kernel_rfl) (by kernel_rfl) (by kernel_rfl) (fun _ _ _ h => h) (Or.inl ⟨by rfl, ?hy4u4⟩) hHeld ?rest4u4
      case hy4u4 =>
        intro w' hS'
        go_simp
        try with_reducible rfl
      simp only [List.setIfInBounds_toArray, List.set_cons_zero, List.set_cons_succ]
      refine take_op (i := 5) (d := 22) (v := ?_) rfl rfl (by kernel_rfl) (by kernel_rfl) (by kernel_rfl) (fun _ _ _ h => h) (Or.inl ⟨by rfl, ?hy5u5⟩) hHeld ?rest5u5
      case hy5u5 =>
        intro w' hS'
        go_simp
        try with_reducible rfl
      simp only [List.setIfInBounds_toArray, List.set_cons_zero, List.set_cons_succ]
      refine take_op (i := 6) (d := 23) (v := ?_) rfl rfl (by kernel_rfl) (by kernel_rfl) (by kernel_rfl) (fun _ _ _ h => h) (Or.inl ⟨by rfl, ?hy6u6⟩) hHeld ?rest6u6
      case hy6u6 =>
        intro w' hS'
        go_simp
        try with_reducible rfl
      simp only [List.setIfInBounds_toArray, List.set_cons_zero, List.set_cons_succ]
      refine take_op (i := 7) (d := 24) (v := .agg (pnC x)) rfl rfl (by kernel_rfl) (by kernel_rfl) (by kernel_rfl) (fun _ _ _ h => h) (yields_cells (by rfl) 72 (.tmp 23) (by rfl) g2 (o2 + k * 3) 3 (by rfl) _ Tryz.underlying72 rfl info_pers (pnC x) rfl (fun W h => h.2.1)) hHeld ?_
      simp only [List.setIfInBounds_toArray, List.set_cons_zero, List.set_cons_succ]
      refine wpAnyH_ready (rs := [8]) (by kernel_rfl) (by simp) ?_
      refine AllReadyH.cons rfl (fun K hK => ?_) AllReadyH.nil
      go_simp
      refine (eqPe_nan x.1 x.2.1 x.2.2 _).mono ?_
      rintro e W1 ⟨rfl, hb1⟩
      refine hK.out _ _ (⟨fun j v hv => cell_below hb1 (hHeld.1 j v hv), fun j v hv => cell_below hb1 (hHeld.2.1 j v hv), hHeld.2.2.trans (hb1.mono hHeld.2.2.size)⟩) (fun hHeld2 => ?_)
      clear hK K
      replace hHeld := hHeld2
      clear hHeld2
      refine take_op (i := 9) (d := 26) (v := ?_) rfl rfl (by kernel_rfl) (by kernel_rfl) (by kernel_rfl) (fun _ _ _ h => h) (Or.inl ⟨by rfl, ?hy9u7⟩) hHeld ?rest9u7
      case hy9u7 =>
        intro w' hS'
        go_simp
        try with_reducible rfl
      simp only [List.setIfInBounds_toArray, List.set_cons_zero, List.set_cons_succ]
      refine wpAnyH_done (by kernel_rfl) ?_ _
      have hbx := hHeld.2.2
      clear hHeld hb HC1 HC2
      go_wp2
      go_roundw
      case rel => exact ⟨k + 1, by omega, by go_num, hbx⟩
      case measure => simp [intOf]; omega
    · obtain rfl : k = n := by omega
      go_wp2
      go_ret
      exact ⟨rfl, hb⟩

end Go.Proofs.YtckkemknajggpaaGreatDoor

namespace Go.Proofs.YtckkemknajggpaaGreatDoor
open Go.ChangeShapes Go.WideShapes Go.ChangeAt Go.RowKit Go.Deep Go.Joins

attribute [local go_sem] run_store_f

/-- A desk: where it stands, and the wall that it is faced to. -/
abbrev Dk := Int × Int × Int

def dkC (x : Dk) : Array Value := #[.int .i8 x.1, .int .i8 x.2.1, .int .i8 x.2.2]

def DkWf (x : Dk) : Prop := I8 x.1 ∧ I8 x.2.1 ∧ I8 x.2.2

def DksAt (W : World) (v : Value) (ws : List Dk) : Prop :=
  ∃ a cap, v = .slice a ws.length cap ∧ ws.length ≤ cap ∧ cap ≤ maxLen ∧ ∀ i x, ws[i]? = some x → ∃ g o, a = some ⟨g, o, none⟩ ∧
    W.cell? ⟨g, o + i * 3, none⟩ = some (.int .i8 x.1) ∧ W.cell? ⟨g, o + i * 3 + 1, none⟩ = some (.int .i8 x.2.1) ∧ W.cell? ⟨g, o + i * 3 + 2, none⟩ = some (.int .i8 x.2.2)

theorem dks_below {W W' : World} {v : Value} {ws : List Dk} (h : DksAt W v ws) (hb : Below W.heap.size W W') : DksAt W' v ws := by
  obtain ⟨a, cap, h1, h2, h3, h4⟩ := h
  refine ⟨a, cap, h1, h2, h3, fun i x hx => ?_⟩
  obtain ⟨g, o, e, c0, c1, c2⟩ := h4 i x hx
  exact ⟨g, o, e, cell_below hb c0, cell_below hb c1, cell_below hb c2⟩

set_option maxRecDepth 100000 in
theorem open_dks {H : Type} {enc : TypeId × Value → H} {W : World} {base : Nat} {spare : Nat → Bool} {held : Bool} {fuel : Nat} {v : Value} {x : DataW H × List MemPlace}
    (h : DataW.trod enc Tryz.prog W base spare held fuel 26 [v] = some x) : ∃ ws, DksAt W v ws ∧ ∀ x ∈ ws, DkWf x := by
  obtain ⟨f0, f1, s0, s1, hu, t0, t1, o0, o1, hu2, u0, u1, q0, q1⟩ := under_deskL
  obtain ⟨cd, ct, ci⟩ := cells_deskL
  rcases open_slice Tryz.underlying26 h with ⟨hc, _⟩ | ⟨a, len, cap, m, n, D, Pl, hc, _, hl, hm, hmm, _, hi⟩
  · obtain rfl : v = .slice none 0 0 := by simpa using hc
    exact ⟨[], ⟨none, 0, rfl, Nat.le_refl _, by unfold maxLen; omega, fun i x hx => by simp at hx⟩, fun x hx => by cases hx⟩
  · obtain rfl : v = .slice (some a) len cap := by simpa using hc
    have hspot : 0 < len → a.spot = none := by
      intro h0
      obtain ⟨cs', hcs, _⟩ := hi 0 (by rw [hmm]; split <;> omega)
      rw [cd] at hcs
      obtain ⟨_, hcl, hat⟩ := World.cells?_some hcs
      have g0 := hat 0 (by omega)
      rw [List.getElem?_eq_getElem (by omega)] at g0
      have := World.cell?_spot g0
      simpa [Addr.add] using this
    have key : ∀ i, i < len → ∃ x : Dk, DkWf x ∧ ∃ g o, some a = some ⟨g, o, none⟩ ∧
        W.cell? ⟨g, o + i * 3, none⟩ = some (.int .i8 x.1) ∧ W.cell? ⟨g, o + i * 3 + 1, none⟩ = some (.int .i8 x.2.1) ∧ W.cell? ⟨g, o + i * 3 + 2, none⟩ = some (.int .i8 x.2.2) := by
      intro i hlt
      have him : i < m := by rw [hmm]; split <;> omega
      obtain ⟨cs', hcs, ht⟩ := hi i him
      rw [cd] at hcs
      obtain ⟨_, hcl, hat⟩ := World.cells?_some hcs
      obtain ⟨y0, y1, n', _, _, h0, h1⟩ := trod_struct2 hu ht
      rw [t0, o0, ct] at h0
      rw [t1, o1, ci] at h1
      match cs', hcl with
      | [c0, c1, c2], _ =>
        obtain ⟨z0, z1, m', _, _, k0, k1⟩ := trod_struct2 hu2 h0
        rw [u0, q0, ci] at k0
        rw [u1, q1, ci] at k1
        obtain ⟨n0, e0, _, w0⟩ := DataW.trod_int Tryz.underlying22 k0
        obtain ⟨n1, e1, _, w1⟩ := DataW.trod_int Tryz.underlying22 k1
        obtain ⟨n2, e2, _, w2⟩ := DataW.trod_int Tryz.underlying22 h1
        simp only [List.drop_zero, List.drop_succ_cons, List.take_succ_cons, List.take_zero, List.cons.injEq, and_true] at e0 e1 e2
        subst e0 e1 e2
        have g0 := hat 0 (by omega)
        have g1 := hat 1 (by omega)
        have g2 := hat 2 (by omega)
        have hsp := hspot (by omega)
        obtain ⟨g, o, spot⟩ := a
        obtain rfl : spot = none := hsp
        simp only [addr_add, Nat.add_zero] at g0 g1 g2
        exact ⟨(n0, n1, n2), ⟨wf_i8 w0, wf_i8 w1, wf_i8 w2⟩, g, o, rfl, g0, g1, g2⟩
    obtain ⟨ws, hlen, hall⟩ := list_of len key
    subst hlen
    refine ⟨ws, ⟨some a, cap, rfl, hl, hm, fun i x hx => (hall i x hx).2⟩, fun x hx => ?_⟩
    obtain ⟨i, hi⟩ := List.mem_iff_getElem?.1 hx
    exact (hall i x hi).1

theorem toDk_any (x : Dk) (w : World) : Calls Tryz.prog 25 #[.agg (dkC x)] w fun e w' => e = .returned (.agg (dkC x)) ∧ Below w.heap.size w w' := toDesk_any x.1 x.2.1 x.2.2 w

theorem dk_fits (x : Dk) : 0 + 3 ≤ (dkC x).size := Nat.le_refl _

theorem dk_all (x : Dk) : (dkC x).extract 0 (0 + 3) = dkC x := rfl

theorem dk_one (x : Dk) : ∀ v ∈ dkC x, v.oneCell' = true := by
  intro v hv
  simp only [dkC, List.mem_toArray, List.mem_cons, List.not_mem_nil, or_false] at hv
  rcases hv with rfl | rfl | rfl <;> rfl

theorem dk_cells {x : Dk} {W : World} {g : Nat} {T : TypeId} {fr : Nat × Nat} (h : W.heap[g]? = some (.cells (dkC x) T fr)) :
    W.cell? ⟨g, 0, none⟩ = some (.int .i8 x.1) ∧ W.cell? ⟨g, 1, none⟩ = some (.int .i8 x.2.1) ∧ W.cell? ⟨g, 2, none⟩ = some (.int .i8 x.2.2) :=
  ⟨by rw [cell_of_row W _ _ _ _ _ h]; rfl, by rw [cell_of_row W _ _ _ _ _ h]; rfl, by rw [cell_of_row W _ _ _ _ _ h]; rfl⟩

theorem dk_at {W : World} {a : Option Addr} {n cap : Nat} {ws : List Dk} (h : DksAt W (.slice a n cap) ws) {k : Nat} {x : Dk} (hx : ws[k]? = some x) :
    ∃ g o, a = some ⟨g, o, none⟩ ∧ ∀ j v, (dkC x)[j]? = some v → W.cell? ⟨g, o + k * 3 + j, none⟩ = some v := by
  obtain ⟨a', cap', e, _, _, h4⟩ := h
  injection e with e1 e2 e3
  subst e1
  obtain ⟨g, o, rfl, c0, c1, c2⟩ := h4 k x hx
  refine ⟨g, o, rfl, fun j v hv => ?_⟩
  match j, hv with
  | 0, hv => simp [dkC] at hv; subst hv; exact c0
  | 1, hv => simp [dkC] at hv; subst hv; exact c1
  | 2, hv => simp [dkC] at hv; subst hv; exact c2
  | j + 3, hv => simp [dkC] at hv

theorem dks_len {W : World} {a : Option Addr} {n cap : Nat} {ws : List Dk} (h : DksAt W (.slice a n cap) ws) : n = ws.length ∧ n ≤ cap ∧ cap ≤ maxLen := by
  obtain ⟨a', cap', e, h2, h3, _⟩ := h
  injection e with e1 e2 e3
  subst e2; subst e3
  exact ⟨rfl, h2, h3⟩

def OwnDk (w : World) (b : Nat) (v : Value) (ws : List Dk) : Prop :=
  ∃ g cur, v = .slice (some ⟨g, 0, none⟩) ws.length ws.length ∧ b ≤ g ∧ w.heap[g]? = some (.cells cur 65 (0, 0)) ∧ cur.size = ws.length * 3 ∧ ws.length ≤ 1048576 ∧ ∀ k x, ws[k]? = some x → cur.extract (k * 3) (k * 3 + 3) = dkC x

theorem ownDk_below {w w' : World} {b B : Nat} {v : Value} {ws : List Dk} (h : OwnDk w b v ws) (hb : Below w.heap.size w w') (hB : B ≤ b) : OwnDk w' B v ws := by
  obtain ⟨g, cur, h1, h2, h3, h4, h5, h6⟩ := h
  exact ⟨g, cur, h1, by omega, below_row hb h3, h4, h5, h6⟩

theorem ownDk_at {w : World} {b : Nat} {v : Value} {ws : List Dk} (h : OwnDk w b v ws) : DksAt w v ws := by
  obtain ⟨g, cur, rfl, h2, h3, h4, h5, h6⟩ := h
  refine ⟨_, _, rfl, Nat.le_refl _, by unfold maxLen; omega, fun k x hx => ⟨g, 0, rfl, ?_, ?_, ?_⟩⟩
  all_goals
    have hk : k < ws.length := (List.getElem?_eq_some_iff.1 hx).1
    have he := h6 k x hx
    rw [cell_of_row w _ _ _ _ _ h3]
  · have : (cur.extract (k * 3) (k * 3 + 3))[0]? = some (.int .i8 x.1) := by rw [he]; rfl
    rw [Array.getElem?_extract] at this
    split at this
    · simpa using this
    · cases this
  · have : (cur.extract (k * 3) (k * 3 + 3))[1]? = some (.int .i8 x.2.1) := by rw [he]; rfl
    rw [Array.getElem?_extract] at this
    split at this
    · simpa using this
    · cases this
  · have : (cur.extract (k * 3) (k * 3 + 3))[2]? = some (.int .i8 x.2.2) := by rw [he]; rfl
    rw [Array.getElem?_extract] at this
    split at this
    · simpa using this
    · cases this

set_option maxRecDepth 100000 in
set_option maxHeartbeats 1000000 in
theorem szDeskS_any (a : Option Addr) (n cap : Nat) (left : Int) (hn : n ≤ 9223372036854775807) (h0 : 0 ≤ left) (h1 : left ≤ 1048576) (w : World) :
    Calls Tryz.prog 5 #[.slice a n cap, .int .i64 left] w fun e w' => e = .returned (.int .i64 (leftI n left)) ∧ w = w' := by
  unfold leftI
  by_cases h : left - (n : Int) < 0
  · rw [if_pos h]
    go_enter Tryz.func5, Tryz.ntmps5
    go_wp2
    go_ret
    exact ⟨rfl, rfl⟩
  · rw [if_neg h]
    go_enter Tryz.func5, Tryz.ntmps5
    go_wp2
    go_ret
    exact ⟨rfl, rfl⟩

theorem infoDkI : (Tryz.prog.info? 65).map (fun i => (i.zero, i.size, i.bytes)) = some (some (.agg #[.int .i8 0, .int .i8 0, .int .i8 0]), 3, 3) := by kernel_rfl

theorem make_dks (n : Nat) (hn : n ≤ 1048576) (w : World) : (Instr.makeSlice 38 (.int .i64 (n : Int)) (.int .i64 (n : Int))).run Tryz.prog w = .ok (.slice (some ⟨w.heap.size, 0, none⟩) n n) (w.alloc (.cells (madeCells #[.int .i8 0, .int .i8 0, .int .i8 0] (n * 3)) 65)) := by
  obtain ⟨i0, hi, hz0, hz1, hz2⟩ := info_parts infoDkI
  have h := run_make (P := Tryz.prog) w 38 65 i0 _ Tryz.underlying38 hi hz0 .i64 .i64 (n : Int) (n : Int) (by omega) (Int.le_refl _) (by rw [hz2]; omega) (by omega)
  rw [hz1] at h
  simpa [Value.cells] using h

def RetDk (w : World) (ws : List Dk) (e : Ending) (w' : World) : Prop := (∃ v, e = .returned v ∧ OwnDk w' w.heap.size v ws) ∧ Below w.heap.size w w'

set_option maxRecDepth 100000 in
set_option maxHeartbeats 1000000 in
theorem toDeskS_any (sv : Value) (ws : List Dk) (hlen : ws.length ≤ 1048576) (w : World) (hws : DksAt w sv ws) :
    Calls Tryz.prog 9 #[sv] w fun e w' => RetDk w ws e w' := by
  have HW := Lib.hid hws
  obtain ⟨a, cap, rfl, hl1, hl2, _⟩ := hws
  unfold maxLen at hl2
  generalize hn : ws.length = n at *
  have HN := Lib.hid hn
  have hmk := fun w => make_dks n hlen w
  clear hn
  go_enter Tryz.func9, Tryz.ntmps9
  go_wp2
  go_loopw [4] (fun i wr => ∃ k : Nat, k ≤ n ∧ i = .int .i64 k ∧ Below w.heap.size w wr ∧ ∃ cur, wr.heap[w.heap.size]? = some (.cells cur 65 (0, 0)) ∧ cur.size = n * 3 ∧ ∀ j x, j < k → ws[j]? = some x → cur.extract (j * 3) (j * 3 + 3) = dkC x) (fun i _ => n - (intOf i).toNat)
  case atStart => exact ⟨0, Nat.zero_le _, rfl, (Below.refl _ _).alloc (Nat.le_refl _) _, _, heap_alloc_new _ _, size_madeCells _ _, fun j x hj => by omega⟩
  case round =>
    clear hmk
    obtain ⟨k, hk, rfl, hb, cur, hg, hs, hp⟩ := hrel
    have HP := Lib.hid hp
    have HG := Lib.hid hg
    have hgl := row_lt hg
    clear hp hg
    by_cases hlt : k < n
    · have hx : ws[k]? = some (ws[k]'(by rw [HN.out]; exact hlt)) := List.getElem?_eq_getElem _
      obtain ⟨g, o, rfl, hc⟩ := dk_at (dks_below HW.out hb) hx
      have HC := Lib.hid hc
      generalize (ws[k]'(by rw [HN.out]; exact hlt)) = x at *
      have HX := Lib.hid hx
      have hks : k * 3 + 3 ≤ cur.size := by omega
      have z1 : (k : Int) < (n : Int) := by omega
      have z2 : (0 : Int) ≤ (k : Int) := by omega
      clear hc hx
      go_wp2_with (first | (refine wpList_load_cells rfl 69 _ rfl g (o + k * 3) 3 rfl _ Tryz.underlying69 rfl info_deskL (dkC x) rfl HC.out ?_) | (go_at_call 25; refine (toDk_any _ _).mono ?_; rintro e W1 ⟨rfl, hb1⟩) | (refine wpList_store_part rfl 65 _ _ rfl w.heap.size (k * 3) (dkC x) rfl rfl 65 cur (below_row hb1 HG.out) (by kernel_rfl) hks (dk_one _) ?_))
      go_roundw
      case rel =>
        refine ⟨k + 1, by omega, by go_num, below_setRow (hb.trans (hb1.mono hb.size)) (Nat.le_refl _) _, _, setRow_heap _ _ _ _ _ _ (below_row hb1 HG.out), by rw [laid_size _ _ _ hks]; exact hs, fun j y hj hy => ?_⟩
        by_cases e : j = k
        · subst e
          rw [HX.out] at hy
          obtain rfl := Option.some.inj hy
          exact laid_here cur (dkC x) (j * 3) hks
        · rw [laid_there cur (dkC x) (k * 3) (j * 3) 3 hks (by omega)]
          exact HP.out j y (by omega) hy
      case measure => simp [intOf]; omega
    · obtain rfl : k = n := by omega
      have HR : Hid (OwnDk wr w.heap.size (.slice (some ⟨w.heap.size, 0, none⟩) k k) ws) := by
        refine ⟨_, cur, by rw [HN.out], Nat.le_refl _, HG.out, by rw [HN.out]; exact hs, by rw [HN.out]; exact hlen, fun j x hx => ?_⟩
        have := (List.getElem?_eq_some_iff.1 hx).1
        exact HP.out j x (by have := HN.out; omega) hx
      go_wp2
      go_ret
      exact ⟨⟨_, rfl, HR.out⟩, hb⟩

set_option maxRecDepth 100000 in
set_option maxHeartbeats 4000000 in
theorem eqTile_anyD (p q : Int) (w : World) : Calls Tryz.prog 52 #[.agg (tileC p q), .agg (tileC p q)] w fun e w' => e = .returned (.bool true) ∧ Below w.heap.size w w' := by
  have z1 : (p != p) = false := by simp
  have z2 : (q != q) = false := by simp
  have HA := Lib.hid (two_at w (.cells (tileC p q) 63) (.cells (tileC p q) 63))
  go_enter Tryz.func52, Tryz.ntmps52
  go_upto_region 1 with (fail)
  refine abs_world (fun W => W.heap[w.heap.size]? = some (.cells (tileC p q) 63 (0, 0)) ∧ W.heap[w.heap.size + 1]? = some (.cells (tileC p q) 63 (0, 0)) ∧ Below w.heap.size w W) HA.out ?_
  clear HA
  rintro W ⟨h0, h1, hb⟩
  obtain ⟨k0, k1⟩ := tile_cells h0
  obtain ⟨p0, p1⟩ := tile_cells h1
  clear h0 h1
  go_wp2
  go_ret
  exact ⟨rfl, hb⟩

set_option maxRecDepth 100000 in
set_option maxHeartbeats 4000000 in
theorem eqDk_any (x : Dk) (w : World) : Calls Tryz.prog 32 #[.agg (dkC x), .agg (dkC x)] w fun e w' => e = .returned (.bool true) ∧ Below w.heap.size w w' := by
  show Calls Tryz.prog 32 #[.agg (deskC x.1 x.2.1 x.2.2), .agg (deskC x.1 x.2.1 x.2.2)] w fun e w' => e = .returned (.bool true) ∧ Below w.heap.size w w'
  have HA := Lib.hid (two_at w (.cells (deskC x.1 x.2.1 x.2.2) 65) (.cells (deskC x.1 x.2.1 x.2.2) 65))
  go_enter Tryz.func32, Tryz.ntmps32
  go_upto_region 1 with (fail)
  refine abs_world (fun W => W.heap[w.heap.size]? = some (.cells (deskC x.1 x.2.1 x.2.2) 65 (0, 0)) ∧ W.heap[w.heap.size + 1]? = some (.cells (deskC x.1 x.2.1 x.2.2) 65 (0, 0)) ∧ Below w.heap.size w W) HA.out ?_
  clear HA
  rintro W ⟨h0, h1, hb⟩
  have n01 : w.heap.size < w.heap.size + 1 := by omega
  generalize w.heap.size + 1 = b1 at *
  have k2 := (desk_cells h0).2.2
  have p2 := (desk_cells h1).2.2
  have z3 : (x.2.2 != x.2.2) = false := by simp
  have H0 := Lib.hid h0
  have H1 := Lib.hid h1
  clear h0 h1
  go_wp2_with (first | (refine wpList_load_partG 63 _ rfl w.heap.size 0 2 rfl rfl 65 (deskC x.1 x.2.1 x.2.2) (0, 0) _ H0.out Tryz.underlying63 rfl info_tile (desk_fits2 _ _ _) _ (desk_tile _ _ _) ?_) | (refine wpList_load_partG 63 _ rfl b1 0 2 rfl rfl 65 (deskC x.1 x.2.1 x.2.2) (0, 0) _ H1.out Tryz.underlying63 rfl info_tile (desk_fits2 _ _ _) _ (desk_tile _ _ _) ?_) | (go_at_call 52; refine (eqTile_anyD _ _ _).mono ?_; rintro e W1 ⟨rfl, hb1⟩; replace k2 := cell_belowB hb1 k2; replace p2 := cell_belowB hb1 p2; replace hb := hb.trans (hb1.mono hb.size); clear hb1))
  go_ret
  exact ⟨rfl, hb⟩

set_option maxRecDepth 100000 in
set_option maxHeartbeats 1000000 in
theorem eqDeskS_any (v1 v2 : Value) (ws : List Dk) (w : World) (hv1 : DksAt w v1 ws) (hv2 : DksAt w v2 ws) :
    Calls Tryz.prog 14 #[v1, v2] w fun e w' => e = .returned (.bool true) ∧ Below w.heap.size w w' := by
  have HW1 := Lib.hid hv1
  have HW2 := Lib.hid hv2
  obtain ⟨a1, c1, rfl, hl1, hm1, _⟩ := hv1
  obtain ⟨a2, c2, rfl, hl2, hm2, _⟩ := hv2
  unfold maxLen at hm1 hm2
  generalize hn : ws.length = n at *
  have HN := Lib.hid hn
  have zn : ((n : Int) != (n : Int)) = false := by simp
  clear hn
  go_enter Tryz.func14, Tryz.ntmps14
  go_wp2
  go_loopw [5] (fun i wr => ∃ k : Nat, k ≤ n ∧ i = .int .i64 k ∧ Below w.heap.size w wr) (fun i _ => n - (intOf i).toNat)
  case atStart => exact ⟨0, Nat.zero_le _, rfl, Below.refl _ _⟩
  case round =>
    obtain ⟨k, hk, rfl, hb⟩ := hrel
    by_cases hlt : k < n
    · have hx : ws[k]? = some (ws[k]'(by rw [HN.out]; exact hlt)) := List.getElem?_eq_getElem _
      obtain ⟨g1, o1, rfl, hc1⟩ := dk_at (dks_below HW1.out hb) hx
      obtain ⟨g2, o2, rfl, hc2⟩ := dk_at (dks_below HW2.out hb) hx
      have HC1 := Lib.hid hc1
      have HC2 := Lib.hid hc2
      generalize (ws[k]'(by rw [HN.out]; exact hlt)) = x at *
      have z1 : (k : Int) < (n : Int) := by omega
      have z2 : (0 : Int) ≤ (k : Int) := by omega
      have z3 : decide ((k : Int) < (n : Int)) = true := decide_eq_true z1
      clear hc1 hc2 hx
      go_wp2
      refine wp_region_held_drew (S := (fun W => (∀ j v, (dkC x)[j]? = some v → W.cell? ⟨g1, o1 + k * 3 + j, none⟩ = some v) ∧ (∀ j v, (dkC x)[j]? = some v → W.cell? ⟨g2, o2 + k * 3 + j, none⟩ = some v) ∧ Below w.heap.size w W)) (by kernel_rfl) ⟨HC1.out, HC2.out, hb.drew⟩ (fun hHeld => ?_)
      refine take_op (i := 0) (d := 17) (v := ?_) rfl rfl (by kernel_rfl) (by kernel_rfl) (by kernel_rfl) (fun _ _ _ h => h) (Or.inl ⟨by rfl, ?hy0u1⟩) hHeld ?rest0u1
      case hy0u1 =>
        intro w' hS'
        go_simp
        try with_reducible rfl
      simp only [List.setIfInBounds_toArray, List.set_cons_zero, List.set_cons_succ]
      refine take_op (i := 1) (d := 18) (v := ?_) rfl rfl (by kernel_rfl) (by kernel_rfl) (by kernel_rfl) (fun _ _ _ h => h) (Or.inl ⟨by rfl, ?hy1u2⟩) hHeld ?rest1u2
      case hy1u2 =>
        intro w' hS'
        go_simp
        try with_reducible rfl
      simp only [List.setIfInBounds_toArray, List.set_cons_zero, List.set_cons_succ]
      refine take_op (i := 2) (d := 19) (v := ?_) rfl rfl (by kernel_rfl) (by kernel_rfl) (by kernel_rfl) (fun _ _ _ h => h) (Or.inl ⟨by rfl, ?hy2u3⟩) hHeld ?rest2u3
      case hy2u3 =>
        intro w' hS'
        go_simp
        try with_reducible rfl
      simp only [List.setIfInBounds_toArray, List.set_cons_zero, List.set_cons_succ]
      refine take_op (i := 3) (d := 20) (v := .agg (dkC x)) rfl rfl (by kernel_rfl) (by kernel_rfl) (by kernel_rfl) (fun _ _ _ h => h) (yields_cells (by rfl) 65 (.tmp 19) (by rfl) g1 (o1 + k * 3) 3 (by rfl) _ Tryz.underlying65 rfl info_desk (dkC x) rfl (fun W h => h.1)) hHeld ?_
      simp only [List.setIfInBounds_toArray, List.set_cons_zero, List.set_cons_succ]
      refine take_op (i := 4) (d := 21) (v := ?_) rfl rfl (by kernel_rfl) (by kernel_rfl) (by kernel_rfl) (fun _ _ _ h => h) (Or.inl ⟨by rfl, ?hy4u4⟩) hHeld ?rest4u4
      case hy4u4 =>
        intro w' hS'
        go_simp
        try with_reducible rfl
      simp only [List.setIfInBounds_toArray, List.set_cons_zero, List.set_cons_succ]
      refine take_op (i := 5) (d := 22) (v := ?_) rfl rfl (by kernel_rfl) (by kernel_rfl) (by kernel_rfl) (fun _ _ _ h => h) (Or.inl ⟨by rfl, ?hy5u5⟩) hHeld ?rest5u5
      case hy5u5 =>
        intro w' hS'
        go_simp
        try with_reducible rfl
      simp only [List.setIfInBounds_toArray, List.set_cons_zero, List.set_cons_succ]
      refine take_op (i := 6) (d := 23) (v := ?_) rfl rfl (by kernel_rfl) (by kernel_rfl) (by kernel_rfl) (fun _ _ _ h => h) (Or.inl ⟨by rfl, ?hy6u6⟩) hHeld ?rest6u6
      case hy6u6 =>
        intro w' hS'
        go_simp
        try with_reducible rfl
      simp only [List.setIfInBounds_toArray, List.set_cons_zero, List.set_cons_succ]
      refine take_op (i := 7) (d := 24) (v := .agg (dkC x)) rfl rfl (by kernel_rfl) (by kernel_rfl) (by kernel_rfl) (fun _ _ _ h => h) (yields_cells (by rfl) 65 (.tmp 23) (by rfl) g2 (o2 + k * 3) 3 (by rfl) _ Tryz.underlying65 rfl info_desk (dkC x) rfl (fun W h => h.2.1)) hHeld ?_
      simp only [List.setIfInBounds_toArray, List.set_cons_zero, List.set_cons_succ]
      refine wpAnyH_ready (rs := [8]) (by kernel_rfl) (by simp) ?_
      refine AllReadyH.cons rfl (fun K hK => ?_) AllReadyH.nil
      go_simp
      refine (eqDk_any x _).mono ?_
      rintro e W1 ⟨rfl, hb1⟩
      refine hK.out _ _ (⟨fun j v h => cell_below hb1 (hHeld.1 j v h), fun j v h => cell_below hb1 (hHeld.2.1 j v h), hHeld.2.2.trans (hb1.mono hHeld.2.2.size)⟩) (fun hHeld2 => ?_)
      clear hK K
      replace hHeld := hHeld2
      clear hHeld2
      refine take_op (i := 9) (d := 26) (v := ?_) rfl rfl (by kernel_rfl) (by kernel_rfl) (by kernel_rfl) (fun _ _ _ h => h) (Or.inl ⟨by rfl, ?hy9u7⟩) hHeld ?rest9u7
      case hy9u7 =>
        intro w' hS'
        go_simp
        try with_reducible rfl
      simp only [List.setIfInBounds_toArray, List.set_cons_zero, List.set_cons_succ]
      refine wpAnyH_done (by kernel_rfl) ?_ _
      have hbx := hHeld.2.2
      clear hHeld hb
      go_wp2
      go_roundw
      case rel => exact ⟨k + 1, by omega, by go_num, hbx⟩
      case measure => simp [intOf]; omega
    · obtain rfl : k = n := by omega
      go_wp2
      go_ret
      exact ⟨rfl, hb⟩

end Go.Proofs.YtckkemknajggpaaGreatDoor

namespace Go.Proofs.YtckkemknajggpaaGreatDoor
open Go.RowKit

attribute [local go_sem] run_store_f

/-- Is a desk one of a room's? -/
def fitD (wd hg : Int) (x : Dk) : Bool := isD wd hg x.1 x.2.1 x.2.2

theorem isDk_any (wd hg : Int) (sv : Value) (x : Dk) (w : World) : Calls Tryz.prog 66 #[.agg (roomC wd hg sv), .agg (dkC x)] w fun e w' => e = .returned (.bool (fitD wd hg x)) ∧ Below w.heap.size w w' := isDesk_any wd hg x.1 x.2.1 x.2.2 sv w

set_option maxRecDepth 100000 in
set_option maxHeartbeats 1000000 in
theorem deskFn_any (wd hg : Int) (sv : Value) (x : Dk) (gb : Nat) (w : World) (hb0 : w.heap[gb]? = some (.cells (roomC wd hg sv) 36 (0, 0))) :
    Calls Tryz.prog 65 #[.agg (dkC x), .pointer (some ⟨gb, 0, none⟩)] w fun e w' => e = .returned (.bool (!fitD wd hg x)) ∧ Below w.heap.size w w' := by
  have hl := row_lt hb0
  have H0 := Lib.hid hb0
  clear hb0
  go_enter Tryz.func65, Tryz.ntmps65
  go_upto_region 1 with (fail)
  refine abs_world (fun W => Below w.heap.size w W ∧ W.heap[w.heap.size]? = some (.cells (dkC x) 65 (0, 0))) ⟨(Below.refl _ _).alloc (Nat.le_refl _) _, heap_alloc_new _ _⟩ ?_
  rintro W ⟨hb, h1⟩
  replace H0 := Lib.hid (below_row hb H0.out)
  have H1 := Lib.hid h1
  clear h1
  go_wp2_with (first | (refine wpList_load_part rfl 36 _ rfl gb 0 3 rfl 36 (roomC wd hg sv) (0, 0) _ H0.out Tryz.underlying36 rfl info_room (room_fits _ _ _) _ (room_all _ _ _) ?_) | (refine wpList_load_part rfl 65 _ rfl w.heap.size 0 3 rfl 65 (dkC x) (0, 0) _ H1.out Tryz.underlying65 rfl info_desk (dk_fits _) _ (dk_all _) ?_) | (go_at_call 66; refine (isDk_any wd hg sv x _).mono ?_; rintro e W1 ⟨rfl, hb1⟩))
  go_ret
  exact ⟨rfl, hb.trans (hb1.mono hb.size)⟩

/-- What looking for a window that does not fit finds. -/
def FoundDk (wd hg : Int) (ws : List Dk) (w : World) (e : Ending) (w' : World) : Prop := ∃ r : Int, e = .returned (.int .i64 r) ∧ decide (0 ≤ r) = !ws.all (fitD wd hg) ∧ Below w.heap.size w w'

set_option maxRecDepth 100000 in
set_option maxHeartbeats 1000000 in
theorem indexDk_any (wd hg : Int) (sv dv : Value) (ws : List Dk) (gb : Nat) (w : World) (hb0 : w.heap[gb]? = some (.cells (roomC wd hg sv) 36 (0, 0))) (hws : DksAt w dv ws) :
    Calls Tryz.prog 80 #[dv, .func (.func 65) #[] #[.pointer (some ⟨gb, 0, none⟩)]] w fun e w' => FoundDk wd hg ws w e w' := by
  have hws' := hws
  obtain ⟨a, cap, rfl, hl1, hl2, _⟩ := hws'
  have HW := Lib.hid hws
  have H0 := Lib.hid hb0
  clear hws hb0
  unfold maxLen at hl2
  generalize hn : ws.length = n at *
  go_enter Tryz.func80, Tryz.ntmps80
  go_wp2
  go_loopw [8] (fun i wr => ∃ k : Nat, k ≤ n ∧ i = .int .i64 k ∧ Below w.heap.size w wr ∧ (ws.take k).all (fitD wd hg) = true) (fun i _ => n - (intOf i).toNat)
  case atStart => exact ⟨0, Nat.zero_le _, rfl, Below.refl _ _, rfl⟩
  case round =>
    obtain ⟨k, hk, rfl, hb, hall⟩ := hrel
    have HA := Lib.hid hall
    clear hall
    by_cases hlt : k < n
    · have hx : ws[k]? = some ws[k] := List.getElem?_eq_getElem (by omega)
      obtain ⟨g, o, rfl, hc⟩ := dk_at (dks_below HW.out hb) hx
      have HC := Lib.hid hc
      have hts : ws.take (k + 1) = ws.take k ++ [ws[k]] := by rw [List.take_succ_eq_append_getElem (by omega)]
      have HT := Lib.hid hts
      have hdx := HW.out
      generalize ws[k] = x at *
      have HD : Hid (ws[k]? = some x) := Lib.hid hx
      replace H0 := Lib.hid (below_row hb H0.out)
      have z1 : (k : Int) < (n : Int) := by omega
      have z2 : (0 : Int) ≤ (k : Int) := by omega
      clear hc hts hx hdx
      cases hf : fitD wd hg x with
      | true =>
        have hnf : (!fitD wd hg x) = false := by rw [hf]; rfl
        go_wp2_with (first | (refine wpList_load_cells rfl 65 _ rfl g (o + k * 3) 3 rfl _ Tryz.underlying65 rfl info_desk (dkC x) rfl HC.out ?_) | (go_at_call 65; refine (deskFn_any wd hg _ x gb _ H0.out).mono ?_; rw [hnf]; rintro e W1 ⟨rfl, hb1⟩))
        go_roundw
        case rel => exact ⟨k + 1, by omega, by go_num, hb.trans (hb1.mono hb.size), by rw [HT.out, List.all_append, HA.out]; simp [hf]⟩
        case measure => simp [intOf]; omega
      | false =>
        have hnf : (!fitD wd hg x) = true := by rw [hf]; rfl
        go_wp2_with (first | (refine wpList_load_cells rfl 65 _ rfl g (o + k * 3) 3 rfl _ Tryz.underlying65 rfl info_desk (dkC x) rfl HC.out ?_) | (go_at_call 65; refine (deskFn_any wd hg _ x gb _ H0.out).mono ?_; rw [hnf]; rintro e W1 ⟨rfl, hb1⟩))
        go_ret
        refine ⟨k, rfl, ?_, hb.trans (hb1.mono hb.size)⟩
        have hmem := List.mem_of_getElem? HD.out
        have hall : ws.all (fitD wd hg) = false := by
          rw [Bool.eq_false_iff]
          intro ha
          have := List.all_eq_true.1 ha x hmem
          rw [hf] at this; cases this
        rw [hall]; simp
    · obtain rfl : k = n := by omega
      go_wp2
      go_ret
      refine ⟨-1, rfl, ?_, hb⟩
      have hall := HA.out
      rw [List.take_of_length_le (by omega)] at hall
      rw [hall]; rfl

set_option maxRecDepth 100000 in
set_option maxHeartbeats 1000000 in
theorem containsDk_any (wd hg : Int) (sv dv : Value) (ws : List Dk) (gb : Nat) (w : World) (hb0 : w.heap[gb]? = some (.cells (roomC wd hg sv) 36 (0, 0))) (hws : DksAt w dv ws) :
    Calls Tryz.prog 64 #[dv, .func (.func 65) #[] #[.pointer (some ⟨gb, 0, none⟩)]] w fun e w' => e = .returned (.bool (!ws.all (fitD wd hg))) ∧ Below w.heap.size w w' := by
  have HC := indexDk_any wd hg sv dv ws gb w hb0 hws
  clear hb0 hws
  go_enter Tryz.func64, Tryz.ntmps64
  go_wp2_with (go_at_call 80; refine HC.mono ?_; rintro e W1 ⟨r, rfl, hd, hb1⟩)
  go_ret
  first | exact ⟨ret_boolR hd, hb1⟩ | exact ⟨rfl, hb1⟩

set_option maxRecDepth 100000 in
set_option maxHeartbeats 4000000 in
theorem areDesks_any (wd hg : Int) (sv dv : Value) (ds : List Dk) (w : World) (hds : DksAt w dv ds) :
    Calls Tryz.prog 45 #[.agg (roomC wd hg sv), dv] w fun e w' => e = .returned (.bool (ds.all (fitD wd hg))) ∧ Below w.heap.size w w' := by
  have HD := Lib.hid hds
  have HCC := Lib.hid (fun gb W h => containsDk_any wd hg sv dv ds gb W h)
  generalize ds.all (fitD wd hg) = ok at *
  clear hds
  go_enter Tryz.func45, Tryz.ntmps45
  go_upto_region 1 with (fail)
  refine abs_world (fun W => Below w.heap.size w W ∧ W.heap[w.heap.size]? = some (.cells (roomC wd hg sv) 36 (0, 0))) ⟨(Below.refl _ _).alloc (Nat.le_refl _) _, heap_alloc_new _ _⟩ ?_
  rintro W ⟨hb, h1⟩
  have HC := Lib.hid (HCC.out w.heap.size W h1 (dks_below HD.out hb))
  clear h1 HD HCC
  go_wp2_with (go_at_call 64; refine HC.out.mono ?_; rintro e W1 ⟨rfl, hb1⟩)
  go_ret
  first | exact ⟨rfl, hb.trans (hb1.mono hb.size)⟩ | exact ⟨ret_boolR (Bool.not_not _), hb.trans (hb1.mono hb.size)⟩ | exact ⟨ret_boolR (by cases ok <;> rfl), hb.trans (hb1.mono hb.size)⟩

end Go.Proofs.YtckkemknajggpaaGreatDoor

namespace Go.Proofs.YtckkemknajggpaaGreatDoor
open Go.ChangeShapes Go.WideShapes Go.ChangeAt Go.RowKit

theorem laidMet_skip {P : Program} {x y : String × DataW Unit} {r : List (String × DataW Unit)} {w : World} (h : laidMet P (x :: y :: r) w) : laidMet P (x :: r) w := by
  obtain ⟨ps, hv, hnd, hrows⟩ := h
  obtain ⟨n, d⟩ := x
  obtain ⟨m, e⟩ := y
  obtain ⟨g, t, cs, fuel, p, q, h1, h2, h3, h4, hq, rfl⟩ := hv
  obtain ⟨g', t', cs', fuel', p', q', _, _, _, _, hq', rfl⟩ := hq
  refine ⟨MemPlace.row ⟨g, 0, none⟩ cs.size ++ p ++ q', ⟨g, t, cs, fuel, p, q', h1, h2, h3, h4, hq', rfl⟩, ?_, fun b off hm => hrows b off ?_⟩
  · exact hnd.sublist (List.Sublist.append (List.Sublist.refl _) (List.sublist_append_right _ _))
  · rcases List.mem_append.1 hm with hm | hm
    · exact List.mem_append_left _ hm
    · exact List.mem_append_right _ (List.mem_append_right _ hm)

/-- The variables that the rows list, and what they hold. -/
def lst : List (String × DataW Unit) := [("loop.example/g01367/impl.errInvalid", Rows.laid_loop_example_g01367_impl_errInvalid), ("loop.example/g01367/impl.errRange", Rows.laid_loop_example_g01367_impl_errRange), ("loop.example/g01367/impl.errLimit", Rows.laid_loop_example_g01367_impl_errLimit), ("loop.example/g01367/impl.errNotFound", Rows.laid_loop_example_g01367_impl_errNotFound)]

theorem star_err : ("*" ++ "errors.errorString") = "*errors.errorString" := by decide
theorem row_err (u : TypeId) (h : Tryz.prog.typeName? 3 u = some "*errors.errorString") : u = 162 :=
  typeName_ptr_named (nm := "errors.errorString") (by rw [star_err]; kernel_rfl) (by kernel_rfl) (by decide) u (by rw [star_err]; exact h)
theorem g_inv : Tryz.prog.globalNamed "loop.example/g01367/impl.errInvalid" = some 0 := by kernel_rfl
theorem g_ran : Tryz.prog.globalNamed "loop.example/g01367/impl.errRange" = some 1 := by kernel_rfl
theorem g_lim : Tryz.prog.globalNamed "loop.example/g01367/impl.errLimit" = some 2 := by kernel_rfl
theorem g_not : Tryz.prog.globalNamed "loop.example/g01367/impl.errNotFound" = some 3 := by kernel_rfl
theorem gt_inv : (Tryz.prog.globals[0]?).map (·.type) = some 76 := by kernel_rfl
theorem gt_ran : (Tryz.prog.globals[1]?).map (·.type) = some 76 := by kernel_rfl
theorem gt_lim : (Tryz.prog.globals[2]?).map (·.type) = some 76 := by kernel_rfl
theorem gt_not : (Tryz.prog.globals[3]?).map (·.type) = some 76 := by kernel_rfl

/-- A sentinel's value. -/
def errV (a : Addr) : Value := .iface 162 (.pointer (some a))
/-- A place whose block is a row of cells that is not marked. -/
def Plain0 (W : World) (a : Addr) : Prop := ∃ c t, W.heap[a.block]? = some (.cells c t (0, 0))

/-- The four sentinels, each at a place of its own. -/
structure ErrsAt (W : World) (a0 a1 a2 a3 : Addr) : Prop where
  v0 : W.cell? ⟨0, 0, none⟩ = some (errV a0)
  v1 : W.cell? ⟨1, 0, none⟩ = some (errV a1)
  v2 : W.cell? ⟨2, 0, none⟩ = some (errV a2)
  v3 : W.cell? ⟨3, 0, none⟩ = some (errV a3)
  b0 : Plain0 W a0
  b1 : Plain0 W a1
  b2 : Plain0 W a2
  b3 : Plain0 W a3
  n01 : a0 ≠ a1
  n02 : a0 ≠ a2
  n03 : a0 ≠ a3
  n12 : a1 ≠ a2
  n13 : a1 ≠ a3
  n23 : a2 ≠ a3

theorem plain0_below {W W' : World} {a : Addr} (hb : Below W.heap.size W W') (h : Plain0 W a) : Plain0 W' a := by
  obtain ⟨c, t, h⟩ := h
  exact ⟨c, t, (hb.block _ (Array.getElem?_eq_some_iff.1 h).1).trans h⟩
theorem errs_below {W W' : World} {a0 a1 a2 a3 : Addr} (h : ErrsAt W a0 a1 a2 a3) (hb : Below W.heap.size W W') : ErrsAt W' a0 a1 a2 a3 :=
  have cb : ∀ {a : Addr} {v : Value}, W.cell? a = some v → W'.cell? a = some v := fun {a _} h => (hb.cell (World.block_lt_of_cell? W a h)).trans h
  ⟨cb h.v0, cb h.v1, cb h.v2, cb h.v3, plain0_below hb h.b0, plain0_below hb h.b1, plain0_below hb h.b2, plain0_below hb h.b3, h.n01, h.n02, h.n03, h.n12, h.n13, h.n23⟩

theorem two_of {n0 n1 : String} {t0 t1 : List UInt8} {r : List (String × DataW Unit)} {W : World} {g0 g1 : Nat}
    (h : laidMet Tryz.prog ((n0, .iface "*errors.errorString" (.ptr (.agg [.lit (.string t0)]))) :: (n1, .iface "*errors.errorString" (.ptr (.agg [.lit (.string t1)]))) :: r) W)
    (hg0 : Tryz.prog.globalNamed n0 = some g0) (ht0 : (Tryz.prog.globals[g0]?).map (·.type) = some 76) (hg1 : Tryz.prog.globalNamed n1 = some g1) (ht1 : (Tryz.prog.globals[g1]?).map (·.type) = some 76) :
    ∃ a0 a1, W.cell? ⟨g0, 0, none⟩ = some (errV a0) ∧ W.cell? ⟨g1, 0, none⟩ = some (errV a1) ∧ a0 ≠ a1 ∧ Plain0 W a0 ∧ Plain0 W a1 := by
  obtain ⟨a0, a1, s0, s1, c0, c1, u0, u1, v0, v1, _, _, _, _, _, _, hne, hb0, hb1⟩ := laid_sentinels2 h hg0 ht0 hg1 ht1 Tryz.underlying76 row_err Tryz.underlying162 Tryz.underlying188 rfl rfl Tryz.underlying9 (by kernel_rfl) (by kernel_rfl)
  exact ⟨a0, a1, by simpa [errV] using World.var?_cell hg0 v0 0, by simpa [errV] using World.var?_cell hg1 v1 0, hne, ⟨_, _, hb0⟩, ⟨_, _, hb1⟩⟩

theorem errV_inj {W : World} {p : Addr} {a b : Addr} (h : W.cell? p = some (errV a)) (k : W.cell? p = some (errV b)) : b = a := by
  rw [h] at k
  simp only [errV, Option.some.injEq, Value.iface.injEq, Value.pointer.injEq, true_and] at k
  exact k.symm

theorem errs_of {W : World} (h : laidMetH Tryz.prog lst W) : ∃ a0 a1 a2 a3, ErrsAt W a0 a1 a2 a3 := by
  have h' : laidMet Tryz.prog lst W := h
  obtain ⟨a0, a1, v0, v1, n01, b0, b1⟩ := two_of h' g_inv gt_inv g_ran gt_ran
  obtain ⟨x0, a2, w0, v2, n02, _, b2⟩ := two_of (laidMet_skip h') g_inv gt_inv g_lim gt_lim
  obtain ⟨y0, a3, z0, v3, n03, _, b3⟩ := two_of (laidMet_skip (laidMet_skip h')) g_inv gt_inv g_not gt_not
  obtain ⟨x1, x2, w1, w2, n12, _, _⟩ := two_of h'.tail g_ran gt_ran g_lim gt_lim
  obtain ⟨y1, x3, z1, w3, n13, _, _⟩ := two_of (laidMet_skip h'.tail) g_ran gt_ran g_not gt_not
  obtain ⟨y2, y3, z2, z3, n23, _, _⟩ := two_of h'.tail.tail g_lim gt_lim g_not gt_not
  obtain rfl := errV_inj v0 w0
  obtain rfl := errV_inj v0 z0
  obtain rfl := errV_inj v1 w1
  obtain rfl := errV_inj v1 z1
  obtain rfl := errV_inj v2 w2
  obtain rfl := errV_inj v2 z2
  obtain rfl := errV_inj v3 w3
  obtain rfl := errV_inj v3 z3
  exact ⟨_, _, _, _, v0, v1, v2, v3, b0, b1, b2, b3, n01, n02, n03, n12, n13, n23⟩

end Go.Proofs.YtckkemknajggpaaGreatDoor

namespace Go.Proofs.YtckkemknajggpaaGreatDoor
open Go.RowKit Go.Extern.Stop Go.Stop Go.Extern

/-- The handle of the sentinels' type. -/
noncomputable def errH : Value := typeHandle Tryz.prog 162
theorem is_typeOf (v : Value) (w : World) : (Extern.ReflectliteType.typeOf #[.iface 162 v]).run Tryz.prog w = .ok (.iface 141 (.agg #[errH])) w := by kernel_rfl
theorem is_comparable (w : World) : (Extern.ReflectliteType.method (fun t => do Extern.Rtype.noPackHeld "Comparable" t; (fun a => Value.bool a.comparable) <$> typeInfo t) #[.agg #[errH]]).run Tryz.prog w = .ok (.bool true) w := by kernel_rfl
theorem is_method (n : Nat) (v : Value) (w : World) : (Go.method (n + 1) 141 v "Comparable").run Tryz.prog w = .ok (109, v) w := by kernel_rfl
theorem is_comp : (Tryz.prog.info? 162).map (·.comparable) = some true := by kernel_rfl
theorem is_size : (Tryz.prog.info? 188).map (·.size) = some 1 := by kernel_rfl
theorem is_noIs (v : Value) (xT : TypeId) (w : World) : (Instr.typeAssert (.iface 162 v) xT 143 true).run Tryz.prog w = .ok (.tuple #[.nilIface, .bool false]) w := run_typeAssert_lacksB Tryz.underlying143 (by kernel_rfl) (by kernel_rfl) v xT w
theorem is_noUnwrap (v : Value) (xT : TypeId) (w : World) : (Instr.typeAssert (.iface 162 v) xT 146 true).run Tryz.prog w = .ok (.tuple #[.nilIface, .bool false]) w := run_typeAssert_lacksB Tryz.underlying146 (by kernel_rfl) (by kernel_rfl) v xT w
theorem is_noUnwraps (v : Value) (xT : TypeId) (w : World) : (Instr.typeAssert (.iface 162 v) xT 148 true).run Tryz.prog w = .ok (.tuple #[.nilIface, .bool false]) w := run_typeAssert_lacksB Tryz.underlying148 (by kernel_rfl) (by kernel_rfl) v xT w

set_option maxRecDepth 1000000 in
theorem is_same {W : World} (a : Addr) : Calls Tryz.prog 68 #[errV a, errV a, .bool true] W fun e w' => e = .returned (.bool true) ∧ W = w' := by
  obtain ⟨i, hi, hcmp⟩ := Option.map_eq_some_iff.1 is_comp
  obtain ⟨j, hj, hjs⟩ := Option.map_eq_some_iff.1 is_size
  have heq := fun w => run_eql_iface_ptr_same (P := Tryz.prog) w a Tryz.underlying76 Tryz.underlying162 hi hcmp hj
  unfold errV
  go_enter Tryz.func68, Tryz.ntmps68
  go_wp2
  go_loopw [0] (fun E wl => wl = W ∧ E = .iface 162 (.pointer (some a))) (fun _ _ => 0)
  case atStart => exact ⟨rfl, rfl⟩
  case round =>
    obtain ⟨rfl, rfl⟩ := hrel
    go_wp2
    go_ret
    exact ⟨rfl, rfl⟩

set_option maxRecDepth 1000000 in
theorem is_other {W : World} {a b : Addr} (hne : a ≠ b) (ha : Plain0 W a) (hb : Plain0 W b) : Calls Tryz.prog 68 #[errV a, errV b, .bool true] W fun e w' => e = .returned (.bool false) ∧ W = w' := by
  obtain ⟨i, hi, hcmp⟩ := Option.map_eq_some_iff.1 is_comp
  obtain ⟨j, hj, hjs⟩ := Option.map_eq_some_iff.1 is_size
  obtain ⟨ca, ta, ha⟩ := ha
  obtain ⟨cb, tb, hb⟩ := hb
  have heq := run_eql_iface_ptr_other (P := Tryz.prog) W Tryz.underlying76 Tryz.underlying162 hi hcmp hj (by rw [hjs]; decide) hne ha hb
  have nE := is_noIs
  have uE := is_noUnwrap
  have vE := is_noUnwraps
  unfold errV
  go_enter Tryz.func68, Tryz.ntmps68
  go_wp2
  go_loopw [0] (fun E wl => wl = W ∧ E = .iface 162 (.pointer (some a))) (fun _ _ => 0)
  case atStart => exact ⟨rfl, rfl⟩
  case round =>
    obtain ⟨rfl, rfl⟩ := hrel
    go_wp2
    go_ret
    exact ⟨rfl, rfl⟩

/-- errors.Is of an error and a sentinel. -/
def IsB (W : World) (E : Value) (b : Addr) (r : Bool) : Prop := Calls Tryz.prog 46 #[E, errV b] W fun e w' => e = .returned (.bool r) ∧ W = w'

set_option maxRecDepth 1000000 in
theorem isB_nil (W : World) (b : Addr) : IsB W .nilIface b false := by
  have hn := run_eql_iface_nil_left (P := Tryz.prog) W 162 (.pointer (some b)) Tryz.underlying76
  unfold IsB errV
  go_enter Tryz.func46, Tryz.ntmps46
  go_wp2
  go_ret
  exact ⟨rfl, rfl⟩

set_option maxRecDepth 1000000 in
theorem isB_some (W : World) (a b : Addr) (r : Bool) (h : Calls Tryz.prog 68 #[errV a, errV b, .bool true] W fun e w' => e = .returned (.bool r) ∧ W = w') : IsB W (errV a) b r := by
  have h10 := @run_callFunc_extern Tryz.prog 67 _ Extern.ReflectliteType.typeOf Tryz.func67 (by kernel_rfl) (by kernel_rfl) (by kernel_rfl) (by kernel_rfl)
  have h30 := @run_callFunc_extern Tryz.prog 109 _ (Extern.ReflectliteType.method fun t => do Extern.Rtype.noPackHeld "Comparable" t; pure (.bool (← typeInfo t).comparable)) Tryz.func109 (by kernel_rfl) (by kernel_rfl) (by kernel_rfl) (by kernel_rfl)
  have tT := is_typeOf
  have cT := is_comparable
  have mR := is_method
  unfold IsB
  unfold errV at *
  go_enter Tryz.func46, Tryz.ntmps46
  go_wp2_with (first | (go_at_call 68; refine h.mono ?_; rintro e w' ⟨rfl, rfl⟩) | go_in)
  go_ret
  exact ⟨rfl, rfl⟩

/-- The code of an error, told by which sentinel it is. -/
def errOf (a0 a1 a2 a3 : Addr) : Nat → Value
  | 0 => .nilIface
  | 1 => errV a0
  | 2 => errV a1
  | 3 => errV a2
  | _ => errV a3
def codeE : Nat → Int
  | 0 => 0
  | 1 => 1
  | 2 => 2
  | 3 => 3
  | _ => 6

theorem isB_of {W : World} {a0 a1 a2 a3 : Addr} (h : ErrsAt W a0 a1 a2 a3) (k : Nat) :
    IsB W (errOf a0 a1 a2 a3 k) a0 (k == 1) ∧ IsB W (errOf a0 a1 a2 a3 k) a1 (k == 2) ∧ IsB W (errOf a0 a1 a2 a3 k) a2 (k == 3) ∧ IsB W (errOf a0 a1 a2 a3 k) a3 (decide (4 ≤ k)) := by
  match k with
  | 0 => exact ⟨isB_nil _ _, isB_nil _ _, isB_nil _ _, isB_nil _ _⟩
  | 1 => exact ⟨isB_some _ _ _ _ (is_same _), isB_some _ _ _ _ (is_other h.n01 h.b0 h.b1), isB_some _ _ _ _ (is_other h.n02 h.b0 h.b2), isB_some _ _ _ _ (is_other h.n03 h.b0 h.b3)⟩
  | 2 => exact ⟨isB_some _ _ _ _ (is_other h.n01.symm h.b1 h.b0), isB_some _ _ _ _ (is_same _), isB_some _ _ _ _ (is_other h.n12 h.b1 h.b2), isB_some _ _ _ _ (is_other h.n13 h.b1 h.b3)⟩
  | 3 => exact ⟨isB_some _ _ _ _ (is_other h.n02.symm h.b2 h.b0), isB_some _ _ _ _ (is_other h.n12.symm h.b2 h.b1), isB_some _ _ _ _ (is_same _), isB_some _ _ _ _ (is_other h.n23 h.b2 h.b3)⟩
  | k + 4 =>
    have e : decide (4 ≤ k + 4) = true := decide_eq_true (by omega)
    have e1 : (k + 4 == 1) = false := by simp
    have e2 : (k + 4 == 2) = false := by simp
    have e3 : (k + 4 == 3) = false := by simp
    rw [e, e1, e2, e3]
    exact ⟨isB_some _ _ _ _ (is_other h.n03.symm h.b3 h.b0), isB_some _ _ _ _ (is_other h.n13.symm h.b3 h.b1), isB_some _ _ _ _ (is_other h.n23.symm h.b3 h.b2), isB_some _ _ _ _ (is_same _)⟩

set_option maxRecDepth 1000000 in
theorem codeOf_any {W : World} {a0 a1 a2 a3 : Addr} (h : ErrsAt W a0 a1 a2 a3) (k : Nat) :
    Calls Tryz.prog 28 #[errOf a0 a1 a2 a3 k] W fun e w' => e = .returned (.int .i64 (codeE k)) ∧ W = w' := by
  obtain ⟨i0, i1, i2, i3⟩ := isB_of h k
  have c0 := h.v0
  have c1 := h.v1
  have c2 := h.v2
  have c3 := h.v3
  unfold IsB at i0 i1 i2 i3
  have I0 := Lib.hid i0
  have I1 := Lib.hid i1
  have I2 := Lib.hid i2
  have I3 := Lib.hid i3
  clear i0 i1 i2 i3 h
  match k with
  | 0 =>
    go_enter Tryz.func28, Tryz.ntmps28
    go_wp2_with (first | (go_at_call 46; (with_reducible refine I0.out.mono ?_); rintro e w' ⟨rfl, rfl⟩) | (go_at_call 46; (with_reducible refine I1.out.mono ?_); rintro e w' ⟨rfl, rfl⟩) | (go_at_call 46; (with_reducible refine I2.out.mono ?_); rintro e w' ⟨rfl, rfl⟩) | (go_at_call 46; (with_reducible refine I3.out.mono ?_); rintro e w' ⟨rfl, rfl⟩))
    go_ret
    exact ⟨rfl, rfl⟩
  | 1 =>
    go_enter Tryz.func28, Tryz.ntmps28
    go_wp2_with (go_at_call 46; (with_reducible refine I0.out.mono ?_); rintro e w' ⟨rfl, rfl⟩)
    go_ret
    exact ⟨rfl, rfl⟩
  | 2 =>
    go_enter Tryz.func28, Tryz.ntmps28
    go_wp2_with (first | (go_at_call 46; (with_reducible refine I0.out.mono ?_); rintro e w' ⟨rfl, rfl⟩) | (go_at_call 46; (with_reducible refine I1.out.mono ?_); rintro e w' ⟨rfl, rfl⟩))
    go_ret
    exact ⟨rfl, rfl⟩
  | 3 =>
    go_enter Tryz.func28, Tryz.ntmps28
    go_wp2_with (first | (go_at_call 46; (with_reducible refine I0.out.mono ?_); rintro e w' ⟨rfl, rfl⟩) | (go_at_call 46; (with_reducible refine I1.out.mono ?_); rintro e w' ⟨rfl, rfl⟩) | (go_at_call 46; (with_reducible refine I2.out.mono ?_); rintro e w' ⟨rfl, rfl⟩))
    go_ret
    exact ⟨rfl, rfl⟩
  | k + 4 =>
    go_enter Tryz.func28, Tryz.ntmps28
    go_wp2_with (first | (go_at_call 46; (with_reducible refine I0.out.mono ?_); rintro e w' ⟨rfl, rfl⟩) | (go_at_call 46; (with_reducible refine I1.out.mono ?_); rintro e w' ⟨rfl, rfl⟩) | (go_at_call 46; (with_reducible refine I2.out.mono ?_); rintro e w' ⟨rfl, rfl⟩) | (go_at_call 46; (with_reducible refine I3.out.mono ?_); rintro e w' ⟨rfl, rfl⟩))
    go_ret
    exact ⟨rfl, rfl⟩

/-- Which error a call is refused with. -/
def refN (v r f : Bool) : Nat := if !v then 1 else if !r then 2 else if !f then 3 else 0

set_option maxRecDepth 1000000 in
theorem refusal_any {W : World} {a0 a1 a2 a3 : Addr} (h : ErrsAt W a0 a1 a2 a3) (v r f : Bool) :
    Calls Tryz.prog 44 #[.bool v, .bool r, .bool f] W fun e w' => e = .returned (errOf a0 a1 a2 a3 (refN v r f)) ∧ W = w' := by
  have c0 := h.v0
  have c1 := h.v1
  have c2 := h.v2
  cases v <;> cases r <;> cases f
  all_goals
    go_enter Tryz.func44, Tryz.ntmps44
    go_wp2
    go_ret
    exact ⟨rfl, rfl⟩

end Go.Proofs.YtckkemknajggpaaGreatDoor

namespace Go.Proofs.YtckkemknajggpaaGreatDoor
open Go.RowKit

attribute [local go_sem] run_store_f

/-- A person is valid. -/
def fitP (x : Pn) : Bool := okPe x.1 x.2.1 x.2.2

theorem validPn_any (x : Pn) (w : World) : Calls Tryz.prog 41 #[.agg (pnC x)] w fun e w' => e = .returned (.bool (fitP x)) ∧ Below w.heap.size w w' := implValidPerson_any x.1 x.2.1 x.2.2 w

theorem ret_boolSB {a b : Bool} (h : a = b) : Ending.returned (.bool a) = .returned (.bool b) := by rw [h]

set_option maxRecDepth 100000 in
set_option maxHeartbeats 1000000 in
theorem badPn_any (x : Pn) (w : World) :
    Calls Tryz.prog 40 #[.agg (pnC x)] w fun e w' => e = .returned (.bool (!fitP x)) ∧ Below w.heap.size w w' := by
  go_enter Tryz.func40, Tryz.ntmps40
  go_upto_region 1 with (fail)
  refine abs_world (fun W => Below w.heap.size w W ∧ W.heap[w.heap.size]? = some (.cells (pnC x) 72 (0, 0))) ⟨(Below.refl _ _).alloc (Nat.le_refl _) _, heap_alloc_new _ _⟩ ?_
  rintro W ⟨hb, h1⟩
  have H1 := Lib.hid h1
  clear h1
  go_wp2_with (first | (refine wpList_load_part rfl 72 _ rfl w.heap.size 0 3 rfl 72 (pnC x) (0, 0) _ H1.out Tryz.underlying72 rfl info_pers (pn_fits _) _ (pn_all _) ?_) | (go_at_call 41; refine (validPn_any x _).mono ?_; rintro e W1 ⟨rfl, hb1⟩))
  go_ret
  exact ⟨rfl, hb.trans (hb1.mono hb.size)⟩

/-- What looking for a person that is not valid finds. -/
def FoundPn (ts : List Pn) (w : World) (e : Ending) (w' : World) : Prop := ∃ r : Int, e = .returned (.int .i64 r) ∧ decide (0 ≤ r) = !ts.all fitP ∧ Below w.heap.size w w'

set_option maxRecDepth 100000 in
set_option maxHeartbeats 1000000 in
theorem indexPn_any (sv : Value) (ws : List Pn) (w : World) (hws : PnsAt w sv ws) :
    Calls Tryz.prog 63 #[sv, .func (.func 40) #[] #[]] w fun e w' => FoundPn ws w e w' := by
  have hws' := hws
  obtain ⟨a, cap, rfl, hl1, hl2, _⟩ := hws'
  have HW := Lib.hid hws
  clear hws
  unfold maxLen at hl2
  generalize hn : ws.length = n at *
  go_enter Tryz.func63, Tryz.ntmps63
  go_wp2
  go_loopw [8] (fun i wr => ∃ k : Nat, k ≤ n ∧ i = .int .i64 k ∧ Below w.heap.size w wr ∧ (ws.take k).all fitP = true) (fun i _ => n - (intOf i).toNat)
  case atStart => exact ⟨0, Nat.zero_le _, rfl, Below.refl _ _, rfl⟩
  case round =>
    obtain ⟨k, hk, rfl, hb, hall⟩ := hrel
    have HA := Lib.hid hall
    clear hall
    by_cases hlt : k < n
    · have hx : ws[k]? = some ws[k] := List.getElem?_eq_getElem (by omega)
      obtain ⟨g, o, rfl, hc⟩ := pn_at (pns_below HW.out hb) hx
      have HC := Lib.hid hc
      have hts : ws.take (k + 1) = ws.take k ++ [ws[k]] := by rw [List.take_succ_eq_append_getElem (by omega)]
      have HT := Lib.hid hts
      have hdx := HW.out
      generalize ws[k] = x at *
      have HD : Hid (ws[k]? = some x) := Lib.hid hx
      have z1 : (k : Int) < (n : Int) := by omega
      have z2 : (0 : Int) ≤ (k : Int) := by omega
      clear hc hts hx hdx
      cases hf : fitP x with
      | true =>
        have hnf : (!fitP x) = false := by rw [hf]; rfl
        go_wp2_with (first | (refine wpList_load_cells rfl 72 _ rfl g (o + k * 3) 3 rfl _ Tryz.underlying72 rfl info_pers (pnC x) rfl HC.out ?_) | (go_at_call 40; refine (badPn_any x _).mono ?_; rw [hnf]; rintro e W1 ⟨rfl, hb1⟩))
        go_roundw
        case rel => exact ⟨k + 1, by omega, by go_num, hb.trans (hb1.mono hb.size), by rw [HT.out, List.all_append, HA.out]; simp [hf]⟩
        case measure => simp [intOf]; omega
      | false =>
        have hnf : (!fitP x) = true := by rw [hf]; rfl
        go_wp2_with (first | (refine wpList_load_cells rfl 72 _ rfl g (o + k * 3) 3 rfl _ Tryz.underlying72 rfl info_pers (pnC x) rfl HC.out ?_) | (go_at_call 40; refine (badPn_any x _).mono ?_; rw [hnf]; rintro e W1 ⟨rfl, hb1⟩))
        go_ret
        refine ⟨k, rfl, ?_, hb.trans (hb1.mono hb.size)⟩
        have hmem := List.mem_of_getElem? HD.out
        have hall : ws.all fitP = false := by
          rw [Bool.eq_false_iff]
          intro ha
          have := List.all_eq_true.1 ha x hmem
          rw [hf] at this; cases this
        rw [hall]; simp
    · obtain rfl : k = n := by omega
      go_wp2
      go_ret
      refine ⟨-1, rfl, ?_, hb⟩
      have hall := HA.out
      rw [List.take_of_length_le (by omega)] at hall
      rw [hall]; rfl

set_option maxRecDepth 100000 in
set_option maxHeartbeats 1000000 in
theorem containsPn_any (sv : Value) (ws : List Pn) (w : World) (hws : PnsAt w sv ws) :
    Calls Tryz.prog 43 #[sv, .func (.func 40) #[] #[]] w fun e w' => e = .returned (.bool (!ws.all fitP)) ∧ Below w.heap.size w w' := by
  have HC := indexPn_any sv ws w hws
  clear hws
  go_enter Tryz.func43, Tryz.ntmps43
  go_wp2_with (go_at_call 63; refine HC.mono ?_; rintro e W1 ⟨r, rfl, hd, hb1⟩)
  go_ret
  first | exact ⟨ret_boolSB hd, hb1⟩ | exact ⟨rfl, hb1⟩


/-- Neither of two lists is too long. -/
def limB (n m : Nat) : Bool := decide ((n : Int) ≤ 8) && decide ((m : Int) ≤ 8)

set_option maxRecDepth 100000 in
set_option maxHeartbeats 4000000 in
theorem seatRef_tt (wd hg : Int) (sv dv pv : Value) (ws : List Wn) (ds : List Dk) (ps : List Pn) (e0 e1 e2 e3 : Addr) (w : World) (hws : WinsAt w sv ws) (hds : DksAt w dv ds) (hps : PnsAt w pv ps) (hE : ErrsAt w e0 e1 e2 e3) (hv : okRm wd hg ws = true) (hl : (ds.length : Int) ≤ 8) :
    Calls Tryz.prog 27 #[.agg (roomC wd hg sv), dv, pv] w fun e w' => e = .returned (errOf e0 e1 e2 e3 (refN (ps.all fitP) (ds.all (fitD wd hg)) (decide ((ps.length : Int) ≤ 8)))) ∧ Below w.heap.size w w' := by
  have HVR : Hid (∀ V, WinsAt V sv ws → Calls Tryz.prog 42 #[.agg (roomC wd hg sv)] V fun e w' => e = .returned (.bool true) ∧ Below V.heap.size V w') := Lib.hid (fun V h => by have := ValidRoom_any wd hg sv ws V h; rw [hv] at this; exact this)
  have HAR := Lib.hid (fun V h => areDesks_any wd hg sv dv ds V h)
  have HCP := Lib.hid (fun V h => containsPn_any pv ps V h)
  have HRF := Lib.hid (fun V h => refusal_any (W := V) (a0 := e0) (a1 := e1) (a2 := e2) (a3 := e3) h (ps.all fitP) (ds.all (fitD wd hg)) (decide ((ps.length : Int) ≤ 8)))
  have znn : (!(!ps.all fitP)) = ps.all fitP := Bool.not_not _
  have zdl : decide ((ds.length : Int) ≤ 8) = true := decide_eq_true hl
  have HW := Lib.hid hws
  have HDK := Lib.hid hds
  have HPN := Lib.hid hps
  have HX0 := Lib.hid hE
  obtain ⟨da, dc, rfl, -, -, -⟩ := hds
  obtain ⟨pa, pc, rfl, -, -, -⟩ := hps
  clear hws hE hv
  generalize ds.all (fitD wd hg) = da2 at *
  generalize ps.all fitP = pa2 at *
  generalize ds.length = nd at *
  generalize ps.length = np at *
  go_enter Tryz.func27, Tryz.ntmps27
  go_upto_region 1 with (fail)
  refine abs_world (fun W => W.heap[w.heap.size]? = some (.cells (roomC wd hg sv) 36 (0, 0)) ∧ Below w.heap.size w W) ⟨heap_alloc_new _ _, (Below.refl _ _).alloc (Nat.le_refl _) _⟩ ?_
  rintro W ⟨h0, hbz⟩
  have H0 := Lib.hid h0
  have HV := Lib.hid (wins_below HW.out hbz)
  have HD := Lib.hid (dks_below HDK.out hbz)
  have HP := Lib.hid (pns_below HPN.out hbz)
  have HX := Lib.hid (errs_below HX0.out hbz)
  clear h0
  go_wp2_with (first | (refine wpList_load_part rfl 36 _ rfl w.heap.size 0 3 rfl 36 (roomC wd hg sv) (0, 0) _ H0.out Tryz.underlying36 rfl info_room (room_fits _ _ _) _ (room_all _ _ _) ?_) | (go_at_call 42; refine (HVR.out _ HV.out).mono ?_; rintro e W1 ⟨rfl, hb1⟩; replace H0 := Lib.hid (below_row hb1 H0.out); replace HV := Lib.hid (wins_below HV.out hb1); replace HD := Lib.hid (dks_below HD.out hb1); replace HP := Lib.hid (pns_below HP.out hb1); replace HX := Lib.hid (errs_below HX.out hb1); replace hbz := hbz.trans (hb1.mono hbz.size); clear hb1) | (go_at_call 43; refine (HCP.out _ HP.out).mono ?_; rintro e W2 ⟨rfl, hb2⟩; replace H0 := Lib.hid (below_row hb2 H0.out); replace HV := Lib.hid (wins_below HV.out hb2); replace HD := Lib.hid (dks_below HD.out hb2); replace HP := Lib.hid (pns_below HP.out hb2); replace HX := Lib.hid (errs_below HX.out hb2); replace hbz := hbz.trans (hb2.mono hbz.size); clear hb2) | (go_at_call 45; refine (HAR.out _ HD.out).mono ?_; rintro e W3 ⟨rfl, hb3⟩; replace H0 := Lib.hid (below_row hb3 H0.out); replace HV := Lib.hid (wins_below HV.out hb3); replace HD := Lib.hid (dks_below HD.out hb3); replace HP := Lib.hid (pns_below HP.out hb3); replace HX := Lib.hid (errs_below HX.out hb3); replace hbz := hbz.trans (hb3.mono hbz.size); clear hb3) | (go_at_call 44; refine (HRF.out _ HX.out).mono ?_; rintro e W4 ⟨rfl, rfl⟩))
  go_ret
  exact ⟨rfl, hbz⟩

set_option maxRecDepth 100000 in
set_option maxHeartbeats 4000000 in
theorem seatRef_tf (wd hg : Int) (sv dv pv : Value) (ws : List Wn) (ds : List Dk) (ps : List Pn) (e0 e1 e2 e3 : Addr) (w : World) (hws : WinsAt w sv ws) (hds : DksAt w dv ds) (hps : PnsAt w pv ps) (hE : ErrsAt w e0 e1 e2 e3) (hv : okRm wd hg ws = true) (hl : ¬ (ds.length : Int) ≤ 8) :
    Calls Tryz.prog 27 #[.agg (roomC wd hg sv), dv, pv] w fun e w' => e = .returned (errOf e0 e1 e2 e3 (refN (ps.all fitP) (ds.all (fitD wd hg)) (false))) ∧ Below w.heap.size w w' := by
  have HVR : Hid (∀ V, WinsAt V sv ws → Calls Tryz.prog 42 #[.agg (roomC wd hg sv)] V fun e w' => e = .returned (.bool true) ∧ Below V.heap.size V w') := Lib.hid (fun V h => by have := ValidRoom_any wd hg sv ws V h; rw [hv] at this; exact this)
  have HAR := Lib.hid (fun V h => areDesks_any wd hg sv dv ds V h)
  have HCP := Lib.hid (fun V h => containsPn_any pv ps V h)
  have HRF := Lib.hid (fun V h => refusal_any (W := V) (a0 := e0) (a1 := e1) (a2 := e2) (a3 := e3) h (ps.all fitP) (ds.all (fitD wd hg)) (false))
  have znn : (!(!ps.all fitP)) = ps.all fitP := Bool.not_not _
  have zdl : decide ((ds.length : Int) ≤ 8) = false := decide_eq_false hl
  have HW := Lib.hid hws
  have HDK := Lib.hid hds
  have HPN := Lib.hid hps
  have HX0 := Lib.hid hE
  obtain ⟨da, dc, rfl, -, -, -⟩ := hds
  obtain ⟨pa, pc, rfl, -, -, -⟩ := hps
  clear hws hE hv
  generalize ds.all (fitD wd hg) = da2 at *
  generalize ps.all fitP = pa2 at *
  generalize ds.length = nd at *
  generalize ps.length = np at *
  go_enter Tryz.func27, Tryz.ntmps27
  go_upto_region 1 with (fail)
  refine abs_world (fun W => W.heap[w.heap.size]? = some (.cells (roomC wd hg sv) 36 (0, 0)) ∧ Below w.heap.size w W) ⟨heap_alloc_new _ _, (Below.refl _ _).alloc (Nat.le_refl _) _⟩ ?_
  rintro W ⟨h0, hbz⟩
  have H0 := Lib.hid h0
  have HV := Lib.hid (wins_below HW.out hbz)
  have HD := Lib.hid (dks_below HDK.out hbz)
  have HP := Lib.hid (pns_below HPN.out hbz)
  have HX := Lib.hid (errs_below HX0.out hbz)
  clear h0
  go_wp2_with (first | (refine wpList_load_part rfl 36 _ rfl w.heap.size 0 3 rfl 36 (roomC wd hg sv) (0, 0) _ H0.out Tryz.underlying36 rfl info_room (room_fits _ _ _) _ (room_all _ _ _) ?_) | (go_at_call 42; refine (HVR.out _ HV.out).mono ?_; rintro e W1 ⟨rfl, hb1⟩; replace H0 := Lib.hid (below_row hb1 H0.out); replace HV := Lib.hid (wins_below HV.out hb1); replace HD := Lib.hid (dks_below HD.out hb1); replace HP := Lib.hid (pns_below HP.out hb1); replace HX := Lib.hid (errs_below HX.out hb1); replace hbz := hbz.trans (hb1.mono hbz.size); clear hb1) | (go_at_call 43; refine (HCP.out _ HP.out).mono ?_; rintro e W2 ⟨rfl, hb2⟩; replace H0 := Lib.hid (below_row hb2 H0.out); replace HV := Lib.hid (wins_below HV.out hb2); replace HD := Lib.hid (dks_below HD.out hb2); replace HP := Lib.hid (pns_below HP.out hb2); replace HX := Lib.hid (errs_below HX.out hb2); replace hbz := hbz.trans (hb2.mono hbz.size); clear hb2) | (go_at_call 45; refine (HAR.out _ HD.out).mono ?_; rintro e W3 ⟨rfl, hb3⟩; replace H0 := Lib.hid (below_row hb3 H0.out); replace HV := Lib.hid (wins_below HV.out hb3); replace HD := Lib.hid (dks_below HD.out hb3); replace HP := Lib.hid (pns_below HP.out hb3); replace HX := Lib.hid (errs_below HX.out hb3); replace hbz := hbz.trans (hb3.mono hbz.size); clear hb3) | (go_at_call 44; refine (HRF.out _ HX.out).mono ?_; rintro e W4 ⟨rfl, rfl⟩))
  go_ret
  exact ⟨rfl, hbz⟩

set_option maxRecDepth 100000 in
set_option maxHeartbeats 4000000 in
theorem seatRef_ft (wd hg : Int) (sv dv pv : Value) (ws : List Wn) (ds : List Dk) (ps : List Pn) (e0 e1 e2 e3 : Addr) (w : World) (hws : WinsAt w sv ws) (hds : DksAt w dv ds) (hps : PnsAt w pv ps) (hE : ErrsAt w e0 e1 e2 e3) (hv : okRm wd hg ws = false) (hl : (ds.length : Int) ≤ 8) :
    Calls Tryz.prog 27 #[.agg (roomC wd hg sv), dv, pv] w fun e w' => e = .returned (errOf e0 e1 e2 e3 (refN (false) (ds.all (fitD wd hg)) (decide ((ps.length : Int) ≤ 8)))) ∧ Below w.heap.size w w' := by
  have HVR : Hid (∀ V, WinsAt V sv ws → Calls Tryz.prog 42 #[.agg (roomC wd hg sv)] V fun e w' => e = .returned (.bool false) ∧ Below V.heap.size V w') := Lib.hid (fun V h => by have := ValidRoom_any wd hg sv ws V h; rw [hv] at this; exact this)
  have HAR := Lib.hid (fun V h => areDesks_any wd hg sv dv ds V h)
  have HCP := Lib.hid (fun V h => containsPn_any pv ps V h)
  have HRF := Lib.hid (fun V h => refusal_any (W := V) (a0 := e0) (a1 := e1) (a2 := e2) (a3 := e3) h (false) (ds.all (fitD wd hg)) (decide ((ps.length : Int) ≤ 8)))
  have znn : (!(!ps.all fitP)) = ps.all fitP := Bool.not_not _
  have zdl : decide ((ds.length : Int) ≤ 8) = true := decide_eq_true hl
  have HW := Lib.hid hws
  have HDK := Lib.hid hds
  have HPN := Lib.hid hps
  have HX0 := Lib.hid hE
  obtain ⟨da, dc, rfl, -, -, -⟩ := hds
  obtain ⟨pa, pc, rfl, -, -, -⟩ := hps
  clear hws hE hv
  generalize ds.all (fitD wd hg) = da2 at *
  generalize ps.all fitP = pa2 at *
  generalize ds.length = nd at *
  generalize ps.length = np at *
  go_enter Tryz.func27, Tryz.ntmps27
  go_upto_region 1 with (fail)
  refine abs_world (fun W => W.heap[w.heap.size]? = some (.cells (roomC wd hg sv) 36 (0, 0)) ∧ Below w.heap.size w W) ⟨heap_alloc_new _ _, (Below.refl _ _).alloc (Nat.le_refl _) _⟩ ?_
  rintro W ⟨h0, hbz⟩
  have H0 := Lib.hid h0
  have HV := Lib.hid (wins_below HW.out hbz)
  have HD := Lib.hid (dks_below HDK.out hbz)
  have HP := Lib.hid (pns_below HPN.out hbz)
  have HX := Lib.hid (errs_below HX0.out hbz)
  clear h0
  go_wp2_with (first | (refine wpList_load_part rfl 36 _ rfl w.heap.size 0 3 rfl 36 (roomC wd hg sv) (0, 0) _ H0.out Tryz.underlying36 rfl info_room (room_fits _ _ _) _ (room_all _ _ _) ?_) | (go_at_call 42; refine (HVR.out _ HV.out).mono ?_; rintro e W1 ⟨rfl, hb1⟩; replace H0 := Lib.hid (below_row hb1 H0.out); replace HV := Lib.hid (wins_below HV.out hb1); replace HD := Lib.hid (dks_below HD.out hb1); replace HP := Lib.hid (pns_below HP.out hb1); replace HX := Lib.hid (errs_below HX.out hb1); replace hbz := hbz.trans (hb1.mono hbz.size); clear hb1) | (go_at_call 43; refine (HCP.out _ HP.out).mono ?_; rintro e W2 ⟨rfl, hb2⟩; replace H0 := Lib.hid (below_row hb2 H0.out); replace HV := Lib.hid (wins_below HV.out hb2); replace HD := Lib.hid (dks_below HD.out hb2); replace HP := Lib.hid (pns_below HP.out hb2); replace HX := Lib.hid (errs_below HX.out hb2); replace hbz := hbz.trans (hb2.mono hbz.size); clear hb2) | (go_at_call 45; refine (HAR.out _ HD.out).mono ?_; rintro e W3 ⟨rfl, hb3⟩; replace H0 := Lib.hid (below_row hb3 H0.out); replace HV := Lib.hid (wins_below HV.out hb3); replace HD := Lib.hid (dks_below HD.out hb3); replace HP := Lib.hid (pns_below HP.out hb3); replace HX := Lib.hid (errs_below HX.out hb3); replace hbz := hbz.trans (hb3.mono hbz.size); clear hb3) | (go_at_call 44; refine (HRF.out _ HX.out).mono ?_; rintro e W4 ⟨rfl, rfl⟩))
  go_ret
  exact ⟨rfl, hbz⟩

set_option maxRecDepth 100000 in
set_option maxHeartbeats 4000000 in
theorem seatRef_ff (wd hg : Int) (sv dv pv : Value) (ws : List Wn) (ds : List Dk) (ps : List Pn) (e0 e1 e2 e3 : Addr) (w : World) (hws : WinsAt w sv ws) (hds : DksAt w dv ds) (hps : PnsAt w pv ps) (hE : ErrsAt w e0 e1 e2 e3) (hv : okRm wd hg ws = false) (hl : ¬ (ds.length : Int) ≤ 8) :
    Calls Tryz.prog 27 #[.agg (roomC wd hg sv), dv, pv] w fun e w' => e = .returned (errOf e0 e1 e2 e3 (refN (false) (ds.all (fitD wd hg)) (false))) ∧ Below w.heap.size w w' := by
  have HVR : Hid (∀ V, WinsAt V sv ws → Calls Tryz.prog 42 #[.agg (roomC wd hg sv)] V fun e w' => e = .returned (.bool false) ∧ Below V.heap.size V w') := Lib.hid (fun V h => by have := ValidRoom_any wd hg sv ws V h; rw [hv] at this; exact this)
  have HAR := Lib.hid (fun V h => areDesks_any wd hg sv dv ds V h)
  have HCP := Lib.hid (fun V h => containsPn_any pv ps V h)
  have HRF := Lib.hid (fun V h => refusal_any (W := V) (a0 := e0) (a1 := e1) (a2 := e2) (a3 := e3) h (false) (ds.all (fitD wd hg)) (false))
  have znn : (!(!ps.all fitP)) = ps.all fitP := Bool.not_not _
  have zdl : decide ((ds.length : Int) ≤ 8) = false := decide_eq_false hl
  have HW := Lib.hid hws
  have HDK := Lib.hid hds
  have HPN := Lib.hid hps
  have HX0 := Lib.hid hE
  obtain ⟨da, dc, rfl, -, -, -⟩ := hds
  obtain ⟨pa, pc, rfl, -, -, -⟩ := hps
  clear hws hE hv
  generalize ds.all (fitD wd hg) = da2 at *
  generalize ps.all fitP = pa2 at *
  generalize ds.length = nd at *
  generalize ps.length = np at *
  go_enter Tryz.func27, Tryz.ntmps27
  go_upto_region 1 with (fail)
  refine abs_world (fun W => W.heap[w.heap.size]? = some (.cells (roomC wd hg sv) 36 (0, 0)) ∧ Below w.heap.size w W) ⟨heap_alloc_new _ _, (Below.refl _ _).alloc (Nat.le_refl _) _⟩ ?_
  rintro W ⟨h0, hbz⟩
  have H0 := Lib.hid h0
  have HV := Lib.hid (wins_below HW.out hbz)
  have HD := Lib.hid (dks_below HDK.out hbz)
  have HP := Lib.hid (pns_below HPN.out hbz)
  have HX := Lib.hid (errs_below HX0.out hbz)
  clear h0
  go_wp2_with (first | (refine wpList_load_part rfl 36 _ rfl w.heap.size 0 3 rfl 36 (roomC wd hg sv) (0, 0) _ H0.out Tryz.underlying36 rfl info_room (room_fits _ _ _) _ (room_all _ _ _) ?_) | (go_at_call 42; refine (HVR.out _ HV.out).mono ?_; rintro e W1 ⟨rfl, hb1⟩; replace H0 := Lib.hid (below_row hb1 H0.out); replace HV := Lib.hid (wins_below HV.out hb1); replace HD := Lib.hid (dks_below HD.out hb1); replace HP := Lib.hid (pns_below HP.out hb1); replace HX := Lib.hid (errs_below HX.out hb1); replace hbz := hbz.trans (hb1.mono hbz.size); clear hb1) | (go_at_call 43; refine (HCP.out _ HP.out).mono ?_; rintro e W2 ⟨rfl, hb2⟩; replace H0 := Lib.hid (below_row hb2 H0.out); replace HV := Lib.hid (wins_below HV.out hb2); replace HD := Lib.hid (dks_below HD.out hb2); replace HP := Lib.hid (pns_below HP.out hb2); replace HX := Lib.hid (errs_below HX.out hb2); replace hbz := hbz.trans (hb2.mono hbz.size); clear hb2) | (go_at_call 45; refine (HAR.out _ HD.out).mono ?_; rintro e W3 ⟨rfl, hb3⟩; replace H0 := Lib.hid (below_row hb3 H0.out); replace HV := Lib.hid (wins_below HV.out hb3); replace HD := Lib.hid (dks_below HD.out hb3); replace HP := Lib.hid (pns_below HP.out hb3); replace HX := Lib.hid (errs_below HX.out hb3); replace hbz := hbz.trans (hb3.mono hbz.size); clear hb3) | (go_at_call 44; refine (HRF.out _ HX.out).mono ?_; rintro e W4 ⟨rfl, rfl⟩))
  go_ret
  exact ⟨rfl, hbz⟩

theorem seatRef_any (wd hg : Int) (sv dv pv : Value) (ws : List Wn) (ds : List Dk) (ps : List Pn) (e0 e1 e2 e3 : Addr) (w : World) (hws : WinsAt w sv ws) (hds : DksAt w dv ds) (hps : PnsAt w pv ps) (hE : ErrsAt w e0 e1 e2 e3) :
    Calls Tryz.prog 27 #[.agg (roomC wd hg sv), dv, pv] w fun e w' => e = .returned (errOf e0 e1 e2 e3 (refN (okRm wd hg ws && ps.all fitP) (ds.all (fitD wd hg)) (limB ds.length ps.length))) ∧ Below w.heap.size w w' := by
  unfold limB
  cases hv : okRm wd hg ws with
  | true =>
    by_cases hl : (ds.length : Int) ≤ 8
    · rw [decide_eq_true hl]; exact seatRef_tt wd hg sv dv pv ws ds ps e0 e1 e2 e3 w hws hds hps hE hv hl
    · rw [decide_eq_false hl]; exact seatRef_tf wd hg sv dv pv ws ds ps e0 e1 e2 e3 w hws hds hps hE hv hl
  | false =>
    by_cases hl : (ds.length : Int) ≤ 8
    · rw [decide_eq_true hl]; exact seatRef_ft wd hg sv dv pv ws ds ps e0 e1 e2 e3 w hws hds hps hE hv hl
    · rw [decide_eq_false hl]; exact seatRef_ff wd hg sv dv pv ws ds ps e0 e1 e2 e3 w hws hds hps hE hv hl

end Go.Proofs.YtckkemknajggpaaGreatDoor

namespace Go.Proofs.YtckkemknajggpaaGreatDoor
open Go.RowKit

/-- A slice of the call's own, from block number base on, that holds the elements xs. -/
def Own {α : Type} (w : World) (base : Nat) (E : TypeId) (mk : α → Value) (v : Value) (xs : List α) : Prop :=
  ∃ a cap, v = .slice a xs.length cap ∧ cap ≤ maxLen ∧ xs.length ≤ cap ∧
    ((a = none ∧ xs = []) ∨ ∃ g cur, a = some ⟨g, 0, none⟩ ∧ base ≤ g ∧ w.heap[g]? = some (.cells cur E (0, 0)) ∧ ∀ k, k < xs.length → cur[k]? = (xs[k]?).map mk)

theorem own_below {α : Type} {w w' : World} {base B : Nat} {E : TypeId} {mk : α → Value} {v : Value} {xs : List α} (h : Own w base E mk v xs) (hb : Below w.heap.size w w') (hB : B ≤ base) : Own w' B E mk v xs := by
  obtain ⟨a, cap, h1, h2, h3, h4⟩ := h
  refine ⟨a, cap, h1, h2, h3, h4.imp id ?_⟩
  rintro ⟨g, cur, e, hg, hc, hk⟩
  exact ⟨g, cur, e, by omega, below_row hb hc, hk⟩

/-- The block of a list that is not empty. -/
theorem own_get {α : Type} {w : World} {base : Nat} {E : TypeId} {mk : α → Value} {a : Option Addr} {n cap : Nat} {xs : List α} (h : Own w base E mk (.slice a n cap) xs) (k : Nat) (hk : k < n) :
    ∃ g cur, a = some ⟨g, 0, none⟩ ∧ base ≤ g ∧ w.heap[g]? = some (.cells cur E (0, 0)) ∧ n ≤ cap ∧ cap ≤ maxLen ∧ ∃ x, xs[k]? = some x ∧ cur[k]? = some (mk x) := by
  obtain ⟨a', cap', h1, h2, h3, h4⟩ := h
  injection h1 with e1 e2 e3
  subst e1 e3
  rcases h4 with ⟨_, rfl⟩ | ⟨g, cur, e, hg, hc, hx⟩
  · simp at e2; omega
  · have h5 := hx k (by omega)
    rw [List.getElem?_eq_getElem (by omega)] at h5
    exact ⟨g, cur, e, hg, hc, by omega, h2, _, List.getElem?_eq_getElem (by omega), h5⟩

theorem own_len {α : Type} {w : World} {base : Nat} {E : TypeId} {mk : α → Value} {v : Value} {xs : List α} (h : Own w base E mk v xs) : ∃ a cap, v = .slice a xs.length cap ∧ xs.length ≤ maxLen := by
  obtain ⟨a, cap, h1, h2, h3, h4⟩ := h
  exact ⟨a, cap, h1, by omega⟩

theorem cell_k {w : World} {g : Nat} {cur : Array Value} {E : TypeId} {fr : Nat × Nat} {k : Nat} {v : Value} (hc : w.heap[g]? = some (.cells cur E fr)) (hk : cur[k]? = some v) : w.cell? ⟨g, k, none⟩ = some v := by
  rw [cell_of_row w g k cur E fr hc, hk]

set_option maxRecDepth 100000 in
set_option maxHeartbeats 1000000 in
theorem eqI_same (xs : List Int) (v1 v2 : Value) (b1 b2 : Nat) (w : World) (h1 : Own w b1 2 (Value.int .i64) v1 xs) (h2 : Own w b2 2 (Value.int .i64) v2 xs) :
    Calls Tryz.prog 12 #[v1, v2] w fun e w' => e = .returned (.bool true) ∧ Below w.heap.size w w' := by
  obtain ⟨a1, c1, rfl, hm⟩ := own_len h1
  obtain ⟨a2, c2, rfl, _⟩ := own_len h2
  have HO1 : Hid (∀ wr, Below w.heap.size w wr → Own wr b1 2 (Value.int .i64) (.slice a1 xs.length c1) xs) := fun wr hb => own_below h1 hb (Nat.le_refl _)
  have HO2 : Hid (∀ wr, Below w.heap.size w wr → Own wr b2 2 (Value.int .i64) (.slice a2 xs.length c2) xs) := fun wr hb => own_below h2 hb (Nat.le_refl _)
  clear h1 h2
  generalize xs.length = n at *
  unfold maxLen at hm
  go_enter Tryz.func12, Tryz.ntmps12
  go_wp2
  go_loopw [5] (fun i wr => ∃ k : Nat, k ≤ n ∧ i = .int .i64 k ∧ Below w.heap.size w wr) (fun i _ => n - (intOf i).toNat)
  case atStart => exact ⟨0, Nat.zero_le _, rfl, Below.refl _ _⟩
  case round =>
    obtain ⟨k, hk, rfl, hb⟩ := hrel
    by_cases hlt : k < n
    · obtain ⟨g1, cur1, rfl, _, hg1, hc1, hm1, x, hx, hk1⟩ := own_get (HO1.out wr hb) k hlt
      obtain ⟨g2, cur2, rfl, _, hg2, hc2, hm2, y, hy, hk2⟩ := own_get (HO2.out wr hb) k hlt
      obtain rfl : x = y := by rw [hx] at hy; exact Option.some.inj hy
      have q1 := cell_k hg1 hk1
      have q2 := cell_k hg2 hk2
      unfold maxLen at hm1 hm2
      clear hg1 hg2 hk1 hk2 hx hy
      have z0 : (0 : Int) ≤ (k : Int) := by omega
      have z1 : (k : Int) < (n : Int) := by omega
      have z2 : decide ((k : Int) < (n : Int)) = true := decide_eq_true z1
      go_wp2
      refine wp_region_held_drew (S := (fun W => W.cell? ⟨g1, k, none⟩ = some (.int .i64 x) ∧ W.cell? ⟨g2, k, none⟩ = some (.int .i64 x) ∧ Below w.heap.size w W)) (by kernel_rfl) ⟨by simpa using q1, by simpa using q2, hb.drew⟩ (fun hHeld => ?_)
      refine take_op (i := 0) (d := 17) (v := ?_) rfl rfl (by kernel_rfl) (by kernel_rfl) (by kernel_rfl) (fun _ _ _ h => h) (Or.inl ⟨by rfl, ?hy0u1⟩) hHeld ?rest0u1
      case hy0u1 =>
        intro w' hS'
        obtain ⟨s1, s2, _⟩ := hS'
        go_simp
        try with_reducible rfl
      simp only [List.setIfInBounds_toArray, List.set_cons_zero, List.set_cons_succ]
      refine take_op (i := 1) (d := 18) (v := ?_) rfl rfl (by kernel_rfl) (by kernel_rfl) (by kernel_rfl) (fun _ _ _ h => h) (Or.inl ⟨by rfl, ?hy1u2⟩) hHeld ?rest1u2
      case hy1u2 =>
        intro w' hS'
        obtain ⟨s1, s2, _⟩ := hS'
        go_simp
        try with_reducible rfl
      simp only [List.setIfInBounds_toArray, List.set_cons_zero, List.set_cons_succ]
      refine take_op (i := 2) (d := 19) (v := ?_) rfl rfl (by kernel_rfl) (by kernel_rfl) (by kernel_rfl) (fun _ _ _ h => h) (Or.inl ⟨by rfl, ?hy2u3⟩) hHeld ?rest2u3
      case hy2u3 =>
        intro w' hS'
        obtain ⟨s1, s2, _⟩ := hS'
        go_simp
        try with_reducible rfl
      simp only [List.setIfInBounds_toArray, List.set_cons_zero, List.set_cons_succ]
      refine take_op (i := 3) (d := 20) (v := ?_) rfl rfl (by kernel_rfl) (by kernel_rfl) (by kernel_rfl) (fun _ _ _ h => h) (Or.inl ⟨by rfl, ?hy3u4⟩) hHeld ?rest3u4
      case hy3u4 =>
        intro w' hS'
        obtain ⟨s1, s2, _⟩ := hS'
        go_simp
        try with_reducible rfl
      simp only [List.setIfInBounds_toArray, List.set_cons_zero, List.set_cons_succ]
      refine take_op (i := 4) (d := 21) (v := ?_) rfl rfl (by kernel_rfl) (by kernel_rfl) (by kernel_rfl) (fun _ _ _ h => h) (Or.inl ⟨by rfl, ?hy4u5⟩) hHeld ?rest4u5
      case hy4u5 =>
        intro w' hS'
        obtain ⟨s1, s2, _⟩ := hS'
        go_simp
        try with_reducible rfl
      simp only [List.setIfInBounds_toArray, List.set_cons_zero, List.set_cons_succ]
      refine take_op (i := 5) (d := 22) (v := ?_) rfl rfl (by kernel_rfl) (by kernel_rfl) (by kernel_rfl) (fun _ _ _ h => h) (Or.inl ⟨by rfl, ?hy5u6⟩) hHeld ?rest5u6
      case hy5u6 =>
        intro w' hS'
        obtain ⟨s1, s2, _⟩ := hS'
        go_simp
        try with_reducible rfl
      simp only [List.setIfInBounds_toArray, List.set_cons_zero, List.set_cons_succ]
      refine take_op (i := 6) (d := 23) (v := ?_) rfl rfl (by kernel_rfl) (by kernel_rfl) (by kernel_rfl) (fun _ _ _ h => h) (Or.inl ⟨by rfl, ?hy6u7⟩) hHeld ?rest6u7
      case hy6u7 =>
        intro w' hS'
        obtain ⟨s1, s2, _⟩ := hS'
        go_simp
        try with_reducible rfl
      simp only [List.setIfInBounds_toArray, List.set_cons_zero, List.set_cons_succ]
      refine take_op (i := 7) (d := 24) (v := ?_) rfl rfl (by kernel_rfl) (by kernel_rfl) (by kernel_rfl) (fun _ _ _ h => h) (Or.inl ⟨by rfl, ?hy7u8⟩) hHeld ?rest7u8
      case hy7u8 =>
        intro w' hS'
        obtain ⟨s1, s2, _⟩ := hS'
        go_simp
        try with_reducible rfl
      simp only [List.setIfInBounds_toArray, List.set_cons_zero, List.set_cons_succ]
      refine take_op (i := 8) (d := 25) (v := ?_) rfl rfl (by kernel_rfl) (by kernel_rfl) (by kernel_rfl) (fun _ _ _ h => h) (Or.inl ⟨by rfl, ?hy8u9⟩) hHeld ?rest8u9
      case hy8u9 =>
        intro w' hS'
        obtain ⟨s1, s2, _⟩ := hS'
        go_simp
        try with_reducible rfl
      simp only [List.setIfInBounds_toArray, List.set_cons_zero, List.set_cons_succ]
      refine wpAnyH_done (by kernel_rfl) ?_ _
      have hbx := hHeld.2.2
      clear hHeld q1 q2 hb
      go_wp2
      go_roundw
      case rel => exact ⟨k + 1, by omega, by go_num, hbx⟩
      case measure => simp [intOf]; omega
    · obtain rfl : k = n := by omega
      go_wp2
      go_ret
      exact ⟨rfl, hb⟩

/-- The numbers that the helpers write. -/
def marks (k : Int) (n : Nat) : List Int := (List.range n).map (fun i : Nat => k + (i : Int))

theorem marks_len (k : Int) (n : Nat) : (marks k n).length = n := by simp [marks]

theorem marks_get (k : Int) (n i : Nat) (h : i < n) : (marks k n)[i]? = some (k + (i : Int)) := by simp [marks, h]

set_option maxRecDepth 100000 in
set_option maxHeartbeats 1000000 in
theorem heldI_same (m : Int) (n : Nat) (v : Value) (b : Nat) (w : World) (hm0 : 0 ≤ m) (hm1 : m ≤ 1000) (hn : n ≤ 2000000) (h1 : Own w b 2 (Value.int .i64) v (marks m n)) :
    Calls Tryz.prog 20 #[v, .int .i64 m] w fun e w' => e = .returned (.int .i64 (m + n)) ∧ Below w.heap.size w w' := by
  obtain ⟨a1, c1, rfl, hm⟩ := own_len h1
  have HO1 : Hid (∀ wr, Below w.heap.size w wr → Own wr b 2 (Value.int .i64) (.slice a1 (marks m n).length c1) (marks m n)) := fun wr hb => own_below h1 hb (Nat.le_refl _)
  rw [marks_len] at HO1 hm ⊢
  clear h1
  unfold maxLen at hm
  go_enter Tryz.func20, Tryz.ntmps20
  go_wp2
  go_loopw [1, 5] (fun q i wr => ∃ k : Nat, k ≤ n ∧ i = .int .i64 k ∧ q = .int .i64 (m + k) ∧ Below w.heap.size w wr) (fun _ i _ => n - (intOf i).toNat)
  case atStart => exact ⟨0, Nat.zero_le _, rfl, by simp, Below.refl _ _⟩
  case round =>
    obtain ⟨k, hk, rfl, rfl, hb⟩ := hrel
    by_cases hlt : k < n
    · obtain ⟨g1, cur1, rfl, _, hg1, hc1, hm1, x, hx, hk1⟩ := own_get (HO1.out wr hb) k hlt
      obtain rfl : m + (k : Int) = x := by rw [marks_get m n k hlt] at hx; exact Option.some.inj hx
      have q1 := cell_k hg1 hk1
      unfold maxLen at hm1
      clear hg1 hk1 hx
      have z0 : (0 : Int) ≤ (k : Int) := by omega
      have z1 : (k : Int) < (n : Int) := by omega
      go_wp2
      go_roundw
      case rel => exact ⟨k + 1, by omega, by go_num, by go_num, hb⟩
      case measure => simp [intOf]; omega
    · obtain rfl : k = n := by omega
      go_wp2
      go_ret
      exact ⟨rfl, hb⟩

/-- What writing into a list does: it holds other elements, and all else is as it was. -/
def Marked (w : World) (E : TypeId) (b : Nat) (v : Value) (m : Int) (n : Nat) (e : Ending) (w' : World) : Prop :=
  e = .returned (.int .i64 (m + n)) ∧ Own w' b E (Value.int .i64) v (marks m n) ∧ Below b w w' ∧ ∀ k o, w.heap[k]? = some o → (∀ g n c, v = .slice (some ⟨g, 0, none⟩) n c → k ≠ g) → w'.heap[k]? = some o

set_option maxRecDepth 100000 in
set_option maxHeartbeats 1000000 in
theorem markI_any (m : Int) (xs : List Int) (v : Value) (b : Nat) (w : World) (hm0 : 0 ≤ m) (hm1 : m ≤ 1000) (hn : xs.length ≤ 2000000) (h1 : Own w b 2 (Value.int .i64) v xs) :
    Calls Tryz.prog 19 #[v, .int .i64 m] w fun e w' => Marked w 2 b v m xs.length e w' := by
  by_cases hz : xs.length = 0
  · obtain ⟨a1, c1, rfl, hm⟩ := own_len h1
    have HR : Hid (∀ wr, Below w.heap.size w wr → Own wr b 2 (Value.int .i64) (.slice a1 xs.length c1) (marks m xs.length)) := by
      intro wr hb
      obtain ⟨a, cap, e1, e2, e3, e4⟩ := own_below h1 hb (Nat.le_refl _)
      refine ⟨a, cap, by rw [marks_len]; exact e1, e2, by rw [marks_len]; omega, ?_⟩
      rcases e4 with ⟨ea, _⟩ | ⟨g, cur, ea, eb, ec, _⟩
      · exact .inl ⟨ea, List.eq_nil_of_length_eq_zero (by rw [marks_len]; exact hz)⟩
      · exact .inr ⟨g, cur, ea, eb, ec, fun k hk => by rw [marks_len] at hk; omega⟩
    clear h1
    generalize xs.length = n at *
    subst hz
    go_enter Tryz.func19, Tryz.ntmps19
    go_wp2
    go_loopw [1, 5] (fun q i wr => q = .int .i64 m ∧ i = .int .i64 0 ∧ wr = w) (fun _ _ _ => 0)
    case atStart => exact ⟨rfl, rfl, rfl⟩
    case round =>
      obtain ⟨rfl, rfl, rfl⟩ := hrel
      go_wp2
      go_ret
      exact ⟨by simp, HR.out _ (Below.refl _ _), Below.refl _ _, fun k o hk _ => hk⟩
  · obtain ⟨a1, c1, rfl, hm⟩ := own_len h1
    obtain ⟨g, cur0, rfl, hbg, hg0, hc1, hmc, _, _, _⟩ := own_get h1 0 (by omega)
    have hsz : xs.length ≤ cur0.size := by
      obtain ⟨g', cur', e', _, hg0', _, _, x, _, hl⟩ := own_get h1 (xs.length - 1) (by omega)
      injection e' with e'
      injection e' with e'
      subst e'
      rw [hg0] at hg0'
      injection hg0' with e''
      injection e'' with e''
      subst e''
      have := (Array.getElem?_eq_some_iff.1 hl).1
      omega
    have HG := Lib.hid hg0
    clear h1 hg0
    generalize hln : xs.length = n at *
    unfold maxLen at hmc
    go_enter Tryz.func19, Tryz.ntmps19
    go_wp2
    go_loopw [1, 5] (fun q i wr => ∃ k : Nat, k ≤ n ∧ i = .int .i64 k ∧ q = .int .i64 (m + k) ∧ Below b w wr ∧ (∀ j o, w.heap[j]? = some o → j ≠ g → wr.heap[j]? = some o) ∧ ∃ cur : Array Value, wr.heap[g]? = some (.cells cur 2 (0, 0)) ∧ n ≤ cur.size ∧ ∀ j, j < k → cur[j]? = some (.int .i64 (m + j))) (fun _ i _ => n - (intOf i).toNat)
    case atStart => exact ⟨0, Nat.zero_le _, rfl, by simp, Below.refl _ _, fun j o h _ => h, cur0, HG.out, hsz, fun j h => by omega⟩
    case round =>
      clear HG
      obtain ⟨k, hk, rfl, rfl, hb, hot, cur, hg, hs, hp⟩ := hrel
      have Hot := Lib.hid hot
      have Hp := Lib.hid hp
      have HG := Lib.hid hg
      by_cases hlt : k < n
      · have q1 : wr.cell? ⟨g, k, none⟩ = some (cur[k]'(by omega)) := cell_k hg (Array.getElem?_eq_getElem (by omega))
        have q2 := frozen_of_row wr g k _ _ hg
        have z0 : (0 : Int) ≤ (k : Int) := by omega
        have z1 : (k : Int) < (n : Int) := by omega
        clear hot hp hg
        go_wp2
        go_roundw
        case rel =>
          refine ⟨k + 1, by omega, by go_num, by go_num, hb.setCell (p := ⟨g, k, none⟩) hbg _, ?_, cur.setIfInBounds k (.int .i64 (m + k)), ?_, by simpa using hs, ?_⟩
          · intro j o h hne
            rw [heap_setCell_other _ _ _ _ (by simpa using hne)]
            exact Hot.out j o h hne
          · rw [heap_setCell_same _ _ _ _ _ _ HG.out]
          · intro j hj
            rw [Array.getElem?_setIfInBounds]
            by_cases e : k = j
            · subst e; rw [if_pos rfl, if_pos (by omega)]
            · rw [if_neg e]; exact Hp.out j (by omega)
        case measure => simp [intOf]; omega
      · obtain rfl : k = n := by omega
        have HR : Hid (Own wr b 2 (Value.int .i64) (.slice (some ⟨g, 0, none⟩) k c1) (marks m k)) := by
          refine ⟨_, c1, by rw [marks_len], by unfold maxLen; omega, by rw [marks_len]; exact hc1, .inr ⟨g, cur, rfl, hbg, hg, fun j hj => ?_⟩⟩
          rw [marks_len] at hj
          rw [hp j hj, marks_get m k j hj]; rfl
        clear hot hp hg
        go_wp2
        go_ret
        exact ⟨rfl, HR.out, hb, fun j o h hne => Hot.out j o h (hne g _ _ rfl)⟩

end Go.Proofs.YtckkemknajggpaaGreatDoor

namespace Go.Proofs.YtckkemknajggpaaGreatDoor
open Go Go.RowKit

theorem heap_push (w : World) (o : Obj) (i : Nat) : (w.alloc o).heap[i]? = if i = w.heap.size then some o else w.heap[i]? := by
  show (w.heap.push o)[i]? = _
  exact Array.getElem?_push
theorem three_new (w : World) (a b c : Obj) : (((w.alloc a).alloc b).alloc c).heap[w.heap.size]? = some a ∧ (((w.alloc a).alloc b).alloc c).heap[w.heap.size + 1]? = some b ∧ (((w.alloc a).alloc b).alloc c).heap[w.heap.size + 1 + 1]? = some c ∧ Below w.heap.size w (((w.alloc a).alloc b).alloc c) := by
  refine ⟨?_, ?_, ?_, (((Below.refl _ _).alloc (Nat.le_refl _) _).alloc (by simp) _).alloc (by simp; omega) _⟩
  all_goals simp only [heap_push, World.size_alloc]
  · rw [if_neg (by omega), if_neg (by omega), if_true]
  · rw [if_neg (by omega), if_true]
  · rw [if_true]
theorem four_new (w : World) (a b c d : Obj) : ((((w.alloc a).alloc b).alloc c).alloc d).heap[w.heap.size]? = some a ∧ ((((w.alloc a).alloc b).alloc c).alloc d).heap[w.heap.size + 1]? = some b ∧ ((((w.alloc a).alloc b).alloc c).alloc d).heap[w.heap.size + 1 + 1]? = some c ∧ ((((w.alloc a).alloc b).alloc c).alloc d).heap[w.heap.size + 1 + 1 + 1]? = some d ∧ Below w.heap.size w ((((w.alloc a).alloc b).alloc c).alloc d) := by
  refine ⟨?_, ?_, ?_, ?_, ((((Below.refl _ _).alloc (Nat.le_refl _) _).alloc (by simp) _).alloc (by simp; omega) _).alloc (by simp; omega) _⟩
  all_goals simp only [heap_push, World.size_alloc]
  · rw [if_neg (by omega), if_neg (by omega), if_neg (by omega), if_true]
  · rw [if_neg (by omega), if_neg (by omega), if_true]
  · rw [if_neg (by omega), if_true]
  · rw [if_true]

end Go.Proofs.YtckkemknajggpaaGreatDoor
