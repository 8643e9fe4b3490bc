/-
  BaA, BaI, Errs, Code, ShC, Gus.
-/
import Derived.Test.YtdccmdcgbembpaaDoorRoomE
import Derived.Test.YtdccmdcgbembpaaDoorAwA
import Derived.Test.YtdccmdcgbembpaaDoorSameN
import Derived.Test.YtdccmdcgbembpaaDoorLaw
import Derived.Test.YtdccmdcgbembpaaDoorAwOk
import Derived.Test.YtdccmdcgbembpaaDoorRows
import Derived.Stop.LaidTwo
import Derived.LaidEql
import Derived.LaidMore
import Derived.LaidHandle
import Derived.WalkKit
import Derived.ProofKit
import Derived.OpenShut
import Derived.RowKitTokens
import Derived.Test.YtdccmdcgbembpaaDoorRow
import Derived.Test.YtdccmdcgbembpaaDoorChecked
import Derived.Stop.Asserts
import Derived.Elder7
import Derived.Lib.Hide
import Derived.Test.YtdccmdcgbembpaaDoorShF
import Derived.Test.YtdccmdcgbembpaaDoorFallOn
import Derived.Test.YtdccmdcgbembpaaDoorSumD

namespace Go.Proofs.YtdccmdcgbembpaaDoor
open Go.ChangeShapes Go.WideShapes Go.ChangeAt Go.RowKit Go.Deep Go.Joins

attribute [local go_sem] run_store_f

/-- An awning: how far out, its drop, its gap, how tall. -/
abbrev Awn := Nat × Nat × Nat × Nat

def awnC (x : Awn) : Array Value := awC x.1 x.2.1 x.2.2.1 x.2.2.2

def AwnWf (x : Awn) : Prop := AwWf x.1 x.2.1 x.2.2.1 x.2.2.2

def AwsAt (W : World) (v : Value) (ws : List Awn) : Prop :=
  ∃ a cap, v = .slice a ws.length cap ∧ ws.length ≤ cap ∧ cap ≤ maxLen ∧ ∀ i x, ws[i]? = some x → ∃ g o, a = some ⟨g, o, none⟩ ∧ ∀ j v, (awnC x)[j]? = some v → W.cell? ⟨g, o + i * 4 + j, none⟩ = some v

theorem aws_below {W W' : World} {v : Value} {ws : List Awn} (h : AwsAt W v ws) (hb : Below W.heap.size W W') : AwsAt W' v ws := by
  obtain ⟨a, cap, h1, h2, h3, h4⟩ := h
  refine ⟨a, cap, h1, h2, h3, fun i x hx => ?_⟩
  obtain ⟨g, o, e, c0⟩ := h4 i x hx
  exact ⟨g, o, e, fun j v hv => cell_below hb (c0 j v hv)⟩

theorem awn_at {W : World} {a : Option Addr} {n cap : Nat} {ws : List Awn} (h : AwsAt W (.slice a n cap) ws) {k : Nat} {x : Awn} (hx : ws[k]? = some x) :
    ∃ g o, a = some ⟨g, o, none⟩ ∧ ∀ j v, (awnC x)[j]? = some v → W.cell? ⟨g, o + k * 4 + j, none⟩ = some v := by
  obtain ⟨a', cap', e, _, _, h4⟩ := h
  injection e with e1 e2 e3
  subst e1
  exact h4 k x hx

theorem trod_struct4A {P : Program} {H : Type} {enc : TypeId × Value → H} {w : World} {base : Nat} {spare : Nat → Bool} {held : Bool} {t : TypeId} {f0 f1 f2 f3 : Field} {fuel : Nat} {cs : List Value} {x : DataW H × List MemPlace} (ht : P.underlying t = some (.struct #[f0, f1, f2, f3])) (h : DataW.trod enc P w base spare held fuel t cs = some x) :
    ∃ y0 y1 y2 y3 n, DataW.trod enc P w base spare held n f0.type ((cs.drop f0.offset).take (P.cellsOf f0.type)) = some y0 ∧
      DataW.trod enc P w base spare held n f1.type ((cs.drop f1.offset).take (P.cellsOf f1.type)) = some y1 ∧ DataW.trod enc P w base spare held n f2.type ((cs.drop f2.offset).take (P.cellsOf f2.type)) = some y2 ∧
      DataW.trod enc P w base spare held n f3.type ((cs.drop f3.offset).take (P.cellsOf f3.type)) = some y3 := by
  obtain ⟨xs, n, _, rfl, hl, hlen, hf⟩ := DataW.trod_struct ht h
  match xs, hlen with
  | [y0, y1, y2, y3], _ => exact ⟨y0, y1, y2, y3, n, by simpa using hf 0 f0 rfl, by simpa using hf 1 f1 rfl, by simpa using hf 2 f2 rfl, by simpa using hf 3 f3 rfl⟩

theorem cells_awL : Tryd.prog.cellsOf 143 = 4 := by kernel_rfl

set_option maxRecDepth 100000 in
theorem open_awnings {H : Type} {enc : TypeId × Value → H} {W : World} {b0 base : Nat} {spare : Nat → Bool} {held : Bool} {r : Reach} {v : Value} {d : DataW H} {p : List MemPlace}
    (hv : Value.okWide Tryd.prog W r b0 73 v) (h : DataW.Trod enc Tryd.prog W base spare held 73 v d p) : ∃ ws, AwsAt W v ws ∧ ∀ x ∈ ws, AwnWf x := by
  obtain ⟨a0, len0, cap0, rfl⟩ := okWide_slice Tryd.underlying73 hv
  obtain ⟨fuel, hfu⟩ := h
  obtain ⟨f0, f1, f2, f3, hu, e0, e1, e2, e3, hone⟩ := under_awL
  rcases open_slice Tryd.underlying73 hfu with ⟨hcs, _⟩ | ⟨a, len, cap, m, n, D, Pl, hcs, _, hl, hm, hmm, _, hi⟩
  · simp [Value.cells] at hcs
    obtain ⟨rfl, rfl, rfl⟩ := hcs
    exact ⟨[], ⟨none, 0, rfl, Nat.le_refl _, by unfold maxLen; omega, fun i x hx => by simp at hx⟩, fun x hx => by cases hx⟩
  · simp [Value.cells] at hcs
    obtain ⟨rfl, rfl, rfl⟩ := hcs
    have hspot : 0 < len0 → a.spot = none := by
      intro h0
      obtain ⟨cs', hcs, _⟩ := hi 0 (by rw [hmm]; split <;> omega)
      rw [cells_awL] at hcs
      obtain ⟨_, hcl, hat⟩ := World.cells?_some hcs
      have g0 := hat 0 (by omega)
      rw [List.getElem?_eq_getElem (by omega)] at g0
      have := World.cell?_spot g0
      simpa [Addr.add] using this
    have key : ∀ i, i < len0 → ∃ x : Awn, AwnWf x ∧ ∃ g o, some a = some ⟨g, o, none⟩ ∧ ∀ j v, (awnC x)[j]? = some v → W.cell? ⟨g, o + i * 4 + j, none⟩ = some v := by
      intro i hlt
      obtain ⟨cs', hcs, ht⟩ := hi i (by rw [hmm]; split <;> omega)
      rw [cells_awL] at hcs
      obtain ⟨_, hcl, hat⟩ := World.cells?_some hcs
      obtain ⟨y0, y1, y2, y3, n', h0, h1, h2, h3⟩ := trod_struct4A hu ht
      obtain ⟨o0, k0⟩ := hone_of hone 0 f0 rfl
      obtain ⟨o1, k1⟩ := hone_of hone 1 f1 rfl
      obtain ⟨o2, k2⟩ := hone_of hone 2 f2 rfl
      obtain ⟨o3, k3⟩ := hone_of hone 3 f3 rfl
      match cs', hcl with
      | [c0, c1, c2, c3], _ =>
        rw [o0, k0, e0] at h0
        rw [o1, k1, e1] at h1
        rw [o2, k2, e2] at h2
        rw [o3, k3, e3] at h3
        obtain ⟨z0, q0, w0⟩ := trod_f Tryd.underlying29 h0
        obtain ⟨z1, q1, w1⟩ := trod_f Tryd.underlying29 h1
        obtain ⟨z2, q2, w2⟩ := trod_f Tryd.underlying29 h2
        obtain ⟨z3, q3, w3⟩ := trod_f Tryd.underlying29 h3
        simp at q0 q1 q2 q3
        subst q0 q1 q2 q3
        have hsp := hspot (by omega)
        obtain ⟨g, o, spot⟩ := a
        obtain rfl : spot = none := hsp
        refine ⟨(z0, z1, z2, z3), ⟨w0, w1, w2, w3⟩, g, o, rfl, fun j v hv => ?_⟩
        have hj : j < 4 := (Array.getElem?_eq_some_iff.1 hv).1
        have hg := hat j hj
        simp only [addr_add] at hg
        rw [hg]
        match j, hj, hv with
        | 0, _, hv => simpa [awnC, awC] using hv
        | 1, _, hv => simpa [awnC, awC] using hv
        | 2, _, hv => simpa [awnC, awC] using hv
        | 3, _, hv => simpa [awnC, awC] using hv
    obtain ⟨ws, hlen, hall⟩ := list_of len0 key
    subst hlen
    refine ⟨ws, ⟨some a, cap0, rfl, hl, hm, fun i x hx => (hall i x hx).2⟩, fun x hx => ?_⟩
    obtain ⟨i, hi⟩ := List.mem_iff_getElem?.1 hx
    exact (hall i x hi).1

theorem awn_fits (x : Awn) : 0 + 4 ≤ (awnC x).size := Nat.le_refl _

theorem awn_all (x : Awn) : (awnC x).extract 0 (0 + 4) = awnC x := rfl

theorem awn_one (x : Awn) : ∀ v ∈ awnC x, v.oneCell' = true := by
  intro v hv
  simp only [awnC, awC, List.mem_toArray, List.mem_cons, List.not_mem_nil, or_false] at hv
  rcases hv with rfl | rfl | rfl | rfl <;> rfl

theorem info_awz : (Tryd.prog.info? 139).map (fun i => (i.zero, i.size, i.bytes)) = some (some (.agg #[.float .f32 0, .float .f32 0, .float .f32 0, .float .f32 0]), 4, 16) := by kernel_rfl

theorem make_aws (n : Nat) (hn : n ≤ 1048576) (w : World) : (Instr.makeSlice 76 (.int .i64 (n : Int)) (.int .i64 (n : Int))).run Tryd.prog w = .ok (.slice (some ⟨w.heap.size, 0, none⟩) n n) (w.alloc (.cells (madeCells #[.float .f32 0, .float .f32 0, .float .f32 0, .float .f32 0] (n * 4)) 139)) := by
  obtain ⟨i0, hi, hz0, hz1, hz2⟩ := info_parts info_awz
  have h := run_make (P := Tryd.prog) w 76 139 i0 _ Tryd.underlying76 hi hz0 .i64 .i64 (n : Int) (n : Int) (by omega) (Int.le_refl _) (by rw [hz2]; omega) (by omega)
  rw [hz1] at h
  simpa [Value.cells] using h

theorem row_awn {W : World} {g : Nat} {cur : Array Value} {T : TypeId} {k : Nat} {x : Awn} (hg : W.heap[g]? = some (.cells cur T (0, 0))) (he : cur.extract (k * 4) (k * 4 + 4) = awnC x) : ∀ j v, (awnC x)[j]? = some v → W.cell? ⟨g, 0 + k * 4 + j, none⟩ = some v := by
  intro j v hv
  rw [Nat.zero_add, cell_of_row W _ _ _ _ _ hg]
  rw [← he, Array.getElem?_extract] at hv
  split at hv
  · exact hv
  · cases hv

set_option maxRecDepth 100000 in
set_option maxHeartbeats 1000000 in
theorem toAwningS_any (sv : Value) (ws : List Awn) (hlen : ws.length ≤ 1048576) (w : World) (hws : AwsAt w sv ws) :
    Calls Tryd.prog 40 #[sv] w fun e w' => (∃ v, e = .returned v ∧ AwsAt w' v ws) ∧ Below w.heap.size w w' := by
  have HW := Lib.hid hws
  obtain ⟨a, cap, rfl, hl1, hl2, _⟩ := hws
  unfold maxLen at hl2
  generalize hn : ws.length = n at *
  have HN := Lib.hid hn
  have hmk := fun w => make_aws n hlen w
  clear hn
  go_enter Tryd.func40, Tryd.ntmps40
  go_wp2
  go_loopw [4] (fun i wr => ∃ k : Nat, k ≤ n ∧ i = .int .i64 k ∧ Below w.heap.size w wr ∧ ∃ cur, wr.heap[w.heap.size]? = some (.cells cur 139 (0, 0)) ∧ cur.size = n * 4 ∧ ∀ j x, j < k → ws[j]? = some x → cur.extract (j * 4) (j * 4 + 4) = awnC x) (fun i _ => n - (intOf i).toNat)
  case atStart => exact ⟨0, Nat.zero_le _, rfl, (Below.refl _ _).alloc (Nat.le_refl _) _, _, heap_alloc_new _ _, size_madeCells _ _, fun j x hj => by omega⟩
  case round =>
    clear hmk
    obtain ⟨k, hk, rfl, hb, cur, hg, hs, hp⟩ := hrel
    have HP := Lib.hid hp
    have HG := Lib.hid hg
    have hgl := row_lt hg
    clear hp hg
    by_cases hlt : k < n
    · have hx : ws[k]? = some (ws[k]'(by rw [HN.out]; exact hlt)) := List.getElem?_eq_getElem _
      obtain ⟨g, o, rfl, hc⟩ := awn_at (aws_below HW.out hb) hx
      have HC := Lib.hid hc
      generalize (ws[k]'(by rw [HN.out]; exact hlt)) = x at *
      have HX := Lib.hid hx
      have hks : k * 4 + 4 ≤ cur.size := by omega
      have z1 : (k : Int) < (n : Int) := by omega
      have z2 : (0 : Int) ≤ (k : Int) := by omega
      clear hc hx
      go_wp2_with (first | (refine wpList_load_cells rfl 143 _ rfl g (o + k * 4) 4 rfl _ Tryd.underlying143 rfl info_awL (awnC x) rfl HC.out ?_) | (go_at_call 90; refine (toAwning_any x.1 x.2.1 x.2.2.1 x.2.2.2 _).mono ?_; rintro e W1 ⟨rfl, hb1⟩) | (refine wpList_store_part rfl 139 _ _ rfl w.heap.size (k * 4) (awnC x) rfl rfl 139 cur (below_row hb1 HG.out) (by kernel_rfl) hks (awn_one _) ?_))
      go_roundw
      case rel =>
        refine ⟨k + 1, by omega, by go_num, below_setRow (hb.trans (hb1.mono hb.size)) (Nat.le_refl _) _, _, setRow_heap _ _ _ _ _ _ (below_row hb1 HG.out), by rw [laid_size _ _ _ hks]; exact hs, fun j y hj hy => ?_⟩
        by_cases e : j = k
        · subst e
          rw [HX.out] at hy
          obtain rfl := Option.some.inj hy
          exact laid_here cur (awnC x) (j * 4) hks
        · rw [laid_there cur (awnC x) (k * 4) (j * 4) 4 hks (by omega)]
          exact HP.out j y (by omega) hy
      case measure => simp [intOf]; omega
    · obtain rfl : k = n := by omega
      have HR : Hid (AwsAt wr (.slice (some ⟨w.heap.size, 0, none⟩) k k) ws) := by
        refine ⟨_, k, by rw [HN.out], by rw [HN.out]; exact Nat.le_refl _, by unfold maxLen; omega, fun j x hx => ⟨w.heap.size, 0, rfl, ?_⟩⟩
        have := (List.getElem?_eq_some_iff.1 hx).1
        exact row_awn HG.out (HP.out j x (by have := HN.out; omega) hx)
      go_wp2
      go_ret
      exact ⟨⟨_, rfl, HR.out⟩, hb⟩

set_option maxRecDepth 100000 in
set_option maxHeartbeats 1000000 in
theorem szAwningS_any (a : Option Addr) (n cap : Nat) (left : Int) (hn : n ≤ 9223372036854775807) (h0 : 0 ≤ left) (h1 : left ≤ 1048576) (w : World) :
    Calls Tryd.prog 38 #[.slice a n cap, .int .i64 left] w fun e w' => e = .returned (.int .i64 (leftI n left)) ∧ w = w' := by
  unfold leftI
  by_cases h : left - (n : Int) < 0
  · rw [if_pos h]
    go_enter Tryd.func38, Tryd.ntmps38
    go_wp2
    go_ret
    exact ⟨rfl, rfl⟩
  · rw [if_neg h]
    go_enter Tryd.func38, Tryd.ntmps38
    go_wp2
    go_ret
    exact ⟨rfl, rfl⟩

set_option maxRecDepth 100000 in
set_option maxHeartbeats 4000000 in
theorem eqAw_nan (o dr gp tl : Nat) (w : World) : Calls Tryd.prog 97 #[.agg (awC o dr gp tl), .agg (awC o dr gp tl)] w fun e w' => e = .returned (.bool true) ∧ Below w.heap.size w w' := by
  have HA := Lib.hid (two_at w (.cells (awC o dr gp tl) 139) (.cells (awC o dr gp tl) 139))
  cases h0 : fin32 o with
  | true =>
    cases h1 : fin32 dr with
    | true =>
      cases h2 : fin32 gp with
      | true =>
        cases h3 : fin32 tl with
        | true =>
          have hw0 := run_wide _ h0
          have Hv0 := Lib.hid h0
          clear h0
          have hw1 := run_wide _ h1
          have Hv1 := Lib.hid h1
          clear h1
          have hw2 := run_wide _ h2
          have Hv2 := Lib.hid h2
          clear h2
          have hw3 := run_wide _ h3
          have Hv3 := Lib.hid h3
          clear h3
          go_enter Tryd.func97, Tryd.ntmps97
          go_upto_region 1 with (fail)
          refine abs_world (fun W => W.heap[w.heap.size]? = some (.cells (awC o dr gp tl) 139 (0, 0)) ∧ W.heap[w.heap.size + 1]? = some (.cells (awC o dr gp tl) 139 (0, 0)) ∧ Below w.heap.size w W) HA.out ?_
          clear HA
          rintro W ⟨q0, q1, hb⟩
          obtain ⟨k0, k1, k2, k3⟩ := aw_cells q0
          obtain ⟨p0, p1, p2, p3⟩ := aw_cells q1
          clear q0 q1
          generalize w.heap.size + 1 = b1 at *
          go_wp2_with (first | (go_at_call 16; with_reducible refine (same_wide _ Hv0.out _).mono ?_; rintro e w1 ⟨rfl, rfl⟩) | (go_at_call 16; with_reducible refine (same_wide _ Hv1.out _).mono ?_; rintro e w1 ⟨rfl, rfl⟩) | (go_at_call 16; with_reducible refine (same_wide _ Hv2.out _).mono ?_; rintro e w1 ⟨rfl, rfl⟩) | (go_at_call 16; with_reducible refine (same_wide _ Hv3.out _).mono ?_; rintro e w1 ⟨rfl, rfl⟩))
          go_ret
          exact ⟨rfl, by (repeat' first | exact Below.refl _ _ | assumption | refine Below.alloc ?_ (by first | omega | (simp; done) | (simp; omega)) _ | refine Below.setCell ?_ (by first | omega | (simp; done) | (simp; omega)) _ | refine Below.drew ?_)⟩
        | false =>
          have hw0 := run_wide _ h0
          have Hv0 := Lib.hid h0
          clear h0
          have hw1 := run_wide _ h1
          have Hv1 := Lib.hid h1
          clear h1
          have hw2 := run_wide _ h2
          have Hv2 := Lib.hid h2
          clear h2
          have hw3 := run_wide_nan _ h3
          clear h3
          go_enter Tryd.func97, Tryd.ntmps97
          go_upto_region 1 with (fail)
          refine abs_world (fun W => W.heap[w.heap.size]? = some (.cells (awC o dr gp tl) 139 (0, 0)) ∧ W.heap[w.heap.size + 1]? = some (.cells (awC o dr gp tl) 139 (0, 0)) ∧ Below w.heap.size w W) HA.out ?_
          clear HA
          rintro W ⟨q0, q1, hb⟩
          obtain ⟨k0, k1, k2, k3⟩ := aw_cells q0
          obtain ⟨p0, p1, p2, p3⟩ := aw_cells q1
          clear q0 q1
          generalize w.heap.size + 1 = b1 at *
          go_wp2_with (first | (go_at_call 16; with_reducible refine (same_wide _ Hv0.out _).mono ?_; rintro e w1 ⟨rfl, rfl⟩) | (go_at_call 16; with_reducible refine (same_wide _ Hv1.out _).mono ?_; rintro e w1 ⟨rfl, rfl⟩) | (go_at_call 16; with_reducible refine (same_wide _ Hv2.out _).mono ?_; rintro e w1 ⟨rfl, rfl⟩) | (go_at_call 16; with_reducible refine (same_nan _ _ (nanW_nan _ _) (nanW_nan _ _) _).mono ?_; rintro e w1 ⟨rfl, rfl⟩))
          go_ret
          exact ⟨rfl, by (repeat' first | exact Below.refl _ _ | assumption | refine Below.alloc ?_ (by first | omega | (simp; done) | (simp; omega)) _ | refine Below.setCell ?_ (by first | omega | (simp; done) | (simp; omega)) _ | refine Below.drew ?_)⟩
      | false =>
        cases h3 : fin32 tl with
        | true =>
          have hw0 := run_wide _ h0
          have Hv0 := Lib.hid h0
          clear h0
          have hw1 := run_wide _ h1
          have Hv1 := Lib.hid h1
          clear h1
          have hw2 := run_wide_nan _ h2
          clear h2
          have hw3 := run_wide _ h3
          have Hv3 := Lib.hid h3
          clear h3
          go_enter Tryd.func97, Tryd.ntmps97
          go_upto_region 1 with (fail)
          refine abs_world (fun W => W.heap[w.heap.size]? = some (.cells (awC o dr gp tl) 139 (0, 0)) ∧ W.heap[w.heap.size + 1]? = some (.cells (awC o dr gp tl) 139 (0, 0)) ∧ Below w.heap.size w W) HA.out ?_
          clear HA
          rintro W ⟨q0, q1, hb⟩
          obtain ⟨k0, k1, k2, k3⟩ := aw_cells q0
          obtain ⟨p0, p1, p2, p3⟩ := aw_cells q1
          clear q0 q1
          generalize w.heap.size + 1 = b1 at *
          go_wp2_with (first | (go_at_call 16; with_reducible refine (same_wide _ Hv0.out _).mono ?_; rintro e w1 ⟨rfl, rfl⟩) | (go_at_call 16; with_reducible refine (same_wide _ Hv1.out _).mono ?_; rintro e w1 ⟨rfl, rfl⟩) | (go_at_call 16; with_reducible refine (same_wide _ Hv3.out _).mono ?_; rintro e w1 ⟨rfl, rfl⟩) | (go_at_call 16; with_reducible refine (same_nan _ _ (nanW_nan _ _) (nanW_nan _ _) _).mono ?_; rintro e w1 ⟨rfl, rfl⟩))
          go_ret
          exact ⟨rfl, by (repeat' first | exact Below.refl _ _ | assumption | refine Below.alloc ?_ (by first | omega | (simp; done) | (simp; omega)) _ | refine Below.setCell ?_ (by first | omega | (simp; done) | (simp; omega)) _ | refine Below.drew ?_)⟩
        | false =>
          have hw0 := run_wide _ h0
          have Hv0 := Lib.hid h0
          clear h0
          have hw1 := run_wide _ h1
          have Hv1 := Lib.hid h1
          clear h1
          have hw2 := run_wide_nan _ h2
          clear h2
          have hw3 := run_wide_nan _ h3
          clear h3
          go_enter Tryd.func97, Tryd.ntmps97
          go_upto_region 1 with (fail)
          refine abs_world (fun W => W.heap[w.heap.size]? = some (.cells (awC o dr gp tl) 139 (0, 0)) ∧ W.heap[w.heap.size + 1]? = some (.cells (awC o dr gp tl) 139 (0, 0)) ∧ Below w.heap.size w W) HA.out ?_
          clear HA
          rintro W ⟨q0, q1, hb⟩
          obtain ⟨k0, k1, k2, k3⟩ := aw_cells q0
          obtain ⟨p0, p1, p2, p3⟩ := aw_cells q1
          clear q0 q1
          generalize w.heap.size + 1 = b1 at *
          go_wp2_with (first | (go_at_call 16; with_reducible refine (same_wide _ Hv0.out _).mono ?_; rintro e w1 ⟨rfl, rfl⟩) | (go_at_call 16; with_reducible refine (same_wide _ Hv1.out _).mono ?_; rintro e w1 ⟨rfl, rfl⟩) | (go_at_call 16; with_reducible refine (same_nan _ _ (nanW_nan _ _) (nanW_nan _ _) _).mono ?_; rintro e w1 ⟨rfl, rfl⟩))
          go_ret
          exact ⟨rfl, by (repeat' first | exact Below.refl _ _ | assumption | refine Below.alloc ?_ (by first | omega | (simp; done) | (simp; omega)) _ | refine Below.setCell ?_ (by first | omega | (simp; done) | (simp; omega)) _ | refine Below.drew ?_)⟩
    | false =>
      cases h2 : fin32 gp with
      | true =>
        cases h3 : fin32 tl with
        | true =>
          have hw0 := run_wide _ h0
          have Hv0 := Lib.hid h0
          clear h0
          have hw1 := run_wide_nan _ h1
          clear h1
          have hw2 := run_wide _ h2
          have Hv2 := Lib.hid h2
          clear h2
          have hw3 := run_wide _ h3
          have Hv3 := Lib.hid h3
          clear h3
          go_enter Tryd.func97, Tryd.ntmps97
          go_upto_region 1 with (fail)
          refine abs_world (fun W => W.heap[w.heap.size]? = some (.cells (awC o dr gp tl) 139 (0, 0)) ∧ W.heap[w.heap.size + 1]? = some (.cells (awC o dr gp tl) 139 (0, 0)) ∧ Below w.heap.size w W) HA.out ?_
          clear HA
          rintro W ⟨q0, q1, hb⟩
          obtain ⟨k0, k1, k2, k3⟩ := aw_cells q0
          obtain ⟨p0, p1, p2, p3⟩ := aw_cells q1
          clear q0 q1
          generalize w.heap.size + 1 = b1 at *
          go_wp2_with (first | (go_at_call 16; with_reducible refine (same_wide _ Hv0.out _).mono ?_; rintro e w1 ⟨rfl, rfl⟩) | (go_at_call 16; with_reducible refine (same_wide _ Hv2.out _).mono ?_; rintro e w1 ⟨rfl, rfl⟩) | (go_at_call 16; with_reducible refine (same_wide _ Hv3.out _).mono ?_; rintro e w1 ⟨rfl, rfl⟩) | (go_at_call 16; with_reducible refine (same_nan _ _ (nanW_nan _ _) (nanW_nan _ _) _).mono ?_; rintro e w1 ⟨rfl, rfl⟩))
          go_ret
          exact ⟨rfl, by (repeat' first | exact Below.refl _ _ | assumption | refine Below.alloc ?_ (by first | omega | (simp; done) | (simp; omega)) _ | refine Below.setCell ?_ (by first | omega | (simp; done) | (simp; omega)) _ | refine Below.drew ?_)⟩
        | false =>
          have hw0 := run_wide _ h0
          have Hv0 := Lib.hid h0
          clear h0
          have hw1 := run_wide_nan _ h1
          clear h1
          have hw2 := run_wide _ h2
          have Hv2 := Lib.hid h2
          clear h2
          have hw3 := run_wide_nan _ h3
          clear h3
          go_enter Tryd.func97, Tryd.ntmps97
          go_upto_region 1 with (fail)
          refine abs_world (fun W => W.heap[w.heap.size]? = some (.cells (awC o dr gp tl) 139 (0, 0)) ∧ W.heap[w.heap.size + 1]? = some (.cells (awC o dr gp tl) 139 (0, 0)) ∧ Below w.heap.size w W) HA.out ?_
          clear HA
          rintro W ⟨q0, q1, hb⟩
          obtain ⟨k0, k1, k2, k3⟩ := aw_cells q0
          obtain ⟨p0, p1, p2, p3⟩ := aw_cells q1
          clear q0 q1
          generalize w.heap.size + 1 = b1 at *
          go_wp2_with (first | (go_at_call 16; with_reducible refine (same_wide _ Hv0.out _).mono ?_; rintro e w1 ⟨rfl, rfl⟩) | (go_at_call 16; with_reducible refine (same_wide _ Hv2.out _).mono ?_; rintro e w1 ⟨rfl, rfl⟩) | (go_at_call 16; with_reducible refine (same_nan _ _ (nanW_nan _ _) (nanW_nan _ _) _).mono ?_; rintro e w1 ⟨rfl, rfl⟩))
          go_ret
          exact ⟨rfl, by (repeat' first | exact Below.refl _ _ | assumption | refine Below.alloc ?_ (by first | omega | (simp; done) | (simp; omega)) _ | refine Below.setCell ?_ (by first | omega | (simp; done) | (simp; omega)) _ | refine Below.drew ?_)⟩
      | false =>
        cases h3 : fin32 tl with
        | true =>
          have hw0 := run_wide _ h0
          have Hv0 := Lib.hid h0
          clear h0
          have hw1 := run_wide_nan _ h1
          clear h1
          have hw2 := run_wide_nan _ h2
          clear h2
          have hw3 := run_wide _ h3
          have Hv3 := Lib.hid h3
          clear h3
          go_enter Tryd.func97, Tryd.ntmps97
          go_upto_region 1 with (fail)
          refine abs_world (fun W => W.heap[w.heap.size]? = some (.cells (awC o dr gp tl) 139 (0, 0)) ∧ W.heap[w.heap.size + 1]? = some (.cells (awC o dr gp tl) 139 (0, 0)) ∧ Below w.heap.size w W) HA.out ?_
          clear HA
          rintro W ⟨q0, q1, hb⟩
          obtain ⟨k0, k1, k2, k3⟩ := aw_cells q0
          obtain ⟨p0, p1, p2, p3⟩ := aw_cells q1
          clear q0 q1
          generalize w.heap.size + 1 = b1 at *
          go_wp2_with (first | (go_at_call 16; with_reducible refine (same_wide _ Hv0.out _).mono ?_; rintro e w1 ⟨rfl, rfl⟩) | (go_at_call 16; with_reducible refine (same_wide _ Hv3.out _).mono ?_; rintro e w1 ⟨rfl, rfl⟩) | (go_at_call 16; with_reducible refine (same_nan _ _ (nanW_nan _ _) (nanW_nan _ _) _).mono ?_; rintro e w1 ⟨rfl, rfl⟩))
          go_ret
          exact ⟨rfl, by (repeat' first | exact Below.refl _ _ | assumption | refine Below.alloc ?_ (by first | omega | (simp; done) | (simp; omega)) _ | refine Below.setCell ?_ (by first | omega | (simp; done) | (simp; omega)) _ | refine Below.drew ?_)⟩
        | false =>
          have hw0 := run_wide _ h0
          have Hv0 := Lib.hid h0
          clear h0
          have hw1 := run_wide_nan _ h1
          clear h1
          have hw2 := run_wide_nan _ h2
          clear h2
          have hw3 := run_wide_nan _ h3
          clear h3
          go_enter Tryd.func97, Tryd.ntmps97
          go_upto_region 1 with (fail)
          refine abs_world (fun W => W.heap[w.heap.size]? = some (.cells (awC o dr gp tl) 139 (0, 0)) ∧ W.heap[w.heap.size + 1]? = some (.cells (awC o dr gp tl) 139 (0, 0)) ∧ Below w.heap.size w W) HA.out ?_
          clear HA
          rintro W ⟨q0, q1, hb⟩
          obtain ⟨k0, k1, k2, k3⟩ := aw_cells q0
          obtain ⟨p0, p1, p2, p3⟩ := aw_cells q1
          clear q0 q1
          generalize w.heap.size + 1 = b1 at *
          go_wp2_with (first | (go_at_call 16; with_reducible refine (same_wide _ Hv0.out _).mono ?_; rintro e w1 ⟨rfl, rfl⟩) | (go_at_call 16; with_reducible refine (same_nan _ _ (nanW_nan _ _) (nanW_nan _ _) _).mono ?_; rintro e w1 ⟨rfl, rfl⟩))
          go_ret
          exact ⟨rfl, by (repeat' first | exact Below.refl _ _ | assumption | refine Below.alloc ?_ (by first | omega | (simp; done) | (simp; omega)) _ | refine Below.setCell ?_ (by first | omega | (simp; done) | (simp; omega)) _ | refine Below.drew ?_)⟩
  | false =>
    cases h1 : fin32 dr with
    | true =>
      cases h2 : fin32 gp with
      | true =>
        cases h3 : fin32 tl with
        | true =>
          have hw0 := run_wide_nan _ h0
          clear h0
          have hw1 := run_wide _ h1
          have Hv1 := Lib.hid h1
          clear h1
          have hw2 := run_wide _ h2
          have Hv2 := Lib.hid h2
          clear h2
          have hw3 := run_wide _ h3
          have Hv3 := Lib.hid h3
          clear h3
          go_enter Tryd.func97, Tryd.ntmps97
          go_upto_region 1 with (fail)
          refine abs_world (fun W => W.heap[w.heap.size]? = some (.cells (awC o dr gp tl) 139 (0, 0)) ∧ W.heap[w.heap.size + 1]? = some (.cells (awC o dr gp tl) 139 (0, 0)) ∧ Below w.heap.size w W) HA.out ?_
          clear HA
          rintro W ⟨q0, q1, hb⟩
          obtain ⟨k0, k1, k2, k3⟩ := aw_cells q0
          obtain ⟨p0, p1, p2, p3⟩ := aw_cells q1
          clear q0 q1
          generalize w.heap.size + 1 = b1 at *
          go_wp2_with (first | (go_at_call 16; with_reducible refine (same_wide _ Hv1.out _).mono ?_; rintro e w1 ⟨rfl, rfl⟩) | (go_at_call 16; with_reducible refine (same_wide _ Hv2.out _).mono ?_; rintro e w1 ⟨rfl, rfl⟩) | (go_at_call 16; with_reducible refine (same_wide _ Hv3.out _).mono ?_; rintro e w1 ⟨rfl, rfl⟩) | (go_at_call 16; with_reducible refine (same_nan _ _ (nanW_nan _ _) (nanW_nan _ _) _).mono ?_; rintro e w1 ⟨rfl, rfl⟩))
          go_ret
          exact ⟨rfl, by (repeat' first | exact Below.refl _ _ | assumption | refine Below.alloc ?_ (by first | omega | (simp; done) | (simp; omega)) _ | refine Below.setCell ?_ (by first | omega | (simp; done) | (simp; omega)) _ | refine Below.drew ?_)⟩
        | false =>
          have hw0 := run_wide_nan _ h0
          clear h0
          have hw1 := run_wide _ h1
          have Hv1 := Lib.hid h1
          clear h1
          have hw2 := run_wide _ h2
          have Hv2 := Lib.hid h2
          clear h2
          have hw3 := run_wide_nan _ h3
          clear h3
          go_enter Tryd.func97, Tryd.ntmps97
          go_upto_region 1 with (fail)
          refine abs_world (fun W => W.heap[w.heap.size]? = some (.cells (awC o dr gp tl) 139 (0, 0)) ∧ W.heap[w.heap.size + 1]? = some (.cells (awC o dr gp tl) 139 (0, 0)) ∧ Below w.heap.size w W) HA.out ?_
          clear HA
          rintro W ⟨q0, q1, hb⟩
          obtain ⟨k0, k1, k2, k3⟩ := aw_cells q0
          obtain ⟨p0, p1, p2, p3⟩ := aw_cells q1
          clear q0 q1
          generalize w.heap.size + 1 = b1 at *
          go_wp2_with (first | (go_at_call 16; with_reducible refine (same_wide _ Hv1.out _).mono ?_; rintro e w1 ⟨rfl, rfl⟩) | (go_at_call 16; with_reducible refine (same_wide _ Hv2.out _).mono ?_; rintro e w1 ⟨rfl, rfl⟩) | (go_at_call 16; with_reducible refine (same_nan _ _ (nanW_nan _ _) (nanW_nan _ _) _).mono ?_; rintro e w1 ⟨rfl, rfl⟩))
          go_ret
          exact ⟨rfl, by (repeat' first | exact Below.refl _ _ | assumption | refine Below.alloc ?_ (by first | omega | (simp; done) | (simp; omega)) _ | refine Below.setCell ?_ (by first | omega | (simp; done) | (simp; omega)) _ | refine Below.drew ?_)⟩
      | false =>
        cases h3 : fin32 tl with
        | true =>
          have hw0 := run_wide_nan _ h0
          clear h0
          have hw1 := run_wide _ h1
          have Hv1 := Lib.hid h1
          clear h1
          have hw2 := run_wide_nan _ h2
          clear h2
          have hw3 := run_wide _ h3
          have Hv3 := Lib.hid h3
          clear h3
          go_enter Tryd.func97, Tryd.ntmps97
          go_upto_region 1 with (fail)
          refine abs_world (fun W => W.heap[w.heap.size]? = some (.cells (awC o dr gp tl) 139 (0, 0)) ∧ W.heap[w.heap.size + 1]? = some (.cells (awC o dr gp tl) 139 (0, 0)) ∧ Below w.heap.size w W) HA.out ?_
          clear HA
          rintro W ⟨q0, q1, hb⟩
          obtain ⟨k0, k1, k2, k3⟩ := aw_cells q0
          obtain ⟨p0, p1, p2, p3⟩ := aw_cells q1
          clear q0 q1
          generalize w.heap.size + 1 = b1 at *
          go_wp2_with (first | (go_at_call 16; with_reducible refine (same_wide _ Hv1.out _).mono ?_; rintro e w1 ⟨rfl, rfl⟩) | (go_at_call 16; with_reducible refine (same_wide _ Hv3.out _).mono ?_; rintro e w1 ⟨rfl, rfl⟩) | (go_at_call 16; with_reducible refine (same_nan _ _ (nanW_nan _ _) (nanW_nan _ _) _).mono ?_; rintro e w1 ⟨rfl, rfl⟩))
          go_ret
          exact ⟨rfl, by (repeat' first | exact Below.refl _ _ | assumption | refine Below.alloc ?_ (by first | omega | (simp; done) | (simp; omega)) _ | refine Below.setCell ?_ (by first | omega | (simp; done) | (simp; omega)) _ | refine Below.drew ?_)⟩
        | false =>
          have hw0 := run_wide_nan _ h0
          clear h0
          have hw1 := run_wide _ h1
          have Hv1 := Lib.hid h1
          clear h1
          have hw2 := run_wide_nan _ h2
          clear h2
          have hw3 := run_wide_nan _ h3
          clear h3
          go_enter Tryd.func97, Tryd.ntmps97
          go_upto_region 1 with (fail)
          refine abs_world (fun W => W.heap[w.heap.size]? = some (.cells (awC o dr gp tl) 139 (0, 0)) ∧ W.heap[w.heap.size + 1]? = some (.cells (awC o dr gp tl) 139 (0, 0)) ∧ Below w.heap.size w W) HA.out ?_
          clear HA
          rintro W ⟨q0, q1, hb⟩
          obtain ⟨k0, k1, k2, k3⟩ := aw_cells q0
          obtain ⟨p0, p1, p2, p3⟩ := aw_cells q1
          clear q0 q1
          generalize w.heap.size + 1 = b1 at *
          go_wp2_with (first | (go_at_call 16; with_reducible refine (same_wide _ Hv1.out _).mono ?_; rintro e w1 ⟨rfl, rfl⟩) | (go_at_call 16; with_reducible refine (same_nan _ _ (nanW_nan _ _) (nanW_nan _ _) _).mono ?_; rintro e w1 ⟨rfl, rfl⟩))
          go_ret
          exact ⟨rfl, by (repeat' first | exact Below.refl _ _ | assumption | refine Below.alloc ?_ (by first | omega | (simp; done) | (simp; omega)) _ | refine Below.setCell ?_ (by first | omega | (simp; done) | (simp; omega)) _ | refine Below.drew ?_)⟩
    | false =>
      cases h2 : fin32 gp with
      | true =>
        cases h3 : fin32 tl with
        | true =>
          have hw0 := run_wide_nan _ h0
          clear h0
          have hw1 := run_wide_nan _ h1
          clear h1
          have hw2 := run_wide _ h2
          have Hv2 := Lib.hid h2
          clear h2
          have hw3 := run_wide _ h3
          have Hv3 := Lib.hid h3
          clear h3
          go_enter Tryd.func97, Tryd.ntmps97
          go_upto_region 1 with (fail)
          refine abs_world (fun W => W.heap[w.heap.size]? = some (.cells (awC o dr gp tl) 139 (0, 0)) ∧ W.heap[w.heap.size + 1]? = some (.cells (awC o dr gp tl) 139 (0, 0)) ∧ Below w.heap.size w W) HA.out ?_
          clear HA
          rintro W ⟨q0, q1, hb⟩
          obtain ⟨k0, k1, k2, k3⟩ := aw_cells q0
          obtain ⟨p0, p1, p2, p3⟩ := aw_cells q1
          clear q0 q1
          generalize w.heap.size + 1 = b1 at *
          go_wp2_with (first | (go_at_call 16; with_reducible refine (same_wide _ Hv2.out _).mono ?_; rintro e w1 ⟨rfl, rfl⟩) | (go_at_call 16; with_reducible refine (same_wide _ Hv3.out _).mono ?_; rintro e w1 ⟨rfl, rfl⟩) | (go_at_call 16; with_reducible refine (same_nan _ _ (nanW_nan _ _) (nanW_nan _ _) _).mono ?_; rintro e w1 ⟨rfl, rfl⟩))
          go_ret
          exact ⟨rfl, by (repeat' first | exact Below.refl _ _ | assumption | refine Below.alloc ?_ (by first | omega | (simp; done) | (simp; omega)) _ | refine Below.setCell ?_ (by first | omega | (simp; done) | (simp; omega)) _ | refine Below.drew ?_)⟩
        | false =>
          have hw0 := run_wide_nan _ h0
          clear h0
          have hw1 := run_wide_nan _ h1
          clear h1
          have hw2 := run_wide _ h2
          have Hv2 := Lib.hid h2
          clear h2
          have hw3 := run_wide_nan _ h3
          clear h3
          go_enter Tryd.func97, Tryd.ntmps97
          go_upto_region 1 with (fail)
          refine abs_world (fun W => W.heap[w.heap.size]? = some (.cells (awC o dr gp tl) 139 (0, 0)) ∧ W.heap[w.heap.size + 1]? = some (.cells (awC o dr gp tl) 139 (0, 0)) ∧ Below w.heap.size w W) HA.out ?_
          clear HA
          rintro W ⟨q0, q1, hb⟩
          obtain ⟨k0, k1, k2, k3⟩ := aw_cells q0
          obtain ⟨p0, p1, p2, p3⟩ := aw_cells q1
          clear q0 q1
          generalize w.heap.size + 1 = b1 at *
          go_wp2_with (first | (go_at_call 16; with_reducible refine (same_wide _ Hv2.out _).mono ?_; rintro e w1 ⟨rfl, rfl⟩) | (go_at_call 16; with_reducible refine (same_nan _ _ (nanW_nan _ _) (nanW_nan _ _) _).mono ?_; rintro e w1 ⟨rfl, rfl⟩))
          go_ret
          exact ⟨rfl, by (repeat' first | exact Below.refl _ _ | assumption | refine Below.alloc ?_ (by first | omega | (simp; done) | (simp; omega)) _ | refine Below.setCell ?_ (by first | omega | (simp; done) | (simp; omega)) _ | refine Below.drew ?_)⟩
      | false =>
        cases h3 : fin32 tl with
        | true =>
          have hw0 := run_wide_nan _ h0
          clear h0
          have hw1 := run_wide_nan _ h1
          clear h1
          have hw2 := run_wide_nan _ h2
          clear h2
          have hw3 := run_wide _ h3
          have Hv3 := Lib.hid h3
          clear h3
          go_enter Tryd.func97, Tryd.ntmps97
          go_upto_region 1 with (fail)
          refine abs_world (fun W => W.heap[w.heap.size]? = some (.cells (awC o dr gp tl) 139 (0, 0)) ∧ W.heap[w.heap.size + 1]? = some (.cells (awC o dr gp tl) 139 (0, 0)) ∧ Below w.heap.size w W) HA.out ?_
          clear HA
          rintro W ⟨q0, q1, hb⟩
          obtain ⟨k0, k1, k2, k3⟩ := aw_cells q0
          obtain ⟨p0, p1, p2, p3⟩ := aw_cells q1
          clear q0 q1
          generalize w.heap.size + 1 = b1 at *
          go_wp2_with (first | (go_at_call 16; with_reducible refine (same_wide _ Hv3.out _).mono ?_; rintro e w1 ⟨rfl, rfl⟩) | (go_at_call 16; with_reducible refine (same_nan _ _ (nanW_nan _ _) (nanW_nan _ _) _).mono ?_; rintro e w1 ⟨rfl, rfl⟩))
          go_ret
          exact ⟨rfl, by (repeat' first | exact Below.refl _ _ | assumption | refine Below.alloc ?_ (by first | omega | (simp; done) | (simp; omega)) _ | refine Below.setCell ?_ (by first | omega | (simp; done) | (simp; omega)) _ | refine Below.drew ?_)⟩
        | false =>
          have hw0 := run_wide_nan _ h0
          clear h0
          have hw1 := run_wide_nan _ h1
          clear h1
          have hw2 := run_wide_nan _ h2
          clear h2
          have hw3 := run_wide_nan _ h3
          clear h3
          go_enter Tryd.func97, Tryd.ntmps97
          go_upto_region 1 with (fail)
          refine abs_world (fun W => W.heap[w.heap.size]? = some (.cells (awC o dr gp tl) 139 (0, 0)) ∧ W.heap[w.heap.size + 1]? = some (.cells (awC o dr gp tl) 139 (0, 0)) ∧ Below w.heap.size w W) HA.out ?_
          clear HA
          rintro W ⟨q0, q1, hb⟩
          obtain ⟨k0, k1, k2, k3⟩ := aw_cells q0
          obtain ⟨p0, p1, p2, p3⟩ := aw_cells q1
          clear q0 q1
          generalize w.heap.size + 1 = b1 at *
          go_wp2_with (go_at_call 16; with_reducible refine (same_nan _ _ (nanW_nan _ _) (nanW_nan _ _) _).mono ?_; rintro e w1 ⟨rfl, rfl⟩)
          go_ret
          exact ⟨rfl, by (repeat' first | exact Below.refl _ _ | assumption | refine Below.alloc ?_ (by first | omega | (simp; done) | (simp; omega)) _ | refine Below.setCell ?_ (by first | omega | (simp; done) | (simp; omega)) _ | refine Below.drew ?_)⟩

set_option maxRecDepth 100000 in
set_option maxHeartbeats 4000000 in
theorem eqAwningS_any (v1 v2 : Value) (ws : List Awn) (w : World) (hv1 : AwsAt w v1 ws) (hv2 : AwsAt w v2 ws) :
    Calls Tryd.prog 42 #[v1, v2] w fun e w' => e = .returned (.bool true) ∧ Below w.heap.size w w' := by
  have HW1 := Lib.hid hv1
  have HW2 := Lib.hid hv2
  obtain ⟨a1, c1, rfl, hl1, hm1, _⟩ := hv1
  obtain ⟨a2, c2, rfl, hl2, hm2, _⟩ := hv2
  unfold maxLen at hm1 hm2
  generalize hn : ws.length = n at *
  have HN := Lib.hid hn
  have zn : ((n : Int) != (n : Int)) = false := by simp
  clear hn
  go_enter Tryd.func42, Tryd.ntmps42
  go_wp2
  go_loopw [5] (fun i wr => ∃ k : Nat, k ≤ n ∧ i = .int .i64 k ∧ Below w.heap.size w wr) (fun i _ => n - (intOf i).toNat)
  case atStart => exact ⟨0, Nat.zero_le _, rfl, Below.refl _ _⟩
  case round =>
    obtain ⟨k, hk, rfl, hb⟩ := hrel
    by_cases hlt : k < n
    · have hx : ws[k]? = some (ws[k]'(by rw [HN.out]; exact hlt)) := List.getElem?_eq_getElem _
      obtain ⟨g1, o1, rfl, hc1⟩ := awn_at (aws_below HW1.out hb) hx
      obtain ⟨g2, o2, rfl, hc2⟩ := awn_at (aws_below HW2.out hb) hx
      have HC1 := Lib.hid hc1
      have HC2 := Lib.hid hc2
      generalize (ws[k]'(by rw [HN.out]; exact hlt)) = x at *
      have z1 : (k : Int) < (n : Int) := by omega
      have z2 : (0 : Int) ≤ (k : Int) := by omega
      have z3 : decide ((k : Int) < (n : Int)) = true := decide_eq_true z1
      clear hc1 hc2 hx
      go_wp2
      refine wp_region_held_drew (S := (fun W => (∀ j v, (awnC x)[j]? = some v → W.cell? ⟨g1, o1 + k * 4 + j, none⟩ = some v) ∧ (∀ j v, (awnC x)[j]? = some v → W.cell? ⟨g2, o2 + k * 4 + j, none⟩ = some v) ∧ Below w.heap.size w W)) (by kernel_rfl) ⟨HC1.out, HC2.out, hb.drew⟩ (fun hHeld => ?_)
      refine take_op (i := 0) (d := 17) (v := ?_) rfl rfl (by kernel_rfl) (by kernel_rfl) (by kernel_rfl) (fun _ _ _ h => h) (Or.inl ⟨by rfl, ?hy0u1⟩) hHeld ?rest0u1
      case hy0u1 =>
        intro w' hS'
        go_simp
        try with_reducible rfl
      simp only [List.setIfInBounds_toArray, List.set_cons_zero, List.set_cons_succ]
      refine take_op (i := 1) (d := 18) (v := ?_) rfl rfl (by kernel_rfl) (by kernel_rfl) (by kernel_rfl) (fun _ _ _ h => h) (Or.inl ⟨by rfl, ?hy1u2⟩) hHeld ?rest1u2
      case hy1u2 =>
        intro w' hS'
        go_simp
        try with_reducible rfl
      simp only [List.setIfInBounds_toArray, List.set_cons_zero, List.set_cons_succ]
      refine take_op (i := 2) (d := 19) (v := ?_) rfl rfl (by kernel_rfl) (by kernel_rfl) (by kernel_rfl) (fun _ _ _ h => h) (Or.inl ⟨by rfl, ?hy2u3⟩) hHeld ?rest2u3
      case hy2u3 =>
        intro w' hS'
        go_simp
        try with_reducible rfl
      simp only [List.setIfInBounds_toArray, List.set_cons_zero, List.set_cons_succ]
      refine take_op (i := 3) (d := 20) (v := .agg (awnC x)) rfl rfl (by kernel_rfl) (by kernel_rfl) (by kernel_rfl) (fun _ _ _ h => h) (yields_cells (by rfl) 139 (.tmp 19) (by rfl) g1 (o1 + k * 4) 4 (by rfl) _ Tryd.underlying139 rfl info_aw (awnC x) rfl (fun W h => h.1)) hHeld ?_
      simp only [List.setIfInBounds_toArray, List.set_cons_zero, List.set_cons_succ]
      refine take_op (i := 4) (d := 21) (v := ?_) rfl rfl (by kernel_rfl) (by kernel_rfl) (by kernel_rfl) (fun _ _ _ h => h) (Or.inl ⟨by rfl, ?hy4u4⟩) hHeld ?rest4u4
      case hy4u4 =>
        intro w' hS'
        go_simp
        try with_reducible rfl
      simp only [List.setIfInBounds_toArray, List.set_cons_zero, List.set_cons_succ]
      refine take_op (i := 5) (d := 22) (v := ?_) rfl rfl (by kernel_rfl) (by kernel_rfl) (by kernel_rfl) (fun _ _ _ h => h) (Or.inl ⟨by rfl, ?hy5u5⟩) hHeld ?rest5u5
      case hy5u5 =>
        intro w' hS'
        go_simp
        try with_reducible rfl
      simp only [List.setIfInBounds_toArray, List.set_cons_zero, List.set_cons_succ]
      refine take_op (i := 6) (d := 23) (v := ?_) rfl rfl (by kernel_rfl) (by kernel_rfl) (by kernel_rfl) (fun _ _ _ h => h) (Or.inl ⟨by rfl, ?hy6u6⟩) hHeld ?rest6u6
      case hy6u6 =>
        intro w' hS'
        go_simp
        try with_reducible rfl
      simp only [List.setIfInBounds_toArray, List.set_cons_zero, List.set_cons_succ]
      refine take_op (i := 7) (d := 24) (v := .agg (awnC x)) rfl rfl (by kernel_rfl) (by kernel_rfl) (by kernel_rfl) (fun _ _ _ h => h) (yields_cells (by rfl) 139 (.tmp 23) (by rfl) g2 (o2 + k * 4) 4 (by rfl) _ Tryd.underlying139 rfl info_aw (awnC x) rfl (fun W h => h.2.1)) hHeld ?_
      simp only [List.setIfInBounds_toArray, List.set_cons_zero, List.set_cons_succ]
      refine wpAnyH_ready (rs := [8]) (by kernel_rfl) (by simp) ?_
      refine AllReadyH.cons rfl (fun K hK => ?_) AllReadyH.nil
      go_simp
      refine (eqAw_nan x.1 x.2.1 x.2.2.1 x.2.2.2 _).mono ?_
      rintro e W1 ⟨rfl, hb1⟩
      refine hK.out _ _ (⟨fun j v hv => cell_below hb1 (hHeld.1 j v hv), fun j v hv => cell_below hb1 (hHeld.2.1 j v hv), hHeld.2.2.trans (hb1.mono hHeld.2.2.size)⟩) (fun hHeld2 => ?_)
      clear hK K
      replace hHeld := hHeld2
      clear hHeld2
      refine take_op (i := 9) (d := 26) (v := ?_) rfl rfl (by kernel_rfl) (by kernel_rfl) (by kernel_rfl) (fun _ _ _ h => h) (Or.inl ⟨by rfl, ?hy9u7⟩) hHeld ?rest9u7
      case hy9u7 =>
        intro w' hS'
        go_simp
        try with_reducible rfl
      simp only [List.setIfInBounds_toArray, List.set_cons_zero, List.set_cons_succ]
      refine wpAnyH_done (by kernel_rfl) ?_ _
      have hbx := hHeld.2.2
      clear hHeld hb HC1 HC2
      go_wp2
      go_roundw
      case rel => exact ⟨k + 1, by omega, by go_num, hbx⟩
      case measure => simp [intOf]; omega
    · obtain rfl : k = n := by omega
      go_wp2
      go_ret
      exact ⟨rfl, hb⟩

end Go.Proofs.YtdccmdcgbembpaaDoor

namespace Go.Proofs.YtdccmdcgbembpaaDoor
open Go.RowKit

attribute [local go_sem] run_store_f

/-- An awning is valid. -/
def fitA (x : Awn) : Bool := okAw x.1 x.2.1 x.2.2.1 x.2.2.2

theorem validAwn_any (x : Awn) (w : World) : Calls Tryd.prog 92 #[.agg (awnC x)] w fun e w' => e = .returned (.bool (fitA x)) ∧ Below w.heap.size w w' := implValidAwning_any x.1 x.2.1 x.2.2.1 x.2.2.2 w

theorem ret_boolBA {a b : Bool} (h : a = b) : Ending.returned (.bool a) = .returned (.bool b) := by rw [h]

set_option maxRecDepth 100000 in
set_option maxHeartbeats 1000000 in
theorem badAwn_any (x : Awn) (w : World) :
    Calls Tryd.prog 91 #[.agg (awnC x)] w fun e w' => e = .returned (.bool (!fitA x)) ∧ Below w.heap.size w w' := by
  go_enter Tryd.func91, Tryd.ntmps91
  go_upto_region 1 with (fail)
  refine abs_world (fun W => Below w.heap.size w W ∧ W.heap[w.heap.size]? = some (.cells (awnC x) 139 (0, 0))) ⟨(Below.refl _ _).alloc (Nat.le_refl _) _, heap_alloc_new _ _⟩ ?_
  rintro W ⟨hb, h1⟩
  have H1 := Lib.hid h1
  clear h1
  go_wp2_with (first | (refine wpList_load_part rfl 139 _ rfl w.heap.size 0 4 rfl 139 (awnC x) (0, 0) _ H1.out Tryd.underlying139 rfl info_aw (awn_fits _) _ (awn_all _) ?_) | (go_at_call 92; refine (validAwn_any x _).mono ?_; rintro e W1 ⟨rfl, hb1⟩))
  go_ret
  exact ⟨rfl, hb.trans (hb1.mono hb.size)⟩

/-- What looking for an awning that is not valid finds. -/
def FoundAwn (ts : List Awn) (w : World) (e : Ending) (w' : World) : Prop := ∃ r : Int, e = .returned (.int .i64 r) ∧ decide (0 ≤ r) = !ts.all fitA ∧ Below w.heap.size w w'

set_option maxRecDepth 100000 in
set_option maxHeartbeats 1000000 in
theorem indexAwn_any (sv : Value) (ws : List Awn) (w : World) (hws : AwsAt w sv ws) :
    Calls Tryd.prog 124 #[sv, .func (.func 91) #[] #[]] w fun e w' => FoundAwn ws w e w' := by
  have hws' := hws
  obtain ⟨a, cap, rfl, hl1, hl2, _⟩ := hws'
  have HW := Lib.hid hws
  clear hws
  unfold maxLen at hl2
  generalize hn : ws.length = n at *
  go_enter Tryd.func124, Tryd.ntmps124
  go_wp2
  go_loopw [8] (fun i wr => ∃ k : Nat, k ≤ n ∧ i = .int .i64 k ∧ Below w.heap.size w wr ∧ (ws.take k).all fitA = true) (fun i _ => n - (intOf i).toNat)
  case atStart => exact ⟨0, Nat.zero_le _, rfl, Below.refl _ _, rfl⟩
  case round =>
    obtain ⟨k, hk, rfl, hb, hall⟩ := hrel
    have HA := Lib.hid hall
    clear hall
    by_cases hlt : k < n
    · have hx : ws[k]? = some ws[k] := List.getElem?_eq_getElem (by omega)
      obtain ⟨g, o, rfl, hc⟩ := awn_at (aws_below HW.out hb) hx
      have HC := Lib.hid hc
      have hts : ws.take (k + 1) = ws.take k ++ [ws[k]] := by rw [List.take_succ_eq_append_getElem (by omega)]
      have HT := Lib.hid hts
      have hdx := HW.out
      generalize ws[k] = x at *
      have HD : Hid (ws[k]? = some x) := Lib.hid hx
      have z1 : (k : Int) < (n : Int) := by omega
      have z2 : (0 : Int) ≤ (k : Int) := by omega
      clear hc hts hx hdx
      cases hf : fitA x with
      | true =>
        have hnf : (!fitA x) = false := by rw [hf]; rfl
        go_wp2_with (first | (refine wpList_load_cells rfl 139 _ rfl g (o + k * 4) 4 rfl _ Tryd.underlying139 rfl info_aw (awnC x) rfl HC.out ?_) | (go_at_call 91; refine (badAwn_any x _).mono ?_; rw [hnf]; rintro e W1 ⟨rfl, hb1⟩))
        go_roundw
        case rel => exact ⟨k + 1, by omega, by go_num, hb.trans (hb1.mono hb.size), by rw [HT.out, List.all_append, HA.out]; simp [hf]⟩
        case measure => simp [intOf]; omega
      | false =>
        have hnf : (!fitA x) = true := by rw [hf]; rfl
        go_wp2_with (first | (refine wpList_load_cells rfl 139 _ rfl g (o + k * 4) 4 rfl _ Tryd.underlying139 rfl info_aw (awnC x) rfl HC.out ?_) | (go_at_call 91; refine (badAwn_any x _).mono ?_; rw [hnf]; rintro e W1 ⟨rfl, hb1⟩))
        go_ret
        refine ⟨k, rfl, ?_, hb.trans (hb1.mono hb.size)⟩
        have hmem := List.mem_of_getElem? HD.out
        have hall : ws.all fitA = false := by
          rw [Bool.eq_false_iff]
          intro ha
          have := List.all_eq_true.1 ha x hmem
          rw [hf] at this; cases this
        rw [hall]; simp
    · obtain rfl : k = n := by omega
      go_wp2
      go_ret
      refine ⟨-1, rfl, ?_, hb⟩
      have hall := HA.out
      rw [List.take_of_length_le (by omega)] at hall
      rw [hall]; rfl

set_option maxRecDepth 100000 in
set_option maxHeartbeats 1000000 in
theorem containsAwn_any (sv : Value) (ws : List Awn) (w : World) (hws : AwsAt w sv ws) :
    Calls Tryd.prog 93 #[sv, .func (.func 91) #[] #[]] w fun e w' => e = .returned (.bool (!ws.all fitA)) ∧ Below w.heap.size w w' := by
  have HC := indexAwn_any sv ws w hws
  clear hws
  go_enter Tryd.func93, Tryd.ntmps93
  go_wp2_with (go_at_call 124; refine HC.mono ?_; rintro e W1 ⟨r, rfl, hd, hb1⟩)
  go_ret
  first | exact ⟨ret_boolBA hd, hb1⟩ | exact ⟨rfl, hb1⟩

end Go.Proofs.YtdccmdcgbembpaaDoor

namespace Go.Proofs.YtdccmdcgbembpaaDoor
open Go.ChangeShapes Go.WideShapes Go.ChangeAt Go.RowKit

theorem laidMet_skip {P : Program} {x y : String × DataW Unit} {r : List (String × DataW Unit)} {w : World} (h : laidMet P (x :: y :: r) w) : laidMet P (x :: r) w := by
  obtain ⟨ps, hv, hnd, hrows⟩ := h
  obtain ⟨n, d⟩ := x
  obtain ⟨m, e⟩ := y
  obtain ⟨g, t, cs, fuel, p, q, h1, h2, h3, h4, hq, rfl⟩ := hv
  obtain ⟨g', t', cs', fuel', p', q', _, _, _, _, hq', rfl⟩ := hq
  refine ⟨MemPlace.row ⟨g, 0, none⟩ cs.size ++ p ++ q', ⟨g, t, cs, fuel, p, q', h1, h2, h3, h4, hq', rfl⟩, ?_, fun b off hm => hrows b off ?_⟩
  · exact hnd.sublist (List.Sublist.append (List.Sublist.refl _) (List.sublist_append_right _ _))
  · rcases List.mem_append.1 hm with hm | hm
    · exact List.mem_append_left _ hm
    · exact List.mem_append_right _ (List.mem_append_right _ hm)

/-- The variables that the rows list, and what they hold. -/
def lst : List (String × DataW Unit) := [("loop.example/g01367/impl.errInvalid", Rows.laid_loop_example_g01367_impl_errInvalid), ("loop.example/g01367/impl.errRange", Rows.laid_loop_example_g01367_impl_errRange), ("loop.example/g01367/impl.errLimit", Rows.laid_loop_example_g01367_impl_errLimit), ("loop.example/g01367/impl.errNotFound", Rows.laid_loop_example_g01367_impl_errNotFound)]

theorem star_err : ("*" ++ "errors.errorString") = "*errors.errorString" := by decide
theorem row_err (u : TypeId) (h : Tryd.prog.typeName? 3 u = some "*errors.errorString") : u = 211 :=
  typeName_ptr_named (nm := "errors.errorString") (by rw [star_err]; kernel_rfl) (by kernel_rfl) (by decide) u (by rw [star_err]; exact h)
theorem g_inv : Tryd.prog.globalNamed "loop.example/g01367/impl.errInvalid" = some 0 := by kernel_rfl
theorem g_ran : Tryd.prog.globalNamed "loop.example/g01367/impl.errRange" = some 1 := by kernel_rfl
theorem g_lim : Tryd.prog.globalNamed "loop.example/g01367/impl.errLimit" = some 2 := by kernel_rfl
theorem g_not : Tryd.prog.globalNamed "loop.example/g01367/impl.errNotFound" = some 3 := by kernel_rfl
theorem gt_inv : (Tryd.prog.globals[0]?).map (·.type) = some 88 := by kernel_rfl
theorem gt_ran : (Tryd.prog.globals[1]?).map (·.type) = some 88 := by kernel_rfl
theorem gt_lim : (Tryd.prog.globals[2]?).map (·.type) = some 88 := by kernel_rfl
theorem gt_not : (Tryd.prog.globals[3]?).map (·.type) = some 88 := by kernel_rfl

/-- A sentinel's value. -/
def errV (a : Addr) : Value := .iface 211 (.pointer (some a))
/-- A place whose block is a row of cells that is not marked. -/
def Plain0 (W : World) (a : Addr) : Prop := ∃ c t, W.heap[a.block]? = some (.cells c t (0, 0))

/-- The four sentinels, each at a place of its own. -/
structure ErrsAt (W : World) (a0 a1 a2 a3 : Addr) : Prop where
  v0 : W.cell? ⟨0, 0, none⟩ = some (errV a0)
  v1 : W.cell? ⟨1, 0, none⟩ = some (errV a1)
  v2 : W.cell? ⟨2, 0, none⟩ = some (errV a2)
  v3 : W.cell? ⟨3, 0, none⟩ = some (errV a3)
  b0 : Plain0 W a0
  b1 : Plain0 W a1
  b2 : Plain0 W a2
  b3 : Plain0 W a3
  n01 : a0 ≠ a1
  n02 : a0 ≠ a2
  n03 : a0 ≠ a3
  n12 : a1 ≠ a2
  n13 : a1 ≠ a3
  n23 : a2 ≠ a3

theorem plain0_below {W W' : World} {a : Addr} (hb : Below W.heap.size W W') (h : Plain0 W a) : Plain0 W' a := by
  obtain ⟨c, t, h⟩ := h
  exact ⟨c, t, (hb.block _ (Array.getElem?_eq_some_iff.1 h).1).trans h⟩
theorem errs_below {W W' : World} {a0 a1 a2 a3 : Addr} (h : ErrsAt W a0 a1 a2 a3) (hb : Below W.heap.size W W') : ErrsAt W' a0 a1 a2 a3 :=
  have cb : ∀ {a : Addr} {v : Value}, W.cell? a = some v → W'.cell? a = some v := fun {a _} h => (hb.cell (World.block_lt_of_cell? W a h)).trans h
  ⟨cb h.v0, cb h.v1, cb h.v2, cb h.v3, plain0_below hb h.b0, plain0_below hb h.b1, plain0_below hb h.b2, plain0_below hb h.b3, h.n01, h.n02, h.n03, h.n12, h.n13, h.n23⟩

theorem two_of {n0 n1 : String} {t0 t1 : List UInt8} {r : List (String × DataW Unit)} {W : World} {g0 g1 : Nat}
    (h : laidMet Tryd.prog ((n0, .iface "*errors.errorString" (.ptr (.agg [.lit (.string t0)]))) :: (n1, .iface "*errors.errorString" (.ptr (.agg [.lit (.string t1)]))) :: r) W)
    (hg0 : Tryd.prog.globalNamed n0 = some g0) (ht0 : (Tryd.prog.globals[g0]?).map (·.type) = some 88) (hg1 : Tryd.prog.globalNamed n1 = some g1) (ht1 : (Tryd.prog.globals[g1]?).map (·.type) = some 88) :
    ∃ a0 a1, W.cell? ⟨g0, 0, none⟩ = some (errV a0) ∧ W.cell? ⟨g1, 0, none⟩ = some (errV a1) ∧ a0 ≠ a1 ∧ Plain0 W a0 ∧ Plain0 W a1 := by
  obtain ⟨a0, a1, s0, s1, c0, c1, u0, u1, v0, v1, _, _, _, _, _, _, hne, hb0, hb1⟩ := laid_sentinels2 h hg0 ht0 hg1 ht1 Tryd.underlying88 row_err Tryd.underlying211 Tryd.underlying236 rfl rfl Tryd.underlying9 (by kernel_rfl) (by kernel_rfl)
  exact ⟨a0, a1, by simpa [errV] using World.var?_cell hg0 v0 0, by simpa [errV] using World.var?_cell hg1 v1 0, hne, ⟨_, _, hb0⟩, ⟨_, _, hb1⟩⟩

theorem errV_inj {W : World} {p : Addr} {a b : Addr} (h : W.cell? p = some (errV a)) (k : W.cell? p = some (errV b)) : b = a := by
  rw [h] at k
  simp only [errV, Option.some.injEq, Value.iface.injEq, Value.pointer.injEq, true_and] at k
  exact k.symm

theorem errs_of {W : World} (h : laidMetH Tryd.prog lst W) : ∃ a0 a1 a2 a3, ErrsAt W a0 a1 a2 a3 := by
  have h' : laidMet Tryd.prog lst W := h
  obtain ⟨a0, a1, v0, v1, n01, b0, b1⟩ := two_of h' g_inv gt_inv g_ran gt_ran
  obtain ⟨x0, a2, w0, v2, n02, _, b2⟩ := two_of (laidMet_skip h') g_inv gt_inv g_lim gt_lim
  obtain ⟨y0, a3, z0, v3, n03, _, b3⟩ := two_of (laidMet_skip (laidMet_skip h')) g_inv gt_inv g_not gt_not
  obtain ⟨x1, x2, w1, w2, n12, _, _⟩ := two_of h'.tail g_ran gt_ran g_lim gt_lim
  obtain ⟨y1, x3, z1, w3, n13, _, _⟩ := two_of (laidMet_skip h'.tail) g_ran gt_ran g_not gt_not
  obtain ⟨y2, y3, z2, z3, n23, _, _⟩ := two_of h'.tail.tail g_lim gt_lim g_not gt_not
  obtain rfl := errV_inj v0 w0
  obtain rfl := errV_inj v0 z0
  obtain rfl := errV_inj v1 w1
  obtain rfl := errV_inj v1 z1
  obtain rfl := errV_inj v2 w2
  obtain rfl := errV_inj v2 z2
  obtain rfl := errV_inj v3 w3
  obtain rfl := errV_inj v3 z3
  exact ⟨_, _, _, _, v0, v1, v2, v3, b0, b1, b2, b3, n01, n02, n03, n12, n13, n23⟩

end Go.Proofs.YtdccmdcgbembpaaDoor

namespace Go.Proofs.YtdccmdcgbembpaaDoor
open Go.RowKit Go.Extern.Stop Go.Stop Go.Extern

/-- The handle of the sentinels' type. -/
noncomputable def errH : Value := typeHandle Tryd.prog 211
theorem is_typeOf (v : Value) (w : World) : (Extern.ReflectliteType.typeOf #[.iface 211 v]).run Tryd.prog w = .ok (.iface 197 (.agg #[errH])) w := by kernel_rfl
theorem is_comparable (w : World) : (Extern.ReflectliteType.method (fun t => do Extern.Rtype.noPackHeld "Comparable" t; (fun a => Value.bool a.comparable) <$> typeInfo t) #[.agg #[errH]]).run Tryd.prog w = .ok (.bool true) w := by kernel_rfl
theorem is_method (n : Nat) (v : Value) (w : World) : (Go.method (n + 1) 197 v "Comparable").run Tryd.prog w = .ok (174, v) w := by kernel_rfl
theorem is_comp : (Tryd.prog.info? 211).map (·.comparable) = some true := by kernel_rfl
theorem is_size : (Tryd.prog.info? 236).map (·.size) = some 1 := by kernel_rfl
theorem is_noIs (v : Value) (xT : TypeId) (w : World) : (Instr.typeAssert (.iface 211 v) xT 199 true).run Tryd.prog w = .ok (.tuple #[.nilIface, .bool false]) w := run_typeAssert_lacksB Tryd.underlying199 (by kernel_rfl) (by kernel_rfl) v xT w
theorem is_noUnwrap (v : Value) (xT : TypeId) (w : World) : (Instr.typeAssert (.iface 211 v) xT 202 true).run Tryd.prog w = .ok (.tuple #[.nilIface, .bool false]) w := run_typeAssert_lacksB Tryd.underlying202 (by kernel_rfl) (by kernel_rfl) v xT w
theorem is_noUnwraps (v : Value) (xT : TypeId) (w : World) : (Instr.typeAssert (.iface 211 v) xT 204 true).run Tryd.prog w = .ok (.tuple #[.nilIface, .bool false]) w := run_typeAssert_lacksB Tryd.underlying204 (by kernel_rfl) (by kernel_rfl) v xT w

set_option maxRecDepth 1000000 in
theorem is_same {W : World} (a : Addr) : Calls Tryd.prog 133 #[errV a, errV a, .bool true] W fun e w' => e = .returned (.bool true) ∧ W = w' := by
  obtain ⟨i, hi, hcmp⟩ := Option.map_eq_some_iff.1 is_comp
  obtain ⟨j, hj, hjs⟩ := Option.map_eq_some_iff.1 is_size
  have heq := fun w => run_eql_iface_ptr_same (P := Tryd.prog) w a Tryd.underlying88 Tryd.underlying211 hi hcmp hj
  unfold errV
  go_enter Tryd.func133, Tryd.ntmps133
  go_wp2
  go_loopw [0] (fun E wl => wl = W ∧ E = .iface 211 (.pointer (some a))) (fun _ _ => 0)
  case atStart => exact ⟨rfl, rfl⟩
  case round =>
    obtain ⟨rfl, rfl⟩ := hrel
    go_wp2
    go_ret
    exact ⟨rfl, rfl⟩

set_option maxRecDepth 1000000 in
theorem is_other {W : World} {a b : Addr} (hne : a ≠ b) (ha : Plain0 W a) (hb : Plain0 W b) : Calls Tryd.prog 133 #[errV a, errV b, .bool true] W fun e w' => e = .returned (.bool false) ∧ W = w' := by
  obtain ⟨i, hi, hcmp⟩ := Option.map_eq_some_iff.1 is_comp
  obtain ⟨j, hj, hjs⟩ := Option.map_eq_some_iff.1 is_size
  obtain ⟨ca, ta, ha⟩ := ha
  obtain ⟨cb, tb, hb⟩ := hb
  have heq := run_eql_iface_ptr_other (P := Tryd.prog) W Tryd.underlying88 Tryd.underlying211 hi hcmp hj (by rw [hjs]; decide) hne ha hb
  have nE := is_noIs
  have uE := is_noUnwrap
  have vE := is_noUnwraps
  unfold errV
  go_enter Tryd.func133, Tryd.ntmps133
  go_wp2
  go_loopw [0] (fun E wl => wl = W ∧ E = .iface 211 (.pointer (some a))) (fun _ _ => 0)
  case atStart => exact ⟨rfl, rfl⟩
  case round =>
    obtain ⟨rfl, rfl⟩ := hrel
    go_wp2
    go_ret
    exact ⟨rfl, rfl⟩

/-- errors.Is of an error and a sentinel. -/
def IsB (W : World) (E : Value) (b : Addr) (r : Bool) : Prop := Calls Tryd.prog 104 #[E, errV b] W fun e w' => e = .returned (.bool r) ∧ W = w'

set_option maxRecDepth 1000000 in
theorem isB_nil (W : World) (b : Addr) : IsB W .nilIface b false := by
  have hn := run_eql_iface_nil_left (P := Tryd.prog) W 211 (.pointer (some b)) Tryd.underlying88
  unfold IsB errV
  go_enter Tryd.func104, Tryd.ntmps104
  go_wp2
  go_ret
  exact ⟨rfl, rfl⟩

set_option maxRecDepth 1000000 in
theorem isB_some (W : World) (a b : Addr) (r : Bool) (h : Calls Tryd.prog 133 #[errV a, errV b, .bool true] W fun e w' => e = .returned (.bool r) ∧ W = w') : IsB W (errV a) b r := by
  have h10 := @run_callFunc_extern Tryd.prog 132 _ Extern.ReflectliteType.typeOf Tryd.func132 (by kernel_rfl) (by kernel_rfl) (by kernel_rfl) (by kernel_rfl)
  have h30 := @run_callFunc_extern Tryd.prog 174 _ (Extern.ReflectliteType.method fun t => do Extern.Rtype.noPackHeld "Comparable" t; pure (.bool (← typeInfo t).comparable)) Tryd.func174 (by kernel_rfl) (by kernel_rfl) (by kernel_rfl) (by kernel_rfl)
  have tT := is_typeOf
  have cT := is_comparable
  have mR := is_method
  unfold IsB
  unfold errV at *
  go_enter Tryd.func104, Tryd.ntmps104
  go_wp2_with (first | (go_at_call 133; refine h.mono ?_; rintro e w' ⟨rfl, rfl⟩) | go_in)
  go_ret
  exact ⟨rfl, rfl⟩

/-- The code of an error, told by which sentinel it is. -/
def errOf (a0 a1 a2 a3 : Addr) : Nat → Value
  | 0 => .nilIface
  | 1 => errV a0
  | 2 => errV a1
  | 3 => errV a2
  | _ => errV a3
def codeE : Nat → Int
  | 0 => 0
  | 1 => 1
  | 2 => 2
  | 3 => 3
  | _ => 6

theorem isB_of {W : World} {a0 a1 a2 a3 : Addr} (h : ErrsAt W a0 a1 a2 a3) (k : Nat) :
    IsB W (errOf a0 a1 a2 a3 k) a0 (k == 1) ∧ IsB W (errOf a0 a1 a2 a3 k) a1 (k == 2) ∧ IsB W (errOf a0 a1 a2 a3 k) a2 (k == 3) ∧ IsB W (errOf a0 a1 a2 a3 k) a3 (decide (4 ≤ k)) := by
  match k with
  | 0 => exact ⟨isB_nil _ _, isB_nil _ _, isB_nil _ _, isB_nil _ _⟩
  | 1 => exact ⟨isB_some _ _ _ _ (is_same _), isB_some _ _ _ _ (is_other h.n01 h.b0 h.b1), isB_some _ _ _ _ (is_other h.n02 h.b0 h.b2), isB_some _ _ _ _ (is_other h.n03 h.b0 h.b3)⟩
  | 2 => exact ⟨isB_some _ _ _ _ (is_other h.n01.symm h.b1 h.b0), isB_some _ _ _ _ (is_same _), isB_some _ _ _ _ (is_other h.n12 h.b1 h.b2), isB_some _ _ _ _ (is_other h.n13 h.b1 h.b3)⟩
  | 3 => exact ⟨isB_some _ _ _ _ (is_other h.n02.symm h.b2 h.b0), isB_some _ _ _ _ (is_other h.n12.symm h.b2 h.b1), isB_some _ _ _ _ (is_same _), isB_some _ _ _ _ (is_other h.n23 h.b2 h.b3)⟩
  | k + 4 =>
    have e : decide (4 ≤ k + 4) = true := decide_eq_true (by omega)
    have e1 : (k + 4 == 1) = false := by simp
    have e2 : (k + 4 == 2) = false := by simp
    have e3 : (k + 4 == 3) = false := by simp
    rw [e, e1, e2, e3]
    exact ⟨isB_some _ _ _ _ (is_other h.n03.symm h.b3 h.b0), isB_some _ _ _ _ (is_other h.n13.symm h.b3 h.b1), isB_some _ _ _ _ (is_other h.n23.symm h.b3 h.b2), isB_some _ _ _ _ (is_same _)⟩

set_option maxRecDepth 1000000 in
theorem codeOf_any {W : World} {a0 a1 a2 a3 : Addr} (h : ErrsAt W a0 a1 a2 a3) (k : Nat) :
    Calls Tryd.prog 50 #[errOf a0 a1 a2 a3 k] W fun e w' => e = .returned (.int .i64 (codeE k)) ∧ W = w' := by
  obtain ⟨i0, i1, i2, i3⟩ := isB_of h k
  have c0 := h.v0
  have c1 := h.v1
  have c2 := h.v2
  have c3 := h.v3
  unfold IsB at i0 i1 i2 i3
  have I0 := Lib.hid i0
  have I1 := Lib.hid i1
  have I2 := Lib.hid i2
  have I3 := Lib.hid i3
  clear i0 i1 i2 i3 h
  match k with
  | 0 =>
    go_enter Tryd.func50, Tryd.ntmps50
    go_wp2_with (first | (go_at_call 104; (with_reducible refine I0.out.mono ?_); rintro e w' ⟨rfl, rfl⟩) | (go_at_call 104; (with_reducible refine I1.out.mono ?_); rintro e w' ⟨rfl, rfl⟩) | (go_at_call 104; (with_reducible refine I2.out.mono ?_); rintro e w' ⟨rfl, rfl⟩) | (go_at_call 104; (with_reducible refine I3.out.mono ?_); rintro e w' ⟨rfl, rfl⟩))
    go_ret
    exact ⟨rfl, rfl⟩
  | 1 =>
    go_enter Tryd.func50, Tryd.ntmps50
    go_wp2_with (go_at_call 104; (with_reducible refine I0.out.mono ?_); rintro e w' ⟨rfl, rfl⟩)
    go_ret
    exact ⟨rfl, rfl⟩
  | 2 =>
    go_enter Tryd.func50, Tryd.ntmps50
    go_wp2_with (first | (go_at_call 104; (with_reducible refine I0.out.mono ?_); rintro e w' ⟨rfl, rfl⟩) | (go_at_call 104; (with_reducible refine I1.out.mono ?_); rintro e w' ⟨rfl, rfl⟩))
    go_ret
    exact ⟨rfl, rfl⟩
  | 3 =>
    go_enter Tryd.func50, Tryd.ntmps50
    go_wp2_with (first | (go_at_call 104; (with_reducible refine I0.out.mono ?_); rintro e w' ⟨rfl, rfl⟩) | (go_at_call 104; (with_reducible refine I1.out.mono ?_); rintro e w' ⟨rfl, rfl⟩) | (go_at_call 104; (with_reducible refine I2.out.mono ?_); rintro e w' ⟨rfl, rfl⟩))
    go_ret
    exact ⟨rfl, rfl⟩
  | k + 4 =>
    go_enter Tryd.func50, Tryd.ntmps50
    go_wp2_with (first | (go_at_call 104; (with_reducible refine I0.out.mono ?_); rintro e w' ⟨rfl, rfl⟩) | (go_at_call 104; (with_reducible refine I1.out.mono ?_); rintro e w' ⟨rfl, rfl⟩) | (go_at_call 104; (with_reducible refine I2.out.mono ?_); rintro e w' ⟨rfl, rfl⟩) | (go_at_call 104; (with_reducible refine I3.out.mono ?_); rintro e w' ⟨rfl, rfl⟩))
    go_ret
    exact ⟨rfl, rfl⟩

/-- Which error a call is refused with. -/
def refN (v r f : Bool) : Nat := if !v then 1 else if !r then 2 else if !f then 3 else 0

set_option maxRecDepth 1000000 in
theorem refusal_any {W : World} {a0 a1 a2 a3 : Addr} (h : ErrsAt W a0 a1 a2 a3) (v r f : Bool) :
    Calls Tryd.prog 48 #[.bool v, .bool r, .bool f] W fun e w' => e = .returned (errOf a0 a1 a2 a3 (refN v r f)) ∧ W = w' := by
  have c0 := h.v0
  have c1 := h.v1
  have c2 := h.v2
  cases v <;> cases r <;> cases f
  all_goals
    go_enter Tryd.func48, Tryd.ntmps48
    go_wp2
    go_ret
    exact ⟨rfl, rfl⟩

end Go.Proofs.YtdccmdcgbembpaaDoor

namespace Go.Proofs.YtdccmdcgbembpaaDoor
open Go.ChangeShapes Go.WideShapes Go.ChangeAt Go.RowKit Go.Deep Go.Joins

theorem codeE_ne {n : Nat} (h : n ≠ 0) : (codeE n != 0) = true := by
  match n, h with
  | 1, _ => rfl
  | 2, _ => rfl
  | 3, _ => rfl
  | n + 4, _ => rfl
theorem refN_ok {v r f : Bool} : refN v r f = 0 ↔ (v = true ∧ r = true ∧ f = true) := by cases v <;> cases r <;> cases f <;> decide





theorem cut_mid {q : Nat} {o1 : Ordering} (h0 : FloatKind.f32.format.order q 0 = some .gt) (h1 : FloatKind.f32.format.order q 1065353216 = some o1) (hn : o1 ≠ .gt) : cutB q = q := by
  unfold cutB
  rw [if_pos h0, h1, if_neg (fun e => hn (by injection e))]
theorem cut_top {q : Nat} (h0 : FloatKind.f32.format.order q 0 = some .gt) (h1 : FloatKind.f32.format.order q 1065353216 = some .gt) : cutB q = 1065353216 := by
  unfold cutB
  rw [if_pos h0, if_pos h1]

set_option maxRecDepth 100000 in
set_option maxHeartbeats 1000000 in
theorem l04Part_zero (o dr gp tl : Nat) (hs ts : List Int) (hh : hs.length = 24) (ht : ts.length = 24) (fc hour : Int) (k : HrOk hs ts hour fc) (hf : fallOf hs ts hour fc = 0) (g1 g2 : Nat) (T1 T2 : TypeId) (f1 f2 : Nat × Nat) (w : World) (q1 : w.heap[g1]? = some (.cells (awC o dr gp tl) T1 f1)) (q2 : w.heap[g2]? = some (.cells (sunC hs ts) T2 f2)) :
    Calls Tryd.prog 141 #[.pointer (some ⟨g1, 0, none⟩), .pointer (some ⟨g2, 0, none⟩), .int .i64 hour, .int .i64 fc] w fun e w' => e = .returned (.float .f32 0) ∧ Below w.heap.size w w' := by
  have HF := Lib.hid (fun w (h : w.heap[g2]? = some (.cells (sunC hs ts) T2 f2)) => l01Fall_any g2 hs ts hh ht hour fc k.h0 k.h1 k.f0 k.f1 k.x1 k.y0 k.y1 T2 f2 w h)
  rw [hf] at HF
  have ho := fall_eq
  have H1 := Lib.hid q1
  have H2 := Lib.hid q2
  have hb : Below w.heap.size w w := Below.refl _ _
  clear k hf hh ht q1 q2
  go_enter Tryd.func141, Tryd.ntmps141
  go_wp2_with (go_at_call 78; refine (HF.out _ H2.out).mono ?_; rintro e W1 ⟨rfl, hb1⟩; replace H1 := Lib.hid (below_row hb1 H1.out); replace H2 := Lib.hid (below_row hb1 H2.out); replace hb := hb.trans (hb1.mono hb.size); clear hb1)
  go_ret
  exact ⟨rfl, hb⟩

set_option maxRecDepth 100000 in
set_option maxHeartbeats 1000000 in
theorem l04Part_pos {o dr gp tl : Nat} (aw : AwOk o dr gp tl) (hs ts : List Int) (hh : hs.length = 24) (ht : ts.length = 24) (fc hour : Int) (k : HrOk hs ts hour fc) (f : Nat) (hf : fallOf hs ts hour fc = f) (f0 : 975015322 ≤ f) (f1 : f ≤ 1065353216) (x0 : 0 < atH hs hour) (g1 g2 : Nat) (T1 T2 : TypeId) (fr1 fr2 : Nat × Nat) (w : World) (q1 : w.heap[g1]? = some (.cells (awC o dr gp tl) T1 fr1)) (q2 : w.heap[g2]? = some (.cells (sunC hs ts) T2 fr2)) :
    Calls Tryd.prog 141 #[.pointer (some ⟨g1, 0, none⟩), .pointer (some ⟨g2, 0, none⟩), .int .i64 hour, .int .i64 fc] w fun e w' => e = .returned (.float .f32 (cutB (quoA o dr gp tl (atH hs hour) f))) ∧ Below w.heap.size w w' := by
  have HF := Lib.hid (fun w (h : w.heap[g2]? = some (.cells (sunC hs ts) T2 fr2)) => l01Fall_any g2 hs ts hh ht hour fc k.h0 k.h1 k.f0 k.f1 k.x1 k.y0 k.y1 T2 fr2 w h)
  rw [hf] at HF
  have HG := Lib.hid (fun w => l01Sine_any (atH hs hour) w)
  rw [angB_id (atH hs hour) (Int.le_of_lt x0) (Int.le_trans k.x1 (by decide))] at HG
  have ho := fall_gt f0 f1
  obtain ⟨r1, r2, r3, r4, r5, r6⟩ := shade_facts aw.o aw.d aw.g aw.t0 aw.t1 x0 k.x1 f0 f1
  have hq := quoA_lt r5
  obtain ⟨oq, hoq⟩ := order_some r6 zero_fin
  obtain ⟨o1, ho1⟩ := order_some r6 (num_fin (num_of_isNum (x := 1065353216) (.inl (by decide))))
  obtain ⟨n, rfl⟩ := Int.eq_ofNat_of_zero_le k.h0
  have hn : n < 24 := by have := k.h1; omega
  have e1 : hs[n]?.getD 0 = atH hs (n : Int) := by unfold atH; rw [Int.toNat_natCast]
  generalize quoA o dr gp tl (atH hs (n : Int)) f = q at *
  generalize depB o dr (atH hs (n : Int)) f = de at *
  generalize ratB (atH hs (n : Int)) f = ra at *
  generalize sineB (atH hs (n : Int)) = sx at *
  generalize fsub de gp = su at *
  generalize fmul o ra = mu at *
  have z1 := run_qf _ _ _ _ r1
  have z2 := run_qf _ _ _ _ r2
  have z3 := run_qf _ _ _ _ r3
  have z4 := run_qf _ _ _ _ r4
  have z5 := run_qf _ _ _ _ r5
  have cx := cell_sun_h q2 hh n hn
  rw [e1] at cx
  have b0 := k.x0
  have b1 := k.x1
  clear e1
  generalize atH hs (n : Int) = x at *
  obtain ⟨c0, c1, c2, c3⟩ := aw_cells q1
  have hb : Below w.heap.size w w := Below.refl _ _
  have H2 := Lib.hid q2
  clear k hf r1 r2 r3 r4 r5 x0 f0 f1 aw q1 q2 hh ht r6 hq
  go_enter Tryd.func141, Tryd.ntmps141
  go_upto_region 5 with (first | (go_at_call 78; refine (HF.out _ H2.out).mono ?_; rintro e W1 ⟨rfl, hb1⟩; replace c0 := cell_belowB hb1 c0; replace c1 := cell_belowB hb1 c1; replace c2 := cell_belowB hb1 c2; replace c3 := cell_belowB hb1 c3; replace cx := cell_belowB hb1 cx; replace hb := hb.trans (hb1.mono hb.size); clear hb1) | (go_at_call 139; refine (HG.out _).mono ?_; rintro e w2 ⟨rfl, rfl⟩))
  refine wp_region_held_drew (S := (fun V => Below W1.heap.size W1 V)) (by kernel_rfl) ((Below.refl _ _).drew) (fun hHeld => ?_)
  refine take_op (i := 0) (d := 29) (v := ?_) rfl rfl (by kernel_rfl) (by kernel_rfl) (by kernel_rfl) (fun _ _ _ h => h) (Or.inl ⟨by rfl, ?hy0u1⟩) hHeld ?rest0u1
  case hy0u1 =>
    intro w' hS'
    go_simp
    try with_reducible rfl
  simp only [List.setIfInBounds_toArray, List.set_cons_zero, List.set_cons_succ]
  refine take_op (i := 1) (d := 30) (v := ?_) rfl rfl (by kernel_rfl) (by kernel_rfl) (by kernel_rfl) (fun _ _ _ h => h) (Or.inl ⟨by rfl, ?hy1u2⟩) hHeld ?rest1u2
  case hy1u2 =>
    intro w' hS'
    go_simp
    try with_reducible rfl
  simp only [List.setIfInBounds_toArray, List.set_cons_zero, List.set_cons_succ]
  refine take_op (i := 2) (d := 31) (v := ?_) rfl rfl (by kernel_rfl) (by kernel_rfl) (by kernel_rfl) (fun _ _ _ h => h) (Or.inl ⟨by rfl, ?hy2u3⟩) hHeld ?rest2u3
  case hy2u3 =>
    intro w' hS'
    go_simp
    try with_reducible rfl
  simp only [List.setIfInBounds_toArray, List.set_cons_zero, List.set_cons_succ]
  refine take_op (i := 3) (d := 32) (v := ?_) rfl rfl (by kernel_rfl) (by kernel_rfl) (by kernel_rfl) (fun _ _ _ h => h) (Or.inl ⟨by rfl, ?hy3u4⟩) hHeld ?rest3u4
  case hy3u4 =>
    intro w' hS'
    have c0 := cell_belowB hS' c0
    have c1 := cell_belowB hS' c1
    have c2 := cell_belowB hS' c2
    have c3 := cell_belowB hS' c3
    have cx := cell_belowB hS' cx
    go_simp
    try with_reducible rfl
  simp only [List.setIfInBounds_toArray, List.set_cons_zero, List.set_cons_succ]
  refine take_op (i := 4) (d := 33) (v := ?_) rfl rfl (by kernel_rfl) (by kernel_rfl) (by kernel_rfl) (fun _ _ _ h => h) (Or.inl ⟨by rfl, ?hy4u5⟩) hHeld ?rest4u5
  case hy4u5 =>
    intro w' hS'
    go_simp
    try with_reducible rfl
  simp only [List.setIfInBounds_toArray, List.set_cons_zero, List.set_cons_succ]
  refine take_op (i := 5) (d := 34) (v := ?_) rfl rfl (by kernel_rfl) (by kernel_rfl) (by kernel_rfl) (fun _ _ _ h => h) (Or.inl ⟨by rfl, ?hy5u6⟩) hHeld ?rest5u6
  case hy5u6 =>
    intro w' hS'
    go_simp
    try with_reducible rfl
  simp only [List.setIfInBounds_toArray, List.set_cons_zero, List.set_cons_succ]
  refine take_op (i := 6) (d := 35) (v := ?_) rfl rfl (by kernel_rfl) (by kernel_rfl) (by kernel_rfl) (fun _ _ _ h => h) (Or.inl ⟨by rfl, ?hy6u7⟩) hHeld ?rest6u7
  case hy6u7 =>
    intro w' hS'
    go_simp
    try with_reducible rfl
  simp only [List.setIfInBounds_toArray, List.set_cons_zero, List.set_cons_succ]
  refine take_op (i := 7) (d := 36) (v := ?_) rfl rfl (by kernel_rfl) (by kernel_rfl) (by kernel_rfl) (fun _ _ _ h => h) (Or.inl ⟨by rfl, ?hy7u8⟩) hHeld ?rest7u8
  case hy7u8 =>
    intro w' hS'
    go_simp
    try with_reducible rfl
  simp only [List.setIfInBounds_toArray, List.set_cons_zero, List.set_cons_succ]
  refine take_op (i := 8) (d := 37) (v := ?_) rfl rfl (by kernel_rfl) (by kernel_rfl) (by kernel_rfl) (fun _ _ _ h => h) (Or.inl ⟨by rfl, ?hy8u9⟩) hHeld ?rest8u9
  case hy8u9 =>
    intro w' hS'
    go_simp
    try with_reducible rfl
  simp only [List.setIfInBounds_toArray, List.set_cons_zero, List.set_cons_succ]
  refine take_op (i := 9) (d := 38) (v := ?_) rfl rfl (by kernel_rfl) (by kernel_rfl) (by kernel_rfl) (fun _ _ _ h => h) (Or.inl ⟨by rfl, ?hy9u10⟩) hHeld ?rest9u10
  case hy9u10 =>
    intro w' hS'
    have c0 := cell_belowB hS' c0
    have c1 := cell_belowB hS' c1
    have c2 := cell_belowB hS' c2
    have c3 := cell_belowB hS' c3
    have cx := cell_belowB hS' cx
    go_simp
    try with_reducible rfl
  simp only [List.setIfInBounds_toArray, List.set_cons_zero, List.set_cons_succ]
  refine take_op (i := 10) (d := 39) (v := ?_) rfl rfl (by kernel_rfl) (by kernel_rfl) (by kernel_rfl) (fun _ _ _ h => h) (Or.inl ⟨by rfl, ?hy10u11⟩) hHeld ?rest10u11
  case hy10u11 =>
    intro w' hS'
    go_simp
    try with_reducible rfl
  simp only [List.setIfInBounds_toArray, List.set_cons_zero, List.set_cons_succ]
  refine take_op (i := 11) (d := 11) (v := ?_) rfl rfl (by kernel_rfl) (by kernel_rfl) (by kernel_rfl) (fun _ _ _ h => h) (Or.inl ⟨by rfl, ?hy11u12⟩) hHeld ?rest11u12
  case hy11u12 =>
    intro w' hS'
    go_simp
    try with_reducible rfl
  simp only [List.setIfInBounds_toArray, List.set_cons_zero, List.set_cons_succ]
  refine wpAnyH_done (by kernel_rfl) ?_ _
  revert hHeld
  generalize W1.drew = W3
  intro hHeld
  replace c0 := cell_belowB hHeld c0
  replace c1 := cell_belowB hHeld c1
  replace c2 := cell_belowB hHeld c2
  replace c3 := cell_belowB hHeld c3
  replace cx := cell_belowB hHeld cx
  replace hb := hb.trans (hHeld.mono hb.size)
  clear hHeld
  go_upto_region 6 with (fail)
  refine wp_region_held_drew (S := (fun V => Below W3.heap.size W3 V)) (by kernel_rfl) ((Below.refl _ _).drew) (fun hHeld => ?_)
  refine take_op (i := 0) (d := 40) (v := ?_) rfl rfl (by kernel_rfl) (by kernel_rfl) (by kernel_rfl) (fun _ _ _ h => h) (Or.inl ⟨by rfl, ?hy0u13⟩) hHeld ?rest0u13
  case hy0u13 =>
    intro w' hS'
    go_simp
    try with_reducible rfl
  simp only [List.setIfInBounds_toArray, List.set_cons_zero, List.set_cons_succ]
  refine take_op (i := 1) (d := 41) (v := ?_) rfl rfl (by kernel_rfl) (by kernel_rfl) (by kernel_rfl) (fun _ _ _ h => h) (Or.inl ⟨by rfl, ?hy1u14⟩) hHeld ?rest1u14
  case hy1u14 =>
    intro w' hS'
    go_simp
    try with_reducible rfl
  simp only [List.setIfInBounds_toArray, List.set_cons_zero, List.set_cons_succ]
  refine take_op (i := 2) (d := 42) (v := ?_) rfl rfl (by kernel_rfl) (by kernel_rfl) (by kernel_rfl) (fun _ _ _ h => h) (Or.inl ⟨by rfl, ?hy2u15⟩) hHeld ?rest2u15
  case hy2u15 =>
    intro w' hS'
    go_simp
    try with_reducible rfl
  simp only [List.setIfInBounds_toArray, List.set_cons_zero, List.set_cons_succ]
  refine take_op (i := 3) (d := 43) (v := ?_) rfl rfl (by kernel_rfl) (by kernel_rfl) (by kernel_rfl) (fun _ _ _ h => h) (Or.inl ⟨by rfl, ?hy3u16⟩) hHeld ?rest3u16
  case hy3u16 =>
    intro w' hS'
    go_simp
    try with_reducible rfl
  simp only [List.setIfInBounds_toArray, List.set_cons_zero, List.set_cons_succ]
  refine take_op (i := 4) (d := 44) (v := ?_) rfl rfl (by kernel_rfl) (by kernel_rfl) (by kernel_rfl) (fun _ _ _ h => h) (Or.inl ⟨by rfl, ?hy4u17⟩) hHeld ?rest4u17
  case hy4u17 =>
    intro w' hS'
    have c0 := cell_belowB hS' c0
    have c1 := cell_belowB hS' c1
    have c2 := cell_belowB hS' c2
    have c3 := cell_belowB hS' c3
    have cx := cell_belowB hS' cx
    go_simp
    try with_reducible rfl
  simp only [List.setIfInBounds_toArray, List.set_cons_zero, List.set_cons_succ]
  refine take_op (i := 5) (d := 45) (v := ?_) rfl rfl (by kernel_rfl) (by kernel_rfl) (by kernel_rfl) (fun _ _ _ h => h) (Or.inl ⟨by rfl, ?hy5u18⟩) hHeld ?rest5u18
  case hy5u18 =>
    intro w' hS'
    go_simp
    try with_reducible rfl
  simp only [List.setIfInBounds_toArray, List.set_cons_zero, List.set_cons_succ]
  refine take_op (i := 6) (d := 46) (v := ?_) rfl rfl (by kernel_rfl) (by kernel_rfl) (by kernel_rfl) (fun _ _ _ h => h) (Or.inl ⟨by rfl, ?hy6u19⟩) hHeld ?rest6u19
  case hy6u19 =>
    intro w' hS'
    go_simp
    try with_reducible rfl
  simp only [List.setIfInBounds_toArray, List.set_cons_zero, List.set_cons_succ]
  refine take_op (i := 7) (d := 47) (v := ?_) rfl rfl (by kernel_rfl) (by kernel_rfl) (by kernel_rfl) (fun _ _ _ h => h) (Or.inl ⟨by rfl, ?hy7u20⟩) hHeld ?rest7u20
  case hy7u20 =>
    intro w' hS'
    go_simp
    try with_reducible rfl
  simp only [List.setIfInBounds_toArray, List.set_cons_zero, List.set_cons_succ]
  refine take_op (i := 8) (d := 48) (v := ?_) rfl rfl (by kernel_rfl) (by kernel_rfl) (by kernel_rfl) (fun _ _ _ h => h) (Or.inl ⟨by rfl, ?hy8u21⟩) hHeld ?rest8u21
  case hy8u21 =>
    intro w' hS'
    go_simp
    try with_reducible rfl
  simp only [List.setIfInBounds_toArray, List.set_cons_zero, List.set_cons_succ]
  refine take_op (i := 9) (d := 49) (v := ?_) rfl rfl (by kernel_rfl) (by kernel_rfl) (by kernel_rfl) (fun _ _ _ h => h) (Or.inl ⟨by rfl, ?hy9u22⟩) hHeld ?rest9u22
  case hy9u22 =>
    intro w' hS'
    have c0 := cell_belowB hS' c0
    have c1 := cell_belowB hS' c1
    have c2 := cell_belowB hS' c2
    have c3 := cell_belowB hS' c3
    have cx := cell_belowB hS' cx
    go_simp
    try with_reducible rfl
  simp only [List.setIfInBounds_toArray, List.set_cons_zero, List.set_cons_succ]
  refine take_op (i := 10) (d := 50) (v := ?_) rfl rfl (by kernel_rfl) (by kernel_rfl) (by kernel_rfl) (fun _ _ _ h => h) (Or.inl ⟨by rfl, ?hy10u23⟩) hHeld ?rest10u23
  case hy10u23 =>
    intro w' hS'
    go_simp
    try with_reducible rfl
  simp only [List.setIfInBounds_toArray, List.set_cons_zero, List.set_cons_succ]
  refine take_op (i := 11) (d := 12) (v := ?_) rfl rfl (by kernel_rfl) (by kernel_rfl) (by kernel_rfl) (fun _ _ _ h => h) (Or.inl ⟨by rfl, ?hy11u24⟩) hHeld ?rest11u24
  case hy11u24 =>
    intro w' hS'
    go_simp
    try with_reducible rfl
  simp only [List.setIfInBounds_toArray, List.set_cons_zero, List.set_cons_succ]
  refine wpAnyH_done (by kernel_rfl) ?_ _
  revert hHeld
  generalize W3.drew = W4
  intro hHeld
  replace c0 := cell_belowB hHeld c0
  replace c1 := cell_belowB hHeld c1
  replace c2 := cell_belowB hHeld c2
  replace c3 := cell_belowB hHeld c3
  replace cx := cell_belowB hHeld cx
  replace hb := hb.trans (hHeld.mono hb.size)
  clear hHeld
  clear c0 c1 c2 c3 cx
  go_upto_region 7 with (fail)
  cases oq
  · have hc := Lib.hid (cut_le0 (.inl hoq))
    go_wp2
    go_ret
    exact ⟨ret_f32 hc.out.symm, hb⟩
  · have hc := Lib.hid (cut_le0 (.inr hoq))
    go_wp2
    go_ret
    exact ⟨ret_f32 hc.out.symm, hb⟩
  · cases o1
    · have hc := Lib.hid (cut_mid hoq ho1 (by decide))
      go_wp2
      go_ret
      exact ⟨ret_f32 hc.out.symm, hb⟩
    · have hc := Lib.hid (cut_mid hoq ho1 (by decide))
      go_wp2
      go_ret
      exact ⟨ret_f32 hc.out.symm, hb⟩
    · have hc := Lib.hid (cut_top hoq ho1)
      go_wp2
      go_ret
      exact ⟨ret_f32 hc.out.symm, hb⟩

theorem l04Part_any {o dr gp tl : Nat} (aw : AwOk o dr gp tl) (hs ts : List Int) (hh : hs.length = 24) (ht : ts.length = 24) (fc hour : Int) (k : HrOk hs ts hour fc) (g1 g2 : Nat) (T1 T2 : TypeId) (f1 f2 : Nat × Nat) (w : World) (q1 : w.heap[g1]? = some (.cells (awC o dr gp tl) T1 f1)) (q2 : w.heap[g2]? = some (.cells (sunC hs ts) T2 f2)) :
    Calls Tryd.prog 141 #[.pointer (some ⟨g1, 0, none⟩), .pointer (some ⟨g2, 0, none⟩), .int .i64 hour, .int .i64 fc] w fun e w' => e = .returned (.float .f32 (shB o dr gp tl (atH hs hour) (fallOf hs ts hour fc))) ∧ Below w.heap.size w w' := by
  by_cases x0 : 0 < atH hs hour
  · rcases fall_rng (atH hs hour) (atH ts hour - fc) x0 k.x1 with h | ⟨h0, h1⟩
    · rw [show fallOf hs ts hour fc = 0 from h, shB_zero]
      exact l04Part_zero o dr gp tl hs ts hh ht fc hour k h g1 g2 T1 T2 f1 f2 w q1 q2
    · rw [shB_pos (f := fallOf hs ts hour fc) h0]
      exact l04Part_pos aw hs ts hh ht fc hour k _ rfl h0 h1 x0 g1 g2 T1 T2 f1 f2 w q1 q2
  · have h : fallOf hs ts hour fc = 0 := if_neg x0
    rw [h, shB_zero]
    exact l04Part_zero o dr gp tl hs ts hh ht fc hour k h g1 g2 T1 T2 f1 f2 w q1 q2

set_option maxRecDepth 100000 in
set_option maxHeartbeats 1000000 in
theorem l04Behind_any {o dr gp tl : Nat} (aw : AwOk o dr gp tl) (hs ts : List Int) (hh : hs.length = 24) (ht : ts.length = 24) (fc hour : Int) (k : HrOk hs ts hour fc) (g1 g2 : Nat) (T1 T2 : TypeId) (f1 f2 : Nat × Nat) (w : World) (q1 : w.heap[g1]? = some (.cells (awC o dr gp tl) T1 f1)) (q2 : w.heap[g2]? = some (.cells (sunC hs ts) T2 f2)) :
    Calls Tryd.prog 123 #[.pointer (some ⟨g1, 0, none⟩), .pointer (some ⟨g2, 0, none⟩), .int .i64 hour, .int .i64 fc] w fun e w' => e = .returned (.float .f32 (behOf o dr gp tl hs ts hour fc)) ∧ Below w.heap.size w w' := by
  have HF := Lib.hid (fun w (h : w.heap[g2]? = some (.cells (sunC hs ts) T2 f2)) => l01Fall_any g2 hs ts hh ht hour fc k.h0 k.h1 k.f0 k.f1 k.x1 k.y0 k.y1 T2 f2 w h)
  have HP := Lib.hid (fun w (h : w.heap[g1]? = some (.cells (awC o dr gp tl) T1 f1)) (h' : w.heap[g2]? = some (.cells (sunC hs ts) T2 f2)) => l04Part_any aw hs ts hh ht fc hour k g1 g2 T1 T2 f1 f2 w h h')
  obtain ⟨r1, r2, _⟩ := beh_facts (fall_le k) (shB_le aw k)
  unfold behOf
  generalize shB o dr gp tl (atH hs hour) (fallOf hs ts hour fc) = p at *
  generalize fallOf hs ts hour fc = f at *
  have z1 := run_qf _ _ _ _ r1
  have z2 := run_qf _ _ _ _ r2
  have H1 := Lib.hid q1
  have H2 := Lib.hid q2
  have hb : Below w.heap.size w w := Below.refl _ _
  clear k r1 r2 aw hh ht q1 q2
  go_enter Tryd.func123, Tryd.ntmps123
  go_wp2_with (first | (go_at_call 78; refine (HF.out _ H2.out).mono ?_; rintro e W1 ⟨rfl, hb1⟩; replace H1 := Lib.hid (below_row hb1 H1.out); replace H2 := Lib.hid (below_row hb1 H2.out); replace hb := hb.trans (hb1.mono hb.size); clear hb1) | (go_at_call 141; refine (HP.out _ H1.out H2.out).mono ?_; rintro e W2 ⟨rfl, hb2⟩; replace H1 := Lib.hid (below_row hb2 H1.out); replace H2 := Lib.hid (below_row hb2 H2.out); replace hb := hb.trans (hb2.mono hb.size); clear hb2))
  go_ret
  exact ⟨rfl, hb⟩

end Go.Proofs.YtdccmdcgbembpaaDoor

namespace Go.Proofs.YtdccmdcgbembpaaDoor
open Go.ChangeShapes Go.WideShapes Go.ChangeAt Go.RowKit Go.Deep Go.Joins

/-- Is the awning out in this hour? -/
def bitB (out : Int) (k : Nat) : Bool := bits .and .u32 (out / 2 ^ k) 1 == 1
def gusB (o dr gp tl : Nat) (hs ts : List Int) (fc out : Int) (k : Nat) : Nat := if bitB out k = true then behOf o dr gp tl hs ts (k : Int) fc else fallOf hs ts (k : Int) fc
theorem bit_all : ∀ k : Nat, k < 24 → bitB 16777215 k = true := by decide +kernel
theorem gus_le {o dr gp tl : Nat} (aw : AwOk o dr gp tl) {hs ts : List Int} {fc : Int} (out : Int) {k : Nat} (h : HrOk hs ts (k : Int) fc) : gusB o dr gp tl hs ts fc out k ≤ 1065353216 := by
  unfold gusB
  split
  · exact beh_le aw h
  · exact fall_le h
theorem pos_le {x : Nat} (h : x ≤ 1065353216) : pos32 x = true := pos_of_lt (by omega)



set_option maxRecDepth 100000 in
set_option maxHeartbeats 1000000 in
theorem l04Gusty_any {o dr gp tl : Nat} (aw : AwOk o dr gp tl) (hs ts : List Int) (hh : hs.length = 24) (ht : ts.length = 24) (fc out : Int) (u : 0 ≤ out ∧ out ≤ 4294967295) (q : ∀ k : Nat, k < 24 → HrOk hs ts (k : Int) fc) (g1 g2 : Nat) (T1 T2 : TypeId) (f1 f2 : Nat × Nat) (w : World) (q1 : w.heap[g1]? = some (.cells (awC o dr gp tl) T1 f1)) (q2 : w.heap[g2]? = some (.cells (sunC hs ts) T2 f2)) :
    Calls Tryd.prog 89 #[.pointer (some ⟨g1, 0, none⟩), .pointer (some ⟨g2, 0, none⟩), .int .i64 fc, .int .u32 out] w fun e w' => e = .returned (.float .f32 (sumTo (gusB o dr gp tl hs ts fc out) 24)) ∧ Below w.heap.size w w' := by
  obtain ⟨u0, u1⟩ := u
  have HB := Lib.hid (fun (k : Nat) (hk : k < 24) w' (h : Below w.heap.size w w') => l04Behind_any aw hs ts hh ht fc (k : Int) (q k hk) g1 g2 T1 T2 f1 f2 w' (below_row h q1) (below_row h q2))
  have HF := Lib.hid (fun (k : Nat) (hk : k < 24) w' (h : Below w.heap.size w w') => l01Fall_any g2 hs ts hh ht (k : Int) fc (q k hk).h0 (q k hk).h1 (q k hk).f0 (q k hk).f1 (q k hk).x1 (q k hk).y0 (q k hk).y1 T2 f2 w' (below_row h q2))
  have HPOS : Hid (∀ k : Nat, k < 24 → pos32 (gusB o dr gp tl hs ts fc out k) = true) := fun k hk => pos_le (gus_le aw out (q k hk))
  clear aw q q1 q2 hh ht
  go_enter Tryd.func89, Tryd.ntmps89
  go_wp2
  go_loopw [9, 10] (fun s i wr => ∃ k : Nat, k ≤ 24 ∧ i = .int .i64 k ∧ s = .float .f32 (sumTo (gusB o dr gp tl hs ts fc out) k) ∧ Below w.heap.size w wr) (fun _ i _ => 24 - (intOf i).toNat)
  case atStart => exact ⟨0, Nat.zero_le _, rfl, rfl, Below.refl _ _⟩
  case round =>
    obtain ⟨k, hk, rfl, rfl, hb⟩ := hrel
    by_cases hlt : k < 24
    · have hp : pos32 (sumTo (gusB o dr gp tl hs ts fc out) k) = true := sumTo_pos _ 24 (fun j hj => HPOS.out j hj) k hk
      have hgp := HPOS.out k hlt
      have hs1 := sumTo_succ (gusB o dr gp tl hs ts fc out) k
      cases hbt : bitB out k
      · have hgk : gusB o dr gp tl hs ts fc out k = fallOf hs ts (k : Int) fc := if_neg (by rw [hbt]; decide)
        rw [hgk] at hs1 hgp
        have HS1 := Lib.hid hs1
        have radd : ∀ T w, (binOp .add T (.float .f32 (sumTo (gusB o dr gp tl hs ts fc out) k)) (.float .f32 (fallOf hs ts (k : Int) fc))).run Tryd.prog w = .ok (.float .f32 (fadd (sumTo (gusB o dr gp tl hs ts fc out) k) (fallOf hs ts (k : Int) fc))) w := fun T w => run_float_arith w .add T .f32 _ _ _ (add_ok hp hgp).1
        unfold bitB at hbt
        clear hs1 hgp hp hgk
        go_wp2_with (go_at_call 78; refine (HF.out k hlt _ hb).mono ?_; rintro e w1 ⟨rfl, hb1⟩; replace hb := hb.trans (hb1.mono hb.size); clear hb1)
        go_roundw
        case rel => exact ⟨k + 1, by omega, by go_num, by rw [HS1.out], hb⟩
        case measure => simp [intOf]; omega
      · have hgk : gusB o dr gp tl hs ts fc out k = behOf o dr gp tl hs ts (k : Int) fc := if_pos hbt
        rw [hgk] at hs1 hgp
        have HS1 := Lib.hid hs1
        have radd : ∀ T w, (binOp .add T (.float .f32 (sumTo (gusB o dr gp tl hs ts fc out) k)) (.float .f32 (behOf o dr gp tl hs ts (k : Int) fc))).run Tryd.prog w = .ok (.float .f32 (fadd (sumTo (gusB o dr gp tl hs ts fc out) k) (behOf o dr gp tl hs ts (k : Int) fc))) w := fun T w => run_float_arith w .add T .f32 _ _ _ (add_ok hp hgp).1
        unfold bitB at hbt
        clear hs1 hgp hp hgk
        go_wp2_with (go_at_call 123; refine (HB.out k hlt _ hb).mono ?_; rintro e w1 ⟨rfl, hb1⟩; replace hb := hb.trans (hb1.mono hb.size); clear hb1)
        go_roundw
        case rel => exact ⟨k + 1, by omega, by go_num, by rw [HS1.out], hb⟩
        case measure => simp [intOf]; omega
    · obtain rfl : k = 24 := by omega
      go_wp2
      go_ret
      exact ⟨rfl, hb⟩

theorem gus_full (o dr gp tl : Nat) (hs ts : List Int) (fc : Int) : sumTo (gusB o dr gp tl hs ts fc 16777215) 24 = sumTo (fun k => behOf o dr gp tl hs ts (k : Int) fc) 24 := by
  have h : ∀ n, n ≤ 24 → sumTo (gusB o dr gp tl hs ts fc 16777215) n = sumTo (fun k => behOf o dr gp tl hs ts (k : Int) fc) n := by
    intro n
    induction n with
    | zero => intro _; rfl
    | succ n ih => intro hn; rw [sumTo_succ, sumTo_succ, ih (by omega), show gusB o dr gp tl hs ts fc 16777215 n = behOf o dr gp tl hs ts (n : Int) fc from if_pos (bit_all n (by omega))]
  exact h 24 (Nat.le_refl _)

end Go.Proofs.YtdccmdcgbembpaaDoor
