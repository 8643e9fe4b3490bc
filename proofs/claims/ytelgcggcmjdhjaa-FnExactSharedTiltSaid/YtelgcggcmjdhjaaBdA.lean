/-
  Lists of blinds that came in: how they are opened, and how the laws' helpers copy and compare them.
-/
import Derived.Test.YtelgcggcmjdhjaaGenL
import Derived.Test.YtelgcggcmjdhjaaSameN
import Derived.Test.YtelgcggcmjdhjaaBlind
import Derived.Test.YtelgcggcmjdhjaaLaw
import Derived.Deep.Slices
import Derived.Deep.OwnRows
import Derived.Deep.Fields
import Derived.Deep.Strs
namespace Go.Proofs.Ytelgcggcmjdhjaa
open Go.ChangeShapes Go.WideShapes Go.ChangeAt Go.RowKit Go.Deep Go.Joins

attribute [local go_sem] run_store_f

/-- A blind: slats, wide, gap, tilt, shine. -/
abbrev Bd := Int × Nat × Nat × Int × Nat
def bdC (x : Bd) : Array Value := blindC x.1 x.2.1 x.2.2.1 x.2.2.2.1 x.2.2.2.2
def BdWf (x : Bd) : Prop := BlWf x.1 x.2.1 x.2.2.1 x.2.2.2.1 x.2.2.2.2
def BdsAt (W : World) (v : Value) (ws : List Bd) : Prop :=
  ∃ a cap, v = .slice a ws.length cap ∧ ws.length ≤ cap ∧ cap ≤ maxLen ∧ ∀ i x, ws[i]? = some x → ∃ g o, a = some ⟨g, o, none⟩ ∧ ∀ j v, (bdC x)[j]? = some v → W.cell? ⟨g, o + i * 5 + j, none⟩ = some v
theorem bds_below {W W' : World} {v : Value} {ws : List Bd} (h : BdsAt W v ws) (hb : Below W.heap.size W W') : BdsAt W' v ws := by
  obtain ⟨a, cap, h1, h2, h3, h4⟩ := h
  refine ⟨a, cap, h1, h2, h3, fun i x hx => ?_⟩
  obtain ⟨g, o, e, c0⟩ := h4 i x hx
  exact ⟨g, o, e, fun j v hv => cell_below hb (c0 j v hv)⟩
theorem bd_at {W : World} {a : Option Addr} {n cap : Nat} {ws : List Bd} (h : BdsAt W (.slice a n cap) ws) {k : Nat} {x : Bd} (hx : ws[k]? = some x) :
    ∃ g o, a = some ⟨g, o, none⟩ ∧ ∀ j v, (bdC x)[j]? = some v → W.cell? ⟨g, o + k * 5 + j, none⟩ = some v := by
  obtain ⟨a', cap', e, _, _, h4⟩ := h
  injection e with e1 e2 e3
  subst e1
  exact h4 k x hx
theorem trod_struct5 {P : Program} {H : Type} {enc : TypeId × Value → H} {w : World} {base : Nat} {spare : Nat → Bool} {held : Bool} {t : TypeId} {f0 f1 f2 f3 f4 : Field} {fuel : Nat} {cs : List Value} {x : DataW H × List MemPlace} (ht : P.underlying t = some (.struct #[f0, f1, f2, f3, f4])) (h : DataW.trod enc P w base spare held fuel t cs = some x) :
    ∃ y0 y1 y2 y3 y4 n, DataW.trod enc P w base spare held n f0.type ((cs.drop f0.offset).take (P.cellsOf f0.type)) = some y0 ∧
      DataW.trod enc P w base spare held n f1.type ((cs.drop f1.offset).take (P.cellsOf f1.type)) = some y1 ∧ DataW.trod enc P w base spare held n f2.type ((cs.drop f2.offset).take (P.cellsOf f2.type)) = some y2 ∧
      DataW.trod enc P w base spare held n f3.type ((cs.drop f3.offset).take (P.cellsOf f3.type)) = some y3 ∧ DataW.trod enc P w base spare held n f4.type ((cs.drop f4.offset).take (P.cellsOf f4.type)) = some y4 := by
  obtain ⟨xs, n, _, rfl, hl, hlen, hf⟩ := DataW.trod_struct ht h
  match xs, hlen with
  | [y0, y1, y2, y3, y4], _ => exact ⟨y0, y1, y2, y3, y4, n, by simpa using hf 0 f0 rfl, by simpa using hf 1 f1 rfl, by simpa using hf 2 f2 rfl, by simpa using hf 3 f3 rfl, by simpa using hf 4 f4 rfl⟩
theorem cells_blindL : Try.prog.cellsOf 46 = 5 := by kernel_rfl
set_option maxRecDepth 100000 in
theorem open_blinds {H : Type} {enc : TypeId × Value → H} {W : World} {b0 base : Nat} {spare : Nat → Bool} {held : Bool} {r : Reach} {v : Value} {d : DataW H} {p : List MemPlace}
    (hv : Value.okWide Try.prog W r b0 69 v) (h : DataW.Trod enc Try.prog W base spare held 69 v d p) : ∃ ws, BdsAt W v ws ∧ ∀ x ∈ ws, BdWf x := by
  obtain ⟨a0, len0, cap0, rfl⟩ := okWide_slice Try.underlying69 hv
  obtain ⟨fuel, hfu⟩ := h
  obtain ⟨f0, f1, f2, f3, f4, hu, e0, e1, e2, e3, e4, hone⟩ := under_blindL
  rcases open_slice Try.underlying69 hfu with ⟨hcs, _⟩ | ⟨a, len, cap, m, n, D, Pl, hcs, _, hl, hm, hmm, _, hi⟩
  · simp [Value.cells] at hcs
    obtain ⟨rfl, rfl, rfl⟩ := hcs
    exact ⟨[], ⟨none, 0, rfl, Nat.le_refl _, by unfold maxLen; omega, fun i x hx => by simp at hx⟩, fun x hx => by cases hx⟩
  · simp [Value.cells] at hcs
    obtain ⟨rfl, rfl, rfl⟩ := hcs
    have hspot : 0 < len0 → a.spot = none := by
      intro h0
      obtain ⟨cs', hcs, _⟩ := hi 0 (by rw [hmm]; split <;> omega)
      rw [cells_blindL] at hcs
      obtain ⟨_, hcl, hat⟩ := World.cells?_some hcs
      have g0 := hat 0 (by omega)
      rw [List.getElem?_eq_getElem (by omega)] at g0
      have := World.cell?_spot g0
      simpa [Addr.add] using this
    have key : ∀ i, i < len0 → ∃ x : Bd, BdWf x ∧ ∃ g o, some a = some ⟨g, o, none⟩ ∧ ∀ j v, (bdC x)[j]? = some v → W.cell? ⟨g, o + i * 5 + j, none⟩ = some v := by
      intro i hlt
      obtain ⟨cs', hcs, ht⟩ := hi i (by rw [hmm]; split <;> omega)
      rw [cells_blindL] at hcs
      obtain ⟨_, hcl, hat⟩ := World.cells?_some hcs
      obtain ⟨y0, y1, y2, y3, y4, n', h0, h1, h2, h3, h4⟩ := trod_struct5 hu ht
      obtain ⟨o0, k0⟩ := hone_of hone 0 f0 rfl
      obtain ⟨o1, k1⟩ := hone_of hone 1 f1 rfl
      obtain ⟨o2, k2⟩ := hone_of hone 2 f2 rfl
      obtain ⟨o3, k3⟩ := hone_of hone 3 f3 rfl
      obtain ⟨o4, k4⟩ := hone_of hone 4 f4 rfl
      match cs', hcl with
      | [c0, c1, c2, c3, c4], _ =>
        rw [o0, k0, e0] at h0
        rw [o1, k1, e1] at h1
        rw [o2, k2, e2] at h2
        rw [o3, k3, e3] at h3
        rw [o4, k4, e4] at h4
        obtain ⟨z0, q0, _, w0⟩ := DataW.trod_int Try.underlying23 h0
        obtain ⟨z1, q1, w1⟩ := trod_f Try.underlying22 h1
        obtain ⟨z2, q2, w2⟩ := trod_f Try.underlying22 h2
        obtain ⟨z3, q3, _, w3⟩ := DataW.trod_int Try.underlying30 h3
        obtain ⟨z4, q4, w4⟩ := trod_f Try.underlying22 h4
        simp at q0 q1 q2 q3 q4
        subst q0 q1 q2 q3 q4
        have hsp := hspot (by omega)
        obtain ⟨g, o, spot⟩ := a
        obtain rfl : spot = none := hsp
        refine ⟨(z0, z1, z2, z3, z4), ⟨w0, w1, w2, w3, w4⟩, g, o, rfl, fun j v hv => ?_⟩
        have hj : j < 5 := (Array.getElem?_eq_some_iff.1 hv).1
        have hg := hat j hj
        simp only [addr_add] at hg
        rw [hg]
        match j, hj, hv with
        | 0, _, hv => simpa [bdC, blindC] using hv
        | 1, _, hv => simpa [bdC, blindC] using hv
        | 2, _, hv => simpa [bdC, blindC] using hv
        | 3, _, hv => simpa [bdC, blindC] using hv
        | 4, _, hv => simpa [bdC, blindC] using hv
    obtain ⟨ws, hlen, hall⟩ := list_of len0 key
    subst hlen
    refine ⟨ws, ⟨some a, cap0, rfl, hl, hm, fun i x hx => (hall i x hx).2⟩, fun x hx => ?_⟩
    obtain ⟨i, hi⟩ := List.mem_iff_getElem?.1 hx
    exact (hall i x hi).1
theorem bd_one (x : Bd) : ∀ v ∈ bdC x, v.oneCell' = true := by
  intro v hv
  simp only [bdC, blindC, List.mem_toArray, List.mem_cons, List.not_mem_nil, or_false] at hv
  rcases hv with rfl | rfl | rfl | rfl | rfl <;> rfl
theorem laid_allb (cs vs : Array Value) (h : cs.size = vs.size) : laid cs vs 0 = vs := by
  apply Array.ext'
  simp [laid]
  rw [← h]; simp
theorem info_bdz : (Try.prog.info? 49).map (fun i => (i.zero, i.size, i.bytes)) = some (some (.agg #[.int .i8 0, .float .f32 0, .float .f32 0, .int .i16 0, .float .f32 0]), 5, 20) := by kernel_rfl
theorem make_bds (n : Nat) (hn : n ≤ 1048576) (w : World) : (Instr.makeSlice 72 (.int .i64 (n : Int)) (.int .i64 (n : Int))).run Try.prog w = .ok (.slice (some ⟨w.heap.size, 0, none⟩) n n) (w.alloc (.cells (madeCells #[.int .i8 0, .float .f32 0, .float .f32 0, .int .i16 0, .float .f32 0] (n * 5)) 49)) := by
  obtain ⟨i0, hi, hz0, hz1, hz2⟩ := info_parts info_bdz
  have h := run_make (P := Try.prog) w 72 49 i0 _ Try.underlying72 hi hz0 .i64 .i64 (n : Int) (n : Int) (by omega) (Int.le_refl _) (by rw [hz2]; omega) (by omega)
  rw [hz1] at h
  simpa [Value.cells] using h
theorem row_bd {W : World} {g : Nat} {cur : Array Value} {T : TypeId} {k : Nat} {x : Bd} (hg : W.heap[g]? = some (.cells cur T (0, 0))) (he : cur.extract (k * 5) (k * 5 + 5) = bdC x) : ∀ j v, (bdC x)[j]? = some v → W.cell? ⟨g, 0 + k * 5 + j, none⟩ = some v := by
  intro j v hv
  rw [Nat.zero_add, cell_of_row W _ _ _ _ _ hg]
  rw [← he, Array.getElem?_extract] at hv
  split at hv
  · exact hv
  · cases hv

set_option maxRecDepth 100000 in
set_option maxHeartbeats 1000000 in
theorem toBlindS_any (sv : Value) (ws : List Bd) (hlen : ws.length ≤ 1048576) (w : World) (hws : BdsAt w sv ws) :
    Calls Try.prog 47 #[sv] w fun e w' => (∃ v, e = .returned v ∧ BdsAt w' v ws) ∧ Below w.heap.size w w' := by
  have HW := Lib.hid hws
  obtain ⟨a, cap, rfl, hl1, hl2, _⟩ := hws
  unfold maxLen at hl2
  generalize hn : ws.length = n at *
  have HN := Lib.hid hn
  have hmk := fun w => make_bds n hlen w
  clear hn
  go_enter Try.func47, Try.ntmps47
  go_wp2
  go_loopw [4] (fun i wr => ∃ k : Nat, k ≤ n ∧ i = .int .i64 k ∧ Below w.heap.size w wr ∧ ∃ cur, wr.heap[w.heap.size]? = some (.cells cur 49 (0, 0)) ∧ cur.size = n * 5 ∧ ∀ j x, j < k → ws[j]? = some x → cur.extract (j * 5) (j * 5 + 5) = bdC x) (fun i _ => n - (intOf i).toNat)
  case atStart => exact ⟨0, Nat.zero_le _, rfl, (Below.refl _ _).alloc (Nat.le_refl _) _, _, heap_alloc_new _ _, size_madeCells _ _, fun j x hj => by omega⟩
  case round =>
    clear hmk
    obtain ⟨k, hk, rfl, hb, cur, hg, hs, hp⟩ := hrel
    have HP := Lib.hid hp
    have HG := Lib.hid hg
    have hgl := row_lt hg
    clear hp hg
    by_cases hlt : k < n
    · have hx : ws[k]? = some (ws[k]'(by rw [HN.out]; exact hlt)) := List.getElem?_eq_getElem _
      obtain ⟨g, o, rfl, hc⟩ := bd_at (bds_below HW.out hb) hx
      have HC := Lib.hid hc
      generalize (ws[k]'(by rw [HN.out]; exact hlt)) = x at *
      have HX := Lib.hid hx
      have hks : k * 5 + 5 ≤ cur.size := by omega
      have z1 : (k : Int) < (n : Int) := by omega
      have z2 : (0 : Int) ≤ (k : Int) := by omega
      clear hc hx
      go_wp2_with (first | (refine wpList_load_cells rfl 46 _ rfl g (o + k * 5) 5 rfl _ Try.underlying46 rfl info_blindL (bdC x) rfl HC.out ?_) | (go_at_call 27; refine (toBlind_any x.1 x.2.1 x.2.2.1 x.2.2.2.1 x.2.2.2.2 _).mono ?_; rintro e W1 ⟨rfl, hb1⟩) | (refine wpList_store_part rfl 49 _ _ rfl w.heap.size (k * 5) (bdC x) rfl rfl 49 cur (below_row hb1 HG.out) (by kernel_rfl) hks (bd_one _) ?_))
      go_roundw
      case rel =>
        refine ⟨k + 1, by omega, by go_num, below_setRow (hb.trans (hb1.mono hb.size)) (Nat.le_refl _) _, _, setRow_heap _ _ _ _ _ _ (below_row hb1 HG.out), by rw [laid_size _ _ _ hks]; exact hs, fun j y hj hy => ?_⟩
        by_cases e : j = k
        · subst e
          rw [HX.out] at hy
          obtain rfl := Option.some.inj hy
          exact laid_here cur (bdC x) (j * 5) hks
        · rw [laid_there cur (bdC x) (k * 5) (j * 5) 5 hks (by omega)]
          exact HP.out j y (by omega) hy
      case measure => simp [intOf]; omega
    · obtain rfl : k = n := by omega
      have HR : Hid (BdsAt wr (.slice (some ⟨w.heap.size, 0, none⟩) k k) ws) := by
        refine ⟨_, k, by rw [HN.out], by rw [HN.out]; exact Nat.le_refl _, by unfold maxLen; omega, fun j x hx => ⟨w.heap.size, 0, rfl, ?_⟩⟩
        have := (List.getElem?_eq_some_iff.1 hx).1
        exact row_bd HG.out (HP.out j x (by have := HN.out; omega) hx)
      go_wp2
      go_ret
      exact ⟨⟨_, rfl, HR.out⟩, hb⟩

set_option maxRecDepth 100000 in
set_option maxHeartbeats 8000000 in
theorem eqBlind_nan (n : Int) (wd gp : Nat) (t : Int) (sh : Nat) (w : World) : Calls Try.prog 88 #[.agg (blindC n wd gp t sh), .agg (blindC n wd gp t sh)] w fun e w' => e = .returned (.bool true) ∧ Below w.heap.size w w' := by
  have HA := Lib.hid (two_at w (.cells (blindC n wd gp t sh) 49) (.cells (blindC n wd gp t sh) 49))
  cases h0 : fin32 wd with
  | true =>
    cases h1 : fin32 gp with
    | true =>
      cases h2 : fin32 sh with
      | true =>
        have hw0 := run_wide _ h0
        have Hv0 := Lib.hid h0
        clear h0
        have hw1 := run_wide _ h1
        have Hv1 := Lib.hid h1
        clear h1
        have hw2 := run_wide _ h2
        have Hv2 := Lib.hid h2
        clear h2
        go_enter Try.func88, Try.ntmps88
        go_upto_region 1 with (fail)
        refine abs_world (fun W => W.heap[w.heap.size]? = some (.cells (blindC n wd gp t sh) 49 (0, 0)) ∧ W.heap[w.heap.size + 1]? = some (.cells (blindC n wd gp t sh) 49 (0, 0)) ∧ Below w.heap.size w W) HA.out ?_
        clear HA
        rintro W ⟨q0, q1, hb⟩
        obtain ⟨k0, k1, k2, k3, k4⟩ := blind_cells q0
        obtain ⟨p0, p1, p2, p3, p4⟩ := blind_cells q1
        have z1 : (n != n) = false := by simp
        have z2 : (t != t) = false := by simp
        clear q0 q1
        generalize w.heap.size + 1 = b1 at *
        go_wp2_with (first | (go_at_call 29; with_reducible refine (same_wide _ Hv0.out _).mono ?_; rintro e w1 ⟨rfl, rfl⟩) | (go_at_call 29; with_reducible refine (same_wide _ Hv1.out _).mono ?_; rintro e w1 ⟨rfl, rfl⟩) | (go_at_call 29; with_reducible refine (same_wide _ Hv2.out _).mono ?_; rintro e w1 ⟨rfl, rfl⟩))
        go_ret
        exact ⟨rfl, by (repeat' first | exact Below.refl _ _ | assumption | refine Below.alloc ?_ (by first | omega | (simp; done) | (simp; omega)) _ | refine Below.setCell ?_ (by first | omega | (simp; done) | (simp; omega)) _ | refine Below.drew ?_)⟩
      | false =>
        have hw0 := run_wide _ h0
        have Hv0 := Lib.hid h0
        clear h0
        have hw1 := run_wide _ h1
        have Hv1 := Lib.hid h1
        clear h1
        have hw2 := run_wide_nan _ h2
        clear h2
        go_enter Try.func88, Try.ntmps88
        go_upto_region 1 with (fail)
        refine abs_world (fun W => W.heap[w.heap.size]? = some (.cells (blindC n wd gp t sh) 49 (0, 0)) ∧ W.heap[w.heap.size + 1]? = some (.cells (blindC n wd gp t sh) 49 (0, 0)) ∧ Below w.heap.size w W) HA.out ?_
        clear HA
        rintro W ⟨q0, q1, hb⟩
        obtain ⟨k0, k1, k2, k3, k4⟩ := blind_cells q0
        obtain ⟨p0, p1, p2, p3, p4⟩ := blind_cells q1
        have z1 : (n != n) = false := by simp
        have z2 : (t != t) = false := by simp
        clear q0 q1
        generalize w.heap.size + 1 = b1 at *
        go_wp2_with (first | (go_at_call 29; with_reducible refine (same_wide _ Hv0.out _).mono ?_; rintro e w1 ⟨rfl, rfl⟩) | (go_at_call 29; with_reducible refine (same_wide _ Hv1.out _).mono ?_; rintro e w1 ⟨rfl, rfl⟩) | (go_at_call 29; with_reducible refine (same_nan _ _ (nanW_nan _ _) (nanW_nan _ _) _).mono ?_; rintro e w1 ⟨rfl, rfl⟩))
        go_ret
        exact ⟨rfl, by (repeat' first | exact Below.refl _ _ | assumption | refine Below.alloc ?_ (by first | omega | (simp; done) | (simp; omega)) _ | refine Below.setCell ?_ (by first | omega | (simp; done) | (simp; omega)) _ | refine Below.drew ?_)⟩
    | false =>
      cases h2 : fin32 sh with
      | true =>
        have hw0 := run_wide _ h0
        have Hv0 := Lib.hid h0
        clear h0
        have hw1 := run_wide_nan _ h1
        clear h1
        have hw2 := run_wide _ h2
        have Hv2 := Lib.hid h2
        clear h2
        go_enter Try.func88, Try.ntmps88
        go_upto_region 1 with (fail)
        refine abs_world (fun W => W.heap[w.heap.size]? = some (.cells (blindC n wd gp t sh) 49 (0, 0)) ∧ W.heap[w.heap.size + 1]? = some (.cells (blindC n wd gp t sh) 49 (0, 0)) ∧ Below w.heap.size w W) HA.out ?_
        clear HA
        rintro W ⟨q0, q1, hb⟩
        obtain ⟨k0, k1, k2, k3, k4⟩ := blind_cells q0
        obtain ⟨p0, p1, p2, p3, p4⟩ := blind_cells q1
        have z1 : (n != n) = false := by simp
        have z2 : (t != t) = false := by simp
        clear q0 q1
        generalize w.heap.size + 1 = b1 at *
        go_wp2_with (first | (go_at_call 29; with_reducible refine (same_wide _ Hv0.out _).mono ?_; rintro e w1 ⟨rfl, rfl⟩) | (go_at_call 29; with_reducible refine (same_wide _ Hv2.out _).mono ?_; rintro e w1 ⟨rfl, rfl⟩) | (go_at_call 29; with_reducible refine (same_nan _ _ (nanW_nan _ _) (nanW_nan _ _) _).mono ?_; rintro e w1 ⟨rfl, rfl⟩))
        go_ret
        exact ⟨rfl, by (repeat' first | exact Below.refl _ _ | assumption | refine Below.alloc ?_ (by first | omega | (simp; done) | (simp; omega)) _ | refine Below.setCell ?_ (by first | omega | (simp; done) | (simp; omega)) _ | refine Below.drew ?_)⟩
      | false =>
        have hw0 := run_wide _ h0
        have Hv0 := Lib.hid h0
        clear h0
        have hw1 := run_wide_nan _ h1
        clear h1
        have hw2 := run_wide_nan _ h2
        clear h2
        go_enter Try.func88, Try.ntmps88
        go_upto_region 1 with (fail)
        refine abs_world (fun W => W.heap[w.heap.size]? = some (.cells (blindC n wd gp t sh) 49 (0, 0)) ∧ W.heap[w.heap.size + 1]? = some (.cells (blindC n wd gp t sh) 49 (0, 0)) ∧ Below w.heap.size w W) HA.out ?_
        clear HA
        rintro W ⟨q0, q1, hb⟩
        obtain ⟨k0, k1, k2, k3, k4⟩ := blind_cells q0
        obtain ⟨p0, p1, p2, p3, p4⟩ := blind_cells q1
        have z1 : (n != n) = false := by simp
        have z2 : (t != t) = false := by simp
        clear q0 q1
        generalize w.heap.size + 1 = b1 at *
        go_wp2_with (first | (go_at_call 29; with_reducible refine (same_wide _ Hv0.out _).mono ?_; rintro e w1 ⟨rfl, rfl⟩) | (go_at_call 29; with_reducible refine (same_nan _ _ (nanW_nan _ _) (nanW_nan _ _) _).mono ?_; rintro e w1 ⟨rfl, rfl⟩))
        go_ret
        exact ⟨rfl, by (repeat' first | exact Below.refl _ _ | assumption | refine Below.alloc ?_ (by first | omega | (simp; done) | (simp; omega)) _ | refine Below.setCell ?_ (by first | omega | (simp; done) | (simp; omega)) _ | refine Below.drew ?_)⟩
  | false =>
    cases h1 : fin32 gp with
    | true =>
      cases h2 : fin32 sh with
      | true =>
        have hw0 := run_wide_nan _ h0
        clear h0
        have hw1 := run_wide _ h1
        have Hv1 := Lib.hid h1
        clear h1
        have hw2 := run_wide _ h2
        have Hv2 := Lib.hid h2
        clear h2
        go_enter Try.func88, Try.ntmps88
        go_upto_region 1 with (fail)
        refine abs_world (fun W => W.heap[w.heap.size]? = some (.cells (blindC n wd gp t sh) 49 (0, 0)) ∧ W.heap[w.heap.size + 1]? = some (.cells (blindC n wd gp t sh) 49 (0, 0)) ∧ Below w.heap.size w W) HA.out ?_
        clear HA
        rintro W ⟨q0, q1, hb⟩
        obtain ⟨k0, k1, k2, k3, k4⟩ := blind_cells q0
        obtain ⟨p0, p1, p2, p3, p4⟩ := blind_cells q1
        have z1 : (n != n) = false := by simp
        have z2 : (t != t) = false := by simp
        clear q0 q1
        generalize w.heap.size + 1 = b1 at *
        go_wp2_with (first | (go_at_call 29; with_reducible refine (same_wide _ Hv1.out _).mono ?_; rintro e w1 ⟨rfl, rfl⟩) | (go_at_call 29; with_reducible refine (same_wide _ Hv2.out _).mono ?_; rintro e w1 ⟨rfl, rfl⟩) | (go_at_call 29; with_reducible refine (same_nan _ _ (nanW_nan _ _) (nanW_nan _ _) _).mono ?_; rintro e w1 ⟨rfl, rfl⟩))
        go_ret
        exact ⟨rfl, by (repeat' first | exact Below.refl _ _ | assumption | refine Below.alloc ?_ (by first | omega | (simp; done) | (simp; omega)) _ | refine Below.setCell ?_ (by first | omega | (simp; done) | (simp; omega)) _ | refine Below.drew ?_)⟩
      | false =>
        have hw0 := run_wide_nan _ h0
        clear h0
        have hw1 := run_wide _ h1
        have Hv1 := Lib.hid h1
        clear h1
        have hw2 := run_wide_nan _ h2
        clear h2
        go_enter Try.func88, Try.ntmps88
        go_upto_region 1 with (fail)
        refine abs_world (fun W => W.heap[w.heap.size]? = some (.cells (blindC n wd gp t sh) 49 (0, 0)) ∧ W.heap[w.heap.size + 1]? = some (.cells (blindC n wd gp t sh) 49 (0, 0)) ∧ Below w.heap.size w W) HA.out ?_
        clear HA
        rintro W ⟨q0, q1, hb⟩
        obtain ⟨k0, k1, k2, k3, k4⟩ := blind_cells q0
        obtain ⟨p0, p1, p2, p3, p4⟩ := blind_cells q1
        have z1 : (n != n) = false := by simp
        have z2 : (t != t) = false := by simp
        clear q0 q1
        generalize w.heap.size + 1 = b1 at *
        go_wp2_with (first | (go_at_call 29; with_reducible refine (same_wide _ Hv1.out _).mono ?_; rintro e w1 ⟨rfl, rfl⟩) | (go_at_call 29; with_reducible refine (same_nan _ _ (nanW_nan _ _) (nanW_nan _ _) _).mono ?_; rintro e w1 ⟨rfl, rfl⟩))
        go_ret
        exact ⟨rfl, by (repeat' first | exact Below.refl _ _ | assumption | refine Below.alloc ?_ (by first | omega | (simp; done) | (simp; omega)) _ | refine Below.setCell ?_ (by first | omega | (simp; done) | (simp; omega)) _ | refine Below.drew ?_)⟩
    | false =>
      cases h2 : fin32 sh with
      | true =>
        have hw0 := run_wide_nan _ h0
        clear h0
        have hw1 := run_wide_nan _ h1
        clear h1
        have hw2 := run_wide _ h2
        have Hv2 := Lib.hid h2
        clear h2
        go_enter Try.func88, Try.ntmps88
        go_upto_region 1 with (fail)
        refine abs_world (fun W => W.heap[w.heap.size]? = some (.cells (blindC n wd gp t sh) 49 (0, 0)) ∧ W.heap[w.heap.size + 1]? = some (.cells (blindC n wd gp t sh) 49 (0, 0)) ∧ Below w.heap.size w W) HA.out ?_
        clear HA
        rintro W ⟨q0, q1, hb⟩
        obtain ⟨k0, k1, k2, k3, k4⟩ := blind_cells q0
        obtain ⟨p0, p1, p2, p3, p4⟩ := blind_cells q1
        have z1 : (n != n) = false := by simp
        have z2 : (t != t) = false := by simp
        clear q0 q1
        generalize w.heap.size + 1 = b1 at *
        go_wp2_with (first | (go_at_call 29; with_reducible refine (same_wide _ Hv2.out _).mono ?_; rintro e w1 ⟨rfl, rfl⟩) | (go_at_call 29; with_reducible refine (same_nan _ _ (nanW_nan _ _) (nanW_nan _ _) _).mono ?_; rintro e w1 ⟨rfl, rfl⟩))
        go_ret
        exact ⟨rfl, by (repeat' first | exact Below.refl _ _ | assumption | refine Below.alloc ?_ (by first | omega | (simp; done) | (simp; omega)) _ | refine Below.setCell ?_ (by first | omega | (simp; done) | (simp; omega)) _ | refine Below.drew ?_)⟩
      | false =>
        have hw0 := run_wide_nan _ h0
        clear h0
        have hw1 := run_wide_nan _ h1
        clear h1
        have hw2 := run_wide_nan _ h2
        clear h2
        go_enter Try.func88, Try.ntmps88
        go_upto_region 1 with (fail)
        refine abs_world (fun W => W.heap[w.heap.size]? = some (.cells (blindC n wd gp t sh) 49 (0, 0)) ∧ W.heap[w.heap.size + 1]? = some (.cells (blindC n wd gp t sh) 49 (0, 0)) ∧ Below w.heap.size w W) HA.out ?_
        clear HA
        rintro W ⟨q0, q1, hb⟩
        obtain ⟨k0, k1, k2, k3, k4⟩ := blind_cells q0
        obtain ⟨p0, p1, p2, p3, p4⟩ := blind_cells q1
        have z1 : (n != n) = false := by simp
        have z2 : (t != t) = false := by simp
        clear q0 q1
        generalize w.heap.size + 1 = b1 at *
        go_wp2_with (go_at_call 29; with_reducible refine (same_nan _ _ (nanW_nan _ _) (nanW_nan _ _) _).mono ?_; rintro e w1 ⟨rfl, rfl⟩)
        go_ret
        exact ⟨rfl, by (repeat' first | exact Below.refl _ _ | assumption | refine Below.alloc ?_ (by first | omega | (simp; done) | (simp; omega)) _ | refine Below.setCell ?_ (by first | omega | (simp; done) | (simp; omega)) _ | refine Below.drew ?_)⟩

set_option maxRecDepth 100000 in
set_option maxHeartbeats 4000000 in
theorem eqBlindS_any (v1 v2 : Value) (ws : List Bd) (w : World) (hv1 : BdsAt w v1 ws) (hv2 : BdsAt w v2 ws) :
    Calls Try.prog 49 #[v1, v2] w fun e w' => e = .returned (.bool true) ∧ Below w.heap.size w w' := by
  have HW1 := Lib.hid hv1
  have HW2 := Lib.hid hv2
  obtain ⟨a1, c1, rfl, hl1, hm1, _⟩ := hv1
  obtain ⟨a2, c2, rfl, hl2, hm2, _⟩ := hv2
  unfold maxLen at hm1 hm2
  generalize hn : ws.length = n at *
  have HN := Lib.hid hn
  have zn : ((n : Int) != (n : Int)) = false := by simp
  clear hn
  go_enter Try.func49, Try.ntmps49
  go_wp2
  go_loopw [5] (fun i wr => ∃ k : Nat, k ≤ n ∧ i = .int .i64 k ∧ Below w.heap.size w wr) (fun i _ => n - (intOf i).toNat)
  case atStart => exact ⟨0, Nat.zero_le _, rfl, Below.refl _ _⟩
  case round =>
    obtain ⟨k, hk, rfl, hb⟩ := hrel
    by_cases hlt : k < n
    · have hx : ws[k]? = some (ws[k]'(by rw [HN.out]; exact hlt)) := List.getElem?_eq_getElem _
      obtain ⟨g1, o1, rfl, hc1⟩ := bd_at (bds_below HW1.out hb) hx
      obtain ⟨g2, o2, rfl, hc2⟩ := bd_at (bds_below HW2.out hb) hx
      have HC1 := Lib.hid hc1
      have HC2 := Lib.hid hc2
      generalize (ws[k]'(by rw [HN.out]; exact hlt)) = x at *
      have z1 : (k : Int) < (n : Int) := by omega
      have z2 : (0 : Int) ≤ (k : Int) := by omega
      have z3 : decide ((k : Int) < (n : Int)) = true := decide_eq_true z1
      clear hc1 hc2 hx
      go_wp2
      refine wp_region_held_drew (S := (fun W => (∀ j v, (bdC x)[j]? = some v → W.cell? ⟨g1, o1 + k * 5 + j, none⟩ = some v) ∧ (∀ j v, (bdC x)[j]? = some v → W.cell? ⟨g2, o2 + k * 5 + j, none⟩ = some v) ∧ Below w.heap.size w W)) (by kernel_rfl) ⟨HC1.out, HC2.out, hb.drew⟩ (fun hHeld => ?_)
      refine take_op (i := 0) (d := 17) (v := ?_) rfl rfl (by kernel_rfl) (by kernel_rfl) (by kernel_rfl) (fun _ _ _ h => h) (Or.inl ⟨by rfl, ?hy0u1⟩) hHeld ?rest0u1
      case hy0u1 =>
        intro w' hS'
        go_simp
        try with_reducible rfl
      simp only [List.setIfInBounds_toArray, List.set_cons_zero, List.set_cons_succ]
      refine take_op (i := 1) (d := 18) (v := ?_) rfl rfl (by kernel_rfl) (by kernel_rfl) (by kernel_rfl) (fun _ _ _ h => h) (Or.inl ⟨by rfl, ?hy1u2⟩) hHeld ?rest1u2
      case hy1u2 =>
        intro w' hS'
        go_simp
        try with_reducible rfl
      simp only [List.setIfInBounds_toArray, List.set_cons_zero, List.set_cons_succ]
      refine take_op (i := 2) (d := 19) (v := ?_) rfl rfl (by kernel_rfl) (by kernel_rfl) (by kernel_rfl) (fun _ _ _ h => h) (Or.inl ⟨by rfl, ?hy2u3⟩) hHeld ?rest2u3
      case hy2u3 =>
        intro w' hS'
        go_simp
        try with_reducible rfl
      simp only [List.setIfInBounds_toArray, List.set_cons_zero, List.set_cons_succ]
      refine take_op (i := 3) (d := 20) (v := .agg (bdC x)) rfl rfl (by kernel_rfl) (by kernel_rfl) (by kernel_rfl) (fun _ _ _ h => h) (yields_cells (by rfl) 49 (.tmp 19) (by rfl) g1 (o1 + k * 5) 5 (by rfl) _ Try.underlying49 rfl info_blind (bdC x) rfl (fun W h => h.1)) hHeld ?_
      simp only [List.setIfInBounds_toArray, List.set_cons_zero, List.set_cons_succ]
      refine take_op (i := 4) (d := 21) (v := ?_) rfl rfl (by kernel_rfl) (by kernel_rfl) (by kernel_rfl) (fun _ _ _ h => h) (Or.inl ⟨by rfl, ?hy4u4⟩) hHeld ?rest4u4
      case hy4u4 =>
        intro w' hS'
        go_simp
        try with_reducible rfl
      simp only [List.setIfInBounds_toArray, List.set_cons_zero, List.set_cons_succ]
      refine take_op (i := 5) (d := 22) (v := ?_) rfl rfl (by kernel_rfl) (by kernel_rfl) (by kernel_rfl) (fun _ _ _ h => h) (Or.inl ⟨by rfl, ?hy5u5⟩) hHeld ?rest5u5
      case hy5u5 =>
        intro w' hS'
        go_simp
        try with_reducible rfl
      simp only [List.setIfInBounds_toArray, List.set_cons_zero, List.set_cons_succ]
      refine take_op (i := 6) (d := 23) (v := ?_) rfl rfl (by kernel_rfl) (by kernel_rfl) (by kernel_rfl) (fun _ _ _ h => h) (Or.inl ⟨by rfl, ?hy6u6⟩) hHeld ?rest6u6
      case hy6u6 =>
        intro w' hS'
        go_simp
        try with_reducible rfl
      simp only [List.setIfInBounds_toArray, List.set_cons_zero, List.set_cons_succ]
      refine take_op (i := 7) (d := 24) (v := .agg (bdC x)) rfl rfl (by kernel_rfl) (by kernel_rfl) (by kernel_rfl) (fun _ _ _ h => h) (yields_cells (by rfl) 49 (.tmp 23) (by rfl) g2 (o2 + k * 5) 5 (by rfl) _ Try.underlying49 rfl info_blind (bdC x) rfl (fun W h => h.2.1)) hHeld ?_
      simp only [List.setIfInBounds_toArray, List.set_cons_zero, List.set_cons_succ]
      refine wpAnyH_ready (rs := [8]) (by kernel_rfl) (by simp) ?_
      refine AllReadyH.cons rfl (fun K hK => ?_) AllReadyH.nil
      go_simp
      refine (eqBlind_nan x.1 x.2.1 x.2.2.1 x.2.2.2.1 x.2.2.2.2 _).mono ?_
      rintro e W1 ⟨rfl, hb1⟩
      refine hK.out _ _ (⟨fun j v hv => cell_below hb1 (hHeld.1 j v hv), fun j v hv => cell_below hb1 (hHeld.2.1 j v hv), hHeld.2.2.trans (hb1.mono hHeld.2.2.size)⟩) (fun hHeld2 => ?_)
      clear hK K
      replace hHeld := hHeld2
      clear hHeld2
      refine take_op (i := 9) (d := 26) (v := ?_) rfl rfl (by kernel_rfl) (by kernel_rfl) (by kernel_rfl) (fun _ _ _ h => h) (Or.inl ⟨by rfl, ?hy9u7⟩) hHeld ?rest9u7
      case hy9u7 =>
        intro w' hS'
        go_simp
        try with_reducible rfl
      simp only [List.setIfInBounds_toArray, List.set_cons_zero, List.set_cons_succ]
      refine wpAnyH_done (by kernel_rfl) ?_ _
      have hbx := hHeld.2.2
      clear hHeld hb HC1 HC2
      go_wp2
      go_roundw
      case rel => exact ⟨k + 1, by omega, by go_num, hbx⟩
      case measure => simp [intOf]; omega
    · obtain rfl : k = n := by omega
      go_wp2
      go_ret
      exact ⟨rfl, hb⟩
set_option maxRecDepth 100000 in
set_option maxHeartbeats 1000000 in
theorem szBlindS_any (a : Option Addr) (n cap : Nat) (left : Int) (hn : n ≤ 9223372036854775807) (h0 : 0 ≤ left) (h1 : left ≤ 1048576) (w : World) :
    Calls Try.prog 45 #[.slice a n cap, .int .i64 left] w fun e w' => e = .returned (.int .i64 (leftI n left)) ∧ w = w' := by
  unfold leftI
  by_cases h : left - (n : Int) < 0
  · rw [if_pos h]
    go_enter Try.func45, Try.ntmps45
    go_wp2
    go_ret
    exact ⟨rfl, rfl⟩
  · rw [if_neg h]
    go_enter Try.func45, Try.ntmps45
    go_wp2
    go_ret
    exact ⟨rfl, rfl⟩

end Go.Proofs.Ytelgcggcmjdhjaa
