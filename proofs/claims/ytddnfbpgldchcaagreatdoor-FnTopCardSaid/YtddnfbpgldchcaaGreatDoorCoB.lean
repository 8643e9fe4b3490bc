/-
  A tick of a controller: the program's smaller steps.

-/
import Derived.Test.YtddnfbpgldchcaaGreatDoorCoA
import Derived.Great.BuildSlice

namespace Go.Proofs.YtddnfbpgldchcaaGreatDoor

open Go.ChangeShapes Go.WideShapes Go.ChangeAt Go.RowKit Go.Deep Go.Joins

attribute [local go_sem] run_store_f

set_option maxRecDepth 100000 in
set_option maxHeartbeats 1000000 in
theorem tooBright_any (lo hi x : Nat) (w : World) :
    Calls Tryz.prog 161 #[.agg #[.float .f32 lo, .float .f32 hi], .float .f32 x] w fun e w' => e = .returned (.bool (gt0 (ordB x hi))) ∧ Below w.heap.size w w' := by
  unfold ordB gt0
  go_enter Tryz.func161, Tryz.ntmps161
  go_wp2
  go_ret
  exact ⟨rfl, by (repeat' first | exact Below.refl _ _ | assumption | refine Below.alloc ?_ (by first | omega | (simp; done) | (simp; omega)) _ | refine Below.setCell ?_ (by first | omega | (simp; done) | (simp; omega)) _ | refine Below.drew ?_)⟩

set_option maxRecDepth 100000 in
set_option maxHeartbeats 1000000 in
theorem tooDark_any (lo hi x : Nat) (w : World) :
    Calls Tryz.prog 162 #[.agg #[.float .f32 lo, .float .f32 hi], .float .f32 x] w fun e w' => e = .returned (.bool (lt0 (ordB x lo))) ∧ Below w.heap.size w w' := by
  unfold ordB lt0
  go_enter Tryz.func162, Tryz.ntmps162
  go_wp2
  go_ret
  exact ⟨rfl, by (repeat' first | exact Below.refl _ _ | assumption | refine Below.alloc ?_ (by first | omega | (simp; done) | (simp; omega)) _ | refine Below.setCell ?_ (by first | omega | (simp; done) | (simp; omega)) _ | refine Below.drew ?_)⟩

set_option maxRecDepth 100000 in
set_option maxHeartbeats 1000000 in
theorem isRaised_any (ti : Int) (wt : Int) (sm : Int) (w : World) :
    Calls Tryz.prog 160 #[.agg (saC ti wt sm)] w fun e w' => e = .returned (.bool (decide (0 < sm))) ∧ Below w.heap.size w w' := by
  unfold saC
  go_enter Tryz.func160, Tryz.ntmps160
  go_wp2
  go_ret
  exact ⟨rfl, by (repeat' first | exact Below.refl _ _ | assumption | refine Below.alloc ?_ (by first | omega | (simp; done) | (simp; omega)) _ | refine Below.setCell ?_ (by first | omega | (simp; done) | (simp; omega)) _ | refine Below.drew ?_)⟩

set_option maxRecDepth 100000 in
set_option maxHeartbeats 1000000 in
theorem raisedInside_any (lg : Nat) (gu : Nat) (hg : Int) (w : World) :
    Calls Tryz.prog 207 #[.agg (tkC lg gu hg)] w fun e w' => e = .returned (.float .f32 lg) ∧ Below w.heap.size w w' := by
  unfold tkC
  go_enter Tryz.func207, Tryz.ntmps207
  go_wp2
  go_ret
  exact ⟨rfl, by (repeat' first | exact Below.refl _ _ | assumption | refine Below.alloc ?_ (by first | omega | (simp; done) | (simp; omega)) _ | refine Below.setCell ?_ (by first | omega | (simp; done) | (simp; omega)) _ | refine Below.drew ?_)⟩

set_option maxRecDepth 100000 in
set_option maxHeartbeats 1000000 in
theorem loweredInside_any (lg : Nat) (gu : Nat) (hg : Int) (p r : Nat) (hm : floatBits .mul .f32 lg p = some r) (w : World) :
    Calls Tryz.prog 208 #[.agg #[.float .f32 lg, .float .f32 gu, .int .i8 hg, .float .f32 p]] w fun e w' => e = .returned (.float .f32 r) ∧ Below w.heap.size w w' := by
  have r1 : ∀ T w, (binOp .mul T (.float .f32 lg) (.float .f32 p)).run Tryz.prog w = .ok (.float .f32 r) w := fun T w => run_float_arith w .mul T .f32 _ _ _ hm
  clear hm
  go_enter Tryz.func208, Tryz.ntmps208
  go_wp2
  go_ret
  exact ⟨rfl, by (repeat' first | exact Below.refl _ _ | assumption | refine Below.alloc ?_ (by first | omega | (simp; done) | (simp; omega)) _ | refine Below.setCell ?_ (by first | omega | (simp; done) | (simp; omega)) _ | refine Below.drew ?_)⟩

set_option maxRecDepth 100000 in
set_option maxHeartbeats 1000000 in
theorem stormIn_gust (lo : Nat) (hi : Nat) (wi : Nat) (st : Int) (de : Int) (ca : Int) (n : Int) (wd gp : Nat) (t : Int) (sh : Nat) (ti : Int) (wt : Int) (sm : Int) (lg : Nat) (gu : Nat) (hg : Int) (hg0 : gt0 (ordB gu wi) = true) (w : World) :
    Calls Tryz.prog 123 #[.agg (conC lo hi wi st de ca n wd gp t sh), .agg (saC ti wt sm), .agg (tkC lg gu hg)] w fun e w' => e = .returned (.int .i8 (ca)) ∧ Below w.heap.size w w' := by
  unfold gt0 ordB at hg0
  go_enter Tryz.func123, Tryz.ntmps123
  go_upto_region 1 with (fail)
  refine abs_world (fun W => W.heap[w.heap.size]? = some (.cells (conC lo hi wi st de ca n wd gp t sh) 101 (0, 0)) ∧ W.heap[w.heap.size + 1]? = some (.cells (saC ti wt sm) 43 (0, 0)) ∧ W.heap[w.heap.size + 1 + 1]? = some (.cells (tkC lg gu hg) 47 (0, 0)) ∧ Below w.heap.size w W) (box3 w (.cells (conC lo hi wi st de ca n wd gp t sh) 101) (.cells (saC ti wt sm) 43) (.cells (tkC lg gu hg) 47)) ?_
  rintro W ⟨h0, h1, h2, hb⟩
  generalize w.heap.size + 1 + 1 = b2 at *
  generalize w.heap.size + 1 = b1 at *
  have H0 := Lib.hid h0
  have H1 := Lib.hid h1
  have H2 := Lib.hid h2
  obtain ⟨c4, c5, c6, c7⟩ := con_cells h0
  obtain ⟨s0, s1, s2⟩ := sa_cells h1
  obtain ⟨k0, k1, k2⟩ := tk_cells h2
  clear h0 h1 h2
  clear H0 H1 H2
  go_wp2
  go_ret
  exact ⟨rfl, hb⟩

set_option maxRecDepth 100000 in
set_option maxHeartbeats 1000000 in
theorem stormIn_calm (lo : Nat) (hi : Nat) (wi : Nat) (st : Int) (de : Int) (ca : Int) (n : Int) (wd gp : Nat) (t : Int) (sh : Nat) (ti : Int) (wt : Int) (sm : Int) (lg : Nat) (gu : Nat) (hg : Int) (hg0 : gt0 (ordB gu wi) = false) (h1 : 0 < sm) (h2 : sm ≤ 20) (w : World) :
    Calls Tryz.prog 123 #[.agg (conC lo hi wi st de ca n wd gp t sh), .agg (saC ti wt sm), .agg (tkC lg gu hg)] w fun e w' => e = .returned (.int .i8 (sm - 1)) ∧ Below w.heap.size w w' := by
  unfold gt0 ordB at hg0
  go_enter Tryz.func123, Tryz.ntmps123
  go_upto_region 1 with (fail)
  refine abs_world (fun W => W.heap[w.heap.size]? = some (.cells (conC lo hi wi st de ca n wd gp t sh) 101 (0, 0)) ∧ W.heap[w.heap.size + 1]? = some (.cells (saC ti wt sm) 43 (0, 0)) ∧ W.heap[w.heap.size + 1 + 1]? = some (.cells (tkC lg gu hg) 47 (0, 0)) ∧ Below w.heap.size w W) (box3 w (.cells (conC lo hi wi st de ca n wd gp t sh) 101) (.cells (saC ti wt sm) 43) (.cells (tkC lg gu hg) 47)) ?_
  rintro W ⟨h0, h1, h2, hb⟩
  generalize w.heap.size + 1 + 1 = b2 at *
  generalize w.heap.size + 1 = b1 at *
  have H0 := Lib.hid h0
  have H1 := Lib.hid h1
  have H2 := Lib.hid h2
  obtain ⟨c4, c5, c6, c7⟩ := con_cells h0
  obtain ⟨s0, s1, s2⟩ := sa_cells h1
  obtain ⟨k0, k1, k2⟩ := tk_cells h2
  clear h0 h1 h2
  clear H0 H1 H2
  go_wp2
  go_ret
  refine ⟨?_, hb⟩
  first | rfl | (congr 2; omega)

set_option maxRecDepth 100000 in
set_option maxHeartbeats 1000000 in
theorem stormIn_none (lo : Nat) (hi : Nat) (wi : Nat) (st : Int) (de : Int) (ca : Int) (n : Int) (wd gp : Nat) (t : Int) (sh : Nat) (ti : Int) (wt : Int) (lg : Nat) (gu : Nat) (hg : Int) (hg0 : gt0 (ordB gu wi) = false) (w : World) :
    Calls Tryz.prog 123 #[.agg (conC lo hi wi st de ca n wd gp t sh), .agg (saC ti wt 0), .agg (tkC lg gu hg)] w fun e w' => e = .returned (.int .i8 (0)) ∧ Below w.heap.size w w' := by
  unfold gt0 ordB at hg0
  go_enter Tryz.func123, Tryz.ntmps123
  go_upto_region 1 with (fail)
  refine abs_world (fun W => W.heap[w.heap.size]? = some (.cells (conC lo hi wi st de ca n wd gp t sh) 101 (0, 0)) ∧ W.heap[w.heap.size + 1]? = some (.cells (saC ti wt 0) 43 (0, 0)) ∧ W.heap[w.heap.size + 1 + 1]? = some (.cells (tkC lg gu hg) 47 (0, 0)) ∧ Below w.heap.size w W) (box3 w (.cells (conC lo hi wi st de ca n wd gp t sh) 101) (.cells (saC ti wt 0) 43) (.cells (tkC lg gu hg) 47)) ?_
  rintro W ⟨h0, h1, h2, hb⟩
  generalize w.heap.size + 1 + 1 = b2 at *
  generalize w.heap.size + 1 = b1 at *
  have H0 := Lib.hid h0
  have H1 := Lib.hid h1
  have H2 := Lib.hid h2
  obtain ⟨c4, c5, c6, c7⟩ := con_cells h0
  obtain ⟨s0, s1, s2⟩ := sa_cells h1
  obtain ⟨k0, k1, k2⟩ := tk_cells h2
  clear h0 h1 h2
  clear H0 H1 H2
  go_wp2
  go_ret
  exact ⟨rfl, hb⟩

theorem stormIn_any (lo : Nat) (hi : Nat) (wi : Nat) (st : Int) (de : Int) (ca : Int) (n : Int) (wd gp : Nat) (t : Int) (sh : Nat) (ti : Int) (wt : Int) (sm : Int) (lg : Nat) (gu : Nat) (hg : Int) (s0 : 0 ≤ sm) (s1 : sm ≤ 20) (w : World) :
    Calls Tryz.prog 123 #[.agg (conC lo hi wi st de ca n wd gp t sh), .agg (saC ti wt sm), .agg (tkC lg gu hg)] w fun e w' => e = .returned (.int .i8 (stoB gu wi ca sm)) ∧ Below w.heap.size w w' := by
  cases h : gt0 (ordB gu wi) with
  | true => rw [show stoB gu wi ca sm = ca from if_pos h]; exact stormIn_gust _ _ _ _ _ _ _ _ _ _ _ _ _ _ _ _ _ h w
  | false =>
    by_cases hs : 0 < sm
    · rw [show stoB gu wi ca sm = sm - 1 by unfold stoB; rw [if_neg (by rw [h]; decide), if_pos hs]]; exact stormIn_calm _ _ _ _ _ _ _ _ _ _ _ _ _ _ _ _ _ h hs s1 w
    · obtain rfl : sm = 0 := by omega
      rw [show stoB gu wi ca 0 = 0 by unfold stoB; rw [if_neg (by rw [h]; decide), if_neg hs]]; exact stormIn_none _ _ _ _ _ _ _ _ _ _ _ _ _ _ _ _ h w

end Go.Proofs.YtddnfbpgldchcaaGreatDoor
