/-
  For every blind, valid or not, and every tilt: the blind with that tilt is what the model says. No conditions.
-/
import Derived.Test.YteagbfobnjfhcaaBhd
namespace Go.Proofs.Yteagbfobnjfhcaa
open Go.ChangeShapes Go.WideShapes Go.ChangeAt Go.RowKit Go.Deep Go.Joins

attribute [local go_sem] run_store_f

theorem laid_all3 (cs vs : Array Value) (h : cs.size = vs.size) : laid cs vs 0 = vs := by
  apply Array.ext'
  simp [laid]
  rw [← h]; simp
theorem blind_one (n : Int) (wd gp : Nat) (t : Int) (sh : Nat) : ∀ v ∈ blindC n wd gp t sh, v.oneCell' = true := by
  intro v hv
  simp only [blindC, List.mem_toArray, List.mem_cons, List.not_mem_nil, or_false] at hv
  rcases hv with rfl | rfl | rfl | rfl | rfl <;> rfl
theorem results_blind {fn : Func} {p u : Tmp} (h : fn.results = #[.cell p 28, .tmp u]) (tmps : Array Value) (w : World) (g : Nat) (n : Int) (wd gp : Nat) (t : Int) (sh : Nat) (hp : tmps.getD p undef = .pointer (some ⟨g, 0, none⟩)) (hg : w.heap[g]? = some (.cells (blindC n wd gp t sh) 28 (0, 0))) :
    (results fn tmps).run Try.prog w = .ok (.tuple #[.agg (blindC n wd gp t sh), tmps.getD u undef]) w := by
  rw [results_cell_tmp h, hp]
  have e := run_loadVar_row w g 28 28 (blindC n wd gp t sh) (0, 0) _ hg Try.underlying28 rfl info_blind
  simp only [asAddr, Sem.run_pure, Result.andThen_ok, e]

set_option maxRecDepth 100000 in
set_option maxHeartbeats 1000000 in
theorem tilted_any (n : Int) (wd gp : Nat) (t : Int) (sh : Nat) (x : Int) (x0 : -64 ≤ x) (x1 : x ≤ 64) (w : World) :
    Calls Try.prog 57 #[.agg (blindC n wd gp t sh), .int .i64 x] w fun e w' => e = .returned (.agg (blindC n wd gp x sh)) ∧ Below w.heap.size w w' := by
  unfold blindC
  go_enter Try.func57, Try.ntmps57
  go_wp2
  refine bodyPost_ret (v := .agg #[.int .i8 n, .float .f32 wd, .float .f32 gp, .int .i16 x, .float .f32 sh]) (by simp [results, Try.results57, go_sem]) rfl ⟨rfl, ?_⟩
  (repeat' first | exact Below.refl _ _ | assumption | refine Below.alloc ?_ (by first | omega | (simp; done) | (simp; omega)) _ | refine Below.setCell ?_ (by first | omega | (simp; done) | (simp; omega)) _ | refine Below.drew ?_)

set_option maxRecDepth 100000 in
set_option maxHeartbeats 1000000 in
theorem eqBlind_same (n : Int) (wd gp : Nat) (t : Int) (sh : Nat) (h1 : fin32 wd = true) (h2 : fin32 gp = true) (h3 : fin32 sh = true) (w : World) :
    Calls Try.prog 22 #[.agg (blindC n wd gp t sh), .agg (blindC n wd gp t sh)] w fun e w' => e = .returned (.bool true) ∧ Below w.heap.size w w' := by
  have hw1 := run_wide _ h1
  have hw2 := run_wide _ h2
  have hw3 := run_wide _ h3
  have hs1 := fun w => same_wide _ h1 w
  have hs2 := fun w => same_wide _ h2 w
  have hs3 := fun w => same_wide _ h3 w
  generalize wide wd = a1 at hw1 hs1
  generalize wide gp = a2 at hw2 hs2
  generalize wide sh = a3 at hw3 hs3
  have Hs1 := Lib.hid hs1
  have Hs2 := Lib.hid hs2
  have Hs3 := Lib.hid hs3
  clear h1 h2 h3 hs1 hs2 hs3
  unfold blindC
  go_enter Try.func22, Try.ntmps22
  go_upto_region 5 with (go_at_call 25; refine (Hs1.out _).mono ?_; rintro e w' ⟨rfl, rfl⟩)
  go_upto_region 7 with (go_at_call 25; refine (Hs2.out _).mono ?_; rintro e w' ⟨rfl, rfl⟩)
  go_wp2_with (go_at_call 25; refine (Hs3.out _).mono ?_; rintro e w' ⟨rfl, rfl⟩)
  go_ret
  exact ⟨rfl, ((Below.refl _ _).alloc (Nat.le_refl _) _).alloc (by simp) _⟩

theorem isTilt_is (h : Int) (fine : Bool) (hi : inI (-64) 64 h = fine) (w : World) : Calls Try.prog 51 #[.int .i64 h] w fun e w' => e = .returned (.bool fine) ∧ w = w' := by
  rw [← hi]; exact isTilt_any h w
theorem l02Tilt_is (h : Int) (fine : Bool) (hi : inI (-64) 64 h = fine) (w : World) : Calls Try.prog 55 #[.int .i64 h] w fun e w' => e = .returned (.bool fine) ∧ w = w' := by
  rw [← hi]; exact l02Tilt_any h w

set_option maxRecDepth 100000 in
set_option maxHeartbeats 1000000 in
theorem implTiltTo_yes (n : Int) (wd gp : Nat) (t : Int) (sh : Nat) (bw : BlWf n wd gp t sh) (h : Int) (hk : okBl n wd gp t sh = true) (hi : inI (-64) 64 h = true) (w : World) :
    Calls Try.prog 21 #[.agg (blindC n wd gp t sh), .int .i64 h] w fun e w' => e = .returned (.tuple #[.agg (blindC n wd gp h sh), .int .i64 0]) ∧ Below w.heap.size w w' := by
  obtain ⟨T0, T1⟩ := blwf_t bw
  obtain ⟨h0, h1⟩ := inI_get hi
  have Hc : Hid (codeC (okBl n wd gp t sh) true = 0) := by rw [hk]; rfl
  have Hi := Lib.hid hi
  have HT := Lib.hid (fun w => tilted_any n wd gp t sh h h0 h1 w)
  clear h0 h1 hk hi bw
  go_enter Try.func21, Try.ntmps21
  go_upto_region 1 with (fail)
  refine abs_world (fun W => Below w.heap.size w W ∧ W.heap[w.heap.size]? = some (.cells (blindC n wd gp t sh) 28 (0, 0)) ∧ W.heap[w.heap.size + 1]? = some (.cells (blindC 0 0 0 0 0) 28 (0, 0))) ⟨by (repeat' first | exact Below.refl _ _ | assumption | refine Below.alloc ?_ (by first | omega | (simp; done) | (simp; omega)) _ | refine Below.setCell ?_ (by first | omega | (simp; done) | (simp; omega)) _ | refine Below.drew ?_), heap_alloc2_old _ _ _, heap_alloc2_new _ _ _⟩ ?_
  rintro W ⟨hb, h0, h1⟩
  generalize hg1 : w.heap.size + 1 = g1 at *
  have hlt : w.heap.size ≤ g1 := by omega
  refine wp_region_held_drew (S := (fun W => W.heap[w.heap.size]? = some (.cells (blindC n wd gp t sh) 28 (0, 0)) ∧ W.heap[g1]? = some (.cells (blindC 0 0 0 0 0) 28 (0, 0)) ∧ Below w.heap.size w W)) (by kernel_rfl) ⟨h0, h1, hb.drew⟩ (fun hHeld => ?_)
  refine take_op (i := 0) (d := 7) (v := .agg (blindC n wd gp t sh)) rfl rfl (by kernel_rfl) (by kernel_rfl) (by kernel_rfl) (fun _ _ _ h => h) (yields_row (by rfl) 28 (.tmp 2) (by rfl) w.heap.size 0 5 (by rfl) 28 (blindC n wd gp t sh) (0, 0) _ (fun _ h => h.1) Try.underlying28 rfl info_blind (blind_fits _ _ _ _ _) (blindC n wd gp t sh) (blind_all _ _ _ _ _)) hHeld ?_
  simp only [List.setIfInBounds_toArray, List.set_cons_zero, List.set_cons_succ]
  refine take_op (i := 1) (d := 8) (v := ?_) rfl rfl (by kernel_rfl) (by kernel_rfl) (by kernel_rfl) (fun _ _ _ h => h) (Or.inl ⟨by rfl, ?hy1u1⟩) hHeld ?rest1u1
  case hy1u1 =>
    intro w' hS'
    go_simp
    try with_reducible rfl
  simp only [List.setIfInBounds_toArray, List.set_cons_zero, List.set_cons_succ]
  refine wpAnyH_ready (rs := [2]) (by kernel_rfl) (by simp) ?_
  refine AllReadyH.cons rfl (fun K hK => ?_) AllReadyH.nil
  go_simp
  refine (isTilt_is h _ Hi.out _).mono ?_
  rintro e w' ⟨rfl, rfl⟩
  refine hK.out _ _ (hHeld) (fun hHeld2 => ?_)
  clear hK K
  replace hHeld := hHeld2
  clear hHeld2
  refine wpAnyH_ready (rs := [3]) (by kernel_rfl) (by simp) ?_
  refine AllReadyH.cons rfl (fun K hK => ?_) AllReadyH.nil
  go_simp
  refine (checkBlind_is n wd gp t sh T0 T1 true 0 Hc.out _).mono ?_
  rintro e W1 ⟨rfl, hb1⟩
  refine hK.out _ _ (⟨below_row hb1 hHeld.1, below_row hb1 hHeld.2.1, hHeld.2.2.trans (hb1.mono hHeld.2.2.size)⟩) (fun hHeld2 => ?_)
  clear hK K
  replace hHeld := hHeld2
  clear hHeld2
  refine take_op (i := 4) (d := 6) (v := ?_) rfl rfl (by kernel_rfl) (by kernel_rfl) (by kernel_rfl) (fun _ _ _ h => h) (Or.inl ⟨by rfl, ?hy4u2⟩) hHeld ?rest4u2
  case hy4u2 =>
    intro w' hS'
    go_simp
    try with_reducible rfl
  simp only [List.setIfInBounds_toArray, List.set_cons_zero, List.set_cons_succ]
  refine wpAnyH_done (by kernel_rfl) ?_ _
  obtain ⟨hx0, hx1, hbx⟩ := hHeld
  have H0 := Lib.hid hx0
  have H1 := Lib.hid hx1
  clear hx0 hx1 h0 h1
  go_wp2_with (first | (refine wpList_load_part rfl 28 _ rfl w.heap.size 0 5 rfl 28 (blindC n wd gp t sh) (0, 0) _ H0.out Try.underlying28 rfl info_blind (blind_fits _ _ _ _ _) _ (blind_all _ _ _ _ _) ?_) | (go_at_call 57; refine (HT.out _).mono ?_; rintro e W2 ⟨rfl, hb2⟩; replace H1 := Lib.hid (below_row hb2 H1.out); replace hbx := hbx.trans (hb2.mono hbx.size)) | (refine wpList_store_part rfl 28 _ _ rfl g1 0 (blindC n wd gp h sh) rfl rfl 28 _ H1.out (by kernel_rfl) (Nat.le_refl _) (blind_one _ _ _ _ _) ?_; rw [laid_all3 _ _ (by rfl)]))
  refine bodyPost_ret (results_blind rfl _ _ g1 n wd gp h sh rfl (setRow_heap _ _ _ _ _ _ H1.out)) rfl ?_
  exact ⟨rfl, below_setRow hbx hlt _⟩

set_option maxRecDepth 100000 in
set_option maxHeartbeats 1000000 in
theorem implTiltTo_no (n : Int) (wd gp : Nat) (t : Int) (sh : Nat) (bw : BlWf n wd gp t sh) (h : Int) (hk : ¬ (okBl n wd gp t sh = true ∧ inI (-64) 64 h = true)) (w : World) :
    Calls Try.prog 21 #[.agg (blindC n wd gp t sh), .int .i64 h] w fun e w' => e = .returned (.tuple #[.agg (blindC 0 0 0 0 0), .int .i64 (codeC (okBl n wd gp t sh) (inI (-64) 64 h))]) ∧ Below w.heap.size w w' := by
  obtain ⟨T0, T1⟩ := blwf_t bw
  have hne := codeC_ne hk
  generalize hf : inI (-64) 64 h = fine at *
  generalize hc : codeC (okBl n wd gp t sh) fine = c at *
  have Hc := Lib.hid hc
  have Hi := Lib.hid hf
  have hne' : (c != 0) = true := bne_iff_ne.2 hne
  clear hk hc hf hne bw
  go_enter Try.func21, Try.ntmps21
  go_upto_region 1 with (fail)
  refine abs_world (fun W => Below w.heap.size w W ∧ W.heap[w.heap.size]? = some (.cells (blindC n wd gp t sh) 28 (0, 0)) ∧ W.heap[w.heap.size + 1]? = some (.cells (blindC 0 0 0 0 0) 28 (0, 0))) ⟨by (repeat' first | exact Below.refl _ _ | assumption | refine Below.alloc ?_ (by first | omega | (simp; done) | (simp; omega)) _ | refine Below.setCell ?_ (by first | omega | (simp; done) | (simp; omega)) _ | refine Below.drew ?_), heap_alloc2_old _ _ _, heap_alloc2_new _ _ _⟩ ?_
  rintro W ⟨hb, h0, h1⟩
  generalize hg1 : w.heap.size + 1 = g1 at *
  have hlt : w.heap.size ≤ g1 := by omega
  refine wp_region_held_drew (S := (fun W => W.heap[w.heap.size]? = some (.cells (blindC n wd gp t sh) 28 (0, 0)) ∧ W.heap[g1]? = some (.cells (blindC 0 0 0 0 0) 28 (0, 0)) ∧ Below w.heap.size w W)) (by kernel_rfl) ⟨h0, h1, hb.drew⟩ (fun hHeld => ?_)
  refine take_op (i := 0) (d := 7) (v := .agg (blindC n wd gp t sh)) rfl rfl (by kernel_rfl) (by kernel_rfl) (by kernel_rfl) (fun _ _ _ h => h) (yields_row (by rfl) 28 (.tmp 2) (by rfl) w.heap.size 0 5 (by rfl) 28 (blindC n wd gp t sh) (0, 0) _ (fun _ h => h.1) Try.underlying28 rfl info_blind (blind_fits _ _ _ _ _) (blindC n wd gp t sh) (blind_all _ _ _ _ _)) hHeld ?_
  simp only [List.setIfInBounds_toArray, List.set_cons_zero, List.set_cons_succ]
  refine take_op (i := 1) (d := 8) (v := ?_) rfl rfl (by kernel_rfl) (by kernel_rfl) (by kernel_rfl) (fun _ _ _ h => h) (Or.inl ⟨by rfl, ?hy1u3⟩) hHeld ?rest1u3
  case hy1u3 =>
    intro w' hS'
    go_simp
    try with_reducible rfl
  simp only [List.setIfInBounds_toArray, List.set_cons_zero, List.set_cons_succ]
  refine wpAnyH_ready (rs := [2]) (by kernel_rfl) (by simp) ?_
  refine AllReadyH.cons rfl (fun K hK => ?_) AllReadyH.nil
  go_simp
  refine (isTilt_is h _ Hi.out _).mono ?_
  rintro e w' ⟨rfl, rfl⟩
  refine hK.out _ _ (hHeld) (fun hHeld2 => ?_)
  clear hK K
  replace hHeld := hHeld2
  clear hHeld2
  refine wpAnyH_ready (rs := [3]) (by kernel_rfl) (by simp) ?_
  refine AllReadyH.cons rfl (fun K hK => ?_) AllReadyH.nil
  go_simp
  refine (checkBlind_is n wd gp t sh T0 T1 fine c Hc.out _).mono ?_
  rintro e W1 ⟨rfl, hb1⟩
  refine hK.out _ _ (⟨below_row hb1 hHeld.1, below_row hb1 hHeld.2.1, hHeld.2.2.trans (hb1.mono hHeld.2.2.size)⟩) (fun hHeld2 => ?_)
  clear hK K
  replace hHeld := hHeld2
  clear hHeld2
  refine take_op (i := 4) (d := 6) (v := ?_) rfl rfl (by kernel_rfl) (by kernel_rfl) (by kernel_rfl) (fun _ _ _ h => h) (Or.inl ⟨by rfl, ?hy4u4⟩) hHeld ?rest4u4
  case hy4u4 =>
    intro w' hS'
    go_simp
    try with_reducible rfl
  simp only [List.setIfInBounds_toArray, List.set_cons_zero, List.set_cons_succ]
  refine wpAnyH_done (by kernel_rfl) ?_ _
  obtain ⟨hx0, hx1, hbx⟩ := hHeld
  have H0 := Lib.hid hx0
  have H1 := Lib.hid hx1
  clear hx0 hx1 h0 h1
  go_wp2_with (refine wpList_store_part rfl 28 _ _ rfl g1 0 (blindC 0 0 0 0 0) rfl rfl 28 _ H1.out (by kernel_rfl) (Nat.le_refl _) (blind_one _ _ _ _ _) ?_; rw [laid_all3 _ _ (by rfl)])
  refine bodyPost_ret (results_blind rfl _ _ g1 0 0 0 0 0 rfl (setRow_heap _ _ _ _ _ _ H1.out)) rfl ?_
  exact ⟨rfl, below_setRow hbx hlt _⟩

set_option maxRecDepth 100000 in
set_option maxHeartbeats 1000000 in
theorem specTiltTo_yes (n : Int) (wd gp : Nat) (t : Int) (sh : Nat) (bw : BlWf n wd gp t sh) (h : Int) (hk : okBl n wd gp t sh = true) (hi : inI (-64) 64 h = true) (w : World) :
    Calls Try.prog 20 #[.agg (blindC n wd gp t sh), .int .i64 h] w fun e w' => e = .returned (.tuple #[.agg (blindC n wd gp h sh), .int .i64 0]) ∧ Below w.heap.size w w' := by
  obtain ⟨T0, T1⟩ := blwf_t bw
  obtain ⟨N0, N1⟩ := blwf_n bw
  obtain ⟨x0, x1⟩ := inI_get hi
  have Hk := Lib.hid hk
  have Hi := Lib.hid hi
  clear hk hi bw
  go_enter Try.func20, Try.ntmps20
  go_upto_region 1 with (fail)
  refine abs_world (fun W => Below w.heap.size w W ∧ W.heap[w.heap.size]? = some (.cells (blindC n wd gp t sh) 28 (0, 0)) ∧ W.heap[w.heap.size + 1]? = some (.cells (blindC 0 0 0 0 0) 28 (0, 0))) ⟨by (repeat' first | exact Below.refl _ _ | assumption | refine Below.alloc ?_ (by first | omega | (simp; done) | (simp; omega)) _ | refine Below.setCell ?_ (by first | omega | (simp; done) | (simp; omega)) _ | refine Below.drew ?_), heap_alloc2_old _ _ _, heap_alloc2_new _ _ _⟩ ?_
  rintro W ⟨hb, h0, h1⟩
  generalize hg1 : w.heap.size + 1 = g1 at *
  have hlt : w.heap.size ≤ g1 := by omega
  have H0 := Lib.hid h0
  have H1 := Lib.hid h1
  obtain ⟨k0, k1, k2, k3, k4⟩ := blind_cells h0
  have kf := frozen_of_row W w.heap.size 3 _ _ h0
  clear h0 h1
  go_upto_region 6 with (first | (go_at_call 49; refine (l02Ok_any n wd gp t sh T0 T1 N0 N1 w.heap.size _ _ _ H0.out).mono ?_; rw [Hk.out]; rintro e w1 ⟨rfl, rfl⟩) | (go_at_call 55; refine (l02Tilt_is h true Hi.out _).mono ?_; rintro e w' ⟨rfl, rfl⟩))
  have hn : (W.setCell ⟨w.heap.size, 3, none⟩ (.int .i16 h)).heap[w.heap.size]? = some (.cells (blindC n wd gp h sh) 28 (0, 0)) := by rw [heap_setCell_same _ _ _ _ _ _ H0.out]; rfl
  have hm : (W.setCell ⟨w.heap.size, 3, none⟩ (.int .i16 h)).heap[g1]? = some (.cells (blindC 0 0 0 0 0) 28 (0, 0)) := by rw [heap_setCell_other _ _ _ _ (by simp; omega)]; exact H1.out
  have hbn : Below w.heap.size w (W.setCell ⟨w.heap.size, 3, none⟩ (.int .i16 h)) := hb.setCell (p := ⟨w.heap.size, 3, none⟩) (Nat.le_refl _) _
  clear k0 k1 k2 k3 k4 kf
  generalize W.setCell ⟨w.heap.size, 3, none⟩ (.int .i16 h) = W2 at *
  have HN := Lib.hid hn
  have HM := Lib.hid hm
  clear hn hm
  go_wp2_with (first | (refine wpList_load_part rfl 28 _ rfl w.heap.size 0 5 rfl 28 (blindC n wd gp h sh) (0, 0) _ HN.out Try.underlying28 rfl info_blind (blind_fits _ _ _ _ _) _ (blind_all _ _ _ _ _) ?_) | (refine wpList_store_part rfl 28 _ _ rfl g1 0 (blindC n wd gp h sh) rfl rfl 28 _ HM.out (by kernel_rfl) (Nat.le_refl _) (blind_one _ _ _ _ _) ?_; rw [laid_all3 _ _ (by rfl)]))
  refine bodyPost_ret (results_blind rfl _ _ g1 n wd gp h sh rfl (setRow_heap _ _ _ _ _ _ HM.out)) rfl ?_
  exact ⟨rfl, below_setRow hbn hlt _⟩

set_option maxRecDepth 100000 in
set_option maxHeartbeats 1000000 in
theorem specTiltTo_no (n : Int) (wd gp : Nat) (t : Int) (sh : Nat) (bw : BlWf n wd gp t sh) (h : Int) (hk : ¬ (okBl n wd gp t sh = true ∧ inI (-64) 64 h = true)) (w : World) :
    Calls Try.prog 20 #[.agg (blindC n wd gp t sh), .int .i64 h] w fun e w' => e = .returned (.tuple #[.agg (blindC 0 0 0 0 0), .int .i64 (codeC (okBl n wd gp t sh) (inI (-64) 64 h))]) ∧ Below w.heap.size w w' := by
  obtain ⟨T0, T1⟩ := blwf_t bw
  obtain ⟨N0, N1⟩ := blwf_n bw
  generalize hi : inI (-64) 64 h = fine at *
  have Hi := Lib.hid hi
  clear hi
  cases hk2 : okBl n wd gp t sh with
  | false =>
    have Hk := Lib.hid hk2
    clear hk hk2 bw
    go_enter Try.func20, Try.ntmps20
    go_upto_region 1 with (fail)
    refine abs_world (fun W => Below w.heap.size w W ∧ W.heap[w.heap.size]? = some (.cells (blindC n wd gp t sh) 28 (0, 0)) ∧ W.heap[w.heap.size + 1]? = some (.cells (blindC 0 0 0 0 0) 28 (0, 0))) ⟨by (repeat' first | exact Below.refl _ _ | assumption | refine Below.alloc ?_ (by first | omega | (simp; done) | (simp; omega)) _ | refine Below.setCell ?_ (by first | omega | (simp; done) | (simp; omega)) _ | refine Below.drew ?_), heap_alloc2_old _ _ _, heap_alloc2_new _ _ _⟩ ?_
    rintro W ⟨hb, h0, h1⟩
    generalize hg1 : w.heap.size + 1 = g1 at *
    have hlt : w.heap.size ≤ g1 := by omega
    have H0 := Lib.hid h0
    have H1 := Lib.hid h1
    clear h0 h1
    go_wp2_with (first | (go_at_call 49; refine (l02Ok_any n wd gp t sh T0 T1 N0 N1 w.heap.size _ _ _ H0.out).mono ?_; rw [Hk.out]; rintro e w1 ⟨rfl, rfl⟩) | (refine wpList_store_part rfl 28 _ _ rfl g1 0 (blindC 0 0 0 0 0) rfl rfl 28 _ H1.out (by kernel_rfl) (Nat.le_refl _) (blind_one _ _ _ _ _) ?_; rw [laid_all3 _ _ (by rfl)]))
    refine bodyPost_ret (results_blind rfl _ _ g1 0 0 0 0 0 rfl (setRow_heap _ _ _ _ _ _ H1.out)) rfl ?_
    exact ⟨rfl, below_setRow hb hlt _⟩
  | true =>
    have Hk := Lib.hid hk2
    have hff : fine = false := by cases fine <;> simp_all
    subst hff
    clear hk hk2 bw
    go_enter Try.func20, Try.ntmps20
    go_upto_region 1 with (fail)
    refine abs_world (fun W => Below w.heap.size w W ∧ W.heap[w.heap.size]? = some (.cells (blindC n wd gp t sh) 28 (0, 0)) ∧ W.heap[w.heap.size + 1]? = some (.cells (blindC 0 0 0 0 0) 28 (0, 0))) ⟨by (repeat' first | exact Below.refl _ _ | assumption | refine Below.alloc ?_ (by first | omega | (simp; done) | (simp; omega)) _ | refine Below.setCell ?_ (by first | omega | (simp; done) | (simp; omega)) _ | refine Below.drew ?_), heap_alloc2_old _ _ _, heap_alloc2_new _ _ _⟩ ?_
    rintro W ⟨hb, h0, h1⟩
    generalize hg1 : w.heap.size + 1 = g1 at *
    have hlt : w.heap.size ≤ g1 := by omega
    have H0 := Lib.hid h0
    have H1 := Lib.hid h1
    clear h0 h1
    go_wp2_with (first | (go_at_call 49; refine (l02Ok_any n wd gp t sh T0 T1 N0 N1 w.heap.size _ _ _ H0.out).mono ?_; rw [Hk.out]; rintro e w1 ⟨rfl, rfl⟩) | (go_at_call 55; refine (l02Tilt_is h false Hi.out _).mono ?_; rintro e w' ⟨rfl, rfl⟩) | (refine wpList_store_part rfl 28 _ _ rfl g1 0 (blindC 0 0 0 0 0) rfl rfl 28 _ H1.out (by kernel_rfl) (Nat.le_refl _) (blind_one _ _ _ _ _) ?_; rw [laid_all3 _ _ (by rfl)]))
    refine bodyPost_ret (results_blind rfl _ _ g1 0 0 0 0 0 rfl (setRow_heap _ _ _ _ _ _ H1.out)) rfl ?_
    exact ⟨rfl, below_setRow hb hlt _⟩

set_option maxRecDepth 100000 in
set_option maxHeartbeats 1000000 in
theorem FnExactTiltTo_core (n : Int) (wd gp : Nat) (t : Int) (sh : Nat) (h : Int) (rn : Int) (rw rg : Nat) (rt : Int) (rs : Nat) (c : Int) (hv1 : fin32 rw = true) (hv2 : fin32 rg = true) (hv3 : fin32 rs = true)
    (hspec : ∀ w, Calls Try.prog 20 #[.agg (blindC n wd gp t sh), .int .i64 h] w fun e w' => e = .returned (.tuple #[.agg (blindC rn rw rg rt rs), .int .i64 c]) ∧ Below w.heap.size w w')
    (himpl : ∀ w, Calls Try.prog 21 #[.agg (blindC n wd gp t sh), .int .i64 h] w fun e w' => e = .returned (.tuple #[.agg (blindC rn rw rg rt rs), .int .i64 c]) ∧ Below w.heap.size w w') (w : World) :
    Calls Try.prog 5 #[.agg (blindC n wd gp t sh), .int .i64 h] w fun e w' => e = .returned (.bool true) ∧ Below w.heap.size w w' := by
  have HS := Lib.hid hspec
  have HI := Lib.hid himpl
  have HE := Lib.hid (fun w => eqBlind_same rn rw rg rt rs hv1 hv2 hv3 w)
  clear hspec himpl hv1 hv2 hv3
  go_enter Try.func5, Try.ntmps5
  go_upto_region 1 with (fail)
  refine abs_world (fun W => Below w.heap.size w W ∧ W.heap[w.heap.size]? = some (.cells (blindC n wd gp t sh) 26 (0, 0))) ⟨(Below.refl _ _).alloc (Nat.le_refl _) _, heap_alloc_new _ _⟩ ?_
  rintro W ⟨hb, h0⟩
  have H0 := Lib.hid h0
  clear h0
  go_upto_region 2 with (first | (refine wpList_load_part rfl 26 _ rfl w.heap.size 0 5 rfl 26 (blindC n wd gp t sh) (0, 0) _ H0.out Try.underlying26 rfl info_blindL (blind_fits _ _ _ _ _) _ (blind_all _ _ _ _ _) ?_) | (go_at_call 16; refine (toBlind_any _ _ _ _ _ _).mono ?_; rintro e W1 ⟨rfl, hb1⟩; replace H0 := Lib.hid (below_row hb1 H0.out); replace hb := hb.trans (hb1.mono hb.size); clear hb1) | (go_at_call 20; refine (HS.out _).mono ?_; rintro e W1 ⟨rfl, hb1⟩; replace H0 := Lib.hid (below_row hb1 H0.out); replace hb := hb.trans (hb1.mono hb.size); clear hb1) | (refine wpList_store_part rfl 28 _ _ rfl _ 0 (blindC rn rw rg rt rs) rfl rfl 28 _ (heap_alloc_new _ _) (by kernel_rfl) (Nat.le_refl _) (blind_one _ _ _ _ _) ?_; rw [laid_all3 _ _ (by rfl)]))
  have hlt := row_lt H0.out
  refine abs_world (fun W => Below w.heap.size w W ∧ W.heap[w.heap.size]? = some (.cells (blindC n wd gp t sh) 26 (0, 0)) ∧ W.heap[W1.heap.size]? = some (.cells (blindC rn rw rg rt rs) 28 (0, 0))) ⟨below_setRow (hb.alloc hb.size _) hb.size _, (setRow_other _ _ _ _ (by omega)).trans (below_row ((Below.refl W1.heap.size W1).alloc (Nat.le_refl _) _) H0.out), setRow_heap _ _ _ _ _ _ (heap_alloc_new _ _)⟩ ?_
  generalize W1.heap.size = b1 at hlt ⊢
  clear hb H0
  rintro W ⟨hb, h0, h1⟩
  have H0 := Lib.hid h0
  have H1 := Lib.hid h1
  clear h0 h1
  go_upto_region 3 with (first | (refine wpList_load_part rfl 26 _ rfl w.heap.size 0 5 rfl 26 (blindC n wd gp t sh) (0, 0) _ H0.out Try.underlying26 rfl info_blindL (blind_fits _ _ _ _ _) _ (blind_all _ _ _ _ _) ?_) | (go_at_call 16; refine (toBlind_any _ _ _ _ _ _).mono ?_; rintro e W2 ⟨rfl, hb1⟩; replace H0 := Lib.hid (below_row hb1 H0.out); replace H1 := Lib.hid (below_row hb1 H1.out); replace hb := hb.trans (hb1.mono hb.size); clear hb1) | (go_at_call 21; refine (HI.out _).mono ?_; rintro e W2 ⟨rfl, hb1⟩; replace H0 := Lib.hid (below_row hb1 H0.out); replace H1 := Lib.hid (below_row hb1 H1.out); replace hb := hb.trans (hb1.mono hb.size); clear hb1) | (refine wpList_store_part rfl 28 _ _ rfl _ 0 (blindC rn rw rg rt rs) rfl rfl 28 _ (heap_alloc_new _ _) (by kernel_rfl) (Nat.le_refl _) (blind_one _ _ _ _ _) ?_; rw [laid_all3 _ _ (by rfl)]))
  have hlt2 := row_lt H1.out
  refine abs_world (fun W => Below w.heap.size w W ∧ W.heap[b1]? = some (.cells (blindC rn rw rg rt rs) 28 (0, 0)) ∧ W.heap[W2.heap.size]? = some (.cells (blindC rn rw rg rt rs) 28 (0, 0))) ⟨below_setRow (hb.alloc hb.size _) hb.size _, (setRow_other _ _ _ _ (by omega)).trans (below_row ((Below.refl W2.heap.size W2).alloc (Nat.le_refl _) _) H1.out), setRow_heap _ _ _ _ _ _ (heap_alloc_new _ _)⟩ ?_
  generalize W2.heap.size = b2 at hlt2 ⊢
  clear hb H0 H1
  rintro W3 ⟨hb, h1, h2⟩
  have H1 := Lib.hid h1
  have H2 := Lib.hid h2
  clear h1 h2
  go_wp2_with (first | (refine wpList_load_part rfl 28 _ rfl b1 0 5 rfl 28 (blindC rn rw rg rt rs) (0, 0) _ H1.out Try.underlying28 rfl info_blind (blind_fits _ _ _ _ _) _ (blind_all _ _ _ _ _) ?_) | (refine wpList_load_part rfl 28 _ rfl b2 0 5 rfl 28 (blindC rn rw rg rt rs) (0, 0) _ H2.out Try.underlying28 rfl info_blind (blind_fits _ _ _ _ _) _ (blind_all _ _ _ _ _) ?_) | (go_at_call 22; refine (HE.out _).mono ?_; rintro e W4 ⟨rfl, hb4⟩; replace hb := hb.trans (hb4.mono hb.size)))
  go_ret
  exact ⟨rfl, hb⟩

theorem part_fin {sh : Nat} (h : sh ≤ 1065353216 ∨ sh = 2147483648) : fin32 sh = true := by
  rcases h with h | rfl
  · exact fin_of_lt (by omega)
  · decide +kernel
theorem lawTiltTo_walk (n : Int) (wd gp : Nat) (t : Int) (sh : Nat) (bw : BlWf n wd gp t sh) (h : Int) (w : World) :
    Calls Try.prog 5 #[.agg (blindC n wd gp t sh), .int .i64 h] w fun e w' => e = .returned (.bool true) ∧ Below w.heap.size w w' := by
  by_cases hk : okBl n wd gp t sh = true ∧ inI (-64) 64 h = true
  · have ok := blok_of bw hk.1
    exact FnExactTiltTo_core n wd gp t sh h _ _ _ _ _ _ (fin_of_lt (Nat.lt_of_le_of_lt ok.2.2.2.1 (by decide))) (fin_of_lt (Nat.lt_of_le_of_lt ok.2.2.2.2.2.1 (by decide))) (part_fin ok.2.2.2.2.2.2.2.2) (fun w => specTiltTo_yes n wd gp t sh bw h hk.1 hk.2 w) (fun w => implTiltTo_yes n wd gp t sh bw h hk.1 hk.2 w) w
  · exact FnExactTiltTo_core n wd gp t sh h _ _ _ _ _ _ zero_fin zero_fin zero_fin (fun w => specTiltTo_no n wd gp t sh bw h hk w) (fun w => implTiltTo_no n wd gp t sh bw h hk w) w

set_option maxRecDepth 100000 in
theorem FnExactTiltTo_holds : Rows.FnExactTiltToSaid :=
  OpenClaim.holds_of_wide 5 Try.f5 rfl rfl rfl rfl rfl rfl rfl ⟨rfl, rfl, rfl, rfl, rfl⟩ rfl rfl rfl rfl rfl (by kernel_rfl) Try.func5 (by kernel_rfl)
    (of_decide_eq_true (by kernel_rfl)) (by unfold Func.isWrapper; first | (rw [if_pos (by decide +kernel)]; kernel_rfl) | (rw [if_neg (by decide +kernel)]; exact ⟨rfl, rfl⟩))
    (fun os started H enc _ => law_lifted 5 Try.f5 Rows.fnExactTiltToSpec Rows.fnExactTiltToRow.domain os started H enc (by kernel_rfl) Try.func5 rfl rfl
      (by rw [Try.params5]; intro t ht; simp only [List.mem_cons, List.not_mem_nil, or_false] at ht; rcases ht with rfl | rfl <;> exact ⟨by kernel_rfl, of_decide_eq_true (by kernel_rfl)⟩)
      (fun ds hl => by
        match ds, hl with
        | [d0, d1], _ => rfl)
      (ChangeSpec.witness6 (enc := enc) (C := Try.checked) false ⟨#[], #[.agg #[.int .i8 0, .float .f32 0, .float .f32 0, .int .i16 0, .float .f32 0], .int .i64 0], []⟩ 8 (by kernel_rfl) (by kernel_rfl) (by kernel_rfl) (by kernel_rfl))
      (fun W base args ds p hval hA => by
        rw [Try.params5] at hA hval
        obtain ⟨v0, vs0, d0, ds0, p0, q0, hargs, rfl, rfl, h0, r0⟩ := trodAll_cons hA
        obtain ⟨v1, vs1, d1, ds1, p1, q1, rfl, rfl, rfl, h1, r1⟩ := trodAll_cons r0
        obtain ⟨rfl, rfl, rfl⟩ := trodAll_nil r1
        obtain rfl : args = #[v0, v1] := by cases args; simp_all
        obtain ⟨n0, wd0, gp0, t0, sh0, bw0, rfl⟩ := open_blind (hval 0 26 v0 rfl rfl) h0
        obtain ⟨a1, rfl, rfl, rfl, w1⟩ := open_int Try.underlying2 (hval 1 2 v1 rfl rfl) h1
        exact lawTiltTo_walk n0 wd0 gp0 t0 sh0 bw0 a1 W))
#print axioms FnExactTiltTo_holds

end Go.Proofs.Yteagbfobnjfhcaa
