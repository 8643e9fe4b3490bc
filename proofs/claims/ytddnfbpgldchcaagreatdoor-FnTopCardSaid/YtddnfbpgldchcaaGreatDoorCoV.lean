/-
  A tick of a controller: the state behind a tick in which the blind is down.

-/
import Derived.Test.YtddnfbpgldchcaaGreatDoorCoM

namespace Go.Proofs.YtddnfbpgldchcaaGreatDoor

open Go.ChangeShapes Go.WideShapes Go.ChangeAt Go.RowKit Go.Deep Go.Joins

attribute [local go_sem] run_store_f

theorem tooBright_is (lo hi x : Nat) (r : Bool) (h : gt0 (ordB x hi) = r) (w : World) :
    Calls Tryz.prog 161 #[.agg #[.float .f32 lo, .float .f32 hi], .float .f32 x] w fun e w' => e = .returned (.bool r) ∧ Below w.heap.size w w' := by
  subst h; exact tooBright_any lo hi x w

theorem tooDark_is (lo hi x : Nat) (r : Bool) (h : lt0 (ordB x lo) = r) (w : World) :
    Calls Tryz.prog 162 #[.agg #[.float .f32 lo, .float .f32 hi], .float .f32 x] w fun e w' => e = .returned (.bool r) ∧ Below w.heap.size w w' := by
  subst h; exact tooDark_any lo hi x w

theorem stood_sa : Tryz.prog.stoodInHeld 43 = false := by kernel_rfl

theorem fields_sa : Tryz.prog.underlying 43 = some (.struct (Tryz.prog.fieldsOf 43)) := by kernel_rfl

set_option maxRecDepth 100000 in
theorem run_eql_sa (x1 y1 z1 x2 y2 z2 : Int) (w : World) : (Op.equalIn 10000 43 (.agg (saC x1 y1 z1)) (.agg (saC x2 y2 z2))).run Tryz.prog w = .ok (x1 == x2 && (y1 == y2 && z1 == z2)) w := by
  rw [run_equalIn_agg w 9999 43 _ _ fields_sa stood_sa]
  have hf : (Tryz.prog.fieldsOf 43).toList.map (fun f => (f.name, f.type, f.offset)) = [("Tilt", 24, 0), ("Wait", 29, 1), ("Storm", 29, 2)] := by kernel_rfl
  generalize (Tryz.prog.fieldsOf 43).toList = fs at hf
  have hlen : fs.length = 3 := by simpa using congrArg List.length hf
  have a8 : ∀ w, (isAgg 29).run Tryz.prog w = .ok false w := fun w => by kernel_rfl
  have a16 : ∀ w, (isAgg 24).run Tryz.prog w = .ok false w := fun w => by kernel_rfl
  have p0 : ∀ x y z w, (part 24 (saC x y z) 0).run Tryz.prog w = .ok (.int .i16 x) w := fun x y z w => by
    unfold part; rw [Sem.run_bind, a16]; rfl
  have p1 : ∀ x y z w, (part 29 (saC x y z) 1).run Tryz.prog w = .ok (.int .i8 y) w := fun x y z w => by
    unfold part; rw [Sem.run_bind, a8]; rfl
  have p2 : ∀ x y z w, (part 29 (saC x y z) 2).run Tryz.prog w = .ok (.int .i8 z) w := fun x y z w => by
    unfold part; rw [Sem.run_bind, a8]; rfl
  match fs, hlen, hf with
  | [f0, f1, f2], _, hf =>
    simp only [List.map_cons, List.map_nil, List.cons.injEq, Prod.mk.injEq, and_true] at hf
    obtain ⟨⟨n0, ty0, o0⟩, ⟨n1, ty1, o1⟩, n2, ty2, o2⟩ := hf
    simp only [Op.eqFields, n0, n1, n2, ty0, ty1, ty2, o0, o1, o2]
    rw [if_pos (by decide), if_pos (by decide), if_pos (by decide)]
    simp only [Sem.run_bind, p0, p1, p2, Result.andThen_ok, run_equalIn_int _ 9998 29 .i8 .i8 _ _ Tryz.underlying29, run_equalIn_int _ 9998 24 .i16 .i16 _ _ Tryz.underlying24, Sem.run_ite]
    cases x1 == x2 <;> cases y1 == y2 <;> cases z1 == z2 <;> rfl

theorem eql_sa_ne {x1 y1 z1 x2 : Int} (h : x1 ≠ x2) (w : World) : (Op.equalIn 10000 43 (.agg (saC x1 y1 z1)) (.agg (saC x2 y1 z1))).run Tryz.prog w = .ok false w := by
  rw [run_eql_sa, beq_eq_false_iff_ne.2 h]; rfl

theorem eql_sa_eq (x1 y1 z1 : Int) (w : World) : (Op.equalIn 10000 43 (.agg (saC x1 y1 z1)) (.agg (saC x1 y1 z1))).run Tryz.prog w = .ok true w := by
  rw [run_eql_sa]; simp

set_option maxRecDepth 100000 in
set_option maxHeartbeats 1000000 in
theorem moved_wait (lo : Nat) (hi : Nat) (wi : Nat) (st : Int) (de : Int) (ca : Int) (n : Int) (wd gp : Nat) (t : Int) (sh : Nat) (ti : Int) (wt : Int) (sm : Int) (x : Nat) (h0 : 0 < wt) (h1 : wt ≤ 20) (w : World) :
    Calls Tryz.prog 125 #[.agg (conC lo hi wi st de ca n wd gp t sh), .agg (saC ti wt sm), .float .f32 x] w fun e w' => e = .returned (.agg (saC ti (wt - 1) sm)) ∧ Below w.heap.size w w' := by
  go_enter Tryz.func125, Tryz.ntmps125
  go_upto_region 1 with (fail)
  refine abs_world (fun W => W.heap[w.heap.size]? = some (.cells (conC lo hi wi st de ca n wd gp t sh) 101 (0, 0)) ∧ W.heap[w.heap.size + 1]? = some (.cells (saC ti wt sm) 43 (0, 0)) ∧ W.heap[w.heap.size + 1 + 1]? = some (.cells (saC 0 0 0) 43 (0, 0)) ∧ Below w.heap.size w W) (box3 w (.cells (conC lo hi wi st de ca n wd gp t sh) 101) (.cells (saC ti wt sm) 43) (.cells (saC 0 0 0) 43)) ?_
  rintro W ⟨h0, h1, h2, hb⟩
  have hl1 : w.heap.size < w.heap.size + 1 := by omega
  have hl2 : w.heap.size + 1 < w.heap.size + 1 + 1 := by omega
  generalize w.heap.size + 1 + 1 = b2 at *
  generalize w.heap.size + 1 = b1 at *
  have H0 := Lib.hid h0
  have H1 := Lib.hid h1
  have H2 := Lib.hid h2
  clear h0 h1 h2
  obtain ⟨s0, s1, s2⟩ := sa_cells H1.out
  have f1 := frozen_of_row W b1 1 _ _ H1.out
  go_upto_region 3 with (fail)
  refine abs_world (fun V => V.heap[b1]? = some (.cells (saC ti (wt - 1) sm) 43 (0, 0)) ∧ V.heap[b2]? = some (.cells (saC 0 0 0) 43 (0, 0)) ∧ Below w.heap.size w V) ⟨(heap_setCell_same _ _ _ _ _ _ H1.out).trans rfl, (heap_setCell_other _ _ _ _ (by simp; omega)).trans H2.out, hb.setCell (by simp; omega) _⟩ ?_
  clear s0 s1 s2 f1 H0 H1 H2 hb
  rintro W ⟨qG1, qG2, hb⟩
  have G1 := Lib.hid qG1
  have G2 := Lib.hid qG2
  clear qG1 qG2
  go_wp2_with (first | (refine wpList_load_part rfl 43 _ rfl b1 0 3 rfl 43 (saC ti (wt - 1) sm) (0, 0) _ G1.out Tryz.underlying43 rfl info_sa (sa_fits _ _ _) _ (sa_all _ _ _) ?_) | (refine wpList_store_part rfl 43 _ _ rfl b2 0 (saC ti (wt - 1) sm) rfl rfl 43 (saC 0 0 0) G2.out info_sa (Nat.le_refl _) (sa_one _ _ _) ?_; rw [laid_all5 (saC 0 0 0) (saC ti (wt - 1) sm) rfl]))
  exact bodyPost_ret (v := .agg (saC ti (wt - 1) sm)) (results_cell_row rfl _ _ _ _ _ _ _ rfl (setRow_heap _ _ _ _ _ _ G2.out) Tryz.underlying43 rfl info_sa) rfl ⟨rfl, below_setRow hb (by omega) _⟩

set_option maxRecDepth 100000 in
set_option maxHeartbeats 1000000 in
theorem moved_b1 (lo : Nat) (hi : Nat) (wi : Nat) (st : Int) (de : Int) (ca : Int) (n : Int) (wd gp : Nat) (t : Int) (sh : Nat) (ti : Int) (wt : Int) (sm : Int) (x : Nat) (hw : ¬ 0 < wt) (hB : gt0 (ordB x hi) = true) (st0 : 1 ≤ st) (st1 : st ≤ 64) (ti0 : -64 ≤ ti) (ti1 : ti ≤ 64) (hk : ti + st ≤ 64) (w : World) :
    Calls Tryz.prog 125 #[.agg (conC lo hi wi st de ca n wd gp t sh), .agg (saC ti wt sm), .float .f32 x] w fun e w' => e = .returned (.agg (saC (ti + st) de sm)) ∧ Below w.heap.size w w' := by
  have HB := Lib.hid (fun w => tooBright_is lo hi x true hB w)
  have hne : ti + st ≠ ti := by omega
  clear hB
  go_enter Tryz.func125, Tryz.ntmps125
  go_upto_region 1 with (fail)
  refine abs_world (fun W => W.heap[w.heap.size]? = some (.cells (conC lo hi wi st de ca n wd gp t sh) 101 (0, 0)) ∧ W.heap[w.heap.size + 1]? = some (.cells (saC ti wt sm) 43 (0, 0)) ∧ W.heap[w.heap.size + 1 + 1]? = some (.cells (saC 0 0 0) 43 (0, 0)) ∧ Below w.heap.size w W) (box3 w (.cells (conC lo hi wi st de ca n wd gp t sh) 101) (.cells (saC ti wt sm) 43) (.cells (saC 0 0 0) 43)) ?_
  rintro W ⟨h0, h1, h2, hb⟩
  have hl1 : w.heap.size < w.heap.size + 1 := by omega
  have hl2 : w.heap.size + 1 < w.heap.size + 1 + 1 := by omega
  generalize w.heap.size + 1 + 1 = b2 at *
  generalize w.heap.size + 1 = b1 at *
  have H0 := Lib.hid h0
  have H1 := Lib.hid h1
  have H2 := Lib.hid h2
  clear h0 h1 h2
  obtain ⟨s0, s1, s2⟩ := sa_cells H1.out
  go_upto_region 4 with (fail)
  clear s0 s1 s2
  have l0 := row_lt H0.out
  have l1 := row_lt H1.out
  have l2 := row_lt H2.out
  go_upto_region 5 with (first | (refine wpList_load_part rfl 43 _ rfl b1 0 3 rfl 43 (saC ti wt sm) (0, 0) _ H1.out Tryz.underlying43 rfl info_sa (sa_fits _ _ _) _ (sa_all _ _ _) ?_) | (refine wpList_store_part rfl 43 _ _ rfl W.heap.size 0 (saC ti wt sm) rfl rfl 43 (saC 0 0 0) (heap_alloc_new _ _) info_sa (Nat.le_refl _) (sa_one _ _ _) ?_; rw [laid_all5 (saC 0 0 0) (saC ti wt sm) rfl]))
  have bel : Below w.heap.size w (W.alloc (.cells (saC 0 0 0) 43)) := hb.alloc hb.size _
  refine abs_world (fun V => V.heap[w.heap.size]? = some (.cells (conC lo hi wi st de ca n wd gp t sh) 101 (0, 0)) ∧ V.heap[b1]? = some (.cells (saC ti wt sm) 43 (0, 0)) ∧ V.heap[b2]? = some (.cells (saC 0 0 0) 43 (0, 0)) ∧ V.heap[W.heap.size]? = some (.cells (saC ti wt sm) 43 (0, 0)) ∧ Below w.heap.size w V) ⟨(setRow_other _ _ _ _ (by omega)).trans (below_row ((Below.refl _ _).alloc (Nat.le_refl _) _) H0.out), (setRow_other _ _ _ _ (by omega)).trans (below_row ((Below.refl _ _).alloc (Nat.le_refl _) _) H1.out), (setRow_other _ _ _ _ (by omega)).trans (below_row ((Below.refl _ _).alloc (Nat.le_refl _) _) H2.out), setRow_heap _ _ _ _ _ _ (heap_alloc_new _ _), below_setRow bel hb.size _⟩ ?_
  clear bel H0 H1 H2 hb
  rintro W1 ⟨qG0, qG1, qG2, qGN, hb⟩
  have G0 := Lib.hid qG0
  have G1 := Lib.hid qG1
  have G2 := Lib.hid qG2
  have GN := Lib.hid qGN
  clear qG0 qG1 qG2 qGN
  generalize W.heap.size = bn at *
  go_upto_region 6 with (first | (refine wpList_load_part rfl 101 _ rfl w.heap.size 0 13 rfl 101 (conC lo hi wi st de ca n wd gp t sh) (0, 0) _ G0.out Tryz.underlying101 rfl info_con (con_fits _ _ _ _ _ _ _ _ _ _ _) _ (con_all _ _ _ _ _ _ _ _ _ _ _) ?_) | (refine wpList_load_part rfl 99 _ rfl w.heap.size 0 2 rfl 101 (conC lo hi wi st de ca n wd gp t sh) (0, 0) _ G0.out Tryz.underlying99 rfl info_bd (con_fits2 _ _ _ _ _ _ _ _ _ _ _) _ (con_bd _ _ _ _ _ _ _ _ _ _ _) ?_) | (refine wpList_load_part rfl 32 _ rfl w.heap.size 8 5 rfl 101 (conC lo hi wi st de ca n wd gp t sh) (0, 0) _ G0.out Tryz.underlying32 rfl info_blind (con_fits8 _ _ _ _ _ _ _ _ _ _ _) _ (con_bl _ _ _ _ _ _ _ _ _ _ _) ?_) | (go_at_call 161; refine (HB.out _).mono ?_; rintro e W2 ⟨rfl, hb2⟩; replace G0 := Lib.hid (below_row hb2 G0.out); replace G1 := Lib.hid (below_row hb2 G1.out); replace G2 := Lib.hid (below_row hb2 G2.out); replace GN := Lib.hid (below_row hb2 GN.out); replace hb := hb.trans (hb2.mono hb.size); clear hb2))
  obtain ⟨c4, c5, c6, c7⟩ := con_cells G0.out
  obtain ⟨s0, s1, s2⟩ := sa_cells G1.out
  obtain ⟨n0, n1, n2⟩ := sa_cells GN.out
  have f0 := frozen_of_row W2 bn 0 _ _ GN.out
  go_upto_region 9 with (fail)
  refine abs_world (fun V => V.heap[w.heap.size]? = some (.cells (conC lo hi wi st de ca n wd gp t sh) 101 (0, 0)) ∧ V.heap[b1]? = some (.cells (saC ti wt sm) 43 (0, 0)) ∧ V.heap[b2]? = some (.cells (saC 0 0 0) 43 (0, 0)) ∧ V.heap[bn]? = some (.cells (saC (ti + st) wt sm) 43 (0, 0)) ∧ Below w.heap.size w V) ⟨(heap_setCell_other _ _ _ _ (by simp; omega)).trans G0.out, (heap_setCell_other _ _ _ _ (by simp; omega)).trans G1.out, (heap_setCell_other _ _ _ _ (by simp; omega)).trans G2.out, (heap_setCell_same _ _ _ _ _ _ GN.out).trans rfl, hb.setCell (by simp; omega) _⟩ ?_
  clear c4 c5 c6 c7 s0 s1 s2 n0 n1 n2 f0 G0 G1 G2 GN hb
  rintro W4 ⟨qK0, qK1, qK2, qKN, hb⟩
  have K0 := Lib.hid qK0
  have K1 := Lib.hid qK1
  have K2 := Lib.hid qK2
  have KN := Lib.hid qKN
  clear qK0 qK1 qK2 qKN
  have hgd := fun w => run_eqGuard_agg (P := Tryz.prog) w .neq 43 (.tmp 45) (.tmp 46) (saC (ti + st) wt sm) (saC ti wt sm) (by kernel_rfl)
  have hq := eql_sa_ne (y1 := wt) (z1 := sm) hne
  go_upto_region 10 with (first | (refine wpList_load_part rfl 43 _ rfl bn 0 3 rfl 43 (saC (ti + st) wt sm) (0, 0) _ KN.out Tryz.underlying43 rfl info_sa (sa_fits _ _ _) _ (sa_all _ _ _) ?_) | (refine wpList_load_part rfl 43 _ rfl b1 0 3 rfl 43 (saC ti wt sm) (0, 0) _ K1.out Tryz.underlying43 rfl info_sa (sa_fits _ _ _) _ (sa_all _ _ _) ?_))
  clear hq hgd
  obtain ⟨c4, c5, c6, c7⟩ := con_cells K0.out
  obtain ⟨n0, n1, n2⟩ := sa_cells KN.out
  have f1 := frozen_of_row W4 bn 1 _ _ KN.out
  go_upto_region 11 with (fail)
  refine abs_world (fun V => V.heap[b2]? = some (.cells (saC 0 0 0) 43 (0, 0)) ∧ V.heap[bn]? = some (.cells (saC (ti + st) de sm) 43 (0, 0)) ∧ Below w.heap.size w V) ⟨(heap_setCell_other _ _ _ _ (by simp; omega)).trans K2.out, (heap_setCell_same _ _ _ _ _ _ KN.out).trans rfl, hb.setCell (by simp; omega) _⟩ ?_
  clear c4 c5 c6 c7 n0 n1 n2 f1 K0 K1 K2 KN hb
  rintro W5 ⟨qL2, qLN, hb⟩
  have L2 := Lib.hid qL2
  have LN := Lib.hid qLN
  clear qL2 qLN
  go_wp2_with (first | (refine wpList_load_part rfl 43 _ rfl bn 0 3 rfl 43 (saC (ti + st) de sm) (0, 0) _ LN.out Tryz.underlying43 rfl info_sa (sa_fits _ _ _) _ (sa_all _ _ _) ?_) | (refine wpList_store_part rfl 43 _ _ rfl b2 0 (saC (ti + st) de sm) rfl rfl 43 (saC 0 0 0) L2.out info_sa (Nat.le_refl _) (sa_one _ _ _) ?_; rw [laid_all5 (saC 0 0 0) (saC (ti + st) de sm) rfl]))
  exact bodyPost_ret (v := .agg (saC (ti + st) de sm)) (results_cell_row rfl _ _ _ _ _ _ _ rfl (setRow_heap _ _ _ _ _ _ L2.out) Tryz.underlying43 rfl info_sa) rfl ⟨rfl, below_setRow hb (by omega) _⟩

set_option maxRecDepth 100000 in
set_option maxHeartbeats 1000000 in
theorem moved_b2 (lo : Nat) (hi : Nat) (wi : Nat) (st : Int) (de : Int) (ca : Int) (n : Int) (wd gp : Nat) (t : Int) (sh : Nat) (ti : Int) (wt : Int) (sm : Int) (x : Nat) (hw : ¬ 0 < wt) (hB : gt0 (ordB x hi) = true) (st0 : 1 ≤ st) (st1 : st ≤ 64) (ti0 : -64 ≤ ti) (ti1 : ti ≤ 64) (hk : 64 < ti + st) (hne : (64 : Int) ≠ ti) (w : World) :
    Calls Tryz.prog 125 #[.agg (conC lo hi wi st de ca n wd gp t sh), .agg (saC ti wt sm), .float .f32 x] w fun e w' => e = .returned (.agg (saC (64) de sm)) ∧ Below w.heap.size w w' := by
  have HB := Lib.hid (fun w => tooBright_is lo hi x true hB w)
  clear hB
  go_enter Tryz.func125, Tryz.ntmps125
  go_upto_region 1 with (fail)
  refine abs_world (fun W => W.heap[w.heap.size]? = some (.cells (conC lo hi wi st de ca n wd gp t sh) 101 (0, 0)) ∧ W.heap[w.heap.size + 1]? = some (.cells (saC ti wt sm) 43 (0, 0)) ∧ W.heap[w.heap.size + 1 + 1]? = some (.cells (saC 0 0 0) 43 (0, 0)) ∧ Below w.heap.size w W) (box3 w (.cells (conC lo hi wi st de ca n wd gp t sh) 101) (.cells (saC ti wt sm) 43) (.cells (saC 0 0 0) 43)) ?_
  rintro W ⟨h0, h1, h2, hb⟩
  have hl1 : w.heap.size < w.heap.size + 1 := by omega
  have hl2 : w.heap.size + 1 < w.heap.size + 1 + 1 := by omega
  generalize w.heap.size + 1 + 1 = b2 at *
  generalize w.heap.size + 1 = b1 at *
  have H0 := Lib.hid h0
  have H1 := Lib.hid h1
  have H2 := Lib.hid h2
  clear h0 h1 h2
  obtain ⟨s0, s1, s2⟩ := sa_cells H1.out
  go_upto_region 4 with (fail)
  clear s0 s1 s2
  have l0 := row_lt H0.out
  have l1 := row_lt H1.out
  have l2 := row_lt H2.out
  go_upto_region 5 with (first | (refine wpList_load_part rfl 43 _ rfl b1 0 3 rfl 43 (saC ti wt sm) (0, 0) _ H1.out Tryz.underlying43 rfl info_sa (sa_fits _ _ _) _ (sa_all _ _ _) ?_) | (refine wpList_store_part rfl 43 _ _ rfl W.heap.size 0 (saC ti wt sm) rfl rfl 43 (saC 0 0 0) (heap_alloc_new _ _) info_sa (Nat.le_refl _) (sa_one _ _ _) ?_; rw [laid_all5 (saC 0 0 0) (saC ti wt sm) rfl]))
  have bel : Below w.heap.size w (W.alloc (.cells (saC 0 0 0) 43)) := hb.alloc hb.size _
  refine abs_world (fun V => V.heap[w.heap.size]? = some (.cells (conC lo hi wi st de ca n wd gp t sh) 101 (0, 0)) ∧ V.heap[b1]? = some (.cells (saC ti wt sm) 43 (0, 0)) ∧ V.heap[b2]? = some (.cells (saC 0 0 0) 43 (0, 0)) ∧ V.heap[W.heap.size]? = some (.cells (saC ti wt sm) 43 (0, 0)) ∧ Below w.heap.size w V) ⟨(setRow_other _ _ _ _ (by omega)).trans (below_row ((Below.refl _ _).alloc (Nat.le_refl _) _) H0.out), (setRow_other _ _ _ _ (by omega)).trans (below_row ((Below.refl _ _).alloc (Nat.le_refl _) _) H1.out), (setRow_other _ _ _ _ (by omega)).trans (below_row ((Below.refl _ _).alloc (Nat.le_refl _) _) H2.out), setRow_heap _ _ _ _ _ _ (heap_alloc_new _ _), below_setRow bel hb.size _⟩ ?_
  clear bel H0 H1 H2 hb
  rintro W1 ⟨qG0, qG1, qG2, qGN, hb⟩
  have G0 := Lib.hid qG0
  have G1 := Lib.hid qG1
  have G2 := Lib.hid qG2
  have GN := Lib.hid qGN
  clear qG0 qG1 qG2 qGN
  generalize W.heap.size = bn at *
  go_upto_region 6 with (first | (refine wpList_load_part rfl 101 _ rfl w.heap.size 0 13 rfl 101 (conC lo hi wi st de ca n wd gp t sh) (0, 0) _ G0.out Tryz.underlying101 rfl info_con (con_fits _ _ _ _ _ _ _ _ _ _ _) _ (con_all _ _ _ _ _ _ _ _ _ _ _) ?_) | (refine wpList_load_part rfl 99 _ rfl w.heap.size 0 2 rfl 101 (conC lo hi wi st de ca n wd gp t sh) (0, 0) _ G0.out Tryz.underlying99 rfl info_bd (con_fits2 _ _ _ _ _ _ _ _ _ _ _) _ (con_bd _ _ _ _ _ _ _ _ _ _ _) ?_) | (refine wpList_load_part rfl 32 _ rfl w.heap.size 8 5 rfl 101 (conC lo hi wi st de ca n wd gp t sh) (0, 0) _ G0.out Tryz.underlying32 rfl info_blind (con_fits8 _ _ _ _ _ _ _ _ _ _ _) _ (con_bl _ _ _ _ _ _ _ _ _ _ _) ?_) | (go_at_call 161; refine (HB.out _).mono ?_; rintro e W2 ⟨rfl, hb2⟩; replace G0 := Lib.hid (below_row hb2 G0.out); replace G1 := Lib.hid (below_row hb2 G1.out); replace G2 := Lib.hid (below_row hb2 G2.out); replace GN := Lib.hid (below_row hb2 GN.out); replace hb := hb.trans (hb2.mono hb.size); clear hb2))
  obtain ⟨c4, c5, c6, c7⟩ := con_cells G0.out
  obtain ⟨s0, s1, s2⟩ := sa_cells G1.out
  obtain ⟨n0, n1, n2⟩ := sa_cells GN.out
  have f0 := frozen_of_row W2 bn 0 _ _ GN.out
  go_upto_region 9 with (fail)
  refine abs_world (fun V => V.heap[w.heap.size]? = some (.cells (conC lo hi wi st de ca n wd gp t sh) 101 (0, 0)) ∧ V.heap[b1]? = some (.cells (saC ti wt sm) 43 (0, 0)) ∧ V.heap[b2]? = some (.cells (saC 0 0 0) 43 (0, 0)) ∧ V.heap[bn]? = some (.cells (saC (64) wt sm) 43 (0, 0)) ∧ Below w.heap.size w V) ⟨(heap_setCell_other _ _ _ _ (by simp; omega)).trans G0.out, (heap_setCell_other _ _ _ _ (by simp; omega)).trans G1.out, (heap_setCell_other _ _ _ _ (by simp; omega)).trans G2.out, (heap_setCell_same _ _ _ _ _ _ GN.out).trans rfl, hb.setCell (by simp; omega) _⟩ ?_
  clear c4 c5 c6 c7 s0 s1 s2 n0 n1 n2 f0 G0 G1 G2 GN hb
  rintro W4 ⟨qK0, qK1, qK2, qKN, hb⟩
  have K0 := Lib.hid qK0
  have K1 := Lib.hid qK1
  have K2 := Lib.hid qK2
  have KN := Lib.hid qKN
  clear qK0 qK1 qK2 qKN
  have hgd := fun w => run_eqGuard_agg (P := Tryz.prog) w .neq 43 (.tmp 45) (.tmp 46) (saC (64) wt sm) (saC ti wt sm) (by kernel_rfl)
  have hq := eql_sa_ne (y1 := wt) (z1 := sm) hne
  go_upto_region 10 with (first | (refine wpList_load_part rfl 43 _ rfl bn 0 3 rfl 43 (saC (64) wt sm) (0, 0) _ KN.out Tryz.underlying43 rfl info_sa (sa_fits _ _ _) _ (sa_all _ _ _) ?_) | (refine wpList_load_part rfl 43 _ rfl b1 0 3 rfl 43 (saC ti wt sm) (0, 0) _ K1.out Tryz.underlying43 rfl info_sa (sa_fits _ _ _) _ (sa_all _ _ _) ?_))
  clear hq hgd
  obtain ⟨c4, c5, c6, c7⟩ := con_cells K0.out
  obtain ⟨n0, n1, n2⟩ := sa_cells KN.out
  have f1 := frozen_of_row W4 bn 1 _ _ KN.out
  go_upto_region 11 with (fail)
  refine abs_world (fun V => V.heap[b2]? = some (.cells (saC 0 0 0) 43 (0, 0)) ∧ V.heap[bn]? = some (.cells (saC (64) de sm) 43 (0, 0)) ∧ Below w.heap.size w V) ⟨(heap_setCell_other _ _ _ _ (by simp; omega)).trans K2.out, (heap_setCell_same _ _ _ _ _ _ KN.out).trans rfl, hb.setCell (by simp; omega) _⟩ ?_
  clear c4 c5 c6 c7 n0 n1 n2 f1 K0 K1 K2 KN hb
  rintro W5 ⟨qL2, qLN, hb⟩
  have L2 := Lib.hid qL2
  have LN := Lib.hid qLN
  clear qL2 qLN
  go_wp2_with (first | (refine wpList_load_part rfl 43 _ rfl bn 0 3 rfl 43 (saC (64) de sm) (0, 0) _ LN.out Tryz.underlying43 rfl info_sa (sa_fits _ _ _) _ (sa_all _ _ _) ?_) | (refine wpList_store_part rfl 43 _ _ rfl b2 0 (saC (64) de sm) rfl rfl 43 (saC 0 0 0) L2.out info_sa (Nat.le_refl _) (sa_one _ _ _) ?_; rw [laid_all5 (saC 0 0 0) (saC (64) de sm) rfl]))
  exact bodyPost_ret (v := .agg (saC (64) de sm)) (results_cell_row rfl _ _ _ _ _ _ _ rfl (setRow_heap _ _ _ _ _ _ L2.out) Tryz.underlying43 rfl info_sa) rfl ⟨rfl, below_setRow hb (by omega) _⟩

set_option maxRecDepth 100000 in
set_option maxHeartbeats 1000000 in
theorem moved_d1 (lo : Nat) (hi : Nat) (wi : Nat) (st : Int) (de : Int) (ca : Int) (n : Int) (wd gp : Nat) (t : Int) (sh : Nat) (ti : Int) (wt : Int) (sm : Int) (x : Nat) (hw : ¬ 0 < wt) (hB : gt0 (ordB x hi) = false) (hD : lt0 (ordB x lo) = true) (st0 : 1 ≤ st) (st1 : st ≤ 64) (ti0 : -64 ≤ ti) (ti1 : ti ≤ 64) (hk : -64 ≤ ti - st) (w : World) :
    Calls Tryz.prog 125 #[.agg (conC lo hi wi st de ca n wd gp t sh), .agg (saC ti wt sm), .float .f32 x] w fun e w' => e = .returned (.agg (saC (ti - st) de sm)) ∧ Below w.heap.size w w' := by
  have HB := Lib.hid (fun w => tooBright_is lo hi x false hB w)
  have HD := Lib.hid (fun w => tooDark_is lo hi x true hD w)
  have hne : ti - st ≠ ti := by omega
  clear hB hD
  go_enter Tryz.func125, Tryz.ntmps125
  go_upto_region 1 with (fail)
  refine abs_world (fun W => W.heap[w.heap.size]? = some (.cells (conC lo hi wi st de ca n wd gp t sh) 101 (0, 0)) ∧ W.heap[w.heap.size + 1]? = some (.cells (saC ti wt sm) 43 (0, 0)) ∧ W.heap[w.heap.size + 1 + 1]? = some (.cells (saC 0 0 0) 43 (0, 0)) ∧ Below w.heap.size w W) (box3 w (.cells (conC lo hi wi st de ca n wd gp t sh) 101) (.cells (saC ti wt sm) 43) (.cells (saC 0 0 0) 43)) ?_
  rintro W ⟨h0, h1, h2, hb⟩
  have hl1 : w.heap.size < w.heap.size + 1 := by omega
  have hl2 : w.heap.size + 1 < w.heap.size + 1 + 1 := by omega
  generalize w.heap.size + 1 + 1 = b2 at *
  generalize w.heap.size + 1 = b1 at *
  have H0 := Lib.hid h0
  have H1 := Lib.hid h1
  have H2 := Lib.hid h2
  clear h0 h1 h2
  obtain ⟨s0, s1, s2⟩ := sa_cells H1.out
  go_upto_region 4 with (fail)
  clear s0 s1 s2
  have l0 := row_lt H0.out
  have l1 := row_lt H1.out
  have l2 := row_lt H2.out
  go_upto_region 5 with (first | (refine wpList_load_part rfl 43 _ rfl b1 0 3 rfl 43 (saC ti wt sm) (0, 0) _ H1.out Tryz.underlying43 rfl info_sa (sa_fits _ _ _) _ (sa_all _ _ _) ?_) | (refine wpList_store_part rfl 43 _ _ rfl W.heap.size 0 (saC ti wt sm) rfl rfl 43 (saC 0 0 0) (heap_alloc_new _ _) info_sa (Nat.le_refl _) (sa_one _ _ _) ?_; rw [laid_all5 (saC 0 0 0) (saC ti wt sm) rfl]))
  have bel : Below w.heap.size w (W.alloc (.cells (saC 0 0 0) 43)) := hb.alloc hb.size _
  refine abs_world (fun V => V.heap[w.heap.size]? = some (.cells (conC lo hi wi st de ca n wd gp t sh) 101 (0, 0)) ∧ V.heap[b1]? = some (.cells (saC ti wt sm) 43 (0, 0)) ∧ V.heap[b2]? = some (.cells (saC 0 0 0) 43 (0, 0)) ∧ V.heap[W.heap.size]? = some (.cells (saC ti wt sm) 43 (0, 0)) ∧ Below w.heap.size w V) ⟨(setRow_other _ _ _ _ (by omega)).trans (below_row ((Below.refl _ _).alloc (Nat.le_refl _) _) H0.out), (setRow_other _ _ _ _ (by omega)).trans (below_row ((Below.refl _ _).alloc (Nat.le_refl _) _) H1.out), (setRow_other _ _ _ _ (by omega)).trans (below_row ((Below.refl _ _).alloc (Nat.le_refl _) _) H2.out), setRow_heap _ _ _ _ _ _ (heap_alloc_new _ _), below_setRow bel hb.size _⟩ ?_
  clear bel H0 H1 H2 hb
  rintro W1 ⟨qG0, qG1, qG2, qGN, hb⟩
  have G0 := Lib.hid qG0
  have G1 := Lib.hid qG1
  have G2 := Lib.hid qG2
  have GN := Lib.hid qGN
  clear qG0 qG1 qG2 qGN
  generalize W.heap.size = bn at *
  go_upto_region 8 with (first | (refine wpList_load_part rfl 101 _ rfl w.heap.size 0 13 rfl 101 (conC lo hi wi st de ca n wd gp t sh) (0, 0) _ G0.out Tryz.underlying101 rfl info_con (con_fits _ _ _ _ _ _ _ _ _ _ _) _ (con_all _ _ _ _ _ _ _ _ _ _ _) ?_) | (refine wpList_load_part rfl 99 _ rfl w.heap.size 0 2 rfl 101 (conC lo hi wi st de ca n wd gp t sh) (0, 0) _ G0.out Tryz.underlying99 rfl info_bd (con_fits2 _ _ _ _ _ _ _ _ _ _ _) _ (con_bd _ _ _ _ _ _ _ _ _ _ _) ?_) | (refine wpList_load_part rfl 32 _ rfl w.heap.size 8 5 rfl 101 (conC lo hi wi st de ca n wd gp t sh) (0, 0) _ G0.out Tryz.underlying32 rfl info_blind (con_fits8 _ _ _ _ _ _ _ _ _ _ _) _ (con_bl _ _ _ _ _ _ _ _ _ _ _) ?_) | (go_at_call 161; refine (HB.out _).mono ?_; rintro e W2 ⟨rfl, hb2⟩; replace G0 := Lib.hid (below_row hb2 G0.out); replace G1 := Lib.hid (below_row hb2 G1.out); replace G2 := Lib.hid (below_row hb2 G2.out); replace GN := Lib.hid (below_row hb2 GN.out); replace hb := hb.trans (hb2.mono hb.size); clear hb2) | (go_at_call 162; refine (HD.out _).mono ?_; rintro e W3 ⟨rfl, hb3⟩; replace G0 := Lib.hid (below_row hb3 G0.out); replace G1 := Lib.hid (below_row hb3 G1.out); replace G2 := Lib.hid (below_row hb3 G2.out); replace GN := Lib.hid (below_row hb3 GN.out); replace hb := hb.trans (hb3.mono hb.size); clear hb3))
  obtain ⟨c4, c5, c6, c7⟩ := con_cells G0.out
  obtain ⟨s0, s1, s2⟩ := sa_cells G1.out
  obtain ⟨n0, n1, n2⟩ := sa_cells GN.out
  have f0 := frozen_of_row W3 bn 0 _ _ GN.out
  go_upto_region 9 with (fail)
  refine abs_world (fun V => V.heap[w.heap.size]? = some (.cells (conC lo hi wi st de ca n wd gp t sh) 101 (0, 0)) ∧ V.heap[b1]? = some (.cells (saC ti wt sm) 43 (0, 0)) ∧ V.heap[b2]? = some (.cells (saC 0 0 0) 43 (0, 0)) ∧ V.heap[bn]? = some (.cells (saC (ti - st) wt sm) 43 (0, 0)) ∧ Below w.heap.size w V) ⟨(heap_setCell_other _ _ _ _ (by simp; omega)).trans G0.out, (heap_setCell_other _ _ _ _ (by simp; omega)).trans G1.out, (heap_setCell_other _ _ _ _ (by simp; omega)).trans G2.out, (heap_setCell_same _ _ _ _ _ _ GN.out).trans rfl, hb.setCell (by simp; omega) _⟩ ?_
  clear c4 c5 c6 c7 s0 s1 s2 n0 n1 n2 f0 G0 G1 G2 GN hb
  rintro W4 ⟨qK0, qK1, qK2, qKN, hb⟩
  have K0 := Lib.hid qK0
  have K1 := Lib.hid qK1
  have K2 := Lib.hid qK2
  have KN := Lib.hid qKN
  clear qK0 qK1 qK2 qKN
  have hgd := fun w => run_eqGuard_agg (P := Tryz.prog) w .neq 43 (.tmp 45) (.tmp 46) (saC (ti - st) wt sm) (saC ti wt sm) (by kernel_rfl)
  have hq := eql_sa_ne (y1 := wt) (z1 := sm) hne
  go_upto_region 10 with (first | (refine wpList_load_part rfl 43 _ rfl bn 0 3 rfl 43 (saC (ti - st) wt sm) (0, 0) _ KN.out Tryz.underlying43 rfl info_sa (sa_fits _ _ _) _ (sa_all _ _ _) ?_) | (refine wpList_load_part rfl 43 _ rfl b1 0 3 rfl 43 (saC ti wt sm) (0, 0) _ K1.out Tryz.underlying43 rfl info_sa (sa_fits _ _ _) _ (sa_all _ _ _) ?_))
  clear hq hgd
  obtain ⟨c4, c5, c6, c7⟩ := con_cells K0.out
  obtain ⟨n0, n1, n2⟩ := sa_cells KN.out
  have f1 := frozen_of_row W4 bn 1 _ _ KN.out
  go_upto_region 11 with (fail)
  refine abs_world (fun V => V.heap[b2]? = some (.cells (saC 0 0 0) 43 (0, 0)) ∧ V.heap[bn]? = some (.cells (saC (ti - st) de sm) 43 (0, 0)) ∧ Below w.heap.size w V) ⟨(heap_setCell_other _ _ _ _ (by simp; omega)).trans K2.out, (heap_setCell_same _ _ _ _ _ _ KN.out).trans rfl, hb.setCell (by simp; omega) _⟩ ?_
  clear c4 c5 c6 c7 n0 n1 n2 f1 K0 K1 K2 KN hb
  rintro W5 ⟨qL2, qLN, hb⟩
  have L2 := Lib.hid qL2
  have LN := Lib.hid qLN
  clear qL2 qLN
  go_wp2_with (first | (refine wpList_load_part rfl 43 _ rfl bn 0 3 rfl 43 (saC (ti - st) de sm) (0, 0) _ LN.out Tryz.underlying43 rfl info_sa (sa_fits _ _ _) _ (sa_all _ _ _) ?_) | (refine wpList_store_part rfl 43 _ _ rfl b2 0 (saC (ti - st) de sm) rfl rfl 43 (saC 0 0 0) L2.out info_sa (Nat.le_refl _) (sa_one _ _ _) ?_; rw [laid_all5 (saC 0 0 0) (saC (ti - st) de sm) rfl]))
  exact bodyPost_ret (v := .agg (saC (ti - st) de sm)) (results_cell_row rfl _ _ _ _ _ _ _ rfl (setRow_heap _ _ _ _ _ _ L2.out) Tryz.underlying43 rfl info_sa) rfl ⟨rfl, below_setRow hb (by omega) _⟩

set_option maxRecDepth 100000 in
set_option maxHeartbeats 1000000 in
theorem moved_d2 (lo : Nat) (hi : Nat) (wi : Nat) (st : Int) (de : Int) (ca : Int) (n : Int) (wd gp : Nat) (t : Int) (sh : Nat) (ti : Int) (wt : Int) (sm : Int) (x : Nat) (hw : ¬ 0 < wt) (hB : gt0 (ordB x hi) = false) (hD : lt0 (ordB x lo) = true) (st0 : 1 ≤ st) (st1 : st ≤ 64) (ti0 : -64 ≤ ti) (ti1 : ti ≤ 64) (hk : ti - st < -64) (hne : (-64 : Int) ≠ ti) (w : World) :
    Calls Tryz.prog 125 #[.agg (conC lo hi wi st de ca n wd gp t sh), .agg (saC ti wt sm), .float .f32 x] w fun e w' => e = .returned (.agg (saC (-64) de sm)) ∧ Below w.heap.size w w' := by
  have HB := Lib.hid (fun w => tooBright_is lo hi x false hB w)
  have HD := Lib.hid (fun w => tooDark_is lo hi x true hD w)
  clear hB hD
  go_enter Tryz.func125, Tryz.ntmps125
  go_upto_region 1 with (fail)
  refine abs_world (fun W => W.heap[w.heap.size]? = some (.cells (conC lo hi wi st de ca n wd gp t sh) 101 (0, 0)) ∧ W.heap[w.heap.size + 1]? = some (.cells (saC ti wt sm) 43 (0, 0)) ∧ W.heap[w.heap.size + 1 + 1]? = some (.cells (saC 0 0 0) 43 (0, 0)) ∧ Below w.heap.size w W) (box3 w (.cells (conC lo hi wi st de ca n wd gp t sh) 101) (.cells (saC ti wt sm) 43) (.cells (saC 0 0 0) 43)) ?_
  rintro W ⟨h0, h1, h2, hb⟩
  have hl1 : w.heap.size < w.heap.size + 1 := by omega
  have hl2 : w.heap.size + 1 < w.heap.size + 1 + 1 := by omega
  generalize w.heap.size + 1 + 1 = b2 at *
  generalize w.heap.size + 1 = b1 at *
  have H0 := Lib.hid h0
  have H1 := Lib.hid h1
  have H2 := Lib.hid h2
  clear h0 h1 h2
  obtain ⟨s0, s1, s2⟩ := sa_cells H1.out
  go_upto_region 4 with (fail)
  clear s0 s1 s2
  have l0 := row_lt H0.out
  have l1 := row_lt H1.out
  have l2 := row_lt H2.out
  go_upto_region 5 with (first | (refine wpList_load_part rfl 43 _ rfl b1 0 3 rfl 43 (saC ti wt sm) (0, 0) _ H1.out Tryz.underlying43 rfl info_sa (sa_fits _ _ _) _ (sa_all _ _ _) ?_) | (refine wpList_store_part rfl 43 _ _ rfl W.heap.size 0 (saC ti wt sm) rfl rfl 43 (saC 0 0 0) (heap_alloc_new _ _) info_sa (Nat.le_refl _) (sa_one _ _ _) ?_; rw [laid_all5 (saC 0 0 0) (saC ti wt sm) rfl]))
  have bel : Below w.heap.size w (W.alloc (.cells (saC 0 0 0) 43)) := hb.alloc hb.size _
  refine abs_world (fun V => V.heap[w.heap.size]? = some (.cells (conC lo hi wi st de ca n wd gp t sh) 101 (0, 0)) ∧ V.heap[b1]? = some (.cells (saC ti wt sm) 43 (0, 0)) ∧ V.heap[b2]? = some (.cells (saC 0 0 0) 43 (0, 0)) ∧ V.heap[W.heap.size]? = some (.cells (saC ti wt sm) 43 (0, 0)) ∧ Below w.heap.size w V) ⟨(setRow_other _ _ _ _ (by omega)).trans (below_row ((Below.refl _ _).alloc (Nat.le_refl _) _) H0.out), (setRow_other _ _ _ _ (by omega)).trans (below_row ((Below.refl _ _).alloc (Nat.le_refl _) _) H1.out), (setRow_other _ _ _ _ (by omega)).trans (below_row ((Below.refl _ _).alloc (Nat.le_refl _) _) H2.out), setRow_heap _ _ _ _ _ _ (heap_alloc_new _ _), below_setRow bel hb.size _⟩ ?_
  clear bel H0 H1 H2 hb
  rintro W1 ⟨qG0, qG1, qG2, qGN, hb⟩
  have G0 := Lib.hid qG0
  have G1 := Lib.hid qG1
  have G2 := Lib.hid qG2
  have GN := Lib.hid qGN
  clear qG0 qG1 qG2 qGN
  generalize W.heap.size = bn at *
  go_upto_region 8 with (first | (refine wpList_load_part rfl 101 _ rfl w.heap.size 0 13 rfl 101 (conC lo hi wi st de ca n wd gp t sh) (0, 0) _ G0.out Tryz.underlying101 rfl info_con (con_fits _ _ _ _ _ _ _ _ _ _ _) _ (con_all _ _ _ _ _ _ _ _ _ _ _) ?_) | (refine wpList_load_part rfl 99 _ rfl w.heap.size 0 2 rfl 101 (conC lo hi wi st de ca n wd gp t sh) (0, 0) _ G0.out Tryz.underlying99 rfl info_bd (con_fits2 _ _ _ _ _ _ _ _ _ _ _) _ (con_bd _ _ _ _ _ _ _ _ _ _ _) ?_) | (refine wpList_load_part rfl 32 _ rfl w.heap.size 8 5 rfl 101 (conC lo hi wi st de ca n wd gp t sh) (0, 0) _ G0.out Tryz.underlying32 rfl info_blind (con_fits8 _ _ _ _ _ _ _ _ _ _ _) _ (con_bl _ _ _ _ _ _ _ _ _ _ _) ?_) | (go_at_call 161; refine (HB.out _).mono ?_; rintro e W2 ⟨rfl, hb2⟩; replace G0 := Lib.hid (below_row hb2 G0.out); replace G1 := Lib.hid (below_row hb2 G1.out); replace G2 := Lib.hid (below_row hb2 G2.out); replace GN := Lib.hid (below_row hb2 GN.out); replace hb := hb.trans (hb2.mono hb.size); clear hb2) | (go_at_call 162; refine (HD.out _).mono ?_; rintro e W3 ⟨rfl, hb3⟩; replace G0 := Lib.hid (below_row hb3 G0.out); replace G1 := Lib.hid (below_row hb3 G1.out); replace G2 := Lib.hid (below_row hb3 G2.out); replace GN := Lib.hid (below_row hb3 GN.out); replace hb := hb.trans (hb3.mono hb.size); clear hb3))
  obtain ⟨c4, c5, c6, c7⟩ := con_cells G0.out
  obtain ⟨s0, s1, s2⟩ := sa_cells G1.out
  obtain ⟨n0, n1, n2⟩ := sa_cells GN.out
  have f0 := frozen_of_row W3 bn 0 _ _ GN.out
  go_upto_region 9 with (fail)
  refine abs_world (fun V => V.heap[w.heap.size]? = some (.cells (conC lo hi wi st de ca n wd gp t sh) 101 (0, 0)) ∧ V.heap[b1]? = some (.cells (saC ti wt sm) 43 (0, 0)) ∧ V.heap[b2]? = some (.cells (saC 0 0 0) 43 (0, 0)) ∧ V.heap[bn]? = some (.cells (saC (-64) wt sm) 43 (0, 0)) ∧ Below w.heap.size w V) ⟨(heap_setCell_other _ _ _ _ (by simp; omega)).trans G0.out, (heap_setCell_other _ _ _ _ (by simp; omega)).trans G1.out, (heap_setCell_other _ _ _ _ (by simp; omega)).trans G2.out, (heap_setCell_same _ _ _ _ _ _ GN.out).trans rfl, hb.setCell (by simp; omega) _⟩ ?_
  clear c4 c5 c6 c7 s0 s1 s2 n0 n1 n2 f0 G0 G1 G2 GN hb
  rintro W4 ⟨qK0, qK1, qK2, qKN, hb⟩
  have K0 := Lib.hid qK0
  have K1 := Lib.hid qK1
  have K2 := Lib.hid qK2
  have KN := Lib.hid qKN
  clear qK0 qK1 qK2 qKN
  have hgd := fun w => run_eqGuard_agg (P := Tryz.prog) w .neq 43 (.tmp 45) (.tmp 46) (saC (-64) wt sm) (saC ti wt sm) (by kernel_rfl)
  have hq := eql_sa_ne (y1 := wt) (z1 := sm) hne
  go_upto_region 10 with (first | (refine wpList_load_part rfl 43 _ rfl bn 0 3 rfl 43 (saC (-64) wt sm) (0, 0) _ KN.out Tryz.underlying43 rfl info_sa (sa_fits _ _ _) _ (sa_all _ _ _) ?_) | (refine wpList_load_part rfl 43 _ rfl b1 0 3 rfl 43 (saC ti wt sm) (0, 0) _ K1.out Tryz.underlying43 rfl info_sa (sa_fits _ _ _) _ (sa_all _ _ _) ?_))
  clear hq hgd
  obtain ⟨c4, c5, c6, c7⟩ := con_cells K0.out
  obtain ⟨n0, n1, n2⟩ := sa_cells KN.out
  have f1 := frozen_of_row W4 bn 1 _ _ KN.out
  go_upto_region 11 with (fail)
  refine abs_world (fun V => V.heap[b2]? = some (.cells (saC 0 0 0) 43 (0, 0)) ∧ V.heap[bn]? = some (.cells (saC (-64) de sm) 43 (0, 0)) ∧ Below w.heap.size w V) ⟨(heap_setCell_other _ _ _ _ (by simp; omega)).trans K2.out, (heap_setCell_same _ _ _ _ _ _ KN.out).trans rfl, hb.setCell (by simp; omega) _⟩ ?_
  clear c4 c5 c6 c7 n0 n1 n2 f1 K0 K1 K2 KN hb
  rintro W5 ⟨qL2, qLN, hb⟩
  have L2 := Lib.hid qL2
  have LN := Lib.hid qLN
  clear qL2 qLN
  go_wp2_with (first | (refine wpList_load_part rfl 43 _ rfl bn 0 3 rfl 43 (saC (-64) de sm) (0, 0) _ LN.out Tryz.underlying43 rfl info_sa (sa_fits _ _ _) _ (sa_all _ _ _) ?_) | (refine wpList_store_part rfl 43 _ _ rfl b2 0 (saC (-64) de sm) rfl rfl 43 (saC 0 0 0) L2.out info_sa (Nat.le_refl _) (sa_one _ _ _) ?_; rw [laid_all5 (saC 0 0 0) (saC (-64) de sm) rfl]))
  exact bodyPost_ret (v := .agg (saC (-64) de sm)) (results_cell_row rfl _ _ _ _ _ _ _ rfl (setRow_heap _ _ _ _ _ _ L2.out) Tryz.underlying43 rfl info_sa) rfl ⟨rfl, below_setRow hb (by omega) _⟩

set_option maxRecDepth 100000 in
set_option maxHeartbeats 1000000 in
theorem moved_n (lo : Nat) (hi : Nat) (wi : Nat) (st : Int) (de : Int) (ca : Int) (n : Int) (wd gp : Nat) (t : Int) (sh : Nat) (ti : Int) (wt : Int) (sm : Int) (x : Nat) (hw : ¬ 0 < wt) (hB : gt0 (ordB x hi) = false) (hD : lt0 (ordB x lo) = false)  (w : World) :
    Calls Tryz.prog 125 #[.agg (conC lo hi wi st de ca n wd gp t sh), .agg (saC ti wt sm), .float .f32 x] w fun e w' => e = .returned (.agg (saC ti wt sm)) ∧ Below w.heap.size w w' := by
  have HB := Lib.hid (fun w => tooBright_is lo hi x false hB w)
  have HD := Lib.hid (fun w => tooDark_is lo hi x false hD w)
  clear hB hD
  go_enter Tryz.func125, Tryz.ntmps125
  go_upto_region 1 with (fail)
  refine abs_world (fun W => W.heap[w.heap.size]? = some (.cells (conC lo hi wi st de ca n wd gp t sh) 101 (0, 0)) ∧ W.heap[w.heap.size + 1]? = some (.cells (saC ti wt sm) 43 (0, 0)) ∧ W.heap[w.heap.size + 1 + 1]? = some (.cells (saC 0 0 0) 43 (0, 0)) ∧ Below w.heap.size w W) (box3 w (.cells (conC lo hi wi st de ca n wd gp t sh) 101) (.cells (saC ti wt sm) 43) (.cells (saC 0 0 0) 43)) ?_
  rintro W ⟨h0, h1, h2, hb⟩
  have hl1 : w.heap.size < w.heap.size + 1 := by omega
  have hl2 : w.heap.size + 1 < w.heap.size + 1 + 1 := by omega
  generalize w.heap.size + 1 + 1 = b2 at *
  generalize w.heap.size + 1 = b1 at *
  have H0 := Lib.hid h0
  have H1 := Lib.hid h1
  have H2 := Lib.hid h2
  clear h0 h1 h2
  obtain ⟨s0, s1, s2⟩ := sa_cells H1.out
  go_upto_region 4 with (fail)
  clear s0 s1 s2
  have l0 := row_lt H0.out
  have l1 := row_lt H1.out
  have l2 := row_lt H2.out
  go_upto_region 5 with (first | (refine wpList_load_part rfl 43 _ rfl b1 0 3 rfl 43 (saC ti wt sm) (0, 0) _ H1.out Tryz.underlying43 rfl info_sa (sa_fits _ _ _) _ (sa_all _ _ _) ?_) | (refine wpList_store_part rfl 43 _ _ rfl W.heap.size 0 (saC ti wt sm) rfl rfl 43 (saC 0 0 0) (heap_alloc_new _ _) info_sa (Nat.le_refl _) (sa_one _ _ _) ?_; rw [laid_all5 (saC 0 0 0) (saC ti wt sm) rfl]))
  have bel : Below w.heap.size w (W.alloc (.cells (saC 0 0 0) 43)) := hb.alloc hb.size _
  refine abs_world (fun V => V.heap[w.heap.size]? = some (.cells (conC lo hi wi st de ca n wd gp t sh) 101 (0, 0)) ∧ V.heap[b1]? = some (.cells (saC ti wt sm) 43 (0, 0)) ∧ V.heap[b2]? = some (.cells (saC 0 0 0) 43 (0, 0)) ∧ V.heap[W.heap.size]? = some (.cells (saC ti wt sm) 43 (0, 0)) ∧ Below w.heap.size w V) ⟨(setRow_other _ _ _ _ (by omega)).trans (below_row ((Below.refl _ _).alloc (Nat.le_refl _) _) H0.out), (setRow_other _ _ _ _ (by omega)).trans (below_row ((Below.refl _ _).alloc (Nat.le_refl _) _) H1.out), (setRow_other _ _ _ _ (by omega)).trans (below_row ((Below.refl _ _).alloc (Nat.le_refl _) _) H2.out), setRow_heap _ _ _ _ _ _ (heap_alloc_new _ _), below_setRow bel hb.size _⟩ ?_
  clear bel H0 H1 H2 hb
  rintro W1 ⟨qG0, qG1, qG2, qGN, hb⟩
  have G0 := Lib.hid qG0
  have G1 := Lib.hid qG1
  have G2 := Lib.hid qG2
  have GN := Lib.hid qGN
  clear qG0 qG1 qG2 qGN
  generalize W.heap.size = bn at *
  go_upto_region 9 with (first | (refine wpList_load_part rfl 101 _ rfl w.heap.size 0 13 rfl 101 (conC lo hi wi st de ca n wd gp t sh) (0, 0) _ G0.out Tryz.underlying101 rfl info_con (con_fits _ _ _ _ _ _ _ _ _ _ _) _ (con_all _ _ _ _ _ _ _ _ _ _ _) ?_) | (refine wpList_load_part rfl 99 _ rfl w.heap.size 0 2 rfl 101 (conC lo hi wi st de ca n wd gp t sh) (0, 0) _ G0.out Tryz.underlying99 rfl info_bd (con_fits2 _ _ _ _ _ _ _ _ _ _ _) _ (con_bd _ _ _ _ _ _ _ _ _ _ _) ?_) | (refine wpList_load_part rfl 32 _ rfl w.heap.size 8 5 rfl 101 (conC lo hi wi st de ca n wd gp t sh) (0, 0) _ G0.out Tryz.underlying32 rfl info_blind (con_fits8 _ _ _ _ _ _ _ _ _ _ _) _ (con_bl _ _ _ _ _ _ _ _ _ _ _) ?_) | (go_at_call 161; refine (HB.out _).mono ?_; rintro e W2 ⟨rfl, hb2⟩; replace G0 := Lib.hid (below_row hb2 G0.out); replace G1 := Lib.hid (below_row hb2 G1.out); replace G2 := Lib.hid (below_row hb2 G2.out); replace GN := Lib.hid (below_row hb2 GN.out); replace hb := hb.trans (hb2.mono hb.size); clear hb2) | (go_at_call 162; refine (HD.out _).mono ?_; rintro e W3 ⟨rfl, hb3⟩; replace G0 := Lib.hid (below_row hb3 G0.out); replace G1 := Lib.hid (below_row hb3 G1.out); replace G2 := Lib.hid (below_row hb3 G2.out); replace GN := Lib.hid (below_row hb3 GN.out); replace hb := hb.trans (hb3.mono hb.size); clear hb3))
  have K0 := G0
  have K1 := G1
  have K2 := G2
  have KN := GN
  clear G0 G1 G2 GN
  have hgd := fun w => run_eqGuard_agg (P := Tryz.prog) w .neq 43 (.tmp 45) (.tmp 46) (saC (ti) wt sm) (saC ti wt sm) (by kernel_rfl)
  have hq := eql_sa_eq ti wt sm
  go_wp2_with (first | (refine wpList_load_part rfl 43 _ rfl b1 0 3 rfl 43 (saC ti wt sm) (0, 0) _ K1.out Tryz.underlying43 rfl info_sa (sa_fits _ _ _) _ (sa_all _ _ _) ?_) | (refine wpList_load_part rfl 43 _ rfl bn 0 3 rfl 43 (saC (ti) wt sm) (0, 0) _ KN.out Tryz.underlying43 rfl info_sa (sa_fits _ _ _) _ (sa_all _ _ _) ?_) | (refine wpList_store_part rfl 43 _ _ rfl b2 0 (saC ti wt sm) rfl rfl 43 (saC 0 0 0) K2.out info_sa (Nat.le_refl _) (sa_one _ _ _) ?_; rw [laid_all5 (saC 0 0 0) (saC ti wt sm) rfl]))
  exact bodyPost_ret (v := .agg (saC ti wt sm)) (results_cell_row rfl _ _ _ _ _ _ _ rfl (setRow_heap _ _ _ _ _ _ K2.out) Tryz.underlying43 rfl info_sa) rfl ⟨rfl, below_setRow hb (by omega) _⟩

set_option maxRecDepth 100000 in
set_option maxHeartbeats 1000000 in
theorem moved_b3 (lo : Nat) (hi : Nat) (wi : Nat) (st : Int) (de : Int) (ca : Int) (n : Int) (wd gp : Nat) (t : Int) (sh : Nat) (wt : Int) (sm : Int) (x : Nat) (hw : ¬ 0 < wt) (hB : gt0 (ordB x hi) = true) (st0 : 1 ≤ st) (st1 : st ≤ 64) (hk : 64 < (64) + st) (w : World) :
    Calls Tryz.prog 125 #[.agg (conC lo hi wi st de ca n wd gp t sh), .agg (saC (64) wt sm), .float .f32 x] w fun e w' => e = .returned (.agg (saC (64) wt sm)) ∧ Below w.heap.size w w' := by
  have HB := Lib.hid (fun w => tooBright_is lo hi x true hB w)
  clear hB
  go_enter Tryz.func125, Tryz.ntmps125
  go_upto_region 1 with (fail)
  refine abs_world (fun W => W.heap[w.heap.size]? = some (.cells (conC lo hi wi st de ca n wd gp t sh) 101 (0, 0)) ∧ W.heap[w.heap.size + 1]? = some (.cells (saC (64) wt sm) 43 (0, 0)) ∧ W.heap[w.heap.size + 1 + 1]? = some (.cells (saC 0 0 0) 43 (0, 0)) ∧ Below w.heap.size w W) (box3 w (.cells (conC lo hi wi st de ca n wd gp t sh) 101) (.cells (saC (64) wt sm) 43) (.cells (saC 0 0 0) 43)) ?_
  rintro W ⟨h0, h1, h2, hb⟩
  have hl1 : w.heap.size < w.heap.size + 1 := by omega
  have hl2 : w.heap.size + 1 < w.heap.size + 1 + 1 := by omega
  generalize w.heap.size + 1 + 1 = b2 at *
  generalize w.heap.size + 1 = b1 at *
  have H0 := Lib.hid h0
  have H1 := Lib.hid h1
  have H2 := Lib.hid h2
  clear h0 h1 h2
  obtain ⟨s0, s1, s2⟩ := sa_cells H1.out
  go_upto_region 4 with (fail)
  clear s0 s1 s2
  have l0 := row_lt H0.out
  have l1 := row_lt H1.out
  have l2 := row_lt H2.out
  go_upto_region 5 with (first | (refine wpList_load_part rfl 43 _ rfl b1 0 3 rfl 43 (saC (64) wt sm) (0, 0) _ H1.out Tryz.underlying43 rfl info_sa (sa_fits _ _ _) _ (sa_all _ _ _) ?_) | (refine wpList_store_part rfl 43 _ _ rfl W.heap.size 0 (saC (64) wt sm) rfl rfl 43 (saC 0 0 0) (heap_alloc_new _ _) info_sa (Nat.le_refl _) (sa_one _ _ _) ?_; rw [laid_all5 (saC 0 0 0) (saC (64) wt sm) rfl]))
  have bel : Below w.heap.size w (W.alloc (.cells (saC 0 0 0) 43)) := hb.alloc hb.size _
  refine abs_world (fun V => V.heap[w.heap.size]? = some (.cells (conC lo hi wi st de ca n wd gp t sh) 101 (0, 0)) ∧ V.heap[b1]? = some (.cells (saC (64) wt sm) 43 (0, 0)) ∧ V.heap[b2]? = some (.cells (saC 0 0 0) 43 (0, 0)) ∧ V.heap[W.heap.size]? = some (.cells (saC (64) wt sm) 43 (0, 0)) ∧ Below w.heap.size w V) ⟨(setRow_other _ _ _ _ (by omega)).trans (below_row ((Below.refl _ _).alloc (Nat.le_refl _) _) H0.out), (setRow_other _ _ _ _ (by omega)).trans (below_row ((Below.refl _ _).alloc (Nat.le_refl _) _) H1.out), (setRow_other _ _ _ _ (by omega)).trans (below_row ((Below.refl _ _).alloc (Nat.le_refl _) _) H2.out), setRow_heap _ _ _ _ _ _ (heap_alloc_new _ _), below_setRow bel hb.size _⟩ ?_
  clear bel H0 H1 H2 hb
  rintro W1 ⟨qG0, qG1, qG2, qGN, hb⟩
  have G0 := Lib.hid qG0
  have G1 := Lib.hid qG1
  have G2 := Lib.hid qG2
  have GN := Lib.hid qGN
  clear qG0 qG1 qG2 qGN
  generalize W.heap.size = bn at *
  go_upto_region 6 with (first | (refine wpList_load_part rfl 101 _ rfl w.heap.size 0 13 rfl 101 (conC lo hi wi st de ca n wd gp t sh) (0, 0) _ G0.out Tryz.underlying101 rfl info_con (con_fits _ _ _ _ _ _ _ _ _ _ _) _ (con_all _ _ _ _ _ _ _ _ _ _ _) ?_) | (refine wpList_load_part rfl 99 _ rfl w.heap.size 0 2 rfl 101 (conC lo hi wi st de ca n wd gp t sh) (0, 0) _ G0.out Tryz.underlying99 rfl info_bd (con_fits2 _ _ _ _ _ _ _ _ _ _ _) _ (con_bd _ _ _ _ _ _ _ _ _ _ _) ?_) | (refine wpList_load_part rfl 32 _ rfl w.heap.size 8 5 rfl 101 (conC lo hi wi st de ca n wd gp t sh) (0, 0) _ G0.out Tryz.underlying32 rfl info_blind (con_fits8 _ _ _ _ _ _ _ _ _ _ _) _ (con_bl _ _ _ _ _ _ _ _ _ _ _) ?_) | (go_at_call 161; refine (HB.out _).mono ?_; rintro e W2 ⟨rfl, hb2⟩; replace G0 := Lib.hid (below_row hb2 G0.out); replace G1 := Lib.hid (below_row hb2 G1.out); replace G2 := Lib.hid (below_row hb2 G2.out); replace GN := Lib.hid (below_row hb2 GN.out); replace hb := hb.trans (hb2.mono hb.size); clear hb2))
  obtain ⟨c4, c5, c6, c7⟩ := con_cells G0.out
  obtain ⟨s0, s1, s2⟩ := sa_cells G1.out
  obtain ⟨n0, n1, n2⟩ := sa_cells GN.out
  have f0 := frozen_of_row W2 bn 0 _ _ GN.out
  go_upto_region 9 with (fail)
  refine abs_world (fun V => V.heap[w.heap.size]? = some (.cells (conC lo hi wi st de ca n wd gp t sh) 101 (0, 0)) ∧ V.heap[b1]? = some (.cells (saC (64) wt sm) 43 (0, 0)) ∧ V.heap[b2]? = some (.cells (saC 0 0 0) 43 (0, 0)) ∧ V.heap[bn]? = some (.cells (saC (64) wt sm) 43 (0, 0)) ∧ Below w.heap.size w V) ⟨(heap_setCell_other _ _ _ _ (by simp; omega)).trans G0.out, (heap_setCell_other _ _ _ _ (by simp; omega)).trans G1.out, (heap_setCell_other _ _ _ _ (by simp; omega)).trans G2.out, (heap_setCell_same _ _ _ _ _ _ GN.out).trans rfl, hb.setCell (by simp; omega) _⟩ ?_
  clear c4 c5 c6 c7 s0 s1 s2 n0 n1 n2 f0 G0 G1 G2 GN hb
  rintro W4 ⟨qK0, qK1, qK2, qKN, hb⟩
  have K0 := Lib.hid qK0
  have K1 := Lib.hid qK1
  have K2 := Lib.hid qK2
  have KN := Lib.hid qKN
  clear qK0 qK1 qK2 qKN
  have hgd := fun w => run_eqGuard_agg (P := Tryz.prog) w .neq 43 (.tmp 45) (.tmp 46) (saC (64) wt sm) (saC (64) wt sm) (by kernel_rfl)
  have hq := eql_sa_eq (64) wt sm
  go_wp2_with (first | (refine wpList_load_part rfl 43 _ rfl b1 0 3 rfl 43 (saC (64) wt sm) (0, 0) _ K1.out Tryz.underlying43 rfl info_sa (sa_fits _ _ _) _ (sa_all _ _ _) ?_) | (refine wpList_load_part rfl 43 _ rfl bn 0 3 rfl 43 (saC (64) wt sm) (0, 0) _ KN.out Tryz.underlying43 rfl info_sa (sa_fits _ _ _) _ (sa_all _ _ _) ?_) | (refine wpList_store_part rfl 43 _ _ rfl b2 0 (saC (64) wt sm) rfl rfl 43 (saC 0 0 0) K2.out info_sa (Nat.le_refl _) (sa_one _ _ _) ?_; rw [laid_all5 (saC 0 0 0) (saC (64) wt sm) rfl]))
  exact bodyPost_ret (v := .agg (saC (64) wt sm)) (results_cell_row rfl _ _ _ _ _ _ _ rfl (setRow_heap _ _ _ _ _ _ K2.out) Tryz.underlying43 rfl info_sa) rfl ⟨rfl, below_setRow hb (by omega) _⟩

set_option maxRecDepth 100000 in
set_option maxHeartbeats 1000000 in
theorem moved_d3 (lo : Nat) (hi : Nat) (wi : Nat) (st : Int) (de : Int) (ca : Int) (n : Int) (wd gp : Nat) (t : Int) (sh : Nat) (wt : Int) (sm : Int) (x : Nat) (hw : ¬ 0 < wt) (hB : gt0 (ordB x hi) = false) (hD : lt0 (ordB x lo) = true) (st0 : 1 ≤ st) (st1 : st ≤ 64) (hk : (-64) - st < -64) (w : World) :
    Calls Tryz.prog 125 #[.agg (conC lo hi wi st de ca n wd gp t sh), .agg (saC (-64) wt sm), .float .f32 x] w fun e w' => e = .returned (.agg (saC (-64) wt sm)) ∧ Below w.heap.size w w' := by
  have HB := Lib.hid (fun w => tooBright_is lo hi x false hB w)
  have HD := Lib.hid (fun w => tooDark_is lo hi x true hD w)
  clear hB hD
  go_enter Tryz.func125, Tryz.ntmps125
  go_upto_region 1 with (fail)
  refine abs_world (fun W => W.heap[w.heap.size]? = some (.cells (conC lo hi wi st de ca n wd gp t sh) 101 (0, 0)) ∧ W.heap[w.heap.size + 1]? = some (.cells (saC (-64) wt sm) 43 (0, 0)) ∧ W.heap[w.heap.size + 1 + 1]? = some (.cells (saC 0 0 0) 43 (0, 0)) ∧ Below w.heap.size w W) (box3 w (.cells (conC lo hi wi st de ca n wd gp t sh) 101) (.cells (saC (-64) wt sm) 43) (.cells (saC 0 0 0) 43)) ?_
  rintro W ⟨h0, h1, h2, hb⟩
  have hl1 : w.heap.size < w.heap.size + 1 := by omega
  have hl2 : w.heap.size + 1 < w.heap.size + 1 + 1 := by omega
  generalize w.heap.size + 1 + 1 = b2 at *
  generalize w.heap.size + 1 = b1 at *
  have H0 := Lib.hid h0
  have H1 := Lib.hid h1
  have H2 := Lib.hid h2
  clear h0 h1 h2
  obtain ⟨s0, s1, s2⟩ := sa_cells H1.out
  go_upto_region 4 with (fail)
  clear s0 s1 s2
  have l0 := row_lt H0.out
  have l1 := row_lt H1.out
  have l2 := row_lt H2.out
  go_upto_region 5 with (first | (refine wpList_load_part rfl 43 _ rfl b1 0 3 rfl 43 (saC (-64) wt sm) (0, 0) _ H1.out Tryz.underlying43 rfl info_sa (sa_fits _ _ _) _ (sa_all _ _ _) ?_) | (refine wpList_store_part rfl 43 _ _ rfl W.heap.size 0 (saC (-64) wt sm) rfl rfl 43 (saC 0 0 0) (heap_alloc_new _ _) info_sa (Nat.le_refl _) (sa_one _ _ _) ?_; rw [laid_all5 (saC 0 0 0) (saC (-64) wt sm) rfl]))
  have bel : Below w.heap.size w (W.alloc (.cells (saC 0 0 0) 43)) := hb.alloc hb.size _
  refine abs_world (fun V => V.heap[w.heap.size]? = some (.cells (conC lo hi wi st de ca n wd gp t sh) 101 (0, 0)) ∧ V.heap[b1]? = some (.cells (saC (-64) wt sm) 43 (0, 0)) ∧ V.heap[b2]? = some (.cells (saC 0 0 0) 43 (0, 0)) ∧ V.heap[W.heap.size]? = some (.cells (saC (-64) wt sm) 43 (0, 0)) ∧ Below w.heap.size w V) ⟨(setRow_other _ _ _ _ (by omega)).trans (below_row ((Below.refl _ _).alloc (Nat.le_refl _) _) H0.out), (setRow_other _ _ _ _ (by omega)).trans (below_row ((Below.refl _ _).alloc (Nat.le_refl _) _) H1.out), (setRow_other _ _ _ _ (by omega)).trans (below_row ((Below.refl _ _).alloc (Nat.le_refl _) _) H2.out), setRow_heap _ _ _ _ _ _ (heap_alloc_new _ _), below_setRow bel hb.size _⟩ ?_
  clear bel H0 H1 H2 hb
  rintro W1 ⟨qG0, qG1, qG2, qGN, hb⟩
  have G0 := Lib.hid qG0
  have G1 := Lib.hid qG1
  have G2 := Lib.hid qG2
  have GN := Lib.hid qGN
  clear qG0 qG1 qG2 qGN
  generalize W.heap.size = bn at *
  go_upto_region 8 with (first | (refine wpList_load_part rfl 101 _ rfl w.heap.size 0 13 rfl 101 (conC lo hi wi st de ca n wd gp t sh) (0, 0) _ G0.out Tryz.underlying101 rfl info_con (con_fits _ _ _ _ _ _ _ _ _ _ _) _ (con_all _ _ _ _ _ _ _ _ _ _ _) ?_) | (refine wpList_load_part rfl 99 _ rfl w.heap.size 0 2 rfl 101 (conC lo hi wi st de ca n wd gp t sh) (0, 0) _ G0.out Tryz.underlying99 rfl info_bd (con_fits2 _ _ _ _ _ _ _ _ _ _ _) _ (con_bd _ _ _ _ _ _ _ _ _ _ _) ?_) | (refine wpList_load_part rfl 32 _ rfl w.heap.size 8 5 rfl 101 (conC lo hi wi st de ca n wd gp t sh) (0, 0) _ G0.out Tryz.underlying32 rfl info_blind (con_fits8 _ _ _ _ _ _ _ _ _ _ _) _ (con_bl _ _ _ _ _ _ _ _ _ _ _) ?_) | (go_at_call 161; refine (HB.out _).mono ?_; rintro e W2 ⟨rfl, hb2⟩; replace G0 := Lib.hid (below_row hb2 G0.out); replace G1 := Lib.hid (below_row hb2 G1.out); replace G2 := Lib.hid (below_row hb2 G2.out); replace GN := Lib.hid (below_row hb2 GN.out); replace hb := hb.trans (hb2.mono hb.size); clear hb2) | (go_at_call 162; refine (HD.out _).mono ?_; rintro e W3 ⟨rfl, hb3⟩; replace G0 := Lib.hid (below_row hb3 G0.out); replace G1 := Lib.hid (below_row hb3 G1.out); replace G2 := Lib.hid (below_row hb3 G2.out); replace GN := Lib.hid (below_row hb3 GN.out); replace hb := hb.trans (hb3.mono hb.size); clear hb3))
  obtain ⟨c4, c5, c6, c7⟩ := con_cells G0.out
  obtain ⟨s0, s1, s2⟩ := sa_cells G1.out
  obtain ⟨n0, n1, n2⟩ := sa_cells GN.out
  have f0 := frozen_of_row W3 bn 0 _ _ GN.out
  go_upto_region 9 with (fail)
  refine abs_world (fun V => V.heap[w.heap.size]? = some (.cells (conC lo hi wi st de ca n wd gp t sh) 101 (0, 0)) ∧ V.heap[b1]? = some (.cells (saC (-64) wt sm) 43 (0, 0)) ∧ V.heap[b2]? = some (.cells (saC 0 0 0) 43 (0, 0)) ∧ V.heap[bn]? = some (.cells (saC (-64) wt sm) 43 (0, 0)) ∧ Below w.heap.size w V) ⟨(heap_setCell_other _ _ _ _ (by simp; omega)).trans G0.out, (heap_setCell_other _ _ _ _ (by simp; omega)).trans G1.out, (heap_setCell_other _ _ _ _ (by simp; omega)).trans G2.out, (heap_setCell_same _ _ _ _ _ _ GN.out).trans rfl, hb.setCell (by simp; omega) _⟩ ?_
  clear c4 c5 c6 c7 s0 s1 s2 n0 n1 n2 f0 G0 G1 G2 GN hb
  rintro W4 ⟨qK0, qK1, qK2, qKN, hb⟩
  have K0 := Lib.hid qK0
  have K1 := Lib.hid qK1
  have K2 := Lib.hid qK2
  have KN := Lib.hid qKN
  clear qK0 qK1 qK2 qKN
  have hgd := fun w => run_eqGuard_agg (P := Tryz.prog) w .neq 43 (.tmp 45) (.tmp 46) (saC (-64) wt sm) (saC (-64) wt sm) (by kernel_rfl)
  have hq := eql_sa_eq (-64) wt sm
  go_wp2_with (first | (refine wpList_load_part rfl 43 _ rfl b1 0 3 rfl 43 (saC (-64) wt sm) (0, 0) _ K1.out Tryz.underlying43 rfl info_sa (sa_fits _ _ _) _ (sa_all _ _ _) ?_) | (refine wpList_load_part rfl 43 _ rfl bn 0 3 rfl 43 (saC (-64) wt sm) (0, 0) _ KN.out Tryz.underlying43 rfl info_sa (sa_fits _ _ _) _ (sa_all _ _ _) ?_) | (refine wpList_store_part rfl 43 _ _ rfl b2 0 (saC (-64) wt sm) rfl rfl 43 (saC 0 0 0) K2.out info_sa (Nat.le_refl _) (sa_one _ _ _) ?_; rw [laid_all5 (saC 0 0 0) (saC (-64) wt sm) rfl]))
  exact bodyPost_ret (v := .agg (saC (-64) wt sm)) (results_cell_row rfl _ _ _ _ _ _ _ rfl (setRow_heap _ _ _ _ _ _ K2.out) Tryz.underlying43 rfl info_sa) rfl ⟨rfl, below_setRow hb (by omega) _⟩

theorem moved_any (lo : Nat) (hi : Nat) (wi : Nat) (st : Int) (de : Int) (ca : Int) (n : Int) (wd gp : Nat) (t : Int) (sh : Nat) (ti : Int) (wt : Int) (sm : Int) (x : Nat) (c : CtOk lo hi wi st de ca) (s : SaOk ti wt sm) (w : World) :
    Calls Tryz.prog 125 #[.agg (conC lo hi wi st de ca n wd gp t sh), .agg (saC ti wt sm), .float .f32 x] w fun e w' => e = .returned (.agg (if 0 < wt then saC ti (wt - 1) sm else if steB lo hi st ti x = ti then saC ti wt sm else saC (steB lo hi st ti x) de sm)) ∧ Below w.heap.size w w' := by
  have a0 := c.s0
  have a1 := c.s1
  have b0 := s.t0
  have b1 := s.t1
  by_cases hw : 0 < wt
  · rw [if_pos hw]; exact moved_wait _ _ _ _ _ _ _ _ _ _ _ _ _ _ _ hw s.w1 w
  · rw [if_neg hw]
    cases hB : gt0 (ordB x hi) with
    | true =>
      by_cases hk : ti + st ≤ 64
      · have e : steB lo hi st ti x = ti + st := by unfold steB; rw [if_pos hB]; omega
        rw [e, if_neg (by omega)]; exact moved_b1 _ _ _ _ _ _ _ _ _ _ _ _ _ _ _ hw hB a0 a1 b0 b1 hk w
      · have e : steB lo hi st ti x = 64 := by unfold steB; rw [if_pos hB]; omega
        rw [e]
        by_cases h64 : (64 : Int) = ti
        · subst h64
          rw [if_pos rfl]; exact moved_b3 _ _ _ _ _ _ _ _ _ _ _ _ _ _ hw hB a0 a1 (by omega) w
        · rw [if_neg h64]; exact moved_b2 _ _ _ _ _ _ _ _ _ _ _ _ _ _ _ hw hB a0 a1 b0 b1 (by omega) h64 w
    | false =>
      cases hD : lt0 (ordB x lo) with
      | true =>
        by_cases hk : -64 ≤ ti - st
        · have e : steB lo hi st ti x = ti - st := by unfold steB; rw [if_neg (by rw [hB]; decide), if_pos hD]; omega
          rw [e, if_neg (by omega)]; exact moved_d1 _ _ _ _ _ _ _ _ _ _ _ _ _ _ _ hw hB hD a0 a1 b0 b1 hk w
        · have e : steB lo hi st ti x = -64 := by unfold steB; rw [if_neg (by rw [hB]; decide), if_pos hD]; omega
          rw [e]
          by_cases h64 : (-64 : Int) = ti
          · subst h64
            rw [if_pos rfl]; exact moved_d3 _ _ _ _ _ _ _ _ _ _ _ _ _ _ hw hB hD a0 a1 (by omega) w
          · rw [if_neg h64]; exact moved_d2 _ _ _ _ _ _ _ _ _ _ _ _ _ _ _ hw hB hD a0 a1 b0 b1 (by omega) h64 w
      | false =>
        have e : steB lo hi st ti x = ti := by unfold steB; rw [if_neg (by rw [hB]; decide), if_neg (by rw [hD]; decide)]
        rw [e, if_pos rfl]; exact moved_n _ _ _ _ _ _ _ _ _ _ _ _ _ _ _ hw hB hD w

end Go.Proofs.YtddnfbpgldchcaaGreatDoor
