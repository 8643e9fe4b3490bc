/-
  A tick of a controller, whole.

-/
import Derived.Test.YtddnfbpgldchcaaGreatDoorCoV

namespace Go.Proofs.YtddnfbpgldchcaaGreatDoor

open Go.ChangeShapes Go.WideShapes Go.ChangeAt Go.RowKit Go.Deep Go.Joins

attribute [local go_sem] run_store_f

/-- What a tick leaves behind, as cells. -/
def outC (t w s : Int) (l : Nat) : Array Value := #[.int .i16 t, .int .i8 w, .int .i8 s, .float .f32 l]

theorem info_ou : (Tryz.prog.info? 104).map (·.size) = some 4 := by kernel_rfl

theorem out_one (t w s : Int) (l : Nat) : ∀ v ∈ outC t w s l, v.oneCell' = true := by
  intro v hv
  simp only [outC, List.mem_toArray, List.mem_cons, List.not_mem_nil, or_false] at hv
  rcases hv with rfl | rfl | rfl | rfl <;> rfl

theorem m_insR (n : Nat) (v : Value) (w : World) : (Go.method (n + 1) 180 v "loop.example/g01367/impl.inside").run Tryz.prog w = .ok (207, v) w := by kernel_rfl

theorem m_insL (n : Nat) (v : Value) (w : World) : (Go.method (n + 1) 182 v "loop.example/g01367/impl.inside").run Tryz.prog w = .ok (208, v) w := by kernel_rfl

theorem ta_rr (v : Value) (w : World) : (Instr.typeAssert (.iface 180 v) 177 180 true).run Tryz.prog w = .ok (.tuple #[v, .bool true]) w := by kernel_rfl

theorem ta_lr (v : Value) (w : World) : (Instr.typeAssert (.iface 182 v) 177 180 true).run Tryz.prog w = .ok (.tuple #[.agg #[.float .f32 0, .float .f32 0, .int .i8 0], .bool false]) w := by kernel_rfl

theorem ta_ll (v : Value) (w : World) : (Instr.typeAssert (.iface 182 v) 177 182 true).run Tryz.prog w = .ok (.tuple #[v, .bool true]) w := by kernel_rfl

set_option maxRecDepth 100000 in
theorem built_out (t w s : Int) (l : Nat) : Tryz.prog.built 104 [(0, .agg (saC t w s)), (1, .float .f32 l)] = some (outC t w s l) := by kernel_rfl

set_option maxRecDepth 100000 in
set_option maxHeartbeats 1000000 in
theorem after_up (lo : Nat) (hi : Nat) (wi : Nat) (st : Int) (de : Int) (ca : Int) (n : Int) (wd gp : Nat) (t : Int) (sh : Nat) (ti : Int) (wt : Int) (sm : Int) (lg : Nat) (gu : Nat) (hg : Int) (so : SaOk ti wt sm) (hs : 0 < stoB gu wi ca sm) (w : World) :
    Calls Tryz.prog 61 #[.agg (conC lo hi wi st de ca n wd gp t sh), .agg (saC ti wt sm), .agg (tkC lg gu hg)] w fun e w' => e = .returned (.agg (outC ti wt (stoB gu wi ca sm) lg)) ∧ Below w.heap.size w w' := by
  have HS := Lib.hid (fun w => stormIn_any lo hi wi st de ca n wd gp t sh ti wt sm lg gu hg so.s0 so.s1 w)
  have HM := Lib.hid (fun w => meet_up lo hi wi st de ca n wd gp t sh ti wt (stoB gu wi ca sm) lg gu hg hs w)
  have HI := Lib.hid (fun w => raisedInside_any lg gu hg w)
  have mI := m_insR
  have tA := ta_rr (.agg (tkC lg gu hg))
  clear so hs
  generalize stoB gu wi ca sm = s' at *
  go_enter Tryz.func61, Tryz.ntmps61
  go_upto_region 1 with (fail)
  refine abs_world (fun W => W.heap[w.heap.size]? = some (.cells (conC lo hi wi st de ca n wd gp t sh) 101 (0, 0)) ∧ W.heap[w.heap.size + 1]? = some (.cells (saC ti wt sm) 43 (0, 0)) ∧ W.heap[w.heap.size + 1 + 1]? = some (.cells (tkC lg gu hg) 47 (0, 0)) ∧ W.heap[w.heap.size + 1 + 1 + 1]? = some (.cells (outC 0 0 0 0) 104 (0, 0)) ∧ Below w.heap.size w W) (box4 w (.cells (conC lo hi wi st de ca n wd gp t sh) 101) (.cells (saC ti wt sm) 43) (.cells (tkC lg gu hg) 47) (.cells (outC 0 0 0 0) 104)) ?_
  rintro W ⟨h0, h1, h2, h3, hb⟩
  have hl1 : w.heap.size < w.heap.size + 1 := by omega
  have hl2 : w.heap.size + 1 < w.heap.size + 1 + 1 := by omega
  have hl3 : w.heap.size + 1 + 1 < w.heap.size + 1 + 1 + 1 := by omega
  generalize w.heap.size + 1 + 1 + 1 = b3 at *
  generalize w.heap.size + 1 + 1 = b2 at *
  generalize w.heap.size + 1 = b1 at *
  have H0 := Lib.hid h0
  have H1 := Lib.hid h1
  have H2 := Lib.hid h2
  have H3 := Lib.hid h3
  clear h0 h1 h2 h3
  go_upto_region 2 with (first | (refine wpList_load_part rfl 101 _ rfl w.heap.size 0 13 rfl 101 (conC lo hi wi st de ca n wd gp t sh) (0, 0) _ H0.out Tryz.underlying101 rfl info_con (con_fits _ _ _ _ _ _ _ _ _ _ _) _ (con_all _ _ _ _ _ _ _ _ _ _ _) ?_) | (refine wpList_load_part rfl 99 _ rfl w.heap.size 0 2 rfl 101 (conC lo hi wi st de ca n wd gp t sh) (0, 0) _ H0.out Tryz.underlying99 rfl info_bd (con_fits2 _ _ _ _ _ _ _ _ _ _ _) _ (con_bd _ _ _ _ _ _ _ _ _ _ _) ?_) | (refine wpList_load_part rfl 32 _ rfl w.heap.size 8 5 rfl 101 (conC lo hi wi st de ca n wd gp t sh) (0, 0) _ H0.out Tryz.underlying32 rfl info_blind (con_fits8 _ _ _ _ _ _ _ _ _ _ _) _ (con_bl _ _ _ _ _ _ _ _ _ _ _) ?_) | (refine wpList_load_part rfl 43 _ rfl b1 0 3 rfl 43 (saC ti wt sm) (0, 0) _ H1.out Tryz.underlying43 rfl info_sa (sa_fits _ _ _) _ (sa_all _ _ _) ?_) | (refine wpList_load_part rfl 47 _ rfl b2 0 3 rfl 47 (tkC lg gu hg) (0, 0) _ H2.out Tryz.underlying47 rfl info_tk (tk_fits _ _ _) _ (tk_all _ _ _) ?_) | (go_at_call 123; refine (HS.out _).mono ?_; rintro e W1 ⟨rfl, hb1⟩; replace H0 := Lib.hid (below_row hb1 H0.out); replace H1 := Lib.hid (below_row hb1 H1.out); replace H2 := Lib.hid (below_row hb1 H2.out); replace H3 := Lib.hid (below_row hb1 H3.out); replace hb := hb.trans (hb1.mono hb.size); clear hb1; obtain ⟨s0, s1, s2⟩ := sa_cells H1.out; have f2 := frozen_of_row W1 b1 2 _ _ H1.out))
  refine abs_world (fun V => V.heap[w.heap.size]? = some (.cells (conC lo hi wi st de ca n wd gp t sh) 101 (0, 0)) ∧ V.heap[b1]? = some (.cells (saC ti wt s') 43 (0, 0)) ∧ V.heap[b2]? = some (.cells (tkC lg gu hg) 47 (0, 0)) ∧ V.heap[b3]? = some (.cells (outC 0 0 0 0) 104 (0, 0)) ∧ Below w.heap.size w V) ⟨(heap_setCell_other _ _ _ _ (by simp; omega)).trans H0.out, (heap_setCell_same _ _ _ _ _ _ H1.out).trans rfl, (heap_setCell_other _ _ _ _ (by simp; omega)).trans H2.out, (heap_setCell_other _ _ _ _ (by simp; omega)).trans H3.out, hb.setCell (by simp; omega) _⟩ ?_
  clear s0 s1 s2 f2 H0 H1 H2 H3 hb HS
  rintro V ⟨qG0, qG1, qG2, qG3, hb⟩
  have G0 := Lib.hid qG0
  have G1 := Lib.hid qG1
  have G2 := Lib.hid qG2
  have G3 := Lib.hid qG3
  clear qG0 qG1 qG2 qG3
  go_wp2_with (first | (refine wpList_load_part rfl 101 _ rfl w.heap.size 0 13 rfl 101 (conC lo hi wi st de ca n wd gp t sh) (0, 0) _ G0.out Tryz.underlying101 rfl info_con (con_fits _ _ _ _ _ _ _ _ _ _ _) _ (con_all _ _ _ _ _ _ _ _ _ _ _) ?_) | (refine wpList_load_part rfl 99 _ rfl w.heap.size 0 2 rfl 101 (conC lo hi wi st de ca n wd gp t sh) (0, 0) _ G0.out Tryz.underlying99 rfl info_bd (con_fits2 _ _ _ _ _ _ _ _ _ _ _) _ (con_bd _ _ _ _ _ _ _ _ _ _ _) ?_) | (refine wpList_load_part rfl 32 _ rfl w.heap.size 8 5 rfl 101 (conC lo hi wi st de ca n wd gp t sh) (0, 0) _ G0.out Tryz.underlying32 rfl info_blind (con_fits8 _ _ _ _ _ _ _ _ _ _ _) _ (con_bl _ _ _ _ _ _ _ _ _ _ _) ?_) | (refine wpList_load_part rfl 43 _ rfl b1 0 3 rfl 43 (saC ti wt s') (0, 0) _ G1.out Tryz.underlying43 rfl info_sa (sa_fits _ _ _) _ (sa_all _ _ _) ?_) | (refine wpList_load_part rfl 47 _ rfl b2 0 3 rfl 47 (tkC lg gu hg) (0, 0) _ G2.out Tryz.underlying47 rfl info_tk (tk_fits _ _ _) _ (tk_all _ _ _) ?_) | (go_at_call 124; refine (HM.out _).mono ?_; rintro e W2 ⟨rfl, hb2⟩; replace G0 := Lib.hid (below_row hb2 G0.out); replace G1 := Lib.hid (below_row hb2 G1.out); replace G2 := Lib.hid (below_row hb2 G2.out); replace G3 := Lib.hid (below_row hb2 G3.out); replace hb := hb.trans (hb2.mono hb.size); clear hb2) | (go_at_call 207; refine (HI.out _).mono ?_; rintro e W3 ⟨rfl, hb3⟩; replace G0 := Lib.hid (below_row hb3 G0.out); replace G1 := Lib.hid (below_row hb3 G1.out); replace G2 := Lib.hid (below_row hb3 G2.out); replace G3 := Lib.hid (below_row hb3 G3.out); replace hb := hb.trans (hb3.mono hb.size); clear hb3) | (refine wpList_buildTo5 rfl 104 _ rfl _ rfl [(0, .agg (saC ti wt s')), (1, .float .f32 lg)] rfl (outC ti wt s' lg) (built_out _ _ _ _) ?_) | (refine wpList_store_part rfl 104 _ _ rfl b3 0 (outC ti wt s' lg) rfl rfl 104 (outC 0 0 0 0) G3.out info_ou (Nat.le_refl _) (out_one _ _ _ _) ?_; rw [laid_all5 (outC 0 0 0 0) (outC ti wt s' lg) rfl]))
  exact bodyPost_ret (v := .agg (outC ti wt s' lg)) (results_cell_row rfl _ _ _ _ _ _ _ rfl (setRow_heap _ _ _ _ _ _ G3.out) Tryz.underlying104 rfl info_ou) rfl ⟨rfl, below_setRow hb (by omega) _⟩

set_option maxRecDepth 100000 in
set_option maxHeartbeats 1000000 in
theorem after_down (lo : Nat) (hi : Nat) (wi : Nat) (st : Int) (de : Int) (ca : Int) (n : Int) (wd gp : Nat) (t : Int) (sh : Nat) (ti : Int) (wt : Int) (sm : Int) (lg : Nat) (gu : Nat) (hg : Int) (ok : BlOk n wd gp t sh) (co : CtOk lo hi wi st de ca) (ko : TkOk lg gu hg) (so : SaOk ti wt sm) (hs : ¬ 0 < stoB gu wi ca sm) (t1 w1 s1 : Int) (hm : (if 0 < wt then saC ti (wt - 1) (stoB gu wi ca sm) else if steB lo hi st ti (insB lg wd gp ti sh hg) = ti then saC ti wt (stoB gu wi ca sm) else saC (steB lo hi st ti (insB lg wd gp ti sh hg)) de (stoB gu wi ca sm)) = saC t1 w1 s1) (w : World) :
    Calls Tryz.prog 61 #[.agg (conC lo hi wi st de ca n wd gp t sh), .agg (saC ti wt sm), .agg (tkC lg gu hg)] w fun e w' => e = .returned (.agg (outC t1 w1 s1 (insB lg wd gp ti sh hg))) ∧ Below w.heap.size w w' := by
  have HS := Lib.hid (fun w => stormIn_any lo hi wi st de ca n wd gp t sh ti wt sm lg gu hg so.s0 so.s1 w)
  obtain ⟨z0, z1⟩ := sto_rng (gu := gu) (wi := wi) co.c0 co.c1 so.s0 so.s1
  have so2 : SaOk ti wt (stoB gu wi ca sm) := ⟨so.t0, so.t1, so.w0, so.w1, z0, z1⟩
  have HM := Lib.hid (fun w => meet_down lo hi wi st de ca n wd gp t sh ok ti wt (stoB gu wi ca sm) so2 lg gu hg ko hs w)
  have hin := ins_ok (wd := wd) (gp := gp) (ti := ti) (hg := hg) ko.lg ok.2.2.2.2.2.2.2.2
  have HI := Lib.hid (fun w => loweredInside_any lg gu hg _ _ hin.1 w)
  have HV := Lib.hid (fun w => moved_any lo hi wi st de ca n wd gp t sh ti wt (stoB gu wi ca sm) (insB lg wd gp ti sh hg) co so2 w)
  rw [hm] at HV
  have mI := m_insL
  have tA := ta_lr (.agg #[.float .f32 lg, .float .f32 gu, .int .i8 hg, .float .f32 (pasB wd gp ti sh hg)])
  have tB := ta_ll (.agg #[.float .f32 lg, .float .f32 gu, .int .i8 hg, .float .f32 (pasB wd gp ti sh hg)])
  clear so so2 hs ok ko co hin hm z0 z1
  generalize stoB gu wi ca sm = s' at *
  generalize insB lg wd gp ti sh hg = li at *
  generalize pasB wd gp ti sh hg = pa at *
  go_enter Tryz.func61, Tryz.ntmps61
  go_upto_region 1 with (fail)
  refine abs_world (fun W => W.heap[w.heap.size]? = some (.cells (conC lo hi wi st de ca n wd gp t sh) 101 (0, 0)) ∧ W.heap[w.heap.size + 1]? = some (.cells (saC ti wt sm) 43 (0, 0)) ∧ W.heap[w.heap.size + 1 + 1]? = some (.cells (tkC lg gu hg) 47 (0, 0)) ∧ W.heap[w.heap.size + 1 + 1 + 1]? = some (.cells (outC 0 0 0 0) 104 (0, 0)) ∧ Below w.heap.size w W) (box4 w (.cells (conC lo hi wi st de ca n wd gp t sh) 101) (.cells (saC ti wt sm) 43) (.cells (tkC lg gu hg) 47) (.cells (outC 0 0 0 0) 104)) ?_
  rintro W ⟨h0, h1, h2, h3, hb⟩
  have hl1 : w.heap.size < w.heap.size + 1 := by omega
  have hl2 : w.heap.size + 1 < w.heap.size + 1 + 1 := by omega
  have hl3 : w.heap.size + 1 + 1 < w.heap.size + 1 + 1 + 1 := by omega
  generalize w.heap.size + 1 + 1 + 1 = b3 at *
  generalize w.heap.size + 1 + 1 = b2 at *
  generalize w.heap.size + 1 = b1 at *
  have H0 := Lib.hid h0
  have H1 := Lib.hid h1
  have H2 := Lib.hid h2
  have H3 := Lib.hid h3
  clear h0 h1 h2 h3
  go_upto_region 2 with (first | (refine wpList_load_part rfl 101 _ rfl w.heap.size 0 13 rfl 101 (conC lo hi wi st de ca n wd gp t sh) (0, 0) _ H0.out Tryz.underlying101 rfl info_con (con_fits _ _ _ _ _ _ _ _ _ _ _) _ (con_all _ _ _ _ _ _ _ _ _ _ _) ?_) | (refine wpList_load_part rfl 99 _ rfl w.heap.size 0 2 rfl 101 (conC lo hi wi st de ca n wd gp t sh) (0, 0) _ H0.out Tryz.underlying99 rfl info_bd (con_fits2 _ _ _ _ _ _ _ _ _ _ _) _ (con_bd _ _ _ _ _ _ _ _ _ _ _) ?_) | (refine wpList_load_part rfl 32 _ rfl w.heap.size 8 5 rfl 101 (conC lo hi wi st de ca n wd gp t sh) (0, 0) _ H0.out Tryz.underlying32 rfl info_blind (con_fits8 _ _ _ _ _ _ _ _ _ _ _) _ (con_bl _ _ _ _ _ _ _ _ _ _ _) ?_) | (refine wpList_load_part rfl 43 _ rfl b1 0 3 rfl 43 (saC ti wt sm) (0, 0) _ H1.out Tryz.underlying43 rfl info_sa (sa_fits _ _ _) _ (sa_all _ _ _) ?_) | (refine wpList_load_part rfl 47 _ rfl b2 0 3 rfl 47 (tkC lg gu hg) (0, 0) _ H2.out Tryz.underlying47 rfl info_tk (tk_fits _ _ _) _ (tk_all _ _ _) ?_) | (go_at_call 123; refine (HS.out _).mono ?_; rintro e W1 ⟨rfl, hb1⟩; replace H0 := Lib.hid (below_row hb1 H0.out); replace H1 := Lib.hid (below_row hb1 H1.out); replace H2 := Lib.hid (below_row hb1 H2.out); replace H3 := Lib.hid (below_row hb1 H3.out); replace hb := hb.trans (hb1.mono hb.size); clear hb1; obtain ⟨s0, s1, s2⟩ := sa_cells H1.out; have f2 := frozen_of_row W1 b1 2 _ _ H1.out))
  refine abs_world (fun V => V.heap[w.heap.size]? = some (.cells (conC lo hi wi st de ca n wd gp t sh) 101 (0, 0)) ∧ V.heap[b1]? = some (.cells (saC ti wt s') 43 (0, 0)) ∧ V.heap[b2]? = some (.cells (tkC lg gu hg) 47 (0, 0)) ∧ V.heap[b3]? = some (.cells (outC 0 0 0 0) 104 (0, 0)) ∧ Below w.heap.size w V) ⟨(heap_setCell_other _ _ _ _ (by simp; omega)).trans H0.out, (heap_setCell_same _ _ _ _ _ _ H1.out).trans rfl, (heap_setCell_other _ _ _ _ (by simp; omega)).trans H2.out, (heap_setCell_other _ _ _ _ (by simp; omega)).trans H3.out, hb.setCell (by simp; omega) _⟩ ?_
  clear s0 s1 s2 f2 H0 H1 H2 H3 hb HS
  rintro V ⟨qG0, qG1, qG2, qG3, hb⟩
  have G0 := Lib.hid qG0
  have G1 := Lib.hid qG1
  have G2 := Lib.hid qG2
  have G3 := Lib.hid qG3
  clear qG0 qG1 qG2 qG3
  go_upto_region 7 with (first | (refine wpList_load_part rfl 101 _ rfl w.heap.size 0 13 rfl 101 (conC lo hi wi st de ca n wd gp t sh) (0, 0) _ G0.out Tryz.underlying101 rfl info_con (con_fits _ _ _ _ _ _ _ _ _ _ _) _ (con_all _ _ _ _ _ _ _ _ _ _ _) ?_) | (refine wpList_load_part rfl 99 _ rfl w.heap.size 0 2 rfl 101 (conC lo hi wi st de ca n wd gp t sh) (0, 0) _ G0.out Tryz.underlying99 rfl info_bd (con_fits2 _ _ _ _ _ _ _ _ _ _ _) _ (con_bd _ _ _ _ _ _ _ _ _ _ _) ?_) | (refine wpList_load_part rfl 32 _ rfl w.heap.size 8 5 rfl 101 (conC lo hi wi st de ca n wd gp t sh) (0, 0) _ G0.out Tryz.underlying32 rfl info_blind (con_fits8 _ _ _ _ _ _ _ _ _ _ _) _ (con_bl _ _ _ _ _ _ _ _ _ _ _) ?_) | (refine wpList_load_part rfl 43 _ rfl b1 0 3 rfl 43 (saC ti wt s') (0, 0) _ G1.out Tryz.underlying43 rfl info_sa (sa_fits _ _ _) _ (sa_all _ _ _) ?_) | (refine wpList_load_part rfl 47 _ rfl b2 0 3 rfl 47 (tkC lg gu hg) (0, 0) _ G2.out Tryz.underlying47 rfl info_tk (tk_fits _ _ _) _ (tk_all _ _ _) ?_) | (go_at_call 124; refine (HM.out _).mono ?_; rintro e W2 ⟨rfl, hb2⟩; replace G0 := Lib.hid (below_row hb2 G0.out); replace G1 := Lib.hid (below_row hb2 G1.out); replace G2 := Lib.hid (below_row hb2 G2.out); replace G3 := Lib.hid (below_row hb2 G3.out); replace hb := hb.trans (hb2.mono hb.size); clear hb2) | (go_at_call 208; refine (HI.out _).mono ?_; rintro e W3 ⟨rfl, hb3⟩; replace G0 := Lib.hid (below_row hb3 G0.out); replace G1 := Lib.hid (below_row hb3 G1.out); replace G2 := Lib.hid (below_row hb3 G2.out); replace G3 := Lib.hid (below_row hb3 G3.out); replace hb := hb.trans (hb3.mono hb.size); clear hb3))
  go_upto_region 8 with (first | (refine wpList_load_part rfl 101 _ rfl w.heap.size 0 13 rfl 101 (conC lo hi wi st de ca n wd gp t sh) (0, 0) _ G0.out Tryz.underlying101 rfl info_con (con_fits _ _ _ _ _ _ _ _ _ _ _) _ (con_all _ _ _ _ _ _ _ _ _ _ _) ?_) | (refine wpList_load_part rfl 99 _ rfl w.heap.size 0 2 rfl 101 (conC lo hi wi st de ca n wd gp t sh) (0, 0) _ G0.out Tryz.underlying99 rfl info_bd (con_fits2 _ _ _ _ _ _ _ _ _ _ _) _ (con_bd _ _ _ _ _ _ _ _ _ _ _) ?_) | (refine wpList_load_part rfl 32 _ rfl w.heap.size 8 5 rfl 101 (conC lo hi wi st de ca n wd gp t sh) (0, 0) _ G0.out Tryz.underlying32 rfl info_blind (con_fits8 _ _ _ _ _ _ _ _ _ _ _) _ (con_bl _ _ _ _ _ _ _ _ _ _ _) ?_) | (refine wpList_load_part rfl 43 _ rfl b1 0 3 rfl 43 (saC ti wt s') (0, 0) _ G1.out Tryz.underlying43 rfl info_sa (sa_fits _ _ _) _ (sa_all _ _ _) ?_) | (go_at_call 125; refine (HV.out _).mono ?_; rintro e W4 ⟨rfl, hb4⟩; replace G0 := Lib.hid (below_row hb4 G0.out); replace G1 := Lib.hid (below_row hb4 G1.out); replace G2 := Lib.hid (below_row hb4 G2.out); replace G3 := Lib.hid (below_row hb4 G3.out); replace hb := hb.trans (hb4.mono hb.size); clear hb4) | (refine wpList_store_part rfl 43 _ _ rfl b1 0 (saC t1 w1 s1) rfl rfl 43 (saC ti wt s') G1.out info_sa (Nat.le_refl _) (sa_one _ _ _) ?_; rw [laid_all5 (saC ti wt s') (saC t1 w1 s1) rfl]))
  refine abs_world (fun V => V.heap[b1]? = some (.cells (saC t1 w1 s1) 43 (0, 0)) ∧ V.heap[b3]? = some (.cells (outC 0 0 0 0) 104 (0, 0)) ∧ Below w.heap.size w V) ⟨setRow_heap _ _ _ _ _ _ G1.out, (setRow_other _ _ _ _ (by omega)).trans G3.out, below_setRow hb (by omega) _⟩ ?_
  clear G0 G1 G2 G3 hb
  rintro V2 ⟨qK1, qK3, hb⟩
  have K1 := Lib.hid qK1
  have K3 := Lib.hid qK3
  clear qK1 qK3
  go_wp2_with (first | (refine wpList_load_part rfl 43 _ rfl b1 0 3 rfl 43 (saC t1 w1 s1) (0, 0) _ K1.out Tryz.underlying43 rfl info_sa (sa_fits _ _ _) _ (sa_all _ _ _) ?_) | (refine wpList_buildTo5 rfl 104 _ rfl _ rfl [(0, .agg (saC t1 w1 s1)), (1, .float .f32 li)] rfl (outC t1 w1 s1 li) (built_out _ _ _ _) ?_) | (refine wpList_store_part rfl 104 _ _ rfl b3 0 (outC t1 w1 s1 li) rfl rfl 104 (outC 0 0 0 0) K3.out info_ou (Nat.le_refl _) (out_one _ _ _ _) ?_; rw [laid_all5 (outC 0 0 0 0) (outC t1 w1 s1 li) rfl]))
  exact bodyPost_ret (v := .agg (outC t1 w1 s1 li)) (results_cell_row rfl _ _ _ _ _ _ _ rfl (setRow_heap _ _ _ _ _ _ K3.out) Tryz.underlying104 rfl info_ou) rfl ⟨rfl, below_setRow hb (by omega) _⟩

theorem after_any (lo : Nat) (hi : Nat) (wi : Nat) (st : Int) (de : Int) (ca : Int) (n : Int) (wd gp : Nat) (t : Int) (sh : Nat) (ti : Int) (wt : Int) (sm : Int) (lg : Nat) (gu : Nat) (hg : Int) (ok : BlOk n wd gp t sh) (co : CtOk lo hi wi st de ca) (ko : TkOk lg gu hg) (so : SaOk ti wt sm) (t1 w1 s1 : Int) (l1 : Nat) (ha : aftB lo hi wi st de ca wd gp sh ti wt sm lg gu hg = (t1, w1, s1, l1)) (w : World) :
    Calls Tryz.prog 61 #[.agg (conC lo hi wi st de ca n wd gp t sh), .agg (saC ti wt sm), .agg (tkC lg gu hg)] w fun e w' => e = .returned (.agg (outC t1 w1 s1 l1)) ∧ Below w.heap.size w w' := by
  unfold aftB at ha
  by_cases hs : 0 < stoB gu wi ca sm
  · rw [if_pos hs] at ha
    simp only [Prod.mk.injEq] at ha
    obtain ⟨rfl, rfl, rfl, rfl⟩ := ha
    exact after_up _ _ _ _ _ _ _ _ _ _ _ _ _ _ _ _ _ so hs w
  · rw [if_neg hs] at ha
    by_cases hw : 0 < wt
    · rw [if_pos hw] at ha
      simp only [Prod.mk.injEq] at ha
      obtain ⟨rfl, rfl, rfl, rfl⟩ := ha
      exact after_down _ _ _ _ _ _ _ _ _ _ _ _ _ _ _ _ _ ok co ko so hs _ _ _ (if_pos hw) w
    · rw [if_neg hw] at ha
      by_cases he : steB lo hi st ti (insB lg wd gp ti sh hg) = ti
      · rw [if_pos he] at ha
        simp only [Prod.mk.injEq] at ha
        obtain ⟨rfl, rfl, rfl, rfl⟩ := ha
        exact after_down _ _ _ _ _ _ _ _ _ _ _ _ _ _ _ _ _ ok co ko so hs _ _ _ (by rw [if_neg hw, if_pos he]) w
      · rw [if_neg he] at ha
        simp only [Prod.mk.injEq] at ha
        obtain ⟨rfl, rfl, rfl, rfl⟩ := ha
        exact after_down _ _ _ _ _ _ _ _ _ _ _ _ _ _ _ _ _ ok co ko so hs _ _ _ (by rw [if_neg hw, if_neg he]) w

end Go.Proofs.YtddnfbpgldchcaaGreatDoor
