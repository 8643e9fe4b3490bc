/-
  A tick: the program's and the model's.

-/
import Derived.Test.YtddnfbpgldchcaaGreatDoorCoI

namespace Go.Proofs.YtddnfbpgldchcaaGreatDoor

open Go.ChangeShapes Go.WideShapes Go.ChangeAt Go.RowKit Go.Deep Go.Joins

attribute [local go_sem] run_store_f

theorem box5 (w : World) (a b c d e : Obj) : (((((w.alloc a).alloc b).alloc c).alloc d).alloc e).heap[w.heap.size]? = some a ∧ (((((w.alloc a).alloc b).alloc c).alloc d).alloc e).heap[w.heap.size + 1]? = some b ∧ (((((w.alloc a).alloc b).alloc c).alloc d).alloc e).heap[w.heap.size + 1 + 1]? = some c ∧ (((((w.alloc a).alloc b).alloc c).alloc d).alloc e).heap[w.heap.size + 1 + 1 + 1]? = some d ∧ (((((w.alloc a).alloc b).alloc c).alloc d).alloc e).heap[w.heap.size + 1 + 1 + 1 + 1]? = some e ∧ Below w.heap.size w (((((w.alloc a).alloc b).alloc c).alloc d).alloc e) := by
  obtain ⟨h0, h1, h2, h3, hb⟩ := box4 w a b c d
  have k := (Below.refl ((((w.alloc a).alloc b).alloc c).alloc d).heap.size ((((w.alloc a).alloc b).alloc c).alloc d)).alloc (Nat.le_refl _) e
  refine ⟨below_row k h0, below_row k h1, below_row k h2, below_row k h3, ?_, hb.alloc hb.size e⟩
  have h := heap_alloc_new ((((w.alloc a).alloc b).alloc c).alloc d) e
  simpa using h

set_option maxRecDepth 100000 in
theorem built_sa0 : Tryz.prog.built 43 [] = some (saC 0 0 0) := by kernel_rfl

theorem out_cells {t w s : Int} {l : Nat} {W : World} {b : Nat} {T : TypeId} {fr : Nat × Nat} (h : W.heap[b]? = some (.cells (outC t w s l) T fr)) : W.cell? ⟨b, 3, none⟩ = some (.float .f32 l) := by rw [cell_of_row W _ _ _ _ _ h]; rfl

theorem out_fits3 (t w s : Int) (l : Nat) : 0 + 3 ≤ (outC t w s l).size := by show 3 ≤ 4; decide

theorem out_sa (t w s : Int) (l : Nat) : (outC t w s l).extract 0 (0 + 3) = saC t w s := rfl

set_option maxRecDepth 100000 in
set_option maxHeartbeats 1000000 in
theorem iTickOnce_yes (lo : Nat) (hi : Nat) (wi : Nat) (st : Int) (de : Int) (ca : Int) (cw : CtWf lo hi wi st de ca) (n : Int) (wd gp : Nat) (t : Int) (sh : Nat) (bw : BlWf n wd gp t sh) (ti : Int) (wt : Int) (sm : Int) (sw : SaWf ti wt sm) (lg : Nat) (gu : Nat) (hg : Int) (kw : TkWf lg gu hg) (hc : codeO lo hi wi st de ca n wd gp t sh ti wt sm lg gu hg = 0) (t1 w1 s1 : Int) (l1 : Nat) (ha : aftB lo hi wi st de ca wd gp sh ti wt sm lg gu hg = (t1, w1, s1, l1)) (w : World) :
    Calls Tryz.prog 19 #[.agg (ctC lo hi wi st de ca), .agg (blindC n wd gp t sh), .agg (saC ti wt sm), .agg (tkC lg gu hg)] w fun e w' => e = .returned (.tuple #[.agg (saC t1 w1 s1), .float .f32 l1, .int .i64 0]) ∧ Below w.heap.size w w' := by
  obtain ⟨kc, kb, ks, kk⟩ := codeO_zero hc
  have ok := blok_of bw kb
  have co := ctok_of cw kc
  have so := saok_of ks
  have ko := tkok_of kw kk
  have HC := Lib.hid (fun (W : World) hq => ckO lo hi wi st de ca cw n wd gp t sh bw ti wt sm sw lg gu hg kw 0 hc W.heap.size 47 (0, 0) (W.alloc (.cells (tkC lg gu hg) 47)) hq)
  have HA := Lib.hid (fun w => after_any lo hi wi st de ca n wd gp t sh ti wt sm lg gu hg ok co ko so t1 w1 s1 l1 ha w)
  clear cw bw sw kw hc kc kb ks kk ok co so ko ha
  go_enter Tryz.func19, Tryz.ntmps19
  go_upto_region 1 with (fail)
  refine abs_world (fun W => W.heap[w.heap.size]? = some (.cells (ctC lo hi wi st de ca) 40 (0, 0)) ∧ W.heap[w.heap.size + 1]? = some (.cells (blindC n wd gp t sh) 32 (0, 0)) ∧ W.heap[w.heap.size + 1 + 1]? = some (.cells (saC ti wt sm) 43 (0, 0)) ∧ W.heap[w.heap.size + 1 + 1 + 1]? = some (.cells (tkC lg gu hg) 47 (0, 0)) ∧ W.heap[w.heap.size + 1 + 1 + 1 + 1]? = some (.cells (saC 0 0 0) 43 (0, 0)) ∧ Below w.heap.size w W) (box5 w (.cells (ctC lo hi wi st de ca) 40) (.cells (blindC n wd gp t sh) 32) (.cells (saC ti wt sm) 43) (.cells (tkC lg gu hg) 47) (.cells (saC 0 0 0) 43)) ?_
  rintro W ⟨h0, h1, h2, h3, h4, hb⟩
  have hl1 : w.heap.size < w.heap.size + 1 := by omega
  have hl2 : w.heap.size + 1 < w.heap.size + 1 + 1 := by omega
  have hl3 : w.heap.size + 1 + 1 < w.heap.size + 1 + 1 + 1 := by omega
  have hl4 : w.heap.size + 1 + 1 + 1 < w.heap.size + 1 + 1 + 1 + 1 := by omega
  generalize w.heap.size + 1 + 1 + 1 + 1 = b4 at *
  generalize w.heap.size + 1 + 1 + 1 = b3 at *
  generalize w.heap.size + 1 + 1 = b2 at *
  generalize w.heap.size + 1 = b1 at *
  have H0 := Lib.hid h0
  have H1 := Lib.hid h1
  have H2 := Lib.hid h2
  have H3 := Lib.hid h3
  have H4 := Lib.hid h4
  clear h0 h1 h2 h3 h4
  go_upto_region 4 with (first | (refine wpList_load_part rfl 40 _ rfl w.heap.size 0 6 rfl 40 (ctC lo hi wi st de ca) (0, 0) _ H0.out Tryz.underlying40 rfl info_ct (ct_fits _ _ _ _ _ _) _ (ct_all _ _ _ _ _ _) ?_) | (refine wpList_load_part rfl 32 _ rfl b1 0 5 rfl 32 (blindC n wd gp t sh) (0, 0) _ H1.out Tryz.underlying32 rfl info_blind (blind_fits _ _ _ _ _) _ (blind_all _ _ _ _ _) ?_) | (refine wpList_load_part rfl 43 _ rfl b2 0 3 rfl 43 (saC ti wt sm) (0, 0) _ H2.out Tryz.underlying43 rfl info_sa (sa_fits _ _ _) _ (sa_all _ _ _) ?_) | (refine wpList_load_part rfl 47 _ rfl b3 0 3 rfl 47 (tkC lg gu hg) (0, 0) _ H3.out Tryz.underlying47 rfl info_tk (tk_fits _ _ _) _ (tk_all _ _ _) ?_) | (refine wpList_buildSlice5 rfl 109 47 1 _ rfl _ rfl _ rfl Tryz.underlying109 (tkC lg gu hg) [(0, .agg (tkC lg gu hg))] rfl (built_tks lg gu hg) ?_) | (go_at_call 59; refine (HC.out _ (heap_alloc_new _ _)).mono ?_; rintro e V1 ⟨rfl, hq1⟩; replace hq1 := ((Below.refl W.heap.size W).alloc (Nat.le_refl _) (.cells (tkC lg gu hg) 47)).trans (hq1.mono (by simp)); replace H0 := Lib.hid (below_row hq1 H0.out); replace H1 := Lib.hid (below_row hq1 H1.out); replace H2 := Lib.hid (below_row hq1 H2.out); replace H3 := Lib.hid (below_row hq1 H3.out); replace H4 := Lib.hid (below_row hq1 H4.out); replace hb := hb.trans (hq1.mono hb.size); clear hq1))
  have l4 := row_lt H4.out
  go_cut [12] (fun s12 wx => ∃ bb : Nat, s12 = .pointer (some ⟨bb, 0, none⟩) ∧ V1.heap.size ≤ bb ∧ wx.heap[bb]? = some (.cells (outC t1 w1 s1 l1) 104 (0, 0)) ∧ Below V1.heap.size V1 wx)
  case first =>
    refine wp_region_held_drew (S := (fun V => Below V1.heap.size V1 V)) (by kernel_rfl) ((Below.refl _ _).drew) (fun hHeld => ?_)
    generalize V1.drew = Y0 at *
    refine take_op (i := 0) (d := 23) (v := .agg (ctC lo hi wi st de ca)) rfl rfl (by kernel_rfl) (by kernel_rfl) (by kernel_rfl) (fun _ _ _ h => h) (yields_row (by rfl) 40 (.tmp 4) (by rfl) w.heap.size 0 6 (by rfl) 40 (ctC lo hi wi st de ca) (0, 0) _ (fun _ h => below_row h H0.out) Tryz.underlying40 rfl info_ct (ct_fits _ _ _ _ _ _) (ctC lo hi wi st de ca) (ct_all _ _ _ _ _ _)) hHeld ?_
    simp only [List.setIfInBounds_toArray, List.set_cons_zero, List.set_cons_succ]
    refine take_op (i := 1) (d := 24) (v := .agg (blindC n wd gp t sh)) rfl rfl (by kernel_rfl) (by kernel_rfl) (by kernel_rfl) (fun _ _ _ h => h) (yields_row (by rfl) 32 (.tmp 5) (by rfl) b1 0 5 (by rfl) 32 (blindC n wd gp t sh) (0, 0) _ (fun _ h => below_row h H1.out) Tryz.underlying32 rfl info_blind (blind_fits _ _ _ _ _) (blindC n wd gp t sh) (blind_all _ _ _ _ _)) hHeld ?_
    simp only [List.setIfInBounds_toArray, List.set_cons_zero, List.set_cons_succ]
    refine take_op (i := 3) (d := 26) (v := .agg (saC ti wt sm)) rfl rfl (by kernel_rfl) (by kernel_rfl) (by kernel_rfl) (fun _ _ _ h => h) (yields_row (by rfl) 43 (.tmp 6) (by rfl) b2 0 3 (by rfl) 43 (saC ti wt sm) (0, 0) _ (fun _ h => below_row h H2.out) Tryz.underlying43 rfl info_sa (sa_fits _ _ _) (saC ti wt sm) (sa_all _ _ _)) hHeld ?_
    simp only [List.setIfInBounds_toArray, List.set_cons_zero, List.set_cons_succ]
    refine take_op (i := 4) (d := 27) (v := .agg (tkC lg gu hg)) rfl rfl (by kernel_rfl) (by kernel_rfl) (by kernel_rfl) (fun _ _ _ h => h) (yields_row (by rfl) 47 (.tmp 7) (by rfl) b3 0 3 (by rfl) 47 (tkC lg gu hg) (0, 0) _ (fun _ h => below_row h H3.out) Tryz.underlying47 rfl info_tk (tk_fits _ _ _) (tkC lg gu hg) (tk_all _ _ _)) hHeld ?_
    simp only [List.setIfInBounds_toArray, List.set_cons_zero, List.set_cons_succ]
    refine wpAnyH_ready (rs := [2, 6]) (by kernel_rfl) (by simp) ?_
    refine AllReadyH.cons rfl (fun K hK => ?_) (AllReadyH.cons rfl (fun K hK => ?_) AllReadyH.nil)
    · go_simp
      refine (controllerOf_any lo hi wi st de ca n wd gp t sh _).mono ?_
      rintro e Y1 ⟨rfl, hb1⟩
      refine hK.out _ _ (hHeld.trans (hb1.mono hHeld.size)) (fun hHeld2 => ?_)
      clear hK K
      replace hHeld := hHeld2
      clear hHeld2
      clear hb1
      refine wpAnyH_ready (rs := [5, 6]) (by kernel_rfl) (by simp) ?_
      refine AllReadyH.cons rfl (fun K hK => ?_) (AllReadyH.cons rfl (fun K hK => ?_) AllReadyH.nil)
      · go_simp
        refine (HA.out _).mono ?_
        rintro e Y2 ⟨rfl, hb1⟩
        refine hK.out _ _ (hHeld.trans (hb1.mono hHeld.size)) (fun hHeld2 => ?_)
        clear hK K
        replace hHeld := hHeld2
        clear hHeld2
        clear hb1
        refine wpAnyH_ready (rs := [6]) (by kernel_rfl) (by simp) ?_
        refine AllReadyH.cons rfl (fun K hK => ?_) AllReadyH.nil
        go_simp
        obtain ⟨bb, hbq⟩ : ∃ bb, bb = Y2.heap.size := ⟨_, rfl⟩
        rw [← hbq]
        refine hK.out _ (Y2.alloc (.cells (outC 0 0 0 0) 104 (0, 0))) (hHeld.alloc hHeld.size _) (fun hHeld2 => ?_)
        have HB : Hid ((Y2.alloc (.cells (outC 0 0 0 0) 104 (0, 0))).heap[bb]? = some (.cells (outC 0 0 0 0) 104 (0, 0))) := Lib.hid (by rw [hbq]; exact heap_alloc_new _ _)
        have hbb : V1.heap.size ≤ bb := by rw [hbq]; exact hHeld.size
        clear hK K hHeld hbq
        have hHeld := hHeld2
        clear hHeld2
        generalize (Y2.alloc (.cells (outC 0 0 0 0) 104 (0, 0))) = Y3 at *
        have hst := run_store_row5 (P := Tryz.prog) _ bb 104 (outC t1 w1 s1 l1) _ HB.out rfl (out_one _ _ _ _)
        refine wpAnyH_ready (rs := [7]) (by kernel_rfl) (by simp) ?_
        refine AllReadyH.cons rfl (fun K hK => ?_) AllReadyH.nil
        go_simp
        refine hK.out _ _ (below_setRow hHeld hbb _) (fun hHeld2 => ?_)
        clear hK K hst
        have HB2 := Lib.hid (setRow_heap _ _ _ (outC t1 w1 s1 l1) _ _ HB.out)
        clear hHeld HB
        have hHeld := hHeld2
        clear hHeld2
        refine wpAnyH_done (by kernel_rfl) ?_ _
        go_wp2
        go_meet
        case rel => exact ⟨bb, rfl, hbb, HB2.out, hHeld⟩
      · go_simp
        obtain ⟨bb, hbq⟩ : ∃ bb, bb = Y1.heap.size := ⟨_, rfl⟩
        rw [← hbq]
        refine hK.out _ (Y1.alloc (.cells (outC 0 0 0 0) 104 (0, 0))) (hHeld.alloc hHeld.size _) (fun hHeld2 => ?_)
        have HB : Hid ((Y1.alloc (.cells (outC 0 0 0 0) 104 (0, 0))).heap[bb]? = some (.cells (outC 0 0 0 0) 104 (0, 0))) := Lib.hid (by rw [hbq]; exact heap_alloc_new _ _)
        have hbb : V1.heap.size ≤ bb := by rw [hbq]; exact hHeld.size
        clear hK K hHeld hbq
        have hHeld := hHeld2
        clear hHeld2
        generalize (Y1.alloc (.cells (outC 0 0 0 0) 104 (0, 0))) = Y4 at *
        refine wpAnyH_ready (rs := [5]) (by kernel_rfl) (by simp) ?_
        refine AllReadyH.cons rfl (fun K hK => ?_) AllReadyH.nil
        go_simp
        refine (HA.out _).mono ?_
        rintro e Y5 ⟨rfl, hb1⟩
        refine hK.out _ _ (hHeld.trans (hb1.mono hHeld.size)) (fun hHeld2 => ?_)
        clear hK K
        replace hHeld := hHeld2
        clear hHeld2
        replace HB := Lib.hid (below_row hb1 HB.out)
        clear hb1
        have hst := run_store_row5 (P := Tryz.prog) _ bb 104 (outC t1 w1 s1 l1) _ HB.out rfl (out_one _ _ _ _)
        refine wpAnyH_ready (rs := [7]) (by kernel_rfl) (by simp) ?_
        refine AllReadyH.cons rfl (fun K hK => ?_) AllReadyH.nil
        go_simp
        refine hK.out _ _ (below_setRow hHeld hbb _) (fun hHeld2 => ?_)
        clear hK K hst
        have HB2 := Lib.hid (setRow_heap _ _ _ (outC t1 w1 s1 l1) _ _ HB.out)
        clear hHeld HB
        have hHeld := hHeld2
        clear hHeld2
        refine wpAnyH_done (by kernel_rfl) ?_ _
        go_wp2
        go_meet
        case rel => exact ⟨bb, rfl, hbb, HB2.out, hHeld⟩
    · go_simp
      obtain ⟨bb, hbq⟩ : ∃ bb, bb = Y0.heap.size := ⟨_, rfl⟩
      rw [← hbq]
      refine hK.out _ (Y0.alloc (.cells (outC 0 0 0 0) 104 (0, 0))) (hHeld.alloc hHeld.size _) (fun hHeld2 => ?_)
      have HB : Hid ((Y0.alloc (.cells (outC 0 0 0 0) 104 (0, 0))).heap[bb]? = some (.cells (outC 0 0 0 0) 104 (0, 0))) := Lib.hid (by rw [hbq]; exact heap_alloc_new _ _)
      have hbb : V1.heap.size ≤ bb := by rw [hbq]; exact hHeld.size
      clear hK K hHeld hbq
      have hHeld := hHeld2
      clear hHeld2
      generalize (Y0.alloc (.cells (outC 0 0 0 0) 104 (0, 0))) = Y6 at *
      refine wpAnyH_ready (rs := [2]) (by kernel_rfl) (by simp) ?_
      refine AllReadyH.cons rfl (fun K hK => ?_) AllReadyH.nil
      go_simp
      refine (controllerOf_any lo hi wi st de ca n wd gp t sh _).mono ?_
      rintro e Y7 ⟨rfl, hb1⟩
      refine hK.out _ _ (hHeld.trans (hb1.mono hHeld.size)) (fun hHeld2 => ?_)
      clear hK K
      replace hHeld := hHeld2
      clear hHeld2
      replace HB := Lib.hid (below_row hb1 HB.out)
      clear hb1
      refine wpAnyH_ready (rs := [5]) (by kernel_rfl) (by simp) ?_
      refine AllReadyH.cons rfl (fun K hK => ?_) AllReadyH.nil
      go_simp
      refine (HA.out _).mono ?_
      rintro e Y8 ⟨rfl, hb1⟩
      refine hK.out _ _ (hHeld.trans (hb1.mono hHeld.size)) (fun hHeld2 => ?_)
      clear hK K
      replace hHeld := hHeld2
      clear hHeld2
      replace HB := Lib.hid (below_row hb1 HB.out)
      clear hb1
      have hst := run_store_row5 (P := Tryz.prog) _ bb 104 (outC t1 w1 s1 l1) _ HB.out rfl (out_one _ _ _ _)
      refine wpAnyH_ready (rs := [7]) (by kernel_rfl) (by simp) ?_
      refine AllReadyH.cons rfl (fun K hK => ?_) AllReadyH.nil
      go_simp
      refine hK.out _ _ (below_setRow hHeld hbb _) (fun hHeld2 => ?_)
      clear hK K hst
      have HB2 := Lib.hid (setRow_heap _ _ _ (outC t1 w1 s1 l1) _ _ HB.out)
      clear hHeld HB
      have hHeld := hHeld2
      clear hHeld2
      refine wpAnyH_done (by kernel_rfl) ?_ _
      go_wp2
      go_meet
      case rel => exact ⟨bb, rfl, hbb, HB2.out, hHeld⟩
  case rest =>
    obtain ⟨bo, rfl, hbo, ho, hbx⟩ := hcut
    replace H4 := Lib.hid (below_row hbx H4.out)
    replace hb := hb.trans (hbx.mono hb.size)
    have HO := Lib.hid ho
    clear ho hbx H0 H1 H2 H3 HC HA
    go_upto_region 5 with (fail)
    refine wp_region_held_drew (S := (fun X => X.heap[bo]? = some (.cells (outC t1 w1 s1 l1) 104 (0, 0)) ∧ (∃ old : Array Value, X.heap[b4]? = some (.cells old 43 (0, 0)) ∧ old.size = 3) ∧ Below w.heap.size w X)) (by kernel_rfl) ⟨HO.out, ⟨_, H4.out, rfl⟩, hb.drew⟩ (fun hHeld => ?_)
    refine take_op (i := 0) (d := 29) (v := ?_) rfl rfl (by kernel_rfl) (by kernel_rfl) (by kernel_rfl) (fun _ _ _ h => h) (Or.inl ⟨by rfl, ?hy0u48⟩) hHeld ?rest0u48
    case hy0u48 =>
      intro w' hS'
      go_simp
      try with_reducible rfl
    simp only [List.setIfInBounds_toArray, List.set_cons_zero, List.set_cons_succ]
    refine take_op (i := 1) (d := 30) (v := .agg (saC t1 w1 s1)) rfl rfl (by kernel_rfl) (by kernel_rfl) (by kernel_rfl) (fun _ _ _ h => h) (yields_row (by rfl) 43 (.tmp 29) (by rfl) bo 0 3 (by rfl) 104 (outC t1 w1 s1 l1) (0, 0) _ (fun _ h => h.1) Tryz.underlying43 rfl info_sa (out_fits3 _ _ _ _) (saC t1 w1 s1) (out_sa _ _ _ _)) hHeld ?_
    simp only [List.setIfInBounds_toArray, List.set_cons_zero, List.set_cons_succ]
    refine take_op (i := 2) (d := 31) (v := ?_) rfl rfl (by kernel_rfl) (by kernel_rfl) (by kernel_rfl) (fun _ _ _ h => h) (Or.inl ⟨by rfl, ?hy2u49⟩) hHeld ?rest2u49
    case hy2u49 =>
      intro w' hS'
      go_simp
      try with_reducible rfl
    simp only [List.setIfInBounds_toArray, List.set_cons_zero, List.set_cons_succ]
    refine take_op (i := 3) (d := 32) (v := ?_) rfl rfl (by kernel_rfl) (by kernel_rfl) (by kernel_rfl) (fun _ _ _ h => h) (Or.inl ⟨by rfl, ?hy3u50⟩) hHeld ?rest3u50
    case hy3u50 =>
      intro w' hS'
      have ko := out_cells hS'.1
      go_simp
      try with_reducible rfl
    simp only [List.setIfInBounds_toArray, List.set_cons_zero, List.set_cons_succ]
    obtain ⟨old, hold, hos⟩ := hHeld.2.1
    have hst := run_store_row5 (P := Tryz.prog) _ b4 43 (saC t1 w1 s1) _ hold (hos.trans rfl) (sa_one _ _ _)
    refine wpAnyH_ready (rs := [4]) (by kernel_rfl) (by simp) ?_
    refine AllReadyH.cons rfl (fun K hK => ?_) AllReadyH.nil
    go_simp
    refine hK.out _ _ (⟨(setRow_other _ _ _ _ (by omega)).trans hHeld.1, ⟨_, setRow_heap _ _ _ _ _ _ hold, rfl⟩, below_setRow hHeld.2.2 (by omega) _⟩) (fun hHeld2 => ?_)
    clear hK K hst
    have hd := setRow_heap _ _ _ (saC t1 w1 s1) _ _ hold
    clear hHeld
    have hHeld := hHeld2
    clear hHeld2
    refine take_op (i := 5) (d := 9) (v := ?_) rfl rfl (by kernel_rfl) (by kernel_rfl) (by kernel_rfl) (fun _ _ _ h => h) (Or.inl ⟨by rfl, ?hy5u51⟩) hHeld ?rest5u51
    case hy5u51 =>
      intro w' hS'
      go_simp
      try with_reducible rfl
    refine take_op (i := 6) (d := 10) (v := ?_) rfl rfl (by kernel_rfl) (by kernel_rfl) (by kernel_rfl) (fun _ _ _ h => h) (Or.inl ⟨by rfl, ?hy6u52⟩) hHeld ?rest6u52
    case hy6u52 =>
      intro w' hS'
      go_simp
      try with_reducible rfl
    refine wpAnyH_done (by kernel_rfl) ?_ _
    go_wp2
    exact bodyPost_ret (results_sa2 rfl _ _ b4 _ _ _ rfl hd) rfl ⟨rfl, hHeld.2.2⟩

end Go.Proofs.YtddnfbpgldchcaaGreatDoor
