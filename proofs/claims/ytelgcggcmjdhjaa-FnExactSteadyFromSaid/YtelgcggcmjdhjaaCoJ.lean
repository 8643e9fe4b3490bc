/-
  A tick: the program's and the model's.
-/
import Derived.Test.YtelgcggcmjdhjaaCoI
namespace Go.Proofs.Ytelgcggcmjdhjaa
open Go.ChangeShapes Go.WideShapes Go.ChangeAt Go.RowKit Go.Deep Go.Joins

attribute [local go_sem] run_store_f

theorem box5 (w : World) (a b c d e : Obj) : (((((w.alloc a).alloc b).alloc c).alloc d).alloc e).heap[w.heap.size]? = some a ∧ (((((w.alloc a).alloc b).alloc c).alloc d).alloc e).heap[w.heap.size + 1]? = some b ∧ (((((w.alloc a).alloc b).alloc c).alloc d).alloc e).heap[w.heap.size + 1 + 1]? = some c ∧ (((((w.alloc a).alloc b).alloc c).alloc d).alloc e).heap[w.heap.size + 1 + 1 + 1]? = some d ∧ (((((w.alloc a).alloc b).alloc c).alloc d).alloc e).heap[w.heap.size + 1 + 1 + 1 + 1]? = some e ∧ Below w.heap.size w (((((w.alloc a).alloc b).alloc c).alloc d).alloc e) := by
  obtain ⟨h0, h1, h2, h3, hb⟩ := box4 w a b c d
  have k := (Below.refl ((((w.alloc a).alloc b).alloc c).alloc d).heap.size ((((w.alloc a).alloc b).alloc c).alloc d)).alloc (Nat.le_refl _) e
  refine ⟨below_row k h0, below_row k h1, below_row k h2, below_row k h3, ?_, hb.alloc hb.size e⟩
  have h := heap_alloc_new ((((w.alloc a).alloc b).alloc c).alloc d) e
  simpa using h
set_option maxRecDepth 100000 in
theorem built_sa0 : Try.prog.built 34 [] = some (saC 0 0 0) := by kernel_rfl
theorem out_cells {t w s : Int} {l : Nat} {W : World} {b : Nat} {T : TypeId} {fr : Nat × Nat} (h : W.heap[b]? = some (.cells (outC t w s l) T fr)) : W.cell? ⟨b, 3, none⟩ = some (.float .f32 l) := by rw [cell_of_row W _ _ _ _ _ h]; rfl
theorem out_fits3 (t w s : Int) (l : Nat) : 0 + 3 ≤ (outC t w s l).size := by show 3 ≤ 4; decide
theorem out_sa (t w s : Int) (l : Nat) : (outC t w s l).extract 0 (0 + 3) = saC t w s := rfl

set_option maxRecDepth 100000 in
set_option maxHeartbeats 1000000 in
theorem iTickOnce_no (lo : Nat) (hi : Nat) (wi : Nat) (st : Int) (de : Int) (ca : Int) (cw : CtWf lo hi wi st de ca) (n : Int) (wd gp : Nat) (t : Int) (sh : Nat) (bw : BlWf n wd gp t sh) (ti : Int) (wt : Int) (sm : Int) (sw : SaWf ti wt sm) (lg : Nat) (gu : Nat) (hg : Int) (kw : TkWf lg gu hg) (c : Int) (hc : codeO lo hi wi st de ca n wd gp t sh ti wt sm lg gu hg = c) (hne : c ≠ 0) (w : World) :
    Calls Try.prog 31 #[.agg (ctC lo hi wi st de ca), .agg (blindC n wd gp t sh), .agg (saC ti wt sm), .agg (tkC lg gu hg)] w fun e w' => e = .returned (.tuple #[.agg (saC 0 0 0), .float .f32 0, .int .i64 c]) ∧ Below w.heap.size w w' := by
  have HC := Lib.hid (fun (W : World) hq => ckO lo hi wi st de ca cw n wd gp t sh bw ti wt sm sw lg gu hg kw c hc W.heap.size 40 (0, 0) (W.alloc (.cells (tkC lg gu hg) 40)) hq)
  have hne' : (c != 0) = true := bne_iff_ne.2 hne
  clear cw bw sw kw hc hne
  go_enter Try.func31, Try.ntmps31
  go_upto_region 1 with (fail)
  refine abs_world (fun W => W.heap[w.heap.size]? = some (.cells (ctC lo hi wi st de ca) 27 (0, 0)) ∧ W.heap[w.heap.size + 1]? = some (.cells (blindC n wd gp t sh) 49 (0, 0)) ∧ W.heap[w.heap.size + 1 + 1]? = some (.cells (saC ti wt sm) 34 (0, 0)) ∧ W.heap[w.heap.size + 1 + 1 + 1]? = some (.cells (tkC lg gu hg) 40 (0, 0)) ∧ W.heap[w.heap.size + 1 + 1 + 1 + 1]? = some (.cells (saC 0 0 0) 34 (0, 0)) ∧ Below w.heap.size w W) (box5 w (.cells (ctC lo hi wi st de ca) 27) (.cells (blindC n wd gp t sh) 49) (.cells (saC ti wt sm) 34) (.cells (tkC lg gu hg) 40) (.cells (saC 0 0 0) 34)) ?_
  rintro W ⟨h0, h1, h2, h3, h4, hb⟩
  have hl1 : w.heap.size < w.heap.size + 1 := by omega
  have hl2 : w.heap.size + 1 < w.heap.size + 1 + 1 := by omega
  have hl3 : w.heap.size + 1 + 1 < w.heap.size + 1 + 1 + 1 := by omega
  have hl4 : w.heap.size + 1 + 1 + 1 < w.heap.size + 1 + 1 + 1 + 1 := by omega
  generalize w.heap.size + 1 + 1 + 1 + 1 = b4 at *
  generalize w.heap.size + 1 + 1 + 1 = b3 at *
  generalize w.heap.size + 1 + 1 = b2 at *
  generalize w.heap.size + 1 = b1 at *
  have H0 := Lib.hid h0
  have H1 := Lib.hid h1
  have H2 := Lib.hid h2
  have H3 := Lib.hid h3
  have H4 := Lib.hid h4
  clear h0 h1 h2 h3 h4
  go_wp2_with (first | (refine wpList_load_part rfl 27 _ rfl w.heap.size 0 6 rfl 27 (ctC lo hi wi st de ca) (0, 0) _ H0.out Try.underlying27 rfl info_ct (ct_fits _ _ _ _ _ _) _ (ct_all _ _ _ _ _ _) ?_) | (refine wpList_load_part rfl 49 _ rfl b1 0 5 rfl 49 (blindC n wd gp t sh) (0, 0) _ H1.out Try.underlying49 rfl info_blind (blind_fits _ _ _ _ _) _ (blind_all _ _ _ _ _) ?_) | (refine wpList_load_part rfl 34 _ rfl b2 0 3 rfl 34 (saC ti wt sm) (0, 0) _ H2.out Try.underlying34 rfl info_sa (sa_fits _ _ _) _ (sa_all _ _ _) ?_) | (refine wpList_load_part rfl 40 _ rfl b3 0 3 rfl 40 (tkC lg gu hg) (0, 0) _ H3.out Try.underlying40 rfl info_tk (tk_fits _ _ _) _ (tk_all _ _ _) ?_) | (refine wpList_buildSlice5 rfl 92 40 1 _ rfl _ rfl _ rfl Try.underlying92 (tkC lg gu hg) [(0, .agg (tkC lg gu hg))] rfl (built_tks lg gu hg) ?_) | (go_at_call 63; refine (HC.out _ (heap_alloc_new _ _)).mono ?_; rintro e V1 ⟨rfl, hq1⟩; replace hq1 := ((Below.refl W.heap.size W).alloc (Nat.le_refl _) (.cells (tkC lg gu hg) 40)).trans (hq1.mono (by simp)); replace H0 := Lib.hid (below_row hq1 H0.out); replace H1 := Lib.hid (below_row hq1 H1.out); replace H2 := Lib.hid (below_row hq1 H2.out); replace H3 := Lib.hid (below_row hq1 H3.out); replace H4 := Lib.hid (below_row hq1 H4.out); replace hb := hb.trans (hq1.mono hb.size); clear hq1) | (refine wpList_buildTo5 rfl 34 _ rfl _ rfl [] rfl (saC 0 0 0) built_sa0 ?_) | (refine wpList_store_part rfl 34 _ _ rfl b4 0 (saC 0 0 0) rfl rfl 34 (saC 0 0 0) H4.out info_sa (Nat.le_refl _) (sa_one _ _ _) ?_; rw [laid_all5 (saC 0 0 0) (saC 0 0 0) rfl]))
  exact bodyPost_ret (results_sa2 rfl _ _ b4 _ _ _ rfl (setRow_heap _ _ _ _ _ _ H4.out)) rfl ⟨rfl, below_setRow hb (by omega) _⟩

set_option maxRecDepth 100000 in
set_option maxHeartbeats 1000000 in
theorem sTickOnce_no (lo : Nat) (hi : Nat) (wi : Nat) (st : Int) (de : Int) (ca : Int) (cw : CtWf lo hi wi st de ca) (n : Int) (wd gp : Nat) (t : Int) (sh : Nat) (bw : BlWf n wd gp t sh) (ti : Int) (wt : Int) (sm : Int) (sw : SaWf ti wt sm) (lg : Nat) (gu : Nat) (hg : Int) (kw : TkWf lg gu hg) (c : Int) (hc : codeO lo hi wi st de ca n wd gp t sh ti wt sm lg gu hg = c) (hne : c ≠ 0) (w : World) :
    Calls Try.prog 30 #[.agg (ctC lo hi wi st de ca), .agg (blindC n wd gp t sh), .agg (saC ti wt sm), .agg (tkC lg gu hg)] w fun e w' => e = .returned (.tuple #[.agg (saC 0 0 0), .float .f32 0, .int .i64 c]) ∧ Below w.heap.size w w' := by
  have HC := Lib.hid (fun (W : World) (g1 g2 g3 : Nat) h1 h2 h3 hq => asO lo hi wi st de ca cw n wd gp t sh bw ti wt sm sw lg gu hg kw c hc g1 g2 g3 W.heap.size 27 49 34 40 (0, 0) (0, 0) (0, 0) (0, 0) (W.alloc (.cells (tkC lg gu hg) 40)) h1 h2 h3 hq)
  have hne' : (c != 0) = true := bne_iff_ne.2 hne
  clear cw bw sw kw hc hne
  go_enter Try.func30, Try.ntmps30
  go_upto_region 1 with (fail)
  refine abs_world (fun W => W.heap[w.heap.size]? = some (.cells (ctC lo hi wi st de ca) 27 (0, 0)) ∧ W.heap[w.heap.size + 1]? = some (.cells (blindC n wd gp t sh) 49 (0, 0)) ∧ W.heap[w.heap.size + 1 + 1]? = some (.cells (saC ti wt sm) 34 (0, 0)) ∧ W.heap[w.heap.size + 1 + 1 + 1]? = some (.cells (tkC lg gu hg) 40 (0, 0)) ∧ W.heap[w.heap.size + 1 + 1 + 1 + 1]? = some (.cells (saC 0 0 0) 34 (0, 0)) ∧ Below w.heap.size w W) (box5 w (.cells (ctC lo hi wi st de ca) 27) (.cells (blindC n wd gp t sh) 49) (.cells (saC ti wt sm) 34) (.cells (tkC lg gu hg) 40) (.cells (saC 0 0 0) 34)) ?_
  rintro W ⟨h0, h1, h2, h3, h4, hb⟩
  have hl1 : w.heap.size < w.heap.size + 1 := by omega
  have hl2 : w.heap.size + 1 < w.heap.size + 1 + 1 := by omega
  have hl3 : w.heap.size + 1 + 1 < w.heap.size + 1 + 1 + 1 := by omega
  have hl4 : w.heap.size + 1 + 1 + 1 < w.heap.size + 1 + 1 + 1 + 1 := by omega
  generalize w.heap.size + 1 + 1 + 1 + 1 = b4 at *
  generalize w.heap.size + 1 + 1 + 1 = b3 at *
  generalize w.heap.size + 1 + 1 = b2 at *
  generalize w.heap.size + 1 = b1 at *
  have H0 := Lib.hid h0
  have H1 := Lib.hid h1
  have H2 := Lib.hid h2
  have H3 := Lib.hid h3
  have H4 := Lib.hid h4
  clear h0 h1 h2 h3 h4
  go_wp2_with (first | (refine wpList_load_part rfl 27 _ rfl w.heap.size 0 6 rfl 27 (ctC lo hi wi st de ca) (0, 0) _ H0.out Try.underlying27 rfl info_ct (ct_fits _ _ _ _ _ _) _ (ct_all _ _ _ _ _ _) ?_) | (refine wpList_load_part rfl 49 _ rfl b1 0 5 rfl 49 (blindC n wd gp t sh) (0, 0) _ H1.out Try.underlying49 rfl info_blind (blind_fits _ _ _ _ _) _ (blind_all _ _ _ _ _) ?_) | (refine wpList_load_part rfl 34 _ rfl b2 0 3 rfl 34 (saC ti wt sm) (0, 0) _ H2.out Try.underlying34 rfl info_sa (sa_fits _ _ _) _ (sa_all _ _ _) ?_) | (refine wpList_load_part rfl 40 _ rfl b3 0 3 rfl 40 (tkC lg gu hg) (0, 0) _ H3.out Try.underlying40 rfl info_tk (tk_fits _ _ _) _ (tk_all _ _ _) ?_) | (refine wpList_buildSlice5 rfl 92 40 1 _ rfl _ rfl _ rfl Try.underlying92 (tkC lg gu hg) [(0, .agg (tkC lg gu hg))] rfl (built_tks lg gu hg) ?_) | (go_at_call 61; refine (HC.out _ _ _ _ (below_row ((Below.refl W.heap.size W).alloc (Nat.le_refl _) _) H0.out) (below_row ((Below.refl W.heap.size W).alloc (Nat.le_refl _) _) H1.out) (below_row ((Below.refl W.heap.size W).alloc (Nat.le_refl _) _) H2.out) (heap_alloc_new _ _)).mono ?_; rintro e V1 ⟨rfl, hq1⟩; replace hq1 := ((Below.refl W.heap.size W).alloc (Nat.le_refl _) (.cells (tkC lg gu hg) 40)).trans (hq1.mono (by simp)); replace H0 := Lib.hid (below_row hq1 H0.out); replace H1 := Lib.hid (below_row hq1 H1.out); replace H2 := Lib.hid (below_row hq1 H2.out); replace H3 := Lib.hid (below_row hq1 H3.out); replace H4 := Lib.hid (below_row hq1 H4.out); replace hb := hb.trans (hq1.mono hb.size); clear hq1) | (refine wpList_buildTo5 rfl 34 _ rfl _ rfl [] rfl (saC 0 0 0) built_sa0 ?_) | (refine wpList_store_part rfl 34 _ _ rfl b4 0 (saC 0 0 0) rfl rfl 34 (saC 0 0 0) H4.out info_sa (Nat.le_refl _) (sa_one _ _ _) ?_; rw [laid_all5 (saC 0 0 0) (saC 0 0 0) rfl]))
  exact bodyPost_ret (results_sa2 rfl _ _ b4 _ _ _ rfl (setRow_heap _ _ _ _ _ _ H4.out)) rfl ⟨rfl, below_setRow hb (by omega) _⟩

set_option maxRecDepth 100000 in
set_option maxHeartbeats 1000000 in
theorem sSteadyFrom_no (lo : Nat) (hi : Nat) (wi : Nat) (st : Int) (de : Int) (ca : Int) (cw : CtWf lo hi wi st de ca) (n : Int) (wd gp : Nat) (t : Int) (sh : Nat) (bw : BlWf n wd gp t sh) (ti : Int) (wt : Int) (sm : Int) (sw : SaWf ti wt sm) (lg : Nat) (gu : Nat) (hg : Int) (kw : TkWf lg gu hg) (c : Int) (hc : codeO lo hi wi st de ca n wd gp t sh ti wt sm lg gu hg = c) (hne : c ≠ 0) (w : World) :
    Calls Try.prog 35 #[.agg (ctC lo hi wi st de ca), .agg (blindC n wd gp t sh), .agg (saC ti wt sm), .agg (tkC lg gu hg)] w fun e w' => e = .returned (.tuple #[.agg (saC 0 0 0), .int .i64 0, .int .i64 c]) ∧ Below w.heap.size w w' := by
  have HC := Lib.hid (fun (W : World) (g1 g2 g3 : Nat) h1 h2 h3 hq => asO lo hi wi st de ca cw n wd gp t sh bw ti wt sm sw lg gu hg kw c hc g1 g2 g3 W.heap.size 27 49 34 40 (0, 0) (0, 0) (0, 0) (0, 0) (W.alloc (.cells (tkC lg gu hg) 40)) h1 h2 h3 hq)
  have hne' : (c != 0) = true := bne_iff_ne.2 hne
  clear cw bw sw kw hc hne
  go_enter Try.func35, Try.ntmps35
  go_upto_region 1 with (fail)
  refine abs_world (fun W => W.heap[w.heap.size]? = some (.cells (ctC lo hi wi st de ca) 27 (0, 0)) ∧ W.heap[w.heap.size + 1]? = some (.cells (blindC n wd gp t sh) 49 (0, 0)) ∧ W.heap[w.heap.size + 1 + 1]? = some (.cells (saC ti wt sm) 34 (0, 0)) ∧ W.heap[w.heap.size + 1 + 1 + 1]? = some (.cells (tkC lg gu hg) 40 (0, 0)) ∧ W.heap[w.heap.size + 1 + 1 + 1 + 1]? = some (.cells (saC 0 0 0) 34 (0, 0)) ∧ Below w.heap.size w W) (box5 w (.cells (ctC lo hi wi st de ca) 27) (.cells (blindC n wd gp t sh) 49) (.cells (saC ti wt sm) 34) (.cells (tkC lg gu hg) 40) (.cells (saC 0 0 0) 34)) ?_
  rintro W ⟨h0, h1, h2, h3, h4, hb⟩
  have hl1 : w.heap.size < w.heap.size + 1 := by omega
  have hl2 : w.heap.size + 1 < w.heap.size + 1 + 1 := by omega
  have hl3 : w.heap.size + 1 + 1 < w.heap.size + 1 + 1 + 1 := by omega
  have hl4 : w.heap.size + 1 + 1 + 1 < w.heap.size + 1 + 1 + 1 + 1 := by omega
  generalize w.heap.size + 1 + 1 + 1 + 1 = b4 at *
  generalize w.heap.size + 1 + 1 + 1 = b3 at *
  generalize w.heap.size + 1 + 1 = b2 at *
  generalize w.heap.size + 1 = b1 at *
  have H0 := Lib.hid h0
  have H1 := Lib.hid h1
  have H2 := Lib.hid h2
  have H3 := Lib.hid h3
  have H4 := Lib.hid h4
  clear h0 h1 h2 h3 h4
  go_wp2_with (first | (refine wpList_load_part rfl 27 _ rfl w.heap.size 0 6 rfl 27 (ctC lo hi wi st de ca) (0, 0) _ H0.out Try.underlying27 rfl info_ct (ct_fits _ _ _ _ _ _) _ (ct_all _ _ _ _ _ _) ?_) | (refine wpList_load_part rfl 49 _ rfl b1 0 5 rfl 49 (blindC n wd gp t sh) (0, 0) _ H1.out Try.underlying49 rfl info_blind (blind_fits _ _ _ _ _) _ (blind_all _ _ _ _ _) ?_) | (refine wpList_load_part rfl 34 _ rfl b2 0 3 rfl 34 (saC ti wt sm) (0, 0) _ H2.out Try.underlying34 rfl info_sa (sa_fits _ _ _) _ (sa_all _ _ _) ?_) | (refine wpList_load_part rfl 40 _ rfl b3 0 3 rfl 40 (tkC lg gu hg) (0, 0) _ H3.out Try.underlying40 rfl info_tk (tk_fits _ _ _) _ (tk_all _ _ _) ?_) | (refine wpList_buildSlice5 rfl 92 40 1 _ rfl _ rfl _ rfl Try.underlying92 (tkC lg gu hg) [(0, .agg (tkC lg gu hg))] rfl (built_tks lg gu hg) ?_) | (go_at_call 61; refine (HC.out _ _ _ _ (below_row ((Below.refl W.heap.size W).alloc (Nat.le_refl _) _) H0.out) (below_row ((Below.refl W.heap.size W).alloc (Nat.le_refl _) _) H1.out) (below_row ((Below.refl W.heap.size W).alloc (Nat.le_refl _) _) H2.out) (heap_alloc_new _ _)).mono ?_; rintro e V1 ⟨rfl, hq1⟩; replace hq1 := ((Below.refl W.heap.size W).alloc (Nat.le_refl _) (.cells (tkC lg gu hg) 40)).trans (hq1.mono (by simp)); replace H0 := Lib.hid (below_row hq1 H0.out); replace H1 := Lib.hid (below_row hq1 H1.out); replace H2 := Lib.hid (below_row hq1 H2.out); replace H3 := Lib.hid (below_row hq1 H3.out); replace H4 := Lib.hid (below_row hq1 H4.out); replace hb := hb.trans (hq1.mono hb.size); clear hq1) | (refine wpList_buildTo5 rfl 34 _ rfl _ rfl [] rfl (saC 0 0 0) built_sa0 ?_) | (refine wpList_store_part rfl 34 _ _ rfl b4 0 (saC 0 0 0) rfl rfl 34 (saC 0 0 0) H4.out info_sa (Nat.le_refl _) (sa_one _ _ _) ?_; rw [laid_all5 (saC 0 0 0) (saC 0 0 0) rfl]))
  exact bodyPost_ret (results_sa2 rfl _ _ b4 _ _ _ rfl (setRow_heap _ _ _ _ _ _ H4.out)) rfl ⟨rfl, below_setRow hb (by omega) _⟩

set_option maxRecDepth 100000 in
set_option maxHeartbeats 1000000 in
theorem iTickOnce_yes (lo : Nat) (hi : Nat) (wi : Nat) (st : Int) (de : Int) (ca : Int) (cw : CtWf lo hi wi st de ca) (n : Int) (wd gp : Nat) (t : Int) (sh : Nat) (bw : BlWf n wd gp t sh) (ti : Int) (wt : Int) (sm : Int) (sw : SaWf ti wt sm) (lg : Nat) (gu : Nat) (hg : Int) (kw : TkWf lg gu hg) (hc : codeO lo hi wi st de ca n wd gp t sh ti wt sm lg gu hg = 0) (t1 w1 s1 : Int) (l1 : Nat) (ha : aftB lo hi wi st de ca wd gp sh ti wt sm lg gu hg = (t1, w1, s1, l1)) (w : World) :
    Calls Try.prog 31 #[.agg (ctC lo hi wi st de ca), .agg (blindC n wd gp t sh), .agg (saC ti wt sm), .agg (tkC lg gu hg)] w fun e w' => e = .returned (.tuple #[.agg (saC t1 w1 s1), .float .f32 l1, .int .i64 0]) ∧ Below w.heap.size w w' := by
  obtain ⟨kc, kb, ks, kk⟩ := codeO_zero hc
  have ok := blok_of bw kb
  have co := ctok_of cw kc
  have so := saok_of ks
  have ko := tkok_of kw kk
  have HC := Lib.hid (fun (W : World) hq => ckO lo hi wi st de ca cw n wd gp t sh bw ti wt sm sw lg gu hg kw 0 hc W.heap.size 40 (0, 0) (W.alloc (.cells (tkC lg gu hg) 40)) hq)
  have HA := Lib.hid (fun w => after_any lo hi wi st de ca n wd gp t sh ti wt sm lg gu hg ok co ko so t1 w1 s1 l1 ha w)
  clear cw bw sw kw hc kc kb ks kk ok co so ko ha
  go_enter Try.func31, Try.ntmps31
  go_upto_region 1 with (fail)
  refine abs_world (fun W => W.heap[w.heap.size]? = some (.cells (ctC lo hi wi st de ca) 27 (0, 0)) ∧ W.heap[w.heap.size + 1]? = some (.cells (blindC n wd gp t sh) 49 (0, 0)) ∧ W.heap[w.heap.size + 1 + 1]? = some (.cells (saC ti wt sm) 34 (0, 0)) ∧ W.heap[w.heap.size + 1 + 1 + 1]? = some (.cells (tkC lg gu hg) 40 (0, 0)) ∧ W.heap[w.heap.size + 1 + 1 + 1 + 1]? = some (.cells (saC 0 0 0) 34 (0, 0)) ∧ Below w.heap.size w W) (box5 w (.cells (ctC lo hi wi st de ca) 27) (.cells (blindC n wd gp t sh) 49) (.cells (saC ti wt sm) 34) (.cells (tkC lg gu hg) 40) (.cells (saC 0 0 0) 34)) ?_
  rintro W ⟨h0, h1, h2, h3, h4, hb⟩
  have hl1 : w.heap.size < w.heap.size + 1 := by omega
  have hl2 : w.heap.size + 1 < w.heap.size + 1 + 1 := by omega
  have hl3 : w.heap.size + 1 + 1 < w.heap.size + 1 + 1 + 1 := by omega
  have hl4 : w.heap.size + 1 + 1 + 1 < w.heap.size + 1 + 1 + 1 + 1 := by omega
  generalize w.heap.size + 1 + 1 + 1 + 1 = b4 at *
  generalize w.heap.size + 1 + 1 + 1 = b3 at *
  generalize w.heap.size + 1 + 1 = b2 at *
  generalize w.heap.size + 1 = b1 at *
  have H0 := Lib.hid h0
  have H1 := Lib.hid h1
  have H2 := Lib.hid h2
  have H3 := Lib.hid h3
  have H4 := Lib.hid h4
  clear h0 h1 h2 h3 h4
  go_upto_region 4 with (first | (refine wpList_load_part rfl 27 _ rfl w.heap.size 0 6 rfl 27 (ctC lo hi wi st de ca) (0, 0) _ H0.out Try.underlying27 rfl info_ct (ct_fits _ _ _ _ _ _) _ (ct_all _ _ _ _ _ _) ?_) | (refine wpList_load_part rfl 49 _ rfl b1 0 5 rfl 49 (blindC n wd gp t sh) (0, 0) _ H1.out Try.underlying49 rfl info_blind (blind_fits _ _ _ _ _) _ (blind_all _ _ _ _ _) ?_) | (refine wpList_load_part rfl 34 _ rfl b2 0 3 rfl 34 (saC ti wt sm) (0, 0) _ H2.out Try.underlying34 rfl info_sa (sa_fits _ _ _) _ (sa_all _ _ _) ?_) | (refine wpList_load_part rfl 40 _ rfl b3 0 3 rfl 40 (tkC lg gu hg) (0, 0) _ H3.out Try.underlying40 rfl info_tk (tk_fits _ _ _) _ (tk_all _ _ _) ?_) | (refine wpList_buildSlice5 rfl 92 40 1 _ rfl _ rfl _ rfl Try.underlying92 (tkC lg gu hg) [(0, .agg (tkC lg gu hg))] rfl (built_tks lg gu hg) ?_) | (go_at_call 63; refine (HC.out _ (heap_alloc_new _ _)).mono ?_; rintro e V1 ⟨rfl, hq1⟩; replace hq1 := ((Below.refl W.heap.size W).alloc (Nat.le_refl _) (.cells (tkC lg gu hg) 40)).trans (hq1.mono (by simp)); replace H0 := Lib.hid (below_row hq1 H0.out); replace H1 := Lib.hid (below_row hq1 H1.out); replace H2 := Lib.hid (below_row hq1 H2.out); replace H3 := Lib.hid (below_row hq1 H3.out); replace H4 := Lib.hid (below_row hq1 H4.out); replace hb := hb.trans (hq1.mono hb.size); clear hq1))
  have l4 := row_lt H4.out
  go_cut [12] (fun s12 wx => ∃ bb : Nat, s12 = .pointer (some ⟨bb, 0, none⟩) ∧ V1.heap.size ≤ bb ∧ wx.heap[bb]? = some (.cells (outC t1 w1 s1 l1) 97 (0, 0)) ∧ Below V1.heap.size V1 wx)
  case first =>
    refine wp_region_held_drew (S := (fun V => Below V1.heap.size V1 V)) (by kernel_rfl) ((Below.refl _ _).drew) (fun hHeld => ?_)
    generalize V1.drew = Y0 at *
    refine take_op (i := 0) (d := 23) (v := .agg (ctC lo hi wi st de ca)) rfl rfl (by kernel_rfl) (by kernel_rfl) (by kernel_rfl) (fun _ _ _ h => h) (yields_row (by rfl) 27 (.tmp 4) (by rfl) w.heap.size 0 6 (by rfl) 27 (ctC lo hi wi st de ca) (0, 0) _ (fun _ h => below_row h H0.out) Try.underlying27 rfl info_ct (ct_fits _ _ _ _ _ _) (ctC lo hi wi st de ca) (ct_all _ _ _ _ _ _)) hHeld ?_
    simp only [List.setIfInBounds_toArray, List.set_cons_zero, List.set_cons_succ]
    refine take_op (i := 1) (d := 24) (v := .agg (blindC n wd gp t sh)) rfl rfl (by kernel_rfl) (by kernel_rfl) (by kernel_rfl) (fun _ _ _ h => h) (yields_row (by rfl) 49 (.tmp 5) (by rfl) b1 0 5 (by rfl) 49 (blindC n wd gp t sh) (0, 0) _ (fun _ h => below_row h H1.out) Try.underlying49 rfl info_blind (blind_fits _ _ _ _ _) (blindC n wd gp t sh) (blind_all _ _ _ _ _)) hHeld ?_
    simp only [List.setIfInBounds_toArray, List.set_cons_zero, List.set_cons_succ]
    refine take_op (i := 3) (d := 26) (v := .agg (saC ti wt sm)) rfl rfl (by kernel_rfl) (by kernel_rfl) (by kernel_rfl) (fun _ _ _ h => h) (yields_row (by rfl) 34 (.tmp 6) (by rfl) b2 0 3 (by rfl) 34 (saC ti wt sm) (0, 0) _ (fun _ h => below_row h H2.out) Try.underlying34 rfl info_sa (sa_fits _ _ _) (saC ti wt sm) (sa_all _ _ _)) hHeld ?_
    simp only [List.setIfInBounds_toArray, List.set_cons_zero, List.set_cons_succ]
    refine take_op (i := 4) (d := 27) (v := .agg (tkC lg gu hg)) rfl rfl (by kernel_rfl) (by kernel_rfl) (by kernel_rfl) (fun _ _ _ h => h) (yields_row (by rfl) 40 (.tmp 7) (by rfl) b3 0 3 (by rfl) 40 (tkC lg gu hg) (0, 0) _ (fun _ h => below_row h H3.out) Try.underlying40 rfl info_tk (tk_fits _ _ _) (tkC lg gu hg) (tk_all _ _ _)) hHeld ?_
    simp only [List.setIfInBounds_toArray, List.set_cons_zero, List.set_cons_succ]
    refine wpAnyH_ready (rs := [2, 6]) (by kernel_rfl) (by simp) ?_
    refine AllReadyH.cons rfl (fun K hK => ?_) (AllReadyH.cons rfl (fun K hK => ?_) AllReadyH.nil)
    · go_simp
      refine (controllerOf_any lo hi wi st de ca n wd gp t sh _).mono ?_
      rintro e Y1 ⟨rfl, hb1⟩
      refine hK.out _ _ (hHeld.trans (hb1.mono hHeld.size)) (fun hHeld2 => ?_)
      clear hK K
      replace hHeld := hHeld2
      clear hHeld2
      clear hb1
      refine wpAnyH_ready (rs := [5, 6]) (by kernel_rfl) (by simp) ?_
      refine AllReadyH.cons rfl (fun K hK => ?_) (AllReadyH.cons rfl (fun K hK => ?_) AllReadyH.nil)
      · go_simp
        refine (HA.out _).mono ?_
        rintro e Y2 ⟨rfl, hb1⟩
        refine hK.out _ _ (hHeld.trans (hb1.mono hHeld.size)) (fun hHeld2 => ?_)
        clear hK K
        replace hHeld := hHeld2
        clear hHeld2
        clear hb1
        refine wpAnyH_ready (rs := [6]) (by kernel_rfl) (by simp) ?_
        refine AllReadyH.cons rfl (fun K hK => ?_) AllReadyH.nil
        go_simp
        obtain ⟨bb, hbq⟩ : ∃ bb, bb = Y2.heap.size := ⟨_, rfl⟩
        rw [← hbq]
        refine hK.out _ (Y2.alloc (.cells (outC 0 0 0 0) 97 (0, 0))) (hHeld.alloc hHeld.size _) (fun hHeld2 => ?_)
        have HB : Hid ((Y2.alloc (.cells (outC 0 0 0 0) 97 (0, 0))).heap[bb]? = some (.cells (outC 0 0 0 0) 97 (0, 0))) := Lib.hid (by rw [hbq]; exact heap_alloc_new _ _)
        have hbb : V1.heap.size ≤ bb := by rw [hbq]; exact hHeld.size
        clear hK K hHeld hbq
        have hHeld := hHeld2
        clear hHeld2
        generalize (Y2.alloc (.cells (outC 0 0 0 0) 97 (0, 0))) = Y3 at *
        have hst := run_store_row5 (P := Try.prog) _ bb 97 (outC t1 w1 s1 l1) _ HB.out rfl (out_one _ _ _ _)
        refine wpAnyH_ready (rs := [7]) (by kernel_rfl) (by simp) ?_
        refine AllReadyH.cons rfl (fun K hK => ?_) AllReadyH.nil
        go_simp
        refine hK.out _ _ (below_setRow hHeld hbb _) (fun hHeld2 => ?_)
        clear hK K hst
        have HB2 := Lib.hid (setRow_heap _ _ _ (outC t1 w1 s1 l1) _ _ HB.out)
        clear hHeld HB
        have hHeld := hHeld2
        clear hHeld2
        refine wpAnyH_done (by kernel_rfl) ?_ _
        go_wp2
        go_meet
        case rel => exact ⟨bb, rfl, hbb, HB2.out, hHeld⟩
      · go_simp
        obtain ⟨bb, hbq⟩ : ∃ bb, bb = Y1.heap.size := ⟨_, rfl⟩
        rw [← hbq]
        refine hK.out _ (Y1.alloc (.cells (outC 0 0 0 0) 97 (0, 0))) (hHeld.alloc hHeld.size _) (fun hHeld2 => ?_)
        have HB : Hid ((Y1.alloc (.cells (outC 0 0 0 0) 97 (0, 0))).heap[bb]? = some (.cells (outC 0 0 0 0) 97 (0, 0))) := Lib.hid (by rw [hbq]; exact heap_alloc_new _ _)
        have hbb : V1.heap.size ≤ bb := by rw [hbq]; exact hHeld.size
        clear hK K hHeld hbq
        have hHeld := hHeld2
        clear hHeld2
        generalize (Y1.alloc (.cells (outC 0 0 0 0) 97 (0, 0))) = Y4 at *
        refine wpAnyH_ready (rs := [5]) (by kernel_rfl) (by simp) ?_
        refine AllReadyH.cons rfl (fun K hK => ?_) AllReadyH.nil
        go_simp
        refine (HA.out _).mono ?_
        rintro e Y5 ⟨rfl, hb1⟩
        refine hK.out _ _ (hHeld.trans (hb1.mono hHeld.size)) (fun hHeld2 => ?_)
        clear hK K
        replace hHeld := hHeld2
        clear hHeld2
        replace HB := Lib.hid (below_row hb1 HB.out)
        clear hb1
        have hst := run_store_row5 (P := Try.prog) _ bb 97 (outC t1 w1 s1 l1) _ HB.out rfl (out_one _ _ _ _)
        refine wpAnyH_ready (rs := [7]) (by kernel_rfl) (by simp) ?_
        refine AllReadyH.cons rfl (fun K hK => ?_) AllReadyH.nil
        go_simp
        refine hK.out _ _ (below_setRow hHeld hbb _) (fun hHeld2 => ?_)
        clear hK K hst
        have HB2 := Lib.hid (setRow_heap _ _ _ (outC t1 w1 s1 l1) _ _ HB.out)
        clear hHeld HB
        have hHeld := hHeld2
        clear hHeld2
        refine wpAnyH_done (by kernel_rfl) ?_ _
        go_wp2
        go_meet
        case rel => exact ⟨bb, rfl, hbb, HB2.out, hHeld⟩
    · go_simp
      obtain ⟨bb, hbq⟩ : ∃ bb, bb = Y0.heap.size := ⟨_, rfl⟩
      rw [← hbq]
      refine hK.out _ (Y0.alloc (.cells (outC 0 0 0 0) 97 (0, 0))) (hHeld.alloc hHeld.size _) (fun hHeld2 => ?_)
      have HB : Hid ((Y0.alloc (.cells (outC 0 0 0 0) 97 (0, 0))).heap[bb]? = some (.cells (outC 0 0 0 0) 97 (0, 0))) := Lib.hid (by rw [hbq]; exact heap_alloc_new _ _)
      have hbb : V1.heap.size ≤ bb := by rw [hbq]; exact hHeld.size
      clear hK K hHeld hbq
      have hHeld := hHeld2
      clear hHeld2
      generalize (Y0.alloc (.cells (outC 0 0 0 0) 97 (0, 0))) = Y6 at *
      refine wpAnyH_ready (rs := [2]) (by kernel_rfl) (by simp) ?_
      refine AllReadyH.cons rfl (fun K hK => ?_) AllReadyH.nil
      go_simp
      refine (controllerOf_any lo hi wi st de ca n wd gp t sh _).mono ?_
      rintro e Y7 ⟨rfl, hb1⟩
      refine hK.out _ _ (hHeld.trans (hb1.mono hHeld.size)) (fun hHeld2 => ?_)
      clear hK K
      replace hHeld := hHeld2
      clear hHeld2
      replace HB := Lib.hid (below_row hb1 HB.out)
      clear hb1
      refine wpAnyH_ready (rs := [5]) (by kernel_rfl) (by simp) ?_
      refine AllReadyH.cons rfl (fun K hK => ?_) AllReadyH.nil
      go_simp
      refine (HA.out _).mono ?_
      rintro e Y8 ⟨rfl, hb1⟩
      refine hK.out _ _ (hHeld.trans (hb1.mono hHeld.size)) (fun hHeld2 => ?_)
      clear hK K
      replace hHeld := hHeld2
      clear hHeld2
      replace HB := Lib.hid (below_row hb1 HB.out)
      clear hb1
      have hst := run_store_row5 (P := Try.prog) _ bb 97 (outC t1 w1 s1 l1) _ HB.out rfl (out_one _ _ _ _)
      refine wpAnyH_ready (rs := [7]) (by kernel_rfl) (by simp) ?_
      refine AllReadyH.cons rfl (fun K hK => ?_) AllReadyH.nil
      go_simp
      refine hK.out _ _ (below_setRow hHeld hbb _) (fun hHeld2 => ?_)
      clear hK K hst
      have HB2 := Lib.hid (setRow_heap _ _ _ (outC t1 w1 s1 l1) _ _ HB.out)
      clear hHeld HB
      have hHeld := hHeld2
      clear hHeld2
      refine wpAnyH_done (by kernel_rfl) ?_ _
      go_wp2
      go_meet
      case rel => exact ⟨bb, rfl, hbb, HB2.out, hHeld⟩
  case rest =>
    obtain ⟨bo, rfl, hbo, ho, hbx⟩ := hcut
    replace H4 := Lib.hid (below_row hbx H4.out)
    replace hb := hb.trans (hbx.mono hb.size)
    have HO := Lib.hid ho
    clear ho hbx H0 H1 H2 H3 HC HA
    go_upto_region 5 with (fail)
    refine wp_region_held_drew (S := (fun X => X.heap[bo]? = some (.cells (outC t1 w1 s1 l1) 97 (0, 0)) ∧ (∃ old : Array Value, X.heap[b4]? = some (.cells old 34 (0, 0)) ∧ old.size = 3) ∧ Below w.heap.size w X)) (by kernel_rfl) ⟨HO.out, ⟨_, H4.out, rfl⟩, hb.drew⟩ (fun hHeld => ?_)
    refine take_op (i := 0) (d := 29) (v := ?_) rfl rfl (by kernel_rfl) (by kernel_rfl) (by kernel_rfl) (fun _ _ _ h => h) (Or.inl ⟨by rfl, ?hy0u48⟩) hHeld ?rest0u48
    case hy0u48 =>
      intro w' hS'
      go_simp
      try with_reducible rfl
    simp only [List.setIfInBounds_toArray, List.set_cons_zero, List.set_cons_succ]
    refine take_op (i := 1) (d := 30) (v := .agg (saC t1 w1 s1)) rfl rfl (by kernel_rfl) (by kernel_rfl) (by kernel_rfl) (fun _ _ _ h => h) (yields_row (by rfl) 34 (.tmp 29) (by rfl) bo 0 3 (by rfl) 97 (outC t1 w1 s1 l1) (0, 0) _ (fun _ h => h.1) Try.underlying34 rfl info_sa (out_fits3 _ _ _ _) (saC t1 w1 s1) (out_sa _ _ _ _)) hHeld ?_
    simp only [List.setIfInBounds_toArray, List.set_cons_zero, List.set_cons_succ]
    refine take_op (i := 2) (d := 31) (v := ?_) rfl rfl (by kernel_rfl) (by kernel_rfl) (by kernel_rfl) (fun _ _ _ h => h) (Or.inl ⟨by rfl, ?hy2u49⟩) hHeld ?rest2u49
    case hy2u49 =>
      intro w' hS'
      go_simp
      try with_reducible rfl
    simp only [List.setIfInBounds_toArray, List.set_cons_zero, List.set_cons_succ]
    refine take_op (i := 3) (d := 32) (v := ?_) rfl rfl (by kernel_rfl) (by kernel_rfl) (by kernel_rfl) (fun _ _ _ h => h) (Or.inl ⟨by rfl, ?hy3u50⟩) hHeld ?rest3u50
    case hy3u50 =>
      intro w' hS'
      have ko := out_cells hS'.1
      go_simp
      try with_reducible rfl
    simp only [List.setIfInBounds_toArray, List.set_cons_zero, List.set_cons_succ]
    obtain ⟨old, hold, hos⟩ := hHeld.2.1
    have hst := run_store_row5 (P := Try.prog) _ b4 34 (saC t1 w1 s1) _ hold (hos.trans rfl) (sa_one _ _ _)
    refine wpAnyH_ready (rs := [4]) (by kernel_rfl) (by simp) ?_
    refine AllReadyH.cons rfl (fun K hK => ?_) AllReadyH.nil
    go_simp
    refine hK.out _ _ (⟨(setRow_other _ _ _ _ (by omega)).trans hHeld.1, ⟨_, setRow_heap _ _ _ _ _ _ hold, rfl⟩, below_setRow hHeld.2.2 (by omega) _⟩) (fun hHeld2 => ?_)
    clear hK K hst
    have hd := setRow_heap _ _ _ (saC t1 w1 s1) _ _ hold
    clear hHeld
    have hHeld := hHeld2
    clear hHeld2
    refine take_op (i := 5) (d := 9) (v := ?_) rfl rfl (by kernel_rfl) (by kernel_rfl) (by kernel_rfl) (fun _ _ _ h => h) (Or.inl ⟨by rfl, ?hy5u51⟩) hHeld ?rest5u51
    case hy5u51 =>
      intro w' hS'
      go_simp
      try with_reducible rfl
    refine take_op (i := 6) (d := 10) (v := ?_) rfl rfl (by kernel_rfl) (by kernel_rfl) (by kernel_rfl) (fun _ _ _ h => h) (Or.inl ⟨by rfl, ?hy6u52⟩) hHeld ?rest6u52
    case hy6u52 =>
      intro w' hS'
      go_simp
      try with_reducible rfl
    refine wpAnyH_done (by kernel_rfl) ?_ _
    go_wp2
    exact bodyPost_ret (results_sa2 rfl _ _ b4 _ _ _ rfl hd) rfl ⟨rfl, hHeld.2.2⟩

set_option maxRecDepth 100000 in
set_option maxHeartbeats 1000000 in
theorem sTickOnce_yes (lo : Nat) (hi : Nat) (wi : Nat) (st : Int) (de : Int) (ca : Int) (cw : CtWf lo hi wi st de ca) (n : Int) (wd gp : Nat) (t : Int) (sh : Nat) (bw : BlWf n wd gp t sh) (ti : Int) (wt : Int) (sm : Int) (sw : SaWf ti wt sm) (lg : Nat) (gu : Nat) (hg : Int) (kw : TkWf lg gu hg) (hc : codeO lo hi wi st de ca n wd gp t sh ti wt sm lg gu hg = 0) (t1 w1 s1 : Int) (l1 : Nat) (ha : aftB lo hi wi st de ca wd gp sh ti wt sm lg gu hg = (t1, w1, s1, l1)) (w : World) :
    Calls Try.prog 30 #[.agg (ctC lo hi wi st de ca), .agg (blindC n wd gp t sh), .agg (saC ti wt sm), .agg (tkC lg gu hg)] w fun e w' => e = .returned (.tuple #[.agg (saC t1 w1 s1), .float .f32 l1, .int .i64 0]) ∧ Below w.heap.size w w' := by
  obtain ⟨kc, kb, ks, kk⟩ := codeO_zero hc
  have ok := blok_of bw kb
  have co := ctok_of cw kc
  have so := saok_of ks
  have ko := tkok_of kw kk
  have HC := Lib.hid (fun (W : World) (g1 g2 g3 : Nat) h1 h2 h3 hq => asO lo hi wi st de ca cw n wd gp t sh bw ti wt sm sw lg gu hg kw 0 hc g1 g2 g3 W.heap.size 27 49 34 40 (0, 0) (0, 0) (0, 0) (0, 0) (W.alloc (.cells (tkC lg gu hg) 40)) h1 h2 h3 hq)
  have HA := Lib.hid (fun (g1 g2 : Nat) w h1 h2 => l05Once_any lo hi wi st de ca n wd gp t sh ti wt sm lg gu hg ok co ko so t1 w1 s1 l1 ha g1 g2 0 27 (0, 0) w h1 h2)
  clear cw bw sw kw hc kc kb ks kk ok co so ko ha
  go_enter Try.func30, Try.ntmps30
  go_upto_region 1 with (fail)
  refine abs_world (fun W => W.heap[w.heap.size]? = some (.cells (ctC lo hi wi st de ca) 27 (0, 0)) ∧ W.heap[w.heap.size + 1]? = some (.cells (blindC n wd gp t sh) 49 (0, 0)) ∧ W.heap[w.heap.size + 1 + 1]? = some (.cells (saC ti wt sm) 34 (0, 0)) ∧ W.heap[w.heap.size + 1 + 1 + 1]? = some (.cells (tkC lg gu hg) 40 (0, 0)) ∧ W.heap[w.heap.size + 1 + 1 + 1 + 1]? = some (.cells (saC 0 0 0) 34 (0, 0)) ∧ Below w.heap.size w W) (box5 w (.cells (ctC lo hi wi st de ca) 27) (.cells (blindC n wd gp t sh) 49) (.cells (saC ti wt sm) 34) (.cells (tkC lg gu hg) 40) (.cells (saC 0 0 0) 34)) ?_
  rintro W ⟨h0, h1, h2, h3, h4, hb⟩
  have hl1 : w.heap.size < w.heap.size + 1 := by omega
  have hl2 : w.heap.size + 1 < w.heap.size + 1 + 1 := by omega
  have hl3 : w.heap.size + 1 + 1 < w.heap.size + 1 + 1 + 1 := by omega
  have hl4 : w.heap.size + 1 + 1 + 1 < w.heap.size + 1 + 1 + 1 + 1 := by omega
  generalize w.heap.size + 1 + 1 + 1 + 1 = b4 at *
  generalize w.heap.size + 1 + 1 + 1 = b3 at *
  generalize w.heap.size + 1 + 1 = b2 at *
  generalize w.heap.size + 1 = b1 at *
  have H0 := Lib.hid h0
  have H1 := Lib.hid h1
  have H2 := Lib.hid h2
  have H3 := Lib.hid h3
  have H4 := Lib.hid h4
  clear h0 h1 h2 h3 h4
  go_upto_region 4 with (first | (refine wpList_load_part rfl 27 _ rfl w.heap.size 0 6 rfl 27 (ctC lo hi wi st de ca) (0, 0) _ H0.out Try.underlying27 rfl info_ct (ct_fits _ _ _ _ _ _) _ (ct_all _ _ _ _ _ _) ?_) | (refine wpList_load_part rfl 49 _ rfl b1 0 5 rfl 49 (blindC n wd gp t sh) (0, 0) _ H1.out Try.underlying49 rfl info_blind (blind_fits _ _ _ _ _) _ (blind_all _ _ _ _ _) ?_) | (refine wpList_load_part rfl 34 _ rfl b2 0 3 rfl 34 (saC ti wt sm) (0, 0) _ H2.out Try.underlying34 rfl info_sa (sa_fits _ _ _) _ (sa_all _ _ _) ?_) | (refine wpList_load_part rfl 40 _ rfl b3 0 3 rfl 40 (tkC lg gu hg) (0, 0) _ H3.out Try.underlying40 rfl info_tk (tk_fits _ _ _) _ (tk_all _ _ _) ?_) | (refine wpList_buildSlice5 rfl 92 40 1 _ rfl _ rfl _ rfl Try.underlying92 (tkC lg gu hg) [(0, .agg (tkC lg gu hg))] rfl (built_tks lg gu hg) ?_) | (go_at_call 61; refine (HC.out _ _ _ _ (below_row ((Below.refl W.heap.size W).alloc (Nat.le_refl _) _) H0.out) (below_row ((Below.refl W.heap.size W).alloc (Nat.le_refl _) _) H1.out) (below_row ((Below.refl W.heap.size W).alloc (Nat.le_refl _) _) H2.out) (heap_alloc_new _ _)).mono ?_; rintro e V1 ⟨rfl, hq1⟩; replace hq1 := ((Below.refl W.heap.size W).alloc (Nat.le_refl _) (.cells (tkC lg gu hg) 40)).trans (hq1.mono (by simp)); replace H0 := Lib.hid (below_row hq1 H0.out); replace H1 := Lib.hid (below_row hq1 H1.out); replace H2 := Lib.hid (below_row hq1 H2.out); replace H3 := Lib.hid (below_row hq1 H3.out); replace H4 := Lib.hid (below_row hq1 H4.out); replace hb := hb.trans (hq1.mono hb.size); clear hq1))
  go_upto_region 5 with (first | (refine wpList_load_part rfl 27 _ rfl w.heap.size 0 6 rfl 27 (ctC lo hi wi st de ca) (0, 0) _ H0.out Try.underlying27 rfl info_ct (ct_fits _ _ _ _ _ _) _ (ct_all _ _ _ _ _ _) ?_) | (refine wpList_load_part rfl 49 _ rfl b1 0 5 rfl 49 (blindC n wd gp t sh) (0, 0) _ H1.out Try.underlying49 rfl info_blind (blind_fits _ _ _ _ _) _ (blind_all _ _ _ _ _) ?_) | (refine wpList_load_part rfl 34 _ rfl b2 0 3 rfl 34 (saC ti wt sm) (0, 0) _ H2.out Try.underlying34 rfl info_sa (sa_fits _ _ _) _ (sa_all _ _ _) ?_) | (refine wpList_load_part rfl 40 _ rfl b3 0 3 rfl 40 (tkC lg gu hg) (0, 0) _ H3.out Try.underlying40 rfl info_tk (tk_fits _ _ _) _ (tk_all _ _ _) ?_) | (go_at_call 62; refine (HA.out _ _ _ H0.out (tk_cells H3.out)).mono ?_; rintro e V2 ⟨rfl, hq2⟩; replace H0 := Lib.hid (below_row hq2 H0.out); replace H1 := Lib.hid (below_row hq2 H1.out); replace H2 := Lib.hid (below_row hq2 H2.out); replace H3 := Lib.hid (below_row hq2 H3.out); replace H4 := Lib.hid (below_row hq2 H4.out); replace hb := hb.trans (hq2.mono hb.size); clear hq2) | (refine wpList_store_part rfl 34 _ _ rfl V2.heap.size 0 (saC t1 w1 s1) rfl rfl 34 (saC 0 0 0) (heap_alloc_new _ _) info_sa (Nat.le_refl _) (sa_one _ _ _) ?_; rw [laid_all5 (saC 0 0 0) (saC t1 w1 s1) rfl]))
  have l4 := row_lt H4.out
  have hba : Below w.heap.size w (V2.alloc (.cells (saC 0 0 0) 34)) := hb.alloc hb.size _
  refine abs_world (fun V => V.heap[b4]? = some (.cells (saC 0 0 0) 34 (0, 0)) ∧ V.heap[V2.heap.size]? = some (.cells (saC t1 w1 s1) 34 (0, 0)) ∧ Below w.heap.size w V) ⟨(setRow_other _ _ _ _ (by omega)).trans (below_row ((Below.refl _ _).alloc (Nat.le_refl _) _) H4.out), setRow_heap _ _ _ _ _ _ (heap_alloc_new _ _), below_setRow hba hb.size _⟩ ?_
  clear H0 H1 H2 H3 H4 hb hba
  rintro V3 ⟨q4, qn, hb⟩
  have K4 := Lib.hid q4
  have KN := Lib.hid qn
  clear q4 qn
  generalize V2.heap.size = bn at *
  go_wp2_with (first | (refine wpList_load_part rfl 34 _ rfl bn 0 3 rfl 34 (saC t1 w1 s1) (0, 0) _ KN.out Try.underlying34 rfl info_sa (sa_fits _ _ _) _ (sa_all _ _ _) ?_) | (refine wpList_store_part rfl 34 _ _ rfl b4 0 (saC t1 w1 s1) rfl rfl 34 (saC 0 0 0) K4.out info_sa (Nat.le_refl _) (sa_one _ _ _) ?_; rw [laid_all5 (saC 0 0 0) (saC t1 w1 s1) rfl]))
  exact bodyPost_ret (results_sa2 rfl _ _ b4 _ _ _ rfl (setRow_heap _ _ _ _ _ _ K4.out)) rfl ⟨rfl, below_setRow hb (by omega) _⟩

end Go.Proofs.Ytelgcggcmjdhjaa
