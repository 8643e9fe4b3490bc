/-
  A state that becomes steady: the model's.

-/
import Derived.Test.YtddnfbpgldchcaaGreatDoorCoF

namespace Go.Proofs.YtddnfbpgldchcaaGreatDoor

open Go.ChangeShapes Go.WideShapes Go.ChangeAt Go.RowKit Go.Deep Go.Joins

attribute [local go_sem] run_store_f

set_option maxRecDepth 100000 in
set_option maxHeartbeats 8000000 in
theorem sSteadyFrom_yes (lo : Nat) (hi : Nat) (wi : Nat) (st : Int) (de : Int) (ca : Int) (cw : CtWf lo hi wi st de ca) (n : Int) (wd gp : Nat) (t : Int) (sh : Nat) (bw : BlWf n wd gp t sh) (ti : Int) (wt : Int) (sm : Int) (sw : SaWf ti wt sm) (lg : Nat) (gu : Nat) (hg : Int) (kw : TkWf lg gu hg) (hc : codeO lo hi wi st de ca n wd gp t sh ti wt sm lg gu hg = 0) (R : St × Int × Int) (hR : R = ansS (nxS lo hi wi st de ca wd gp sh lg gu hg) (ti, wt, sm) (srchS (stdS (nxS lo hi wi st de ca wd gp sh lg gu hg) (ti, wt, sm)) 101 0)) (w : World) :
    Calls Tryz.prog 18 #[.agg (ctC lo hi wi st de ca), .agg (blindC n wd gp t sh), .agg (saC ti wt sm), .agg (tkC lg gu hg)] w fun e w' => e = .returned (.tuple #[.agg (saC R.1.1 R.1.2.1 R.1.2.2), .int .i64 R.2.1, .int .i64 R.2.2]) ∧ Below w.heap.size w w' := by
  obtain ⟨kc, kb, ks, kk⟩ := codeO_zero hc
  have ok := blok_of bw kb
  have co := ctok_of cw kc
  have so := saok_of ks
  have ko := tkok_of kw kk
  have HC := Lib.hid (fun (W : World) (g1 g2 g3 : Nat) h1 h2 h3 hq => asO lo hi wi st de ca cw n wd gp t sh bw ti wt sm sw lg gu hg kw 0 hc g1 g2 g3 W.heap.size 40 32 43 47 (0, 0) (0, 0) (0, 0) (0, 0) (W.alloc (.cells (tkC lg gu hg) 47)) h1 h2 h3 hq)
  have HA := Lib.hid (fun (s : St) (so : SaOk s.1 s.2.1 s.2.2) t1 w1 s1 l1 ha (g1 g2 : Nat) (W : World) h1 h2 => l05Once_any lo hi wi st de ca n wd gp t sh s.1 s.2.1 s.2.2 lg gu hg ok co ko so t1 w1 s1 l1 ha g1 g2 0 40 (0, 0) W h1 h2)
  have HIT := Lib.hid (it_ok co wd gp sh lg gu hg (ti, wt, sm) so)
  obtain ⟨F, hF⟩ : ∃ F, F = (nxS lo hi wi st de ca wd gp sh lg gu hg) := ⟨_, rfl⟩
  obtain ⟨s0, hs0⟩ : ∃ s0 : St, s0 = (ti, wt, sm) := ⟨_, rfl⟩
  have HN : Hid (∀ s, ((aftB lo hi wi st de ca wd gp sh s.1 s.2.1 s.2.2 lg gu hg).1, (aftB lo hi wi st de ca wd gp sh s.1 s.2.1 s.2.2 lg gu hg).2.1, (aftB lo hi wi st de ca wd gp sh s.1 s.2.1 s.2.2 lg gu hg).2.2.1) = F s) := by subst hF; exact fun _ => rfl
  rw [← hF, ← hs0] at hR HIT
  have HS0 : Hid (itS F s0 0 = (ti, wt, sm)) := hs0
  have HR0 := Lib.hid hR
  clear hF hs0 hR
  clear cw bw sw kw hc kc kb ks kk ok co so ko
  go_enter Tryz.func18, Tryz.ntmps18
  go_upto_region 1 with (fail)
  refine abs_world (fun W => W.heap[w.heap.size]? = some (.cells (ctC lo hi wi st de ca) 40 (0, 0)) ∧ W.heap[w.heap.size + 1]? = some (.cells (blindC n wd gp t sh) 32 (0, 0)) ∧ W.heap[w.heap.size + 1 + 1]? = some (.cells (saC ti wt sm) 43 (0, 0)) ∧ W.heap[w.heap.size + 1 + 1 + 1]? = some (.cells (tkC lg gu hg) 47 (0, 0)) ∧ W.heap[w.heap.size + 1 + 1 + 1 + 1]? = some (.cells (saC 0 0 0) 43 (0, 0)) ∧ Below w.heap.size w W) (box5 w (.cells (ctC lo hi wi st de ca) 40) (.cells (blindC n wd gp t sh) 32) (.cells (saC ti wt sm) 43) (.cells (tkC lg gu hg) 47) (.cells (saC 0 0 0) 43)) ?_
  rintro W ⟨h0, h1, h2, h3, h4, hb⟩
  have hl1 : w.heap.size < w.heap.size + 1 := by omega
  have hl2 : w.heap.size + 1 < w.heap.size + 1 + 1 := by omega
  have hl3 : w.heap.size + 1 + 1 < w.heap.size + 1 + 1 + 1 := by omega
  have hl4 : w.heap.size + 1 + 1 + 1 < w.heap.size + 1 + 1 + 1 + 1 := by omega
  generalize w.heap.size + 1 + 1 + 1 + 1 = b4 at *
  generalize w.heap.size + 1 + 1 + 1 = b3 at *
  generalize w.heap.size + 1 + 1 = b2 at *
  generalize w.heap.size + 1 = b1 at *
  have H0 := Lib.hid h0
  have H1 := Lib.hid h1
  have H2 := Lib.hid h2
  have H3 := Lib.hid h3
  have H4 := Lib.hid h4
  clear h0 h1 h2 h3 h4
  go_upto_region 4 with (first | (refine wpList_load_part rfl 40 _ rfl w.heap.size 0 6 rfl 40 (ctC lo hi wi st de ca) (0, 0) _ H0.out Tryz.underlying40 rfl info_ct (ct_fits _ _ _ _ _ _) _ (ct_all _ _ _ _ _ _) ?_) | (refine wpList_load_part rfl 32 _ rfl b1 0 5 rfl 32 (blindC n wd gp t sh) (0, 0) _ H1.out Tryz.underlying32 rfl info_blind (blind_fits _ _ _ _ _) _ (blind_all _ _ _ _ _) ?_) | (refine wpList_load_part rfl 43 _ rfl b2 0 3 rfl 43 (saC ti wt sm) (0, 0) _ H2.out Tryz.underlying43 rfl info_sa (sa_fits _ _ _) _ (sa_all _ _ _) ?_) | (refine wpList_load_part rfl 47 _ rfl b3 0 3 rfl 47 (tkC lg gu hg) (0, 0) _ H3.out Tryz.underlying47 rfl info_tk (tk_fits _ _ _) _ (tk_all _ _ _) ?_) | (refine wpList_buildSlice5 rfl 109 47 1 _ rfl _ rfl _ rfl Tryz.underlying109 (tkC lg gu hg) [(0, .agg (tkC lg gu hg))] rfl (built_tks lg gu hg) ?_) | (go_at_call 62; refine (HC.out _ _ _ _ (below_row ((Below.refl W.heap.size W).alloc (Nat.le_refl _) _) H0.out) (below_row ((Below.refl W.heap.size W).alloc (Nat.le_refl _) _) H1.out) (below_row ((Below.refl W.heap.size W).alloc (Nat.le_refl _) _) H2.out) (heap_alloc_new _ _)).mono ?_; rintro e V1 ⟨rfl, hq1⟩; replace hq1 := ((Below.refl W.heap.size W).alloc (Nat.le_refl _) (.cells (tkC lg gu hg) 47)).trans (hq1.mono (by simp)); replace H0 := Lib.hid (below_row hq1 H0.out); replace H1 := Lib.hid (below_row hq1 H1.out); replace H2 := Lib.hid (below_row hq1 H2.out); replace H3 := Lib.hid (below_row hq1 H3.out); replace H4 := Lib.hid (below_row hq1 H4.out); replace hb := hb.trans (hq1.mono hb.size); clear hq1))
  clear HC
  go_wp2
  go_loopw [12] (fun i V => ∃ k : Nat, k ≤ 101 ∧ i = .int .i64 k ∧ R = ansS F s0 (srchS (stdS F s0) (101 - k) k) ∧ V.heap[w.heap.size]? = some (.cells (ctC lo hi wi st de ca) 40 (0, 0)) ∧ V.heap[b1]? = some (.cells (blindC n wd gp t sh) 32 (0, 0)) ∧ V.heap[b2]? = some (.cells (saC (itS F s0 k).1 (itS F s0 k).2.1 (itS F s0 k).2.2) 43 (0, 0)) ∧ V.heap[b3]? = some (.cells (tkC lg gu hg) 47 (0, 0)) ∧ V.heap[b4]? = some (.cells (saC 0 0 0) 43 (0, 0)) ∧ Below w.heap.size w V) (fun i _ => 101 - (intOf i).toNat)
  case atStart => exact ⟨0, by decide, rfl, HR0.out, H0.out, H1.out, by rw [HS0.out]; exact H2.out, H3.out, H4.out, hb⟩
  case round =>
    clear H0 H1 H2 H3 H4 hb HS0 HR0
    obtain ⟨k, hk, rfl, hr, q0, q1, q2, q3, q4, hb⟩ := hrel
    by_cases hlt : k ≤ 100
    · have so := HIT.out k
      have hnext := HN.out (itS F s0 k)
      have hst0 : stdS F s0 k = ((F (itS F s0 k)).1 == (itS F s0 k).1 && ((F (itS F s0 k)).2.1 == (itS F s0 k).2.1 && (F (itS F s0 k)).2.2 == (itS F s0 k).2.2)) := rfl
      have hit1 : itS F s0 (k + 1) = F (itS F s0 k) := rfl
      have hans : ansS F s0 (some k) = (itS F s0 k, (k : Int), 0) := rfl
      obtain ⟨t1, w1, s1, l1, ha⟩ : ∃ t1 w1 s1 l1, aftB lo hi wi st de ca wd gp sh (itS F s0 k).1 (itS F s0 k).2.1 (itS F s0 k).2.2 lg gu hg = (t1, w1, s1, l1) := ⟨_, _, _, _, rfl⟩
      have HB := Lib.hid (fun (g1 g2 : Nat) (W : World) h1 h2 => HA.out (itS F s0 k) so t1 w1 s1 l1 ha g1 g2 W h1 h2)
      rw [ha] at hnext
      generalize itS F s0 k = s at *
      obtain ⟨sx, sy, sz⟩ := s
      dsimp only at hnext hst0 hans so q2 HB
      rw [← hnext] at hst0 hit1
      dsimp only at hst0
      have H0 := Lib.hid q0
      have H1 := Lib.hid q1
      have H2 := Lib.hid q2
      have H3 := Lib.hid q3
      have H4 := Lib.hid q4
      have HRK := Lib.hid hr
      have HIT1 := Lib.hid hit1
      have HANS := Lib.hid hans
      have HST := Lib.hid hst0
      clear q0 q1 q2 q3 q4 hr so ha hnext hst0 hit1 hans HA HN HIT
      go_upto_region 8 with (first | (refine wpList_load_part rfl 40 _ rfl w.heap.size 0 6 rfl 40 (ctC lo hi wi st de ca) (0, 0) _ H0.out Tryz.underlying40 rfl info_ct (ct_fits _ _ _ _ _ _) _ (ct_all _ _ _ _ _ _) ?_) | (refine wpList_load_part rfl 32 _ rfl b1 0 5 rfl 32 (blindC n wd gp t sh) (0, 0) _ H1.out Tryz.underlying32 rfl info_blind (blind_fits _ _ _ _ _) _ (blind_all _ _ _ _ _) ?_) | (refine wpList_load_part rfl 43 _ rfl b2 0 3 rfl 43 (saC sx sy sz) (0, 0) _ H2.out Tryz.underlying43 rfl info_sa (sa_fits _ _ _) _ (sa_all _ _ _) ?_) | (refine wpList_load_part rfl 47 _ rfl b3 0 3 rfl 47 (tkC lg gu hg) (0, 0) _ H3.out Tryz.underlying47 rfl info_tk (tk_fits _ _ _) _ (tk_all _ _ _) ?_) | (go_at_call 63; refine (HB.out _ _ _ H0.out (tk_cells H3.out)).mono ?_; rintro e V1 ⟨rfl, hq1⟩; replace H0 := Lib.hid (below_row hq1 H0.out); replace H1 := Lib.hid (below_row hq1 H1.out); replace H2 := Lib.hid (below_row hq1 H2.out); replace H3 := Lib.hid (below_row hq1 H3.out); replace H4 := Lib.hid (below_row hq1 H4.out); replace hb := hb.trans (hq1.mono hb.size); clear hq1) | (refine wpList_store_part rfl 43 _ _ rfl V1.heap.size 0 (saC t1 w1 s1) rfl rfl 43 (saC 0 0 0) (heap_alloc_new _ _) info_sa (Nat.le_refl _) (sa_one _ _ _) ?_; rw [laid_all5 (saC 0 0 0) (saC t1 w1 s1) rfl]))
      have l0 := row_lt H0.out
      have l4 := row_lt H4.out
      have hba : Below w.heap.size w (V1.alloc (.cells (saC 0 0 0) 43)) := hb.alloc hb.size _
      refine abs_world (fun V => V.heap[V1.heap.size]? = some (.cells (saC t1 w1 s1) 43 (0, 0)) ∧ V.heap[w.heap.size]? = some (.cells (ctC lo hi wi st de ca) 40 (0, 0)) ∧ V.heap[b1]? = some (.cells (blindC n wd gp t sh) 32 (0, 0)) ∧ V.heap[b2]? = some (.cells (saC sx sy sz) 43 (0, 0)) ∧ V.heap[b3]? = some (.cells (tkC lg gu hg) 47 (0, 0)) ∧ V.heap[b4]? = some (.cells (saC 0 0 0) 43 (0, 0)) ∧ Below w.heap.size w V) ⟨setRow_heap _ _ _ _ _ _ (heap_alloc_new _ _), (setRow_other _ _ _ _ (by omega)).trans (below_row ((Below.refl _ _).alloc (Nat.le_refl _) _) H0.out), (setRow_other _ _ _ _ (by omega)).trans (below_row ((Below.refl _ _).alloc (Nat.le_refl _) _) H1.out), (setRow_other _ _ _ _ (by omega)).trans (below_row ((Below.refl _ _).alloc (Nat.le_refl _) _) H2.out), (setRow_other _ _ _ _ (by omega)).trans (below_row ((Below.refl _ _).alloc (Nat.le_refl _) _) H3.out), (setRow_other _ _ _ _ (by omega)).trans (below_row ((Below.refl _ _).alloc (Nat.le_refl _) _) H4.out), below_setRow hba hb.size _⟩ ?_
      clear H0 H1 H2 H3 H4 hb hba HB
      rintro V2 ⟨qn, hrel⟩
      have KN := Lib.hid qn
      have HREL := Lib.hid hrel
      have K2 := Lib.hid hrel.2.2.1
      have K4 := Lib.hid hrel.2.2.2.2.1
      have hb := hrel.2.2.2.2.2
      clear qn hrel
      have lbn := row_lt KN.out
      generalize V1.heap.size = bn at *
      have hq := run_eql_sa t1 w1 s1 sx sy sz
      have hgd := fun w => run_eqGuard_agg (P := Tryz.prog) w .eql 43 (.tmp 32) (.tmp 33) (saC t1 w1 s1) (saC sx sy sz) (by kernel_rfl)
      cases hsd : (t1 == sx && (w1 == sy && s1 == sz)) with
      | true =>
        rw [hsd] at hq
        have HRk : Hid (R = ((sx, sy, sz), (k : Int), 0)) := by
          unfold Hid
          rw [HRK.out, srch_yes hlt (HST.out.trans hsd), HANS.out]
        clear hsd HRK HIT1 HANS HST HREL
        go_upto_region 9 with (first | (refine wpList_load_part rfl 43 _ rfl bn 0 3 rfl 43 (saC t1 w1 s1) (0, 0) _ KN.out Tryz.underlying43 rfl info_sa (sa_fits _ _ _) _ (sa_all _ _ _) ?_) | (refine wpList_load_part rfl 43 _ rfl b2 0 3 rfl 43 (saC sx sy sz) (0, 0) _ K2.out Tryz.underlying43 rfl info_sa (sa_fits _ _ _) _ (sa_all _ _ _) ?_))
        clear hq hgd
        go_wp2_with (first | (refine wpList_load_part rfl 43 _ rfl b2 0 3 rfl 43 (saC sx sy sz) (0, 0) _ K2.out Tryz.underlying43 rfl info_sa (sa_fits _ _ _) _ (sa_all _ _ _) ?_) | (refine wpList_store_part rfl 43 _ _ rfl b4 0 (saC sx sy sz) rfl rfl 43 (saC 0 0 0) K4.out info_sa (Nat.le_refl _) (sa_one _ _ _) ?_; rw [laid_all5 (saC 0 0 0) (saC sx sy sz) rfl]))
        exact bodyPost_ret (results_sa2 rfl _ _ b4 _ _ _ rfl (setRow_heap _ _ _ _ _ _ K4.out)) rfl ⟨Eq.trans (b := Ending.returned (.tuple #[.agg (saC sx sy sz), .int .i64 ((k : Int)), .int .i64 (0)])) rfl (congrArg (fun R : St × Int × Int => Ending.returned (.tuple #[.agg (saC R.1.1 R.1.2.1 R.1.2.2), .int .i64 R.2.1, .int .i64 R.2.2])) HRk.out).symm, below_setRow hb (by omega) _⟩
      | false =>
        rw [hsd] at hq
        have HRk : Hid (R = ansS F s0 (srchS (stdS F s0) (101 - (k + 1)) (k + 1))) := by
          unfold Hid
          rw [HRK.out]
          by_cases hk1 : k = 100
          · rw [srch_end hk1 (HST.out.trans hsd), hk1]; rfl
          · rw [srch_next (by omega) (HST.out.trans hsd)]
        clear hsd HRK HANS HST K4
        go_upto_region 10 with (first | (refine wpList_load_part rfl 43 _ rfl bn 0 3 rfl 43 (saC t1 w1 s1) (0, 0) _ KN.out Tryz.underlying43 rfl info_sa (sa_fits _ _ _) _ (sa_all _ _ _) ?_) | (refine wpList_load_part rfl 43 _ rfl b2 0 3 rfl 43 (saC sx sy sz) (0, 0) _ K2.out Tryz.underlying43 rfl info_sa (sa_fits _ _ _) _ (sa_all _ _ _) ?_))
        clear hq hgd
        go_wp2_with (first | (refine wpList_load_part rfl 43 _ rfl bn 0 3 rfl 43 (saC t1 w1 s1) (0, 0) _ KN.out Tryz.underlying43 rfl info_sa (sa_fits _ _ _) _ (sa_all _ _ _) ?_) | (refine wpList_store_part rfl 43 _ _ rfl b2 0 (saC t1 w1 s1) rfl rfl 43 (saC sx sy sz) K2.out info_sa (Nat.le_refl _) (sa_one _ _ _) ?_; rw [laid_all5 (saC sx sy sz) (saC t1 w1 s1) rfl]))
        go_roundw
        case rel =>
          refine ⟨k + 1, by omega, by go_num, HRk.out, ?_⟩
          rw [HIT1.out]
          exact ⟨(setRow_other _ _ _ _ (by omega)).trans HREL.out.1, (setRow_other _ _ _ _ (by omega)).trans HREL.out.2.1, setRow_heap _ _ _ _ _ _ K2.out, (setRow_other _ _ _ _ (by omega)).trans HREL.out.2.2.2.1, (setRow_other _ _ _ _ (by omega)).trans HREL.out.2.2.2.2.1, below_setRow hb (by omega) _⟩
        case measure => simp [intOf]; omega
    · obtain rfl : k = 101 := by omega
      have HRk : Hid (R = ((0, 0, 0), 0, 6)) := hr
      have K4 := Lib.hid q4
      clear q0 q1 q2 q3 q4 hr HA HN HIT
      go_wp2_with (first | (refine wpList_buildTo5 rfl 43 _ rfl _ rfl [] rfl (saC 0 0 0) built_sa0 ?_) | (refine wpList_store_part rfl 43 _ _ rfl b4 0 (saC 0 0 0) rfl rfl 43 (saC 0 0 0) K4.out info_sa (Nat.le_refl _) (sa_one _ _ _) ?_; rw [laid_all5 (saC 0 0 0) (saC 0 0 0) rfl]))
      exact bodyPost_ret (results_sa2 rfl _ _ b4 _ _ _ rfl (setRow_heap _ _ _ _ _ _ K4.out)) rfl ⟨Eq.trans (b := Ending.returned (.tuple #[.agg (saC 0 0 0), .int .i64 (0), .int .i64 (6)])) rfl (congrArg (fun R : St × Int × Int => Ending.returned (.tuple #[.agg (saC R.1.1 R.1.2.1 R.1.2.2), .int .i64 R.2.1, .int .i64 R.2.2])) HRk.out).symm, below_setRow hb (by omega) _⟩

end Go.Proofs.YtddnfbpgldchcaaGreatDoor
