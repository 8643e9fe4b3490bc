/-
  TpV.
-/
import Derived.Test.YtddnfbpgldchcaaGreatDoorMt4
import Derived.Test.YtddnfbpgldchcaaGreatDoorLawH
import Derived.Test.YtddnfbpgldchcaaGreatDoorMt1
import Derived.Test.YtddnfbpgldchcaaGreatDoorBox

namespace Go.Proofs.YtddnfbpgldchcaaGreatDoor
open Go.RowKit

attribute [local go_sem] run_store_f

set_option maxRecDepth 100000 in
set_option maxHeartbeats 1000000 in
theorem spSame_t (x : Nat) (w : World) : Calls Tryz.prog 13 #[.float .f32 x, .float .f32 x] w fun e w' => e = .returned (.bool true) ∧ w = w' := by
  have HZ : Hid (∀ w, Calls Tryz.prog 55 #[.float .f32 x, .float .f32 x] w fun e w' => e = .returned (.bool true) ∧ w = w') := Lib.hid (fun w => by
    have h1 := l01Same_any x x w
    have h2 : sameB x x = true := by unfold sameB; exact beq_self_eq_true _
    rw [h2] at h1
    exact h1)
  go_enter Tryz.func13, Tryz.ntmps13
  go_wp2_with (go_at_call 55; refine (HZ.out _).mono ?_; rintro e w' ⟨rfl, rfl⟩)
  go_ret
  exact ⟨rfl, rfl⟩

theorem blind_oneT (n : Int) (wd gp : Nat) (t : Int) (sh : Nat) : ∀ v ∈ blindC n wd gp t sh, v.oneCell' = true := by
  intro u hu
  simp only [blindC, List.mem_toArray, List.mem_cons, List.not_mem_nil, or_false] at hu
  rcases hu with rfl | rfl | rfl | rfl | rfl <;> rfl

theorem tk_oneT (lg gu : Nat) (hg : Int) : ∀ v ∈ tkC lg gu hg, v.oneCell' = true := by
  intro u hu
  simp only [tkC, List.mem_toArray, List.mem_cons, List.not_mem_nil, or_false] at hu
  rcases hu with rfl | rfl | rfl <;> rfl

theorem plan_oneT (xs : List Int) : ∀ v ∈ i16s xs, v.oneCell' = true := by
  intro v hv
  simp only [i16s, List.mem_toArray, List.mem_map] at hv
  obtain ⟨x, _, rfl⟩ := hv
  rfl

theorem fresh_row {A : World} {o : Obj} {cs : Array Value} {k : Nat} {w : World} (hb : Below k w A) (hk : k ≤ A.heap.size) : Below k w ((A.alloc o).setRow A.heap.size cs) := below_setRow (hb.alloc hk _) hk _

theorem steady_out {lo hi wi : Nat} {st de ca : Int} {wd gp sh : Nat} {ti wt sm : Int} {lg gu : Nat} {hg : Int} (co : CtOk lo hi wi st de ca) (so : SaOk ti wt sm) {R : St × Int × Int} (hR : R = ansS (nxS lo hi wi st de ca wd gp sh lg gu hg) (ti, wt, sm) (srchS (stdS (nxS lo hi wi st de ca wd gp sh lg gu hg) (ti, wt, sm)) 101 0)) :
    ∃ (x1 x2 x3 nn cc : Int), R = ((x1, x2, x3), nn, cc) ∧ (cc = 6 ∨ (cc = 0 ∧ SaOk x1 x2 x3 ∧ ∃ l1, aftB lo hi wi st de ca wd gp sh x1 x2 x3 lg gu hg = (x1, x2, x3, l1))) := by
  cases hs : srchS (stdS (nxS lo hi wi st de ca wd gp sh lg gu hg) (ti, wt, sm)) 101 0 with
  | none =>
    rw [hs] at hR
    exact ⟨0, 0, 0, 0, 6, hR, .inl rfl⟩
  | some j =>
    rw [hs] at hR
    have hfix := std_fix (srch_hit _ _ _ hs)
    have hok := it_ok co wd gp sh lg gu hg (ti, wt, sm) so j
    have hR2 : R = (itS (nxS lo hi wi st de ca wd gp sh lg gu hg) (ti, wt, sm) j, (j : Int), 0) := hR
    generalize itS (nxS lo hi wi st de ca wd gp sh lg gu hg) (ti, wt, sm) j = x at *
    obtain ⟨x1, x2, x3⟩ := x
    refine ⟨x1, x2, x3, j, 0, hR2, .inr ⟨rfl, hok, (aftB lo hi wi st de ca wd gp sh x1 x2 x3 lg gu hg).2.2.2, ?_⟩⟩
    · have e1 := congrArg (fun s : St => s.1) hfix
      have e2 := congrArg (fun s : St => s.2.1) hfix
      have e3 := congrArg (fun s : St => s.2.2) hfix
      exact Prod.ext e1 (Prod.ext e2 (Prod.ext e3 rfl))

set_option maxRecDepth 100000 in
set_option maxHeartbeats 16000000 in
theorem FnTop_walk (a : Option Addr) (n0 cap : Nat) (a' : Option Addr) (n1 cap' : Nat) (w : World) (hc0 : BytesAt w w.heap.size (.slice a n0 cap) n0) (hc1 : BytesAt w w.heap.size (.slice a' n1 cap') n1) (hE : ErrT w) :
    Calls Tryz.prog 3 #[.slice a n0 cap, .slice a' n1 cap'] w fun e w' => e = .returned (.bool true) ∧ Below w.heap.size w w' := by
  have HLG := Lib.hid (fun w => a2Long_any n0 cap n1 cap' a a' w)
  have HC0 := Lib.hid hc0
  have HC1 := Lib.hid hc1
  have HE := Lib.hid hE
  clear hc0 hc1 hE
  generalize (decide (3000 < n0) || decide (3000 < n1)) = lg at *
  cases lg with
  | true =>
    go_enter Tryz.func3, Tryz.ntmps3
    go_wp2_with (go_at_call 5; refine (HLG.out _).mono ?_; rintro e w' ⟨rfl, rfl⟩)
    go_ret
    exact ⟨rfl, Below.refl _ _⟩
  | false =>
    have HAB := Lib.hid (A2Sun_any n0 cap a w HC0.out)
    go_enter Tryz.func3, Tryz.ntmps3
    go_upto_region 4 with (first | (go_at_call 5; refine (HLG.out _).mono ?_; rintro e w' ⟨rfl, rfl⟩) | (go_at_call 6; refine HAB.out.mono ?_; rintro e W1 ⟨⟨hs, ts, rfl, hh, ht, hok⟩, hb⟩; have hsz := sunC_sizeT hh ht) | (refine wpList_store_part rfl 27 _ _ rfl _ 0 (sunC hs ts) rfl rfl 27 _ (heap_alloc_new _ _) (by rw [hsz]; exact info_sun) (by rw [hsz]; decide) (sun_oneT _ _) ?_; rw [laid_all _ _ (by rw [hsz]; rfl)]))
    refine abs_code (fun V => V.heap[W1.heap.size]? = some (.cells (sunC hs ts) 27 (0, 0)) ∧ Below w.heap.size w V) ⟨setRow_heap _ _ _ _ _ _ (heap_alloc_new _ _), fresh_row hb hb.size⟩ ?_
    have hle : w.heap.size ≤ W1.heap.size := hb.size
    have Hh := Lib.hid hh
    have Ht := Lib.hid ht
    clear hb HAB HLG hh ht hsz
    generalize W1.heap.size = b0 at *
    rintro V0 ⟨h0, hb⟩
    have H0 := Lib.hid h0
    clear h0
    go_upto_region 5 with (first | (go_at_call 7; refine (A2Blind_any n1 cap' a' _ (bytes_below HC1.out hb hb.size)).mono ?_; rintro e W2 ⟨⟨n, wd, gp, tt, sh, rfl, hk⟩, hb1⟩; replace H0 := Lib.hid (below_row hb1 H0.out); replace hb := hb.trans (hb1.mono hb.size); clear hb1) | (refine wpList_store_part rfl 32 _ _ rfl _ 0 (blindC n wd gp tt sh) rfl rfl 32 _ (heap_alloc_new _ _) info_blind (Nat.le_refl _) (blind_oneT _ _ _ _ _) ?_; rw [laid_all _ _ (by rfl)]))
    have hl1 : b0 < W2.heap.size := row_lt H0.out
    refine abs_code (fun V => V.heap[b0]? = some (.cells (sunC hs ts) 27 (0, 0)) ∧ V.heap[W2.heap.size]? = some (.cells (blindC n wd gp tt sh) 32 (0, 0)) ∧ Below w.heap.size w V) ⟨((alloc_row _ _).block _ (row_lt H0.out) (by simp)).trans H0.out, setRow_heap _ _ _ _ _ _ (heap_alloc_new _ _), fresh_row hb hb.size⟩ ?_
    have hle1 : w.heap.size ≤ W2.heap.size := hb.size
    clear hb H0
    generalize W2.heap.size = b1 at *
    rintro V1 ⟨h0, h1, hb⟩
    have H0 := Lib.hid h0
    have H1 := Lib.hid h1
    clear h0 h1
    go_upto_region 6 with (go_at_call 8; refine (a2At_any n1 cap' a' 0 256 (by decide) (by decide) (by decide) w.heap.size _ (bytes_below HC1.out hb (Nat.le_refl _))).mono ?_; rintro e W1 ⟨⟨fc, rfl, f0, f1⟩, rfl⟩)
    go_upto_region 7 with (go_at_call 8; refine (a2At_any n1 cap' a' 1 24 (by decide) (by decide) (by decide) w.heap.size _ (bytes_below HC1.out hb (Nat.le_refl _))).mono ?_; rintro e W1 ⟨⟨hr, rfl, r0, r1⟩, rfl⟩)
    obtain ⟨hbl, bw⟩ := drawn_ok hk
    have hih : inH hr = true := inB_mk ⟨by omega, by omega⟩
    have hif : inF fc = true := inB_mk ⟨by omega, by omega⟩
    have hat : atH hs hr ≤ 64 := (okB_h Hh.out Ht.out hok hr (by omega) (by omega)).2
    have HiF := Lib.hid (fun W => implFallOn_yes hs ts Hh.out Ht.out hr fc hok hih hif W)
    have HsF := Lib.hid (fun W => specFallOn_yes hs ts Hh.out Ht.out (okB_rb hok) hr fc hok hih hif W)
    have HiW := Lib.hid (fun W => implPassWindow_yes n wd gp tt sh hs ts Hh.out Ht.out bw hr fc hbl hok hih hif W)
    have HsW := Lib.hid (fun W => specPassWindow_yes n wd gp tt sh hs ts Hh.out Ht.out (okB_rb hok) bw hr fc hbl hok hih hif W)
    have hF1 := fall_one hs ts hr fc hat
    have hW1 := win_fall wd gp tt hk.2.2.2.2.2.2 hs ts hr fc hat
    generalize fallOf hs ts hr fc = fl at *
    generalize winB wd gp tt sh hs ts hr fc = wn at *
    have g1 := tp_ge hF1 (by decide) (Nat.zero_le _)
    have g2 := tp_le hF1 (Nat.le_refl _) hF1
    have g3 := tp_ge (Nat.le_trans hW1 hF1) (by decide) (Nat.zero_le _)
    have g4 := tp_le (Nat.le_trans hW1 hF1) hF1 hW1
    clear hF1 hW1 hih hat
    go_upto_region 8 with (first | (refine wpList_load_part rfl 27 _ rfl b0 0 48 rfl 27 (sunC hs ts) (0, 0) _ H0.out Tryz.underlying27 rfl info_sun (sun_fits _ _ Hh.out Ht.out) (sunC hs ts) (sun_all _ _ Hh.out Ht.out) ?_) | (go_at_call 9; refine (HiF.out _).mono ?_; rintro e W1 ⟨rfl, hb1⟩; replace H0 := Lib.hid (below_row hb1 H0.out); replace H1 := Lib.hid (below_row hb1 H1.out); replace hb := hb.trans (hb1.mono hb.size); clear hb1))
    clear HiF
    go_upto_region 9 with (first | (refine wpList_load_part rfl 27 _ rfl b0 0 48 rfl 27 (sunC hs ts) (0, 0) _ H0.out Tryz.underlying27 rfl info_sun (sun_fits _ _ Hh.out Ht.out) (sunC hs ts) (sun_all _ _ Hh.out Ht.out) ?_) | (go_at_call 10; refine (HsF.out _).mono ?_; rintro e W1 ⟨rfl, hb1⟩; replace H0 := Lib.hid (below_row hb1 H0.out); replace H1 := Lib.hid (below_row hb1 H1.out); replace hb := hb.trans (hb1.mono hb.size); clear hb1))
    clear HsF
    go_upto_region 10 with (first | (refine wpList_load_part rfl 27 _ rfl b0 0 48 rfl 27 (sunC hs ts) (0, 0) _ H0.out Tryz.underlying27 rfl info_sun (sun_fits _ _ Hh.out Ht.out) (sunC hs ts) (sun_all _ _ Hh.out Ht.out) ?_) | (refine wpList_load_part rfl 32 _ rfl b1 0 5 rfl 32 (blindC n wd gp tt sh) (0, 0) _ H1.out Tryz.underlying32 rfl info_blind (blind_fits _ _ _ _ _) (blindC n wd gp tt sh) (blind_all _ _ _ _ _) ?_) | (go_at_call 11; refine (HiW.out _).mono ?_; rintro e W1 ⟨rfl, hb1⟩; replace H0 := Lib.hid (below_row hb1 H0.out); replace H1 := Lib.hid (below_row hb1 H1.out); replace hb := hb.trans (hb1.mono hb.size); clear hb1))
    clear HiW
    go_upto_region 11 with (first | (refine wpList_load_part rfl 27 _ rfl b0 0 48 rfl 27 (sunC hs ts) (0, 0) _ H0.out Tryz.underlying27 rfl info_sun (sun_fits _ _ Hh.out Ht.out) (sunC hs ts) (sun_all _ _ Hh.out Ht.out) ?_) | (refine wpList_load_part rfl 32 _ rfl b1 0 5 rfl 32 (blindC n wd gp tt sh) (0, 0) _ H1.out Tryz.underlying32 rfl info_blind (blind_fits _ _ _ _ _) (blindC n wd gp tt sh) (blind_all _ _ _ _ _) ?_) | (go_at_call 12; refine (HsW.out _).mono ?_; rintro e W1 ⟨rfl, hb1⟩; replace H0 := Lib.hid (below_row hb1 H0.out); replace H1 := Lib.hid (below_row hb1 H1.out); replace hb := hb.trans (hb1.mono hb.size); clear hb1))
    clear HsW
    go_upto_region 13 with (go_at_call 13; refine (spSame_t _ _).mono ?_; rintro e w' ⟨rfl, rfl⟩)
    clear g1 g2 g3 g4
    go_upto_region 14 with (first | (go_at_call 14; refine (A2Control_any n0 cap a _ (bytes_below HC0.out hb hb.size)).mono ?_; rintro e W3 ⟨⟨lo, hi, wi, st, de, ca, rfl, hct⟩, hb1⟩; replace H0 := Lib.hid (below_row hb1 H0.out); replace H1 := Lib.hid (below_row hb1 H1.out); replace hb := hb.trans (hb1.mono hb.size); clear hb1) | (refine wpList_store_part rfl 40 _ _ rfl _ 0 (ctC lo hi wi st de ca) rfl rfl 40 _ (heap_alloc_new _ _) info_ct (Nat.le_refl _) (ct_oneT _ _ _ _ _ _) ?_; rw [laid_all _ _ (by rfl)]))
    have hl2 : b1 < W3.heap.size := row_lt H1.out
    refine abs_code (fun V => V.heap[b0]? = some (.cells (sunC hs ts) 27 (0, 0)) ∧ V.heap[b1]? = some (.cells (blindC n wd gp tt sh) 32 (0, 0)) ∧ V.heap[W3.heap.size]? = some (.cells (ctC lo hi wi st de ca) 40 (0, 0)) ∧ Below w.heap.size w V) ⟨((alloc_row _ _).block _ (row_lt H0.out) (by simp)).trans H0.out, ((alloc_row _ _).block _ (row_lt H1.out) (by simp)).trans H1.out, setRow_heap _ _ _ _ _ _ (heap_alloc_new _ _), fresh_row hb hb.size⟩ ?_
    have hle2 : w.heap.size ≤ W3.heap.size := hb.size
    clear hb H0 H1
    generalize W3.heap.size = b2 at *
    rintro V2 ⟨h0, h1, h2, hb⟩
    have H0 := Lib.hid h0
    have H1 := Lib.hid h1
    have H2 := Lib.hid h2
    clear h0 h1 h2
    go_upto_region 15 with (first | (go_at_call 15; refine (A2State_any n1 cap' a' _ (bytes_below HC1.out hb hb.size)).mono ?_; rintro e W4 ⟨⟨ti, wt, sm, rfl, hsa⟩, hb1⟩; replace H0 := Lib.hid (below_row hb1 H0.out); replace H1 := Lib.hid (below_row hb1 H1.out); replace H2 := Lib.hid (below_row hb1 H2.out); replace hb := hb.trans (hb1.mono hb.size); clear hb1) | (refine wpList_store_part rfl 43 _ _ rfl _ 0 (saC ti wt sm) rfl rfl 43 _ (heap_alloc_new _ _) info_sa (Nat.le_refl _) (sa_oneT _ _ _) ?_; rw [laid_all _ _ (by rfl)]))
    have hl3 : b2 < W4.heap.size := row_lt H2.out
    refine abs_code (fun V => V.heap[b0]? = some (.cells (sunC hs ts) 27 (0, 0)) ∧ V.heap[b1]? = some (.cells (blindC n wd gp tt sh) 32 (0, 0)) ∧ V.heap[b2]? = some (.cells (ctC lo hi wi st de ca) 40 (0, 0)) ∧ V.heap[W4.heap.size]? = some (.cells (saC ti wt sm) 43 (0, 0)) ∧ Below w.heap.size w V) ⟨((alloc_row _ _).block _ (row_lt H0.out) (by simp)).trans H0.out, ((alloc_row _ _).block _ (row_lt H1.out) (by simp)).trans H1.out, ((alloc_row _ _).block _ (row_lt H2.out) (by simp)).trans H2.out, setRow_heap _ _ _ _ _ _ (heap_alloc_new _ _), fresh_row hb hb.size⟩ ?_
    have hle3 : w.heap.size ≤ W4.heap.size := hb.size
    clear hb H0 H1 H2
    generalize W4.heap.size = b3 at *
    rintro V3 ⟨h0, h1, h2, h3, hb⟩
    have H0 := Lib.hid h0
    have H1 := Lib.hid h1
    have H2 := Lib.hid h2
    have H3 := Lib.hid h3
    clear h0 h1 h2 h3
    go_upto_region 16 with (first | (go_at_call 16; refine (A2Part_any n0 cap a _ (bytes_below HC0.out hb hb.size)).mono ?_; rintro e W5 ⟨⟨lg, rfl, hlg⟩, hb1⟩; replace H0 := Lib.hid (below_row hb1 H0.out); replace H1 := Lib.hid (below_row hb1 H1.out); replace H2 := Lib.hid (below_row hb1 H2.out); replace H3 := Lib.hid (below_row hb1 H3.out); replace hb := hb.trans (hb1.mono hb.size); clear hb1; have v1 : IntKind.i64.wrap (1 + hr) = 1 + hr := (by rw [IntWalk.i64_in _ (by omega)]); have v2 : IntKind.i8.wrap (1 + hr) = 1 + hr := (by rw [IntWalk.i8_in _ (by omega)]); have HBI : Hid (Tryz.prog.built 47 [(0, .float .f32 lg), (2, .int .i8 (1 + hr))] = some (tkC lg 0 (1 + hr))) := (by unfold Hid; kernel_rfl)) | (refine wpList_buildL rfl 47 _ rfl _ rfl [(0, .float .f32 lg), (2, .int .i8 (1 + hr))] rfl (tkC lg 0 (1 + hr)) HBI.out ?_) | (refine wpList_store_part rfl 47 _ _ rfl _ 0 (tkC lg 0 (1 + hr)) rfl rfl 47 _ (heap_alloc_new _ _) info_tk (Nat.le_refl _) (tk_oneT _ _ _) ?_; rw [laid_all _ _ (by rfl)]))
    have hl4 : b3 < W5.heap.size := row_lt H3.out
    refine abs_code (fun V => V.heap[b0]? = some (.cells (sunC hs ts) 27 (0, 0)) ∧ V.heap[b1]? = some (.cells (blindC n wd gp tt sh) 32 (0, 0)) ∧ V.heap[b2]? = some (.cells (ctC lo hi wi st de ca) 40 (0, 0)) ∧ V.heap[b3]? = some (.cells (saC ti wt sm) 43 (0, 0)) ∧ V.heap[W5.heap.size]? = some (.cells (tkC lg 0 (1 + hr)) 47 (0, 0)) ∧ Below w.heap.size w V) ⟨((alloc_row _ _).block _ (row_lt H0.out) (by simp)).trans H0.out, ((alloc_row _ _).block _ (row_lt H1.out) (by simp)).trans H1.out, ((alloc_row _ _).block _ (row_lt H2.out) (by simp)).trans H2.out, ((alloc_row _ _).block _ (row_lt H3.out) (by simp)).trans H3.out, setRow_heap _ _ _ _ _ _ (heap_alloc_new _ _), fresh_row hb hb.size⟩ ?_
    have hle4 : w.heap.size ≤ W5.heap.size := hb.size
    clear hb H0 H1 H2 H3 v1 v2 HBI
    generalize W5.heap.size = b4 at *
    rintro V4 ⟨h0, h1, h2, h3, h4, hb⟩
    have H0 := Lib.hid h0
    have H1 := Lib.hid h1
    have H2 := Lib.hid h2
    have H3 := Lib.hid h3
    have H4 := Lib.hid h4
    clear h0 h1 h2 h3 h4
    obtain ⟨hcc, cw⟩ := ctl_ok hct
    have hso : SaOk ti wt sm := ⟨by omega, by omega, by omega, by omega, by omega, by omega⟩
    obtain ⟨hss, sw⟩ := sta_ok hso
    obtain ⟨hkk, kw⟩ := tik_ok (hg := 1 + hr) hlg (by omega) (by omega)
    have hcd := code_yes hcc hbl hss hkk
    obtain ⟨R, hR⟩ : ∃ R, R = ansS (nxS lo hi wi st de ca wd gp sh lg 0 (1 + hr)) (ti, wt, sm) (srchS (stdS (nxS lo hi wi st de ca wd gp sh lg 0 (1 + hr)) (ti, wt, sm)) 101 0) := ⟨_, rfl⟩
    have HiS := Lib.hid (fun W => iSteadyFrom_yes lo hi wi st de ca cw n wd gp tt sh bw ti wt sm sw lg 0 (1 + hr) kw hcd R hR W)
    have HsS := Lib.hid (fun W => sSteadyFrom_yes lo hi wi st de ca cw n wd gp tt sh bw ti wt sm sw lg 0 (1 + hr) kw hcd R hR W)
    obtain ⟨x1, x2, x3, nn, cc, rfl, hcs⟩ := steady_out (ctok_of cw hcc) hso hR
    have HCS : Hid (cc = 6 ∨ (cc = 0 ∧ ∃ l1, ∀ W, Calls Tryz.prog 19 #[.agg (ctC lo hi wi st de ca), .agg (blindC n wd gp tt sh), .agg (saC x1 x2 x3), .agg (tkC lg 0 (1 + hr))] W fun e w' => e = .returned (.tuple #[.agg (saC x1 x2 x3), .float .f32 l1, .int .i64 0]) ∧ Below W.heap.size W w')) := Lib.hid (by
      rcases hcs with h | ⟨h, hox, l1, hl1⟩
      · exact .inl h
      · obtain ⟨hxx, xw⟩ := sta_ok hox
        exact .inr ⟨h, l1, fun W => iTickOnce_yes lo hi wi st de ca cw n wd gp tt sh bw x1 x2 x3 xw lg 0 (1 + hr) kw (code_yes hcc hbl hxx hkk) x1 x2 x3 l1 hl1 W⟩)
    clear hR hcs hso hss sw hkk kw hcd hcc cw
    go_upto_region 17 with (first | (refine wpList_load_part rfl 40 _ rfl b2 0 6 rfl 40 (ctC lo hi wi st de ca) (0, 0) _ H2.out Tryz.underlying40 rfl info_ct (ct_fits _ _ _ _ _ _) (ctC lo hi wi st de ca) (ct_all _ _ _ _ _ _) ?_) | (refine wpList_load_part rfl 32 _ rfl b1 0 5 rfl 32 (blindC n wd gp tt sh) (0, 0) _ H1.out Tryz.underlying32 rfl info_blind (blind_fits _ _ _ _ _) (blindC n wd gp tt sh) (blind_all _ _ _ _ _) ?_) | (refine wpList_load_part rfl 43 _ rfl b3 0 3 rfl 43 (saC ti wt sm) (0, 0) _ H3.out Tryz.underlying43 rfl info_sa (sa_fits _ _ _) (saC ti wt sm) (sa_all _ _ _) ?_) | (refine wpList_load_part rfl 47 _ rfl b4 0 3 rfl 47 (tkC lg 0 (1 + hr)) (0, 0) _ H4.out Tryz.underlying47 rfl info_tk (tk_fits _ _ _) (tkC lg 0 (1 + hr)) (tk_all _ _ _) ?_) | (go_at_call 17; refine (HiS.out _).mono ?_; rintro e W6 ⟨rfl, hb1⟩; replace H0 := Lib.hid (below_row hb1 H0.out); replace H1 := Lib.hid (below_row hb1 H1.out); replace H2 := Lib.hid (below_row hb1 H2.out); replace H3 := Lib.hid (below_row hb1 H3.out); replace H4 := Lib.hid (below_row hb1 H4.out); replace hb := hb.trans (hb1.mono hb.size); clear hb1) | (refine wpList_store_part rfl 43 _ _ rfl _ 0 (saC x1 x2 x3) rfl rfl 43 _ (heap_alloc_new _ _) info_sa (Nat.le_refl _) (sa_oneT _ _ _) ?_; rw [laid_all _ _ (by rfl)]))
    have hl5 : b4 < W6.heap.size := row_lt H4.out
    refine abs_code (fun V => V.heap[b0]? = some (.cells (sunC hs ts) 27 (0, 0)) ∧ V.heap[b1]? = some (.cells (blindC n wd gp tt sh) 32 (0, 0)) ∧ V.heap[b2]? = some (.cells (ctC lo hi wi st de ca) 40 (0, 0)) ∧ V.heap[b3]? = some (.cells (saC ti wt sm) 43 (0, 0)) ∧ V.heap[b4]? = some (.cells (tkC lg 0 (1 + hr)) 47 (0, 0)) ∧ V.heap[W6.heap.size]? = some (.cells (saC x1 x2 x3) 43 (0, 0)) ∧ Below w.heap.size w V) ⟨((alloc_row _ _).block _ (row_lt H0.out) (by simp)).trans H0.out, ((alloc_row _ _).block _ (row_lt H1.out) (by simp)).trans H1.out, ((alloc_row _ _).block _ (row_lt H2.out) (by simp)).trans H2.out, ((alloc_row _ _).block _ (row_lt H3.out) (by simp)).trans H3.out, ((alloc_row _ _).block _ (row_lt H4.out) (by simp)).trans H4.out, setRow_heap _ _ _ _ _ _ (heap_alloc_new _ _), fresh_row hb hb.size⟩ ?_
    have hle5 : w.heap.size ≤ W6.heap.size := hb.size
    clear hb H0 H1 H2 H3 H4 HiS
    generalize W6.heap.size = b5 at *
    rintro V5 ⟨h0, h1, h2, h3, h4, h5, hb⟩
    have H0 := Lib.hid h0
    have H1 := Lib.hid h1
    have H2 := Lib.hid h2
    have H3 := Lib.hid h3
    have H4 := Lib.hid h4
    have H5 := Lib.hid h5
    clear h0 h1 h2 h3 h4 h5
    go_upto_region 18 with (first | (refine wpList_load_part rfl 40 _ rfl b2 0 6 rfl 40 (ctC lo hi wi st de ca) (0, 0) _ H2.out Tryz.underlying40 rfl info_ct (ct_fits _ _ _ _ _ _) (ctC lo hi wi st de ca) (ct_all _ _ _ _ _ _) ?_) | (refine wpList_load_part rfl 32 _ rfl b1 0 5 rfl 32 (blindC n wd gp tt sh) (0, 0) _ H1.out Tryz.underlying32 rfl info_blind (blind_fits _ _ _ _ _) (blindC n wd gp tt sh) (blind_all _ _ _ _ _) ?_) | (refine wpList_load_part rfl 43 _ rfl b3 0 3 rfl 43 (saC ti wt sm) (0, 0) _ H3.out Tryz.underlying43 rfl info_sa (sa_fits _ _ _) (saC ti wt sm) (sa_all _ _ _) ?_) | (refine wpList_load_part rfl 47 _ rfl b4 0 3 rfl 47 (tkC lg 0 (1 + hr)) (0, 0) _ H4.out Tryz.underlying47 rfl info_tk (tk_fits _ _ _) (tkC lg 0 (1 + hr)) (tk_all _ _ _) ?_) | (go_at_call 18; refine (HsS.out _).mono ?_; rintro e W7 ⟨rfl, hb1⟩; replace H0 := Lib.hid (below_row hb1 H0.out); replace H1 := Lib.hid (below_row hb1 H1.out); replace H2 := Lib.hid (below_row hb1 H2.out); replace H3 := Lib.hid (below_row hb1 H3.out); replace H4 := Lib.hid (below_row hb1 H4.out); replace H5 := Lib.hid (below_row hb1 H5.out); replace hb := hb.trans (hb1.mono hb.size); clear hb1) | (refine wpList_store_part rfl 43 _ _ rfl _ 0 (saC x1 x2 x3) rfl rfl 43 _ (heap_alloc_new _ _) info_sa (Nat.le_refl _) (sa_oneT _ _ _) ?_; rw [laid_all _ _ (by rfl)]))
    have hl6 : b5 < W7.heap.size := row_lt H5.out
    refine abs_code (fun V => V.heap[b0]? = some (.cells (sunC hs ts) 27 (0, 0)) ∧ V.heap[b1]? = some (.cells (blindC n wd gp tt sh) 32 (0, 0)) ∧ V.heap[b2]? = some (.cells (ctC lo hi wi st de ca) 40 (0, 0)) ∧ V.heap[b3]? = some (.cells (saC ti wt sm) 43 (0, 0)) ∧ V.heap[b4]? = some (.cells (tkC lg 0 (1 + hr)) 47 (0, 0)) ∧ V.heap[b5]? = some (.cells (saC x1 x2 x3) 43 (0, 0)) ∧ V.heap[W7.heap.size]? = some (.cells (saC x1 x2 x3) 43 (0, 0)) ∧ Below w.heap.size w V) ⟨((alloc_row _ _).block _ (row_lt H0.out) (by simp)).trans H0.out, ((alloc_row _ _).block _ (row_lt H1.out) (by simp)).trans H1.out, ((alloc_row _ _).block _ (row_lt H2.out) (by simp)).trans H2.out, ((alloc_row _ _).block _ (row_lt H3.out) (by simp)).trans H3.out, ((alloc_row _ _).block _ (row_lt H4.out) (by simp)).trans H4.out, ((alloc_row _ _).block _ (row_lt H5.out) (by simp)).trans H5.out, setRow_heap _ _ _ _ _ _ (heap_alloc_new _ _), fresh_row hb hb.size⟩ ?_
    have hle6 : w.heap.size ≤ W7.heap.size := hb.size
    clear hb H0 H1 H2 H3 H4 H5 HsS
    generalize W7.heap.size = b6 at *
    rintro V6 ⟨h0, h1, h2, h3, h4, h5, h6, hb⟩
    have H0 := Lib.hid h0
    have H1 := Lib.hid h1
    have H2 := Lib.hid h2
    have H3 := Lib.hid h3
    have H4 := Lib.hid h4
    have H5 := Lib.hid h5
    have H6 := Lib.hid h6
    clear h0 h1 h2 h3 h4 h5 h6
    have hq := eql_sa_eq x1 x2 x3
    have hgd := fun w => run_eqGuard_agg (P := Tryz.prog) w .neq 43 (.tmp 160) (.tmp 161) (saC x1 x2 x3) (saC x1 x2 x3) (by kernel_rfl)
    go_upto_region 20 with (first | (refine wpList_load_partG 43 _ rfl b5 0 3 rfl rfl 43 (saC x1 x2 x3) (0, 0) _ H5.out Tryz.underlying43 rfl info_sa (sa_fits _ _ _) (saC x1 x2 x3) (sa_all _ _ _) ?_) | (refine wpList_load_partG 43 _ rfl b6 0 3 rfl rfl 43 (saC x1 x2 x3) (0, 0) _ H6.out Tryz.underlying43 rfl info_sa (sa_fits _ _ _) (saC x1 x2 x3) (sa_all _ _ _) ?_))
    clear hgd
    go_upto_if 170 with (fail)
    clear hq
    go_cut [22, 25] from 38 (fun y y2 wx => y = .int .i64 cc ∧ y2 = .int .i64 cc ∧ wx.heap[b0]? = some (.cells (sunC hs ts) 27 (0, 0)) ∧ wx.heap[b1]? = some (.cells (blindC n wd gp tt sh) 32 (0, 0)) ∧ Below w.heap.size w wx)
    case first =>
      rcases HCS.out with hc6 | ⟨hc0, l1, HIT⟩
      · have e1 : (cc == 0) = false := by rw [hc6]; rfl
        go_wp2
        go_meet
        case rel => exact ⟨rfl, rfl, H0.out, H1.out, hb⟩
      · have e1 : (cc == 0) = true := by rw [hc0]; rfl
        have HT := Lib.hid HIT
        clear HIT
        go_upto_region 22 with (first | (refine wpList_load_part rfl 40 _ rfl b2 0 6 rfl 40 (ctC lo hi wi st de ca) (0, 0) _ H2.out Tryz.underlying40 rfl info_ct (ct_fits _ _ _ _ _ _) (ctC lo hi wi st de ca) (ct_all _ _ _ _ _ _) ?_) | (refine wpList_load_part rfl 32 _ rfl b1 0 5 rfl 32 (blindC n wd gp tt sh) (0, 0) _ H1.out Tryz.underlying32 rfl info_blind (blind_fits _ _ _ _ _) (blindC n wd gp tt sh) (blind_all _ _ _ _ _) ?_) | (refine wpList_load_part rfl 43 _ rfl b6 0 3 rfl 43 (saC x1 x2 x3) (0, 0) _ H6.out Tryz.underlying43 rfl info_sa (sa_fits _ _ _) (saC x1 x2 x3) (sa_all _ _ _) ?_) | (refine wpList_load_part rfl 47 _ rfl b4 0 3 rfl 47 (tkC lg 0 (1 + hr)) (0, 0) _ H4.out Tryz.underlying47 rfl info_tk (tk_fits _ _ _) (tkC lg 0 (1 + hr)) (tk_all _ _ _) ?_) | (go_at_call 19; refine (HT.out _).mono ?_; rintro e W8 ⟨rfl, hb1⟩; replace H0 := Lib.hid (below_row hb1 H0.out); replace H1 := Lib.hid (below_row hb1 H1.out); replace H2 := Lib.hid (below_row hb1 H2.out); replace H3 := Lib.hid (below_row hb1 H3.out); replace H4 := Lib.hid (below_row hb1 H4.out); replace H5 := Lib.hid (below_row hb1 H5.out); replace H6 := Lib.hid (below_row hb1 H6.out); replace hb := hb.trans (hb1.mono hb.size); clear hb1) | (refine wpList_store_part rfl 43 _ _ rfl _ 0 (saC x1 x2 x3) rfl rfl 43 _ (heap_alloc_new _ _) info_sa (Nat.le_refl _) (sa_oneT _ _ _) ?_; rw [laid_all _ _ (by rfl)]))
        have hl7 : b6 < W8.heap.size := row_lt H6.out
        refine abs_code (fun V => V.heap[b0]? = some (.cells (sunC hs ts) 27 (0, 0)) ∧ V.heap[b1]? = some (.cells (blindC n wd gp tt sh) 32 (0, 0)) ∧ V.heap[b2]? = some (.cells (ctC lo hi wi st de ca) 40 (0, 0)) ∧ V.heap[b3]? = some (.cells (saC ti wt sm) 43 (0, 0)) ∧ V.heap[b4]? = some (.cells (tkC lg 0 (1 + hr)) 47 (0, 0)) ∧ V.heap[b5]? = some (.cells (saC x1 x2 x3) 43 (0, 0)) ∧ V.heap[b6]? = some (.cells (saC x1 x2 x3) 43 (0, 0)) ∧ V.heap[W8.heap.size]? = some (.cells (saC x1 x2 x3) 43 (0, 0)) ∧ Below w.heap.size w V) ⟨((alloc_row _ _).block _ (row_lt H0.out) (by simp)).trans H0.out, ((alloc_row _ _).block _ (row_lt H1.out) (by simp)).trans H1.out, ((alloc_row _ _).block _ (row_lt H2.out) (by simp)).trans H2.out, ((alloc_row _ _).block _ (row_lt H3.out) (by simp)).trans H3.out, ((alloc_row _ _).block _ (row_lt H4.out) (by simp)).trans H4.out, ((alloc_row _ _).block _ (row_lt H5.out) (by simp)).trans H5.out, ((alloc_row _ _).block _ (row_lt H6.out) (by simp)).trans H6.out, setRow_heap _ _ _ _ _ _ (heap_alloc_new _ _), fresh_row hb hb.size⟩ ?_
        have hle7 : w.heap.size ≤ W8.heap.size := hb.size
        clear hb H0 H1 H2 H3 H4 H5 H6 HT
        generalize W8.heap.size = b7 at *
        rintro V7 ⟨h0, h1, h2, h3, h4, h5, h6, h7, hb⟩
        have H0 := Lib.hid h0
        have H1 := Lib.hid h1
        have H2 := Lib.hid h2
        have H3 := Lib.hid h3
        have H4 := Lib.hid h4
        have H5 := Lib.hid h5
        have H6 := Lib.hid h6
        have H7 := Lib.hid h7
        clear h0 h1 h2 h3 h4 h5 h6 h7
        have hq := eql_sa_eq x1 x2 x3
        have hgd := fun w => run_eqGuard_agg (P := Tryz.prog) w .neq 43 (.tmp 183) (.tmp 184) (saC x1 x2 x3) (saC x1 x2 x3) (by kernel_rfl)
        go_wp2_with (first | (refine wpList_load_partG 43 _ rfl b7 0 3 rfl rfl 43 (saC x1 x2 x3) (0, 0) _ H7.out Tryz.underlying43 rfl info_sa (sa_fits _ _ _) (saC x1 x2 x3) (sa_all _ _ _) ?_) | (refine wpList_load_partG 43 _ rfl b6 0 3 rfl rfl 43 (saC x1 x2 x3) (0, 0) _ H6.out Tryz.underlying43 rfl info_sa (sa_fits _ _ _) (saC x1 x2 x3) (sa_all _ _ _) ?_))
        go_meet
        case rel => exact ⟨by first | rfl | rw [hc0], by first | rfl | rw [hc0], H0.out, H1.out, hb⟩
    case rest =>
      clear H0 H1 H2 H3 H4 H5 H6 hb HCS
      obtain ⟨rfl, rfl, h0, h1, hb⟩ := hcut
      have H0 := Lib.hid h0
      have H1 := Lib.hid h1
      clear h0 h1
      go_upto_region 25 with (go_at_call 16; refine (A2Part_any n0 cap a _ (bytes_below HC0.out hb hb.size)).mono ?_; rintro e W9 ⟨⟨zh, rfl, hzh⟩, hb1⟩; replace H0 := Lib.hid (below_row hb1 H0.out); replace H1 := Lib.hid (below_row hb1 H1.out); replace hb := hb.trans (hb1.mono hb.size); clear hb1; have hdv := half_tone hzh; have hsb := one_sub_facts hdv.2; have rq : ∀ T w, (binOp .quo T (.float .f32 zh) (.float .f32 1073741824)).run Tryz.prog w = .ok (.float .f32 (fdiv zh 1073741824)) w := fun T w => run_float_arith w .quo T .f32 _ _ _ hdv.1; have rs : ∀ T w, (binOp .sub T (.float .f32 1065353216) (.float .f32 (fdiv zh 1073741824))).run Tryz.prog w = .ok (.float .f32 (fsub 1065353216 (fdiv zh 1073741824))) w := fun T w => run_float_arith w .sub T .f32 _ _ _ hsb.1)
      have hph : partB (fsub 1065353216 (fdiv zh 1073741824)) = true := tone_part hsb.2
      have whi : (Lit.float .f32 (fsub 1065353216 (fdiv zh 1073741824))).wf = true := low_wf (by have := hsb.2; omega)
      clear rq rs hdv hsb hzh
      generalize fsub 1065353216 (fdiv zh 1073741824) = top at *
      have hp0 : partB 0 = true := tone_part (by decide)
      have w0 : (Lit.float .f32 0).wf = true := low_wf (by decide)
      have hcdp : cdP true (okBl n wd gp tt sh) (okB hs ts) true = 0 := by rw [hbl, hok]; rfl
      obtain ⟨T0, T1⟩ := blwf_t bw
      obtain ⟨N0, N1⟩ := blwf_n bw
      obtain ⟨T, hT⟩ : ∃ T : Nat → List Int, T = (fun h : Nat => wantT (kpB hs ts fc 0 top wd gp sh (h : Int)) (tls 129)) := ⟨_, rfl⟩
      obtain ⟨p, hp⟩ : ∃ p, (stF T [] 24).plan = p := ⟨_, rfl⟩
      have hlp : p.length = 24 := by rw [← hp]; exact stF_len T [] 24
      have hp2 : (stF T (T 0) 24).plan = p := by
        by_cases c0 : T 0 = []
        · rw [c0]; exact hp
        · rw [← stF_same T c0 23]; exact hp
      obtain ⟨pl, m, c, hAx, hBx, hlen, hfin⟩ : ∃ (pl : List Int) (m c : Int), ((∀ h, h < 24 → T h ≠ []) → pl = p ∧ m = (cntR p 24 : Int) - 1 ∧ c = 0) ∧ ((∃ h, h < 24 ∧ T h = []) → pl = zP ∧ m = 0 ∧ c = 6) ∧ pl.length = 24 ∧ (c = 6 ∨ (c = 0 ∧ 0 ≤ m ∧ okP pl = true ∧ firstNo (kpAt hs ts fc 0 top wd gp sh pl) 0 24 = none)) := by
        by_cases hA : ∀ h, h < 24 → T h ≠ []
        · have hk2 := plan_keeps hs ts fc 0 top wd gp sh T hT hA p hp
          have hc1 : 1 ≤ cntR p 24 := cnt_one p 23
          exact ⟨p, (cntR p 24 : Int) - 1, 0, fun _ => ⟨rfl, rfl, rfl⟩, fun ⟨h, h1, h2⟩ => (hA h h1 h2).elim, hlp, .inr ⟨rfl, by omega, hk2.1, hk2.2⟩⟩
        · exact ⟨zP, 0, 6, fun h => (hA h).elim, fun _ => ⟨rfl, rfl, rfl⟩, rfl, .inl rfl⟩
      have HL := Lib.hid hlen
      have HiC := Lib.hid (fun W hE => iFew_yes n wd gp tt sh hs ts Hh.out Ht.out fc 0 top bw T0 T1 hif hp0 hph hcdp T hT p (fun k hk => by rw [hk]; exact hp) pl m c hAx hBx W hE)
      have HsC := Lib.hid (fun W => sFew_yes n wd gp tt sh hs ts Hh.out Ht.out fc 0 top bw T0 T1 N0 N1 (okB_rb hok) hif hp0 hph w0 whi hcdp T hT p (fun k hk => by rw [hk]; exact hp2) pl m c hAx hBx W)
      have HF : Hid (c = 6 ∨ (c = 0 ∧ 0 ≤ m ∧ (∀ W, ErrT W → Calls Tryz.prog 22 #[.agg (blindC n wd gp tt sh), .agg (sunC hs ts), .int .i64 fc, .agg (i16s pl), .float .f32 0, .float .f32 top] W fun e w' => e = .returned (.tuple #[.bool true, .int .i64 0]) ∧ Below W.heap.size W w') ∧ ∀ W, Calls Tryz.prog 23 #[.agg (i16s pl)] W fun e w' => e = .returned (.bool true) ∧ Below W.heap.size W w')) := Lib.hid (by
        rcases hfin with h | ⟨h, hm, ho, hn⟩
        · exact .inl h
        · refine .inr ⟨h, hm, fun W hE => ?_, fun W => ?_⟩
          · have := iKeepsWithin_yes n wd gp tt sh hs ts Hh.out Ht.out fc pl hlen 0 top bw T0 T1 hif hp0 hph (by rw [ho, hbl, hok]; rfl) W hE
            rw [hn] at this
            exact this
          · have := ValidPlan_any pl hlen W
            rw [ho] at this
            exact this)
      clear hfin hlen hAx hBx hp2 hlp hp hT T0 T1 N0 N1 hcdp w0 hp0 whi hph
      go_upto_region 26 with (first | (refine wpList_load_part rfl 32 _ rfl b1 0 5 rfl 32 (blindC n wd gp tt sh) (0, 0) _ H1.out Tryz.underlying32 rfl info_blind (blind_fits _ _ _ _ _) (blindC n wd gp tt sh) (blind_all _ _ _ _ _) ?_) | (refine wpList_load_part rfl 27 _ rfl b0 0 48 rfl 27 (sunC hs ts) (0, 0) _ H0.out Tryz.underlying27 rfl info_sun (sun_fits _ _ Hh.out Ht.out) (sunC hs ts) (sun_all _ _ Hh.out Ht.out) ?_) | (go_at_call 20; refine (HiC.out _ (errT_below HE.out hb)).mono ?_; rintro e WA ⟨rfl, hb1⟩; replace H0 := Lib.hid (below_row hb1 H0.out); replace H1 := Lib.hid (below_row hb1 H1.out); replace hb := hb.trans (hb1.mono hb.size); clear hb1) | (refine wpList_store_part rfl 52 _ _ rfl _ 0 (i16s pl) rfl rfl 52 _ (heap_alloc_new _ _) (by rw [i16s_size, HL.out]; exact info_plan) (by rw [i16s_size, HL.out]; decide) (plan_oneT _) ?_; rw [laid_all _ _ (by rw [i16s_size, HL.out]; rfl)]))
      have hl2 : b1 < WA.heap.size := row_lt H1.out
      refine abs_code (fun V => V.heap[b0]? = some (.cells (sunC hs ts) 27 (0, 0)) ∧ V.heap[b1]? = some (.cells (blindC n wd gp tt sh) 32 (0, 0)) ∧ V.heap[WA.heap.size]? = some (.cells (i16s pl) 52 (0, 0)) ∧ Below w.heap.size w V) ⟨((alloc_row _ _).block _ (row_lt H0.out) (by simp)).trans H0.out, ((alloc_row _ _).block _ (row_lt H1.out) (by simp)).trans H1.out, setRow_heap _ _ _ _ _ _ (heap_alloc_new _ _), fresh_row hb hb.size⟩ ?_
      have hle2 : w.heap.size ≤ WA.heap.size := hb.size
      clear hb H0 H1 HiC
      generalize WA.heap.size = d2 at *
      rintro V2 ⟨h0, h1, h2, hb⟩
      have H0 := Lib.hid h0
      have H1 := Lib.hid h1
      have H2 := Lib.hid h2
      clear h0 h1 h2
      go_upto_region 27 with (first | (refine wpList_load_part rfl 32 _ rfl b1 0 5 rfl 32 (blindC n wd gp tt sh) (0, 0) _ H1.out Tryz.underlying32 rfl info_blind (blind_fits _ _ _ _ _) (blindC n wd gp tt sh) (blind_all _ _ _ _ _) ?_) | (refine wpList_load_part rfl 27 _ rfl b0 0 48 rfl 27 (sunC hs ts) (0, 0) _ H0.out Tryz.underlying27 rfl info_sun (sun_fits _ _ Hh.out Ht.out) (sunC hs ts) (sun_all _ _ Hh.out Ht.out) ?_) | (go_at_call 21; refine (HsC.out _).mono ?_; rintro e WB ⟨rfl, hb1⟩; replace H0 := Lib.hid (below_row hb1 H0.out); replace H1 := Lib.hid (below_row hb1 H1.out); replace H2 := Lib.hid (below_row hb1 H2.out); replace hb := hb.trans (hb1.mono hb.size); clear hb1) | (refine wpList_store_part rfl 52 _ _ rfl _ 0 (i16s pl) rfl rfl 52 _ (heap_alloc_new _ _) (by rw [i16s_size, HL.out]; exact info_plan) (by rw [i16s_size, HL.out]; decide) (plan_oneT _) ?_; rw [laid_all _ _ (by rw [i16s_size, HL.out]; rfl)]))
      have hl3 : d2 < WB.heap.size := row_lt H2.out
      refine abs_code (fun V => V.heap[b0]? = some (.cells (sunC hs ts) 27 (0, 0)) ∧ V.heap[b1]? = some (.cells (blindC n wd gp tt sh) 32 (0, 0)) ∧ V.heap[d2]? = some (.cells (i16s pl) 52 (0, 0)) ∧ V.heap[WB.heap.size]? = some (.cells (i16s pl) 52 (0, 0)) ∧ Below w.heap.size w V) ⟨((alloc_row _ _).block _ (row_lt H0.out) (by simp)).trans H0.out, ((alloc_row _ _).block _ (row_lt H1.out) (by simp)).trans H1.out, ((alloc_row _ _).block _ (row_lt H2.out) (by simp)).trans H2.out, setRow_heap _ _ _ _ _ _ (heap_alloc_new _ _), fresh_row hb hb.size⟩ ?_
      have hle3 : w.heap.size ≤ WB.heap.size := hb.size
      clear hb H0 H1 H2 HsC
      generalize WB.heap.size = d3 at *
      rintro V3 ⟨h0, h1, h2, h3, hb⟩
      have H0 := Lib.hid h0
      have H1 := Lib.hid h1
      have H2 := Lib.hid h2
      have H3 := Lib.hid h3
      clear h0 h1 h2 h3
      have hqp : ∀ w, (Op.equalIn 10000 52 (.agg (i16s pl)) (.agg (i16s pl))).run Tryz.prog w = .ok true w := fun w => by rw [run_eql_plan pl pl HL.out HL.out, beq_self_eq_true]
      have hgd := fun w => run_eqGuard_agg (P := Tryz.prog) w .neq 52 (.tmp 213) (.tmp 214) (i16s pl) (i16s pl) (by kernel_rfl)
      go_upto_region 29 with (first | (refine wpList_load_partG 52 _ rfl d2 0 24 rfl rfl 52 (i16s pl) (0, 0) _ H2.out Tryz.underlying52 rfl info_plan (by rw [i16s_size, HL.out]; decide) (i16s pl) (i16s_all _ 24 HL.out) ?_) | (refine wpList_load_partG 52 _ rfl d3 0 24 rfl rfl 52 (i16s pl) (0, 0) _ H3.out Tryz.underlying52 rfl info_plan (by rw [i16s_size, HL.out]; decide) (i16s pl) (i16s_all _ 24 HL.out) ?_))
      clear hqp hgd
      rcases HF.out with hc6 | ⟨hc0, hm, HIK, HVP⟩
      · have e1 : (c == 0) = false := by rw [hc6]; rfl
        have e2 : (c == 6) = true := by rw [hc6]; rfl
        go_wp2
        go_ret
        exact ⟨rfl, hb⟩
      · have e1 : (c == 0) = true := by rw [hc0]; rfl
        have e2 : (0 : Int) ≤ m := hm
        have HK := Lib.hid HIK
        have HV := Lib.hid HVP
        clear HIK HVP HF
        go_wp2_with (first | (refine wpList_load_part rfl 32 _ rfl b1 0 5 rfl 32 (blindC n wd gp tt sh) (0, 0) _ H1.out Tryz.underlying32 rfl info_blind (blind_fits _ _ _ _ _) (blindC n wd gp tt sh) (blind_all _ _ _ _ _) ?_) | (refine wpList_load_part rfl 27 _ rfl b0 0 48 rfl 27 (sunC hs ts) (0, 0) _ H0.out Tryz.underlying27 rfl info_sun (sun_fits _ _ Hh.out Ht.out) (sunC hs ts) (sun_all _ _ Hh.out Ht.out) ?_) | (refine wpList_load_part rfl 52 _ rfl d3 0 24 rfl 52 (i16s pl) (0, 0) _ H3.out Tryz.underlying52 rfl info_plan (by rw [i16s_size, HL.out]; decide) (i16s pl) (i16s_all _ 24 HL.out) ?_) | (refine wpList_load_partG 52 _ rfl d3 0 24 rfl rfl 52 (i16s pl) (0, 0) _ H3.out Tryz.underlying52 rfl info_plan (by rw [i16s_size, HL.out]; decide) (i16s pl) (i16s_all _ 24 HL.out) ?_) | (go_at_call 22; refine (HK.out _ (errT_below HE.out hb)).mono ?_; rintro e W1 ⟨rfl, hb1⟩; replace H0 := Lib.hid (below_row hb1 H0.out); replace H1 := Lib.hid (below_row hb1 H1.out); replace H2 := Lib.hid (below_row hb1 H2.out); replace H3 := Lib.hid (below_row hb1 H3.out); replace hb := hb.trans (hb1.mono hb.size); clear hb1) | (go_at_call 23; refine (HV.out _).mono ?_; rintro e W1 ⟨rfl, hb1⟩; replace H0 := Lib.hid (below_row hb1 H0.out); replace H1 := Lib.hid (below_row hb1 H1.out); replace H2 := Lib.hid (below_row hb1 H2.out); replace H3 := Lib.hid (below_row hb1 H3.out); replace hb := hb.trans (hb1.mono hb.size); clear hb1))
        go_ret
        exact ⟨rfl, hb⟩

end Go.Proofs.YtddnfbpgldchcaaGreatDoor
