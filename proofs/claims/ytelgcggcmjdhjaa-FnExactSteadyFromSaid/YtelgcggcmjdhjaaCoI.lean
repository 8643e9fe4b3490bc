/-
  The light inside at a tick, and whether a state is steady: the program's and the model's.
-/
import Derived.Test.YtelgcggcmjdhjaaCoS
import Derived.Test.YtelgcggcmjdhjaaCoQ
import Derived.Great.Walk
namespace Go.Proofs.Ytelgcggcmjdhjaa
open Go.ChangeShapes Go.WideShapes Go.ChangeAt Go.RowKit Go.Deep Go.Joins

attribute [local go_sem] run_store_f

theorem wpList_buildSlice5 {P : Program} {ops : Array Oper} {rest : List Oper} {o : Oper} {a : Act} {w : World} {Q : Exit → Act → World → Prop} (hg : o.guard = none) (t e : TypeId) (len : Nat) (parts : Array (Nat × Operand)) (ho : o.op = .buildSlice t len parts)
    (N : Nat) (hN : w.heap.size = N) (dst : Option Tmp) (hdst : o.dst = dst) (hu : P.underlying t = some (.slice e)) (cells : Array Value) (q : List (Nat × Value)) (hp : parts.toList.map (fun x => (x.1, a.eval x.2)) = q)
    (hf : P.builtSlice e len q = some cells)
    (h : wpList P ops Q rest (a.put dst (.slice (some ⟨N, 0, none⟩) len len)) (w.alloc (.cells cells e))) : wpList P ops Q (o :: rest) a w := by
  refine Great.wpList_buildSliceTo hg t e len parts ho N hN dst hdst hu cells ?_ h
  rw [Array.toList_map, ← hf, ← hp]
set_option maxRecDepth 100000 in
theorem built_tks (lg : Nat) (gu : Nat) (hg : Int) : Try.prog.builtSlice 40 1 [(0, .agg (tkC lg gu hg))] = some (tkC lg gu hg) := by kernel_rfl
/-- Everything that is asked holds. -/
def codeO (lo : Nat) (hi : Nat) (wi : Nat) (st : Int) (de : Int) (ca : Int) (n : Int) (wd gp : Nat) (t : Int) (sh : Nat) (ti : Int) (wt : Int) (sm : Int) (lg : Nat) (gu : Nat) (hg : Int) : Int := codeT (okCt lo hi wi st de ca) (okBl n wd gp t sh) (okSa ti wt sm) [(lg, gu, hg)]
theorem codeO_zero {lo hi wi : Nat} {st de ca n : Int} {wd gp : Nat} {t : Int} {sh : Nat} {ti wt sm : Int} {lg gu : Nat} {hg : Int} (h : codeO lo hi wi st de ca n wd gp t sh ti wt sm lg gu hg = 0) : okCt lo hi wi st de ca = true ∧ okBl n wd gp t sh = true ∧ okSa ti wt sm = true ∧ okTk lg gu hg = true := by
  unfold codeO codeT at h
  by_cases c : (okCt lo hi wi st de ca && okBl n wd gp t sh && okSa ti wt sm && List.all [(lg, gu, hg)] okT) = false
  · rw [if_pos c] at h; cases h
  · have c' := (Bool.not_eq_false _).mp c
    simp only [List.all_cons, List.all_nil, Bool.and_true, Bool.and_eq_true, okT] at c'
    exact ⟨c'.1.1.1, c'.1.1.2, c'.1.2, c'.2⟩
theorem ckO (lo : Nat) (hi : Nat) (wi : Nat) (st : Int) (de : Int) (ca : Int) (cw : CtWf lo hi wi st de ca) (n : Int) (wd gp : Nat) (t : Int) (sh : Nat) (bw : BlWf n wd gp t sh) (ti : Int) (wt : Int) (sm : Int) (sw : SaWf ti wt sm) (lg : Nat) (gu : Nat) (hg : Int) (kw : TkWf lg gu hg) (c : Int) (hc : codeO lo hi wi st de ca n wd gp t sh ti wt sm lg gu hg = c) (g : Nat) (T : TypeId) (fr : Nat × Nat) (w : World) (hg' : w.heap[g]? = some (.cells (tkC lg gu hg) T fr)) :
    Calls Try.prog 63 #[.agg (ctC lo hi wi st de ca), .agg (blindC n wd gp t sh), .agg (saC ti wt sm), .slice (some ⟨g, 0, none⟩) 1 1] w fun e w' => e = .returned (.int .i64 c) ∧ Below w.heap.size w w' := by
  subst hc
  exact checkTicks_any lo hi wi st de ca cw n wd gp t sh bw ti wt sm sw _ [(lg, gu, hg)] (fun x hx => by simp at hx; subst hx; exact kw) w (one_tick (lg, gu, hg) hg')
theorem asO (lo : Nat) (hi : Nat) (wi : Nat) (st : Int) (de : Int) (ca : Int) (cw : CtWf lo hi wi st de ca) (n : Int) (wd gp : Nat) (t : Int) (sh : Nat) (bw : BlWf n wd gp t sh) (ti : Int) (wt : Int) (sm : Int) (sw : SaWf ti wt sm) (lg : Nat) (gu : Nat) (hg : Int) (kw : TkWf lg gu hg) (c : Int) (hc : codeO lo hi wi st de ca n wd gp t sh ti wt sm lg gu hg = c) (g1 g2 g3 g : Nat) (T1 T2 T3 T : TypeId) (f1 f2 f3 fr : Nat × Nat) (w : World) (h1 : w.heap[g1]? = some (.cells (ctC lo hi wi st de ca) T1 f1)) (h2 : w.heap[g2]? = some (.cells (blindC n wd gp t sh) T2 f2)) (h3 : w.heap[g3]? = some (.cells (saC ti wt sm) T3 f3)) (hg' : w.heap[g]? = some (.cells (tkC lg gu hg) T fr)) :
    Calls Try.prog 61 #[.pointer (some ⟨g1, 0, none⟩), .pointer (some ⟨g2, 0, none⟩), .pointer (some ⟨g3, 0, none⟩), .slice (some ⟨g, 0, none⟩) 1 1] w fun e w' => e = .returned (.int .i64 c) ∧ Below w.heap.size w w' := by
  subst hc
  exact l05Asked_any lo hi wi st de ca cw n wd gp t sh bw ti wt sm sw _ [(lg, gu, hg)] (fun x hx => by simp at hx; subst hx; exact kw) g1 g2 g3 T1 T2 T3 f1 f2 f3 w h1 h2 h3 (one_tick (lg, gu, hg) hg')

set_option maxRecDepth 100000 in
set_option maxHeartbeats 1000000 in
theorem iInsideAt_no (lo : Nat) (hi : Nat) (wi : Nat) (st : Int) (de : Int) (ca : Int) (cw : CtWf lo hi wi st de ca) (n : Int) (wd gp : Nat) (t : Int) (sh : Nat) (bw : BlWf n wd gp t sh) (ti : Int) (wt : Int) (sm : Int) (sw : SaWf ti wt sm) (lg : Nat) (gu : Nat) (hg : Int) (kw : TkWf lg gu hg) (c : Int) (hc : codeO lo hi wi st de ca n wd gp t sh ti wt sm lg gu hg = c) (hne : c ≠ 0) (w : World) :
    Calls Try.prog 28 #[.agg (ctC lo hi wi st de ca), .agg (blindC n wd gp t sh), .agg (saC ti wt sm), .agg (tkC lg gu hg)] w fun e w' => e = .returned (.tuple #[.float .f32 0, .int .i64 c]) ∧ Below w.heap.size w w' := by
  have HC := Lib.hid (fun (W : World) hq => ckO lo hi wi st de ca cw n wd gp t sh bw ti wt sm sw lg gu hg kw c hc W.heap.size 40 (0, 0) (W.alloc (.cells (tkC lg gu hg) 40)) hq)
  have hne' : (c != 0) = true := bne_iff_ne.2 hne
  clear cw bw sw kw hc hne
  go_enter Try.func28, Try.ntmps28
  go_upto_region 1 with (fail)
  refine abs_world (fun W => W.heap[w.heap.size]? = some (.cells (ctC lo hi wi st de ca) 27 (0, 0)) ∧ W.heap[w.heap.size + 1]? = some (.cells (blindC n wd gp t sh) 49 (0, 0)) ∧ W.heap[w.heap.size + 1 + 1]? = some (.cells (saC ti wt sm) 34 (0, 0)) ∧ W.heap[w.heap.size + 1 + 1 + 1]? = some (.cells (tkC lg gu hg) 40 (0, 0)) ∧ Below w.heap.size w W) (box4 w (.cells (ctC lo hi wi st de ca) 27) (.cells (blindC n wd gp t sh) 49) (.cells (saC ti wt sm) 34) (.cells (tkC lg gu hg) 40)) ?_
  rintro W ⟨h0, h1, h2, h3, hb⟩
  have hl1 : w.heap.size < w.heap.size + 1 := by omega
  have hl2 : w.heap.size + 1 < w.heap.size + 1 + 1 := by omega
  have hl3 : w.heap.size + 1 + 1 < w.heap.size + 1 + 1 + 1 := by omega
  generalize w.heap.size + 1 + 1 + 1 = b3 at *
  generalize w.heap.size + 1 + 1 = b2 at *
  generalize w.heap.size + 1 = b1 at *
  have H0 := Lib.hid h0
  have H1 := Lib.hid h1
  have H2 := Lib.hid h2
  have H3 := Lib.hid h3
  clear h0 h1 h2 h3
  go_wp2_with (first | (refine wpList_load_part rfl 27 _ rfl w.heap.size 0 6 rfl 27 (ctC lo hi wi st de ca) (0, 0) _ H0.out Try.underlying27 rfl info_ct (ct_fits _ _ _ _ _ _) _ (ct_all _ _ _ _ _ _) ?_) | (refine wpList_load_part rfl 49 _ rfl b1 0 5 rfl 49 (blindC n wd gp t sh) (0, 0) _ H1.out Try.underlying49 rfl info_blind (blind_fits _ _ _ _ _) _ (blind_all _ _ _ _ _) ?_) | (refine wpList_load_part rfl 34 _ rfl b2 0 3 rfl 34 (saC ti wt sm) (0, 0) _ H2.out Try.underlying34 rfl info_sa (sa_fits _ _ _) _ (sa_all _ _ _) ?_) | (refine wpList_load_part rfl 40 _ rfl b3 0 3 rfl 40 (tkC lg gu hg) (0, 0) _ H3.out Try.underlying40 rfl info_tk (tk_fits _ _ _) _ (tk_all _ _ _) ?_) | (refine wpList_buildSlice5 rfl 92 40 1 _ rfl _ rfl _ rfl Try.underlying92 (tkC lg gu hg) [(0, .agg (tkC lg gu hg))] rfl (built_tks lg gu hg) ?_) | (go_at_call 63; refine (HC.out _ (heap_alloc_new _ _)).mono ?_; rintro e V1 ⟨rfl, hq1⟩; replace hq1 := ((Below.refl W.heap.size W).alloc (Nat.le_refl _) (.cells (tkC lg gu hg) 40)).trans (hq1.mono (by simp)); replace H0 := Lib.hid (below_row hq1 H0.out); replace H1 := Lib.hid (below_row hq1 H1.out); replace H2 := Lib.hid (below_row hq1 H2.out); replace H3 := Lib.hid (below_row hq1 H3.out); replace hb := hb.trans (hq1.mono hb.size); clear hq1))
  go_ret2
  exact ⟨rfl, hb⟩

set_option maxRecDepth 100000 in
set_option maxHeartbeats 1000000 in
theorem sInsideAt_no (lo : Nat) (hi : Nat) (wi : Nat) (st : Int) (de : Int) (ca : Int) (cw : CtWf lo hi wi st de ca) (n : Int) (wd gp : Nat) (t : Int) (sh : Nat) (bw : BlWf n wd gp t sh) (ti : Int) (wt : Int) (sm : Int) (sw : SaWf ti wt sm) (lg : Nat) (gu : Nat) (hg : Int) (kw : TkWf lg gu hg) (c : Int) (hc : codeO lo hi wi st de ca n wd gp t sh ti wt sm lg gu hg = c) (hne : c ≠ 0) (w : World) :
    Calls Try.prog 26 #[.agg (ctC lo hi wi st de ca), .agg (blindC n wd gp t sh), .agg (saC ti wt sm), .agg (tkC lg gu hg)] w fun e w' => e = .returned (.tuple #[.float .f32 0, .int .i64 c]) ∧ Below w.heap.size w w' := by
  have HC := Lib.hid (fun (W : World) (g1 g2 g3 : Nat) h1 h2 h3 hq => asO lo hi wi st de ca cw n wd gp t sh bw ti wt sm sw lg gu hg kw c hc g1 g2 g3 W.heap.size 27 49 34 40 (0, 0) (0, 0) (0, 0) (0, 0) (W.alloc (.cells (tkC lg gu hg) 40)) h1 h2 h3 hq)
  have hne' : (c != 0) = true := bne_iff_ne.2 hne
  clear cw bw sw kw hc hne
  go_enter Try.func26, Try.ntmps26
  go_upto_region 1 with (fail)
  refine abs_world (fun W => W.heap[w.heap.size]? = some (.cells (ctC lo hi wi st de ca) 27 (0, 0)) ∧ W.heap[w.heap.size + 1]? = some (.cells (blindC n wd gp t sh) 49 (0, 0)) ∧ W.heap[w.heap.size + 1 + 1]? = some (.cells (saC ti wt sm) 34 (0, 0)) ∧ W.heap[w.heap.size + 1 + 1 + 1]? = some (.cells (tkC lg gu hg) 40 (0, 0)) ∧ Below w.heap.size w W) (box4 w (.cells (ctC lo hi wi st de ca) 27) (.cells (blindC n wd gp t sh) 49) (.cells (saC ti wt sm) 34) (.cells (tkC lg gu hg) 40)) ?_
  rintro W ⟨h0, h1, h2, h3, hb⟩
  have hl1 : w.heap.size < w.heap.size + 1 := by omega
  have hl2 : w.heap.size + 1 < w.heap.size + 1 + 1 := by omega
  have hl3 : w.heap.size + 1 + 1 < w.heap.size + 1 + 1 + 1 := by omega
  generalize w.heap.size + 1 + 1 + 1 = b3 at *
  generalize w.heap.size + 1 + 1 = b2 at *
  generalize w.heap.size + 1 = b1 at *
  have H0 := Lib.hid h0
  have H1 := Lib.hid h1
  have H2 := Lib.hid h2
  have H3 := Lib.hid h3
  clear h0 h1 h2 h3
  go_wp2_with (first | (refine wpList_load_part rfl 27 _ rfl w.heap.size 0 6 rfl 27 (ctC lo hi wi st de ca) (0, 0) _ H0.out Try.underlying27 rfl info_ct (ct_fits _ _ _ _ _ _) _ (ct_all _ _ _ _ _ _) ?_) | (refine wpList_load_part rfl 49 _ rfl b1 0 5 rfl 49 (blindC n wd gp t sh) (0, 0) _ H1.out Try.underlying49 rfl info_blind (blind_fits _ _ _ _ _) _ (blind_all _ _ _ _ _) ?_) | (refine wpList_load_part rfl 34 _ rfl b2 0 3 rfl 34 (saC ti wt sm) (0, 0) _ H2.out Try.underlying34 rfl info_sa (sa_fits _ _ _) _ (sa_all _ _ _) ?_) | (refine wpList_load_part rfl 40 _ rfl b3 0 3 rfl 40 (tkC lg gu hg) (0, 0) _ H3.out Try.underlying40 rfl info_tk (tk_fits _ _ _) _ (tk_all _ _ _) ?_) | (refine wpList_buildSlice5 rfl 92 40 1 _ rfl _ rfl _ rfl Try.underlying92 (tkC lg gu hg) [(0, .agg (tkC lg gu hg))] rfl (built_tks lg gu hg) ?_) | (go_at_call 61; refine (HC.out _ _ _ _ (below_row ((Below.refl W.heap.size W).alloc (Nat.le_refl _) _) H0.out) (below_row ((Below.refl W.heap.size W).alloc (Nat.le_refl _) _) H1.out) (below_row ((Below.refl W.heap.size W).alloc (Nat.le_refl _) _) H2.out) (heap_alloc_new _ _)).mono ?_; rintro e V1 ⟨rfl, hq1⟩; replace hq1 := ((Below.refl W.heap.size W).alloc (Nat.le_refl _) (.cells (tkC lg gu hg) 40)).trans (hq1.mono (by simp)); replace H0 := Lib.hid (below_row hq1 H0.out); replace H1 := Lib.hid (below_row hq1 H1.out); replace H2 := Lib.hid (below_row hq1 H2.out); replace H3 := Lib.hid (below_row hq1 H3.out); replace hb := hb.trans (hq1.mono hb.size); clear hq1))
  go_ret2
  exact ⟨rfl, hb⟩

set_option maxRecDepth 100000 in
set_option maxHeartbeats 1000000 in
theorem iIsSteady_no (lo : Nat) (hi : Nat) (wi : Nat) (st : Int) (de : Int) (ca : Int) (cw : CtWf lo hi wi st de ca) (n : Int) (wd gp : Nat) (t : Int) (sh : Nat) (bw : BlWf n wd gp t sh) (ti : Int) (wt : Int) (sm : Int) (sw : SaWf ti wt sm) (lg : Nat) (gu : Nat) (hg : Int) (kw : TkWf lg gu hg) (c : Int) (hc : codeO lo hi wi st de ca n wd gp t sh ti wt sm lg gu hg = c) (hne : c ≠ 0) (w : World) :
    Calls Try.prog 34 #[.agg (ctC lo hi wi st de ca), .agg (blindC n wd gp t sh), .agg (saC ti wt sm), .agg (tkC lg gu hg)] w fun e w' => e = .returned (.tuple #[.bool false, .int .i64 c]) ∧ Below w.heap.size w w' := by
  have HC := Lib.hid (fun (W : World) hq => ckO lo hi wi st de ca cw n wd gp t sh bw ti wt sm sw lg gu hg kw c hc W.heap.size 40 (0, 0) (W.alloc (.cells (tkC lg gu hg) 40)) hq)
  have hne' : (c != 0) = true := bne_iff_ne.2 hne
  clear cw bw sw kw hc hne
  go_enter Try.func34, Try.ntmps34
  go_upto_region 1 with (fail)
  refine abs_world (fun W => W.heap[w.heap.size]? = some (.cells (ctC lo hi wi st de ca) 27 (0, 0)) ∧ W.heap[w.heap.size + 1]? = some (.cells (blindC n wd gp t sh) 49 (0, 0)) ∧ W.heap[w.heap.size + 1 + 1]? = some (.cells (saC ti wt sm) 34 (0, 0)) ∧ W.heap[w.heap.size + 1 + 1 + 1]? = some (.cells (tkC lg gu hg) 40 (0, 0)) ∧ Below w.heap.size w W) (box4 w (.cells (ctC lo hi wi st de ca) 27) (.cells (blindC n wd gp t sh) 49) (.cells (saC ti wt sm) 34) (.cells (tkC lg gu hg) 40)) ?_
  rintro W ⟨h0, h1, h2, h3, hb⟩
  have hl1 : w.heap.size < w.heap.size + 1 := by omega
  have hl2 : w.heap.size + 1 < w.heap.size + 1 + 1 := by omega
  have hl3 : w.heap.size + 1 + 1 < w.heap.size + 1 + 1 + 1 := by omega
  generalize w.heap.size + 1 + 1 + 1 = b3 at *
  generalize w.heap.size + 1 + 1 = b2 at *
  generalize w.heap.size + 1 = b1 at *
  have H0 := Lib.hid h0
  have H1 := Lib.hid h1
  have H2 := Lib.hid h2
  have H3 := Lib.hid h3
  clear h0 h1 h2 h3
  go_wp2_with (first | (refine wpList_load_part rfl 27 _ rfl w.heap.size 0 6 rfl 27 (ctC lo hi wi st de ca) (0, 0) _ H0.out Try.underlying27 rfl info_ct (ct_fits _ _ _ _ _ _) _ (ct_all _ _ _ _ _ _) ?_) | (refine wpList_load_part rfl 49 _ rfl b1 0 5 rfl 49 (blindC n wd gp t sh) (0, 0) _ H1.out Try.underlying49 rfl info_blind (blind_fits _ _ _ _ _) _ (blind_all _ _ _ _ _) ?_) | (refine wpList_load_part rfl 34 _ rfl b2 0 3 rfl 34 (saC ti wt sm) (0, 0) _ H2.out Try.underlying34 rfl info_sa (sa_fits _ _ _) _ (sa_all _ _ _) ?_) | (refine wpList_load_part rfl 40 _ rfl b3 0 3 rfl 40 (tkC lg gu hg) (0, 0) _ H3.out Try.underlying40 rfl info_tk (tk_fits _ _ _) _ (tk_all _ _ _) ?_) | (refine wpList_buildSlice5 rfl 92 40 1 _ rfl _ rfl _ rfl Try.underlying92 (tkC lg gu hg) [(0, .agg (tkC lg gu hg))] rfl (built_tks lg gu hg) ?_) | (go_at_call 63; refine (HC.out _ (heap_alloc_new _ _)).mono ?_; rintro e V1 ⟨rfl, hq1⟩; replace hq1 := ((Below.refl W.heap.size W).alloc (Nat.le_refl _) (.cells (tkC lg gu hg) 40)).trans (hq1.mono (by simp)); replace H0 := Lib.hid (below_row hq1 H0.out); replace H1 := Lib.hid (below_row hq1 H1.out); replace H2 := Lib.hid (below_row hq1 H2.out); replace H3 := Lib.hid (below_row hq1 H3.out); replace hb := hb.trans (hq1.mono hb.size); clear hq1))
  go_ret2
  exact ⟨rfl, hb⟩

set_option maxRecDepth 100000 in
set_option maxHeartbeats 1000000 in
theorem sIsSteady_no (lo : Nat) (hi : Nat) (wi : Nat) (st : Int) (de : Int) (ca : Int) (cw : CtWf lo hi wi st de ca) (n : Int) (wd gp : Nat) (t : Int) (sh : Nat) (bw : BlWf n wd gp t sh) (ti : Int) (wt : Int) (sm : Int) (sw : SaWf ti wt sm) (lg : Nat) (gu : Nat) (hg : Int) (kw : TkWf lg gu hg) (c : Int) (hc : codeO lo hi wi st de ca n wd gp t sh ti wt sm lg gu hg = c) (hne : c ≠ 0) (w : World) :
    Calls Try.prog 33 #[.agg (ctC lo hi wi st de ca), .agg (blindC n wd gp t sh), .agg (saC ti wt sm), .agg (tkC lg gu hg)] w fun e w' => e = .returned (.tuple #[.bool false, .int .i64 c]) ∧ Below w.heap.size w w' := by
  have HC := Lib.hid (fun (W : World) (g1 g2 g3 : Nat) h1 h2 h3 hq => asO lo hi wi st de ca cw n wd gp t sh bw ti wt sm sw lg gu hg kw c hc g1 g2 g3 W.heap.size 27 49 34 40 (0, 0) (0, 0) (0, 0) (0, 0) (W.alloc (.cells (tkC lg gu hg) 40)) h1 h2 h3 hq)
  have hne' : (c != 0) = true := bne_iff_ne.2 hne
  clear cw bw sw kw hc hne
  go_enter Try.func33, Try.ntmps33
  go_upto_region 1 with (fail)
  refine abs_world (fun W => W.heap[w.heap.size]? = some (.cells (ctC lo hi wi st de ca) 27 (0, 0)) ∧ W.heap[w.heap.size + 1]? = some (.cells (blindC n wd gp t sh) 49 (0, 0)) ∧ W.heap[w.heap.size + 1 + 1]? = some (.cells (saC ti wt sm) 34 (0, 0)) ∧ W.heap[w.heap.size + 1 + 1 + 1]? = some (.cells (tkC lg gu hg) 40 (0, 0)) ∧ Below w.heap.size w W) (box4 w (.cells (ctC lo hi wi st de ca) 27) (.cells (blindC n wd gp t sh) 49) (.cells (saC ti wt sm) 34) (.cells (tkC lg gu hg) 40)) ?_
  rintro W ⟨h0, h1, h2, h3, hb⟩
  have hl1 : w.heap.size < w.heap.size + 1 := by omega
  have hl2 : w.heap.size + 1 < w.heap.size + 1 + 1 := by omega
  have hl3 : w.heap.size + 1 + 1 < w.heap.size + 1 + 1 + 1 := by omega
  generalize w.heap.size + 1 + 1 + 1 = b3 at *
  generalize w.heap.size + 1 + 1 = b2 at *
  generalize w.heap.size + 1 = b1 at *
  have H0 := Lib.hid h0
  have H1 := Lib.hid h1
  have H2 := Lib.hid h2
  have H3 := Lib.hid h3
  clear h0 h1 h2 h3
  go_wp2_with (first | (refine wpList_load_part rfl 27 _ rfl w.heap.size 0 6 rfl 27 (ctC lo hi wi st de ca) (0, 0) _ H0.out Try.underlying27 rfl info_ct (ct_fits _ _ _ _ _ _) _ (ct_all _ _ _ _ _ _) ?_) | (refine wpList_load_part rfl 49 _ rfl b1 0 5 rfl 49 (blindC n wd gp t sh) (0, 0) _ H1.out Try.underlying49 rfl info_blind (blind_fits _ _ _ _ _) _ (blind_all _ _ _ _ _) ?_) | (refine wpList_load_part rfl 34 _ rfl b2 0 3 rfl 34 (saC ti wt sm) (0, 0) _ H2.out Try.underlying34 rfl info_sa (sa_fits _ _ _) _ (sa_all _ _ _) ?_) | (refine wpList_load_part rfl 40 _ rfl b3 0 3 rfl 40 (tkC lg gu hg) (0, 0) _ H3.out Try.underlying40 rfl info_tk (tk_fits _ _ _) _ (tk_all _ _ _) ?_) | (refine wpList_buildSlice5 rfl 92 40 1 _ rfl _ rfl _ rfl Try.underlying92 (tkC lg gu hg) [(0, .agg (tkC lg gu hg))] rfl (built_tks lg gu hg) ?_) | (go_at_call 61; refine (HC.out _ _ _ _ (below_row ((Below.refl W.heap.size W).alloc (Nat.le_refl _) _) H0.out) (below_row ((Below.refl W.heap.size W).alloc (Nat.le_refl _) _) H1.out) (below_row ((Below.refl W.heap.size W).alloc (Nat.le_refl _) _) H2.out) (heap_alloc_new _ _)).mono ?_; rintro e V1 ⟨rfl, hq1⟩; replace hq1 := ((Below.refl W.heap.size W).alloc (Nat.le_refl _) (.cells (tkC lg gu hg) 40)).trans (hq1.mono (by simp)); replace H0 := Lib.hid (below_row hq1 H0.out); replace H1 := Lib.hid (below_row hq1 H1.out); replace H2 := Lib.hid (below_row hq1 H2.out); replace H3 := Lib.hid (below_row hq1 H3.out); replace hb := hb.trans (hq1.mono hb.size); clear hq1))
  go_ret2
  exact ⟨rfl, hb⟩

set_option maxRecDepth 100000 in
set_option maxHeartbeats 1000000 in
theorem iInsideAt_yes (lo : Nat) (hi : Nat) (wi : Nat) (st : Int) (de : Int) (ca : Int) (cw : CtWf lo hi wi st de ca) (n : Int) (wd gp : Nat) (t : Int) (sh : Nat) (bw : BlWf n wd gp t sh) (ti : Int) (wt : Int) (sm : Int) (sw : SaWf ti wt sm) (lg : Nat) (gu : Nat) (hg : Int) (kw : TkWf lg gu hg) (hc : codeO lo hi wi st de ca n wd gp t sh ti wt sm lg gu hg = 0) (t1 w1 s1 : Int) (l1 : Nat) (ha : aftB lo hi wi st de ca wd gp sh ti wt sm lg gu hg = (t1, w1, s1, l1)) (w : World) :
    Calls Try.prog 28 #[.agg (ctC lo hi wi st de ca), .agg (blindC n wd gp t sh), .agg (saC ti wt sm), .agg (tkC lg gu hg)] w fun e w' => e = .returned (.tuple #[.float .f32 l1, .int .i64 0]) ∧ Below w.heap.size w w' := by
  obtain ⟨kc, kb, ks, kk⟩ := codeO_zero hc
  have ok := blok_of bw kb
  have co := ctok_of cw kc
  have so := saok_of ks
  have ko := tkok_of kw kk
  have HC := Lib.hid (fun (W : World) hq => ckO lo hi wi st de ca cw n wd gp t sh bw ti wt sm sw lg gu hg kw 0 hc W.heap.size 40 (0, 0) (W.alloc (.cells (tkC lg gu hg) 40)) hq)
  have HA := Lib.hid (fun w => after_any lo hi wi st de ca n wd gp t sh ti wt sm lg gu hg ok co ko so t1 w1 s1 l1 ha w)
  clear cw bw sw kw hc kc kb ks kk ok co so ko ha
  go_enter Try.func28, Try.ntmps28
  go_upto_region 1 with (fail)
  refine abs_world (fun W => W.heap[w.heap.size]? = some (.cells (ctC lo hi wi st de ca) 27 (0, 0)) ∧ W.heap[w.heap.size + 1]? = some (.cells (blindC n wd gp t sh) 49 (0, 0)) ∧ W.heap[w.heap.size + 1 + 1]? = some (.cells (saC ti wt sm) 34 (0, 0)) ∧ W.heap[w.heap.size + 1 + 1 + 1]? = some (.cells (tkC lg gu hg) 40 (0, 0)) ∧ Below w.heap.size w W) (box4 w (.cells (ctC lo hi wi st de ca) 27) (.cells (blindC n wd gp t sh) 49) (.cells (saC ti wt sm) 34) (.cells (tkC lg gu hg) 40)) ?_
  rintro W ⟨h0, h1, h2, h3, hb⟩
  have hl1 : w.heap.size < w.heap.size + 1 := by omega
  have hl2 : w.heap.size + 1 < w.heap.size + 1 + 1 := by omega
  have hl3 : w.heap.size + 1 + 1 < w.heap.size + 1 + 1 + 1 := by omega
  generalize w.heap.size + 1 + 1 + 1 = b3 at *
  generalize w.heap.size + 1 + 1 = b2 at *
  generalize w.heap.size + 1 = b1 at *
  have H0 := Lib.hid h0
  have H1 := Lib.hid h1
  have H2 := Lib.hid h2
  have H3 := Lib.hid h3
  clear h0 h1 h2 h3
  go_upto_region 4 with (first | (refine wpList_load_part rfl 27 _ rfl w.heap.size 0 6 rfl 27 (ctC lo hi wi st de ca) (0, 0) _ H0.out Try.underlying27 rfl info_ct (ct_fits _ _ _ _ _ _) _ (ct_all _ _ _ _ _ _) ?_) | (refine wpList_load_part rfl 49 _ rfl b1 0 5 rfl 49 (blindC n wd gp t sh) (0, 0) _ H1.out Try.underlying49 rfl info_blind (blind_fits _ _ _ _ _) _ (blind_all _ _ _ _ _) ?_) | (refine wpList_load_part rfl 34 _ rfl b2 0 3 rfl 34 (saC ti wt sm) (0, 0) _ H2.out Try.underlying34 rfl info_sa (sa_fits _ _ _) _ (sa_all _ _ _) ?_) | (refine wpList_load_part rfl 40 _ rfl b3 0 3 rfl 40 (tkC lg gu hg) (0, 0) _ H3.out Try.underlying40 rfl info_tk (tk_fits _ _ _) _ (tk_all _ _ _) ?_) | (refine wpList_buildSlice5 rfl 92 40 1 _ rfl _ rfl _ rfl Try.underlying92 (tkC lg gu hg) [(0, .agg (tkC lg gu hg))] rfl (built_tks lg gu hg) ?_) | (go_at_call 63; refine (HC.out _ (heap_alloc_new _ _)).mono ?_; rintro e V1 ⟨rfl, hq1⟩; replace hq1 := ((Below.refl W.heap.size W).alloc (Nat.le_refl _) (.cells (tkC lg gu hg) 40)).trans (hq1.mono (by simp)); replace H0 := Lib.hid (below_row hq1 H0.out); replace H1 := Lib.hid (below_row hq1 H1.out); replace H2 := Lib.hid (below_row hq1 H2.out); replace H3 := Lib.hid (below_row hq1 H3.out); replace hb := hb.trans (hq1.mono hb.size); clear hq1))
  refine wp_region_held_drew (S := (fun V => Below V1.heap.size V1 V)) (by kernel_rfl) ((Below.refl _ _).drew) (fun hHeld => ?_)
  refine take_op (i := 0) (d := 20) (v := .agg (ctC lo hi wi st de ca)) rfl rfl (by kernel_rfl) (by kernel_rfl) (by kernel_rfl) (fun _ _ _ h => h) (yields_row (by rfl) 27 (.tmp 4) (by rfl) w.heap.size 0 6 (by rfl) 27 (ctC lo hi wi st de ca) (0, 0) _ (fun _ h => below_row h H0.out) Try.underlying27 rfl info_ct (ct_fits _ _ _ _ _ _) (ctC lo hi wi st de ca) (ct_all _ _ _ _ _ _)) hHeld ?_
  simp only [List.setIfInBounds_toArray, List.set_cons_zero, List.set_cons_succ]
  refine take_op (i := 1) (d := 21) (v := .agg (blindC n wd gp t sh)) rfl rfl (by kernel_rfl) (by kernel_rfl) (by kernel_rfl) (fun _ _ _ h => h) (yields_row (by rfl) 49 (.tmp 5) (by rfl) b1 0 5 (by rfl) 49 (blindC n wd gp t sh) (0, 0) _ (fun _ h => below_row h H1.out) Try.underlying49 rfl info_blind (blind_fits _ _ _ _ _) (blindC n wd gp t sh) (blind_all _ _ _ _ _)) hHeld ?_
  simp only [List.setIfInBounds_toArray, List.set_cons_zero, List.set_cons_succ]
  refine take_op (i := 3) (d := 23) (v := .agg (saC ti wt sm)) rfl rfl (by kernel_rfl) (by kernel_rfl) (by kernel_rfl) (fun _ _ _ h => h) (yields_row (by rfl) 34 (.tmp 6) (by rfl) b2 0 3 (by rfl) 34 (saC ti wt sm) (0, 0) _ (fun _ h => below_row h H2.out) Try.underlying34 rfl info_sa (sa_fits _ _ _) (saC ti wt sm) (sa_all _ _ _)) hHeld ?_
  simp only [List.setIfInBounds_toArray, List.set_cons_zero, List.set_cons_succ]
  refine take_op (i := 4) (d := 24) (v := .agg (tkC lg gu hg)) rfl rfl (by kernel_rfl) (by kernel_rfl) (by kernel_rfl) (fun _ _ _ h => h) (yields_row (by rfl) 40 (.tmp 7) (by rfl) b3 0 3 (by rfl) 40 (tkC lg gu hg) (0, 0) _ (fun _ h => below_row h H3.out) Try.underlying40 rfl info_tk (tk_fits _ _ _) (tkC lg gu hg) (tk_all _ _ _)) hHeld ?_
  simp only [List.setIfInBounds_toArray, List.set_cons_zero, List.set_cons_succ]
  refine wpAnyH_ready (rs := [2]) (by kernel_rfl) (by simp) ?_
  refine AllReadyH.cons rfl (fun K hK => ?_) AllReadyH.nil
  go_simp
  refine (controllerOf_any lo hi wi st de ca n wd gp t sh _).mono ?_
  rintro e W1 ⟨rfl, hb1⟩
  refine hK.out _ _ (hHeld.trans (hb1.mono hHeld.size)) (fun hHeld2 => ?_)
  clear hK K
  replace hHeld := hHeld2
  clear hHeld2
  clear hb1
  refine wpAnyH_ready (rs := [5]) (by kernel_rfl) (by simp) ?_
  refine AllReadyH.cons rfl (fun K hK => ?_) AllReadyH.nil
  go_simp
  refine (HA.out _).mono ?_
  rintro e W2 ⟨rfl, hb2⟩
  refine hK.out _ _ (hHeld.trans (hb2.mono hHeld.size)) (fun hHeld2 => ?_)
  clear hK K
  replace hHeld := hHeld2
  clear hHeld2
  clear hb2
  refine take_op (i := 6) (d := 26) (v := .float .f32 l1) rfl rfl (by kernel_rfl) (by kernel_rfl) (by kernel_rfl) (fun _ _ _ h => h) (Or.inl ⟨by rfl, fun _ _ => by kernel_rfl⟩) hHeld ?_
  simp only [List.setIfInBounds_toArray, List.set_cons_zero, List.set_cons_succ]
  refine take_op (i := 7) (d := 8) (v := ?_) rfl rfl (by kernel_rfl) (by kernel_rfl) (by kernel_rfl) (fun _ _ _ h => h) (Or.inl ⟨by rfl, ?hy7u23⟩) hHeld ?rest7u23
  case hy7u23 =>
    intro w' hS'
    go_simp
    try with_reducible rfl
  simp only [List.setIfInBounds_toArray, List.set_cons_zero, List.set_cons_succ]
  refine take_op (i := 8) (d := 9) (v := ?_) rfl rfl (by kernel_rfl) (by kernel_rfl) (by kernel_rfl) (fun _ _ _ h => h) (Or.inl ⟨by rfl, ?hy8u24⟩) hHeld ?rest8u24
  case hy8u24 =>
    intro w' hS'
    go_simp
    try with_reducible rfl
  simp only [List.setIfInBounds_toArray, List.set_cons_zero, List.set_cons_succ]
  refine wpAnyH_done (by kernel_rfl) ?_ _
  replace H0 := Lib.hid (below_row hHeld H0.out)
  replace H1 := Lib.hid (below_row hHeld H1.out)
  replace H2 := Lib.hid (below_row hHeld H2.out)
  replace H3 := Lib.hid (below_row hHeld H3.out)
  replace hb := hb.trans (hHeld.mono hb.size)
  clear hHeld
  go_wp2
  go_ret2
  exact ⟨rfl, hb⟩

set_option maxRecDepth 100000 in
set_option maxHeartbeats 1000000 in
theorem iIsSteady_yes (lo : Nat) (hi : Nat) (wi : Nat) (st : Int) (de : Int) (ca : Int) (cw : CtWf lo hi wi st de ca) (n : Int) (wd gp : Nat) (t : Int) (sh : Nat) (bw : BlWf n wd gp t sh) (ti : Int) (wt : Int) (sm : Int) (sw : SaWf ti wt sm) (lg : Nat) (gu : Nat) (hg : Int) (kw : TkWf lg gu hg) (hc : codeO lo hi wi st de ca n wd gp t sh ti wt sm lg gu hg = 0) (t1 w1 s1 : Int) (l1 : Nat) (ha : aftB lo hi wi st de ca wd gp sh ti wt sm lg gu hg = (t1, w1, s1, l1)) (r : Bool) (hr : (t1 == ti && (w1 == wt && s1 == sm)) = r) (w : World) :
    Calls Try.prog 34 #[.agg (ctC lo hi wi st de ca), .agg (blindC n wd gp t sh), .agg (saC ti wt sm), .agg (tkC lg gu hg)] w fun e w' => e = .returned (.tuple #[.bool r, .int .i64 0]) ∧ Below w.heap.size w w' := by
  obtain ⟨kc, kb, ks, kk⟩ := codeO_zero hc
  have ok := blok_of bw kb
  have co := ctok_of cw kc
  have so := saok_of ks
  have ko := tkok_of kw kk
  have HC := Lib.hid (fun (W : World) hq => ckO lo hi wi st de ca cw n wd gp t sh bw ti wt sm sw lg gu hg kw 0 hc W.heap.size 40 (0, 0) (W.alloc (.cells (tkC lg gu hg) 40)) hq)
  have HA := Lib.hid (fun w => after_any lo hi wi st de ca n wd gp t sh ti wt sm lg gu hg ok co ko so t1 w1 s1 l1 ha w)
  have hq := run_eql_sa t1 w1 s1 ti wt sm
  rw [hr] at hq
  have hgd := fun w => run_eqGuard_agg (P := Try.prog) w .eql 34 (.tmp 26) (.tmp 27) (saC t1 w1 s1) (saC ti wt sm) (by kernel_rfl)
  clear hr
  clear cw bw sw kw hc kc kb ks kk ok co so ko ha
  go_enter Try.func34, Try.ntmps34
  go_upto_region 1 with (fail)
  refine abs_world (fun W => W.heap[w.heap.size]? = some (.cells (ctC lo hi wi st de ca) 27 (0, 0)) ∧ W.heap[w.heap.size + 1]? = some (.cells (blindC n wd gp t sh) 49 (0, 0)) ∧ W.heap[w.heap.size + 1 + 1]? = some (.cells (saC ti wt sm) 34 (0, 0)) ∧ W.heap[w.heap.size + 1 + 1 + 1]? = some (.cells (tkC lg gu hg) 40 (0, 0)) ∧ Below w.heap.size w W) (box4 w (.cells (ctC lo hi wi st de ca) 27) (.cells (blindC n wd gp t sh) 49) (.cells (saC ti wt sm) 34) (.cells (tkC lg gu hg) 40)) ?_
  rintro W ⟨h0, h1, h2, h3, hb⟩
  have hl1 : w.heap.size < w.heap.size + 1 := by omega
  have hl2 : w.heap.size + 1 < w.heap.size + 1 + 1 := by omega
  have hl3 : w.heap.size + 1 + 1 < w.heap.size + 1 + 1 + 1 := by omega
  generalize w.heap.size + 1 + 1 + 1 = b3 at *
  generalize w.heap.size + 1 + 1 = b2 at *
  generalize w.heap.size + 1 = b1 at *
  have H0 := Lib.hid h0
  have H1 := Lib.hid h1
  have H2 := Lib.hid h2
  have H3 := Lib.hid h3
  clear h0 h1 h2 h3
  go_upto_region 4 with (first | (refine wpList_load_part rfl 27 _ rfl w.heap.size 0 6 rfl 27 (ctC lo hi wi st de ca) (0, 0) _ H0.out Try.underlying27 rfl info_ct (ct_fits _ _ _ _ _ _) _ (ct_all _ _ _ _ _ _) ?_) | (refine wpList_load_part rfl 49 _ rfl b1 0 5 rfl 49 (blindC n wd gp t sh) (0, 0) _ H1.out Try.underlying49 rfl info_blind (blind_fits _ _ _ _ _) _ (blind_all _ _ _ _ _) ?_) | (refine wpList_load_part rfl 34 _ rfl b2 0 3 rfl 34 (saC ti wt sm) (0, 0) _ H2.out Try.underlying34 rfl info_sa (sa_fits _ _ _) _ (sa_all _ _ _) ?_) | (refine wpList_load_part rfl 40 _ rfl b3 0 3 rfl 40 (tkC lg gu hg) (0, 0) _ H3.out Try.underlying40 rfl info_tk (tk_fits _ _ _) _ (tk_all _ _ _) ?_) | (refine wpList_buildSlice5 rfl 92 40 1 _ rfl _ rfl _ rfl Try.underlying92 (tkC lg gu hg) [(0, .agg (tkC lg gu hg))] rfl (built_tks lg gu hg) ?_) | (go_at_call 63; refine (HC.out _ (heap_alloc_new _ _)).mono ?_; rintro e V1 ⟨rfl, hq1⟩; replace hq1 := ((Below.refl W.heap.size W).alloc (Nat.le_refl _) (.cells (tkC lg gu hg) 40)).trans (hq1.mono (by simp)); replace H0 := Lib.hid (below_row hq1 H0.out); replace H1 := Lib.hid (below_row hq1 H1.out); replace H2 := Lib.hid (below_row hq1 H2.out); replace H3 := Lib.hid (below_row hq1 H3.out); replace hb := hb.trans (hq1.mono hb.size); clear hq1))
  refine wp_region_held_drew (S := (fun V => Below V1.heap.size V1 V)) (by kernel_rfl) ((Below.refl _ _).drew) (fun hHeld => ?_)
  refine take_op (i := 0) (d := 20) (v := .agg (ctC lo hi wi st de ca)) rfl rfl (by kernel_rfl) (by kernel_rfl) (by kernel_rfl) (fun _ _ _ h => h) (yields_row (by rfl) 27 (.tmp 4) (by rfl) w.heap.size 0 6 (by rfl) 27 (ctC lo hi wi st de ca) (0, 0) _ (fun _ h => below_row h H0.out) Try.underlying27 rfl info_ct (ct_fits _ _ _ _ _ _) (ctC lo hi wi st de ca) (ct_all _ _ _ _ _ _)) hHeld ?_
  simp only [List.setIfInBounds_toArray, List.set_cons_zero, List.set_cons_succ]
  refine take_op (i := 1) (d := 21) (v := .agg (blindC n wd gp t sh)) rfl rfl (by kernel_rfl) (by kernel_rfl) (by kernel_rfl) (fun _ _ _ h => h) (yields_row (by rfl) 49 (.tmp 5) (by rfl) b1 0 5 (by rfl) 49 (blindC n wd gp t sh) (0, 0) _ (fun _ h => below_row h H1.out) Try.underlying49 rfl info_blind (blind_fits _ _ _ _ _) (blindC n wd gp t sh) (blind_all _ _ _ _ _)) hHeld ?_
  simp only [List.setIfInBounds_toArray, List.set_cons_zero, List.set_cons_succ]
  refine take_op (i := 3) (d := 23) (v := .agg (saC ti wt sm)) rfl rfl (by kernel_rfl) (by kernel_rfl) (by kernel_rfl) (fun _ _ _ h => h) (yields_row (by rfl) 34 (.tmp 6) (by rfl) b2 0 3 (by rfl) 34 (saC ti wt sm) (0, 0) _ (fun _ h => below_row h H2.out) Try.underlying34 rfl info_sa (sa_fits _ _ _) (saC ti wt sm) (sa_all _ _ _)) hHeld ?_
  simp only [List.setIfInBounds_toArray, List.set_cons_zero, List.set_cons_succ]
  refine take_op (i := 4) (d := 24) (v := .agg (tkC lg gu hg)) rfl rfl (by kernel_rfl) (by kernel_rfl) (by kernel_rfl) (fun _ _ _ h => h) (yields_row (by rfl) 40 (.tmp 7) (by rfl) b3 0 3 (by rfl) 40 (tkC lg gu hg) (0, 0) _ (fun _ h => below_row h H3.out) Try.underlying40 rfl info_tk (tk_fits _ _ _) (tkC lg gu hg) (tk_all _ _ _)) hHeld ?_
  simp only [List.setIfInBounds_toArray, List.set_cons_zero, List.set_cons_succ]
  refine take_op (i := 7) (d := 27) (v := .agg (saC ti wt sm)) rfl rfl (by kernel_rfl) (by kernel_rfl) (by kernel_rfl) (fun _ _ _ h => h) (yields_row (by rfl) 34 (.tmp 6) (by rfl) b2 0 3 (by rfl) 34 (saC ti wt sm) (0, 0) _ (fun _ h => below_row h H2.out) Try.underlying34 rfl info_sa (sa_fits _ _ _) (saC ti wt sm) (sa_all _ _ _)) hHeld ?_
  simp only [List.setIfInBounds_toArray, List.set_cons_zero, List.set_cons_succ]
  refine wpAnyH_ready (rs := [2]) (by kernel_rfl) (by simp) ?_
  refine AllReadyH.cons rfl (fun K hK => ?_) AllReadyH.nil
  go_simp
  refine (controllerOf_any lo hi wi st de ca n wd gp t sh _).mono ?_
  rintro e W1 ⟨rfl, hb1⟩
  refine hK.out _ _ (hHeld.trans (hb1.mono hHeld.size)) (fun hHeld2 => ?_)
  clear hK K
  replace hHeld := hHeld2
  clear hHeld2
  clear hb1
  refine wpAnyH_ready (rs := [5]) (by kernel_rfl) (by simp) ?_
  refine AllReadyH.cons rfl (fun K hK => ?_) AllReadyH.nil
  go_simp
  refine (HA.out _).mono ?_
  rintro e W2 ⟨rfl, hb2⟩
  refine hK.out _ _ (hHeld.trans (hb2.mono hHeld.size)) (fun hHeld2 => ?_)
  clear hK K
  replace hHeld := hHeld2
  clear hHeld2
  clear hb2
  refine take_op (i := 6) (d := 26) (v := .agg (saC t1 w1 s1)) rfl rfl (by kernel_rfl) (by kernel_rfl) (by kernel_rfl) (fun _ _ _ h => h) (Or.inl ⟨by rfl, fun _ _ => by kernel_rfl⟩) hHeld ?_
  simp only [List.setIfInBounds_toArray, List.set_cons_zero, List.set_cons_succ]
  refine take_op (i := 8) (d := 28) (v := ?_) rfl rfl (by kernel_rfl) (by kernel_rfl) (by kernel_rfl) (fun _ _ _ h => h) (Or.inl ⟨by rfl, ?hy8u25⟩) hHeld ?rest8u25
  case hy8u25 =>
    intro w' hS'
    go_simp
    try with_reducible rfl
  simp only [List.setIfInBounds_toArray, List.set_cons_zero, List.set_cons_succ]
  refine take_op (i := 9) (d := 8) (v := ?_) rfl rfl (by kernel_rfl) (by kernel_rfl) (by kernel_rfl) (fun _ _ _ h => h) (Or.inl ⟨by rfl, ?hy9u26⟩) hHeld ?rest9u26
  case hy9u26 =>
    intro w' hS'
    go_simp
    try with_reducible rfl
  simp only [List.setIfInBounds_toArray, List.set_cons_zero, List.set_cons_succ]
  refine take_op (i := 10) (d := 9) (v := ?_) rfl rfl (by kernel_rfl) (by kernel_rfl) (by kernel_rfl) (fun _ _ _ h => h) (Or.inl ⟨by rfl, ?hy10u27⟩) hHeld ?rest10u27
  case hy10u27 =>
    intro w' hS'
    go_simp
    try with_reducible rfl
  simp only [List.setIfInBounds_toArray, List.set_cons_zero, List.set_cons_succ]
  refine wpAnyH_done (by kernel_rfl) ?_ _
  replace H0 := Lib.hid (below_row hHeld H0.out)
  replace H1 := Lib.hid (below_row hHeld H1.out)
  replace H2 := Lib.hid (below_row hHeld H2.out)
  replace H3 := Lib.hid (below_row hHeld H3.out)
  replace hb := hb.trans (hHeld.mono hb.size)
  clear hHeld
  go_wp2
  go_ret2
  exact ⟨rfl, hb⟩

set_option maxRecDepth 100000 in
set_option maxHeartbeats 1000000 in
theorem sInsideAt_yes (lo : Nat) (hi : Nat) (wi : Nat) (st : Int) (de : Int) (ca : Int) (cw : CtWf lo hi wi st de ca) (n : Int) (wd gp : Nat) (t : Int) (sh : Nat) (bw : BlWf n wd gp t sh) (ti : Int) (wt : Int) (sm : Int) (sw : SaWf ti wt sm) (lg : Nat) (gu : Nat) (hg : Int) (kw : TkWf lg gu hg) (hc : codeO lo hi wi st de ca n wd gp t sh ti wt sm lg gu hg = 0) (t1 w1 s1 : Int) (l1 : Nat) (ha : aftB lo hi wi st de ca wd gp sh ti wt sm lg gu hg = (t1, w1, s1, l1)) (w : World) :
    Calls Try.prog 26 #[.agg (ctC lo hi wi st de ca), .agg (blindC n wd gp t sh), .agg (saC ti wt sm), .agg (tkC lg gu hg)] w fun e w' => e = .returned (.tuple #[.float .f32 l1, .int .i64 0]) ∧ Below w.heap.size w w' := by
  obtain ⟨kc, kb, ks, kk⟩ := codeO_zero hc
  have ok := blok_of bw kb
  have co := ctok_of cw kc
  have so := saok_of ks
  have ko := tkok_of kw kk
  have HC := Lib.hid (fun (W : World) (g1 g2 g3 : Nat) h1 h2 h3 hq => asO lo hi wi st de ca cw n wd gp t sh bw ti wt sm sw lg gu hg kw 0 hc g1 g2 g3 W.heap.size 27 49 34 40 (0, 0) (0, 0) (0, 0) (0, 0) (W.alloc (.cells (tkC lg gu hg) 40)) h1 h2 h3 hq)
  have HA := Lib.hid (fun (g1 g2 : Nat) w h1 h2 => l05Once_any lo hi wi st de ca n wd gp t sh ti wt sm lg gu hg ok co ko so t1 w1 s1 l1 ha g1 g2 0 27 (0, 0) w h1 h2)
  clear cw bw sw kw hc kc kb ks kk ok co so ko ha
  go_enter Try.func26, Try.ntmps26
  go_upto_region 1 with (fail)
  refine abs_world (fun W => W.heap[w.heap.size]? = some (.cells (ctC lo hi wi st de ca) 27 (0, 0)) ∧ W.heap[w.heap.size + 1]? = some (.cells (blindC n wd gp t sh) 49 (0, 0)) ∧ W.heap[w.heap.size + 1 + 1]? = some (.cells (saC ti wt sm) 34 (0, 0)) ∧ W.heap[w.heap.size + 1 + 1 + 1]? = some (.cells (tkC lg gu hg) 40 (0, 0)) ∧ Below w.heap.size w W) (box4 w (.cells (ctC lo hi wi st de ca) 27) (.cells (blindC n wd gp t sh) 49) (.cells (saC ti wt sm) 34) (.cells (tkC lg gu hg) 40)) ?_
  rintro W ⟨h0, h1, h2, h3, hb⟩
  have hl1 : w.heap.size < w.heap.size + 1 := by omega
  have hl2 : w.heap.size + 1 < w.heap.size + 1 + 1 := by omega
  have hl3 : w.heap.size + 1 + 1 < w.heap.size + 1 + 1 + 1 := by omega
  generalize w.heap.size + 1 + 1 + 1 = b3 at *
  generalize w.heap.size + 1 + 1 = b2 at *
  generalize w.heap.size + 1 = b1 at *
  have H0 := Lib.hid h0
  have H1 := Lib.hid h1
  have H2 := Lib.hid h2
  have H3 := Lib.hid h3
  clear h0 h1 h2 h3
  go_upto_region 4 with (first | (refine wpList_load_part rfl 27 _ rfl w.heap.size 0 6 rfl 27 (ctC lo hi wi st de ca) (0, 0) _ H0.out Try.underlying27 rfl info_ct (ct_fits _ _ _ _ _ _) _ (ct_all _ _ _ _ _ _) ?_) | (refine wpList_load_part rfl 49 _ rfl b1 0 5 rfl 49 (blindC n wd gp t sh) (0, 0) _ H1.out Try.underlying49 rfl info_blind (blind_fits _ _ _ _ _) _ (blind_all _ _ _ _ _) ?_) | (refine wpList_load_part rfl 34 _ rfl b2 0 3 rfl 34 (saC ti wt sm) (0, 0) _ H2.out Try.underlying34 rfl info_sa (sa_fits _ _ _) _ (sa_all _ _ _) ?_) | (refine wpList_load_part rfl 40 _ rfl b3 0 3 rfl 40 (tkC lg gu hg) (0, 0) _ H3.out Try.underlying40 rfl info_tk (tk_fits _ _ _) _ (tk_all _ _ _) ?_) | (refine wpList_buildSlice5 rfl 92 40 1 _ rfl _ rfl _ rfl Try.underlying92 (tkC lg gu hg) [(0, .agg (tkC lg gu hg))] rfl (built_tks lg gu hg) ?_) | (go_at_call 61; refine (HC.out _ _ _ _ (below_row ((Below.refl W.heap.size W).alloc (Nat.le_refl _) _) H0.out) (below_row ((Below.refl W.heap.size W).alloc (Nat.le_refl _) _) H1.out) (below_row ((Below.refl W.heap.size W).alloc (Nat.le_refl _) _) H2.out) (heap_alloc_new _ _)).mono ?_; rintro e V1 ⟨rfl, hq1⟩; replace hq1 := ((Below.refl W.heap.size W).alloc (Nat.le_refl _) (.cells (tkC lg gu hg) 40)).trans (hq1.mono (by simp)); replace H0 := Lib.hid (below_row hq1 H0.out); replace H1 := Lib.hid (below_row hq1 H1.out); replace H2 := Lib.hid (below_row hq1 H2.out); replace H3 := Lib.hid (below_row hq1 H3.out); replace hb := hb.trans (hq1.mono hb.size); clear hq1))
  go_upto_region 5 with (first | (refine wpList_load_part rfl 27 _ rfl w.heap.size 0 6 rfl 27 (ctC lo hi wi st de ca) (0, 0) _ H0.out Try.underlying27 rfl info_ct (ct_fits _ _ _ _ _ _) _ (ct_all _ _ _ _ _ _) ?_) | (refine wpList_load_part rfl 49 _ rfl b1 0 5 rfl 49 (blindC n wd gp t sh) (0, 0) _ H1.out Try.underlying49 rfl info_blind (blind_fits _ _ _ _ _) _ (blind_all _ _ _ _ _) ?_) | (refine wpList_load_part rfl 34 _ rfl b2 0 3 rfl 34 (saC ti wt sm) (0, 0) _ H2.out Try.underlying34 rfl info_sa (sa_fits _ _ _) _ (sa_all _ _ _) ?_) | (refine wpList_load_part rfl 40 _ rfl b3 0 3 rfl 40 (tkC lg gu hg) (0, 0) _ H3.out Try.underlying40 rfl info_tk (tk_fits _ _ _) _ (tk_all _ _ _) ?_) | (go_at_call 62; refine (HA.out _ _ _ H0.out (tk_cells H3.out)).mono ?_; rintro e V2 ⟨rfl, hq2⟩; replace H0 := Lib.hid (below_row hq2 H0.out); replace H1 := Lib.hid (below_row hq2 H1.out); replace H2 := Lib.hid (below_row hq2 H2.out); replace H3 := Lib.hid (below_row hq2 H3.out); replace hb := hb.trans (hq2.mono hb.size); clear hq2) | (refine wpList_store_part rfl 34 _ _ rfl V2.heap.size 0 (saC t1 w1 s1) rfl rfl 34 (saC 0 0 0) (heap_alloc_new _ _) info_sa (Nat.le_refl _) (sa_one _ _ _) ?_; rw [laid_all5 (saC 0 0 0) (saC t1 w1 s1) rfl]))
  have hba : Below w.heap.size w (V2.alloc (.cells (saC 0 0 0) 34)) := hb.alloc hb.size _
  refine abs_world (fun V => V.heap[V2.heap.size]? = some (.cells (saC t1 w1 s1) 34 (0, 0)) ∧ Below w.heap.size w V) ⟨setRow_heap _ _ _ _ _ _ (heap_alloc_new _ _), below_setRow hba hb.size _⟩ ?_
  clear H0 H1 H2 H3 hb hba
  rintro V3 ⟨qn, hb⟩
  have KN := Lib.hid qn
  clear qn
  go_wp2
  go_ret2
  exact ⟨rfl, hb⟩

set_option maxRecDepth 100000 in
set_option maxHeartbeats 1000000 in
theorem sIsSteady_yes (lo : Nat) (hi : Nat) (wi : Nat) (st : Int) (de : Int) (ca : Int) (cw : CtWf lo hi wi st de ca) (n : Int) (wd gp : Nat) (t : Int) (sh : Nat) (bw : BlWf n wd gp t sh) (ti : Int) (wt : Int) (sm : Int) (sw : SaWf ti wt sm) (lg : Nat) (gu : Nat) (hg : Int) (kw : TkWf lg gu hg) (hc : codeO lo hi wi st de ca n wd gp t sh ti wt sm lg gu hg = 0) (t1 w1 s1 : Int) (l1 : Nat) (ha : aftB lo hi wi st de ca wd gp sh ti wt sm lg gu hg = (t1, w1, s1, l1)) (r : Bool) (hr : (t1 == ti && (w1 == wt && s1 == sm)) = r) (w : World) :
    Calls Try.prog 33 #[.agg (ctC lo hi wi st de ca), .agg (blindC n wd gp t sh), .agg (saC ti wt sm), .agg (tkC lg gu hg)] w fun e w' => e = .returned (.tuple #[.bool r, .int .i64 0]) ∧ Below w.heap.size w w' := by
  obtain ⟨kc, kb, ks, kk⟩ := codeO_zero hc
  have ok := blok_of bw kb
  have co := ctok_of cw kc
  have so := saok_of ks
  have ko := tkok_of kw kk
  have HC := Lib.hid (fun (W : World) (g1 g2 g3 : Nat) h1 h2 h3 hq => asO lo hi wi st de ca cw n wd gp t sh bw ti wt sm sw lg gu hg kw 0 hc g1 g2 g3 W.heap.size 27 49 34 40 (0, 0) (0, 0) (0, 0) (0, 0) (W.alloc (.cells (tkC lg gu hg) 40)) h1 h2 h3 hq)
  have HA := Lib.hid (fun (g1 g2 : Nat) w h1 h2 => l05Once_any lo hi wi st de ca n wd gp t sh ti wt sm lg gu hg ok co ko so t1 w1 s1 l1 ha g1 g2 0 27 (0, 0) w h1 h2)
  have hq := run_eql_sa t1 w1 s1 ti wt sm
  rw [hr] at hq
  have hgd := fun w => run_eqGuard_agg (P := Try.prog) w .eql 34 (.tmp 25) (.tmp 26) (saC t1 w1 s1) (saC ti wt sm) (by kernel_rfl)
  clear hr
  clear cw bw sw kw hc kc kb ks kk ok co so ko ha
  go_enter Try.func33, Try.ntmps33
  go_upto_region 1 with (fail)
  refine abs_world (fun W => W.heap[w.heap.size]? = some (.cells (ctC lo hi wi st de ca) 27 (0, 0)) ∧ W.heap[w.heap.size + 1]? = some (.cells (blindC n wd gp t sh) 49 (0, 0)) ∧ W.heap[w.heap.size + 1 + 1]? = some (.cells (saC ti wt sm) 34 (0, 0)) ∧ W.heap[w.heap.size + 1 + 1 + 1]? = some (.cells (tkC lg gu hg) 40 (0, 0)) ∧ Below w.heap.size w W) (box4 w (.cells (ctC lo hi wi st de ca) 27) (.cells (blindC n wd gp t sh) 49) (.cells (saC ti wt sm) 34) (.cells (tkC lg gu hg) 40)) ?_
  rintro W ⟨h0, h1, h2, h3, hb⟩
  have hl1 : w.heap.size < w.heap.size + 1 := by omega
  have hl2 : w.heap.size + 1 < w.heap.size + 1 + 1 := by omega
  have hl3 : w.heap.size + 1 + 1 < w.heap.size + 1 + 1 + 1 := by omega
  generalize w.heap.size + 1 + 1 + 1 = b3 at *
  generalize w.heap.size + 1 + 1 = b2 at *
  generalize w.heap.size + 1 = b1 at *
  have H0 := Lib.hid h0
  have H1 := Lib.hid h1
  have H2 := Lib.hid h2
  have H3 := Lib.hid h3
  clear h0 h1 h2 h3
  go_upto_region 4 with (first | (refine wpList_load_part rfl 27 _ rfl w.heap.size 0 6 rfl 27 (ctC lo hi wi st de ca) (0, 0) _ H0.out Try.underlying27 rfl info_ct (ct_fits _ _ _ _ _ _) _ (ct_all _ _ _ _ _ _) ?_) | (refine wpList_load_part rfl 49 _ rfl b1 0 5 rfl 49 (blindC n wd gp t sh) (0, 0) _ H1.out Try.underlying49 rfl info_blind (blind_fits _ _ _ _ _) _ (blind_all _ _ _ _ _) ?_) | (refine wpList_load_part rfl 34 _ rfl b2 0 3 rfl 34 (saC ti wt sm) (0, 0) _ H2.out Try.underlying34 rfl info_sa (sa_fits _ _ _) _ (sa_all _ _ _) ?_) | (refine wpList_load_part rfl 40 _ rfl b3 0 3 rfl 40 (tkC lg gu hg) (0, 0) _ H3.out Try.underlying40 rfl info_tk (tk_fits _ _ _) _ (tk_all _ _ _) ?_) | (refine wpList_buildSlice5 rfl 92 40 1 _ rfl _ rfl _ rfl Try.underlying92 (tkC lg gu hg) [(0, .agg (tkC lg gu hg))] rfl (built_tks lg gu hg) ?_) | (go_at_call 61; refine (HC.out _ _ _ _ (below_row ((Below.refl W.heap.size W).alloc (Nat.le_refl _) _) H0.out) (below_row ((Below.refl W.heap.size W).alloc (Nat.le_refl _) _) H1.out) (below_row ((Below.refl W.heap.size W).alloc (Nat.le_refl _) _) H2.out) (heap_alloc_new _ _)).mono ?_; rintro e V1 ⟨rfl, hq1⟩; replace hq1 := ((Below.refl W.heap.size W).alloc (Nat.le_refl _) (.cells (tkC lg gu hg) 40)).trans (hq1.mono (by simp)); replace H0 := Lib.hid (below_row hq1 H0.out); replace H1 := Lib.hid (below_row hq1 H1.out); replace H2 := Lib.hid (below_row hq1 H2.out); replace H3 := Lib.hid (below_row hq1 H3.out); replace hb := hb.trans (hq1.mono hb.size); clear hq1))
  go_upto_region 5 with (first | (refine wpList_load_part rfl 27 _ rfl w.heap.size 0 6 rfl 27 (ctC lo hi wi st de ca) (0, 0) _ H0.out Try.underlying27 rfl info_ct (ct_fits _ _ _ _ _ _) _ (ct_all _ _ _ _ _ _) ?_) | (refine wpList_load_part rfl 49 _ rfl b1 0 5 rfl 49 (blindC n wd gp t sh) (0, 0) _ H1.out Try.underlying49 rfl info_blind (blind_fits _ _ _ _ _) _ (blind_all _ _ _ _ _) ?_) | (refine wpList_load_part rfl 34 _ rfl b2 0 3 rfl 34 (saC ti wt sm) (0, 0) _ H2.out Try.underlying34 rfl info_sa (sa_fits _ _ _) _ (sa_all _ _ _) ?_) | (refine wpList_load_part rfl 40 _ rfl b3 0 3 rfl 40 (tkC lg gu hg) (0, 0) _ H3.out Try.underlying40 rfl info_tk (tk_fits _ _ _) _ (tk_all _ _ _) ?_) | (go_at_call 62; refine (HA.out _ _ _ H0.out (tk_cells H3.out)).mono ?_; rintro e V2 ⟨rfl, hq2⟩; replace H0 := Lib.hid (below_row hq2 H0.out); replace H1 := Lib.hid (below_row hq2 H1.out); replace H2 := Lib.hid (below_row hq2 H2.out); replace H3 := Lib.hid (below_row hq2 H3.out); replace hb := hb.trans (hq2.mono hb.size); clear hq2) | (refine wpList_store_part rfl 34 _ _ rfl V2.heap.size 0 (saC t1 w1 s1) rfl rfl 34 (saC 0 0 0) (heap_alloc_new _ _) info_sa (Nat.le_refl _) (sa_one _ _ _) ?_; rw [laid_all5 (saC 0 0 0) (saC t1 w1 s1) rfl]))
  have l2 := row_lt H2.out
  have hba : Below w.heap.size w (V2.alloc (.cells (saC 0 0 0) 34)) := hb.alloc hb.size _
  refine abs_world (fun V => V.heap[b2]? = some (.cells (saC ti wt sm) 34 (0, 0)) ∧ V.heap[V2.heap.size]? = some (.cells (saC t1 w1 s1) 34 (0, 0)) ∧ Below w.heap.size w V) ⟨(setRow_other _ _ _ _ (by omega)).trans (below_row ((Below.refl _ _).alloc (Nat.le_refl _) _) H2.out), setRow_heap _ _ _ _ _ _ (heap_alloc_new _ _), below_setRow hba hb.size _⟩ ?_
  clear H0 H1 H2 H3 hb hba
  rintro V3 ⟨q2, qn, hb⟩
  have K2 := Lib.hid q2
  have KN := Lib.hid qn
  clear q2 qn
  generalize V2.heap.size = bn at *
  go_wp2_with (first | (refine wpList_load_part rfl 34 _ rfl b2 0 3 rfl 34 (saC ti wt sm) (0, 0) _ K2.out Try.underlying34 rfl info_sa (sa_fits _ _ _) _ (sa_all _ _ _) ?_) | (refine wpList_load_part rfl 34 _ rfl bn 0 3 rfl 34 (saC t1 w1 s1) (0, 0) _ KN.out Try.underlying34 rfl info_sa (sa_fits _ _ _) _ (sa_all _ _ _) ?_))
  go_ret2
  exact ⟨rfl, hb⟩

end Go.Proofs.Ytelgcggcmjdhjaa
