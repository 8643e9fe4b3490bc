/-
  FwE, FwF, DyW, FtQ, SameBlind, TpC, SrG.
-/
import Derived.Test.YtddnfbpgldchcaaGreatDoorMt3
import Derived.Test.YtddnfbpgldchcaaGreatDoorMt2
import Derived.Test.YtddnfbpgldchcaaGreatDoorMt1
import Derived.Test.YtddnfbpgldchcaaGreatDoorBok
import Derived.Test.YtddnfbpgldchcaaGreatDoorBlk
import Derived.Test.YtddnfbpgldchcaaGreatDoorBlind
import Derived.Test.YtddnfbpgldchcaaGreatDoorLaw
import Derived.Test.YtddnfbpgldchcaaGreatDoorSgn
import Derived.Laws.StructEq
import Derived.StillTailTactics
import Derived.Test.YtddnfbpgldchcaaGreatDoorTake
import Derived.Test.YtddnfbpgldchcaaGreatDoorCoG
import Derived.Test.YtddnfbpgldchcaaGreatDoorCoJ
import Derived.Test.YtddnfbpgldchcaaGreatDoorGenL
import Derived.Deep.Slices
import Derived.ChangeSlices
import Derived.ChangeShapes
import Derived.ChangeSame
import Derived.WalkSpells

namespace Go.Proofs.YtddnfbpgldchcaaGreatDoor

open Go.ChangeShapes Go.WideShapes Go.ChangeAt Go.RowKit Go.Deep Go.Joins

attribute [local go_sem] run_store_f

theorem laid_allC (cs vs : Array Value) (h : cs.size = vs.size) : laid cs vs 0 = vs := by
  apply Array.ext'
  simp [laid]
  rw [← h]; simp

theorem run_store_rowC {P : Program} (w : World) (g : Nat) (t : TypeId) (vs old : Array Value) (hg : w.heap[g]? = some (.cells old t (0, 0))) (hs : old.size = vs.size) (h1 : ∀ v ∈ vs, v.oneCell' = true) :
    (storeCells ⟨g, 0, none⟩ vs.toList).run P w = .ok () (w.setRow g vs) := by
  have hst := run_storeCells_at P g 0 t vs.toList 0 old w hg (by simp; omega) (fun v hv => h1 v (by simpa using hv))
  have hl := laid_allC old vs hs
  unfold laid at hl
  simp only [Nat.add_zero] at hst
  rw [hst]
  simp at hl ⊢
  rw [hl]

theorem want_tilt {P : Int → Bool} {x : Int} (h : x ∈ wantT P (tls 129)) : -64 ≤ x ∧ x ≤ 64 := by
  unfold wantT at h
  obtain ⟨y, _, rfl⟩ := List.mem_map.1 (List.mem_filter.1 h).1
  exact y.2

theorem results_plan {fn : Func} {p u v : Tmp} (h : fn.results = #[.cell p 52, .tmp u, .tmp v]) (tmps : Array Value) (w : World) (g : Nat) (xs : List Int) (hx : xs.length = 24) (hp : tmps.getD p undef = .pointer (some ⟨g, 0, none⟩)) (hg : w.heap[g]? = some (.cells (i16s xs) 52 (0, 0))) :
    (results fn tmps).run Tryz.prog w = .ok (.tuple #[.agg (i16s xs), tmps.getD u undef, tmps.getD v undef]) w := by
  have e := run_loadVar_row w g 52 52 (i16s xs) (0, 0) _ hg Tryz.underlying52 rfl (by rw [i16s_size, hx]; exact info_plan)
  have e0 : (results fn tmps).run Tryz.prog w =
      ((asAddr (tmps.getD p undef)).run Tryz.prog w).andThen fun a w₁ => ((loadVar 52 a).run Tryz.prog w₁).andThen fun x w₂ => .ok (.tuple #[x, tmps.getD u undef, tmps.getD v undef]) w₂ := by
    simp only [results, h]
    simp [Sem.run_bind, Result.andThen]
  rw [e0, hp]
  simp only [asAddr, Sem.run_pure, Result.andThen_ok, e]

set_option maxRecDepth 100000 in
set_option maxHeartbeats 8000000 in
theorem iFew_yes (n : Int) (wd gp : Nat) (t : Int) (sh : Nat) (hs ts : List Int) (hh : hs.length = 24) (ht : ts.length = 24) (fc : Int) (lo hi : Nat) (bw : BlWf n wd gp t sh) (T0 : -32768 ≤ t) (T1 : t ≤ 32767) (hf : inF fc = true) (hlo : partB lo = true) (hhi : partB hi = true) (hc : cdP true (okBl n wd gp t sh) (okB hs ts) true = 0) (T : Nat → List Int) (hT : T = (fun h : Nat => wantT (kpB hs ts fc lo hi wd gp sh (h : Int)) (tls 129)))
    (p : List Int) (hp : ∀ k, k = 24 → (stF T [] k).plan = p) (pl : List Int) (nn cc : Int) (hA : (∀ h, h < 24 → T h ≠ []) → pl = p ∧ nn = (cntR p 24 : Int) - 1 ∧ cc = 0) (hB : (∃ h, h < 24 ∧ T h = []) → pl = zP ∧ nn = 0 ∧ cc = 6) (w : World) (hE : ErrT w) :
    Calls Tryz.prog 20 #[.agg (blindC n wd gp t sh), .agg (sunC hs ts), .int .i64 fc, .float .f32 lo, .float .f32 hi] w fun e w' => e = .returned (.tuple #[.agg (i16s pl), .int .i64 nn, .int .i64 cc]) ∧ Below w.heap.size w w' := by
  have HC := Lib.hid (fun w => checkDay_ok n wd gp t sh hs ts hh ht T0 T1 true hc w)
  obtain ⟨_, hk, hos, _⟩ := cdP_yes hc
  have OK := blok_of bw hk
  have dh : DyHr hs ts fc := ⟨fun k hk => hrok_of hh ht hos (by omega) (by omega) hf⟩
  have HDO := Lib.hid (fun w => dayOf_any hs ts hh ht fc lo hi n wd gp t sh w)
  have HAT : Hid (∀ w, Calls Tryz.prog 68 #[.agg (dayC hs ts fc lo hi n wd gp t sh)] w (AllT w T)) := by rw [hT]; exact fun w => allTilts_any hs ts hh ht fc lo hi n wd gp t sh OK dh w
  have hb64 : ∀ j, j < 24 → ∀ x ∈ T j, -64 ≤ x ∧ x ≤ 64 := by rw [hT]; exact fun j _ x hx => want_tilt hx
  have hlen : ∀ j, (T j).length ≤ 129 := by
    rw [hT]
    intro j
    refine Nat.le_trans (wantT_len _ _) ?_
    simp [tls]
  have hpl : p.length = 24 := by rw [← hp 24 rfl]; exact stF_len T [] 24
  have HSTD := Lib.hid (fun zs h1 h2 h3 w h4 => steadiest_any zs h1 h2 T h3 hb64 hlen w h4 p hp hpl)
  have HPL := Lib.hid hpl
  have HCH := Lib.hid (fun w => changes_any p hpl w)
  obtain ⟨hgh, hgt⟩ : ∃ b : Bool, b = true := ⟨true, rfl⟩
  have HF := Lib.hid hf
  have HLo := Lib.hid hlo
  have HHi : Hid (partB hi = hgh) := by rw [hgt]; exact hhi
  have Hh := Lib.hid hh
  have Ht := Lib.hid ht
  have HZB : Hid (Tryz.prog.built 52 [] = some (i16s zP)) := by unfold Hid; kernel_rfl
  have hn := fun w => run_neq_nil_nil (P := Tryz.prog) (w := w) 114 (by kernel_rfl)
  have HBT : Hid (Tryz.prog.built 99 [(0, .float .f32 lo), (1, .float .f32 hi)] = some (bnC lo hi)) := by unfold Hid; kernel_rfl
  have HE0 := Lib.hid hE
  have HAA := Lib.hid hA
  have HBB := Lib.hid hB
  subst hgt
  clear hh ht hc hf hlo hhi OK dh bw hE hA hB hp hb64 hlen hpl hT
  go_enter Tryz.func20, Tryz.ntmps20
  go_upto_region 1 with (fail)
  refine abs_code (fun W => W.heap[w.heap.size]? = some (.cells (blindC n wd gp t sh) 32 (0, 0)) ∧ W.heap[w.heap.size + 1]? = some (.cells (sunC hs ts) 27 (0, 0)) ∧ W.heap[w.heap.size + 1 + 1]? = some (.cells (i16s zP) 52 (0, 0)) ∧ Below w.heap.size w W) ⟨(three_new _ _ _ _).1, (three_new _ _ _ _).2.1, (three_new _ _ _ _).2.2.1, (three_new _ _ _ _).2.2.2⟩ ?_
  rintro W ⟨h0, h1, h2, hb⟩
  have n01 : w.heap.size < w.heap.size + 1 := by omega
  have n12 : w.heap.size + 1 < w.heap.size + 1 + 1 := by omega
  have hle2 : w.heap.size ≤ w.heap.size + 1 + 1 := by omega
  generalize w.heap.size + 1 + 1 = b2 at *
  generalize w.heap.size + 1 = b1 at *
  have H0 := Lib.hid h0
  have H1 := Lib.hid h1
  have H2 := Lib.hid h2
  clear h0 h1 h2
  refine wp_region_held_drew (S := (fun V => Below W.heap.size W V)) (by kernel_rfl) (Below.refl _ _).drew (fun hHeld => ?_)
  refine take_op (i := 0) (d := 17) (v := .agg (blindC n wd gp t sh)) rfl rfl (by kernel_rfl) (by kernel_rfl) (by kernel_rfl) (fun _ _ _ h => h) (yields_row (by rfl) 32 (.tmp 5) (by rfl) w.heap.size 0 5 (by rfl) 32 (blindC n wd gp t sh) (0, 0) _ (fun _ h => below_row h H0.out) Tryz.underlying32 rfl info_blind (blind_fits _ _ _ _ _) (blindC n wd gp t sh) (blind_all _ _ _ _ _)) hHeld ?_
  simp only [List.setIfInBounds_toArray, List.set_cons_zero, List.set_cons_succ]
  refine take_op (i := 1) (d := 18) (v := .agg (sunC hs ts)) rfl rfl (by kernel_rfl) (by kernel_rfl) (by kernel_rfl) (fun _ _ _ h => h) (yields_row (by rfl) 27 (.tmp 6) (by rfl) b1 0 48 (by rfl) 27 (sunC hs ts) (0, 0) _ (fun _ h => below_row h H1.out) Tryz.underlying27 rfl info_sun (sun_fits _ _ Hh.out Ht.out) (sunC hs ts) (sun_all _ _ Hh.out Ht.out)) hHeld ?_
  simp only [List.setIfInBounds_toArray, List.set_cons_zero, List.set_cons_succ]
  refine take_op (i := 2) (d := 19) (v := ?_) rfl rfl (by kernel_rfl) (by kernel_rfl) (by kernel_rfl) (fun _ _ _ h => h) (Or.inl ⟨by rfl, ?hy2u229⟩) hHeld ?rest2u229
  case hy2u229 =>
    intro w' hS'
    go_simp
    try with_reducible rfl
  simp only [List.setIfInBounds_toArray, List.set_cons_zero, List.set_cons_succ]
  refine wpAnyH_ready (rs := [3]) (by kernel_rfl) (by simp) ?_
  refine AllReadyH.cons rfl (fun K hK => ?_) AllReadyH.nil
  go_simp
  refine (isFacing_is fc true HF.out _).mono ?_
  rintro e w' ⟨rfl, rfl⟩
  refine hK.out _ _ (hHeld) (fun hHeld2 => ?_)
  clear hK K
  replace hHeld := hHeld2
  clear hHeld2
  refine take_op (i := 4) (d := 21) (v := ?_) rfl rfl (by kernel_rfl) (by kernel_rfl) (by kernel_rfl) (fun _ _ _ h => h) (Or.inl ⟨by rfl, ?hy4u230⟩) hHeld ?rest4u230
  case hy4u230 =>
    intro w' hS'
    go_simp
    try with_reducible rfl
  simp only [List.setIfInBounds_toArray, List.set_cons_zero, List.set_cons_succ]
  refine take_op (i := 5) (d := 22) (v := ?_) rfl rfl (by kernel_rfl) (by kernel_rfl) (by kernel_rfl) (fun _ _ _ h => h) (Or.inl ⟨by rfl, ?hy5u231⟩) hHeld ?rest5u231
  case hy5u231 =>
    intro w' hS'
    go_simp
    try with_reducible rfl
  simp only [List.setIfInBounds_toArray, List.set_cons_zero, List.set_cons_succ]
  refine wpAnyH_ready (rs := [6]) (by kernel_rfl) (by simp) ?_
  refine AllReadyH.cons rfl (fun K hK => ?_) AllReadyH.nil
  go_simp
  refine (isPart_is lo true HLo.out _).mono ?_
  rintro e w' ⟨rfl, rfl⟩
  refine hK.out _ _ (hHeld) (fun hHeld2 => ?_)
  clear hK K
  replace hHeld := hHeld2
  clear hHeld2
  refine take_op (i := 7) (d := 24) (v := ?_) rfl rfl (by kernel_rfl) (by kernel_rfl) (by kernel_rfl) (fun _ _ _ h => h) (Or.inl ⟨by rfl, ?hy7u232⟩) hHeld ?rest7u232
  case hy7u232 =>
    intro w' hS'
    go_simp
    try with_reducible rfl
  simp only [List.setIfInBounds_toArray, List.set_cons_zero, List.set_cons_succ]
  refine take_op (i := 8) (d := 25) (v := ?_) rfl rfl (by kernel_rfl) (by kernel_rfl) (by kernel_rfl) (fun _ _ _ h => h) (Or.inl ⟨by rfl, ?hy8u233⟩) hHeld ?rest8u233
  case hy8u233 =>
    intro w' hS'
    go_simp
    try with_reducible rfl
  simp only [List.setIfInBounds_toArray, List.set_cons_zero, List.set_cons_succ]
  refine take_op (i := 9) (d := 26) (v := ?_) rfl rfl (by kernel_rfl) (by kernel_rfl) (by kernel_rfl) (fun _ _ _ h => h) (Or.inl ⟨by rfl, ?hy9u234⟩) hHeld ?rest9u234
  case hy9u234 =>
    intro w' hS'
    go_simp
    try with_reducible rfl
  simp only [List.setIfInBounds_toArray, List.set_cons_zero, List.set_cons_succ]
  refine wpAnyH_ready (rs := [10]) (by kernel_rfl) (by simp) ?_
  refine AllReadyH.cons rfl (fun K hK => ?_) AllReadyH.nil
  go_simp
  refine (isPart_is hi true HHi.out _).mono ?_
  rintro e w' ⟨rfl, rfl⟩
  refine hK.out _ _ (hHeld) (fun hHeld2 => ?_)
  clear hK K
  replace hHeld := hHeld2
  clear hHeld2
  refine take_op (i := 11) (d := 28) (v := ?_) rfl rfl (by kernel_rfl) (by kernel_rfl) (by kernel_rfl) (fun _ _ _ h => h) (Or.inl ⟨by rfl, ?hy11u235⟩) hHeld ?rest11u235
  case hy11u235 =>
    intro w' hS'
    go_simp
    try with_reducible rfl
  simp only [List.setIfInBounds_toArray, List.set_cons_zero, List.set_cons_succ]
  refine wpAnyH_ready (rs := [12]) (by kernel_rfl) (by simp) ?_
  refine AllReadyH.cons rfl (fun K hK => ?_) AllReadyH.nil
  go_simp
  refine (HC.out _).mono ?_
  rintro e W1 ⟨rfl, hb1⟩
  refine hK.out _ _ (hHeld.trans (hb1.mono hHeld.size)) (fun hHeld2 => ?_)
  clear hK K
  replace hHeld := hHeld2
  clear hHeld2
  clear hb1
  refine take_op (i := 13) (d := 13) (v := ?_) rfl rfl (by kernel_rfl) (by kernel_rfl) (by kernel_rfl) (fun _ _ _ h => h) (Or.inl ⟨by rfl, ?hy13u236⟩) hHeld ?rest13u236
  case hy13u236 =>
    intro w' hS'
    go_simp
    try with_reducible rfl
  simp only [List.setIfInBounds_toArray, List.set_cons_zero, List.set_cons_succ]
  refine wpAnyH_done (by kernel_rfl) ?_ _
  replace H0 := Lib.hid (below_row hHeld H0.out)
  replace H1 := Lib.hid (below_row hHeld H1.out)
  replace H2 := Lib.hid (below_row hHeld H2.out)
  replace hb := hb.trans (hHeld.mono hb.size)
  clear hHeld
  go_upto_region 5 with (first | (refine wpList_load_part rfl 32 _ rfl w.heap.size 0 5 rfl 32 (blindC n wd gp t sh) (0, 0) _ H0.out Tryz.underlying32 rfl info_blind (blind_fits _ _ _ _ _) _ (blind_all _ _ _ _ _) ?_) | (refine wpList_load_part rfl 27 _ rfl b1 0 48 rfl 27 (sunC hs ts) (0, 0) _ H1.out Tryz.underlying27 rfl info_sun (sun_fits _ _ Hh.out Ht.out) _ (sun_all _ _ Hh.out Ht.out) ?_) | (refine wpList_buildL rfl 99 _ rfl _ rfl [(0, .float .f32 lo), (1, .float .f32 hi)] rfl (bnC lo hi) HBT.out ?_) | (go_at_call 67; refine (HDO.out _).mono ?_; rintro e W4 ⟨rfl, hb1⟩; replace H0 := Lib.hid (below_row hb1 H0.out); replace H1 := Lib.hid (below_row hb1 H1.out); replace H2 := Lib.hid (below_row hb1 H2.out); replace hb := hb.trans (hb1.mono hb.size); clear hb1) | (go_at_call 68; refine (HAT.out _).mono ?_; rintro e W5 ⟨zs, er, rfl, hzs, hone, hb5, hor⟩; have HB5 := Lib.hid hb5; have HZS := Lib.hid hzs; have HON := Lib.hid hone; have HOR := Lib.hid hor; clear hb5 hzs hone hor) | (refine wpList_store_part rfl 118 _ _ rfl _ 0 zs rfl rfl 118 _ (heap_alloc_new _ _) (by rw [HZS.out]; exact info_59) (by rw [HZS.out]; decide) HON.out ?_; rw [laid_all _ _ (by rw [HZS.out]; rfl)]))
  have hbB : Below W4.heap.size W4 W5 := HB5.out
  refine abs_code (fun V => V.heap[b2]? = some (.cells (i16s zP) 52 (0, 0)) ∧ V.heap[W5.heap.size]? = some (.cells zs 118 (0, 0)) ∧ Below W5.heap.size W5 V ∧ Below w.heap.size w V) ⟨(setRow_other _ _ _ _ (by have := row_lt (below_row hbB H2.out); omega)).trans (below_row ((Below.refl W5.heap.size _).alloc (Nat.le_refl _) _) (below_row hbB H2.out)), setRow_heap _ _ _ _ _ _ (heap_alloc_new _ _), below_setRow ((Below.refl W5.heap.size _).alloc (Nat.le_refl _) _) (Nat.le_refl _) _, below_setRow ((hb.trans (hbB.mono hb.size)).alloc (Nat.le_trans hb.size hbB.size) _) (Nat.le_trans hb.size hbB.size) _⟩ ?_
  have hw5 : w.heap.size ≤ W5.heap.size := Nat.le_trans hb.size hbB.size
  have hb25 : b2 < W5.heap.size := row_lt (below_row hbB H2.out)
  clear H0 H1 H2 hb hbB HAT HDO HBT
  rintro V ⟨h2, h4, hbv5, hb⟩
  have H2 := Lib.hid h2
  have H4 := Lib.hid h4
  have HV5 := Lib.hid hbv5
  clear h2 h4 hbv5
  rcases HOR.out with ⟨rfl, hall⟩ | ⟨k, hk, hTk, rfl⟩
  · obtain ⟨e1, e2, e3⟩ := HAA.out (fun h hh => (hall h hh).1)
    subst e1 e2 e3
    have HLI : Hid (∀ j, j < 24 → ∃ v, zs[j]? = some v ∧ IntsAt V v (T j)) := Lib.hid (fun j hj => (hall j hj).2.imp fun v hv => ⟨hv.1, ints_below (own_intsF hv.2) HV5.out⟩)
    have HNE := Lib.hid (fun j hj => (hall j hj).1)
    clear hall HOR HAA HBB
    go_upto_region 8 with (first | (refine wpList_load_part rfl 118 _ rfl W5.heap.size 0 24 rfl 118 (zs) (0, 0) _ H4.out Tryz.underlying118 rfl info_59 (by rw [HZS.out]; decide) (zs) (by rw [Nat.zero_add, ← HZS.out, Array.extract_size]) ?_) | (go_at_call 69; refine (HSTD.out zs HZS.out HON.out HNE.out _ HLI.out).mono ?_; rintro e W6 ⟨rfl, hb6⟩; replace H2 := Lib.hid (below_row hb6 H2.out); replace hb := hb.trans (hb6.mono hb.size); clear hb6) | (refine wpList_store_part rfl 52 _ _ rfl _ 0 (i16s pl) rfl rfl 52 _ (heap_alloc_new _ _) (by rw [i16s_size, HPL.out]; exact info_plan) (by rw [i16s_size, HPL.out]; decide) (i16s_one _) ?_; rw [laid_all _ _ (by rw [i16s_size, HPL.out]; rfl)]))
    refine abs_code (fun U => U.heap[b2]? = some (.cells (i16s zP) 52 (0, 0)) ∧ U.heap[W6.heap.size]? = some (.cells (i16s pl) 52 (0, 0)) ∧ Below w.heap.size w U) ⟨(setRow_other _ _ _ _ (by have := row_lt H2.out; omega)).trans (below_row ((Below.refl W6.heap.size _).alloc (Nat.le_refl _) _) H2.out), setRow_heap _ _ _ _ _ _ (heap_alloc_new _ _), below_setRow (hb.alloc hb.size _) hb.size _⟩ ?_
    have hb26 := row_lt H2.out
    have hw6 := hb.size
    clear H2 H4 hb HLI HNE HV5
    generalize W6.heap.size = g6 at *
    rintro U ⟨h2, h6, hb⟩
    have H2 := Lib.hid h2
    have H6 := Lib.hid h6
    clear h2 h6
    try dsimp only [Act.put]
    refine wp_region_held_drew (S := (fun X => X.heap[g6]? = some (.cells (i16s pl) 52 (0, 0)) ∧ (∃ zz : Array Value, zz.size = 24 ∧ X.heap[b2]? = some (.cells zz 52 (0, 0))) ∧ Below w.heap.size w X)) (by kernel_rfl) ⟨H6.out, ⟨_, rfl, H2.out⟩, hb.drew⟩ (fun hHeld => ?_)
    refine take_op (i := 0) (d := 53) (v := .agg (i16s pl)) rfl rfl (by kernel_rfl) (by kernel_rfl) (by kernel_rfl) (fun _ _ _ h => h) (yields_row (by rfl) 52 (.tmp 16) (by rfl) g6 0 24 (by rfl) 52 (i16s pl) (0, 0) _ (fun _ h => h.1) Tryz.underlying52 rfl info_plan (by rw [i16s_size, HPL.out]; decide) (i16s pl) (i16s_all _ 24 HPL.out)) hHeld ?_
    simp only [List.setIfInBounds_toArray, List.set_cons_zero, List.set_cons_succ]
    refine take_op (i := 1) (d := 54) (v := .agg (i16s pl)) rfl rfl (by kernel_rfl) (by kernel_rfl) (by kernel_rfl) (fun _ _ _ h => h) (yields_row (by rfl) 52 (.tmp 16) (by rfl) g6 0 24 (by rfl) 52 (i16s pl) (0, 0) _ (fun _ h => h.1) Tryz.underlying52 rfl info_plan (by rw [i16s_size, HPL.out]; decide) (i16s pl) (i16s_all _ 24 HPL.out)) hHeld ?_
    simp only [List.setIfInBounds_toArray, List.set_cons_zero, List.set_cons_succ]
    have H2d : Hid (U.drew.heap[b2]? = some (.cells (i16s zP) 52 (0, 0))) := H2.out
    generalize U.drew = X0 at *
    refine wpAnyH_ready (rs := [2]) (by kernel_rfl) (by simp) ?_
    refine AllReadyH.cons rfl (fun K hK => ?_) AllReadyH.nil
    go_simp
    refine (HCH.out _).mono ?_
    rintro e X1 ⟨rfl, hb1⟩
    have H2x1 := Lib.hid (below_row hb1 H2d.out)
    refine hK.out _ _ ⟨below_row hb1 hHeld.1, ⟨_, rfl, H2x1.out⟩, hHeld.2.2.trans (hb1.mono hHeld.2.2.size)⟩ (fun hHeld2 => ?_)
    clear hK K hb1
    replace hHeld := hHeld2
    clear hHeld2
    have hst := run_store_rowC (P := Tryz.prog) _ b2 52 (i16s pl) _ H2x1.out (by rw [i16s_size, i16s_size, HPL.out]; rfl) (i16s_one _)
    refine wpAnyH_ready (rs := [3]) (by kernel_rfl) (by simp) ?_
    refine AllReadyH.cons rfl (fun K hK => ?_) AllReadyH.nil
    have hpl24 : pl.length = 24 := HPL.out
    go_simp
    refine hK.out _ _ ⟨(setRow_other _ _ _ _ (by omega)).trans hHeld.1, ⟨_, (by rw [i16s_size]; exact HPL.out), setRow_heap _ _ _ _ _ _ H2x1.out⟩, below_setRow hHeld.2.2 hle2 _⟩ (fun hHeld2 => ?_)
    clear hK K hst hpl24
    have HR1 := Lib.hid (setRow_heap _ _ _ (i16s pl) _ _ H2x1.out)
    replace hHeld := hHeld2
    clear hHeld2
    refine take_op (i := 4) (d := 11) (v := ?_) rfl rfl (by kernel_rfl) (by kernel_rfl) (by kernel_rfl) (fun _ _ _ h => h) (Or.inl ⟨by rfl, ?hy4u237⟩) hHeld ?rest4u237
    case hy4u237 =>
      intro w' hS'
      go_simp
      try with_reducible rfl
    simp only [List.setIfInBounds_toArray, List.set_cons_zero, List.set_cons_succ]
    refine take_op (i := 5) (d := 12) (v := ?_) rfl rfl (by kernel_rfl) (by kernel_rfl) (by kernel_rfl) (fun _ _ _ h => h) (Or.inl ⟨by rfl, ?hy5u238⟩) hHeld ?rest5u238
    case hy5u238 =>
      intro w' hS'
      go_simp
      try with_reducible rfl
    simp only [List.setIfInBounds_toArray, List.set_cons_zero, List.set_cons_succ]
    refine wpAnyH_done (by kernel_rfl) ?_ _
    have hbx := hHeld.2.2
    have hr := HR1.out
    clear hHeld
    go_wp2
    refine bodyPost_ret (results_plan rfl _ _ b2 pl HPL.out rfl hr) rfl ?_
    exact ⟨rfl, hbx⟩
  · obtain ⟨e1, e2, e3⟩ := HBB.out ⟨k, hk, hTk⟩
    subst e1 e2 e3
    have hn2 := fun w => run_neq_held_nil (P := Tryz.prog) (w := w) 114 191 (.agg #[.int .i64 (k : Int)]) (by kernel_rfl)
    have HD := Lib.hid (fun w hE => codeD_hour (k : Int) w hE)
    clear HOR HAA HBB HSTD hn
    go_wp2_with (first | (refine wpList_buildL rfl 52 _ rfl _ rfl [] rfl (i16s zP) HZB.out ?_) | (go_at_call 66; refine (HD.out _ (errT_below HE0.out hb)).mono ?_; rintro e W9 ⟨rfl, hb1⟩; replace H2 := Lib.hid (below_row hb1 H2.out); replace hb := hb.trans (hb1.mono hb.size); clear hb1) | (refine wpList_store_part rfl 52 _ _ rfl b2 0 (i16s zP) rfl rfl 52 (i16s zP) H2.out info_plan (Nat.le_refl _) zP_one ?_; rw [laid_all _ _ (by rfl)]))
    refine bodyPost_ret (results_plan rfl _ _ b2 zP zP_len rfl (setRow_heap _ _ _ _ _ _ H2.out)) rfl ?_
    exact ⟨rfl, below_setRow hb hle2 _⟩

end Go.Proofs.YtddnfbpgldchcaaGreatDoor

namespace Go.Proofs.YtddnfbpgldchcaaGreatDoor

open Go.ChangeShapes Go.WideShapes Go.ChangeAt Go.RowKit Go.Deep Go.Joins

attribute [local go_sem] run_store_f

set_option maxRecDepth 100000 in
set_option maxHeartbeats 8000000 in
theorem sFew_yes (n : Int) (wd gp : Nat) (t : Int) (sh : Nat) (hs ts : List Int) (hh : hs.length = 24) (ht : ts.length = 24) (fc : Int) (lo hi : Nat) (bw : BlWf n wd gp t sh) (T0 : -32768 ≤ t) (T1 : t ≤ 32767) (N0 : -128 ≤ n) (N1 : n ≤ 127) (rb : ∀ x ∈ hs ++ ts, -32768 ≤ x ∧ x ≤ 32767) (hf : inF fc = true) (hlo : partB lo = true) (hhi : partB hi = true) (wlo : (Lit.float .f32 lo).wf = true) (whi : (Lit.float .f32 hi).wf = true) (hc : cdP true (okBl n wd gp t sh) (okB hs ts) true = 0) (T : Nat → List Int) (hT : T = (fun h : Nat => wantT (kpB hs ts fc lo hi wd gp sh (h : Int)) (tls 129)))
    (p : List Int) (hp : ∀ k, k = 24 → (stF T (T 0) k).plan = p) (pl : List Int) (nn cc : Int) (hA : (∀ h, h < 24 → T h ≠ []) → pl = p ∧ nn = (cntR p 24 : Int) - 1 ∧ cc = 0) (hB : (∃ h, h < 24 ∧ T h = []) → pl = zP ∧ nn = 0 ∧ cc = 6) (w : World) :
    Calls Tryz.prog 21 #[.agg (blindC n wd gp t sh), .agg (sunC hs ts), .int .i64 fc, .float .f32 lo, .float .f32 hi] w fun e w' => e = .returned (.tuple #[.agg (i16s pl), .int .i64 nn, .int .i64 cc]) ∧ Below w.heap.size w w' := by
  have HA := Lib.hid (fun g1 g2 g3 w q1 q2 q3 => l07Asked_is n wd gp t sh hs ts hh ht zP zP_len T0 T1 N0 N1 rb zP_b true 0 (by rw [zP_ok]; exact hc) g1 g2 g3 w q1 q2 q3)
  obtain ⟨_, hk, hos, _⟩ := cdP_yes hc
  have OK := blok_of bw hk
  have dh : ∀ k : Nat, k < 24 → HrOk hs ts (k : Int) fc := fun k hk => hrok_of hh ht hos (by omega) (by omega) hf
  have HTI : Hid (∀ k : Nat, k < 24 → ∀ (g1 g2 : Nat) (w : World), w.heap[g1]? = some (.cells (blindC n wd gp t sh) 32 (0, 0)) → w.heap[g2]? = some (.cells (sunC hs ts) 27 (0, 0)) → Calls Tryz.prog 73 #[.pointer (some ⟨g1, 0, none⟩), .pointer (some ⟨g2, 0, none⟩), .int .i64 fc, .int .i64 (k : Int), .float .f32 lo, .float .f32 hi] w fun e w' => (∃ v, e = .returned v ∧ Own w' w.heap.size 2 (Value.int .i64) v (T k)) ∧ Below w.heap.size w w') := by
    rw [hT]
    exact fun k hk g1 g2 w q1 q2 => l07Tilts_any n wd gp t sh hs ts hh ht OK fc (k : Int) (dh k hk) lo hi (part_fin wlo hlo) (part_fin whi hhi) g1 g2 w q1 q2
  have hb64 : ∀ j, j < 24 → ∀ x ∈ T j, -64 ≤ x ∧ x ≤ 64 := by rw [hT]; exact fun j _ x hx => want_tilt hx
  have hlen : ∀ j, (T j).length ≤ 129 := by
    rw [hT]
    intro j
    refine Nat.le_trans (wantT_len _ _) ?_
    simp [tls]
  have hpl : p.length = 24 := by rw [← hp 24 rfl]; exact stF_len T (T 0) 24
  have HPL := Lib.hid hpl
  have HCH := Lib.hid (fun g w q => l07Changes_any p hpl g w q)
  have HSB := Lib.hid (stF_mem T (T 0) (fun x => -64 ≤ x ∧ x ≤ 64) hb64 (hb64 0 (by decide)))
  have HSL := Lib.hid (stF_len T (T 0))
  have HSF := Lib.hid (stF_first T (T 0))
  have HSLEN : Hid (∀ k, k ≤ 24 → (stF T (T 0) k).shared.length ≤ 1000) := Lib.hid (stF_short T (T 0) hlen (hlen 0))
  have HBO := Lib.hid (fun v1 v2 xs ys hl w a b => l07Both_any v1 v2 xs ys hl w a b)
  have HLEN := Lib.hid hlen
  have HB64 := Lib.hid hb64
  have HP := Lib.hid hp
  have HF := Lib.hid hf
  have HLo := Lib.hid (fun w => l01Part_is lo true hlo w)
  have HHi := Lib.hid (fun w => l01Part_is hi true hhi w)
  have HAA := Lib.hid hA
  have HBB := Lib.hid hB
  have HST0 : Hid (stF T (T 0) 0 = ⟨0, T 0, List.replicate 24 0⟩) := Lib.hid rfl
  have HSTK : Hid (∀ k, stF T (T 0) (k + 1) = stepF (T k) k (stF T (T 0) k)) := Lib.hid (fun k => rfl)
  have HZB : Hid (Tryz.prog.built 52 [] = some (i16s zP)) := by unfold Hid; kernel_rfl
  clear hh ht hc hf hlo hhi OK dh bw hA hB hp hb64 hlen hpl hT T0 T1 N0 N1 rb wlo whi
  generalize hst : stF T (T 0) = st at *
  clear hst
  go_enter Tryz.func21, Tryz.ntmps21
  go_upto_region 1 with (fail)
  refine abs_code (fun W => W.heap[w.heap.size]? = some (.cells (blindC n wd gp t sh) 32 (0, 0)) ∧ W.heap[w.heap.size + 1]? = some (.cells (sunC hs ts) 27 (0, 0)) ∧ W.heap[w.heap.size + 1 + 1]? = some (.cells (i16s zP) 52 (0, 0)) ∧ Below w.heap.size w W) ⟨(three_new _ _ _ _).1, (three_new _ _ _ _).2.1, (three_new _ _ _ _).2.2.1, (three_new _ _ _ _).2.2.2⟩ ?_
  rintro W ⟨h0, h1, h2, hb⟩
  have n01 : w.heap.size < w.heap.size + 1 := by omega
  have n12 : w.heap.size + 1 < w.heap.size + 1 + 1 := by omega
  have hle2 : w.heap.size ≤ w.heap.size + 1 + 1 := by omega
  generalize w.heap.size + 1 + 1 = b2 at *
  generalize w.heap.size + 1 = b1 at *
  have H0 := Lib.hid h0
  have H1 := Lib.hid h1
  have H2 := Lib.hid h2
  clear h0 h1 h2
  go_upto_region 2 with (first | (refine wpList_buildL rfl 52 _ rfl _ rfl [] rfl (i16s zP) HZB.out ?_) | (refine wpList_store_part rfl 52 _ _ rfl _ 0 (i16s zP) rfl rfl 52 _ (heap_alloc_new _ _) info_plan (Nat.le_refl _) zP_one ?_; rw [laid_all _ _ (by rfl)]))
  refine abs_code (fun V => V.heap[w.heap.size]? = some (.cells (blindC n wd gp t sh) 32 (0, 0)) ∧ V.heap[b1]? = some (.cells (sunC hs ts) 27 (0, 0)) ∧ V.heap[b2]? = some (.cells (i16s zP) 52 (0, 0)) ∧ V.heap[W.heap.size]? = some (.cells (i16s zP) 52 (0, 0)) ∧ Below w.heap.size w V) ⟨below_row (zbel _ _ _) H0.out, below_row (zbel _ _ _) H1.out, below_row (zbel _ _ _) H2.out, setRow_heap _ _ _ _ _ _ (heap_alloc_new _ _), below_setRow (hb.alloc hb.size _) hb.size _⟩ ?_
  have hb23 := row_lt H2.out
  have hle3 := hb.size
  clear H0 H1 H2 hb
  generalize W.heap.size = b3 at *
  rintro V ⟨h0, h1, h2, h3, hb⟩
  have H0 := Lib.hid h0
  have H1 := Lib.hid h1
  have H2 := Lib.hid h2
  have H3 := Lib.hid h3
  clear h0 h1 h2 h3
  have HTI0 := Lib.hid (HTI.out 0 (by decide))
  go_upto_region 7 with (first | (go_at_call 48; refine (l01Faced_is fc true HF.out _).mono ?_; rintro e w' ⟨rfl, rfl⟩) | (go_at_call 72; (first | (with_reducible refine (HLo.out _).mono ?_) | (with_reducible refine (HHi.out _).mono ?_)); rintro e w' ⟨rfl, rfl⟩) | (go_at_call 71; refine (HA.out _ _ _ _ H0.out H1.out H3.out).mono ?_; rintro e w' ⟨rfl, rfl⟩) | (go_at_call 73; refine (HTI0.out _ _ _ H0.out H1.out).mono ?_; rintro e W4 ⟨⟨vt, rfl, hvt⟩, hb1⟩; have HB1 := Lib.hid hb1; have HVT := Lib.hid hvt; clear hb1 hvt))
  have hbV : Below V.heap.size V W4 := HB1.out
  have hbz : b3 < V.heap.size := row_lt H3.out
  replace H0 := Lib.hid (below_row hbV H0.out)
  replace H1 := Lib.hid (below_row hbV H1.out)
  replace H2 := Lib.hid (below_row hbV H2.out)
  replace H3 := Lib.hid (below_row hbV H3.out)
  replace hb := hb.trans (hbV.mono hb.size)
  have HVN := Lib.hid (intsNe_own HVT.out hbz)
  clear hbV HB1 HVT HTI0 HA HF HLo HHi
  go_wp2
  go_loopw [15, 16, 17] (fun f s i wr => ∃ k : Nat, k ≤ 24 ∧ i = .int .i64 (k : Int) ∧ f = .int .i64 ((st k).first : Int) ∧ IntsNe wr b3 s (st k).shared ∧ wr.heap[w.heap.size]? = some (.cells (blindC n wd gp t sh) 32 (0, 0)) ∧ wr.heap[b1]? = some (.cells (sunC hs ts) 27 (0, 0)) ∧ wr.heap[b2]? = some (.cells (i16s zP) 52 (0, 0)) ∧ wr.heap[b3]? = some (.cells (i16s (st k).plan) 52 (0, 0)) ∧ Below w.heap.size w wr ∧ (∀ j, j < k → T j ≠ [])) (fun _ _ i _ => 24 - (intOf i).toNat)
  case atStart => exact ⟨0, Nat.zero_le _, rfl, by rw [HST0.out]; rfl, by rw [HST0.out]; exact HVN.out, H0.out, H1.out, H2.out, by rw [HST0.out]; exact H3.out, hb, fun j hj => absurd hj (Nat.not_lt_zero j)⟩
  case round =>
    clear H0 H1 H2 H3 hb HVN HST0
    obtain ⟨k, hk, rfl, rfl, hsn, h0, h1, h2, h3, hb, hne⟩ := hrel
    have HS := Lib.hid hsn
    have H0 := Lib.hid h0
    have H1 := Lib.hid h1
    have H2 := Lib.hid h2
    have H3 := Lib.hid h3
    have HNE0 := Lib.hid hne
    clear hsn h0 h1 h2 h3 hne
    by_cases hlt : k < 24
    · have HTK0 := Lib.hid (HTI.out k hlt)
      have HLS := Lib.hid (HSLEN.out k hk)
      have HXB : Hid (∀ x ∈ T k, -64 ≤ x ∧ x ≤ 64) := Lib.hid (HB64.out k hlt)
      have HXS := Lib.hid (HSB.out k hk)
      have hpl := HSL.out k
      have hfk := HSF.out k
      have HST := Lib.hid (HSTK.out k)
      have HLT := Lib.hid (HLEN.out k)
      have HTE : Hid (T k = [] → pl = zP ∧ nn = 0 ∧ cc = 6) := Lib.hid (fun h => HBB.out ⟨k, hlt, h⟩)
      have HNE1 : Hid (T k ≠ [] → ∀ j, j < k + 1 → T j ≠ []) := Lib.hid (fun h j hj => by
        by_cases e : j = k
        · rw [e]; exact h
        · exact HNE0.out j (by omega))
      generalize hs0 : st k = s0 at *
      clear hs0
      obtain ⟨f, sr, pn⟩ := s0
      dsimp only at *
      generalize htk : T k = tk at *
      clear htk
      have z1 : (k : Int) < 24 := by omega
      have z2 : (0 : Int) ≤ (k : Int) := by omega
      go_upto_region 11 with (go_at_call 73; refine (HTK0.out _ _ _ H0.out H1.out).mono ?_; rintro e W5 ⟨⟨vt, rfl, hvt⟩, hb5⟩; obtain ⟨at_, ct_, evt, hct1, hct2, -⟩ := id hvt; subst evt; have HB5 := Lib.hid hb5; have HVT := Lib.hid hvt; clear hb5 hvt)
      have hb3w : b3 < wr.heap.size := row_lt H3.out
      replace H0 := Lib.hid (below_row HB5.out H0.out)
      replace H1 := Lib.hid (below_row HB5.out H1.out)
      replace H2 := Lib.hid (below_row HB5.out H2.out)
      replace H3 := Lib.hid (below_row HB5.out H3.out)
      replace HS := Lib.hid (intsNe_below HS.out HB5.out)
      replace hb := hb.trans (HB5.out.mono hb.size)
      have HVN := Lib.hid (intsNe_own HVT.out hb3w)
      clear HB5 HTK0
      have HLN : Hid (tk.length = 0 ↔ tk = []) := Lib.hid List.length_eq_zero_iff
      by_cases hte : tk = []
      · obtain ⟨e1, e2, e3⟩ := HTE.out hte
        subst e1 e2 e3
        have hl0 : tk.length = 0 := HLN.out.2 hte
        have hl0b : ((tk.length : Int) == 0) = true := by rw [hl0]; rfl
        clear hte hl0
        go_wp2_with (first | (refine wpList_buildL rfl 52 _ rfl _ rfl [] rfl (i16s zP) HZB.out ?_) | (refine wpList_store_part rfl 52 _ _ rfl b2 0 (i16s zP) rfl rfl 52 (i16s zP) H2.out info_plan (Nat.le_refl _) zP_one ?_; rw [laid_all _ _ (by rfl)]))
        refine bodyPost_ret (results_plan rfl _ _ b2 zP zP_len rfl (setRow_heap _ _ _ _ _ _ H2.out)) rfl ?_
        exact ⟨rfl, below_setRow hb hle2 _⟩
      · have HTK := Lib.hid hte
        have hl0b : ((tk.length : Int) == 0) = false := by have := List.length_pos_iff.2 hte; simp; omega
        clear hte
        go_upto_region 14 with (go_at_call 74; refine (HBO.out _ _ _ _ HLS.out _ HS.out.1 (own_intsF HVT.out)).mono ?_; rintro e W6 ⟨⟨vb, rfl, hvb⟩, hb6⟩; obtain ⟨ab_, cb_, evb, hcb1, hcb2, -⟩ := id hvb; subst evb; have HB6 := Lib.hid hb6; have HVB := Lib.hid hvb; clear hb6 hvb)
        have hb36 : b3 < W5.heap.size := row_lt H3.out
        have HVN1 := Lib.hid (intsNe_below HVN.out HB6.out)
        have HS1 := Lib.hid (intsNe_own HVB.out hb36)
        have H0b := Lib.hid (below_row HB6.out H0.out)
        have H1b := Lib.hid (below_row HB6.out H1.out)
        have H2b := Lib.hid (below_row HB6.out H2.out)
        have H3b := Lib.hid (below_row HB6.out H3.out)
        have hbw := hb.trans (HB6.out.mono hb.size)
        have hlen1 := bothL_len sr tk
        clear HVN HB6 H0 H1 H2 H3 hb HS HVB HVT hl0b HTE
        by_cases hem : bothL sr tk = []
        · have HST2 : Hid (st (k + 1) = ⟨k, tk, fillP pn k k ((tk).headD 0)⟩) := Lib.hid (by rw [HST.out]; unfold stepF; rw [if_pos hem])

          have hg0 := head_get HTK.out
          have hxb := (HXB.out) _ (List.mem_of_getElem? hg0)
          have HG0 := Lib.hid hg0
          have hl0 : (bothL sr tk).length = 0 := by rw [hem]; rfl
          have hl0b : (((bothL sr tk).length : Int) == 0) = true := by rw [hl0]; rfl
          have hpos : (0 : Int) < ((tk).length : Int) := by have := List.length_pos_iff.2 HTK.out; omega
          clear hg0 hem hl0 HST
          generalize hxv : (tk).headD 0 = x0 at *
          have hwx : IntKind.i16.wrap x0 = x0 := by rw [IntWalk.i16_in _ (by omega)]
          clear hxv
          go_upto_region 19 with (fail)
          clear hl0b
          obtain ⟨wo, hwo⟩ : ∃ wo : World, wo = W6 := ⟨_, rfl⟩
          clear hwo
          go_loopw [20] (fun i wq => ∃ m : Nat, k ≤ m ∧ m ≤ k + 1 ∧ i = .int .i64 (m : Int) ∧ IntsNe wq b3 (.slice at_ tk.length ct_) (tk) ∧ wq.heap[w.heap.size]? = some (.cells (blindC n wd gp t sh) 32 (0, 0)) ∧ wq.heap[b1]? = some (.cells (sunC hs ts) 27 (0, 0)) ∧ wq.heap[b2]? = some (.cells (i16s zP) 52 (0, 0)) ∧ wq.heap[b3]? = some (.cells (i16s (fillTo pn k x0 m)) 52 (0, 0)) ∧ Below w.heap.size w wq) (fun i _ => k + 1 - (intOf i).toNat)
          case atStart => exact ⟨k, Nat.le_refl _, by omega, rfl, HVN1.out, H0b.out, H1b.out, H2b.out, by rw [fillTo_start]; exact H3b.out, hbw⟩
          case round =>
            clear H0b H1b H2b H3b hbw HVN1
            obtain ⟨m, hfm, hmk, rfl, hsn, h0, h1, h2, h3, hbq⟩ := hrel
            have HQ := Lib.hid hsn
            have H0 := Lib.hid h0
            have H1 := Lib.hid h1
            have H2 := Lib.hid h2
            have H3 := Lib.hid h3
            clear hsn h0 h1 h2 h3
            by_cases hlm : m ≤ k
            · obtain ⟨g, o, esl, hcell⟩ := int_atF HQ.out.1 HG0.out
              subst esl
              rw [Nat.add_zero] at hcell
              have y1 : (m : Int) ≤ (k : Int) := by omega
              have y2 : (0 : Int) ≤ (m : Int) := by omega
              have y3 : (m : Int) < 24 := by omega
              have hfl := fillTo_len pn k x0 m
              have hd := cell_of_i16s H3.out m (by rw [hfl, hpl]; omega)
              have hf := frozen_of_row _ b3 m _ _ H3.out
              go_wp2
              go_roundw
              case rel => exact ⟨m + 1, by omega, by omega, by go_num, intsNe_setCell HQ.out, (heap_setCell_other _ _ _ _ (by simp; omega)).trans H0.out, (heap_setCell_other _ _ _ _ (by simp; omega)).trans H1.out, (heap_setCell_other _ _ _ _ (by simp; omega)).trans H2.out, by rw [heap_setCell_same _ _ _ _ _ _ H3.out, i16s_set, fillTo_step _ _ _ hfm (by rw [hpl]; omega)], hbq.setCell (p := ⟨b3, m, none⟩) hle3 _⟩
              case measure => simp [intOf]; omega
            · obtain rfl : m = k + 1 := by omega
              rw [fillTo_end] at H3
              have y1 : ¬ ((k : Int) + 1 ≤ (k : Int)) := by omega
              go_wp2
              go_roundw
              case rel => exact ⟨k + 1, by omega, by first | (simp; done) | (simp; omega), by rw [HST2.out], by rw [HST2.out]; exact HQ.out, H0.out, H1.out, H2.out, by rw [HST2.out]; exact H3.out, hbq, HNE1.out HTK.out⟩
              case measure => simp [intOf]; omega
        · have HST2 : Hid (st (k + 1) = ⟨f, (bothL sr tk), fillP pn f k (((bothL sr tk)).headD 0)⟩) := Lib.hid (by rw [HST.out]; unfold stepF; rw [if_neg hem])
          have HNE := Lib.hid hem
          have hg0 := head_get HNE.out
          have hxb := ((fun x hx => HXS.out x (bothL_mem hx))) _ (List.mem_of_getElem? hg0)
          have HG0 := Lib.hid hg0
          have hl0 : ((bothL sr tk).length : Int) ≠ 0 := by have := List.length_pos_iff.2 hem; omega
          have hl0b : (((bothL sr tk).length : Int) == 0) = false := by simpa using hl0
          have hpos : (0 : Int) < (((bothL sr tk)).length : Int) := by have := List.length_pos_iff.2 HNE.out; omega
          clear hg0 hem hl0 HST
          generalize hxv : ((bothL sr tk)).headD 0 = x0 at *
          have hwx : IntKind.i16.wrap x0 = x0 := by rw [IntWalk.i16_in _ (by omega)]
          clear hxv
          go_upto_region 19 with (fail)
          clear hl0b
          obtain ⟨wo, hwo⟩ : ∃ wo : World, wo = W6 := ⟨_, rfl⟩
          clear hwo
          go_loopw [20] (fun i wq => ∃ m : Nat, f ≤ m ∧ m ≤ k + 1 ∧ i = .int .i64 (m : Int) ∧ IntsNe wq b3 (.slice ab_ (bothL sr tk).length cb_) ((bothL sr tk)) ∧ wq.heap[w.heap.size]? = some (.cells (blindC n wd gp t sh) 32 (0, 0)) ∧ wq.heap[b1]? = some (.cells (sunC hs ts) 27 (0, 0)) ∧ wq.heap[b2]? = some (.cells (i16s zP) 52 (0, 0)) ∧ wq.heap[b3]? = some (.cells (i16s (fillTo pn f x0 m)) 52 (0, 0)) ∧ Below w.heap.size w wq) (fun i _ => k + 1 - (intOf i).toNat)
          case atStart => exact ⟨f, Nat.le_refl _, by omega, rfl, HS1.out, H0b.out, H1b.out, H2b.out, by rw [fillTo_start]; exact H3b.out, hbw⟩
          case round =>
            clear H0b H1b H2b H3b hbw HS1
            obtain ⟨m, hfm, hmk, rfl, hsn, h0, h1, h2, h3, hbq⟩ := hrel
            have HQ := Lib.hid hsn
            have H0 := Lib.hid h0
            have H1 := Lib.hid h1
            have H2 := Lib.hid h2
            have H3 := Lib.hid h3
            clear hsn h0 h1 h2 h3
            by_cases hlm : m ≤ k
            · obtain ⟨g, o, esl, hcell⟩ := int_atF HQ.out.1 HG0.out
              subst esl
              rw [Nat.add_zero] at hcell
              have y1 : (m : Int) ≤ (k : Int) := by omega
              have y2 : (0 : Int) ≤ (m : Int) := by omega
              have y3 : (m : Int) < 24 := by omega
              have hfl := fillTo_len pn f x0 m
              have hd := cell_of_i16s H3.out m (by rw [hfl, hpl]; omega)
              have hf := frozen_of_row _ b3 m _ _ H3.out
              go_wp2
              go_roundw
              case rel => exact ⟨m + 1, by omega, by omega, by go_num, intsNe_setCell HQ.out, (heap_setCell_other _ _ _ _ (by simp; omega)).trans H0.out, (heap_setCell_other _ _ _ _ (by simp; omega)).trans H1.out, (heap_setCell_other _ _ _ _ (by simp; omega)).trans H2.out, by rw [heap_setCell_same _ _ _ _ _ _ H3.out, i16s_set, fillTo_step _ _ _ hfm (by rw [hpl]; omega)], hbq.setCell (p := ⟨b3, m, none⟩) hle3 _⟩
              case measure => simp [intOf]; omega
            · obtain rfl : m = k + 1 := by omega
              rw [fillTo_end] at H3
              have y1 : ¬ ((k : Int) + 1 ≤ (k : Int)) := by omega
              go_wp2
              go_roundw
              case rel => exact ⟨k + 1, by omega, by first | (simp; done) | (simp; omega), by rw [HST2.out], by rw [HST2.out]; exact HQ.out, H0.out, H1.out, H2.out, by rw [HST2.out]; exact H3.out, hbq, HNE1.out HTK.out⟩
              case measure => simp [intOf]; omega
    · have e24 : k = 24 := by omega
      obtain ⟨e1, e2, e3⟩ := HAA.out (fun h hh => HNE0.out h (by omega))
      subst e1 e2 e3
      rw [HP.out k e24] at H3
      have H6 := H3
      clear H3 HS HSB HSL HSF HSLEN HP HB64 HLEN HTI HSTK HAA HBB HNE0 HBO
      generalize st k = s0 at *
      have z1 : ¬ (k : Int) < 24 := by omega
      clear e24 hlt hk
      go_wp2
      try dsimp only [Act.put]
      refine wp_region_held_drew (S := (fun X => X.heap[b3]? = some (.cells (i16s pl) 52 (0, 0)) ∧ (∃ zz : Array Value, zz.size = 24 ∧ X.heap[b2]? = some (.cells zz 52 (0, 0))) ∧ Below w.heap.size w X)) (by kernel_rfl) ⟨H6.out, ⟨_, rfl, H2.out⟩, hb.drew⟩ (fun hHeld => ?_)
      refine take_op (i := 0) (d := 75) (v := .agg (i16s pl)) rfl rfl (by kernel_rfl) (by kernel_rfl) (by kernel_rfl) (fun _ _ _ h => h) (yields_row (by rfl) 52 (.tmp 13) (by rfl) b3 0 24 (by rfl) 52 (i16s pl) (0, 0) _ (fun _ h => h.1) Tryz.underlying52 rfl info_plan (by rw [i16s_size, HPL.out]; decide) (i16s pl) (i16s_all _ 24 HPL.out)) hHeld ?_
      simp only [List.setIfInBounds_toArray, List.set_cons_zero, List.set_cons_succ]
      have H2d : Hid (wr.drew.heap[b2]? = some (.cells (i16s zP) 52 (0, 0))) := H2.out
      generalize wr.drew = X0 at *
      refine wpAnyH_ready (rs := [1]) (by kernel_rfl) (by simp) ?_
      refine AllReadyH.cons rfl (fun K hK => ?_) AllReadyH.nil
      go_simp
      refine (HCH.out _ _ hHeld.1).mono ?_
      rintro e X1 ⟨rfl, hb1⟩
      have H2x1 := Lib.hid (below_row hb1 H2d.out)
      refine hK.out _ _ ⟨below_row hb1 hHeld.1, ⟨_, rfl, H2x1.out⟩, hHeld.2.2.trans (hb1.mono hHeld.2.2.size)⟩ (fun hHeld2 => ?_)
      clear hK K hb1
      replace hHeld := hHeld2
      clear hHeld2
      have hst := run_store_rowC (P := Tryz.prog) _ b2 52 (i16s pl) _ H2x1.out (by rw [i16s_size, i16s_size, HPL.out]; rfl) (i16s_one _)
      refine wpAnyH_ready (rs := [2]) (by kernel_rfl) (by simp) ?_
      refine AllReadyH.cons rfl (fun K hK => ?_) AllReadyH.nil
      have hpl24 : pl.length = 24 := HPL.out
      go_simp
      refine hK.out _ _ ⟨(setRow_other _ _ _ _ (by omega)).trans hHeld.1, ⟨_, (by rw [i16s_size]; exact HPL.out), setRow_heap _ _ _ _ _ _ H2x1.out⟩, below_setRow hHeld.2.2 hle2 _⟩ (fun hHeld2 => ?_)
      clear hK K hst hpl24
      have HR1 := Lib.hid (setRow_heap _ _ _ (i16s pl) _ _ H2x1.out)
      replace hHeld := hHeld2
      clear hHeld2
      refine take_op (i := 3) (d := 11) (v := ?_) rfl rfl (by kernel_rfl) (by kernel_rfl) (by kernel_rfl) (fun _ _ _ h => h) (Or.inl ⟨by rfl, ?hy3u241⟩) hHeld ?rest3u241
      case hy3u241 =>
        intro w' hS'
        go_simp
        try with_reducible rfl
      simp only [List.setIfInBounds_toArray, List.set_cons_zero, List.set_cons_succ]
      refine take_op (i := 4) (d := 12) (v := ?_) rfl rfl (by kernel_rfl) (by kernel_rfl) (by kernel_rfl) (fun _ _ _ h => h) (Or.inl ⟨by rfl, ?hy4u242⟩) hHeld ?rest4u242
      case hy4u242 =>
        intro w' hS'
        go_simp
        try with_reducible rfl
      simp only [List.setIfInBounds_toArray, List.set_cons_zero, List.set_cons_succ]
      refine wpAnyH_done (by kernel_rfl) ?_ _
      have hbx := hHeld.2.2
      have hr := HR1.out
      clear hHeld
      go_wp2
      refine bodyPost_ret (results_plan rfl _ _ b2 pl HPL.out rfl hr) rfl ?_
      exact ⟨rfl, hbx⟩

end Go.Proofs.YtddnfbpgldchcaaGreatDoor

namespace Go.Proofs.YtddnfbpgldchcaaGreatDoor

open Go.ChangeShapes Go.WideShapes Go.ChangeAt Go.RowKit Go.Deep Go.Joins

attribute [local go_sem] run_store_f

set_option maxRecDepth 100000 in
set_option maxHeartbeats 4000000 in
theorem iKeepsWithin_yes (n : Int) (wd gp : Nat) (t : Int) (sh : Nat) (hs ts : List Int) (hh : hs.length = 24) (ht : ts.length = 24) (fc : Int) (ps : List Int) (hp : ps.length = 24) (lo hi : Nat) (bw : BlWf n wd gp t sh) (T0 : -32768 ≤ t) (T1 : t ≤ 32767) (hf : inF fc = true) (hlo : partB lo = true) (hhi : partB hi = true) (hc : cdP (okP ps) (okBl n wd gp t sh) (okB hs ts) true = 0) (w : World) (hE : ErrT w) :
    Calls Tryz.prog 22 #[.agg (blindC n wd gp t sh), .agg (sunC hs ts), .int .i64 fc, .agg (i16s ps), .float .f32 lo, .float .f32 hi] w fun e w' => e = .returned (.tuple #[.bool (firstNo (kpAt hs ts fc lo hi wd gp sh ps) 0 24).isNone, .int .i64 0]) ∧ Below w.heap.size w w' := by
  have HC := Lib.hid (fun w => checkPlanned_ok n wd gp t sh hs ts hh ht ps hp T0 T1 true hc w)
  obtain ⟨ho, hk, hos, _⟩ := cdP_yes hc
  have OK := blok_of bw hk
  have dh : DyHr hs ts fc := ⟨fun k hk => hrok_of hh ht hos (by omega) (by omega) hf⟩
  have HDO := Lib.hid (fun w => dayOf_any hs ts hh ht fc lo hi n wd gp t sh w)
  have HOU := Lib.hid (fun w => outside_any hs ts hh ht fc lo hi n wd gp t sh OK dh ps hp ho w)
  obtain ⟨hgh, hgt⟩ : ∃ b : Bool, b = true := ⟨true, rfl⟩
  have HF := Lib.hid hf
  have HLo := Lib.hid hlo
  have HHi : Hid (partB hi = hgh) := by rw [hgt]; exact hhi
  have Hh := Lib.hid hh
  have Ht := Lib.hid ht
  have Hp := Lib.hid hp
  have hn := fun w => run_neq_nil_nil (P := Tryz.prog) (w := w) 114 (by kernel_rfl)
  have hbt : Tryz.prog.built 99 [(0, .float .f32 lo), (1, .float .f32 hi)] = some (bnC lo hi) := by kernel_rfl
  have HE0 := Lib.hid hE
  subst hgt
  generalize firstNo (kpAt hs ts fc lo hi wd gp sh ps) 0 24 = fo at *
  clear hh ht hp hc hE hf hlo hhi OK dh bw
  cases fo with
  | none =>
    have hn2 := fun w => run_eql_nil_nil (P := Tryz.prog) (w := w) 114 (by kernel_rfl)
    have HOU2 : Hid (∀ w, Calls Tryz.prog 77 #[.agg (dayC hs ts fc lo hi n wd gp t sh), .agg (i16s ps)] w fun e w' => e = .returned .nilIface ∧ Below w.heap.size w w') := HOU.out
    clear HOU
    go_enter Tryz.func22, Tryz.ntmps22
    go_upto_region 1 with (fail)
    refine abs_code (fun W => W.heap[w.heap.size]? = some (.cells (blindC n wd gp t sh) 32 (0, 0)) ∧ W.heap[w.heap.size + 1]? = some (.cells (sunC hs ts) 27 (0, 0)) ∧ W.heap[w.heap.size + 1 + 1]? = some (.cells (i16s ps) 52 (0, 0)) ∧ Below w.heap.size w W) ⟨(three_new _ _ _ _).1, (three_new _ _ _ _).2.1, (three_new _ _ _ _).2.2.1, (three_new _ _ _ _).2.2.2⟩ ?_
    rintro W ⟨h0, h1, h2, hb⟩
    generalize w.heap.size + 1 + 1 = b2 at *
    generalize w.heap.size + 1 = b1 at *
    have H0 := Lib.hid h0
    have H1 := Lib.hid h1
    have H2 := Lib.hid h2
    clear h0 h1 h2
    have HE := Lib.hid (errT_below HE0.out hb)
    refine wp_region_held_drew (S := (fun V => Below W.heap.size W V)) (by kernel_rfl) (Below.refl _ _).drew (fun hHeld => ?_)
    refine take_op (i := 0) (d := 15) (v := .agg (blindC n wd gp t sh)) rfl rfl (by kernel_rfl) (by kernel_rfl) (by kernel_rfl) (fun _ _ _ h => h) (yields_row (by rfl) 32 (.tmp 6) (by rfl) w.heap.size 0 5 (by rfl) 32 (blindC n wd gp t sh) (0, 0) _ (fun _ h => below_row h H0.out) Tryz.underlying32 rfl info_blind (blind_fits _ _ _ _ _) (blindC n wd gp t sh) (blind_all _ _ _ _ _)) hHeld ?_
    simp only [List.setIfInBounds_toArray, List.set_cons_zero, List.set_cons_succ]
    refine take_op (i := 1) (d := 16) (v := .agg (sunC hs ts)) rfl rfl (by kernel_rfl) (by kernel_rfl) (by kernel_rfl) (fun _ _ _ h => h) (yields_row (by rfl) 27 (.tmp 7) (by rfl) b1 0 48 (by rfl) 27 (sunC hs ts) (0, 0) _ (fun _ h => below_row h H1.out) Tryz.underlying27 rfl info_sun (sun_fits _ _ Hh.out Ht.out) (sunC hs ts) (sun_all _ _ Hh.out Ht.out)) hHeld ?_
    simp only [List.setIfInBounds_toArray, List.set_cons_zero, List.set_cons_succ]
    refine take_op (i := 2) (d := 17) (v := .agg (i16s ps)) rfl rfl (by kernel_rfl) (by kernel_rfl) (by kernel_rfl) (fun _ _ _ h => h) (yields_row (by rfl) 52 (.tmp 9) (by rfl) b2 0 24 (by rfl) 52 (i16s ps) (0, 0) _ (fun _ h => below_row h H2.out) Tryz.underlying52 rfl info_plan (by rw [i16s_size, Hp.out]; decide) (i16s ps) (i16s_all _ 24 Hp.out)) hHeld ?_
    simp only [List.setIfInBounds_toArray, List.set_cons_zero, List.set_cons_succ]
    refine take_op (i := 3) (d := 18) (v := ?_) rfl rfl (by kernel_rfl) (by kernel_rfl) (by kernel_rfl) (fun _ _ _ h => h) (Or.inl ⟨by rfl, ?hy3u108⟩) hHeld ?rest3u108
    case hy3u108 =>
      intro w' hS'
      go_simp
      try with_reducible rfl
    simp only [List.setIfInBounds_toArray, List.set_cons_zero, List.set_cons_succ]
    refine wpAnyH_ready (rs := [4]) (by kernel_rfl) (by simp) ?_
    refine AllReadyH.cons rfl (fun K hK => ?_) AllReadyH.nil
    go_simp
    refine (isFacing_is fc true HF.out _).mono ?_
    rintro e w' ⟨rfl, rfl⟩
    refine hK.out _ _ (hHeld) (fun hHeld2 => ?_)
    clear hK K
    replace hHeld := hHeld2
    clear hHeld2
    refine take_op (i := 5) (d := 20) (v := ?_) rfl rfl (by kernel_rfl) (by kernel_rfl) (by kernel_rfl) (fun _ _ _ h => h) (Or.inl ⟨by rfl, ?hy5u109⟩) hHeld ?rest5u109
    case hy5u109 =>
      intro w' hS'
      go_simp
      try with_reducible rfl
    simp only [List.setIfInBounds_toArray, List.set_cons_zero, List.set_cons_succ]
    refine take_op (i := 6) (d := 21) (v := ?_) rfl rfl (by kernel_rfl) (by kernel_rfl) (by kernel_rfl) (fun _ _ _ h => h) (Or.inl ⟨by rfl, ?hy6u110⟩) hHeld ?rest6u110
    case hy6u110 =>
      intro w' hS'
      go_simp
      try with_reducible rfl
    simp only [List.setIfInBounds_toArray, List.set_cons_zero, List.set_cons_succ]
    refine wpAnyH_ready (rs := [7]) (by kernel_rfl) (by simp) ?_
    refine AllReadyH.cons rfl (fun K hK => ?_) AllReadyH.nil
    go_simp
    refine (isPart_is lo true HLo.out _).mono ?_
    rintro e w' ⟨rfl, rfl⟩
    refine hK.out _ _ (hHeld) (fun hHeld2 => ?_)
    clear hK K
    replace hHeld := hHeld2
    clear hHeld2
    refine take_op (i := 8) (d := 23) (v := ?_) rfl rfl (by kernel_rfl) (by kernel_rfl) (by kernel_rfl) (fun _ _ _ h => h) (Or.inl ⟨by rfl, ?hy8u111⟩) hHeld ?rest8u111
    case hy8u111 =>
      intro w' hS'
      go_simp
      try with_reducible rfl
    simp only [List.setIfInBounds_toArray, List.set_cons_zero, List.set_cons_succ]
    refine take_op (i := 9) (d := 24) (v := ?_) rfl rfl (by kernel_rfl) (by kernel_rfl) (by kernel_rfl) (fun _ _ _ h => h) (Or.inl ⟨by rfl, ?hy9u112⟩) hHeld ?rest9u112
    case hy9u112 =>
      intro w' hS'
      go_simp
      try with_reducible rfl
    simp only [List.setIfInBounds_toArray, List.set_cons_zero, List.set_cons_succ]
    refine take_op (i := 10) (d := 25) (v := ?_) rfl rfl (by kernel_rfl) (by kernel_rfl) (by kernel_rfl) (fun _ _ _ h => h) (Or.inl ⟨by rfl, ?hy10u113⟩) hHeld ?rest10u113
    case hy10u113 =>
      intro w' hS'
      go_simp
      try with_reducible rfl
    simp only [List.setIfInBounds_toArray, List.set_cons_zero, List.set_cons_succ]
    refine wpAnyH_ready (rs := [11]) (by kernel_rfl) (by simp) ?_
    refine AllReadyH.cons rfl (fun K hK => ?_) AllReadyH.nil
    go_simp
    refine (isPart_is hi true HHi.out _).mono ?_
    rintro e w' ⟨rfl, rfl⟩
    refine hK.out _ _ (hHeld) (fun hHeld2 => ?_)
    clear hK K
    replace hHeld := hHeld2
    clear hHeld2
    refine take_op (i := 12) (d := 27) (v := ?_) rfl rfl (by kernel_rfl) (by kernel_rfl) (by kernel_rfl) (fun _ _ _ h => h) (Or.inl ⟨by rfl, ?hy12u114⟩) hHeld ?rest12u114
    case hy12u114 =>
      intro w' hS'
      go_simp
      try with_reducible rfl
    simp only [List.setIfInBounds_toArray, List.set_cons_zero, List.set_cons_succ]
    refine wpAnyH_ready (rs := [13]) (by kernel_rfl) (by simp) ?_
    refine AllReadyH.cons rfl (fun K hK => ?_) AllReadyH.nil
    go_simp
    refine (HC.out _).mono ?_
    rintro e W1 ⟨rfl, hb1⟩
    refine hK.out _ _ (hHeld.trans (hb1.mono hHeld.size)) (fun hHeld2 => ?_)
    clear hK K
    replace hHeld := hHeld2
    clear hHeld2
    clear hb1
    refine take_op (i := 14) (d := 14) (v := ?_) rfl rfl (by kernel_rfl) (by kernel_rfl) (by kernel_rfl) (fun _ _ _ h => h) (Or.inl ⟨by rfl, ?hy14u115⟩) hHeld ?rest14u115
    case hy14u115 =>
      intro w' hS'
      go_simp
      try with_reducible rfl
    simp only [List.setIfInBounds_toArray, List.set_cons_zero, List.set_cons_succ]
    refine wpAnyH_done (by kernel_rfl) ?_ _
    replace H0 := Lib.hid (below_row hHeld H0.out)
    replace H1 := Lib.hid (below_row hHeld H1.out)
    replace H2 := Lib.hid (below_row hHeld H2.out)
    replace HE := Lib.hid (errT_below HE.out hHeld)
    replace hb := hb.trans (hHeld.mono hb.size)
    clear hHeld
    go_upto_region 4 with (fail)
    refine wp_region_held_drew (S := (fun V => Below W1.heap.size W1 V)) (by kernel_rfl) (Below.refl _ _).drew (fun hHeld => ?_)
    refine take_op (i := 0) (d := 33) (v := .agg (blindC n wd gp t sh)) rfl rfl (by kernel_rfl) (by kernel_rfl) (by kernel_rfl) (fun _ _ _ h => h) (yields_row (by rfl) 32 (.tmp 6) (by rfl) w.heap.size 0 5 (by rfl) 32 (blindC n wd gp t sh) (0, 0) _ (fun _ h => below_row h H0.out) Tryz.underlying32 rfl info_blind (blind_fits _ _ _ _ _) (blindC n wd gp t sh) (blind_all _ _ _ _ _)) hHeld ?_
    simp only [List.setIfInBounds_toArray, List.set_cons_zero, List.set_cons_succ]
    refine take_op (i := 1) (d := 34) (v := .agg (sunC hs ts)) rfl rfl (by kernel_rfl) (by kernel_rfl) (by kernel_rfl) (fun _ _ _ h => h) (yields_row (by rfl) 27 (.tmp 7) (by rfl) b1 0 48 (by rfl) 27 (sunC hs ts) (0, 0) _ (fun _ h => below_row h H1.out) Tryz.underlying27 rfl info_sun (sun_fits _ _ Hh.out Ht.out) (sunC hs ts) (sun_all _ _ Hh.out Ht.out)) hHeld ?_
    simp only [List.setIfInBounds_toArray, List.set_cons_zero, List.set_cons_succ]
    refine take_op (i := 2) (d := 35) (v := ?_) rfl rfl (by kernel_rfl) (by kernel_rfl) (by kernel_rfl) (fun _ _ _ h => h) (Or.inl ⟨by rfl, ?hy2u101⟩) hHeld ?rest2u101
    case hy2u101 =>
      intro w' hS'
      go_simp
      try with_reducible rfl
    simp only [List.setIfInBounds_toArray, List.set_cons_zero, List.set_cons_succ]
    refine take_op (i := 3) (d := 36) (v := ?_) rfl rfl (by kernel_rfl) (by kernel_rfl) (by kernel_rfl) (fun _ _ _ h => h) (Or.inl ⟨by rfl, ?hy3u102⟩) hHeld ?rest3u102
    case hy3u102 =>
      intro w' hS'
      go_simp
      try with_reducible rfl
    simp only [List.setIfInBounds_toArray, List.set_cons_zero, List.set_cons_succ]
    refine take_op (i := 4) (d := 37) (v := ?_) rfl rfl (by kernel_rfl) (by kernel_rfl) (by kernel_rfl) (fun _ _ _ h => h) (Or.inl ⟨by rfl, ?hy4u103⟩) hHeld ?rest4u103
    case hy4u103 =>
      intro w' hS'
      go_simp
      try with_reducible rfl
    simp only [List.setIfInBounds_toArray, List.set_cons_zero, List.set_cons_succ]
    refine take_op (i := 5) (d := 38) (v := ?_) rfl rfl (by kernel_rfl) (by kernel_rfl) (by kernel_rfl) (fun _ _ _ h => h) (Or.inl ⟨by rfl, ?hy5u104⟩) hHeld ?rest5u104
    case hy5u104 =>
      intro w' hS'
      go_simp
      try with_reducible rfl
    simp only [List.setIfInBounds_toArray, List.set_cons_zero, List.set_cons_succ]
    refine take_op (i := 7) (d := 40) (v := .agg (i16s ps)) rfl rfl (by kernel_rfl) (by kernel_rfl) (by kernel_rfl) (fun _ _ _ h => h) (yields_row (by rfl) 52 (.tmp 9) (by rfl) b2 0 24 (by rfl) 52 (i16s ps) (0, 0) _ (fun _ h => below_row h H2.out) Tryz.underlying52 rfl info_plan (by rw [i16s_size, Hp.out]; decide) (i16s ps) (i16s_all _ 24 Hp.out)) hHeld ?_
    simp only [List.setIfInBounds_toArray, List.set_cons_zero, List.set_cons_succ]
    refine wpAnyH_ready (rs := [6]) (by kernel_rfl) (by simp) ?_
    refine AllReadyH.cons rfl (fun K hK => ?_) AllReadyH.nil
    go_simp
    refine (HDO.out _).mono ?_
    rintro e W5 ⟨rfl, hb1⟩
    refine hK.out _ _ (hHeld.trans (hb1.mono hHeld.size)) (fun hHeld2 => ?_)
    clear hK K
    replace hHeld := hHeld2
    clear hHeld2
    clear hb1
    refine wpAnyH_ready (rs := [8]) (by kernel_rfl) (by simp) ?_
    refine AllReadyH.cons rfl (fun K hK => ?_) AllReadyH.nil
    go_simp
    refine (HOU2.out _).mono ?_
    rintro e W6 ⟨rfl, hb1⟩
    refine hK.out _ _ (hHeld.trans (hb1.mono hHeld.size)) (fun hHeld2 => ?_)
    clear hK K
    replace hHeld := hHeld2
    clear hHeld2
    clear hb1
    refine take_op (i := 9) (d := 42) (v := ?_) rfl rfl (by kernel_rfl) (by kernel_rfl) (by kernel_rfl) (fun _ _ _ h => h) (Or.inl ⟨by rfl, ?hy9u105⟩) hHeld ?rest9u105
    case hy9u105 =>
      intro w' hS'
      go_simp
      try with_reducible rfl
    simp only [List.setIfInBounds_toArray, List.set_cons_zero, List.set_cons_succ]
    refine take_op (i := 10) (d := 12) (v := ?_) rfl rfl (by kernel_rfl) (by kernel_rfl) (by kernel_rfl) (fun _ _ _ h => h) (Or.inl ⟨by rfl, ?hy10u106⟩) hHeld ?rest10u106
    case hy10u106 =>
      intro w' hS'
      go_simp
      try with_reducible rfl
    simp only [List.setIfInBounds_toArray, List.set_cons_zero, List.set_cons_succ]
    refine take_op (i := 11) (d := 13) (v := ?_) rfl rfl (by kernel_rfl) (by kernel_rfl) (by kernel_rfl) (fun _ _ _ h => h) (Or.inl ⟨by rfl, ?hy11u107⟩) hHeld ?rest11u107
    case hy11u107 =>
      intro w' hS'
      go_simp
      try with_reducible rfl
    simp only [List.setIfInBounds_toArray, List.set_cons_zero, List.set_cons_succ]
    refine wpAnyH_done (by kernel_rfl) ?_ _
    replace hb := hb.trans (hHeld.mono hb.size)
    clear hHeld H0 H1 H2 HE
    go_wp2
    go_ret2
    exact ⟨rfl, hb⟩
  | some k =>
    have hn2 := fun w => run_eql_held_nil (P := Tryz.prog) (w := w) 114 191 (.agg #[.int .i64 (k : Int)]) (by kernel_rfl)
    have HOU2 : Hid (∀ w, Calls Tryz.prog 77 #[.agg (dayC hs ts fc lo hi n wd gp t sh), .agg (i16s ps)] w fun e w' => e = .returned (.iface 191 (.agg #[.int .i64 (k : Int)])) ∧ Below w.heap.size w w') := HOU.out
    clear HOU
    go_enter Tryz.func22, Tryz.ntmps22
    go_upto_region 1 with (fail)
    refine abs_code (fun W => W.heap[w.heap.size]? = some (.cells (blindC n wd gp t sh) 32 (0, 0)) ∧ W.heap[w.heap.size + 1]? = some (.cells (sunC hs ts) 27 (0, 0)) ∧ W.heap[w.heap.size + 1 + 1]? = some (.cells (i16s ps) 52 (0, 0)) ∧ Below w.heap.size w W) ⟨(three_new _ _ _ _).1, (three_new _ _ _ _).2.1, (three_new _ _ _ _).2.2.1, (three_new _ _ _ _).2.2.2⟩ ?_
    rintro W ⟨h0, h1, h2, hb⟩
    generalize w.heap.size + 1 + 1 = b2 at *
    generalize w.heap.size + 1 = b1 at *
    have H0 := Lib.hid h0
    have H1 := Lib.hid h1
    have H2 := Lib.hid h2
    clear h0 h1 h2
    have HE := Lib.hid (errT_below HE0.out hb)
    refine wp_region_held_drew (S := (fun V => Below W.heap.size W V)) (by kernel_rfl) (Below.refl _ _).drew (fun hHeld => ?_)
    refine take_op (i := 0) (d := 15) (v := .agg (blindC n wd gp t sh)) rfl rfl (by kernel_rfl) (by kernel_rfl) (by kernel_rfl) (fun _ _ _ h => h) (yields_row (by rfl) 32 (.tmp 6) (by rfl) w.heap.size 0 5 (by rfl) 32 (blindC n wd gp t sh) (0, 0) _ (fun _ h => below_row h H0.out) Tryz.underlying32 rfl info_blind (blind_fits _ _ _ _ _) (blindC n wd gp t sh) (blind_all _ _ _ _ _)) hHeld ?_
    simp only [List.setIfInBounds_toArray, List.set_cons_zero, List.set_cons_succ]
    refine take_op (i := 1) (d := 16) (v := .agg (sunC hs ts)) rfl rfl (by kernel_rfl) (by kernel_rfl) (by kernel_rfl) (fun _ _ _ h => h) (yields_row (by rfl) 27 (.tmp 7) (by rfl) b1 0 48 (by rfl) 27 (sunC hs ts) (0, 0) _ (fun _ h => below_row h H1.out) Tryz.underlying27 rfl info_sun (sun_fits _ _ Hh.out Ht.out) (sunC hs ts) (sun_all _ _ Hh.out Ht.out)) hHeld ?_
    simp only [List.setIfInBounds_toArray, List.set_cons_zero, List.set_cons_succ]
    refine take_op (i := 2) (d := 17) (v := .agg (i16s ps)) rfl rfl (by kernel_rfl) (by kernel_rfl) (by kernel_rfl) (fun _ _ _ h => h) (yields_row (by rfl) 52 (.tmp 9) (by rfl) b2 0 24 (by rfl) 52 (i16s ps) (0, 0) _ (fun _ h => below_row h H2.out) Tryz.underlying52 rfl info_plan (by rw [i16s_size, Hp.out]; decide) (i16s ps) (i16s_all _ 24 Hp.out)) hHeld ?_
    simp only [List.setIfInBounds_toArray, List.set_cons_zero, List.set_cons_succ]
    refine take_op (i := 3) (d := 18) (v := ?_) rfl rfl (by kernel_rfl) (by kernel_rfl) (by kernel_rfl) (fun _ _ _ h => h) (Or.inl ⟨by rfl, ?hy3u123⟩) hHeld ?rest3u123
    case hy3u123 =>
      intro w' hS'
      go_simp
      try with_reducible rfl
    simp only [List.setIfInBounds_toArray, List.set_cons_zero, List.set_cons_succ]
    refine wpAnyH_ready (rs := [4]) (by kernel_rfl) (by simp) ?_
    refine AllReadyH.cons rfl (fun K hK => ?_) AllReadyH.nil
    go_simp
    refine (isFacing_is fc true HF.out _).mono ?_
    rintro e w' ⟨rfl, rfl⟩
    refine hK.out _ _ (hHeld) (fun hHeld2 => ?_)
    clear hK K
    replace hHeld := hHeld2
    clear hHeld2
    refine take_op (i := 5) (d := 20) (v := ?_) rfl rfl (by kernel_rfl) (by kernel_rfl) (by kernel_rfl) (fun _ _ _ h => h) (Or.inl ⟨by rfl, ?hy5u124⟩) hHeld ?rest5u124
    case hy5u124 =>
      intro w' hS'
      go_simp
      try with_reducible rfl
    simp only [List.setIfInBounds_toArray, List.set_cons_zero, List.set_cons_succ]
    refine take_op (i := 6) (d := 21) (v := ?_) rfl rfl (by kernel_rfl) (by kernel_rfl) (by kernel_rfl) (fun _ _ _ h => h) (Or.inl ⟨by rfl, ?hy6u125⟩) hHeld ?rest6u125
    case hy6u125 =>
      intro w' hS'
      go_simp
      try with_reducible rfl
    simp only [List.setIfInBounds_toArray, List.set_cons_zero, List.set_cons_succ]
    refine wpAnyH_ready (rs := [7]) (by kernel_rfl) (by simp) ?_
    refine AllReadyH.cons rfl (fun K hK => ?_) AllReadyH.nil
    go_simp
    refine (isPart_is lo true HLo.out _).mono ?_
    rintro e w' ⟨rfl, rfl⟩
    refine hK.out _ _ (hHeld) (fun hHeld2 => ?_)
    clear hK K
    replace hHeld := hHeld2
    clear hHeld2
    refine take_op (i := 8) (d := 23) (v := ?_) rfl rfl (by kernel_rfl) (by kernel_rfl) (by kernel_rfl) (fun _ _ _ h => h) (Or.inl ⟨by rfl, ?hy8u126⟩) hHeld ?rest8u126
    case hy8u126 =>
      intro w' hS'
      go_simp
      try with_reducible rfl
    simp only [List.setIfInBounds_toArray, List.set_cons_zero, List.set_cons_succ]
    refine take_op (i := 9) (d := 24) (v := ?_) rfl rfl (by kernel_rfl) (by kernel_rfl) (by kernel_rfl) (fun _ _ _ h => h) (Or.inl ⟨by rfl, ?hy9u127⟩) hHeld ?rest9u127
    case hy9u127 =>
      intro w' hS'
      go_simp
      try with_reducible rfl
    simp only [List.setIfInBounds_toArray, List.set_cons_zero, List.set_cons_succ]
    refine take_op (i := 10) (d := 25) (v := ?_) rfl rfl (by kernel_rfl) (by kernel_rfl) (by kernel_rfl) (fun _ _ _ h => h) (Or.inl ⟨by rfl, ?hy10u128⟩) hHeld ?rest10u128
    case hy10u128 =>
      intro w' hS'
      go_simp
      try with_reducible rfl
    simp only [List.setIfInBounds_toArray, List.set_cons_zero, List.set_cons_succ]
    refine wpAnyH_ready (rs := [11]) (by kernel_rfl) (by simp) ?_
    refine AllReadyH.cons rfl (fun K hK => ?_) AllReadyH.nil
    go_simp
    refine (isPart_is hi true HHi.out _).mono ?_
    rintro e w' ⟨rfl, rfl⟩
    refine hK.out _ _ (hHeld) (fun hHeld2 => ?_)
    clear hK K
    replace hHeld := hHeld2
    clear hHeld2
    refine take_op (i := 12) (d := 27) (v := ?_) rfl rfl (by kernel_rfl) (by kernel_rfl) (by kernel_rfl) (fun _ _ _ h => h) (Or.inl ⟨by rfl, ?hy12u129⟩) hHeld ?rest12u129
    case hy12u129 =>
      intro w' hS'
      go_simp
      try with_reducible rfl
    simp only [List.setIfInBounds_toArray, List.set_cons_zero, List.set_cons_succ]
    refine wpAnyH_ready (rs := [13]) (by kernel_rfl) (by simp) ?_
    refine AllReadyH.cons rfl (fun K hK => ?_) AllReadyH.nil
    go_simp
    refine (HC.out _).mono ?_
    rintro e W1 ⟨rfl, hb1⟩
    refine hK.out _ _ (hHeld.trans (hb1.mono hHeld.size)) (fun hHeld2 => ?_)
    clear hK K
    replace hHeld := hHeld2
    clear hHeld2
    clear hb1
    refine take_op (i := 14) (d := 14) (v := ?_) rfl rfl (by kernel_rfl) (by kernel_rfl) (by kernel_rfl) (fun _ _ _ h => h) (Or.inl ⟨by rfl, ?hy14u130⟩) hHeld ?rest14u130
    case hy14u130 =>
      intro w' hS'
      go_simp
      try with_reducible rfl
    simp only [List.setIfInBounds_toArray, List.set_cons_zero, List.set_cons_succ]
    refine wpAnyH_done (by kernel_rfl) ?_ _
    replace H0 := Lib.hid (below_row hHeld H0.out)
    replace H1 := Lib.hid (below_row hHeld H1.out)
    replace H2 := Lib.hid (below_row hHeld H2.out)
    replace HE := Lib.hid (errT_below HE.out hHeld)
    replace hb := hb.trans (hHeld.mono hb.size)
    clear hHeld
    go_upto_region 4 with (fail)
    refine wp_region_held_drew (S := (fun V => Below W1.heap.size W1 V)) (by kernel_rfl) (Below.refl _ _).drew (fun hHeld => ?_)
    refine take_op (i := 0) (d := 33) (v := .agg (blindC n wd gp t sh)) rfl rfl (by kernel_rfl) (by kernel_rfl) (by kernel_rfl) (fun _ _ _ h => h) (yields_row (by rfl) 32 (.tmp 6) (by rfl) w.heap.size 0 5 (by rfl) 32 (blindC n wd gp t sh) (0, 0) _ (fun _ h => below_row h H0.out) Tryz.underlying32 rfl info_blind (blind_fits _ _ _ _ _) (blindC n wd gp t sh) (blind_all _ _ _ _ _)) hHeld ?_
    simp only [List.setIfInBounds_toArray, List.set_cons_zero, List.set_cons_succ]
    refine take_op (i := 1) (d := 34) (v := .agg (sunC hs ts)) rfl rfl (by kernel_rfl) (by kernel_rfl) (by kernel_rfl) (fun _ _ _ h => h) (yields_row (by rfl) 27 (.tmp 7) (by rfl) b1 0 48 (by rfl) 27 (sunC hs ts) (0, 0) _ (fun _ h => below_row h H1.out) Tryz.underlying27 rfl info_sun (sun_fits _ _ Hh.out Ht.out) (sunC hs ts) (sun_all _ _ Hh.out Ht.out)) hHeld ?_
    simp only [List.setIfInBounds_toArray, List.set_cons_zero, List.set_cons_succ]
    refine take_op (i := 2) (d := 35) (v := ?_) rfl rfl (by kernel_rfl) (by kernel_rfl) (by kernel_rfl) (fun _ _ _ h => h) (Or.inl ⟨by rfl, ?hy2u116⟩) hHeld ?rest2u116
    case hy2u116 =>
      intro w' hS'
      go_simp
      try with_reducible rfl
    simp only [List.setIfInBounds_toArray, List.set_cons_zero, List.set_cons_succ]
    refine take_op (i := 3) (d := 36) (v := ?_) rfl rfl (by kernel_rfl) (by kernel_rfl) (by kernel_rfl) (fun _ _ _ h => h) (Or.inl ⟨by rfl, ?hy3u117⟩) hHeld ?rest3u117
    case hy3u117 =>
      intro w' hS'
      go_simp
      try with_reducible rfl
    simp only [List.setIfInBounds_toArray, List.set_cons_zero, List.set_cons_succ]
    refine take_op (i := 4) (d := 37) (v := ?_) rfl rfl (by kernel_rfl) (by kernel_rfl) (by kernel_rfl) (fun _ _ _ h => h) (Or.inl ⟨by rfl, ?hy4u118⟩) hHeld ?rest4u118
    case hy4u118 =>
      intro w' hS'
      go_simp
      try with_reducible rfl
    simp only [List.setIfInBounds_toArray, List.set_cons_zero, List.set_cons_succ]
    refine take_op (i := 5) (d := 38) (v := ?_) rfl rfl (by kernel_rfl) (by kernel_rfl) (by kernel_rfl) (fun _ _ _ h => h) (Or.inl ⟨by rfl, ?hy5u119⟩) hHeld ?rest5u119
    case hy5u119 =>
      intro w' hS'
      go_simp
      try with_reducible rfl
    simp only [List.setIfInBounds_toArray, List.set_cons_zero, List.set_cons_succ]
    refine take_op (i := 7) (d := 40) (v := .agg (i16s ps)) rfl rfl (by kernel_rfl) (by kernel_rfl) (by kernel_rfl) (fun _ _ _ h => h) (yields_row (by rfl) 52 (.tmp 9) (by rfl) b2 0 24 (by rfl) 52 (i16s ps) (0, 0) _ (fun _ h => below_row h H2.out) Tryz.underlying52 rfl info_plan (by rw [i16s_size, Hp.out]; decide) (i16s ps) (i16s_all _ 24 Hp.out)) hHeld ?_
    simp only [List.setIfInBounds_toArray, List.set_cons_zero, List.set_cons_succ]
    refine wpAnyH_ready (rs := [6]) (by kernel_rfl) (by simp) ?_
    refine AllReadyH.cons rfl (fun K hK => ?_) AllReadyH.nil
    go_simp
    refine (HDO.out _).mono ?_
    rintro e W5 ⟨rfl, hb1⟩
    refine hK.out _ _ (hHeld.trans (hb1.mono hHeld.size)) (fun hHeld2 => ?_)
    clear hK K
    replace hHeld := hHeld2
    clear hHeld2
    clear hb1
    refine wpAnyH_ready (rs := [8]) (by kernel_rfl) (by simp) ?_
    refine AllReadyH.cons rfl (fun K hK => ?_) AllReadyH.nil
    go_simp
    refine (HOU2.out _).mono ?_
    rintro e W6 ⟨rfl, hb1⟩
    refine hK.out _ _ (hHeld.trans (hb1.mono hHeld.size)) (fun hHeld2 => ?_)
    clear hK K
    replace hHeld := hHeld2
    clear hHeld2
    clear hb1
    refine take_op (i := 9) (d := 42) (v := ?_) rfl rfl (by kernel_rfl) (by kernel_rfl) (by kernel_rfl) (fun _ _ _ h => h) (Or.inl ⟨by rfl, ?hy9u120⟩) hHeld ?rest9u120
    case hy9u120 =>
      intro w' hS'
      go_simp
      try with_reducible rfl
    simp only [List.setIfInBounds_toArray, List.set_cons_zero, List.set_cons_succ]
    refine take_op (i := 10) (d := 12) (v := ?_) rfl rfl (by kernel_rfl) (by kernel_rfl) (by kernel_rfl) (fun _ _ _ h => h) (Or.inl ⟨by rfl, ?hy10u121⟩) hHeld ?rest10u121
    case hy10u121 =>
      intro w' hS'
      go_simp
      try with_reducible rfl
    simp only [List.setIfInBounds_toArray, List.set_cons_zero, List.set_cons_succ]
    refine take_op (i := 11) (d := 13) (v := ?_) rfl rfl (by kernel_rfl) (by kernel_rfl) (by kernel_rfl) (fun _ _ _ h => h) (Or.inl ⟨by rfl, ?hy11u122⟩) hHeld ?rest11u122
    case hy11u122 =>
      intro w' hS'
      go_simp
      try with_reducible rfl
    simp only [List.setIfInBounds_toArray, List.set_cons_zero, List.set_cons_succ]
    refine wpAnyH_done (by kernel_rfl) ?_ _
    replace hb := hb.trans (hHeld.mono hb.size)
    clear hHeld H0 H1 H2 HE
    go_wp2
    go_ret2
    exact ⟨rfl, hb⟩

end Go.Proofs.YtddnfbpgldchcaaGreatDoor

namespace Go.Proofs.YtddnfbpgldchcaaGreatDoor

open Go.RowKit

theorem ge0_pos {x y : Nat} (hx : x < 2139095040) (hy : y < 2139095040) (h : y ≤ x) : ge0 (FloatKind.f32.format.order x y) = true := by
  rw [order_pos hx hy]
  simp only [compare, compareOfLessAndEq]
  rw [if_neg (by omega)]
  split <;> rfl

theorem le0_pos {x y : Nat} (hx : x < 2139095040) (hy : y < 2139095040) (h : x ≤ y) : le0 (FloatKind.f32.format.order x y) = true := by
  rw [order_pos hx hy]
  simp only [compare, compareOfLessAndEq]
  by_cases c : x < y
  · rw [if_pos c]; rfl
  · rw [if_neg c, if_pos (by omega)]; rfl

theorem betw_pos {x lo hi : Nat} (h0 : lo ≤ x) (h1 : x ≤ hi) (h2 : hi < 2139095040) : betw x lo hi = true := by
  unfold betw
  rw [ge0_pos (by omega) (by omega) h0, le0_pos (by omega) h2 h1]
  rfl

theorem sized_len {z : Nat} (h : Sized z) : lenB z = true := betw_pos h.1 h.2 (by decide)

theorem tone_part {z : Nat} (h : z ≤ 1065353216) : partB z = true := betw_pos (Nat.zero_le _) h (by decide)

theorem low_wf {z : Nat} (h : z < 4294967296) : (Lit.float .f32 z).wf = true := by simpa [Lit.wf] using h

theorem drawn_ok {k : Int} {wd gp : Nat} {t : Int} {sh : Nat} (h : 1 ≤ k ∧ k ≤ 60 ∧ Sized wd ∧ Sized gp ∧ -64 ≤ t ∧ t ≤ 64 ∧ sh ≤ 1065353216) : okBl k wd gp t sh = true ∧ BlWf k wd gp t sh := by
  obtain ⟨h1, h2, h3, h4, h5, h6, h7⟩ := h
  constructor
  · unfold okBl
    rw [sized_len h3, sized_len h4, tone_part h7]
    unfold inI
    simp
    omega
  · refine ⟨?_, low_wf (by have := h3.2; omega), low_wf (by have := h4.2; omega), ?_, low_wf (by omega)⟩
    · simp [Lit.wf, IntKind.min, IntKind.max, IntKind.signed, IntKind.bits]; omega
    · simp [Lit.wf, IntKind.min, IntKind.max, IntKind.signed, IntKind.bits]; omega

end Go.Proofs.YtddnfbpgldchcaaGreatDoor

namespace Go.Proofs.YtddnfbpgldchcaaGreatDoor

open Go.ChangeShapes Go.WideShapes Go.ChangeAt Go.RowKit Go.Deep Go.Joins

theorem run_bits2 (a : Nat) (w : World) : (callFunc 115 #[.float .f32 a]).run Tryz.prog w = .ok (.value (.int .u32 a)) w := by kernel_rfl

/-- The bits of a number, one pattern for every NaN. -/
def nbits (a : Nat) : Nat := if FloatKind.f32.format.order a a = some .eq then a else 2143289344

theorem ret_bool {a b : Bool} (h : a = b) : Ending.returned (.bool a) = .returned (.bool b) := by rw [h]

theorem cast_beq (a b : Nat) : ((a : Int) == (b : Int)) = (a == b) := by
  rw [Bool.eq_iff_iff]; simp only [beq_iff_eq]; omega

def sameB (a b : Nat) : Bool := nbits a == nbits b

theorem order_self2 (a : Nat) : FloatKind.f32.format.order a a = some .eq ∨ FloatKind.f32.format.order a a = none := by
  show (Ieee.single.read a).order (Ieee.single.read a) = some .eq ∨ _
  generalize hd : Ieee.single.read a = d
  have e : FloatKind.f32.format.order a a = d.order d := by show (Ieee.single.read a).order (Ieee.single.read a) = _; rw [hd]
  rw [e]
  cases d with
  | number s m e => left; simp [Ieee.Datum.order]
  | infinity s => left; simp [Ieee.Datum.order]
  | nan s f => right; rfl

theorem nbits_eq {a : Nat} (h : FloatKind.f32.format.order a a = some .eq) : nbits a = a := if_pos h

theorem nbits_nan {a : Nat} (h : FloatKind.f32.format.order a a = none) : nbits a = 2143289344 := if_neg (by rw [h]; intro h; cases h)

theorem not_nan2 {a : Nat} (h : FloatKind.f32.format.order a a = some .eq) : a ≠ 2143289344 := by
  have hn : FloatKind.f32.format.order 2143289344 2143289344 = none := by decide +kernel
  intro e
  rw [e, hn] at h; cases h

set_option maxHeartbeats 1000000 in
theorem l01Same_any (a b : Nat) (w : World) :
    Calls Tryz.prog 55 #[.float .f32 a, .float .f32 b] w fun e w' => e = .returned (.bool (sameB a b)) ∧ w = w' := by
  have ra := run_bits2 a
  have rb := run_bits2 b
  unfold sameB
  rcases order_self2 a with ha | ha <;> rcases order_self2 b with hb | hb
  · rw [nbits_eq ha, nbits_eq hb]
    go_enter Tryz.func55, Tryz.ntmps55
    go_wp2
    go_ret
    exact ⟨ret_bool (cast_beq a b), rfl⟩
  · rw [nbits_eq ha, nbits_nan hb, beq_false_of_ne (not_nan2 ha)]
    go_enter Tryz.func55, Tryz.ntmps55
    go_wp2
    go_ret
    exact ⟨rfl, rfl⟩
  · rw [nbits_nan ha, nbits_eq hb, beq_false_of_ne (Ne.symm (not_nan2 hb))]
    go_enter Tryz.func55, Tryz.ntmps55
    go_wp2
    go_ret
    exact ⟨rfl, rfl⟩
  · rw [nbits_nan ha, nbits_nan hb]
    go_enter Tryz.func55, Tryz.ntmps55
    go_wp2
    go_ret
    exact ⟨rfl, rfl⟩

end Go.Proofs.YtddnfbpgldchcaaGreatDoor

namespace Go.Proofs.YtddnfbpgldchcaaGreatDoor
open Go.RowKit


theorem ulp_half {r : Nat} (h : r < 1065353216) : ulp r ≤ 2 * 2 ^ 124 := by
  have e : (2 : Nat) * 2 ^ 124 = 2 ^ 125 := by decide +kernel
  rw [e]
  unfold ulp
  exact Nat.pow_le_pow_right (by decide) (by omega)

/-- What passes is at most what falls. -/
theorem pas_one (wd gp : Nat) (t : Int) {sh : Nat} (hs : sh ≤ 1065353216) (h : Int) : pasB wd gp t sh h ≤ 1065353216 := by
  have hb := blk_le wd gp t h
  have ho := (opn_facts wd gp t h).2
  have hv := (opn_facts wd gp t 1).2
  have hr : Rnd (rv 1065353216 - rv (blkB wd gp t h)) 1 (opnB wd gp t h) := (sub_rnd (by decide) hb).2
  unfold pasB bncB
  generalize opnB wd gp t h = o at *
  generalize blkB wd gp t h = b at *
  generalize opnB wd gp t 1 = v at *
  have m1 := mul_le_one (x := b) (y := sh) (by omega) hs
  have m2 := mul_le_one (x := fmul b sh) (y := v) (by omega) hv
  generalize fmul (fmul b sh) v = x at *
  have hx : x ≤ b := by omega
  have d : fdiv x 1073741824 ≤ x := rnd_le (div_rnd (x := x) (y := 1073741824) (by omega) (by decide) (by decide)).2 (by decide +kernel) (Nat.mul_le_mul_left _ (by decide +kernel))
  generalize fdiv x 1073741824 = q at *
  have rq : rv q ≤ rv b := rv_le (by omega)
  have rb : rv b ≤ rv 1065353216 := rv_le hb
  have e1 : rv 1065353216 = 33554432 * 2 ^ 124 := by decide +kernel
  have e2 : ulp 1065353216 = 4 * 2 ^ 124 := by decide +kernel
  rw [e1] at hr rb
  have ro : rv o ≤ 33554432 * 2 ^ 124 - rv b + 2 ^ 124 := by
    cases o with
    | zero => have : rv 0 = 0 := by decide +kernel
              rw [this]; exact Nat.zero_le _
    | succ r =>
      have a := (hr.2 r (by omega)).1 (Nat.le_refl _)
      have u := ulp_half (r := r) (by omega)
      rw [rv_succ]
      generalize (2 : Nat) ^ 124 = N at *
      omega
  refine Nat.le_of_not_lt fun c => ?_
  have w := (add_rnd (x := o) (y := q) (by omega) (by omega)).2
  have a := (w.2 1065353216 (by decide)).1 c
  rw [e1, e2] at a
  have pN : 0 < (2 : Nat) ^ 124 := Nat.two_pow_pos _
  generalize (2 : Nat) ^ 124 = N at *
  omega

theorem fall_one (hs ts : List Int) (hour facing : Int) (h1 : atH hs hour ≤ 64) : fallOf hs ts hour facing ≤ 1065353216 := by
  unfold fallOf
  by_cases c : 0 < atH hs hour
  · rcases fall_rng (atH hs hour) (atH ts hour - facing) c h1 with h | h
    · rw [h]; decide
    · exact h.2
  · unfold fallB
    rw [if_neg c]
    decide

theorem win_fall (wd gp : Nat) (t : Int) {sh : Nat} (hsh : sh ≤ 1065353216) (hs ts : List Int) (hour facing : Int) (h1 : atH hs hour ≤ 64) : winB wd gp t sh hs ts hour facing ≤ fallOf hs ts hour facing := by
  unfold winB
  split
  · exact mul_le_one (Nat.lt_of_le_of_lt (fall_one hs ts hour facing h1) (by decide)) (pas_one wd gp t hsh _)
  · exact Nat.zero_le _

theorem tp_ge {x y : Nat} (hx : x ≤ 1065353216) (hy : y ≤ 1065353216) (h : y ≤ x) : (FloatKind.f32.format.order x y == some Ordering.gt || FloatKind.f32.format.order x y == some Ordering.eq) = true := by
  rw [order_pos (by omega) (by omega)]
  simp only [compare, compareOfLessAndEq]
  rw [if_neg (by omega)]
  split <;> rfl

theorem tp_le {x y : Nat} (hx : x ≤ 1065353216) (hy : y ≤ 1065353216) (h : x ≤ y) : (FloatKind.f32.format.order x y == some Ordering.lt || FloatKind.f32.format.order x y == some Ordering.eq) = true := by
  rw [order_pos (by omega) (by omega)]
  simp only [compare, compareOfLessAndEq]
  by_cases c : x < y
  · rw [if_pos c]; rfl
  · rw [if_neg c, if_pos (by omega)]; rfl

theorem bothL_in {a b : List Int} {x : Int} (h : x ∈ bothL a b) : x ∈ b := by
  have h2 := (List.mem_filter.1 h).2
  rwa [List.contains_iff_mem] at h2

theorem head_in {l : List Int} (h : l ≠ []) : l.headD 0 ∈ l := by
  cases l with
  | nil => exact (h rfl).elim
  | cons x xs => exact List.mem_cons_self

/-- Every hour of the plan holds one of the hour's own tilts. -/
theorem plan_in (T : Nat → List Int) (hT : ∀ h, h < 24 → T h ≠ []) : ∀ k, k ≤ 24 →
    (∀ j, j < k → (stF T [] k).plan[j]?.getD 0 ∈ T j) ∧ (∀ j, (stF T [] k).first ≤ j → j < k → ∀ x ∈ (stF T [] k).shared, x ∈ T j)
  | 0, _ => ⟨fun j hj => by omega, fun j _ hj => by omega⟩
  | k + 1, hk => by
    obtain ⟨i1, i2⟩ := plan_in T hT k (by omega)
    have hl := stF_len T [] k
    have hf := stF_first T [] k
    rw [stF]
    unfold stepF
    split
    · refine ⟨fun j hj => ?_, fun j h0 hj x hx => ?_⟩
      · show (fillP (stF T [] k).plan k k ((T k).headD 0))[j]?.getD 0 ∈ T j
        rw [fillP_get _ _ _ _ (by omega)]
        by_cases c : k ≤ j ∧ j ≤ k
        · rw [if_pos c]
          obtain rfl : j = k := by omega
          exact head_in (hT j (by omega))
        · rw [if_neg c]
          exact i1 j (by omega)
      · have h0 : k ≤ j := h0
        obtain rfl : j = k := by omega
        exact hx
    · rename_i hne
      refine ⟨fun j hj => ?_, fun j h0 hj x hx => ?_⟩
      · show (fillP (stF T [] k).plan (stF T [] k).first k ((bothL (stF T [] k).shared (T k)).headD 0))[j]?.getD 0 ∈ T j
        rw [fillP_get _ _ _ _ (by omega)]
        by_cases c : (stF T [] k).first ≤ j ∧ j ≤ k
        · rw [if_pos c]
          have hh := head_in hne
          by_cases e : j = k
          · rw [e]; exact bothL_in hh
          · exact i2 j c.1 (by omega) _ (bothL_mem hh)
        · rw [if_neg c]
          exact i1 j (by omega)
      · have h0 : (stF T [] k).first ≤ j := h0
        have hx : x ∈ bothL (stF T [] k).shared (T k) := hx
        by_cases e : j = k
        · rw [e]; exact bothL_in hx
        · exact i2 j h0 (by omega) x (bothL_mem hx)

theorem plan_keeps (hs ts : List Int) (fc : Int) (lo hi wd gp sh : Nat) (T : Nat → List Int) (hT : T = (fun h : Nat => wantT (kpB hs ts fc lo hi wd gp sh (h : Int)) (tls 129))) (hA : ∀ h, h < 24 → T h ≠ []) (p : List Int) (hp : (stF T [] 24).plan = p) :
    okP p = true ∧ firstNo (kpAt hs ts fc lo hi wd gp sh p) 0 24 = none := by
  have hl : p.length = 24 := by rw [← hp]; exact stF_len T [] 24
  have hi1 : ∀ j : Nat, j < 24 → p[j]?.getD 0 ∈ wantT (kpB hs ts fc lo hi wd gp sh (j : Int)) (tls 129) := fun j hj => by
    have := (plan_in T hA 24 (Nat.le_refl _)).1 j hj
    rw [hp, hT] at this
    exact this
  constructor
  · refine (okP_iff p hl).2 (fun k hk => ?_)
    obtain ⟨a, b⟩ := want_tilt (hi1 k hk)
    unfold inI
    rw [decide_eq_true a, decide_eq_true b]
    rfl
  · refine firstNo_none _ 24 0 (fun j _ hj => ?_)
    have := (List.mem_filter.1 (hi1 j (by omega))).2
    exact this

theorem cnt_one (p : List Int) : ∀ k, 1 ≤ cntR p (k + 1)
  | 0 => by
    have : isRun p 0 = true := rfl
    rw [cntR, this]
    simp
  | k + 1 => by
    have := cnt_one p k
    rw [cntR]
    omega

theorem srch_hit {g : Nat → Bool} : ∀ m k j, srchS g m k = some j → g j = true
  | 0, k, j, h => by cases h
  | m + 1, k, j, h => by
    rw [srchS] at h
    by_cases c : g k = true
    · rw [if_pos c] at h
      injection h with h
      rwa [← h]
    · rw [if_neg c] at h
      exact srch_hit m (k + 1) j h

theorem std_fix {f : St → St} {s : St} {k : Nat} (h : stdS f s k = true) : f (itS f s k) = itS f s k := by
  unfold stdS at h
  rw [Bool.and_eq_true, Bool.and_eq_true, beq_iff_eq, beq_iff_eq, beq_iff_eq] at h
  obtain ⟨a, b, c⟩ := h
  exact Prod.ext a (Prod.ext b c)

theorem half_tone {z : Nat} (h : z ≤ 1065353216) : floatBits .quo .f32 z 1073741824 = some (fdiv z 1073741824) ∧ fdiv z 1073741824 ≤ 1065353216 :=
  ⟨(div_rnd (by omega) (by decide) (by decide)).1, Nat.le_trans (div_mono (X := 1065353216) (Y := 1073741824) (by decide) (by decide) (by decide) h (Nat.le_refl _)) (by decide +kernel)⟩

theorem ctl_ok {lo hi wi : Nat} {st de ca : Int} (h : lo ≤ hi ∧ hi ≤ 1065353216 ∧ wi ≤ 1065353216 ∧ 1 ≤ st ∧ st ≤ 20 ∧ 0 ≤ de ∧ de ≤ 3 ∧ 1 ≤ ca ∧ ca ≤ 4) : okCt lo hi wi st de ca = true ∧ CtWf lo hi wi st de ca := by
  obtain ⟨h1, h2, h3, h4, h5, h6, h7, h8, h9⟩ := h
  constructor
  · unfold okCt
    rw [tone_part (z := lo) (by omega), tone_part h2, tone_part h3]
    unfold ordB
    rw [le0_pos (x := lo) (y := hi) (by omega) (by omega) h1]
    unfold inI
    simp
    omega
  · refine ⟨low_wf (by omega), low_wf (by omega), low_wf (by omega), ?_, ?_, ?_⟩ <;> (simp [Lit.wf, IntKind.min, IntKind.max, IntKind.signed, IntKind.bits]; omega)

theorem sta_ok {ti wt sm : Int} (h : SaOk ti wt sm) : okSa ti wt sm = true ∧ SaWf ti wt sm := by
  obtain ⟨h1, h2, h3, h4, h5, h6⟩ := h
  constructor
  · unfold okSa inI
    simp
    omega
  · refine ⟨?_, ?_, ?_⟩ <;> (simp [Lit.wf, IntKind.min, IntKind.max, IntKind.signed, IntKind.bits]; omega)

theorem tik_ok {lg : Nat} {hg : Int} (h : lg ≤ 1065353216) (h0 : 1 ≤ hg) (h1 : hg ≤ 24) : okTk lg 0 hg = true ∧ TkWf lg 0 hg := by
  constructor
  · unfold okTk
    rw [tone_part h, tone_part (z := 0) (by decide)]
    unfold inI
    simp
    omega
  · refine ⟨low_wf (by omega), low_wf (by decide), ?_⟩
    simp [Lit.wf, IntKind.min, IntKind.max, IntKind.signed, IntKind.bits]; omega

theorem code_yes {lo hi wi : Nat} {st de ca n : Int} {wd gp : Nat} {t : Int} {sh : Nat} {ti wt sm : Int} {lg gu : Nat} {hg : Int} (h1 : okCt lo hi wi st de ca = true) (h2 : okBl n wd gp t sh = true) (h3 : okSa ti wt sm = true) (h4 : okTk lg gu hg = true) : codeO lo hi wi st de ca n wd gp t sh ti wt sm lg gu hg = 0 := by
  unfold codeO codeT
  rw [h1, h2, h3, List.all_cons, List.all_nil]
  have : okT (lg, gu, hg) = true := h4
  rw [this]
  rfl

set_option maxRecDepth 100000 in
theorem run_eql_plan (xs ys : List Int) (hx : xs.length = 24) (hy : ys.length = 24) (w : World) :
    (Op.equalIn 10000 52 (.agg (i16s xs)) (.agg (i16s ys))).run Tryz.prog w = .ok (xs == ys) w := by
  have hl := eq_loop 9998 xs ys w (List.range' 0 24) (fun i hi => by simp [List.mem_range'] at hi; omega)
  rw [all_eq xs ys 24 hx hy] at hl
  rw [Op.equalIn.eq_def]
  simp only [Sem.run_bind, run_underlying Tryz.underlying52, Result.andThen_ok, size_i16]
  rw [Std.Legacy.Range.forIn_eq_forIn_range']
  have e : (Std.Legacy.Range.mk 0 24 1 (by decide)).size = 24 := by decide
  simp only [e]
  erw [hl]
  cases xs == ys <;> rfl

end Go.Proofs.YtddnfbpgldchcaaGreatDoor

namespace Go.Proofs.YtddnfbpgldchcaaGreatDoor

open Go.ChangeShapes Go.WideShapes Go.ChangeAt Go.RowKit

set_option maxRecDepth 100000 in
theorem open_byteS {H : Type} {enc : TypeId × Value → H} {W : World} {b0 base : Nat} {spare : Nat → Bool} {held : Bool} {r : Reach} {v : Value} {d : DataW H} {p : List MemPlace}
    (hv : Value.okWide Tryz.prog W r b0 22 v) (h : DataW.Trod enc Tryz.prog W base spare held 22 v d p) : ∃ a n cap, v = .slice a n cap ∧ BytesAt W W.heap.size (.slice a n cap) n := by
  obtain ⟨a0, len0, cap0, rfl⟩ := okWide_slice Tryz.underlying22 hv
  obtain ⟨fuel, hf⟩ := h
  rcases open_ints Tryz.underlying22 Tryz.underlying5 (by kernel_rfl) hf with ⟨hcs, _⟩ | ⟨a, len, cap, zs, hcs, _, hl, hm, hz, _, hcell, hwz⟩
  · simp [Value.cells] at hcs
    obtain ⟨rfl, rfl, rfl⟩ := hcs
    exact ⟨none, 0, 0, rfl, none, 0, rfl, Nat.le_refl _, by unfold maxLen; omega, fun i hi => absurd hi (Nat.not_lt_zero i)⟩
  · simp [Value.cells] at hcs
    obtain ⟨rfl, rfl, rfl⟩ := hcs
    have hlz : len0 ≤ zs.length := by rw [hz]; split <;> omega
    refine ⟨some a, len0, cap0, rfl, some a, cap0, rfl, by omega, hm, fun i hi => ?_⟩
    have hc := hcell i (by omega)
    have hsp : a.spot = none := by
      have := World.cell?_spot (hcell 0 (by omega))
      simpa [Addr.add] using this
    obtain ⟨g, o, spot⟩ := a
    obtain rfl : spot = none := hsp
    rw [addr_add] at hc
    have hw : (Lit.int .u8 (zs.getD i 0)).wf = true := by
      have e : zs.getD i 0 = zs[i]'(by omega) := by simp [List.getD, List.getElem?_eq_getElem (show i < zs.length by omega)]
      rw [e]
      exact hwz _ (List.getElem_mem _)
    generalize zs.getD i 0 = q at hw hc
    have hb : 0 ≤ q ∧ q ≤ 255 := by
      simp [Lit.wf, IntKind.min, IntKind.max, IntKind.signed, IntKind.bits] at hw
      omega
    have hlt := World.block_lt_of_cell? _ _ hc
    exact ⟨g, o, q, rfl, hlt, hb.1, hb.2, hc⟩

end Go.Proofs.YtddnfbpgldchcaaGreatDoor
