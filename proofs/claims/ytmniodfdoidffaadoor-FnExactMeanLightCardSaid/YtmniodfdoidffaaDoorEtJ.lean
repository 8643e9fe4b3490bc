/-
  The law of MeanLight: the walk.
-/
import Derived.Test.YtmniodfdoidffaaDoorEtI
import Derived.Test.YtmniodfdoidffaaDoorEtG
import Derived.Test.YtmniodfdoidffaaDoorSameN
namespace Go.Proofs.YtmniodfdoidffaaDoor
open Go.ChangeShapes Go.WideShapes Go.ChangeAt Go.RowKit Go.Deep Go.Joins

attribute [local go_sem] run_store_floatE

set_option maxRecDepth 100000 in
set_option maxHeartbeats 8000000 in
theorem FnExactMeanLight_core (wd hg : Int) (sv : Value) (ws : List Wn) (v0 : Nat) (hf : fin32 v0 = true) (v1 : Int) (e0 e1 e2 e3 : Addr)
    (hS : ∀ (s : Value) (W : World), WinsAt W s ws → Calls Tryd.prog 31 #[.agg (roomC wd hg s)] W fun e w' => e = .returned (.tuple #[.float .f32 v0, .int .i64 v1]) ∧ Below W.heap.size W w')
    (hI : ∀ (s : Value) (W : World), WinsAt W s ws → ErrsAt W e0 e1 e2 e3 → Calls Tryd.prog 32 #[.agg (roomC wd hg s)] W fun e w' => e = .returned (.tuple #[.float .f32 v0, .int .i64 v1]) ∧ Below W.heap.size W w')
    (w : World) (hws : WinsAt w sv ws) (hE : ErrsAt w e0 e1 e2 e3) :
    Calls Tryd.prog 5 #[.agg (roomC wd hg sv)] w fun e w' => e = .returned (.bool true) ∧ Below w.heap.size w w' := by
  have HA := Lib.hid hws
  have HX := Lib.hid hE
  have HS := Lib.hid hS
  have HI := Lib.hid hI
  have hw0 := run_wide _ hf
  have Hf := Lib.hid hf
  have zc : (v1 != v1) = false := by simp
  have hsv := hws
  obtain ⟨a0, cap0, esv, hl1, hl2, _⟩ := hsv
  unfold maxLen at hl2
  have HZ := Lib.hid (fun w => szRoom_any wd hg a0 ws.length cap0 1048576 (by omega) (by decide) (by decide) w)
  rw [← esv] at HZ
  have hlr : (leftI ws.length 1048576 < 0 ∧ 1048576 < ws.length) ∨ (0 ≤ leftI ws.length 1048576 ∧ ws.length ≤ 1048576) := by unfold leftI; split <;> omega
  clear hws esv hl1 hl2 hE hS hI hf
  generalize leftI (ws.length : Int) 1048576 = lf at *
  go_enter Tryd.func5, Tryd.ntmps5
  go_upto_region 1 with (fail)
  refine abs_world (fun W => W.heap[w.heap.size]? = some (.cells (roomC wd hg sv) 36 (0, 0)) ∧ Below w.heap.size w W) ⟨heap_alloc_new _ _, (Below.refl _ _).alloc (Nat.le_refl _) _⟩ ?_
  rintro W ⟨h0, hb⟩
  have H0 := Lib.hid h0
  replace HA := Lib.hid (wins_below HA.out hb)
  replace HX := Lib.hid (errs_below HX.out hb)
  clear h0
  rcases hlr with ⟨hlf, _⟩ | ⟨hlf, hlen⟩
  · go_wp2_with (first | (refine wpList_load_part rfl 36 _ rfl w.heap.size 0 3 rfl 36 (roomC wd hg sv) (0, 0) _ H0.out Tryd.underlying36 rfl info_roomL (room_fits _ _ _) _ (room_all _ _ _) ?_) | (go_at_call 25; refine (HZ.out _).mono ?_; rintro e W1 ⟨rfl, hb1⟩; replace H0 := Lib.hid (below_row hb1 H0.out); replace HA := Lib.hid (wins_below HA.out hb1); replace HX := Lib.hid (errs_below HX.out hb1); replace hb := hb.trans (hb1.mono hb.size); clear hb1))
    go_ret
    exact ⟨rfl, hb⟩
  · go_upto_region 6 with (first | (refine wpList_load_part rfl 36 _ rfl w.heap.size 0 3 rfl 36 (roomC wd hg sv) (0, 0) _ H0.out Tryd.underlying36 rfl info_roomL (room_fits _ _ _) _ (room_all _ _ _) ?_) | (go_at_call 25; refine (HZ.out _).mono ?_; rintro e W1 ⟨rfl, hb1⟩; replace H0 := Lib.hid (below_row hb1 H0.out); replace HA := Lib.hid (wins_below HA.out hb1); replace HX := Lib.hid (errs_below HX.out hb1); replace hb := hb.trans (hb1.mono hb.size); clear hb1) | (go_at_call 27; refine (toRoom_any wd hg sv ws hlen _ HA.out).mono ?_; rintro e W2 ⟨⟨v3, rfl, hv⟩, hb1⟩; have HV1 := Lib.hid hv; clear hv; replace H0 := Lib.hid (below_row hb1 H0.out); replace HA := Lib.hid (wins_below HA.out hb1); replace HX := Lib.hid (errs_below HX.out hb1); replace hb := hb.trans (hb1.mono hb.size); clear hb1) | (go_at_call 31; refine (HS.out _ _ (ownW_at HV1.out)).mono ?_; rintro e W3 ⟨rfl, hb1⟩; replace H0 := Lib.hid (below_row hb1 H0.out); replace HA := Lib.hid (wins_below HA.out hb1); replace HX := Lib.hid (errs_below HX.out hb1); replace hb := hb.trans (hb1.mono hb.size); clear hb1))
    clear HV1
    go_upto_region 7 with (first | (refine wpList_load_part rfl 36 _ rfl w.heap.size 0 3 rfl 36 (roomC wd hg sv) (0, 0) _ H0.out Tryd.underlying36 rfl info_roomL (room_fits _ _ _) _ (room_all _ _ _) ?_) | (go_at_call 27; refine (toRoom_any wd hg sv ws hlen _ HA.out).mono ?_; rintro e W5 ⟨⟨v5, rfl, hv⟩, hb1⟩; have HV1 := Lib.hid hv; clear hv; replace H0 := Lib.hid (below_row hb1 H0.out); replace HA := Lib.hid (wins_below HA.out hb1); replace HX := Lib.hid (errs_below HX.out hb1); replace hb := hb.trans (hb1.mono hb.size); clear hb1) | (refine wpList_store_part rfl 44 _ _ rfl _ 0 (roomC wd hg v5) rfl rfl 44 _ (heap_alloc_new _ _) (by kernel_rfl) (Nat.le_refl _) (room_one wd hg HV1.out) ?_; rw [laid_allwE _ _ (by rfl)]))
    refine abs_world (fun X => X.heap[w.heap.size]? = some (.cells (roomC wd hg sv) 36 (0, 0)) ∧ X.heap[W5.heap.size]? = some (.cells (roomC wd hg v5) 44 (0, 0)) ∧ WinsAt X sv ws ∧ WinsAt X v5 ws ∧ ErrsAt X e0 e1 e2 e3 ∧ Below w.heap.size w X) ⟨below_row (zbelE _ _ _) H0.out, setRow_heap _ _ _ _ _ _ (heap_alloc_new _ _), wins_below HA.out (zbelE _ _ _), wins_below (ownW_at HV1.out) (zbelE _ _ _), errs_below HX.out (zbelE _ _ _), below_setRow (hb.alloc hb.size _) hb.size _⟩ ?_
    clear H0 HA HX hb HV1
    generalize W5.heap.size = rb at *
    rintro X ⟨h0, hr, ha, hw1, hx, hb⟩
    have H0 := Lib.hid h0
    have HR := Lib.hid hr
    have HA := Lib.hid ha
    have HW1 := Lib.hid hw1
    have HX := Lib.hid hx
    clear h0 hr ha hw1 hx
    go_upto_region 10 with (first | (refine wpList_load_part rfl 44 _ rfl rb 0 3 rfl 44 (roomC wd hg v5) (0, 0) _ HR.out Tryd.underlying44 rfl info_room (room_fits _ _ _) _ (room_all _ _ _) ?_) | (go_at_call 32; refine (HI.out _ _ HW1.out HX.out).mono ?_; rintro e W6 ⟨rfl, hb1⟩; replace H0 := Lib.hid (below_row hb1 H0.out); replace HA := Lib.hid (wins_below HA.out hb1); replace HX := Lib.hid (errs_below HX.out hb1); replace hb := hb.trans (hb1.mono hb.size); replace HR := Lib.hid (below_row hb1 HR.out); replace HW1 := Lib.hid (wins_below HW1.out hb1); clear hb1) | (go_at_call 33; refine (same_wide _ Hf.out _).mono ?_; rintro e w1 ⟨rfl, rfl⟩))
    refine wp_region_held_drew (S := (fun W => W.heap[rb]? = some (.cells (roomC wd hg v5) 44 (0, 0)) ∧ W.heap[w.heap.size]? = some (.cells (roomC wd hg sv) 36 (0, 0)) ∧ WinsAt W sv ws ∧ WinsAt W v5 ws ∧ Below w.heap.size w W)) (by kernel_rfl) ⟨HR.out, H0.out, HA.out, HW1.out, hb.drew⟩ (fun hHeld => ?_)
    refine take_op (i := 0) (d := 38) (v := .agg (roomC wd hg v5)) rfl rfl (by kernel_rfl) (by kernel_rfl) (by kernel_rfl) (fun _ _ _ h => h) (yields_row (by rfl) 44 (.tmp 6) (by rfl) rb 0 3 (by rfl) 44 (roomC wd hg v5) (0, 0) _ (fun _ h => h.1) Tryd.underlying44 rfl info_room (room_fits _ _ _) (roomC wd hg v5) (room_all _ _ _)) hHeld ?_
    simp only [List.setIfInBounds_toArray, List.set_cons_zero, List.set_cons_succ]
    refine take_op (i := 1) (d := 39) (v := .agg (roomC wd hg sv)) rfl rfl (by kernel_rfl) (by kernel_rfl) (by kernel_rfl) (fun _ _ _ h => h) (yields_row (by rfl) 36 (.tmp 1) (by rfl) w.heap.size 0 3 (by rfl) 36 (roomC wd hg sv) (0, 0) _ (fun _ h => h.2.1) Tryd.underlying36 rfl info_roomL (room_fits _ _ _) (roomC wd hg sv) (room_all _ _ _)) hHeld ?_
    simp only [List.setIfInBounds_toArray, List.set_cons_zero, List.set_cons_succ]
    refine wpAnyH_ready (rs := [2]) (by kernel_rfl) (by simp) ?_
    refine AllReadyH.cons rfl (fun K hK => ?_) AllReadyH.nil
    go_simp
    refine (toRoom_any wd hg sv ws hlen _ hHeld.2.2.1).mono ?_
    rintro e W1 ⟨⟨v9, rfl, hv9⟩, hb1⟩
    have HV9 := Lib.hid (ownW_at hv9)
    clear hv9
    refine hK.out _ _ (⟨below_row hb1 hHeld.1, below_row hb1 hHeld.2.1, wins_below hHeld.2.2.1 hb1, wins_below hHeld.2.2.2.1 hb1, hHeld.2.2.2.2.trans (hb1.mono hHeld.2.2.2.2.size)⟩) (fun hHeld2 => ?_)
    clear hK K
    replace hHeld := hHeld2
    clear hHeld2
    clear hb1
    refine wpAnyH_ready (rs := [3]) (by kernel_rfl) (by simp) ?_
    refine AllReadyH.cons rfl (fun K hK => ?_) AllReadyH.nil
    go_simp
    refine (eqRoom_any wd hg v5 v9 ws _ hHeld.2.2.2.1 HV9.out).mono ?_
    rintro e W2 ⟨rfl, hb1⟩
    refine hK.out _ _ (⟨below_row hb1 hHeld.1, below_row hb1 hHeld.2.1, wins_below hHeld.2.2.1 hb1, wins_below hHeld.2.2.2.1 hb1, hHeld.2.2.2.2.trans (hb1.mono hHeld.2.2.2.2.size)⟩) (fun hHeld2 => ?_)
    clear hK K
    replace hHeld := hHeld2
    clear hHeld2
    clear hb1
    refine take_op (i := 4) (d := 42) (v := ?_) rfl rfl (by kernel_rfl) (by kernel_rfl) (by kernel_rfl) (fun _ _ _ h => h) (Or.inl ⟨by rfl, ?hy4e28⟩) hHeld ?rest4e28
    case hy4e28 =>
      intro w' hS'
      go_simp
      try with_reducible rfl
    simp only [List.setIfInBounds_toArray, List.set_cons_zero, List.set_cons_succ]
    refine wpAnyH_done (by kernel_rfl) ?_ _
    have hbz := hHeld.2.2.2.2
    clear hHeld
    go_wp2
    go_ret
    exact ⟨rfl, hbz⟩

theorem lit_cap {wd hg : Int} {ws : List Wn} (ok : RmOk wd hg ws) (hwf : ∀ x ∈ ws, WnWf x) {a1 a2 : Int} (ha : inRoom wd hg (a1, a2)) : litW wd hg (a1, a2) (fun _ => true) ws ≤ floatOfInt .f32 (12 : Int) :=
  sumL_num (qsW_ok ok.w0 ok.w1 ok.h0 ok.h1 ha (fun y hy => fit_get (hwf y hy) (ok.all y hy))) (Nat.le_trans (qsW_len _ _ _ _ _) ok.len)

theorem FnExactMeanLight_walk (wd hg : Int) (sv : Value) (ws : List Wn) (rw0 : RmWf wd hg ws) (w : World) (hws : WinsAt w sv ws) {e0 e1 e2 e3 : Addr} (hE : ErrsAt w e0 e1 e2 e3) :
    Calls Tryd.prog 5 #[.agg (roomC wd hg sv)] w fun e w' => e = .returned (.bool true) ∧ Below w.heap.size w w' := by
  obtain ⟨iw, ih, hwf⟩ := rw0
  cases hv : okRm wd hg ws with
  | false => exact FnExactMeanLight_core wd hg sv ws 0 zero_fin 1 e0 e1 e2 e3 (fun s W h => sMean_n wd hg iw ih s ws hwf W h hv) (fun s W h k => iMean_n wd hg s ws e0 e1 e2 e3 W h k hv) w hws hE
  | true =>
    have ok := okRm_get hv
    obtain ⟨W, hW⟩ := Int.eq_ofNat_of_zero_le (by have := ok.w0; omega : 0 ≤ wd)
    obtain ⟨H, hH⟩ := Int.eq_ofNat_of_zero_le (by have := ok.h0; omega : 0 ≤ hg)
    subst hW hH
    have w0 : 0 < W := by have := ok.w0; omega
    have h0 : 0 < H := by have := ok.h0; omega
    have hW1 : W ≤ 10 := by have := ok.w1; omega
    have hH1 : H ≤ 10 := by have := ok.h1; omega
    have hn0 : 0 < W * H := Nat.mul_pos w0 h0
    have hn1 : W * H ≤ 100 := Nat.mul_le_mul hW1 hH1
    obtain ⟨g, hgd⟩ : ∃ g : Int × Int → Nat, g = fun t => litW (W : Int) (H : Int) t (fun _ => true) ws := ⟨_, rfl⟩
    obtain ⟨gk, hgk⟩ : ∃ gk : Nat → Nat, gk = fun k => g (tk W H w0 h0 k).1 := ⟨_, rfl⟩
    have hcap : ∀ x y : Nat, x < W → y < H → g ((x : Int), (y : Int)) ≤ floatOfInt .f32 (12 : Int) := by
      rw [hgd]
      exact fun x y hx hy => lit_cap ok hwf ⟨by show (0 : Int) ≤ (x : Int); omega, by show (x : Int) < (W : Int); omega, by show (0 : Int) ≤ (y : Int); omega, by show (y : Int) < (H : Int); omega⟩
    have hcg : ∀ j, j < W * H → gk j ≤ floatOfInt .f32 (12 : Int) := by
      intro j hj
      obtain ⟨x, y, hx, hy, -, e⟩ := tk_split W H w0 h0 hj
      rw [hgk]
      show g (tk W H w0 h0 j).1 ≤ _
      rw [e]
      exact hcap x y hx hy
    have hfin := (meanM_ok (sumM_cap gk (W * H) hn1 hcg) hn1 hn0 hn1).2
    exact FnExactMeanLight_core (W : Int) (H : Int) sv ws _ hfin 0 e0 e1 e2 e3 (fun s V h => sMean_y W H w0 h0 s ws hwf g hgd hcap gk hgk V h hv) (fun s V h k => iMean_y W H w0 h0 s ws hwf g hgd hcap gk hgk e0 e1 e2 e3 V h k hv) w hws hE

end Go.Proofs.YtmniodfdoidffaaDoor
