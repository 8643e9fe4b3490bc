/-
  LeastGlare of the model.
-/
import Derived.Test.YtdccmdcgbembpaaDoorLgrI
import Derived.Test.YtdccmdcgbembpaaDoorGlareS
import Derived.Test.YtdccmdcgbembpaaDoorRoomS
import Derived.Test.YtdccmdcgbembpaaDoorIsTile
namespace Go.Proofs.YtdccmdcgbembpaaDoor
open Go.RowKit

attribute [local go_sem] run_store_f

theorem desk_new0 (x y : Int) : Tryd.prog.built 107 [(0, .agg (tileC x y))] = some (deskC x y 0) := by kernel_rfl

set_option maxRecDepth 100000 in
set_option maxHeartbeats 4000000 in
theorem SLeastG_n1 (wd hg : Int) (sv : Value) (ws : List Wn) (iw : I8 wd) (ih : I8 hg) (hwf : ∀ x ∈ ws, WnWf x) (a1 a2 : Int) (ix : I8 a1) (iy : I8 a2) (r : Bool) (w : World) (hws : WinsAt w sv ws)
    (hr : isT wd hg a1 a2 = r) (hc : codeR (okRm wd hg ws) r = 1) :
    Calls Tryd.prog 21 #[.agg (roomC wd hg sv), .agg (tileC a1 a2)] w fun e w' => e = .returned (.tuple #[.int .i64 0, .float .f32 0, .int .i64 1]) ∧ Below w.heap.size w w' := by
  have HIs := Lib.hid (fun (W : World) (hW : W.heap[w.heap.size]? = some (.cells (roomC wd hg sv) 34 (0, 0))) => l03Is_any wd hg a1 a2 iw ih ix iy sv w.heap.size 34 (0, 0) W hW)
  have HAs := Lib.hid (fun (W : World) (hW : W.heap[w.heap.size]? = some (.cells (roomC wd hg sv) 34 (0, 0))) (hV : WinsAt W sv ws) => l03Asked_any wd hg iw ih sv ws hwf r w.heap.size 34 (0, 0) W hW hV)
  unfold Hid at HIs HAs
  rw [hr] at HIs
  rw [hc] at HAs
  replace HIs := Lib.hid HIs
  replace HAs := Lib.hid HAs
  have HW := Lib.hid hws
  clear hws hr hc hwf iw ih ix iy
  go_enter Tryd.func21, Tryd.ntmps21
  go_upto_region 1 with (fail)
  refine abs_world (fun W => W.heap[w.heap.size]? = some (.cells (roomC wd hg sv) 34 (0, 0)) ∧ W.heap[w.heap.size + 1]? = some (.cells (tileC a1 a2) 28 (0, 0)) ∧ Below w.heap.size w W) (two_at w (.cells (roomC wd hg sv) 34) (.cells (tileC a1 a2) 28)) ?_
  rintro W ⟨h0, h1, hb⟩
  have H0 := Lib.hid h0
  have H1 := Lib.hid h1
  have HV := Lib.hid (wins_below HW.out hb)
  clear h0 h1
  go_wp2_with (first | (refine wpList_load_part rfl 28 _ rfl (w.heap.size + 1) 0 2 rfl 28 (tileC a1 a2) (0, 0) _ H1.out Tryd.underlying28 rfl info_tile (tile_fits _ _) _ (tile_all _ _) ?_) | (go_at_call 59; refine (HIs.out _ H0.out).mono ?_; rintro e W1 ⟨rfl, hb1⟩; replace H0 := Lib.hid (below_row hb1 H0.out); replace H1 := Lib.hid (below_row hb1 H1.out); replace HV := Lib.hid (wins_below HV.out hb1); replace hb := hb.trans (hb1.mono hb.size); clear hb1) | (go_at_call 55; refine (HAs.out _ H0.out HV.out).mono ?_; rintro e W1 ⟨rfl, hb1⟩; replace H0 := Lib.hid (below_row hb1 H0.out); replace H1 := Lib.hid (below_row hb1 H1.out); replace HV := Lib.hid (wins_below HV.out hb1); replace hb := hb.trans (hb1.mono hb.size); clear hb1))
  go_ret3
  exact ⟨rfl, hb⟩

set_option maxRecDepth 100000 in
set_option maxHeartbeats 4000000 in
theorem SLeastG_n2 (wd hg : Int) (sv : Value) (ws : List Wn) (iw : I8 wd) (ih : I8 hg) (hwf : ∀ x ∈ ws, WnWf x) (a1 a2 : Int) (ix : I8 a1) (iy : I8 a2) (r : Bool) (w : World) (hws : WinsAt w sv ws)
    (hr : isT wd hg a1 a2 = r) (hc : codeR (okRm wd hg ws) r = 2) :
    Calls Tryd.prog 21 #[.agg (roomC wd hg sv), .agg (tileC a1 a2)] w fun e w' => e = .returned (.tuple #[.int .i64 0, .float .f32 0, .int .i64 2]) ∧ Below w.heap.size w w' := by
  have HIs := Lib.hid (fun (W : World) (hW : W.heap[w.heap.size]? = some (.cells (roomC wd hg sv) 34 (0, 0))) => l03Is_any wd hg a1 a2 iw ih ix iy sv w.heap.size 34 (0, 0) W hW)
  have HAs := Lib.hid (fun (W : World) (hW : W.heap[w.heap.size]? = some (.cells (roomC wd hg sv) 34 (0, 0))) (hV : WinsAt W sv ws) => l03Asked_any wd hg iw ih sv ws hwf r w.heap.size 34 (0, 0) W hW hV)
  unfold Hid at HIs HAs
  rw [hr] at HIs
  rw [hc] at HAs
  replace HIs := Lib.hid HIs
  replace HAs := Lib.hid HAs
  have HW := Lib.hid hws
  clear hws hr hc hwf iw ih ix iy
  go_enter Tryd.func21, Tryd.ntmps21
  go_upto_region 1 with (fail)
  refine abs_world (fun W => W.heap[w.heap.size]? = some (.cells (roomC wd hg sv) 34 (0, 0)) ∧ W.heap[w.heap.size + 1]? = some (.cells (tileC a1 a2) 28 (0, 0)) ∧ Below w.heap.size w W) (two_at w (.cells (roomC wd hg sv) 34) (.cells (tileC a1 a2) 28)) ?_
  rintro W ⟨h0, h1, hb⟩
  have H0 := Lib.hid h0
  have H1 := Lib.hid h1
  have HV := Lib.hid (wins_below HW.out hb)
  clear h0 h1
  go_wp2_with (first | (refine wpList_load_part rfl 28 _ rfl (w.heap.size + 1) 0 2 rfl 28 (tileC a1 a2) (0, 0) _ H1.out Tryd.underlying28 rfl info_tile (tile_fits _ _) _ (tile_all _ _) ?_) | (go_at_call 59; refine (HIs.out _ H0.out).mono ?_; rintro e W1 ⟨rfl, hb1⟩; replace H0 := Lib.hid (below_row hb1 H0.out); replace H1 := Lib.hid (below_row hb1 H1.out); replace HV := Lib.hid (wins_below HV.out hb1); replace hb := hb.trans (hb1.mono hb.size); clear hb1) | (go_at_call 55; refine (HAs.out _ H0.out HV.out).mono ?_; rintro e W1 ⟨rfl, hb1⟩; replace H0 := Lib.hid (below_row hb1 H0.out); replace H1 := Lib.hid (below_row hb1 H1.out); replace HV := Lib.hid (wins_below HV.out hb1); replace hb := hb.trans (hb1.mono hb.size); clear hb1))
  go_ret3
  exact ⟨rfl, hb⟩

set_option maxRecDepth 100000 in
set_option maxHeartbeats 4000000 in
theorem SLeastG_y (wd hg : Int) (sv : Value) (ws : List Wn) (ok : RmOk wd hg ws) (iw : I8 wd) (ih : I8 hg) (hwf : ∀ x ∈ ws, WnWf x) (a1 a2 : Int) (ix : I8 a1) (iy : I8 a2) (ha : inRoom wd hg (a1, a2)) (r : Bool) (w : World) (hws : WinsAt w sv ws)
    (hr : isT wd hg a1 a2 = r) (hc : codeR (okRm wd hg ws) r = 0) :
    Calls Tryd.prog 21 #[.agg (roomC wd hg sv), .agg (tileC a1 a2)] w fun e w' => e = .returned (.tuple #[.int .i64 (firstMin (lgD wd hg a1 a2 ws) 3 : Nat), .float .f32 (lgD wd hg a1 a2 ws (firstMin (lgD wd hg a1 a2 ws) 3)), .int .i64 0]) ∧ Below w.heap.size w w' := by
  have HIs := Lib.hid (fun (W : World) (hW : W.heap[w.heap.size]? = some (.cells (roomC wd hg sv) 34 (0, 0))) => l03Is_any wd hg a1 a2 iw ih ix iy sv w.heap.size 34 (0, 0) W hW)
  have HAs := Lib.hid (fun (W : World) (hW : W.heap[w.heap.size]? = some (.cells (roomC wd hg sv) 34 (0, 0))) (hV : WinsAt W sv ws) => l03Asked_any wd hg iw ih sv ws hwf r w.heap.size 34 (0, 0) W hW hV)
  have HLK : Hid (∀ (k : Nat) (l : Int), l = (k : Int) → k ≤ 3 → ∀ (W : World), W.heap[w.heap.size]? = some (.cells (roomC wd hg sv) 34 (0, 0)) → WinsAt W sv ws → Calls Tryd.prog 60 #[.pointer (some ⟨w.heap.size, 0, none⟩), .agg (deskC a1 a2 l)] W fun e w' => e = .returned (.float .f32 (lgD wd hg a1 a2 ws k)) ∧ Below W.heap.size W w') := Lib.hid (fun k l e hk W hq hW => by
    subst e
    exact l03Glare_any wd hg sv ws ok hwf a1 a2 (k : Int) ha w.heap.size 34 (0, 0) W hq hW)
  have HDN := Lib.hid (fun k => lgD_num ok hwf ha k)
  generalize lgD wd hg a1 a2 ws = d at *
  unfold Hid at HIs HAs
  rw [hr] at HIs
  rw [hc] at HAs
  replace HIs := Lib.hid HIs
  replace HAs := Lib.hid HAs
  have HW := Lib.hid hws
  clear hws hr hc hwf iw ih ix iy ok ha
  go_enter Tryd.func21, Tryd.ntmps21
  go_upto_region 1 with (fail)
  refine abs_world (fun W => W.heap[w.heap.size]? = some (.cells (roomC wd hg sv) 34 (0, 0)) ∧ W.heap[w.heap.size + 1]? = some (.cells (tileC a1 a2) 28 (0, 0)) ∧ Below w.heap.size w W) (two_at w (.cells (roomC wd hg sv) 34) (.cells (tileC a1 a2) 28)) ?_
  rintro W ⟨h0, h1, hb⟩
  have H0 := Lib.hid h0
  have H1 := Lib.hid h1
  have HV := Lib.hid (wins_below HW.out hb)
  clear h0 h1
  have HG0 := Lib.hid (HLK.out 0 0 rfl (by decide))
  go_upto_region 7 with (first | (refine wpList_load_part rfl 28 _ rfl (w.heap.size + 1) 0 2 rfl 28 (tileC a1 a2) (0, 0) _ H1.out Tryd.underlying28 rfl info_tile (tile_fits _ _) _ (tile_all _ _) ?_) | (go_at_call 59; refine (HIs.out _ H0.out).mono ?_; rintro e W1 ⟨rfl, hb1⟩; replace H0 := Lib.hid (below_row hb1 H0.out); replace H1 := Lib.hid (below_row hb1 H1.out); replace HV := Lib.hid (wins_below HV.out hb1); replace hb := hb.trans (hb1.mono hb.size); clear hb1) | (go_at_call 55; refine (HAs.out _ H0.out HV.out).mono ?_; rintro e W1 ⟨rfl, hb1⟩; replace H0 := Lib.hid (below_row hb1 H0.out); replace H1 := Lib.hid (below_row hb1 H1.out); replace HV := Lib.hid (wins_below HV.out hb1); replace hb := hb.trans (hb1.mono hb.size); clear hb1) | (refine wpList_buildG rfl 107 _ rfl _ rfl [(0, .agg (tileC a1 a2))] rfl (deskC a1 a2 0) (desk_new0 a1 a2) ?_) | (go_at_call 60; refine (HG0.out _ H0.out HV.out).mono ?_; rintro e W1 ⟨rfl, hb1⟩; replace H0 := Lib.hid (below_row hb1 H0.out); replace H1 := Lib.hid (below_row hb1 H1.out); replace HV := Lib.hid (wins_below HV.out hb1); replace hb := hb.trans (hb1.mono hb.size); clear hb1))
  clear HG0 HIs HAs
  go_loopw [8, 9, 10] (fun b g i wr => ∃ (k : Nat) (l m : Int), 1 ≤ k ∧ k ≤ 4 ∧ l = (k : Int) ∧ m = ((firstMin d (k - 1) : Nat) : Int) ∧ i = .int .i8 l ∧ b = .int .i8 m ∧ g = .float .f32 (d (firstMin d (k - 1))) ∧ wr.heap[w.heap.size]? = some (.cells (roomC wd hg sv) 34 (0, 0)) ∧ wr.heap[w.heap.size + 1]? = some (.cells (tileC a1 a2) 28 (0, 0)) ∧ WinsAt wr sv ws ∧ Below w.heap.size w wr) (fun _ _ i _ => (4 - intOf i).toNat)
  case atStart => exact ⟨1, 1, 0, by omega, by omega, rfl, rfl, rfl, rfl, rfl, H0.out, H1.out, HV.out, hb⟩
  case round =>
    clear H0 H1 HV hb
    obtain ⟨k, l, m, hk1, hk2, hl, hm0, rfl, rfl, rfl, h0, h1, hv1, hb⟩ := hrel
    have H0 := Lib.hid h0
    have H1 := Lib.hid h1
    have HV := Lib.hid hv1
    clear h0 h1 hv1
    obtain ⟨j, rfl⟩ : ∃ j, k = j + 1 := ⟨k - 1, by omega⟩
    rw [Nat.add_sub_cancel] at *
    by_cases hlt : j + 1 ≤ 3
    · have hord := order_cases (HDN.out (j + 1)) (HDN.out (firstMin d j))
      have HM : Hid (_ ∧ _) := Lib.hid (And.intro (@firstMin_hit d j) (@firstMin_miss d j))
      have HGK := Lib.hid (HLK.out (j + 1) l hl hlt)
      have hw1 : IntKind.i8.wrap (l + 1) = l + 1 := by rw [IntWalk.i8_in _ (by omega)]
      have z1 : l < 4 := by omega
      have z0 : 1 ≤ l := by omega
      have HL2 : Hid (l + 1 = ((j + 1 + 1 : Nat) : Int)) := Lib.hid (by omega)
      have HLL := Lib.hid hl
      have HMM := Lib.hid hm0
      clear HLK HDN hl hm0
      rcases hord with ⟨ho, hm⟩ | ⟨ho, hm⟩ | ⟨ho, hm⟩
      · have HF := Lib.hid (HM.out.1 hm)
        clear HM hm
        generalize firstMin d j = fm at *
        go_wp2_with (first | (refine wpList_load_part rfl 28 _ rfl (w.heap.size + 1) 0 2 rfl 28 (tileC a1 a2) (0, 0) _ H1.out Tryd.underlying28 rfl info_tile (tile_fits _ _) _ (tile_all _ _) ?_) | (refine wpList_buildG rfl 107 _ rfl _ rfl [(0, .agg (tileC a1 a2)), (1, .int .i8 l)] rfl (deskC a1 a2 l) (desk_new a1 a2 l) ?_) | (go_at_call 60; refine (HGK.out _ H0.out HV.out).mono ?_; rintro e W1 ⟨rfl, hb1⟩; replace H0 := Lib.hid (below_row hb1 H0.out); replace H1 := Lib.hid (below_row hb1 H1.out); replace HV := Lib.hid (wins_below HV.out hb1); replace hb := hb.trans (hb1.mono hb.size); clear hb1))
        go_roundw
        case rel => exact ⟨j + 1 + 1, l + 1, l, by omega, by omega, HL2.out, by rw [Nat.add_sub_cancel, HF.out, ← HLL.out], by trivial, by trivial, by rw [Nat.add_sub_cancel, HF.out], H0.out, H1.out, HV.out, hb⟩
        case measure => simp [intOf]; omega
      · have HF := Lib.hid (HM.out.2 hm)
        clear HM hm
        generalize firstMin d j = fm at *
        go_wp2_with (first | (refine wpList_load_part rfl 28 _ rfl (w.heap.size + 1) 0 2 rfl 28 (tileC a1 a2) (0, 0) _ H1.out Tryd.underlying28 rfl info_tile (tile_fits _ _) _ (tile_all _ _) ?_) | (refine wpList_buildG rfl 107 _ rfl _ rfl [(0, .agg (tileC a1 a2)), (1, .int .i8 l)] rfl (deskC a1 a2 l) (desk_new a1 a2 l) ?_) | (go_at_call 60; refine (HGK.out _ H0.out HV.out).mono ?_; rintro e W1 ⟨rfl, hb1⟩; replace H0 := Lib.hid (below_row hb1 H0.out); replace H1 := Lib.hid (below_row hb1 H1.out); replace HV := Lib.hid (wins_below HV.out hb1); replace hb := hb.trans (hb1.mono hb.size); clear hb1))
        go_roundw
        case rel => exact ⟨j + 1 + 1, l + 1, m, by omega, by omega, HL2.out, by rw [Nat.add_sub_cancel, HF.out]; exact HMM.out, by trivial, by trivial, by rw [Nat.add_sub_cancel, HF.out], H0.out, H1.out, HV.out, hb⟩
        case measure => simp [intOf]; omega
      · have HF := Lib.hid (HM.out.2 hm)
        clear HM hm
        generalize firstMin d j = fm at *
        go_wp2_with (first | (refine wpList_load_part rfl 28 _ rfl (w.heap.size + 1) 0 2 rfl 28 (tileC a1 a2) (0, 0) _ H1.out Tryd.underlying28 rfl info_tile (tile_fits _ _) _ (tile_all _ _) ?_) | (refine wpList_buildG rfl 107 _ rfl _ rfl [(0, .agg (tileC a1 a2)), (1, .int .i8 l)] rfl (deskC a1 a2 l) (desk_new a1 a2 l) ?_) | (go_at_call 60; refine (HGK.out _ H0.out HV.out).mono ?_; rintro e W1 ⟨rfl, hb1⟩; replace H0 := Lib.hid (below_row hb1 H0.out); replace H1 := Lib.hid (below_row hb1 H1.out); replace HV := Lib.hid (wins_below HV.out hb1); replace hb := hb.trans (hb1.mono hb.size); clear hb1))
        go_roundw
        case rel => exact ⟨j + 1 + 1, l + 1, m, by omega, by omega, HL2.out, by rw [Nat.add_sub_cancel, HF.out]; exact HMM.out, by trivial, by trivial, by rw [Nat.add_sub_cancel, HF.out], H0.out, H1.out, HV.out, hb⟩
        case measure => simp [intOf]; omega
    · obtain rfl : j = 3 := by omega
      have hfl := firstMin_le d 3
      have hw1 : IntKind.i64.wrap m = m := by rw [IntWalk.i64_in _ (by omega)]
      have hl4 : ¬ l < 4 := by omega
      have HMM := Lib.hid hm0
      clear hl hm0
      go_wp2
      go_ret3
      exact ⟨by rw [HMM.out]; rfl, hb⟩

end Go.Proofs.YtdccmdcgbembpaaDoor
