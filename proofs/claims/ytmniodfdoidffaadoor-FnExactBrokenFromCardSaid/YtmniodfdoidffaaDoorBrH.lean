/-
  BrokenFrom of the program and of the model.
-/
import Derived.Test.YtmniodfdoidffaaDoorBrG
namespace Go.Proofs.YtmniodfdoidffaaDoor
open Go.ChangeShapes Go.WideShapes Go.ChangeAt Go.RowKit Go.Deep Go.Joins

attribute [local go_sem] run_store_f

set_option maxRecDepth 100000 in
set_option maxHeartbeats 2000000 in
theorem iBroken_no (n : Int) (wd gp : Nat) (t : Int) (sh : Nat) (T0 : -32768 ≤ t) (T1 : t ≤ 32767) (h : Int) (up : Bool) (hi : inI 1 64 h = up) (xs : List Nat) (c : Int) (hc : codeC (okBl n wd gp t sh) up = c) (hne : c ≠ 0) (w : World) :
    Calls Tryd.prog 37 #[.agg (blindC n wd gp t sh), .int .i64 h, .agg (f32s xs)] w fun e w' => e = .returned (.tuple #[.int .u32 0, .int .i64 c]) ∧ Below w.heap.size w w' := by
  have Hc := Lib.hid hc
  have Hi := Lib.hid hi
  have hne' : (c != 0) = true := bne_iff_ne.2 hne
  clear hc hi hne
  go_enter Tryd.func37, Tryd.ntmps37
  go_upto_region 1 with (fail)
  refine abs_code (fun W => W.heap[w.heap.size]? = some (.cells (blindC n wd gp t sh) 59 (0, 0)) ∧ W.heap[w.heap.size + 1]? = some (.cells (f32s xs) 61 (0, 0)) ∧ Below w.heap.size w W) ⟨(two_newB _ _ _).1, (two_newB _ _ _).2.1, (two_newB _ _ _).2.2⟩ ?_
  rintro W ⟨h0, h1, hb⟩
  generalize w.heap.size + 1 = b1 at *
  have H0 := Lib.hid h0
  have H1 := Lib.hid h1
  clear h0 h1
  refine wp_region_held_drew (S := (fun V => Below W.heap.size W V)) (by kernel_rfl) (Below.refl _ _).drew (fun hHeld => ?_)
  refine take_op (i := 0) (d := 11) (v := .agg (blindC n wd gp t sh)) rfl rfl (by kernel_rfl) (by kernel_rfl) (by kernel_rfl) (fun _ _ _ h => h) (yields_row (by rfl) 59 (.tmp 3) (by rfl) w.heap.size 0 5 (by rfl) 59 (blindC n wd gp t sh) (0, 0) _ (fun _ h => below_row h H0.out) Tryd.underlying59 rfl info_blind (blind_fits _ _ _ _ _) (blindC n wd gp t sh) (blind_all _ _ _ _ _)) hHeld ?_
  simp only [List.setIfInBounds_toArray, List.set_cons_zero, List.set_cons_succ]
  refine take_op (i := 1) (d := 12) (v := ?_) rfl rfl (by kernel_rfl) (by kernel_rfl) (by kernel_rfl) (fun _ _ _ h => h) (Or.inl ⟨by rfl, ?hy1u69⟩) hHeld ?rest1u69
  case hy1u69 =>
    intro w' hS'
    go_simp
    try with_reducible rfl
  simp only [List.setIfInBounds_toArray, List.set_cons_zero, List.set_cons_succ]
  refine wpAnyH_ready (rs := [2]) (by kernel_rfl) (by simp) ?_
  refine AllReadyH.cons rfl (fun K hK => ?_) AllReadyH.nil
  go_simp
  refine (isHeight_is h up Hi.out _).mono ?_
  rintro e w' ⟨rfl, rfl⟩
  refine hK.out _ _ (hHeld) (fun hHeld2 => ?_)
  clear hK K
  replace hHeld := hHeld2
  clear hHeld2
  refine wpAnyH_ready (rs := [3]) (by kernel_rfl) (by simp) ?_
  refine AllReadyH.cons rfl (fun K hK => ?_) AllReadyH.nil
  go_simp
  refine (checkBlind_is n wd gp t sh T0 T1 up c Hc.out _).mono ?_
  rintro e W1 ⟨rfl, hb1⟩
  refine hK.out _ _ (hHeld.trans (hb1.mono hHeld.size)) (fun hHeld2 => ?_)
  clear hK K
  replace hHeld := hHeld2
  clear hHeld2
  clear hb1
  refine take_op (i := 4) (d := 8) (v := ?_) rfl rfl (by kernel_rfl) (by kernel_rfl) (by kernel_rfl) (fun _ _ _ h => h) (Or.inl ⟨by rfl, ?hy4u70⟩) hHeld ?rest4u70
  case hy4u70 =>
    intro w' hS'
    go_simp
    try with_reducible rfl
  simp only [List.setIfInBounds_toArray, List.set_cons_zero, List.set_cons_succ]
  refine wpAnyH_done (by kernel_rfl) ?_ _
  replace H0 := Lib.hid (below_row hHeld H0.out)
  replace H1 := Lib.hid (below_row hHeld H1.out)
  replace hb := hb.trans (hHeld.mono hb.size)
  clear hHeld
  go_wp2
  go_ret2
  exact ⟨rfl, hb⟩

set_option maxRecDepth 100000 in
set_option maxHeartbeats 4000000 in
theorem iBroken_yes (n : Int) (wd gp : Nat) (t : Int) (sh : Nat) (T0 : -32768 ≤ t) (T1 : t ≤ 32767) (ok : BlOk n wd gp t sh) (hk : okBl n wd gp t sh = true) (h : Int) (hi : inI 1 64 h = true) (xs : List Nat) (hx : xs.length = 24) (w : World) (hE : ErrT w) :
    Calls Tryd.prog 37 #[.agg (blindC n wd gp t sh), .int .i64 h, .agg (f32s xs)] w fun e w' => e = .returned (.tuple #[.int .u32 (gdR xs (opnB wd gp t h) (opnB wd gp (hgT t) h) (mB n).toNat), .int .i64 (gdC xs (opnB wd gp t h) (opnB wd gp (hgT t) h) (mB n).toNat)]) ∧ Below w.heap.size w w' := by
  have HB := Lib.hid (fun w => brokenFrom_any n wd gp t sh ok h (inI_get hi).1 (inI_get hi).2 xs hx w)
  have HC := Lib.hid (fun w hE => codeOfDay_any (brRf xs (opnB wd gp t h) (opnB wd gp (hgT t) h) (mB n).toNat) (brRf_ok xs hx _ _ _) w hE)
  rw [brRf_code] at HC
  have Hi := Lib.hid hi
  have Hx := Lib.hid hx
  have HE0 := Lib.hid hE
  obtain ⟨c, hc0⟩ : ∃ c : Int, c = 0 := ⟨0, rfl⟩
  have Hc : Hid (codeC (okBl n wd gp t sh) true = c) := by rw [hk, hc0]; rfl
  subst hc0
  generalize gdR xs (opnB wd gp t h) (opnB wd gp (hgT t) h) (mB n).toNat = rr at *
  generalize gdC xs (opnB wd gp t h) (opnB wd gp (hgT t) h) (mB n).toNat = rc at *
  generalize rfV (brRf xs (opnB wd gp t h) (opnB wd gp (hgT t) h) (mB n).toNat) = rv at *
  clear ok hk hi hx hE
  go_enter Tryd.func37, Tryd.ntmps37
  go_upto_region 1 with (fail)
  refine abs_code (fun W => W.heap[w.heap.size]? = some (.cells (blindC n wd gp t sh) 59 (0, 0)) ∧ W.heap[w.heap.size + 1]? = some (.cells (f32s xs) 61 (0, 0)) ∧ Below w.heap.size w W) ⟨(two_newB _ _ _).1, (two_newB _ _ _).2.1, (two_newB _ _ _).2.2⟩ ?_
  rintro W ⟨h0, h1, hb⟩
  generalize w.heap.size + 1 = b1 at *
  have H0 := Lib.hid h0
  have H1 := Lib.hid h1
  clear h0 h1
  refine wp_region_held_drew (S := (fun V => Below W.heap.size W V)) (by kernel_rfl) (Below.refl _ _).drew (fun hHeld => ?_)
  refine take_op (i := 0) (d := 11) (v := .agg (blindC n wd gp t sh)) rfl rfl (by kernel_rfl) (by kernel_rfl) (by kernel_rfl) (fun _ _ _ h => h) (yields_row (by rfl) 59 (.tmp 3) (by rfl) w.heap.size 0 5 (by rfl) 59 (blindC n wd gp t sh) (0, 0) _ (fun _ h => below_row h H0.out) Tryd.underlying59 rfl info_blind (blind_fits _ _ _ _ _) (blindC n wd gp t sh) (blind_all _ _ _ _ _)) hHeld ?_
  simp only [List.setIfInBounds_toArray, List.set_cons_zero, List.set_cons_succ]
  refine take_op (i := 1) (d := 12) (v := ?_) rfl rfl (by kernel_rfl) (by kernel_rfl) (by kernel_rfl) (fun _ _ _ h => h) (Or.inl ⟨by rfl, ?hy1u71⟩) hHeld ?rest1u71
  case hy1u71 =>
    intro w' hS'
    go_simp
    try with_reducible rfl
  simp only [List.setIfInBounds_toArray, List.set_cons_zero, List.set_cons_succ]
  refine wpAnyH_ready (rs := [2]) (by kernel_rfl) (by simp) ?_
  refine AllReadyH.cons rfl (fun K hK => ?_) AllReadyH.nil
  go_simp
  refine (isHeight_is h true Hi.out _).mono ?_
  rintro e w' ⟨rfl, rfl⟩
  refine hK.out _ _ (hHeld) (fun hHeld2 => ?_)
  clear hK K
  replace hHeld := hHeld2
  clear hHeld2
  refine wpAnyH_ready (rs := [3]) (by kernel_rfl) (by simp) ?_
  refine AllReadyH.cons rfl (fun K hK => ?_) AllReadyH.nil
  go_simp
  refine (checkBlind_is n wd gp t sh T0 T1 true 0 Hc.out _).mono ?_
  rintro e W1 ⟨rfl, hb1⟩
  refine hK.out _ _ (hHeld.trans (hb1.mono hHeld.size)) (fun hHeld2 => ?_)
  clear hK K
  replace hHeld := hHeld2
  clear hHeld2
  clear hb1
  refine take_op (i := 4) (d := 8) (v := ?_) rfl rfl (by kernel_rfl) (by kernel_rfl) (by kernel_rfl) (fun _ _ _ h => h) (Or.inl ⟨by rfl, ?hy4u72⟩) hHeld ?rest4u72
  case hy4u72 =>
    intro w' hS'
    go_simp
    try with_reducible rfl
  simp only [List.setIfInBounds_toArray, List.set_cons_zero, List.set_cons_succ]
  refine wpAnyH_done (by kernel_rfl) ?_ _
  replace H0 := Lib.hid (below_row hHeld H0.out)
  replace H1 := Lib.hid (below_row hHeld H1.out)
  replace hb := hb.trans (hHeld.mono hb.size)
  clear hHeld
  go_wp2_with (first | (refine wpList_load_part rfl 59 _ rfl w.heap.size 0 5 rfl 59 (blindC n wd gp t sh) (0, 0) _ H0.out Tryd.underlying59 rfl info_blind (blind_fits _ _ _ _ _) _ (blind_all _ _ _ _ _) ?_) | (refine wpList_load_part rfl 61 _ rfl b1 0 24 rfl 61 (f32s xs) (0, 0) _ H1.out Tryd.underlying61 rfl info_floor (by rw [f32s_size, Hx.out]; decide) (f32s xs) (f32s_all _ 24 Hx.out) ?_) | (go_at_call 85; refine (HB.out _).mono ?_; rintro e W5 ⟨rfl, hb1⟩; replace hb := hb.trans (hb1.mono hb.size); clear hb1) | (go_at_call 86; refine (HC.out _ (errT_below HE0.out hb)).mono ?_; rintro e W6 ⟨rfl, hb1⟩; replace hb := hb.trans (hb1.mono hb.size); clear hb1))
  go_ret2
  exact ⟨rfl, hb⟩

set_option maxRecDepth 100000 in
set_option maxHeartbeats 2000000 in
theorem sBroken_no (n : Int) (wd gp : Nat) (t : Int) (sh : Nat) (T0 : -32768 ≤ t) (T1 : t ≤ 32767) (N0 : -128 ≤ n) (N1 : n ≤ 127) (h : Int) (up : Bool) (hi : inI 1 64 h = up) (xs : List Nat) (c : Int) (hc : codeC (okBl n wd gp t sh) up = c) (hne : c ≠ 0) (w : World) :
    Calls Tryd.prog 34 #[.agg (blindC n wd gp t sh), .int .i64 h, .agg (f32s xs)] w fun e w' => e = .returned (.tuple #[.int .u32 0, .int .i64 c]) ∧ Below w.heap.size w w' := by
  have Hc := Lib.hid hc
  have Hi := Lib.hid hi
  have hne' : (c != 0) = true := bne_iff_ne.2 hne
  clear hc hi hne
  go_enter Tryd.func34, Tryd.ntmps34
  go_upto_region 1 with (fail)
  refine abs_code (fun W => W.heap[w.heap.size]? = some (.cells (blindC n wd gp t sh) 59 (0, 0)) ∧ W.heap[w.heap.size + 1]? = some (.cells (f32s xs) 61 (0, 0)) ∧ Below w.heap.size w W) ⟨(two_newB _ _ _).1, (two_newB _ _ _).2.1, (two_newB _ _ _).2.2⟩ ?_
  rintro W ⟨h0, h1, hb⟩
  generalize w.heap.size + 1 = b1 at *
  have H0 := Lib.hid h0
  have H1 := Lib.hid h1
  clear h0 h1
  go_wp2_with (first | (refine wpList_load_part rfl 59 _ rfl w.heap.size 0 5 rfl 59 (blindC n wd gp t sh) (0, 0) _ H0.out Tryd.underlying59 rfl info_blind (blind_fits _ _ _ _ _) _ (blind_all _ _ _ _ _) ?_) | (go_at_call 79; refine (l02Up_is h up Hi.out _).mono ?_; rintro e w' ⟨rfl, rfl⟩) | (go_at_call 78; refine (l02Asked_is n wd gp t sh T0 T1 N0 N1 w.heap.size _ _ up c Hc.out _ H0.out).mono ?_; rintro e w' ⟨rfl, rfl⟩))
  go_ret2
  exact ⟨rfl, hb⟩

end Go.Proofs.YtmniodfdoidffaaDoor
