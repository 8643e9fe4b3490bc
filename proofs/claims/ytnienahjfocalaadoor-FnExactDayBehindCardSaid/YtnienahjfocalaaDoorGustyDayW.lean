/-
  GustyDay: the program, the model, the law's walk.
-/
import Derived.Test.YtnienahjfocalaaDoorGus
import Derived.Test.YtnienahjfocalaaDoorLawC
namespace Go.Proofs.YtnienahjfocalaaDoor
open Go.ChangeShapes Go.WideShapes Go.ChangeAt Go.RowKit Go.Deep Go.Joins

set_option maxRecDepth 100000 in
set_option maxHeartbeats 1000000 in
theorem gsd_no0 (o dr gp tl : Nat) (hs ts : List Int) (hh : hs.length = 24) (ht : ts.length = 24) (fc : Int) (out : Int) (z : Bool) (a0 : inF fc = z) (e0 e1 e2 e3 : Addr) (n : Nat) (hn : refN (okAw o dr gp tl && okB hs ts) z true = n) (hne : (codeE n != 0) = true) (w : World) (hE : ErrsAt w e0 e1 e2 e3) :
    Calls Tryd.prog 27 #[.agg (awC o dr gp tl), .agg (sunC hs ts), .int .i64 fc, .int .u32 out] w fun e w' => e = .returned (.tuple #[.float .f32 0, .int .i64 (codeE n)]) ∧ Below w.heap.size w w' := by
  have A0 := Lib.hid a0
  have HN := Lib.hid hn
  have Hh := Lib.hid hh
  have Ht := Lib.hid ht
  clear hh ht
  have HX := Lib.hid hE
  clear hE
  clear hn a0
  go_enter Tryd.func27, Tryd.ntmps27
  go_upto_region 1 with (fail)
  refine abs_world (fun W => W.heap[w.heap.size]? = some (.cells (awC o dr gp tl) 27 (0, 0)) ∧ W.heap[w.heap.size + 1]? = some (.cells (sunC hs ts) 37 (0, 0)) ∧ W.heap[w.heap.size + 1 + 1]? = some (.cells (#[.int .u32 out]) 42 (0, 0)) ∧ Below w.heap.size w W) (box3 w (.cells (awC o dr gp tl) 27) (.cells (sunC hs ts) 37) (.cells (#[.int .u32 out]) 42)) ?_
  rintro W ⟨h0, h1, h2, hb⟩
  generalize w.heap.size + 1 + 1 = b2 at *
  generalize w.heap.size + 1 = b1 at *
  have H0 := Lib.hid h0
  have H1 := Lib.hid h1
  have HB0 := Lib.hid h2
  clear h0 h1 h2
  replace HX := Lib.hid (errs_below HX.out hb)
  refine wp_region_held_drew (S := (fun V => Below W.heap.size W V)) (by kernel_rfl) ((Below.refl _ _).drew) (fun hHeld => ?_)
  refine take_op (i := 0) (d := 12) (v := .agg (awC o dr gp tl)) rfl rfl (by kernel_rfl) (by kernel_rfl) (by kernel_rfl) (fun _ _ _ h => h) (yields_row (by rfl) 27 (.tmp 4) (by rfl) w.heap.size 0 4 (by rfl) 27 (awC o dr gp tl) (0, 0) _ (fun _ h => below_row h H0.out) Tryd.underlying27 rfl info_aw (aw_fits _ _ _ _) (awC o dr gp tl) (aw_all _ _ _ _)) hHeld ?_
  simp only [List.setIfInBounds_toArray, List.set_cons_zero, List.set_cons_succ]
  refine take_op (i := 1) (d := 13) (v := .agg (sunC hs ts)) rfl rfl (by kernel_rfl) (by kernel_rfl) (by kernel_rfl) (fun _ _ _ h => h) (yields_row (by rfl) 37 (.tmp 5) (by rfl) b1 0 48 (by rfl) 37 (sunC hs ts) (0, 0) _ (fun _ h => below_row h H1.out) Tryd.underlying37 rfl info_sun (sun_fits _ _ Hh.out Ht.out) (sunC hs ts) (sun_all _ _ Hh.out Ht.out)) hHeld ?_
  simp only [List.setIfInBounds_toArray, List.set_cons_zero, List.set_cons_succ]
  refine take_op (i := 2) (d := 14) (v := ?_) rfl rfl (by kernel_rfl) (by kernel_rfl) (by kernel_rfl) (fun _ _ _ h => h) (Or.inl ⟨by rfl, ?hy2u17⟩) hHeld ?rest2u17
  case hy2u17 =>
    intro w' hS'
    go_simp
    try with_reducible rfl
  simp only [List.setIfInBounds_toArray, List.set_cons_zero, List.set_cons_succ]
  refine wpAnyH_ready (rs := [3]) (by kernel_rfl) (by simp) ?_
  refine AllReadyH.cons rfl (fun K hK => ?_) AllReadyH.nil
  go_simp
  refine (isFacing_is fc z A0.out _).mono ?_
  rintro e w1 ⟨rfl, rfl⟩
  refine hK.out _ _ (hHeld) (fun hHeld2 => ?_)
  clear hK K
  replace hHeld := hHeld2
  clear hHeld2
  refine wpAnyH_ready (rs := [4]) (by kernel_rfl) (by simp) ?_
  refine AllReadyH.cons rfl (fun K hK => ?_) AllReadyH.nil
  go_simp
  refine (checkAwning_is o dr gp tl hs ts Hh.out Ht.out z e0 e1 e2 e3 n HN.out _ (errs_below HX.out hHeld)).mono ?_
  rintro e W2 ⟨rfl, hb2⟩
  refine hK.out _ _ (hHeld.trans (hb2.mono hHeld.size)) (fun hHeld2 => ?_)
  clear hK K
  replace hHeld := hHeld2
  clear hHeld2
  clear hb2
  refine take_op (i := 5) (d := 10) (v := ?_) rfl rfl (by kernel_rfl) (by kernel_rfl) (by kernel_rfl) (fun _ _ _ h => h) (Or.inl ⟨by rfl, ?hy5u18⟩) hHeld ?rest5u18
  case hy5u18 =>
    intro w' hS'
    go_simp
    try with_reducible rfl
  simp only [List.setIfInBounds_toArray, List.set_cons_zero, List.set_cons_succ]
  refine wpAnyH_done (by kernel_rfl) ?_ _
  replace H0 := Lib.hid (below_row hHeld H0.out)
  replace H1 := Lib.hid (below_row hHeld H1.out)
  replace HB0 := Lib.hid (below_row hHeld HB0.out)
  replace HX := Lib.hid (errs_below HX.out hHeld)
  replace hb := hb.trans (hHeld.mono hb.size)
  clear hHeld
  go_wp2
  go_ret2
  exact ⟨rfl, hb⟩

set_option maxRecDepth 100000 in
set_option maxHeartbeats 1000000 in
theorem gsd_yes {o dr gp tl : Nat} (aw : AwOk o dr gp tl) (hs ts : List Int) (hh : hs.length = 24) (ht : ts.length = 24) (fc : Int) (out : Int) (u : 0 ≤ out ∧ out ≤ 4294967295) (q : ∀ k : Nat, k < 24 → HrOk hs ts (k : Int) fc) (h1 : okAw o dr gp tl = true) (h2 : okB hs ts = true) (a0 : inF fc = true) (e0 e1 e2 e3 : Addr) (w : World) (hE : ErrsAt w e0 e1 e2 e3) :
    Calls Tryd.prog 27 #[.agg (awC o dr gp tl), .agg (sunC hs ts), .int .i64 fc, .int .u32 out] w fun e w' => e = .returned (.tuple #[.float .f32 (sumTo (gusB o dr gp tl hs ts fc out) 24), .int .i64 0]) ∧ Below w.heap.size w w' := by
  have HP := Lib.hid (fun (b1 b2 : Nat) w1 (r1 : w1.heap[b1]? = some (.cells (shC hs ts fc o dr gp tl) 113 (0, 0))) (r2 : w1.heap[b2]? = some (.cells #[.int .u32 out] 42 (0, 0))) => sumGusty_any ⟨b1, 0, none⟩ ⟨b2, 0, none⟩ (gusB o dr gp tl hs ts fc out) w1 (fun k hk w2 hb => gusty1_any aw hs ts hh ht fc out u k hk (q k hk) b1 b2 w2 (below_row hb r1) (below_row hb r2)) (fun k hk => pos_le (gus_le aw out (q k hk))))
  have A0 := Lib.hid a0
  have HN : Hid (refN (okAw o dr gp tl && okB hs ts) true true = 0) := by rw [h1, h2]; rfl
  have Hh := Lib.hid hh
  have Ht := Lib.hid ht
  clear hh ht
  have HX := Lib.hid hE
  clear hE
  clear a0 h1 h2 q aw
  clear u
  generalize sumTo (gusB o dr gp tl hs ts fc out) 24 = res at *
  go_enter Tryd.func27, Tryd.ntmps27
  go_upto_region 1 with (fail)
  refine abs_world (fun W => W.heap[w.heap.size]? = some (.cells (awC o dr gp tl) 27 (0, 0)) ∧ W.heap[w.heap.size + 1]? = some (.cells (sunC hs ts) 37 (0, 0)) ∧ W.heap[w.heap.size + 1 + 1]? = some (.cells (#[.int .u32 out]) 42 (0, 0)) ∧ Below w.heap.size w W) (box3 w (.cells (awC o dr gp tl) 27) (.cells (sunC hs ts) 37) (.cells (#[.int .u32 out]) 42)) ?_
  rintro W ⟨h0, h1, h2, hb⟩
  generalize w.heap.size + 1 + 1 = b2 at *
  generalize w.heap.size + 1 = b1 at *
  have H0 := Lib.hid h0
  have H1 := Lib.hid h1
  have H2 := Lib.hid h2
  clear h0 h1 h2
  replace HX := Lib.hid (errs_below HX.out hb)
  refine wp_region_held_drew (S := (fun V => Below W.heap.size W V)) (by kernel_rfl) ((Below.refl _ _).drew) (fun hHeld => ?_)
  refine take_op (i := 0) (d := 12) (v := .agg (awC o dr gp tl)) rfl rfl (by kernel_rfl) (by kernel_rfl) (by kernel_rfl) (fun _ _ _ h => h) (yields_row (by rfl) 27 (.tmp 4) (by rfl) w.heap.size 0 4 (by rfl) 27 (awC o dr gp tl) (0, 0) _ (fun _ h => below_row h H0.out) Tryd.underlying27 rfl info_aw (aw_fits _ _ _ _) (awC o dr gp tl) (aw_all _ _ _ _)) hHeld ?_
  simp only [List.setIfInBounds_toArray, List.set_cons_zero, List.set_cons_succ]
  refine take_op (i := 1) (d := 13) (v := .agg (sunC hs ts)) rfl rfl (by kernel_rfl) (by kernel_rfl) (by kernel_rfl) (fun _ _ _ h => h) (yields_row (by rfl) 37 (.tmp 5) (by rfl) b1 0 48 (by rfl) 37 (sunC hs ts) (0, 0) _ (fun _ h => below_row h H1.out) Tryd.underlying37 rfl info_sun (sun_fits _ _ Hh.out Ht.out) (sunC hs ts) (sun_all _ _ Hh.out Ht.out)) hHeld ?_
  simp only [List.setIfInBounds_toArray, List.set_cons_zero, List.set_cons_succ]
  refine take_op (i := 2) (d := 14) (v := ?_) rfl rfl (by kernel_rfl) (by kernel_rfl) (by kernel_rfl) (fun _ _ _ h => h) (Or.inl ⟨by rfl, ?hy2u19⟩) hHeld ?rest2u19
  case hy2u19 =>
    intro w' hS'
    go_simp
    try with_reducible rfl
  simp only [List.setIfInBounds_toArray, List.set_cons_zero, List.set_cons_succ]
  refine wpAnyH_ready (rs := [3]) (by kernel_rfl) (by simp) ?_
  refine AllReadyH.cons rfl (fun K hK => ?_) AllReadyH.nil
  go_simp
  refine (isFacing_is fc true A0.out _).mono ?_
  rintro e w1 ⟨rfl, rfl⟩
  refine hK.out _ _ (hHeld) (fun hHeld2 => ?_)
  clear hK K
  replace hHeld := hHeld2
  clear hHeld2
  refine wpAnyH_ready (rs := [4]) (by kernel_rfl) (by simp) ?_
  refine AllReadyH.cons rfl (fun K hK => ?_) AllReadyH.nil
  go_simp
  refine (checkAwning_is o dr gp tl hs ts Hh.out Ht.out true e0 e1 e2 e3 0 HN.out _ (errs_below HX.out hHeld)).mono ?_
  rintro e W2 ⟨rfl, hb2⟩
  refine hK.out _ _ (hHeld.trans (hb2.mono hHeld.size)) (fun hHeld2 => ?_)
  clear hK K
  replace hHeld := hHeld2
  clear hHeld2
  clear hb2
  refine take_op (i := 5) (d := 10) (v := ?_) rfl rfl (by kernel_rfl) (by kernel_rfl) (by kernel_rfl) (fun _ _ _ h => h) (Or.inl ⟨by rfl, ?hy5u20⟩) hHeld ?rest5u20
  case hy5u20 =>
    intro w' hS'
    go_simp
    try with_reducible rfl
  simp only [List.setIfInBounds_toArray, List.set_cons_zero, List.set_cons_succ]
  refine wpAnyH_done (by kernel_rfl) ?_ _
  replace H0 := Lib.hid (below_row hHeld H0.out)
  replace H1 := Lib.hid (below_row hHeld H1.out)
  replace H2 := Lib.hid (below_row hHeld H2.out)
  replace HX := Lib.hid (errs_below HX.out hHeld)
  replace hb := hb.trans (hHeld.mono hb.size)
  clear hHeld
  clear HX
  have HS := Lib.hid (shC_size hs ts fc o dr gp tl Hh.out Ht.out)
  go_upto_region 5 with (first | (first | (refine wpList_load_partG 27 _ rfl w.heap.size 0 4 rfl rfl 27 (awC o dr gp tl) (0, 0) _ H0.out Tryd.underlying27 rfl info_aw (aw_fits _ _ _ _) _ (aw_all _ _ _ _) ?_) | (refine wpList_load_partG 37 _ rfl b1 0 48 rfl rfl 37 (sunC hs ts) (0, 0) _ H1.out Tryd.underlying37 rfl info_sun (sun_fits _ _ Hh.out Ht.out) _ (sun_all _ _ Hh.out Ht.out) ?_) | (go_at_call 69; refine (isFacing_is fc true A0.out _).mono ?_; rintro e w3 ⟨rfl, rfl⟩) | (go_at_call 67; refine (checkAwning_is o dr gp tl hs ts Hh.out Ht.out true e0 e1 e2 e3 0 HN.out _ {HX}).mono ?_; rintro e W4 ⟨rfl, hb4⟩; replace H0 := Lib.hid (below_row hb4 H0.out); replace H1 := Lib.hid (below_row hb4 H1.out); replace H2 := Lib.hid (below_row hb4 H2.out); replace hb := hb.trans (hb4.mono hb.size); clear hb4) | (go_at_call 70; refine (shadeOf_any o dr gp tl hs ts Hh.out Ht.out fc _).mono ?_; rintro e W5 ⟨rfl, hb5⟩; replace H0 := Lib.hid (below_row hb5 H0.out); replace H1 := Lib.hid (below_row hb5 H1.out); replace H2 := Lib.hid (below_row hb5 H2.out); replace hb := hb.trans (hb5.mono hb.size); clear hb5)) | (refine wpList_store_part rfl 113 _ _ rfl _ 0 (shC hs ts fc o dr gp tl) rfl rfl 113 _ (heap_alloc_new _ _) (by rw [HS.out]; exact info_sh) (by rw [HS.out]; decide) (sh_one _ _ _ _ _ _ _) ?_; rw [laid_all _ _ (by rw [HS.out]; rfl)]))
  refine abs_world (fun V => Below w.heap.size w V ∧ V.heap[W5.heap.size]? = some (.cells (shC hs ts fc o dr gp tl) 113 (0, 0)) ∧ V.heap[b2]? = some (.cells #[.int .u32 out] 42 (0, 0))) ⟨below_setRow (hb.alloc hb.size _) hb.size _, setRow_heap _ _ _ _ _ _ (heap_alloc_new _ _), (setRow_other _ _ _ _ (Nat.ne_of_lt (row_lt H2.out))).trans (below_row ((Below.refl _ _).alloc (Nat.le_refl _) _) H2.out)⟩ ?_
  clear H0 H1 H2 hb
  rintro V ⟨hb, h1, h2⟩
  have H1 := Lib.hid h1
  have H2 := Lib.hid h2
  clear h1 h2
  go_wp2_with (go_at_call 74; refine (HP.out _ _ _ H1.out H2.out).mono ?_; rintro e W9 ⟨rfl, hb1⟩; replace hb := hb.trans (hb1.mono hb.size); clear hb1)
  go_ret2
  exact ⟨rfl, hb⟩

set_option maxRecDepth 100000 in
set_option maxHeartbeats 1000000 in
theorem sgsd_no (o dr gp tl : Nat) (hs ts : List Int) (hh : hs.length = 24) (ht : ts.length = 24) (rb : ∀ x ∈ hs ++ ts, -32768 ≤ x ∧ x ≤ 32767) (fc : Int) (out : Int) (n : Nat) (hn : refN (okAw o dr gp tl && okB hs ts) (inH 0 && inF fc && true) true = n) (hne : (codeE n != 0) = true) (w : World) :
    Calls Tryd.prog 26 #[.agg (awC o dr gp tl), .agg (sunC hs ts), .int .i64 fc, .int .u32 out] w fun e w' => e = .returned (.tuple #[.float .f32 0, .int .i64 (codeE n)]) ∧ Below w.heap.size w w' := by
  have HL := Lib.hid (fun g1 g2 w q1 q2 => l04Asked_is o dr gp tl hs ts hh ht rb 0 fc true n hn g1 g2 27 37 (0, 0) (0, 0) w q1 q2)
  clear hn rb
  have Hh := Lib.hid hh
  have Ht := Lib.hid ht
  clear hh ht
  go_enter Tryd.func26, Tryd.ntmps26
  go_upto_region 1 with (fail)
  refine abs_world (fun W => W.heap[w.heap.size]? = some (.cells (awC o dr gp tl) 27 (0, 0)) ∧ W.heap[w.heap.size + 1]? = some (.cells (sunC hs ts) 37 (0, 0)) ∧ Below w.heap.size w W) (box2 w (.cells (awC o dr gp tl) 27) (.cells (sunC hs ts) 37)) ?_
  rintro W ⟨h0, h1, hb⟩
  generalize w.heap.size + 1 = b1 at *
  have H0 := Lib.hid h0
  have H1 := Lib.hid h1
  clear h0 h1
  go_wp2_with (first | (refine wpList_load_partG 27 _ rfl w.heap.size 0 4 rfl rfl 27 (awC o dr gp tl) (0, 0) _ H0.out Tryd.underlying27 rfl info_aw (aw_fits _ _ _ _) _ (aw_all _ _ _ _) ?_) | (refine wpList_load_partG 37 _ rfl b1 0 48 rfl rfl 37 (sunC hs ts) (0, 0) _ H1.out Tryd.underlying37 rfl info_sun (sun_fits _ _ Hh.out Ht.out) _ (sun_all _ _ Hh.out Ht.out) ?_) | (go_at_call 64; refine (HL.out _ _ _ H0.out H1.out).mono ?_; rintro e w1 ⟨rfl, rfl⟩))
  go_ret2
  exact ⟨rfl, hb⟩

set_option maxRecDepth 100000 in
set_option maxHeartbeats 1000000 in
theorem sgsd_yes {o dr gp tl : Nat} (aw : AwOk o dr gp tl) (hs ts : List Int) (hh : hs.length = 24) (ht : ts.length = 24) (rb : ∀ x ∈ hs ++ ts, -32768 ≤ x ∧ x ≤ 32767) (fc : Int) (out : Int) (u : 0 ≤ out ∧ out ≤ 4294967295) (q : ∀ k : Nat, k < 24 → HrOk hs ts (k : Int) fc) (hn : refN (okAw o dr gp tl && okB hs ts) (inH 0 && inF fc && true) true = 0) (w : World) :
    Calls Tryd.prog 26 #[.agg (awC o dr gp tl), .agg (sunC hs ts), .int .i64 fc, .int .u32 out] w fun e w' => e = .returned (.tuple #[.float .f32 (sumTo (gusB o dr gp tl hs ts fc out) 24), .int .i64 0]) ∧ Below w.heap.size w w' := by
  have HL := Lib.hid (fun g1 g2 w q1 q2 => l04Asked_is o dr gp tl hs ts hh ht rb 0 fc true 0 hn g1 g2 27 37 (0, 0) (0, 0) w q1 q2)
  have HP := Lib.hid (fun g1 g2 w q1 q2 => l04Gusty_any aw hs ts hh ht fc out u q g1 g2 27 37 (0, 0) (0, 0) w q1 q2)
  clear hn rb q aw u
  generalize sumTo (gusB o dr gp tl hs ts fc out) 24 = res at *
  have Hh := Lib.hid hh
  have Ht := Lib.hid ht
  clear hh ht
  go_enter Tryd.func26, Tryd.ntmps26
  go_upto_region 1 with (fail)
  refine abs_world (fun W => W.heap[w.heap.size]? = some (.cells (awC o dr gp tl) 27 (0, 0)) ∧ W.heap[w.heap.size + 1]? = some (.cells (sunC hs ts) 37 (0, 0)) ∧ Below w.heap.size w W) (box2 w (.cells (awC o dr gp tl) 27) (.cells (sunC hs ts) 37)) ?_
  rintro W ⟨h0, h1, hb⟩
  generalize w.heap.size + 1 = b1 at *
  have H0 := Lib.hid h0
  have H1 := Lib.hid h1
  clear h0 h1
  go_wp2_with (first | (refine wpList_load_partG 27 _ rfl w.heap.size 0 4 rfl rfl 27 (awC o dr gp tl) (0, 0) _ H0.out Tryd.underlying27 rfl info_aw (aw_fits _ _ _ _) _ (aw_all _ _ _ _) ?_) | (refine wpList_load_partG 37 _ rfl b1 0 48 rfl rfl 37 (sunC hs ts) (0, 0) _ H1.out Tryd.underlying37 rfl info_sun (sun_fits _ _ Hh.out Ht.out) _ (sun_all _ _ Hh.out Ht.out) ?_) | (go_at_call 64; refine (HL.out _ _ _ H0.out H1.out).mono ?_; rintro e w1 ⟨rfl, rfl⟩) | (go_at_call 75; refine (HP.out _ _ _ H0.out H1.out).mono ?_; rintro e W2 ⟨rfl, hb2⟩; replace H0 := Lib.hid (below_row hb2 H0.out); replace H1 := Lib.hid (below_row hb2 H1.out); replace hb := hb.trans (hb2.mono hb.size); clear hb2))
  go_ret2
  exact ⟨rfl, hb⟩

set_option maxRecDepth 100000 in
set_option maxHeartbeats 1000000 in
theorem FnExactGustyDay_core (o dr gp tl : Nat) (hs ts : List Int) (hh : hs.length = 24) (ht : ts.length = 24) (fc : Int) (out : Int) (v0 : Nat) (v1 : Int) (hv0 : fin32 v0 = true) (e0 e1 e2 e3 : Addr)
    (hspec : ∀ w, Calls Tryd.prog 26 #[.agg (awC o dr gp tl), .agg (sunC hs ts), .int .i64 fc, .int .u32 out] w fun e w' => e = .returned (.tuple #[.float .f32 v0, .int .i64 v1]) ∧ Below w.heap.size w w')
    (himpl : ∀ w, ErrsAt w e0 e1 e2 e3 → Calls Tryd.prog 27 #[.agg (awC o dr gp tl), .agg (sunC hs ts), .int .i64 fc, .int .u32 out] w fun e w' => e = .returned (.tuple #[.float .f32 v0, .int .i64 v1]) ∧ Below w.heap.size w w') (w : World) (hE : ErrsAt w e0 e1 e2 e3) :
    Calls Tryd.prog 7 #[.agg (awC o dr gp tl), .agg (sunC hs ts), .int .i64 fc, .int .u32 out] w fun e w' => e = .returned (.bool true) ∧ Below w.heap.size w w' := by
  have HS := Lib.hid hspec
  have HI := Lib.hid himpl
  clear hspec himpl
  have hw0 := run_wide _ hv0
  have Hv0 := Lib.hid hv0
  clear hv0
  have Hh := Lib.hid hh
  have Ht := Lib.hid ht
  clear hh ht
  have HX := Lib.hid hE
  clear hE
  go_enter Tryd.func7, Tryd.ntmps7
  go_upto_region 1 with (fail)
  refine abs_world (fun W => W.heap[w.heap.size]? = some (.cells (awC o dr gp tl) 24 (0, 0)) ∧ W.heap[w.heap.size + 1]? = some (.cells (sunC hs ts) 35 (0, 0)) ∧ Below w.heap.size w W) (box2 w (.cells (awC o dr gp tl) 24) (.cells (sunC hs ts) 35)) ?_
  rintro W ⟨h0, h1, hb⟩
  generalize w.heap.size + 1 = b1 at *
  have H0 := Lib.hid h0
  have H1 := Lib.hid h1
  clear h0 h1
  replace HX := Lib.hid (errs_below HX.out hb)
  refine wp_region_held_drew (S := (fun V => Below W.heap.size W V)) (by kernel_rfl) ((Below.refl _ _).drew) (fun hHeld => ?_)
  refine take_op (i := 0) (d := 14) (v := .agg (awC o dr gp tl)) rfl rfl (by kernel_rfl) (by kernel_rfl) (by kernel_rfl) (fun _ _ _ h => h) (yields_row (by rfl) 24 (.tmp 4) (by rfl) w.heap.size 0 4 (by rfl) 24 (awC o dr gp tl) (0, 0) _ (fun _ h => below_row h H0.out) Tryd.underlying24 rfl info_awL (aw_fits _ _ _ _) (awC o dr gp tl) (aw_all _ _ _ _)) hHeld ?_
  simp only [List.setIfInBounds_toArray, List.set_cons_zero, List.set_cons_succ]
  refine take_op (i := 2) (d := 16) (v := .agg (sunC hs ts)) rfl rfl (by kernel_rfl) (by kernel_rfl) (by kernel_rfl) (fun _ _ _ h => h) (yields_row (by rfl) 35 (.tmp 5) (by rfl) b1 0 48 (by rfl) 35 (sunC hs ts) (0, 0) _ (fun _ h => below_row h H1.out) Tryd.underlying35 rfl info_sunL (sun_fits _ _ Hh.out Ht.out) (sunC hs ts) (sun_all _ _ Hh.out Ht.out)) hHeld ?_
  simp only [List.setIfInBounds_toArray, List.set_cons_zero, List.set_cons_succ]
  refine take_op (i := 4) (d := 18) (v := ?_) rfl rfl (by kernel_rfl) (by kernel_rfl) (by kernel_rfl) (fun _ _ _ h => h) (Or.inl ⟨by rfl, ?hy4u21⟩) hHeld ?rest4u21
  case hy4u21 =>
    intro w' hS'
    go_simp
    try with_reducible rfl
  simp only [List.setIfInBounds_toArray, List.set_cons_zero, List.set_cons_succ]
  refine take_op (i := 5) (d := 19) (v := ?_) rfl rfl (by kernel_rfl) (by kernel_rfl) (by kernel_rfl) (fun _ _ _ h => h) (Or.inl ⟨by rfl, ?hy5u22⟩) hHeld ?rest5u22
  case hy5u22 =>
    intro w' hS'
    go_simp
    try with_reducible rfl
  simp only [List.setIfInBounds_toArray, List.set_cons_zero, List.set_cons_succ]
  refine wpAnyH_ready (rs := [1]) (by kernel_rfl) (by simp) ?_
  refine AllReadyH.cons rfl (fun K hK => ?_) AllReadyH.nil
  go_simp
  refine (toAwning_any _ _ _ _ _).mono ?_
  rintro e W1 ⟨rfl, hb1⟩
  refine hK.out _ _ (hHeld.trans (hb1.mono hHeld.size)) (fun hHeld2 => ?_)
  clear hK K
  replace hHeld := hHeld2
  clear hHeld2
  clear hb1
  refine wpAnyH_ready (rs := [3]) (by kernel_rfl) (by simp) ?_
  refine AllReadyH.cons rfl (fun K hK => ?_) AllReadyH.nil
  go_simp
  refine (toSun_any hs ts Hh.out Ht.out _).mono ?_
  rintro e W2 ⟨rfl, hb2⟩
  refine hK.out _ _ (hHeld.trans (hb2.mono hHeld.size)) (fun hHeld2 => ?_)
  clear hK K
  replace hHeld := hHeld2
  clear hHeld2
  clear hb2
  refine wpAnyH_ready (rs := [6]) (by kernel_rfl) (by simp) ?_
  refine AllReadyH.cons rfl (fun K hK => ?_) AllReadyH.nil
  go_simp
  refine (HS.out _).mono ?_
  rintro e W3 ⟨rfl, hb3⟩
  refine hK.out _ _ (hHeld.trans (hb3.mono hHeld.size)) (fun hHeld2 => ?_)
  clear hK K
  replace hHeld := hHeld2
  clear hHeld2
  clear hb3
  refine take_op (i := 7) (d := 13) (v := ?_) rfl rfl (by kernel_rfl) (by kernel_rfl) (by kernel_rfl) (fun _ _ _ h => h) (Or.inl ⟨by rfl, ?hy7u23⟩) hHeld ?rest7u23
  case hy7u23 =>
    intro w' hS'
    go_simp
    try with_reducible rfl
  simp only [List.setIfInBounds_toArray, List.set_cons_zero, List.set_cons_succ]
  refine take_op (i := 8) (d := 21) (v := ?_) rfl rfl (by kernel_rfl) (by kernel_rfl) (by kernel_rfl) (fun _ _ _ h => h) (Or.inl ⟨by rfl, ?hy8u24⟩) hHeld ?rest8u24
  case hy8u24 =>
    intro w' hS'
    go_simp
    try with_reducible rfl
  simp only [List.setIfInBounds_toArray, List.set_cons_zero, List.set_cons_succ]
  refine take_op (i := 9) (d := 22) (v := ?_) rfl rfl (by kernel_rfl) (by kernel_rfl) (by kernel_rfl) (fun _ _ _ h => h) (Or.inl ⟨by rfl, ?hy9u25⟩) hHeld ?rest9u25
  case hy9u25 =>
    intro w' hS'
    go_simp
    try with_reducible rfl
  simp only [List.setIfInBounds_toArray, List.set_cons_zero, List.set_cons_succ]
  refine take_op (i := 10) (d := 9) (v := ?_) rfl rfl (by kernel_rfl) (by kernel_rfl) (by kernel_rfl) (fun _ _ _ h => h) (Or.inl ⟨by rfl, ?hy10u26⟩) hHeld ?rest10u26
  case hy10u26 =>
    intro w' hS'
    go_simp
    try with_reducible rfl
  simp only [List.setIfInBounds_toArray, List.set_cons_zero, List.set_cons_succ]
  refine take_op (i := 11) (d := 10) (v := ?_) rfl rfl (by kernel_rfl) (by kernel_rfl) (by kernel_rfl) (fun _ _ _ h => h) (Or.inl ⟨by rfl, ?hy11u27⟩) hHeld ?rest11u27
  case hy11u27 =>
    intro w' hS'
    go_simp
    try with_reducible rfl
  simp only [List.setIfInBounds_toArray, List.set_cons_zero, List.set_cons_succ]
  refine wpAnyH_done (by kernel_rfl) ?_ _
  replace H0 := Lib.hid (below_row hHeld H0.out)
  replace H1 := Lib.hid (below_row hHeld H1.out)
  replace HX := Lib.hid (errs_below HX.out hHeld)
  replace hb := hb.trans (hHeld.mono hb.size)
  clear hHeld
  go_upto_region 2 with (fail)
  refine wp_region_held_drew (S := (fun V => Below W3.heap.size W3 V)) (by kernel_rfl) ((Below.refl _ _).drew) (fun hHeld => ?_)
  refine take_op (i := 0) (d := 24) (v := .agg (awC o dr gp tl)) rfl rfl (by kernel_rfl) (by kernel_rfl) (by kernel_rfl) (fun _ _ _ h => h) (yields_row (by rfl) 24 (.tmp 4) (by rfl) w.heap.size 0 4 (by rfl) 24 (awC o dr gp tl) (0, 0) _ (fun _ h => below_row h H0.out) Tryd.underlying24 rfl info_awL (aw_fits _ _ _ _) (awC o dr gp tl) (aw_all _ _ _ _)) hHeld ?_
  simp only [List.setIfInBounds_toArray, List.set_cons_zero, List.set_cons_succ]
  refine take_op (i := 2) (d := 26) (v := .agg (sunC hs ts)) rfl rfl (by kernel_rfl) (by kernel_rfl) (by kernel_rfl) (fun _ _ _ h => h) (yields_row (by rfl) 35 (.tmp 5) (by rfl) b1 0 48 (by rfl) 35 (sunC hs ts) (0, 0) _ (fun _ h => below_row h H1.out) Tryd.underlying35 rfl info_sunL (sun_fits _ _ Hh.out Ht.out) (sunC hs ts) (sun_all _ _ Hh.out Ht.out)) hHeld ?_
  simp only [List.setIfInBounds_toArray, List.set_cons_zero, List.set_cons_succ]
  refine take_op (i := 4) (d := 28) (v := ?_) rfl rfl (by kernel_rfl) (by kernel_rfl) (by kernel_rfl) (fun _ _ _ h => h) (Or.inl ⟨by rfl, ?hy4u28⟩) hHeld ?rest4u28
  case hy4u28 =>
    intro w' hS'
    go_simp
    try with_reducible rfl
  simp only [List.setIfInBounds_toArray, List.set_cons_zero, List.set_cons_succ]
  refine take_op (i := 5) (d := 29) (v := ?_) rfl rfl (by kernel_rfl) (by kernel_rfl) (by kernel_rfl) (fun _ _ _ h => h) (Or.inl ⟨by rfl, ?hy5u29⟩) hHeld ?rest5u29
  case hy5u29 =>
    intro w' hS'
    go_simp
    try with_reducible rfl
  simp only [List.setIfInBounds_toArray, List.set_cons_zero, List.set_cons_succ]
  refine wpAnyH_ready (rs := [1]) (by kernel_rfl) (by simp) ?_
  refine AllReadyH.cons rfl (fun K hK => ?_) AllReadyH.nil
  go_simp
  refine (toAwning_any _ _ _ _ _).mono ?_
  rintro e W4 ⟨rfl, hb4⟩
  refine hK.out _ _ (hHeld.trans (hb4.mono hHeld.size)) (fun hHeld2 => ?_)
  clear hK K
  replace hHeld := hHeld2
  clear hHeld2
  clear hb4
  refine wpAnyH_ready (rs := [3]) (by kernel_rfl) (by simp) ?_
  refine AllReadyH.cons rfl (fun K hK => ?_) AllReadyH.nil
  go_simp
  refine (toSun_any hs ts Hh.out Ht.out _).mono ?_
  rintro e W5 ⟨rfl, hb5⟩
  refine hK.out _ _ (hHeld.trans (hb5.mono hHeld.size)) (fun hHeld2 => ?_)
  clear hK K
  replace hHeld := hHeld2
  clear hHeld2
  clear hb5
  refine wpAnyH_ready (rs := [6]) (by kernel_rfl) (by simp) ?_
  refine AllReadyH.cons rfl (fun K hK => ?_) AllReadyH.nil
  go_simp
  refine (HI.out _ (errs_below HX.out hHeld)).mono ?_
  rintro e W6 ⟨rfl, hb6⟩
  refine hK.out _ _ (hHeld.trans (hb6.mono hHeld.size)) (fun hHeld2 => ?_)
  clear hK K
  replace hHeld := hHeld2
  clear hHeld2
  clear hb6
  refine take_op (i := 7) (d := 23) (v := ?_) rfl rfl (by kernel_rfl) (by kernel_rfl) (by kernel_rfl) (fun _ _ _ h => h) (Or.inl ⟨by rfl, ?hy7u30⟩) hHeld ?rest7u30
  case hy7u30 =>
    intro w' hS'
    go_simp
    try with_reducible rfl
  simp only [List.setIfInBounds_toArray, List.set_cons_zero, List.set_cons_succ]
  refine take_op (i := 8) (d := 31) (v := ?_) rfl rfl (by kernel_rfl) (by kernel_rfl) (by kernel_rfl) (fun _ _ _ h => h) (Or.inl ⟨by rfl, ?hy8u31⟩) hHeld ?rest8u31
  case hy8u31 =>
    intro w' hS'
    go_simp
    try with_reducible rfl
  simp only [List.setIfInBounds_toArray, List.set_cons_zero, List.set_cons_succ]
  refine take_op (i := 9) (d := 32) (v := ?_) rfl rfl (by kernel_rfl) (by kernel_rfl) (by kernel_rfl) (fun _ _ _ h => h) (Or.inl ⟨by rfl, ?hy9u32⟩) hHeld ?rest9u32
  case hy9u32 =>
    intro w' hS'
    go_simp
    try with_reducible rfl
  simp only [List.setIfInBounds_toArray, List.set_cons_zero, List.set_cons_succ]
  refine take_op (i := 10) (d := 11) (v := ?_) rfl rfl (by kernel_rfl) (by kernel_rfl) (by kernel_rfl) (fun _ _ _ h => h) (Or.inl ⟨by rfl, ?hy10u33⟩) hHeld ?rest10u33
  case hy10u33 =>
    intro w' hS'
    go_simp
    try with_reducible rfl
  simp only [List.setIfInBounds_toArray, List.set_cons_zero, List.set_cons_succ]
  refine take_op (i := 11) (d := 12) (v := ?_) rfl rfl (by kernel_rfl) (by kernel_rfl) (by kernel_rfl) (fun _ _ _ h => h) (Or.inl ⟨by rfl, ?hy11u34⟩) hHeld ?rest11u34
  case hy11u34 =>
    intro w' hS'
    go_simp
    try with_reducible rfl
  simp only [List.setIfInBounds_toArray, List.set_cons_zero, List.set_cons_succ]
  refine wpAnyH_done (by kernel_rfl) ?_ _
  replace H0 := Lib.hid (below_row hHeld H0.out)
  replace H1 := Lib.hid (below_row hHeld H1.out)
  replace HX := Lib.hid (errs_below HX.out hHeld)
  replace hb := hb.trans (hHeld.mono hb.size)
  clear hHeld
  clear H0 H1 HX HS HI
  go_wp2_with (go_at_call 18; refine (same_wide _ Hv0.out _).mono ?_; rintro e w7 ⟨rfl, rfl⟩)
  go_ret
  exact ⟨rfl, hb⟩

theorem u32_bd {n : Int} (h : (Lit.int .u32 n).wf = true) : 0 ≤ n ∧ n ≤ 4294967295 := by
  simp [Lit.wf, IntKind.min, IntKind.max, IntKind.bits, IntKind.signed] at h
  omega
theorem sum_fin {g : Nat → Nat} (h : ∀ k : Nat, k < 24 → g k ≤ 1065353216) : fin32 (sumTo g 24) = true := pos_fin (sumTo_pos g 24 (fun j hj => pos_le (h j hj)) 24 (Nat.le_refl _))

theorem lawGustyDay_walk (o dr gp tl : Nat) (ww : AwWf o dr gp tl) (hs ts : List Int) (hh : hs.length = 24) (ht : ts.length = 24) (rb : ∀ x ∈ hs ++ ts, -32768 ≤ x ∧ x ≤ 32767) (fc : Int) (out : Int) (hf : (Lit.int .u32 out).wf = true) (w : World) {e0 e1 e2 e3 : Addr} (hE : ErrsAt w e0 e1 e2 e3) :
    Calls Tryd.prog 7 #[.agg (awC o dr gp tl), .agg (sunC hs ts), .int .i64 fc, .int .u32 out] w fun e w' => e = .returned (.bool true) ∧ Below w.heap.size w w' := by
  by_cases hz : refN (okAw o dr gp tl && okB hs ts) (inF fc) true = 0
  · obtain ⟨hv, a1, _⟩ := refN_ok.1 hz
    rw [Bool.and_eq_true] at hv
    obtain ⟨h1, h2⟩ := hv
    have aw := awok_of ww h1
    have q : ∀ k : Nat, k < 24 → HrOk hs ts (k : Int) fc := fun k hk => hrok_of hh ht h2 (by omega) (by omega) a1
    have u : 0 ≤ out ∧ out ≤ 4294967295 := u32_bd hf
    exact FnExactGustyDay_core o dr gp tl hs ts hh ht fc out _ _ (sum_fin (fun k hk => gus_le aw out (q k hk))) e0 e1 e2 e3 (fun w => sgsd_yes aw hs ts hh ht rb fc out u q (by rw [show inH 0 = true from rfl, Bool.true_and, Bool.and_true]; exact hz) w) (fun w h => gsd_yes aw hs ts hh ht fc out u q h1 h2 a1 e0 e1 e2 e3 w h) w hE
  · exact FnExactGustyDay_core o dr gp tl hs ts hh ht fc out _ _ zero_fin e0 e1 e2 e3 (fun w => sgsd_no o dr gp tl hs ts hh ht rb fc out _ (by rw [show inH 0 = true from rfl, Bool.true_and, Bool.and_true]) (codeE_ne hz) w) (fun w h => gsd_no0 o dr gp tl hs ts hh ht fc out _ rfl e0 e1 e2 e3 _ rfl (codeE_ne hz) w h) w hE

end Go.Proofs.YtnienahjfocalaaDoor
