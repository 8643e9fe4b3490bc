/-
  How far an awning has to reach out: the program.
-/
import Derived.Test.YthpimcfmgefkkaaDoorOfI
import Derived.Test.YthpimcfmgefkkaaDoorCode
import Derived.Test.YthpimcfmgefkkaaDoorErrs
namespace Go.Proofs.YthpimcfmgefkkaaDoor
open Go.ChangeShapes Go.WideShapes Go.ChangeAt Go.RowKit Go.Deep Go.Joins

attribute [local go_sem] run_store_f

theorem isPart_isO (x : Nat) (fine : Bool) (hx : partB x = fine) (w : World) : Calls Tryd.prog 15 #[.float .f32 x] w fun e w' => e = .returned (.bool fine) ∧ w = w' := by
  rw [← hx]; exact isPart_any x w

set_option maxRecDepth 100000 in
set_option maxHeartbeats 4000000 in
theorem ofr_no0 (o dr gp tl : Nat) (hs ts : List Int) (hh : hs.length = 24) (ht : ts.length = 24) (hour : Int) (fc : Int) (le : Nat) (a0 : inH hour = false) (e0 e1 e2 e3 : Addr) (n : Nat) (hn : refN (okAw o dr gp tl && okB hs ts) false true = n) (hne : (codeE n != 0) = true) (w : World) (hE : ErrsAt w e0 e1 e2 e3) :
    Calls Tryd.prog 7 #[.agg (awC o dr gp tl), .agg (sunC hs ts), .int .i64 hour, .int .i64 fc, .float .f32 le] w fun e w' => e = .returned (.tuple #[.float .f32 0, .int .i64 (codeE n)]) ∧ Below w.heap.size w w' := by
  have A0 := Lib.hid a0
  have HN := Lib.hid hn
  have Hh := Lib.hid hh
  have Ht := Lib.hid ht
  clear hh ht
  have HX := Lib.hid hE
  clear hE
  clear hn a0
  go_enter Tryd.func7, Tryd.ntmps7
  go_upto_region 1 with (fail)
  refine abs_world (fun W => W.heap[w.heap.size]? = some (.cells (awC o dr gp tl) 31 (0, 0)) ∧ W.heap[w.heap.size + 1]? = some (.cells (sunC hs ts) 33 (0, 0)) ∧ W.heap[w.heap.size + 1 + 1]? = some (.cells (#[.int .i64 hour]) 2 (0, 0)) ∧ W.heap[w.heap.size + 1 + 1 + 1]? = some (.cells (#[.float .f32 le]) 22 (0, 0)) ∧ Below w.heap.size w W) (box4 w (.cells (awC o dr gp tl) 31) (.cells (sunC hs ts) 33) (.cells (#[.int .i64 hour]) 2) (.cells (#[.float .f32 le]) 22)) ?_
  rintro W ⟨h0, h1, h2, h3, hb⟩
  generalize w.heap.size + 1 + 1 + 1 = b3 at *
  generalize w.heap.size + 1 + 1 = b2 at *
  generalize w.heap.size + 1 = b1 at *
  have H0 := Lib.hid h0
  have H1 := Lib.hid h1
  have H2 := Lib.hid h2
  have H3 := Lib.hid h3
  have c2 : W.cell? ⟨b2, 0, none⟩ = some (.int .i64 hour) := by rw [cell_of_row W _ _ _ _ _ h2]; rfl
  have c3 : W.cell? ⟨b3, 0, none⟩ = some (.float .f32 le) := by rw [cell_of_row W _ _ _ _ _ h3]; rfl
  clear h0 h1 h2 h3
  replace HX := Lib.hid (errs_below HX.out hb)
  clear H2 H3
  go_wp2_with (first | (refine wpList_load_partG 31 _ rfl w.heap.size 0 4 rfl rfl 31 (awC o dr gp tl) (0, 0) _ H0.out Tryd.underlying31 rfl info_aw (aw_fits _ _ _ _) _ (aw_all _ _ _ _) ?_) | (refine wpList_load_partG 33 _ rfl b1 0 48 rfl rfl 33 (sunC hs ts) (0, 0) _ H1.out Tryd.underlying33 rfl info_sun (sun_fits _ _ Hh.out Ht.out) _ (sun_all _ _ Hh.out Ht.out) ?_) | (go_at_call 13; refine (isHour_is hour false A0.out _).mono ?_; rintro e w1 ⟨rfl, rfl⟩) | (go_at_call 16; refine (checkAwning_is o dr gp tl hs ts Hh.out Ht.out false e0 e1 e2 e3 n HN.out _ HX.out).mono ?_; rintro e W2 ⟨rfl, hb2⟩; replace H0 := Lib.hid (below_row hb2 H0.out); replace H1 := Lib.hid (below_row hb2 H1.out); replace HX := Lib.hid (errs_below HX.out hb2); replace hb := hb.trans (hb2.mono hb.size); clear hb2))
  go_ret2
  exact ⟨rfl, hb⟩

set_option maxRecDepth 100000 in
set_option maxHeartbeats 4000000 in
theorem ofr_no1 (o dr gp tl : Nat) (hs ts : List Int) (hh : hs.length = 24) (ht : ts.length = 24) (hour : Int) (fc : Int) (le : Nat) (a0 : inH hour = true) (a1 : inF fc = false) (e0 e1 e2 e3 : Addr) (n : Nat) (hn : refN (okAw o dr gp tl && okB hs ts) false true = n) (hne : (codeE n != 0) = true) (w : World) (hE : ErrsAt w e0 e1 e2 e3) :
    Calls Tryd.prog 7 #[.agg (awC o dr gp tl), .agg (sunC hs ts), .int .i64 hour, .int .i64 fc, .float .f32 le] w fun e w' => e = .returned (.tuple #[.float .f32 0, .int .i64 (codeE n)]) ∧ Below w.heap.size w w' := by
  have A0 := Lib.hid a0
  have A1 := Lib.hid a1
  have HN := Lib.hid hn
  have Hh := Lib.hid hh
  have Ht := Lib.hid ht
  clear hh ht
  have HX := Lib.hid hE
  clear hE
  clear hn a0 a1
  go_enter Tryd.func7, Tryd.ntmps7
  go_upto_region 1 with (fail)
  refine abs_world (fun W => W.heap[w.heap.size]? = some (.cells (awC o dr gp tl) 31 (0, 0)) ∧ W.heap[w.heap.size + 1]? = some (.cells (sunC hs ts) 33 (0, 0)) ∧ W.heap[w.heap.size + 1 + 1]? = some (.cells (#[.int .i64 hour]) 2 (0, 0)) ∧ W.heap[w.heap.size + 1 + 1 + 1]? = some (.cells (#[.float .f32 le]) 22 (0, 0)) ∧ Below w.heap.size w W) (box4 w (.cells (awC o dr gp tl) 31) (.cells (sunC hs ts) 33) (.cells (#[.int .i64 hour]) 2) (.cells (#[.float .f32 le]) 22)) ?_
  rintro W ⟨h0, h1, h2, h3, hb⟩
  generalize w.heap.size + 1 + 1 + 1 = b3 at *
  generalize w.heap.size + 1 + 1 = b2 at *
  generalize w.heap.size + 1 = b1 at *
  have H0 := Lib.hid h0
  have H1 := Lib.hid h1
  have H2 := Lib.hid h2
  have H3 := Lib.hid h3
  have c2 : W.cell? ⟨b2, 0, none⟩ = some (.int .i64 hour) := by rw [cell_of_row W _ _ _ _ _ h2]; rfl
  have c3 : W.cell? ⟨b3, 0, none⟩ = some (.float .f32 le) := by rw [cell_of_row W _ _ _ _ _ h3]; rfl
  clear h0 h1 h2 h3
  replace HX := Lib.hid (errs_below HX.out hb)
  clear H2 H3
  go_wp2_with (first | (refine wpList_load_partG 31 _ rfl w.heap.size 0 4 rfl rfl 31 (awC o dr gp tl) (0, 0) _ H0.out Tryd.underlying31 rfl info_aw (aw_fits _ _ _ _) _ (aw_all _ _ _ _) ?_) | (refine wpList_load_partG 33 _ rfl b1 0 48 rfl rfl 33 (sunC hs ts) (0, 0) _ H1.out Tryd.underlying33 rfl info_sun (sun_fits _ _ Hh.out Ht.out) _ (sun_all _ _ Hh.out Ht.out) ?_) | (go_at_call 13; refine (isHour_is hour true A0.out _).mono ?_; rintro e w1 ⟨rfl, rfl⟩) | (go_at_call 14; refine (isFacing_is fc false A1.out _).mono ?_; rintro e w2 ⟨rfl, rfl⟩) | (go_at_call 16; refine (checkAwning_is o dr gp tl hs ts Hh.out Ht.out false e0 e1 e2 e3 n HN.out _ HX.out).mono ?_; rintro e W3 ⟨rfl, hb3⟩; replace H0 := Lib.hid (below_row hb3 H0.out); replace H1 := Lib.hid (below_row hb3 H1.out); replace HX := Lib.hid (errs_below HX.out hb3); replace hb := hb.trans (hb3.mono hb.size); clear hb3))
  go_ret2
  exact ⟨rfl, hb⟩

set_option maxRecDepth 100000 in
set_option maxHeartbeats 4000000 in
theorem ofr_no2 (o dr gp tl : Nat) (hs ts : List Int) (hh : hs.length = 24) (ht : ts.length = 24) (hour : Int) (fc : Int) (le : Nat) (z : Bool) (a0 : inH hour = true) (a1 : inF fc = true) (a2 : partB le = z) (e0 e1 e2 e3 : Addr) (n : Nat) (hn : refN (okAw o dr gp tl && okB hs ts) z true = n) (hne : (codeE n != 0) = true) (w : World) (hE : ErrsAt w e0 e1 e2 e3) :
    Calls Tryd.prog 7 #[.agg (awC o dr gp tl), .agg (sunC hs ts), .int .i64 hour, .int .i64 fc, .float .f32 le] w fun e w' => e = .returned (.tuple #[.float .f32 0, .int .i64 (codeE n)]) ∧ Below w.heap.size w w' := by
  have A0 := Lib.hid a0
  have A1 := Lib.hid a1
  have A2 := Lib.hid a2
  have HN := Lib.hid hn
  have Hh := Lib.hid hh
  have Ht := Lib.hid ht
  clear hh ht
  have HX := Lib.hid hE
  clear hE
  clear hn a0 a1 a2
  go_enter Tryd.func7, Tryd.ntmps7
  go_upto_region 1 with (fail)
  refine abs_world (fun W => W.heap[w.heap.size]? = some (.cells (awC o dr gp tl) 31 (0, 0)) ∧ W.heap[w.heap.size + 1]? = some (.cells (sunC hs ts) 33 (0, 0)) ∧ W.heap[w.heap.size + 1 + 1]? = some (.cells (#[.int .i64 hour]) 2 (0, 0)) ∧ W.heap[w.heap.size + 1 + 1 + 1]? = some (.cells (#[.float .f32 le]) 22 (0, 0)) ∧ Below w.heap.size w W) (box4 w (.cells (awC o dr gp tl) 31) (.cells (sunC hs ts) 33) (.cells (#[.int .i64 hour]) 2) (.cells (#[.float .f32 le]) 22)) ?_
  rintro W ⟨h0, h1, h2, h3, hb⟩
  generalize w.heap.size + 1 + 1 + 1 = b3 at *
  generalize w.heap.size + 1 + 1 = b2 at *
  generalize w.heap.size + 1 = b1 at *
  have H0 := Lib.hid h0
  have H1 := Lib.hid h1
  have H2 := Lib.hid h2
  have H3 := Lib.hid h3
  have c2 : W.cell? ⟨b2, 0, none⟩ = some (.int .i64 hour) := by rw [cell_of_row W _ _ _ _ _ h2]; rfl
  have c3 : W.cell? ⟨b3, 0, none⟩ = some (.float .f32 le) := by rw [cell_of_row W _ _ _ _ _ h3]; rfl
  clear h0 h1 h2 h3
  replace HX := Lib.hid (errs_below HX.out hb)
  clear H2 H3
  go_wp2_with (first | (refine wpList_load_partG 31 _ rfl w.heap.size 0 4 rfl rfl 31 (awC o dr gp tl) (0, 0) _ H0.out Tryd.underlying31 rfl info_aw (aw_fits _ _ _ _) _ (aw_all _ _ _ _) ?_) | (refine wpList_load_partG 33 _ rfl b1 0 48 rfl rfl 33 (sunC hs ts) (0, 0) _ H1.out Tryd.underlying33 rfl info_sun (sun_fits _ _ Hh.out Ht.out) _ (sun_all _ _ Hh.out Ht.out) ?_) | (go_at_call 13; refine (isHour_is hour true A0.out _).mono ?_; rintro e w1 ⟨rfl, rfl⟩) | (go_at_call 14; refine (isFacing_is fc true A1.out _).mono ?_; rintro e w2 ⟨rfl, rfl⟩) | (go_at_call 15; refine (isPart_isO le z A2.out _).mono ?_; rintro e w3 ⟨rfl, rfl⟩) | (go_at_call 16; refine (checkAwning_is o dr gp tl hs ts Hh.out Ht.out z e0 e1 e2 e3 n HN.out _ HX.out).mono ?_; rintro e W4 ⟨rfl, hb4⟩; replace H0 := Lib.hid (below_row hb4 H0.out); replace H1 := Lib.hid (below_row hb4 H1.out); replace HX := Lib.hid (errs_below HX.out hb4); replace hb := hb.trans (hb4.mono hb.size); clear hb4))
  go_ret2
  exact ⟨rfl, hb⟩

set_option maxRecDepth 100000 in
set_option maxHeartbeats 4000000 in
theorem ofr_yes {o dr gp tl : Nat} (aw : ∀ o, o ≤ 1090519040 → AwOk o dr gp tl) (hs ts : List Int) (hh : hs.length = 24) (ht : ts.length = 24) (hour : Int) (fc : Int) (le : Nat) (k : HrOk hs ts hour fc) (hm : (enoB dr gp tl (atH hs hour) (fallOf hs ts hour fc) le) 0 = true → (enoB dr gp tl (atH hs hour) (fallOf hs ts hour fc) le) 1090519040 = true) (h1 : okAw o dr gp tl = true) (h2 : okB hs ts = true) (a0 : inH hour = true) (a1 : inF fc = true) (a2 : partB le = true) (e0 e1 e2 e3 : Addr) (w : World) (hE : ErrsAt w e0 e1 e2 e3) :
    Calls Tryd.prog 7 #[.agg (awC o dr gp tl), .agg (sunC hs ts), .int .i64 hour, .int .i64 fc, .float .f32 le] w fun e w' => e = .returned (.tuple #[.float .f32 (outB (enoB dr gp tl (atH hs hour) (fallOf hs ts hour fc) le)), .int .i64 (outC (enoB dr gp tl (atH hs hour) (fallOf hs ts hour fc) le))]) ∧ Below w.heap.size w w' := by
  have HEN := Lib.hid (fun b b2 b3 w0 hb0 n1 n2 o ho w hV => eno_any aw hs ts hh ht hour fc le k b b2 b3 w0 hb0 n1 n2 o ho w hV)
  generalize (enoB dr gp tl (atH hs hour) (fallOf hs ts hour fc) le) = E at *
  have A0 := Lib.hid a0
  have A1 := Lib.hid a1
  have A2 := Lib.hid a2
  have HM := Lib.hid hm
  have HN : Hid (refN (okAw o dr gp tl && okB hs ts) true true = 0) := by rw [h1, h2]; rfl
  have Hh := Lib.hid hh
  have Ht := Lib.hid ht
  clear hh ht
  have HX := Lib.hid hE
  clear hE
  clear a0 a1 a2 h1 h2 k aw hm
  go_enter Tryd.func7, Tryd.ntmps7
  go_upto_region 1 with (fail)
  refine abs_world (fun W => W.heap[w.heap.size]? = some (.cells (awC o dr gp tl) 31 (0, 0)) ∧ W.heap[w.heap.size + 1]? = some (.cells (sunC hs ts) 33 (0, 0)) ∧ W.heap[w.heap.size + 1 + 1]? = some (.cells (#[.int .i64 hour]) 2 (0, 0)) ∧ W.heap[w.heap.size + 1 + 1 + 1]? = some (.cells (#[.float .f32 le]) 22 (0, 0)) ∧ Below w.heap.size w W) (box4 w (.cells (awC o dr gp tl) 31) (.cells (sunC hs ts) 33) (.cells (#[.int .i64 hour]) 2) (.cells (#[.float .f32 le]) 22)) ?_
  rintro W ⟨h0, h1, h2, h3, hb⟩
  generalize w.heap.size + 1 + 1 + 1 = b3 at *
  generalize w.heap.size + 1 + 1 = b2 at *
  generalize w.heap.size + 1 = b1 at *
  have H0 := Lib.hid h0
  have H1 := Lib.hid h1
  have H2 := Lib.hid h2
  have H3 := Lib.hid h3
  have c2 : W.cell? ⟨b2, 0, none⟩ = some (.int .i64 hour) := by rw [cell_of_row W _ _ _ _ _ h2]; rfl
  have c3 : W.cell? ⟨b3, 0, none⟩ = some (.float .f32 le) := by rw [cell_of_row W _ _ _ _ _ h3]; rfl
  clear h0 h1 h2 h3
  replace HX := Lib.hid (errs_below HX.out hb)
  go_upto_region 5 with (first | (refine wpList_load_partG 31 _ rfl w.heap.size 0 4 rfl rfl 31 (awC o dr gp tl) (0, 0) _ H0.out Tryd.underlying31 rfl info_aw (aw_fits _ _ _ _) _ (aw_all _ _ _ _) ?_) | (refine wpList_load_partG 33 _ rfl b1 0 48 rfl rfl 33 (sunC hs ts) (0, 0) _ H1.out Tryd.underlying33 rfl info_sun (sun_fits _ _ Hh.out Ht.out) _ (sun_all _ _ Hh.out Ht.out) ?_) | (go_at_call 13; refine (isHour_is hour true A0.out _).mono ?_; rintro e w1 ⟨rfl, rfl⟩) | (go_at_call 14; refine (isFacing_is fc true A1.out _).mono ?_; rintro e w2 ⟨rfl, rfl⟩) | (go_at_call 15; refine (isPart_isO le true A2.out _).mono ?_; rintro e w3 ⟨rfl, rfl⟩) | (go_at_call 16; refine (checkAwning_is o dr gp tl hs ts Hh.out Ht.out true e0 e1 e2 e3 0 HN.out _ HX.out).mono ?_; rintro e W4 ⟨rfl, hb4⟩; replace H0 := Lib.hid (below_row hb4 H0.out); replace H1 := Lib.hid (below_row hb4 H1.out); replace H2 := Lib.hid (below_row hb4 H2.out); replace H3 := Lib.hid (below_row hb4 H3.out); replace HX := Lib.hid (errs_below HX.out hb4); replace hb := hb.trans (hb4.mono hb.size); clear hb4))
  clear c2 c3 HX
  have HS := Lib.hid (shC_size hs ts fc o dr gp tl Hh.out Ht.out)
  go_upto_region 6 with (first | (first | (refine wpList_load_partG 31 _ rfl w.heap.size 0 4 rfl rfl 31 (awC o dr gp tl) (0, 0) _ H0.out Tryd.underlying31 rfl info_aw (aw_fits _ _ _ _) _ (aw_all _ _ _ _) ?_) | (refine wpList_load_partG 33 _ rfl b1 0 48 rfl rfl 33 (sunC hs ts) (0, 0) _ H1.out Tryd.underlying33 rfl info_sun (sun_fits _ _ Hh.out Ht.out) _ (sun_all _ _ Hh.out Ht.out) ?_) | (go_at_call 17; refine (shadeOf_any o dr gp tl hs ts Hh.out Ht.out fc _).mono ?_; rintro e W1 ⟨rfl, hb1⟩; replace H0 := Lib.hid (below_row hb1 H0.out); replace H1 := Lib.hid (below_row hb1 H1.out); replace H2 := Lib.hid (below_row hb1 H2.out); replace H3 := Lib.hid (below_row hb1 H3.out); replace hb := hb.trans (hb1.mono hb.size); clear hb1)) | (refine wpList_store_part rfl 49 _ _ rfl _ 0 (shC hs ts fc o dr gp tl) rfl rfl 49 _ (heap_alloc_new _ _) (by rw [HS.out]; exact info_sh) (by rw [HS.out]; decide) (sh_one _ _ _ _ _ _ _) ?_; rw [laid_all _ _ (by rw [HS.out]; rfl)]))
  refine abs_world (fun V => Below w.heap.size w V ∧ V.heap[W1.heap.size]? = some (.cells (shC hs ts fc o dr gp tl) 49 (0, 0)) ∧ V.heap[b2]? = some (.cells #[.int .i64 hour] 2 (0, 0)) ∧ V.heap[b3]? = some (.cells #[.float .f32 le] 22 (0, 0))) ⟨below_setRow (hb.alloc hb.size _) hb.size _, setRow_heap _ _ _ _ _ _ (heap_alloc_new _ _), (setRow_other _ _ _ _ (Nat.ne_of_lt (row_lt H2.out))).trans (below_row ((Below.refl _ _).alloc (Nat.le_refl _) _) H2.out), (setRow_other _ _ _ _ (Nat.ne_of_lt (row_lt H3.out))).trans (below_row ((Below.refl _ _).alloc (Nat.le_refl _) _) H3.out)⟩ ?_
  have hg := hb.size
  have n2 := Nat.ne_of_lt (row_lt H2.out)
  have n3 := Nat.ne_of_lt (row_lt H3.out)
  generalize W1.heap.size = b4 at *
  clear H0 H1 H2 H3 hb HS
  rintro V ⟨hb, h4, h2, h3⟩
  have hx : HeldAt hs ts fc dr gp tl hour le b4 b2 b3 w V := ⟨⟨o, h4⟩, h2, h3, hb⟩
  have HC := Lib.hid hx
  have HEE := Lib.hid (HEN.out b4 b2 b3 w hg n2 n3)
  clear h4 h2 h3 hb hx hg n2 n3
  have HE0 := Lib.hid (HEE.out 0 (Nat.zero_le _))
  have HE8 := Lib.hid (HEE.out 1090519040 (Nat.le_refl _))
  have enterOf' := enterOf
  cases h0 : E 0 with
  | true =>
    rw [h0] at HE0
    have HV : Hid (outB E = 0 ∧ outC E = 0) := Lib.hid ⟨by unfold outB; rw [h0]; simp, by unfold outC; rw [HM.out h0]; rfl⟩
    clear h0 HE8
    go_wp2_with (refine (HE0.out _ HC.out).mono ?_; rintro e W7 ⟨rfl, hC7⟩; replace HC := Lib.hid hC7; clear hC7)
    go_ret2
    rw [HV.out.1, HV.out.2]
    exact ⟨rfl, HC.out.2.2.2⟩
  | false =>
    rw [h0] at HE0
    go_upto_region 9 with (refine (HE0.out _ HC.out).mono ?_; rintro e W7 ⟨rfl, hC7⟩; replace HC := Lib.hid hC7; clear hC7)
    cases h8 : E 1090519040 with
    | false =>
      rw [h8] at HE8
      have HV : Hid (outB E = 0 ∧ outC E = 6) := Lib.hid ⟨by unfold outB; rw [h8]; rfl, by unfold outC; rw [h8]; rfl⟩
      clear h0 h8 HE0
      go_wp2_with (refine (HE8.out _ HC.out).mono ?_; rintro e W8 ⟨rfl, hC8⟩; replace HC := Lib.hid hC8; clear hC8)
      go_ret2
      rw [HV.out.1, HV.out.2]
      exact ⟨rfl, HC.out.2.2.2⟩
    | true =>
      rw [h8] at HE8
      have HV : Hid (outB E = (halfN E 30 (0, 1090519040)).2 ∧ outC E = 0) := Lib.hid ⟨by unfold outB; rw [h8, h0]; rfl, by unfold outC; rw [h8]; rfl⟩
      have HL := Lib.hid (fun V hV => leastOut_any E h0 h8 18 enterOf #[.pointer (some ⟨b4, 0, none⟩), .pointer (some ⟨b2, 0, none⟩), .pointer (some ⟨b3, 0, none⟩)] (HeldAt hs ts fc dr gp tl hour le b4 b2 b3 w) V hV (fun o W ho hW => HEE.out o ho W hW))
      clear h0 h8 HE0
      go_wp2_with (first | (go_at_call 20; refine (HL.out _ HC.out).mono ?_; rintro e W9 ⟨rfl, hC9⟩; replace HC := Lib.hid hC9; clear hC9) | (refine (HE8.out _ HC.out).mono ?_; rintro e W8 ⟨rfl, hC8⟩; replace HC := Lib.hid hC8; clear hC8))
      go_ret2
      rw [HV.out.1, HV.out.2]
      exact ⟨rfl, HC.out.2.2.2⟩

end Go.Proofs.YthpimcfmgefkkaaDoor
