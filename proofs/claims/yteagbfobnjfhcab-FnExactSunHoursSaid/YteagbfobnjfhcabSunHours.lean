/-
  For every sun, valid or not, every facing and every least light: the hours with enough light are what the model says, in memory of their own. No conditions.
-/
import Derived.Test.YteagbfobnjfhcabHrsSpec
import Derived.Test.YteagbfobnjfhcabLaw
namespace Go.Proofs.Yteagbfobnjfhcab
open Go.ChangeShapes Go.WideShapes Go.ChangeAt Go.RowKit

set_option maxRecDepth 100000 in
set_option maxHeartbeats 1000000 in
theorem FnExactSunHours_core (hs ts : List Int) (hh : hs.length = 24) (ht : ts.length = 24) (facing : Int) (le : Nat) (xs : List Int) (c : Int) (hn : xs.length ≤ 1000)
    (hspec : ∀ w, Calls Try.prog 32 #[.agg (sunC hs ts), .int .i64 facing, .float .f32 le] w (RetList xs c w)) (himpl : ∀ w, Calls Try.prog 33 #[.agg (sunC hs ts), .int .i64 facing, .float .f32 le] w (RetList xs c w)) (w : World) :
    Calls Try.prog 10 #[.agg (sunC hs ts), .int .i64 facing, .float .f32 le] w fun e w' => e = .returned (.bool true) ∧ Below w.heap.size w w' := by
  have Hh := Lib.hid hh
  have Ht := Lib.hid ht
  have HS := Lib.hid hspec
  have HI := Lib.hid himpl
  clear hspec himpl hh ht
  go_enter Try.func10, Try.ntmps10
  go_upto_region 1 with (fail)
  refine abs_world (fun W => Below w.heap.size w W ∧ W.heap[w.heap.size]? = some (.cells (sunC hs ts) 49 (0, 0))) ⟨(Below.refl _ _).alloc (Nat.le_refl _) _, heap_alloc_new _ _⟩ ?_
  rintro W ⟨hb, h0⟩
  have H0 := Lib.hid h0
  clear h0
  go_upto_region 2 with (first | (refine wpList_load_part rfl 49 _ rfl w.heap.size 0 48 rfl 49 (sunC hs ts) (0, 0) _ H0.out Try.underlying49 rfl info_sunL (sun_fits _ _ Hh.out Ht.out) (sunC hs ts) (sun_all _ _ Hh.out Ht.out) ?_) | (go_at_call 28; refine (toSun_any hs ts Hh.out Ht.out _).mono ?_; rintro e W1 ⟨rfl, hb1⟩; replace H0 := Lib.hid (below_row hb1 H0.out); replace hb := hb.trans (hb1.mono hb.size); clear hb1) | (go_at_call 32; refine (HS.out _).mono ?_; rintro e W2 ⟨⟨v0, rfl, hv0⟩, hbq⟩; replace H0 := Lib.hid (below_row hbq H0.out); replace hb := hb.trans (hbq.mono hb.size); clear hbq))
  go_upto_region 3 with (first | (refine wpList_load_part rfl 49 _ rfl w.heap.size 0 48 rfl 49 (sunC hs ts) (0, 0) _ H0.out Try.underlying49 rfl info_sunL (sun_fits _ _ Hh.out Ht.out) (sunC hs ts) (sun_all _ _ Hh.out Ht.out) ?_) | (go_at_call 28; refine (toSun_any hs ts Hh.out Ht.out _).mono ?_; rintro e W1 ⟨rfl, hb1⟩; replace H0 := Lib.hid (below_row hb1 H0.out); replace hv0 := own_below hv0 hb1 (Nat.le_refl _); replace hb := hb.trans (hb1.mono hb.size); clear hb1) | (go_at_call 33; refine (HI.out _).mono ?_; rintro e W3 ⟨⟨v1, rfl, hv1⟩, hbq⟩; obtain ⟨BB, hv1, hu, hgB⟩ : ∃ B, Own W3 B 2 (Value.int .i64) v1 xs ∧ Under v0 B ∧ w.heap.size < B := ⟨_, hv1, under_of hv0, row_lt H0.out⟩; replace H0 := Lib.hid (below_row hbq H0.out); replace hv0 := own_below hv0 hbq (Nat.le_refl _); replace hb := hb.trans (hbq.mono hb.size); clear hbq))
  have z0 : decide ((1 : Int) + (xs.length : Int) < 0) = false := by apply decide_eq_false; omega
  have zc : (c != c) = false := by simp
  have zn : ((1 : Int) + (xs.length : Int) != 1 + (xs.length : Int)) = false := by simp
  go_upto_region 5 with (go_at_call 34; refine (eqI_same xs v1 v0 _ _ _ hv1 hv0).mono ?_; rintro e W4 ⟨rfl, hb1⟩; replace H0 := Lib.hid (below_row hb1 H0.out); replace hv0 := own_below hv0 hb1 (Nat.le_refl _); replace hv1 := own_below hv1 hb1 (Nat.le_refl _); replace hb := hb.trans (hb1.mono hb.size); clear hb1)
  go_upto_region 7 with (go_at_call 35; refine (markI_any 1 xs v1 BB _ (by decide) (by decide) (by omega) hv1).mono ?_; intro e W5 hm; have hA := above_of hv1; replace hv0 := own_marked hv0 hu hA hm; replace H0 := Lib.hid (row_marked H0.out hgB hA hm); replace hb := hb.trans (hm.2.2.1.mono (Nat.le_of_lt hgB)); replace hv1 := hm.2.1; obtain rfl := hm.1; clear hm)
  go_upto_region 9 with (go_at_call 36; refine (heldI_same 1 xs.length v1 BB _ (by decide) (by decide) (by omega) hv1).mono ?_; rintro e W6 ⟨rfl, hb1⟩; replace H0 := Lib.hid (below_row hb1 H0.out); replace hv0 := own_below hv0 hb1 (Nat.le_refl _); replace hv1 := own_below hv1 hb1 (Nat.le_refl _); replace hb := hb.trans (hb1.mono hb.size); clear hb1)
  go_upto_region 13 with (fail)
  go_upto_region 14 with (first | (refine wpList_load_part rfl 49 _ rfl w.heap.size 0 48 rfl 49 (sunC hs ts) (0, 0) _ H0.out Try.underlying49 rfl info_sunL (sun_fits _ _ Hh.out Ht.out) (sunC hs ts) (sun_all _ _ Hh.out Ht.out) ?_) | (go_at_call 28; refine (toSun_any hs ts Hh.out Ht.out _).mono ?_; rintro e W1 ⟨rfl, hb1⟩; replace H0 := Lib.hid (below_row hb1 H0.out); replace hv0 := own_below hv0 hb1 (Nat.le_refl _); replace hv1 := own_below hv1 hb1 (Nat.le_refl _); replace hb := hb.trans (hb1.mono hb.size); clear hb1) | (go_at_call 33; refine (HI.out _).mono ?_; rintro e W7 ⟨⟨v2, rfl, hv2⟩, hbq⟩; replace H0 := Lib.hid (below_row hbq H0.out); replace hv0 := own_below hv0 hbq (Nat.le_refl _); replace hv1 := own_below hv1 hbq (Nat.le_refl _); replace hb := hb.trans (hbq.mono hb.size); clear hbq))
  go_upto_region 16 with (go_at_call 34; refine (eqI_same xs v2 v0 _ _ _ hv2 hv0).mono ?_; rintro e W8 ⟨rfl, hb1⟩; replace hv1 := own_below hv1 hb1 (Nat.le_refl _); replace hb := hb.trans (hb1.mono hb.size); clear hb1)
  go_wp2_with (go_at_call 36; refine (heldI_same 1 xs.length v1 BB _ (by decide) (by decide) (by omega) hv1).mono ?_; rintro e W9 ⟨rfl, hb1⟩; replace hb := hb.trans (hb1.mono hb.size); clear hb1)
  go_ret
  exact ⟨rfl, hb⟩

theorem wantH_short (P : Int → Bool) : (wantH P (hrs 24)).length ≤ 1000 := by
  have h := wantH_len P (hrs 24)
  rw [hrs_length] at h
  omega

theorem lawSunHours_walk (hs ts : List Int) (hh : hs.length = 24) (ht : ts.length = 24) (rb : ∀ x ∈ hs ++ ts, -32768 ≤ x ∧ x ≤ 32767) (facing : Int) (le : Nat) (hwl : (Lit.float .f32 le).wf = true) (w : World) :
    Calls Try.prog 10 #[.agg (sunC hs ts), .int .i64 facing, .float .f32 le] w fun e w' => e = .returned (.bool true) ∧ Below w.heap.size w w' := by
  by_cases hk : okB hs ts = true ∧ (inF facing && partB le) = true
  · have h2 := (Bool.and_eq_true _ _).mp hk.2
    exact FnExactSunHours_core hs ts hh ht facing le _ _ (wantH_short _) (fun w => specSunHours_yes hs ts hh ht rb facing le hk.1 h2.1 h2.2 hwl w) (fun w => implSunHours_yes hs ts hh ht facing le hk.1 h2.1 h2.2 w) w
  · cases h3 : inF facing with
    | false => exact FnExactSunHours_core hs ts hh ht facing le _ _ (by simp) (fun w => specSunHours_no1 hs ts hh ht rb facing le h3 hk w) (fun w => implSunHours_no1 hs ts hh ht facing le h3 hk w) w
    | true => exact FnExactSunHours_core hs ts hh ht facing le _ _ (by simp) (fun w => specSunHours_no2 hs ts hh ht rb facing le h3 hk w) (fun w => implSunHours_no2 hs ts hh ht facing le h3 hk w) w

set_option maxRecDepth 100000 in
theorem FnExactSunHours_holds : Rows.FnExactSunHoursSaid :=
  OpenClaim.holds_of_wide 10 Try.f10 rfl rfl rfl rfl rfl rfl rfl ⟨rfl, rfl, rfl, rfl, rfl⟩ rfl rfl rfl rfl rfl (by kernel_rfl) Try.func10 (by kernel_rfl)
    (of_decide_eq_true (by kernel_rfl)) (by unfold Func.isWrapper; first | (rw [if_pos (by decide +kernel)]; kernel_rfl) | (rw [if_neg (by decide +kernel)]; exact ⟨rfl, rfl⟩))
    (fun os started H enc _ => law_lifted 10 Try.f10 Rows.fnExactSunHoursSpec Rows.fnExactSunHoursRow.domain os started H enc (by kernel_rfl) Try.func10 rfl rfl
      (by rw [Try.params10]; intro t ht; simp only [List.mem_cons, List.not_mem_nil, or_false] at ht; rcases ht with rfl | rfl | rfl <;> exact ⟨by kernel_rfl, of_decide_eq_true (by kernel_rfl)⟩)
      (fun ds hl => by
        match ds, hl with
        | [d0, d1, d2], _ => rfl)
      (ChangeSpec.witness6 (enc := enc) (C := Try.checked) false ⟨#[], #[.agg #[.int .i16 0, .int .i16 0, .int .i16 0, .int .i16 0, .int .i16 0, .int .i16 0, .int .i16 0, .int .i16 0, .int .i16 0, .int .i16 0, .int .i16 0, .int .i16 0, .int .i16 0, .int .i16 0, .int .i16 0, .int .i16 0, .int .i16 0, .int .i16 0, .int .i16 0, .int .i16 0, .int .i16 0, .int .i16 0, .int .i16 0, .int .i16 0, .int .i16 0, .int .i16 0, .int .i16 0, .int .i16 0, .int .i16 0, .int .i16 0, .int .i16 0, .int .i16 0, .int .i16 0, .int .i16 0, .int .i16 0, .int .i16 0, .int .i16 0, .int .i16 0, .int .i16 0, .int .i16 0, .int .i16 0, .int .i16 0, .int .i16 0, .int .i16 0, .int .i16 0, .int .i16 0, .int .i16 0, .int .i16 0], .int .i64 0, .float .f32 0], []⟩ 8 (by kernel_rfl) (by kernel_rfl) (by kernel_rfl) (by kernel_rfl))
      (fun W base args ds p hval hA => by
        rw [Try.params10] at hA hval
        obtain ⟨v0, vs0, d0, ds0, p0, q0, hargs, rfl, rfl, h0, r0⟩ := trodAll_cons hA
        obtain ⟨v1, vs1, d1, ds1, p1, q1, rfl, rfl, rfl, h1, r1⟩ := trodAll_cons r0
        obtain ⟨v2, vs2, d2, ds2, p2, q2, rfl, rfl, rfl, h2, r2⟩ := trodAll_cons r1
        obtain ⟨rfl, rfl, rfl⟩ := trodAll_nil r2
        obtain rfl : args = #[v0, v1, v2] := by cases args; simp_all
        obtain ⟨hs0, ts0, hh0, ht0, rb0, rfl⟩ := open_sun (hval 0 49 v0 rfl rfl) h0
        obtain ⟨a1, rfl, rfl, rfl, w1⟩ := open_int Try.underlying2 (hval 1 2 v1 rfl rfl) h1
        obtain ⟨a2, rfl, rfl, rfl, w2⟩ := open_float Try.underlying22 (hval 2 22 v2 rfl rfl) h2
        exact lawSunHours_walk hs0 ts0 hh0 ht0 rb0 a1 a2 w2 W))
#print axioms FnExactSunHours_holds

end Go.Proofs.Yteagbfobnjfhcab
