/-
  For every blind, valid or not, every height and all bounds: the tilts with which what passes is within them are what the model says, in memory of their own. No conditions.
-/
import Derived.Test.YteagbfobnjfhcaaWithinS
namespace Go.Proofs.Yteagbfobnjfhcaa
open Go.ChangeShapes Go.WideShapes Go.ChangeAt Go.RowKit

set_option maxRecDepth 100000 in
set_option maxHeartbeats 1000000 in
theorem FnExactTiltsWithin_core (n : Int) (wd gp : Nat) (t : Int) (sh : Nat) (h : Int) (lo : Nat) (hi : Nat) (xs : List Int) (c : Int) (hn : xs.length ≤ 1000)
    (hspec : ∀ w, Calls Try.prog 45 #[.agg (blindC n wd gp t sh), .int .i64 h, .float .f32 lo, .float .f32 hi] w (RetList xs c w)) (himpl : ∀ w, Calls Try.prog 46 #[.agg (blindC n wd gp t sh), .int .i64 h, .float .f32 lo, .float .f32 hi] w (RetList xs c w)) (w : World) :
    Calls Try.prog 13 #[.agg (blindC n wd gp t sh), .int .i64 h, .float .f32 lo, .float .f32 hi] w fun e w' => e = .returned (.bool true) ∧ Below w.heap.size w w' := by
  have HS := Lib.hid hspec
  have HI := Lib.hid himpl
  clear hspec himpl
  go_enter Try.func13, Try.ntmps13
  go_upto_region 1 with (fail)
  refine abs_world (fun W => Below w.heap.size w W ∧ W.heap[w.heap.size]? = some (.cells (blindC n wd gp t sh) 26 (0, 0))) ⟨(Below.refl _ _).alloc (Nat.le_refl _) _, heap_alloc_new _ _⟩ ?_
  rintro W ⟨hb, h0⟩
  have H0 := Lib.hid h0
  clear h0
  go_upto_region 2 with (first | (refine wpList_load_part rfl 26 _ rfl w.heap.size 0 5 rfl 26 (blindC n wd gp t sh) (0, 0) _ H0.out Try.underlying26 rfl info_blindL (blind_fits _ _ _ _ _) _ (blind_all _ _ _ _ _) ?_) | (go_at_call 16; refine (toBlind_any _ _ _ _ _ _).mono ?_; rintro e W1 ⟨rfl, hb1⟩; replace H0 := Lib.hid (below_row hb1 H0.out); replace hb := hb.trans (hb1.mono hb.size); clear hb1) | (go_at_call 45; refine (HS.out _).mono ?_; rintro e W2 ⟨⟨v0, rfl, hv0⟩, hbq⟩; replace H0 := Lib.hid (below_row hbq H0.out); replace hb := hb.trans (hbq.mono hb.size); clear hbq))
  go_upto_region 3 with (first | (refine wpList_load_part rfl 26 _ rfl w.heap.size 0 5 rfl 26 (blindC n wd gp t sh) (0, 0) _ H0.out Try.underlying26 rfl info_blindL (blind_fits _ _ _ _ _) _ (blind_all _ _ _ _ _) ?_) | (go_at_call 16; refine (toBlind_any _ _ _ _ _ _).mono ?_; rintro e W1 ⟨rfl, hb1⟩; replace H0 := Lib.hid (below_row hb1 H0.out); replace hv0 := own_below hv0 hb1 (Nat.le_refl _); replace hb := hb.trans (hb1.mono hb.size); clear hb1) | (go_at_call 46; refine (HI.out _).mono ?_; rintro e W3 ⟨⟨v1, rfl, hv1⟩, hbq⟩; obtain ⟨BB, hv1, hu, hgB⟩ : ∃ B, Own W3 B 2 (Value.int .i64) v1 xs ∧ Under v0 B ∧ w.heap.size < B := ⟨_, hv1, under_of hv0, row_lt H0.out⟩; replace H0 := Lib.hid (below_row hbq H0.out); replace hv0 := own_below hv0 hbq (Nat.le_refl _); replace hb := hb.trans (hbq.mono hb.size); clear hbq))
  have z0 : decide ((1 : Int) + (xs.length : Int) < 0) = false := by apply decide_eq_false; omega
  have zc : (c != c) = false := by simp
  have zn : ((1 : Int) + (xs.length : Int) != 1 + (xs.length : Int)) = false := by simp
  go_upto_region 5 with (go_at_call 36; refine (eqI_same xs v1 v0 _ _ _ hv1 hv0).mono ?_; rintro e W4 ⟨rfl, hb1⟩; replace H0 := Lib.hid (below_row hb1 H0.out); replace hv0 := own_below hv0 hb1 (Nat.le_refl _); replace hv1 := own_below hv1 hb1 (Nat.le_refl _); replace hb := hb.trans (hb1.mono hb.size); clear hb1)
  go_upto_region 7 with (go_at_call 37; refine (markI_any 1 xs v1 BB _ (by decide) (by decide) (by omega) hv1).mono ?_; intro e W5 hm; have hA := above_of hv1; replace hv0 := own_marked hv0 hu hA hm; replace H0 := Lib.hid (row_marked H0.out hgB hA hm); replace hb := hb.trans (hm.2.2.1.mono (Nat.le_of_lt hgB)); replace hv1 := hm.2.1; obtain rfl := hm.1; clear hm)
  go_upto_region 9 with (go_at_call 42; refine (heldI_same 1 xs.length v1 BB _ (by decide) (by decide) (by omega) hv1).mono ?_; rintro e W6 ⟨rfl, hb1⟩; replace H0 := Lib.hid (below_row hb1 H0.out); replace hv0 := own_below hv0 hb1 (Nat.le_refl _); replace hv1 := own_below hv1 hb1 (Nat.le_refl _); replace hb := hb.trans (hb1.mono hb.size); clear hb1)
  go_upto_region 13 with (fail)
  go_upto_region 14 with (first | (refine wpList_load_part rfl 26 _ rfl w.heap.size 0 5 rfl 26 (blindC n wd gp t sh) (0, 0) _ H0.out Try.underlying26 rfl info_blindL (blind_fits _ _ _ _ _) _ (blind_all _ _ _ _ _) ?_) | (go_at_call 16; refine (toBlind_any _ _ _ _ _ _).mono ?_; rintro e W1 ⟨rfl, hb1⟩; replace H0 := Lib.hid (below_row hb1 H0.out); replace hv0 := own_below hv0 hb1 (Nat.le_refl _); replace hv1 := own_below hv1 hb1 (Nat.le_refl _); replace hb := hb.trans (hb1.mono hb.size); clear hb1) | (go_at_call 46; refine (HI.out _).mono ?_; rintro e W7 ⟨⟨v2, rfl, hv2⟩, hbq⟩; replace H0 := Lib.hid (below_row hbq H0.out); replace hv0 := own_below hv0 hbq (Nat.le_refl _); replace hv1 := own_below hv1 hbq (Nat.le_refl _); replace hb := hb.trans (hbq.mono hb.size); clear hbq))
  go_upto_region 16 with (go_at_call 36; refine (eqI_same xs v2 v0 _ _ _ hv2 hv0).mono ?_; rintro e W8 ⟨rfl, hb1⟩; replace hv1 := own_below hv1 hb1 (Nat.le_refl _); replace hb := hb.trans (hb1.mono hb.size); clear hb1)
  go_wp2_with (go_at_call 42; refine (heldI_same 1 xs.length v1 BB _ (by decide) (by decide) (by omega) hv1).mono ?_; rintro e W9 ⟨rfl, hb1⟩; replace hb := hb.trans (hb1.mono hb.size); clear hb1)
  go_ret
  exact ⟨rfl, hb⟩

theorem wantT_shortw (P : Int → Bool) : (wantT P (tls 129)).length ≤ 1000 := by
  have h := wantT_len P (tls 129)
  rw [tls_length] at h
  omega

theorem lawTiltsWithin_walk (n : Int) (wd gp : Nat) (t : Int) (sh : Nat) (bw : BlWf n wd gp t sh) (h : Int) (lo : Nat) (hwl : (Lit.float .f32 lo).wf = true) (hi : Nat) (hwh : (Lit.float .f32 hi).wf = true) (w : World) :
    Calls Try.prog 13 #[.agg (blindC n wd gp t sh), .int .i64 h, .float .f32 lo, .float .f32 hi] w fun e w' => e = .returned (.bool true) ∧ Below w.heap.size w w' := by
  by_cases hk : okBl n wd gp t sh = true ∧ fineW h lo hi = true
  · obtain ⟨⟨hh, hp⟩, hq⟩ : (inI 1 64 h = true ∧ partB lo = true) ∧ partB hi = true := by simpa [fineW] using hk.2
    exact FnExactTiltsWithin_core n wd gp t sh h lo hi _ _ (wantT_shortw _) (fun w => specWithin_yes n wd gp t sh bw h lo hi hk.1 hh hp hq hwl hwh w) (fun w => implWithin_yes n wd gp t sh bw h lo hi hk.1 hh hp hq w) w
  · cases hh : inI 1 64 h with
    | false => exact FnExactTiltsWithin_core n wd gp t sh h lo hi _ _ (by simp) (fun w => specWithin_no1 n wd gp t sh bw h lo hi hh hk w) (fun w => implWithin_no1 n wd gp t sh bw h lo hi hh hk w) w
    | true =>
      cases hp : partB lo with
      | false => exact FnExactTiltsWithin_core n wd gp t sh h lo hi _ _ (by simp) (fun w => specWithin_no2 n wd gp t sh bw h lo hi hh hp hk w) (fun w => implWithin_no2 n wd gp t sh bw h lo hi hh hp hk w) w
      | true => exact FnExactTiltsWithin_core n wd gp t sh h lo hi _ _ (by simp) (fun w => specWithin_no3 n wd gp t sh bw h lo hi hh hp hk w) (fun w => implWithin_no3 n wd gp t sh bw h lo hi hh hp hk w) w

set_option maxRecDepth 100000 in
theorem FnExactTiltsWithin_holds : Rows.FnExactTiltsWithinSaid :=
  OpenClaim.holds_of_wide 13 Try.f13 rfl rfl rfl rfl rfl rfl rfl ⟨rfl, rfl, rfl, rfl, rfl⟩ rfl rfl rfl rfl rfl (by kernel_rfl) Try.func13 (by kernel_rfl)
    (of_decide_eq_true (by kernel_rfl)) (by unfold Func.isWrapper; first | (rw [if_pos (by decide +kernel)]; kernel_rfl) | (rw [if_neg (by decide +kernel)]; exact ⟨rfl, rfl⟩))
    (fun os started H enc _ => law_lifted 13 Try.f13 Rows.fnExactTiltsWithinSpec Rows.fnExactTiltsWithinRow.domain os started H enc (by kernel_rfl) Try.func13 rfl rfl
      (by rw [Try.params13]; intro t ht; simp only [List.mem_cons, List.not_mem_nil, or_false] at ht; rcases ht with rfl | rfl | rfl | rfl <;> exact ⟨by kernel_rfl, of_decide_eq_true (by kernel_rfl)⟩)
      (fun ds hl => by
        match ds, hl with
        | [d0, d1, d2, d3], _ => rfl)
      (ChangeSpec.witness6 (enc := enc) (C := Try.checked) false ⟨#[], #[.agg #[.int .i8 0, .float .f32 0, .float .f32 0, .int .i16 0, .float .f32 0], .int .i64 0, .float .f32 0, .float .f32 0], []⟩ 8 (by kernel_rfl) (by kernel_rfl) (by kernel_rfl) (by kernel_rfl))
      (fun W base args ds p hval hA => by
        rw [Try.params13] at hA hval
        obtain ⟨v0, vs0, d0, ds0, p0, q0, hargs, rfl, rfl, h0, r0⟩ := trodAll_cons hA
        obtain ⟨v1, vs1, d1, ds1, p1, q1, rfl, rfl, rfl, h1, r1⟩ := trodAll_cons r0
        obtain ⟨v2, vs2, d2, ds2, p2, q2, rfl, rfl, rfl, h2, r2⟩ := trodAll_cons r1
        obtain ⟨v3, vs3, d3, ds3, p3, q3, rfl, rfl, rfl, h3, r3⟩ := trodAll_cons r2
        obtain ⟨rfl, rfl, rfl⟩ := trodAll_nil r3
        obtain rfl : args = #[v0, v1, v2, v3] := by cases args; simp_all
        obtain ⟨n0, wd0, gp0, t0, sh0, bw0, rfl⟩ := open_blind (hval 0 26 v0 rfl rfl) h0
        obtain ⟨a1, rfl, rfl, rfl, w1⟩ := open_int Try.underlying2 (hval 1 2 v1 rfl rfl) h1
        obtain ⟨a2, rfl, rfl, rfl, w2⟩ := open_float Try.underlying23 (hval 2 23 v2 rfl rfl) h2
        obtain ⟨a3, rfl, rfl, rfl, w3⟩ := open_float Try.underlying23 (hval 3 23 v3 rfl rfl) h3
        exact lawTiltsWithin_walk n0 wd0 gp0 t0 sh0 bw0 a1 a2 w2 a3 w3 W))
#print axioms FnExactTiltsWithin_holds

end Go.Proofs.Yteagbfobnjfhcaa
