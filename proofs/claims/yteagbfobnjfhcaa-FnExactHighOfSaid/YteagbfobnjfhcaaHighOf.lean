/-
  For every blind, valid or not: how high it is, is what the model says. No conditions.
-/
import Derived.Test.YteagbfobnjfhcaaBhd
namespace Go.Proofs.Yteagbfobnjfhcaa
open Go.ChangeShapes Go.WideShapes Go.ChangeAt Go.RowKit Go.Deep Go.Joins

theorem slats_nat : ∀ k : Nat, k < 60 → floatOfInt .f32 ((k : Int) + 1) ≤ 1114636288 := by decide +kernel
theorem slats_le (n : Int) (h0 : 1 ≤ n) (h1 : n ≤ 60) : floatOfInt .f32 n ≤ 1114636288 := by
  obtain ⟨k, rfl⟩ : ∃ k : Nat, n = (k : Int) + 1 := ⟨(n - 1).toNat, by omega⟩
  exact slats_nat k (by omega)
def highB (n : Int) (gp : Nat) : Nat := fmul (floatOfInt .f32 n) gp
theorem high_facts {n : Int} {gp : Nat} (h0 : 1 ≤ n) (h1 : n ≤ 60) (g1 : gp ≤ 1115684864) : floatBits .mul .f32 (floatOfInt .f32 n) gp = some (highB n gp) ∧ highB n gp < 2139095040 := by
  have hs := slats_le n h0 h1
  unfold highB
  generalize floatOfInt .f32 n = x at *
  have m := mul_mono (x := x) (X := 1114636288) (y := gp) (Y := 1115684864) (by decide) (by decide) hs g1
  have e : fmul 1114636288 1115684864 < 2139095040 := by decide +kernel
  exact ⟨(mul_rnd (by omega) (by omega)).1, by omega⟩

set_option maxRecDepth 100000 in
set_option maxHeartbeats 1000000 in
theorem implHighOf_yes (n : Int) (wd gp : Nat) (t : Int) (sh : Nat) (bw : BlWf n wd gp t sh) (hk : okBl n wd gp t sh = true) (w : World) :
    Calls Try.prog 31 #[.agg (blindC n wd gp t sh)] w fun e w' => e = .returned (.tuple #[.float .f32 (highB n gp), .int .i64 0]) ∧ Below w.heap.size w w' := by
  obtain ⟨T0, T1⟩ := blwf_t bw
  obtain ⟨N0, N1⟩ := blwf_n bw
  have OK := blok_of bw hk
  have f1 := (high_facts OK.1 OK.2.1 OK.2.2.2.2.2.1).1
  have r1 : ∀ T w, (binOp .mul T (.float .f32 (floatOfInt .f32 n)) (.float .f32 gp)).run Try.prog w = .ok (.float .f32 (highB n gp)) w := fun T w => run_float_arith w .mul T .f32 _ _ _ f1
  clear OK f1
  have Hc : Hid (codeC (okBl n wd gp t sh) true = 0) := by rw [hk]; rfl
  have Hk := Lib.hid hk
  clear hk bw
  go_enter Try.func31, Try.ntmps31
  go_upto_region 1 with (fail)
  refine abs_world (fun W => Below w.heap.size w W ∧ W.heap[w.heap.size]? = some (.cells (blindC n wd gp t sh) 28 (0, 0))) ⟨(Below.refl _ _).alloc (Nat.le_refl _) _, heap_alloc_new _ _⟩ ?_
  rintro W ⟨hb, h0⟩
  have H0 := Lib.hid h0
  obtain ⟨k0, k1, k2, k3, k4⟩ := blind_cells h0
  clear h0
  go_wp2_with (first | (refine wpList_load_part rfl 28 _ rfl w.heap.size 0 5 rfl 28 (blindC n wd gp t sh) (0, 0) _ H0.out Try.underlying28 rfl info_blind (blind_fits _ _ _ _ _) _ (blind_all _ _ _ _ _) ?_) | (go_at_call 56; refine (checkBlind_is n wd gp t sh T0 T1 true 0 Hc.out _).mono ?_; rintro e W1 ⟨rfl, hb1⟩; replace H0 := Lib.hid (below_row hb1 H0.out); replace hb := hb.trans (hb1.mono hb.size); clear hb1; clear k0 k1 k2 k3 k4; obtain ⟨k0, k1, k2, k3, k4⟩ := blind_cells H0.out))
  go_ret2
  exact ⟨rfl, hb⟩

set_option maxRecDepth 100000 in
set_option maxHeartbeats 1000000 in
theorem implHighOf_no (n : Int) (wd gp : Nat) (t : Int) (sh : Nat) (bw : BlWf n wd gp t sh) (hk : okBl n wd gp t sh = false) (w : World) :
    Calls Try.prog 31 #[.agg (blindC n wd gp t sh)] w fun e w' => e = .returned (.tuple #[.float .f32 0, .int .i64 1]) ∧ Below w.heap.size w w' := by
  obtain ⟨T0, T1⟩ := blwf_t bw
  obtain ⟨N0, N1⟩ := blwf_n bw
  have Hc : Hid (codeC (okBl n wd gp t sh) true = 1) := by rw [hk]; rfl
  have Hk := Lib.hid hk
  clear hk bw
  go_enter Try.func31, Try.ntmps31
  go_upto_region 1 with (fail)
  refine abs_world (fun W => Below w.heap.size w W ∧ W.heap[w.heap.size]? = some (.cells (blindC n wd gp t sh) 28 (0, 0))) ⟨(Below.refl _ _).alloc (Nat.le_refl _) _, heap_alloc_new _ _⟩ ?_
  rintro W ⟨hb, h0⟩
  have H0 := Lib.hid h0
  obtain ⟨k0, k1, k2, k3, k4⟩ := blind_cells h0
  clear h0
  go_wp2_with (first | (refine wpList_load_part rfl 28 _ rfl w.heap.size 0 5 rfl 28 (blindC n wd gp t sh) (0, 0) _ H0.out Try.underlying28 rfl info_blind (blind_fits _ _ _ _ _) _ (blind_all _ _ _ _ _) ?_) | (go_at_call 56; refine (checkBlind_is n wd gp t sh T0 T1 true 1 Hc.out _).mono ?_; rintro e W1 ⟨rfl, hb1⟩; replace H0 := Lib.hid (below_row hb1 H0.out); replace hb := hb.trans (hb1.mono hb.size); clear hb1; clear k0 k1 k2 k3 k4; obtain ⟨k0, k1, k2, k3, k4⟩ := blind_cells H0.out))
  go_ret2
  exact ⟨rfl, hb⟩

set_option maxRecDepth 100000 in
set_option maxHeartbeats 1000000 in
theorem specHighOf_yes (n : Int) (wd gp : Nat) (t : Int) (sh : Nat) (bw : BlWf n wd gp t sh) (hk : okBl n wd gp t sh = true) (w : World) :
    Calls Try.prog 30 #[.agg (blindC n wd gp t sh)] w fun e w' => e = .returned (.tuple #[.float .f32 (highB n gp), .int .i64 0]) ∧ Below w.heap.size w w' := by
  obtain ⟨T0, T1⟩ := blwf_t bw
  obtain ⟨N0, N1⟩ := blwf_n bw
  have OK := blok_of bw hk
  have f1 := (high_facts OK.1 OK.2.1 OK.2.2.2.2.2.1).1
  have r1 : ∀ T w, (binOp .mul T (.float .f32 (floatOfInt .f32 n)) (.float .f32 gp)).run Try.prog w = .ok (.float .f32 (highB n gp)) w := fun T w => run_float_arith w .mul T .f32 _ _ _ f1
  clear OK f1
  have Hc : Hid (codeC (okBl n wd gp t sh) true = 0) := by rw [hk]; rfl
  have Hk := Lib.hid hk
  clear hk bw
  go_enter Try.func30, Try.ntmps30
  go_upto_region 1 with (fail)
  refine abs_world (fun W => Below w.heap.size w W ∧ W.heap[w.heap.size]? = some (.cells (blindC n wd gp t sh) 28 (0, 0))) ⟨(Below.refl _ _).alloc (Nat.le_refl _) _, heap_alloc_new _ _⟩ ?_
  rintro W ⟨hb, h0⟩
  have H0 := Lib.hid h0
  obtain ⟨k0, k1, k2, k3, k4⟩ := blind_cells h0
  clear h0
  go_wp2_with (go_at_call 49; refine (l02Ok_any n wd gp t sh T0 T1 N0 N1 w.heap.size _ _ _ H0.out).mono ?_; rw [Hk.out]; rintro e w1 ⟨rfl, rfl⟩)
  go_ret2
  exact ⟨rfl, hb⟩

set_option maxRecDepth 100000 in
set_option maxHeartbeats 1000000 in
theorem specHighOf_no (n : Int) (wd gp : Nat) (t : Int) (sh : Nat) (bw : BlWf n wd gp t sh) (hk : okBl n wd gp t sh = false) (w : World) :
    Calls Try.prog 30 #[.agg (blindC n wd gp t sh)] w fun e w' => e = .returned (.tuple #[.float .f32 0, .int .i64 1]) ∧ Below w.heap.size w w' := by
  obtain ⟨T0, T1⟩ := blwf_t bw
  obtain ⟨N0, N1⟩ := blwf_n bw
  have Hc : Hid (codeC (okBl n wd gp t sh) true = 1) := by rw [hk]; rfl
  have Hk := Lib.hid hk
  clear hk bw
  go_enter Try.func30, Try.ntmps30
  go_upto_region 1 with (fail)
  refine abs_world (fun W => Below w.heap.size w W ∧ W.heap[w.heap.size]? = some (.cells (blindC n wd gp t sh) 28 (0, 0))) ⟨(Below.refl _ _).alloc (Nat.le_refl _) _, heap_alloc_new _ _⟩ ?_
  rintro W ⟨hb, h0⟩
  have H0 := Lib.hid h0
  obtain ⟨k0, k1, k2, k3, k4⟩ := blind_cells h0
  clear h0
  go_wp2_with (go_at_call 49; refine (l02Ok_any n wd gp t sh T0 T1 N0 N1 w.heap.size _ _ _ H0.out).mono ?_; rw [Hk.out]; rintro e w1 ⟨rfl, rfl⟩)
  go_ret2
  exact ⟨rfl, hb⟩

set_option maxRecDepth 100000 in
set_option maxHeartbeats 1000000 in
theorem FnExactHighOf_core (n : Int) (wd gp : Nat) (t : Int) (sh : Nat) (v0 : Nat) (v1 : Int) (hv0 : fin32 v0 = true) 
    (hspec : ∀ w, Calls Try.prog 30 #[.agg (blindC n wd gp t sh)] w fun e w' => e = .returned (.tuple #[.float .f32 v0, .int .i64 v1]) ∧ Below w.heap.size w w')
    (himpl : ∀ w, Calls Try.prog 31 #[.agg (blindC n wd gp t sh)] w fun e w' => e = .returned (.tuple #[.float .f32 v0, .int .i64 v1]) ∧ Below w.heap.size w w') (w : World) :
    Calls Try.prog 9 #[.agg (blindC n wd gp t sh)] w fun e w' => e = .returned (.bool true) ∧ Below w.heap.size w w' := by
  have HS := Lib.hid hspec
  have HI := Lib.hid himpl
  clear hspec himpl
  have hw0 := run_wide _ hv0
  have Hv0 := Lib.hid hv0
  clear hv0
  go_enter Try.func9, Try.ntmps9
  go_upto_region 1 with (fail)
  refine abs_world (fun W => Below w.heap.size w W ∧ W.heap[w.heap.size]? = some (.cells (blindC n wd gp t sh) 26 (0, 0))) ⟨(Below.refl _ _).alloc (Nat.le_refl _) _, heap_alloc_new _ _⟩ ?_
  rintro W ⟨hb, h0⟩
  have H0 := Lib.hid h0
  clear h0
  go_wp2_with (first | (refine wpList_load_part rfl 26 _ rfl w.heap.size 0 5 rfl 26 (blindC n wd gp t sh) (0, 0) _ H0.out Try.underlying26 rfl info_blindL (blind_fits _ _ _ _ _) _ (blind_all _ _ _ _ _) ?_) | (go_at_call 16; refine (toBlind_any _ _ _ _ _ _).mono ?_; rintro e W1 ⟨rfl, hb1⟩; replace H0 := Lib.hid (below_row hb1 H0.out); replace hb := hb.trans (hb1.mono hb.size); clear hb1) | (go_at_call 30; refine (HS.out _).mono ?_; rintro e W1 ⟨rfl, hb1⟩; replace H0 := Lib.hid (below_row hb1 H0.out); replace hb := hb.trans (hb1.mono hb.size); clear hb1) | (go_at_call 31; refine (HI.out _).mono ?_; rintro e W1 ⟨rfl, hb1⟩; replace H0 := Lib.hid (below_row hb1 H0.out); replace hb := hb.trans (hb1.mono hb.size); clear hb1) | (go_at_call 25; refine (same_wide _ Hv0.out _).mono ?_; rintro e w1 ⟨rfl, rfl⟩))
  go_ret
  exact ⟨rfl, hb⟩

theorem lawHighOf_walk (n : Int) (wd gp : Nat) (t : Int) (sh : Nat) (bw : BlWf n wd gp t sh) (w : World) :
    Calls Try.prog 9 #[.agg (blindC n wd gp t sh)] w fun e w' => e = .returned (.bool true) ∧ Below w.heap.size w w' := by
  cases hk : okBl n wd gp t sh with
  | true => exact FnExactHighOf_core n wd gp t sh _ _ (fin_of_lt (high_facts (blok_of bw hk).1 (blok_of bw hk).2.1 (blok_of bw hk).2.2.2.2.2.1).2) (fun w => specHighOf_yes n wd gp t sh bw hk w) (fun w => implHighOf_yes n wd gp t sh bw hk w) w
  | false => exact FnExactHighOf_core n wd gp t sh _ _ zero_fin (fun w => specHighOf_no n wd gp t sh bw hk w) (fun w => implHighOf_no n wd gp t sh bw hk w) w

set_option maxRecDepth 100000 in
theorem FnExactHighOf_holds : Rows.FnExactHighOfSaid :=
  OpenClaim.holds_of_wide 9 Try.f9 rfl rfl rfl rfl rfl rfl rfl ⟨rfl, rfl, rfl, rfl, rfl⟩ rfl rfl rfl rfl rfl (by kernel_rfl) Try.func9 (by kernel_rfl)
    (of_decide_eq_true (by kernel_rfl)) (by unfold Func.isWrapper; first | (rw [if_pos (by decide +kernel)]; kernel_rfl) | (rw [if_neg (by decide +kernel)]; exact ⟨rfl, rfl⟩))
    (fun os started H enc _ => law_lifted 9 Try.f9 Rows.fnExactHighOfSpec Rows.fnExactHighOfRow.domain os started H enc (by kernel_rfl) Try.func9 rfl rfl
      (by rw [Try.params9]; intro t ht; simp only [List.mem_cons, List.not_mem_nil, or_false] at ht; subst ht <;> exact ⟨by kernel_rfl, of_decide_eq_true (by kernel_rfl)⟩)
      (fun ds hl => by
        match ds, hl with
        | [d0], _ => rfl)
      (ChangeSpec.witness6 (enc := enc) (C := Try.checked) false ⟨#[], #[.agg #[.int .i8 0, .float .f32 0, .float .f32 0, .int .i16 0, .float .f32 0]], []⟩ 8 (by kernel_rfl) (by kernel_rfl) (by kernel_rfl) (by kernel_rfl))
      (fun W base args ds p hval hA => by
        rw [Try.params9] at hA hval
        obtain ⟨v0, vs0, d0, ds0, p0, q0, hargs, rfl, rfl, h0, r0⟩ := trodAll_cons hA
        obtain ⟨rfl, rfl, rfl⟩ := trodAll_nil r0
        obtain rfl : args = #[v0] := by cases args; simp_all
        obtain ⟨n0, wd0, gp0, t0, sh0, bw0, rfl⟩ := open_blind (hval 0 26 v0 rfl rfl) h0
        exact lawHighOf_walk n0 wd0 gp0 t0 sh0 bw0 W))
#print axioms FnExactHighOf_holds

end Go.Proofs.Yteagbfobnjfhcaa
