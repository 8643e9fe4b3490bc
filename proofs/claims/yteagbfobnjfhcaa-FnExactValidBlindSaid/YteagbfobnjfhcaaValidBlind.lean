/-
  For every blind, valid or not: whether it is valid is what the model says. No conditions.
-/
import Derived.Test.YteagbfobnjfhcaaBok
import Derived.Test.YteagbfobnjfhcaaLaw
namespace Go.Proofs.Yteagbfobnjfhcaa
open Go.ChangeShapes Go.WideShapes Go.ChangeAt Go.RowKit Go.Deep Go.Joins

set_option maxRecDepth 100000 in
set_option maxHeartbeats 1000000 in
theorem specValidBlind_any (n : Int) (wd gp : Nat) (t : Int) (sh : Nat) (bw : BlWf n wd gp t sh) (w : World) :
    Calls Try.prog 15 #[.agg (blindC n wd gp t sh)] w fun e w' => e = .returned (.bool (okBl n wd gp t sh)) ∧ Below w.heap.size w w' := by
  obtain ⟨n0, n1⟩ := blwf_n bw
  obtain ⟨t0, t1⟩ := blwf_t bw
  go_enter Try.func15, Try.ntmps15
  go_wp2_with (go_at_call 49; refine (l02Ok_any n wd gp t sh t0 t1 n0 n1 w.heap.size _ _ _ (heap_alloc_new _ _)).mono ?_; rintro e w' ⟨rfl, rfl⟩)
  go_ret
  exact ⟨rfl, (Below.refl _ _).alloc (Nat.le_refl _) _⟩

set_option maxRecDepth 100000 in
set_option maxHeartbeats 1000000 in
theorem FnExactValidBlind_core (n : Int) (wd gp : Nat) (t : Int) (sh : Nat) (v0 : Bool) 
    (hspec : ∀ w, Calls Try.prog 15 #[.agg (blindC n wd gp t sh)] w fun e w' => e = .returned (.bool v0) ∧ Below w.heap.size w w')
    (himpl : ∀ w, Calls Try.prog 17 #[.agg (blindC n wd gp t sh)] w fun e w' => e = .returned (.bool v0) ∧ Below w.heap.size w w') (w : World) :
    Calls Try.prog 3 #[.agg (blindC n wd gp t sh)] w fun e w' => e = .returned (.bool true) ∧ Below w.heap.size w w' := by
  have HS := Lib.hid hspec
  have HI := Lib.hid himpl
  clear hspec himpl
  go_enter Try.func3, Try.ntmps3
  go_upto_region 1 with (fail)
  refine abs_world (fun W => Below w.heap.size w W ∧ W.heap[w.heap.size]? = some (.cells (blindC n wd gp t sh) 26 (0, 0))) ⟨(Below.refl _ _).alloc (Nat.le_refl _) _, heap_alloc_new _ _⟩ ?_
  rintro W ⟨hb, h0⟩
  have H0 := Lib.hid h0
  clear h0
  go_wp2_with (first | (refine wpList_load_part rfl 26 _ rfl w.heap.size 0 5 rfl 26 (blindC n wd gp t sh) (0, 0) _ H0.out Try.underlying26 rfl info_blindL (blind_fits _ _ _ _ _) _ (blind_all _ _ _ _ _) ?_) | (go_at_call 16; refine (toBlind_any _ _ _ _ _ _).mono ?_; rintro e W1 ⟨rfl, hb1⟩; replace H0 := Lib.hid (below_row hb1 H0.out); replace hb := hb.trans (hb1.mono hb.size); clear hb1) | (go_at_call 15; refine (HS.out _).mono ?_; rintro e W1 ⟨rfl, hb1⟩; replace H0 := Lib.hid (below_row hb1 H0.out); replace hb := hb.trans (hb1.mono hb.size); clear hb1) | (go_at_call 17; refine (HI.out _).mono ?_; rintro e W1 ⟨rfl, hb1⟩; replace H0 := Lib.hid (below_row hb1 H0.out); replace hb := hb.trans (hb1.mono hb.size); clear hb1))
  go_ret
  exact ⟨rfl, hb⟩

theorem lawValidBlind_walk (n : Int) (wd gp : Nat) (t : Int) (sh : Nat) (bw : BlWf n wd gp t sh) (w : World) :
    Calls Try.prog 3 #[.agg (blindC n wd gp t sh)] w fun e w' => e = .returned (.bool true) ∧ Below w.heap.size w w' :=
  FnExactValidBlind_core _ _ _ _ _ _ (fun w => specValidBlind_any _ _ _ _ _ bw w) (fun w => ValidBlind_any _ _ _ _ _ (blwf_t bw).1 (blwf_t bw).2 w) w

set_option maxRecDepth 100000 in
theorem FnExactValidBlind_holds : Rows.FnExactValidBlindSaid :=
  OpenClaim.holds_of_wide 3 Try.f3 rfl rfl rfl rfl rfl rfl rfl ⟨rfl, rfl, rfl, rfl, rfl⟩ rfl rfl rfl rfl rfl (by kernel_rfl) Try.func3 (by kernel_rfl)
    (of_decide_eq_true (by kernel_rfl)) (by unfold Func.isWrapper; first | (rw [if_pos (by decide +kernel)]; kernel_rfl) | (rw [if_neg (by decide +kernel)]; exact ⟨rfl, rfl⟩))
    (fun os started H enc _ => law_lifted 3 Try.f3 Rows.fnExactValidBlindSpec Rows.fnExactValidBlindRow.domain os started H enc (by kernel_rfl) Try.func3 rfl rfl
      (by rw [Try.params3]; intro t ht; simp only [List.mem_cons, List.not_mem_nil, or_false] at ht; subst ht <;> exact ⟨by kernel_rfl, of_decide_eq_true (by kernel_rfl)⟩)
      (fun ds hl => by
        match ds, hl with
        | [d0], _ => rfl)
      (ChangeSpec.witness6 (enc := enc) (C := Try.checked) false ⟨#[], #[.agg #[.int .i8 0, .float .f32 0, .float .f32 0, .int .i16 0, .float .f32 0]], []⟩ 8 (by kernel_rfl) (by kernel_rfl) (by kernel_rfl) (by kernel_rfl))
      (fun W base args ds p hval hA => by
        rw [Try.params3] at hA hval
        obtain ⟨v0, vs0, d0, ds0, p0, q0, hargs, rfl, rfl, h0, r0⟩ := trodAll_cons hA
        obtain ⟨rfl, rfl, rfl⟩ := trodAll_nil r0
        obtain rfl : args = #[v0] := by cases args; simp_all
        obtain ⟨n0, wd0, gp0, t0, sh0, bw0, rfl⟩ := open_blind (hval 0 26 v0 rfl rfl) h0
        exact lawValidBlind_walk n0 wd0 gp0 t0 sh0 bw0 W))
#print axioms FnExactValidBlind_holds

end Go.Proofs.Yteagbfobnjfhcaa
