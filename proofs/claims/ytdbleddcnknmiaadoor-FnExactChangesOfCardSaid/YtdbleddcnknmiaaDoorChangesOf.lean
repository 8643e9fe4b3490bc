/-
  ChangesOf: the law.
-/
import Derived.Test.YtdbleddcnknmiaaDoorChW
import Derived.Test.YtdbleddcnknmiaaDoorLawH
import Derived.Test.YtdbleddcnknmiaaDoorCards
import Derived.Test.YtdbleddcnknmiaaDoorTie
import Derived.SevenTiedAt
namespace Go.Proofs.YtdbleddcnknmiaaDoor
open Go.ChangeShapes Go.WideShapes Go.ChangeAt Go.RowKit Go.Deep Go.Joins

attribute [local go_sem] run_store_f

set_option maxRecDepth 100000 in
set_option maxHeartbeats 2000000 in
theorem FnExactChangesOf_core (ps : List Int) (hp : ps.length = 24) (v0 v1 : Int)
    (hspec : ∀ w, Calls Tryd.prog 7 #[.agg (i16s ps)] w fun e w' => e = .returned (.tuple #[.int .i64 v0, .int .i64 v1]) ∧ Below w.heap.size w w')
    (himpl : ∀ w, ErrT w → Calls Tryd.prog 9 #[.agg (i16s ps)] w fun e w' => e = .returned (.tuple #[.int .i64 v0, .int .i64 v1]) ∧ Below w.heap.size w w') (w : World) (hE : ErrT w) :
    Calls Tryd.prog 3 #[.agg (i16s ps)] w fun e w' => e = .returned (.bool true) ∧ Below w.heap.size w w' := by
  have HS := Lib.hid hspec
  have HI := Lib.hid himpl
  have Hp := Lib.hid hp
  have HX := Lib.hid hE
  clear hspec himpl hp hE
  go_enter Tryd.func3, Tryd.ntmps3
  go_upto_region 1 with (fail)
  refine abs_code (fun W => W.heap[w.heap.size]? = some (.cells (i16s ps) 23 (0, 0)) ∧ Below w.heap.size w W) ⟨heap_alloc_new _ _, (Below.refl _ _).alloc (Nat.le_refl _) _⟩ ?_
  rintro W ⟨h0, hb⟩
  have H0 := Lib.hid h0
  clear h0
  go_wp2_with (first | (refine wpList_load_part rfl 23 _ rfl w.heap.size 0 24 rfl 23 (i16s ps) (0, 0) _ H0.out Tryd.underlying23 rfl info_arr (by rw [i16s_size, Hp.out]; decide) (i16s ps) (i16s_all _ 24 Hp.out) ?_) | (go_at_call 8; refine (toPlan_any ps Hp.out _).mono ?_; rintro e W1 ⟨rfl, hb1⟩; replace H0 := Lib.hid (below_row hb1 H0.out); replace hb := hb.trans (hb1.mono hb.size); clear hb1) | (go_at_call 7; refine (HS.out _).mono ?_; rintro e W1 ⟨rfl, hb1⟩; replace H0 := Lib.hid (below_row hb1 H0.out); replace hb := hb.trans (hb1.mono hb.size); clear hb1) | (go_at_call 9; refine (HI.out _ (errT_below HX.out hb)).mono ?_; rintro e W1 ⟨rfl, hb1⟩; replace H0 := Lib.hid (below_row hb1 H0.out); replace hb := hb.trans (hb1.mono hb.size); clear hb1))
  go_ret
  exact ⟨rfl, hb⟩

theorem lawChangesOf_walk (ps : List Int) (hp : ps.length = 24) (pb : ∀ x ∈ ps, -32768 ≤ x ∧ x ≤ 32767) (W : World) (hE : ErrT W) :
    Calls Tryd.prog 3 #[.agg (i16s ps)] W fun e w' => e = .returned (.bool true) ∧ Below W.heap.size W w' := by
  cases ho : okP ps with
  | true => exact FnExactChangesOf_core ps hp _ _ (fun w => sChangesOf_ok ps hp pb ho w) (fun w _ => iChangesOf_ok ps hp ho w) W hE
  | false => exact FnExactChangesOf_core ps hp _ _ (fun w => sChangesOf_no ps hp pb ho w) (fun w h => iChangesOf_no ps hp ho w h) W hE

set_option maxRecDepth 100000 in
set_option maxHeartbeats 4000000 in
theorem FnExactChangesOf_row : Rows.FnExactChangesOfSaid :=
  OpenClaim.holds_of_wide 3 Tryd.f3 rfl rfl rfl rfl rfl rfl rfl ⟨rfl, rfl, rfl, rfl, rfl⟩ rfl rfl rfl rfl rfl (by as_aux_lemma => kernel_rfl) Tryd.func3 (by as_aux_lemma => kernel_rfl)
    (of_decide_eq_true (by as_aux_lemma => kernel_rfl)) (by unfold Func.isWrapper; first | (rw [if_pos (by decide +kernel)]; kernel_rfl) | (rw [if_neg (by decide +kernel)]; exact ⟨rfl, rfl⟩))
    (fun os started H enc _ => law_liftedH 3 Tryd.f3 Rows.fnExactChangesOfSpec Rows.fnExactChangesOfRow.domain os started H enc (by as_aux_lemma => kernel_rfl) Tryd.func3 rfl rfl
      (by rw [Tryd.params3]; intro t ht; simp only [List.mem_cons, List.not_mem_nil, or_false] at ht; subst ht <;> exact ⟨by as_aux_lemma => kernel_rfl, of_decide_eq_true (by as_aux_lemma => kernel_rfl)⟩)
      (fun ds hl => by
        match ds, hl with
        | [d0], _ => rfl)
      (ChangeSpec.witness_at (enc := enc) (C := Tryd.checked) (os := os) (X := MetH) false (laidWorld os) #[.agg #[.int .i16 0, .int .i16 0, .int .i16 0, .int .i16 0, .int .i16 0, .int .i16 0, .int .i16 0, .int .i16 0, .int .i16 0, .int .i16 0, .int .i16 0, .int .i16 0, .int .i16 0, .int .i16 0, .int .i16 0, .int .i16 0, .int .i16 0, .int .i16 0, .int .i16 0, .int .i16 0, .int .i16 0, .int .i16 0, .int .i16 0, .int .i16 0]] 8 rfl (by as_aux_lemma => kernel_rfl) (by as_aux_lemma => kernel_rfl) (by as_aux_lemma => kernel_rfl) (by as_aux_lemma => kernel_rfl) (by as_aux_lemma => kernel_rfl) (laidWorld_met os _))
      (fun W base args ds p hval hA hL => by
        rw [Tryd.params3] at hA hval
        obtain ⟨v0, vs0, d0, ds0, p0, q0, hargs, rfl, rfl, h0, r0⟩ := trodAll_cons hA
        obtain ⟨rfl, rfl, rfl⟩ := trodAll_nil r0
        obtain rfl : args = #[v0] := by cases args; simp_all
        obtain ⟨ps0, hp0, pb0, rfl⟩ := open_plan (hval 0 23 v0 rfl rfl) h0
        have hE := handle_of_laid hL
        exact lawChangesOf_walk ps0 hp0 pb0 W  hE))

set_option maxRecDepth 100000 in
theorem FnExactChangesOf_holds : Rows.FnExactChangesOfCardSaid :=
  Claim7.holds_tied_plain_at .later [] [.handle] true Rows.fnExactChangesOfCard.stood.harness true
    FnExactChangesOf_row (fun _ h => by cases h) (by kernel_rfl) (fun _ h => by cases h) fnExactChangesOf_row_tie rfl ⟨rfl, rfl⟩ (by kernel_rfl) rfl
    (fun f fn hf hfn => by
      obtain rfl : f = 3 := Option.some.inj ((show Tryd.prog.funcNamed "loop.example/g01367/laws.FnExactChangesOf" = some 3 by kernel_rfl).symm.trans hf) |>.symm
      obtain rfl : fn = Tryd.f3 := (Option.some.inj (Tryd.func3.symm.trans hfn)).symm
      exact ⟨by kernel_rfl, fun j t ht => by
        rw [Tryd.params3] at ht
        have hm : t ∈ [23] := by
          have := Array.mem_of_getElem? ht
          simpa using this
        simp only [List.mem_cons, List.not_mem_nil, or_false] at hm
        subst hm <;> (show Tryd.prog.wantsStandIn _ = false; kernel_rfl)⟩)
    (by kernel_rfl)
#print axioms FnExactChangesOf_holds

end Go.Proofs.YtdbleddcnknmiaaDoor
