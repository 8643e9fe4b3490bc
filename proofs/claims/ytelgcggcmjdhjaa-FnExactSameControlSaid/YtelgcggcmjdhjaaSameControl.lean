/-
  For every two controls: whether they are the same is what the model says. No conditions.
-/
import Derived.Test.YtelgcggcmjdhjaaSameF
import Derived.Test.YtelgcggcmjdhjaaCtOk
import Derived.Test.YtelgcggcmjdhjaaBox
import Derived.Test.YtelgcggcmjdhjaaTake
namespace Go.Proofs.Ytelgcggcmjdhjaa
open Go.ChangeShapes Go.WideShapes Go.ChangeAt Go.RowKit Go.Deep Go.Joins

attribute [local go_sem] run_store_f

/-- Whether two controls are the same. -/
def sameCt (lo hi wi : Nat) (st de ca : Int) (lo' hi' wi' : Nat) (st' de' ca' : Int) : Bool := sameB lo lo' && sameB hi hi' && sameB wi wi' && (st == st') && (de == de') && (ca == ca')
set_option maxRecDepth 100000 in
set_option maxHeartbeats 1000000 in
theorem implSameControl_any (lo hi wi : Nat) (st de ca : Int) (lo' hi' wi' : Nat) (st' de' ca' : Int) (w : World) :
    Calls Try.prog 25 #[.agg (ctC lo hi wi st de ca), .agg (ctC lo' hi' wi' st' de' ca')] w fun e w' => e = .returned (.bool (sameCt lo hi wi st de ca lo' hi' wi' st' de' ca')) ∧ Below w.heap.size w w' := by
  go_enter Try.func25, Try.ntmps25
  go_upto_region 1 with (fail)
  refine abs_world (fun W => W.heap[w.heap.size]? = some (.cells (ctC lo hi wi st de ca) 27 (0, 0)) ∧ W.heap[w.heap.size + 1]? = some (.cells (ctC lo' hi' wi' st' de' ca') 27 (0, 0)) ∧ Below w.heap.size w W) (box2 w (.cells (ctC lo hi wi st de ca) 27) (.cells (ctC lo' hi' wi' st' de' ca') 27)) ?_
  rintro W ⟨h0, h1, hb⟩
  generalize w.heap.size + 1 = b1 at *
  have H0 := Lib.hid h0
  have H1 := Lib.hid h1
  clear h0 h1
  obtain ⟨c0, c1, c2, c3, c4, c5⟩ := ct_cells H0.out
  obtain ⟨k0, k1, k2, k3, k4, k5⟩ := ct_cells H1.out
  go_wp2_with (go_at_call 60; refine (SameNumber_is _ _ _).mono ?_; rintro e w' ⟨rfl, rfl⟩)
  all_goals
    go_ret
    refine ⟨ret_bool5 ?_, hb⟩
    first | (simp only [sameCt, Bool.and_assoc]; done) | (simp_all [sameCt]; done)

set_option maxRecDepth 100000 in
set_option maxHeartbeats 1000000 in
theorem specSameControl_any (lo hi wi : Nat) (st de ca : Int) (lo' hi' wi' : Nat) (st' de' ca' : Int) (w : World) :
    Calls Try.prog 24 #[.agg (ctC lo hi wi st de ca), .agg (ctC lo' hi' wi' st' de' ca')] w fun e w' => e = .returned (.bool (sameCt lo hi wi st de ca lo' hi' wi' st' de' ca')) ∧ Below w.heap.size w w' := by
  go_enter Try.func24, Try.ntmps24
  go_upto_region 1 with (fail)
  refine abs_world (fun W => W.heap[w.heap.size]? = some (.cells (ctC lo hi wi st de ca) 27 (0, 0)) ∧ W.heap[w.heap.size + 1]? = some (.cells (ctC lo' hi' wi' st' de' ca') 27 (0, 0)) ∧ Below w.heap.size w W) (box2 w (.cells (ctC lo hi wi st de ca) 27) (.cells (ctC lo' hi' wi' st' de' ca') 27)) ?_
  rintro W ⟨h0, h1, hb⟩
  generalize w.heap.size + 1 = b1 at *
  have H0 := Lib.hid h0
  have H1 := Lib.hid h1
  clear h0 h1
  obtain ⟨c0, c1, c2, c3, c4, c5⟩ := ct_cells H0.out
  obtain ⟨k0, k1, k2, k3, k4, k5⟩ := ct_cells H1.out
  go_wp2_with (go_at_call 59; refine (l01Same_is _ _ _).mono ?_; rintro e w' ⟨rfl, rfl⟩)
  all_goals
    go_ret
    refine ⟨ret_bool5 ?_, hb⟩
    first | (simp only [sameCt, Bool.and_assoc]; done) | (simp_all [sameCt]; done)

set_option maxRecDepth 100000 in
set_option maxHeartbeats 1000000 in
theorem FnExactSameControl_core (alo ahi awi : Nat) (ast ade aca : Int) (blo bhi bwi : Nat) (bst bde bca : Int) (v0 : Bool) 
    (hspec : ∀ w, Calls Try.prog 24 #[.agg (ctC alo ahi awi ast ade aca), .agg (ctC blo bhi bwi bst bde bca)] w fun e w' => e = .returned (.bool v0) ∧ Below w.heap.size w w')
    (himpl : ∀ w, Calls Try.prog 25 #[.agg (ctC alo ahi awi ast ade aca), .agg (ctC blo bhi bwi bst bde bca)] w fun e w' => e = .returned (.bool v0) ∧ Below w.heap.size w w') (w : World) :
    Calls Try.prog 6 #[.agg (ctC alo ahi awi ast ade aca), .agg (ctC blo bhi bwi bst bde bca)] w fun e w' => e = .returned (.bool true) ∧ Below w.heap.size w w' := by
  have HS := Lib.hid hspec
  have HI := Lib.hid himpl
  clear hspec himpl
  go_enter Try.func6, Try.ntmps6
  go_upto_region 1 with (fail)
  refine abs_world (fun W => W.heap[w.heap.size]? = some (.cells (ctC alo ahi awi ast ade aca) 25 (0, 0)) ∧ W.heap[w.heap.size + 1]? = some (.cells (ctC blo bhi bwi bst bde bca) 25 (0, 0)) ∧ Below w.heap.size w W) (box2 w (.cells (ctC alo ahi awi ast ade aca) 25) (.cells (ctC blo bhi bwi bst bde bca) 25)) ?_
  rintro W ⟨h0, h1, hb⟩
  generalize w.heap.size + 1 = b1 at *
  have H0 := Lib.hid h0
  have H1 := Lib.hid h1
  clear h0 h1
  refine wp_region_held_drew (S := (fun V => Below W.heap.size W V)) (by kernel_rfl) (Below.refl _ _).drew (fun hHeld => ?_)
  refine take_op (i := 0) (d := 7) (v := .agg (ctC alo ahi awi ast ade aca)) rfl rfl (by kernel_rfl) (by kernel_rfl) (by kernel_rfl) (fun _ _ _ h => h) (yields_row (by rfl) 25 (.tmp 2) (by rfl) w.heap.size 0 6 (by rfl) 25 (ctC alo ahi awi ast ade aca) (0, 0) _ (fun _ h => below_row h H0.out) Try.underlying25 rfl info_ctL (ct_fits _ _ _ _ _ _) (ctC alo ahi awi ast ade aca) (ct_all _ _ _ _ _ _)) hHeld ?_
  simp only [List.setIfInBounds_toArray, List.set_cons_zero, List.set_cons_succ]
  refine take_op (i := 2) (d := 9) (v := .agg (ctC blo bhi bwi bst bde bca)) rfl rfl (by kernel_rfl) (by kernel_rfl) (by kernel_rfl) (fun _ _ _ h => h) (yields_row (by rfl) 25 (.tmp 3) (by rfl) b1 0 6 (by rfl) 25 (ctC blo bhi bwi bst bde bca) (0, 0) _ (fun _ h => below_row h H1.out) Try.underlying25 rfl info_ctL (ct_fits _ _ _ _ _ _) (ctC blo bhi bwi bst bde bca) (ct_all _ _ _ _ _ _)) hHeld ?_
  simp only [List.setIfInBounds_toArray, List.set_cons_zero, List.set_cons_succ]
  refine wpAnyH_ready (rs := [1]) (by kernel_rfl) (by simp) ?_
  refine AllReadyH.cons rfl (fun K hK => ?_) AllReadyH.nil
  go_simp
  refine (toControl_any _ _ _ _ _ _ _).mono ?_
  rintro e W1 ⟨rfl, hb1⟩
  refine hK.out _ _ (hHeld.trans (hb1.mono hHeld.size)) (fun hHeld2 => ?_)
  clear hK K
  replace hHeld := hHeld2
  clear hHeld2
  clear hb1
  refine wpAnyH_ready (rs := [3]) (by kernel_rfl) (by simp) ?_
  refine AllReadyH.cons rfl (fun K hK => ?_) AllReadyH.nil
  go_simp
  refine (toControl_any _ _ _ _ _ _ _).mono ?_
  rintro e W2 ⟨rfl, hb2⟩
  refine hK.out _ _ (hHeld.trans (hb2.mono hHeld.size)) (fun hHeld2 => ?_)
  clear hK K
  replace hHeld := hHeld2
  clear hHeld2
  clear hb2
  refine wpAnyH_ready (rs := [4]) (by kernel_rfl) (by simp) ?_
  refine AllReadyH.cons rfl (fun K hK => ?_) AllReadyH.nil
  go_simp
  refine (HS.out _).mono ?_
  rintro e W3 ⟨rfl, hb3⟩
  refine hK.out _ _ (hHeld.trans (hb3.mono hHeld.size)) (fun hHeld2 => ?_)
  clear hK K
  replace hHeld := hHeld2
  clear hHeld2
  clear hb3
  refine take_op (i := 5) (d := 5) (v := ?_) rfl rfl (by kernel_rfl) (by kernel_rfl) (by kernel_rfl) (fun _ _ _ h => h) (Or.inl ⟨by rfl, ?hy5u1⟩) hHeld ?rest5u1
  case hy5u1 =>
    intro w' hS'
    go_simp
    try with_reducible rfl
  simp only [List.setIfInBounds_toArray, List.set_cons_zero, List.set_cons_succ]
  refine wpAnyH_done (by kernel_rfl) ?_ _
  replace H0 := Lib.hid (below_row hHeld H0.out)
  replace H1 := Lib.hid (below_row hHeld H1.out)
  replace hb := hb.trans (hHeld.mono hb.size)
  clear hHeld
  go_upto_region 2 with (fail)
  refine wp_region_held_drew (S := (fun V => Below W3.heap.size W3 V)) (by kernel_rfl) (Below.refl _ _).drew (fun hHeld => ?_)
  refine take_op (i := 0) (d := 12) (v := .agg (ctC alo ahi awi ast ade aca)) rfl rfl (by kernel_rfl) (by kernel_rfl) (by kernel_rfl) (fun _ _ _ h => h) (yields_row (by rfl) 25 (.tmp 2) (by rfl) w.heap.size 0 6 (by rfl) 25 (ctC alo ahi awi ast ade aca) (0, 0) _ (fun _ h => below_row h H0.out) Try.underlying25 rfl info_ctL (ct_fits _ _ _ _ _ _) (ctC alo ahi awi ast ade aca) (ct_all _ _ _ _ _ _)) hHeld ?_
  simp only [List.setIfInBounds_toArray, List.set_cons_zero, List.set_cons_succ]
  refine take_op (i := 2) (d := 14) (v := .agg (ctC blo bhi bwi bst bde bca)) rfl rfl (by kernel_rfl) (by kernel_rfl) (by kernel_rfl) (fun _ _ _ h => h) (yields_row (by rfl) 25 (.tmp 3) (by rfl) b1 0 6 (by rfl) 25 (ctC blo bhi bwi bst bde bca) (0, 0) _ (fun _ h => below_row h H1.out) Try.underlying25 rfl info_ctL (ct_fits _ _ _ _ _ _) (ctC blo bhi bwi bst bde bca) (ct_all _ _ _ _ _ _)) hHeld ?_
  simp only [List.setIfInBounds_toArray, List.set_cons_zero, List.set_cons_succ]
  refine wpAnyH_ready (rs := [1]) (by kernel_rfl) (by simp) ?_
  refine AllReadyH.cons rfl (fun K hK => ?_) AllReadyH.nil
  go_simp
  refine (toControl_any _ _ _ _ _ _ _).mono ?_
  rintro e W4 ⟨rfl, hb4⟩
  refine hK.out _ _ (hHeld.trans (hb4.mono hHeld.size)) (fun hHeld2 => ?_)
  clear hK K
  replace hHeld := hHeld2
  clear hHeld2
  clear hb4
  refine wpAnyH_ready (rs := [3]) (by kernel_rfl) (by simp) ?_
  refine AllReadyH.cons rfl (fun K hK => ?_) AllReadyH.nil
  go_simp
  refine (toControl_any _ _ _ _ _ _ _).mono ?_
  rintro e W5 ⟨rfl, hb5⟩
  refine hK.out _ _ (hHeld.trans (hb5.mono hHeld.size)) (fun hHeld2 => ?_)
  clear hK K
  replace hHeld := hHeld2
  clear hHeld2
  clear hb5
  refine wpAnyH_ready (rs := [4]) (by kernel_rfl) (by simp) ?_
  refine AllReadyH.cons rfl (fun K hK => ?_) AllReadyH.nil
  go_simp
  refine (HI.out _).mono ?_
  rintro e W6 ⟨rfl, hb6⟩
  refine hK.out _ _ (hHeld.trans (hb6.mono hHeld.size)) (fun hHeld2 => ?_)
  clear hK K
  replace hHeld := hHeld2
  clear hHeld2
  clear hb6
  refine take_op (i := 5) (d := 6) (v := ?_) rfl rfl (by kernel_rfl) (by kernel_rfl) (by kernel_rfl) (fun _ _ _ h => h) (Or.inl ⟨by rfl, ?hy5u2⟩) hHeld ?rest5u2
  case hy5u2 =>
    intro w' hS'
    go_simp
    try with_reducible rfl
  simp only [List.setIfInBounds_toArray, List.set_cons_zero, List.set_cons_succ]
  refine wpAnyH_done (by kernel_rfl) ?_ _
  replace H0 := Lib.hid (below_row hHeld H0.out)
  replace H1 := Lib.hid (below_row hHeld H1.out)
  replace hb := hb.trans (hHeld.mono hb.size)
  clear hHeld
  go_wp2_with (fail)
  go_ret
  exact ⟨rfl, hb⟩

theorem lawSameControl_walk (alo ahi awi : Nat) (ast ade aca : Int) (_ : CtWf alo ahi awi ast ade aca) (blo bhi bwi : Nat) (bst bde bca : Int) (_ : CtWf blo bhi bwi bst bde bca) (w : World) :
    Calls Try.prog 6 #[.agg (ctC alo ahi awi ast ade aca), .agg (ctC blo bhi bwi bst bde bca)] w fun e w' => e = .returned (.bool true) ∧ Below w.heap.size w w' :=
  FnExactSameControl_core alo ahi awi ast ade aca blo bhi bwi bst bde bca _ (fun w => specSameControl_any alo ahi awi ast ade aca blo bhi bwi bst bde bca w) (fun w => implSameControl_any alo ahi awi ast ade aca blo bhi bwi bst bde bca w) w

set_option maxRecDepth 100000 in
theorem FnExactSameControl_holds : Rows.FnExactSameControlSaid :=
  OpenClaim.holds_of_wide 6 Try.f6 rfl rfl rfl rfl rfl rfl rfl ⟨rfl, rfl, rfl, rfl, rfl⟩ rfl rfl rfl rfl rfl (by kernel_rfl) Try.func6 (by kernel_rfl)
    (of_decide_eq_true (by kernel_rfl)) (by unfold Func.isWrapper; first | (rw [if_pos (by decide +kernel)]; kernel_rfl) | (rw [if_neg (by decide +kernel)]; exact ⟨rfl, rfl⟩))
    (fun os started H enc _ => law_lifted 6 Try.f6 Rows.fnExactSameControlSpec Rows.fnExactSameControlRow.domain os started H enc (by kernel_rfl) Try.func6 rfl rfl
      (by rw [Try.params6]; intro t ht; simp only [List.mem_cons, List.not_mem_nil, or_false] at ht; rcases ht with rfl | rfl <;> exact ⟨by kernel_rfl, of_decide_eq_true (by kernel_rfl)⟩)
      (fun ds hl => by
        match ds, hl with
        | [d0, d1], _ => rfl)
      (ChangeSpec.witness6 (enc := enc) (C := Try.checked) false ⟨#[], #[.agg #[.float .f32 0, .float .f32 0, .float .f32 0, .int .i8 0, .int .i8 0, .int .i8 0], .agg #[.float .f32 0, .float .f32 0, .float .f32 0, .int .i8 0, .int .i8 0, .int .i8 0]], []⟩ 8 (by kernel_rfl) (by kernel_rfl) (by kernel_rfl) (by kernel_rfl))
      (fun W base args ds p hval hA => by
        rw [Try.params6] at hA hval
        obtain ⟨v0, vs0, d0, ds0, p0, q0, hargs, rfl, rfl, h0, r0⟩ := trodAll_cons hA
        obtain ⟨v1, vs1, d1, ds1, p1, q1, rfl, rfl, rfl, h1, r1⟩ := trodAll_cons r0
        obtain ⟨rfl, rfl, rfl⟩ := trodAll_nil r1
        obtain rfl : args = #[v0, v1] := by cases args; simp_all
        obtain ⟨clo0, chi0, cwi0, cst0, cde0, cca0, cwf0, rfl⟩ := open_ct (hval 0 25 v0 rfl rfl) h0
        obtain ⟨clo1, chi1, cwi1, cst1, cde1, cca1, cwf1, rfl⟩ := open_ct (hval 1 25 v1 rfl rfl) h1
        exact lawSameControl_walk clo0 chi0 cwi0 cst0 cde0 cca0 cwf0 clo1 chi1 cwi1 cst1 cde1 cca1 cwf1 W ))
#print axioms FnExactSameControl_holds

end Go.Proofs.Ytelgcggcmjdhjaa
