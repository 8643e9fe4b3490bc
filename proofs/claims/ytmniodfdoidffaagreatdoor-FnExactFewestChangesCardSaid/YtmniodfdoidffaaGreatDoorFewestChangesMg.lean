/-
  FewestChanges.
-/
import Derived.Test.YtmniodfdoidffaaGreatDoorMz5
import Derived.Test.YtmniodfdoidffaaGreatDoorCards
import Derived.Test.YtmniodfdoidffaaGreatDoorTie
import Derived.SevenTiedAt

namespace Go.Proofs.YtmniodfdoidffaaGreatDoor
open Go.ChangeShapes Go.WideShapes Go.ChangeAt Go.RowKit Go.Deep Go.Joins

attribute [local go_sem] run_store_f

theorem law_fw_T (T : Nat → List Int) (h : ¬ ∀ j, j < 24 → T j ≠ []) : ∃ j, j < 24 ∧ T j = [] := by
  apply Classical.byContradiction
  intro hn
  apply h
  intro j hj he
  exact hn ⟨j, hj, he⟩

theorem FnExactFewestChanges_walk (n : Int) (wd gp : Nat) (t : Int) (sh : Nat) (bw : BlWf n wd gp t sh) (hs ts : List Int) (hh : hs.length = 24) (ht : ts.length = 24) (rb : ∀ x ∈ hs ++ ts, -32768 ≤ x ∧ x ≤ 32767) (fc : Int) (lo : Nat) (wlo : (Lit.float .f32 lo).wf = true) (hi : Nat) (whi : (Lit.float .f32 hi).wf = true) (W : World) (hE : ErrT W) :
    Calls Tryz.prog 3 #[.agg (blindC n wd gp t sh), .agg (sunC hs ts), .int .i64 fc, .float .f32 lo, .float .f32 hi] W fun e w' => e = .returned (.bool true) ∧ Below W.heap.size W w' := by
  obtain ⟨T0, T1⟩ := blwf_t bw
  obtain ⟨N0, N1⟩ := blwf_n bw
  have hno : ∀ (fine : Bool), cdP true (okBl n wd gp t sh) (okB hs ts) fine ≠ 0 ∨ cdP true (okBl n wd gp t sh) (okB hs ts) fine = 0 := fun fine => (Decidable.em _).symm
  cases hf : inF fc with
  | false =>
    have hne : cdP true (okBl n wd gp t sh) (okB hs ts) false ≠ 0 := fun h => by have := (cdP_yes h).2.2.2; cases this
    exact FnExactFewestChanges_core n wd gp t sh hs ts hh ht fc lo hi zP zP_len 0 _ (fun w => sFew_F n wd gp t sh hs ts hh ht fc lo hi T0 T1 N0 N1 rb hf _ rfl hne w) (fun w hE => iFew_F n wd gp t sh hs ts hh ht fc lo hi T0 T1 hf _ rfl hne w hE) W hE
  | true =>
    cases hlo : partB lo with
    | false =>
      have hne : cdP true (okBl n wd gp t sh) (okB hs ts) false ≠ 0 := fun h => by have := (cdP_yes h).2.2.2; cases this
      exact FnExactFewestChanges_core n wd gp t sh hs ts hh ht fc lo hi zP zP_len 0 _ (fun w => sFew_T n wd gp t sh hs ts hh ht fc lo hi T0 T1 N0 N1 rb hf hlo _ rfl hne w) (fun w hE => iFew_T n wd gp t sh hs ts hh ht fc lo hi T0 T1 hf hlo _ rfl hne w hE) W hE
    | true =>
      by_cases hc : cdP true (okBl n wd gp t sh) (okB hs ts) (partB hi) = 0
      · have hhi := (cdP_yes hc).2.2.2
        rw [hhi] at hc
        obtain ⟨T, hT⟩ : ∃ T : Nat → List Int, T = (fun h : Nat => wantT (kpB hs ts fc lo hi wd gp sh (h : Int)) (tls 129)) := ⟨_, rfl⟩
        by_cases hall : ∀ j, j < 24 → T j ≠ []
        · have hsame := stF_same T (hall 0 (by decide)) 23
          obtain ⟨p, hp⟩ : ∃ p, p = (stF T [] 24).plan := ⟨_, rfl⟩
          have hp1 : ∀ k, k = 24 → (stF T [] k).plan = p := fun k hk => by rw [hk, hp]
          have hp2 : ∀ k, k = 24 → (stF T (T 0) k).plan = p := fun k hk => by rw [hk, hp]; exact congrArg StF.plan hsame.symm
          have hB : (∃ h, h < 24 ∧ T h = []) → p = zP ∧ (cntR p 24 : Int) - 1 = 0 ∧ (0 : Int) = 6 := fun ⟨h, h1, h2⟩ => absurd h2 (hall h h1)
          exact FnExactFewestChanges_core n wd gp t sh hs ts hh ht fc lo hi p (by rw [hp]; exact stF_len T [] 24) ((cntR p 24 : Int) - 1) 0 (fun w => sFew_yes n wd gp t sh hs ts hh ht fc lo hi bw T0 T1 N0 N1 rb hf hlo hhi wlo whi hc T hT p hp2 p _ 0 (fun _ => ⟨rfl, rfl, rfl⟩) hB w) (fun w hE => iFew_yes n wd gp t sh hs ts hh ht fc lo hi bw T0 T1 hf hlo hhi hc T hT p hp1 p _ 0 (fun _ => ⟨rfl, rfl, rfl⟩) hB w hE) W hE
        · have hex := law_fw_T T hall
          obtain ⟨p1, hp1⟩ : ∃ p, p = (stF T [] 24).plan := ⟨_, rfl⟩
          obtain ⟨p2, hp2⟩ : ∃ p, p = (stF T (T 0) 24).plan := ⟨_, rfl⟩
          have hA1 : (∀ h, h < 24 → T h ≠ []) → zP = p1 ∧ (0 : Int) = (cntR p1 24 : Int) - 1 ∧ (6 : Int) = 0 := fun h => absurd h hall
          have hA2 : (∀ h, h < 24 → T h ≠ []) → zP = p2 ∧ (0 : Int) = (cntR p2 24 : Int) - 1 ∧ (6 : Int) = 0 := fun h => absurd h hall
          exact FnExactFewestChanges_core n wd gp t sh hs ts hh ht fc lo hi zP zP_len 0 6 (fun w => sFew_yes n wd gp t sh hs ts hh ht fc lo hi bw T0 T1 N0 N1 rb hf hlo hhi wlo whi hc T hT p2 (fun k hk => by rw [hk, hp2]) zP 0 6 hA2 (fun _ => ⟨rfl, rfl, rfl⟩) w) (fun w hE => iFew_yes n wd gp t sh hs ts hh ht fc lo hi bw T0 T1 hf hlo hhi hc T hT p1 (fun k hk => by rw [hk, hp1]) zP 0 6 hA1 (fun _ => ⟨rfl, rfl, rfl⟩) w hE) W hE
      · exact FnExactFewestChanges_core n wd gp t sh hs ts hh ht fc lo hi zP zP_len 0 _ (fun w => sFew_TT n wd gp t sh hs ts hh ht fc lo hi T0 T1 N0 N1 rb hf hlo _ rfl _ rfl hc w) (fun w hE => iFew_TT n wd gp t sh hs ts hh ht fc lo hi T0 T1 hf hlo _ rfl _ rfl hc w hE) W hE

set_option maxRecDepth 100000 in
set_option maxHeartbeats 4000000 in
theorem FnExactFewestChanges_row : Rows.FnExactFewestChangesSaid :=
  OpenClaim.holds_of_wide 3 Tryz.f3 rfl rfl rfl rfl rfl rfl rfl ⟨rfl, rfl, rfl, rfl, rfl⟩ rfl rfl rfl rfl rfl (by as_aux_lemma => kernel_rfl) Tryz.func3 (by as_aux_lemma => kernel_rfl)
    (of_decide_eq_true (by as_aux_lemma => kernel_rfl)) (by unfold Func.isWrapper; first | (rw [if_pos (by decide +kernel)]; kernel_rfl) | (rw [if_neg (by decide +kernel)]; exact ⟨rfl, rfl⟩))
    (fun os started H enc _ => law_liftedH 3 Tryz.f3 Rows.fnExactFewestChangesSpec Rows.fnExactFewestChangesRow.domain os started H enc (by as_aux_lemma => kernel_rfl) Tryz.func3 rfl rfl
      (by rw [Tryz.params3]; intro t ht; simp only [List.mem_cons, List.not_mem_nil, or_false] at ht; rcases ht with rfl | rfl | rfl | rfl | rfl <;> exact ⟨by as_aux_lemma => kernel_rfl, of_decide_eq_true (by as_aux_lemma => kernel_rfl)⟩)
      (fun ds hl => by
        match ds, hl with
        | [d0, d1, d2, d3, d4], _ => rfl)
      (ChangeSpec.witness_at (enc := enc) (C := Tryz.checked) (os := os) (X := MetH) false (laidWorld os) #[.agg #[.int .i8 0, .float .f32 0, .float .f32 0, .int .i16 0, .float .f32 0], .agg #[.int .i16 0, .int .i16 0, .int .i16 0, .int .i16 0, .int .i16 0, .int .i16 0, .int .i16 0, .int .i16 0, .int .i16 0, .int .i16 0, .int .i16 0, .int .i16 0, .int .i16 0, .int .i16 0, .int .i16 0, .int .i16 0, .int .i16 0, .int .i16 0, .int .i16 0, .int .i16 0, .int .i16 0, .int .i16 0, .int .i16 0, .int .i16 0, .int .i16 0, .int .i16 0, .int .i16 0, .int .i16 0, .int .i16 0, .int .i16 0, .int .i16 0, .int .i16 0, .int .i16 0, .int .i16 0, .int .i16 0, .int .i16 0, .int .i16 0, .int .i16 0, .int .i16 0, .int .i16 0, .int .i16 0, .int .i16 0, .int .i16 0, .int .i16 0, .int .i16 0, .int .i16 0, .int .i16 0, .int .i16 0], .int .i64 0, .float .f32 0, .float .f32 0] 8 rfl (by as_aux_lemma => kernel_rfl) (by as_aux_lemma => kernel_rfl) (by as_aux_lemma => kernel_rfl) (by as_aux_lemma => kernel_rfl) (by as_aux_lemma => kernel_rfl) (laidWorld_met os _))
      (fun W base args ds p hval hA hL => by
        rw [Tryz.params3] at hA hval
        obtain ⟨v0, vs0, d0, ds0, p0, q0, hargs, rfl, rfl, h0, r0⟩ := trodAll_cons hA
        obtain ⟨v1, vs1, d1, ds1, p1, q1, rfl, rfl, rfl, h1, r1⟩ := trodAll_cons r0
        obtain ⟨v2, vs2, d2, ds2, p2, q2, rfl, rfl, rfl, h2, r2⟩ := trodAll_cons r1
        obtain ⟨v3, vs3, d3, ds3, p3, q3, rfl, rfl, rfl, h3, r3⟩ := trodAll_cons r2
        obtain ⟨v4, vs4, d4, ds4, p4, q4, rfl, rfl, rfl, h4, r4⟩ := trodAll_cons r3
        obtain ⟨rfl, rfl, rfl⟩ := trodAll_nil r4
        obtain rfl : args = #[v0, v1, v2, v3, v4] := by cases args; simp_all
        obtain ⟨n0, wd0, gp0, t0, sh0, bw0, rfl⟩ := open_blind (hval 0 26 v0 rfl rfl) h0
        obtain ⟨hs1, ts1, hh1, ht1, rb1, rfl⟩ := open_sun (hval 1 29 v1 rfl rfl) h1
        obtain ⟨a2, rfl, rfl, rfl, w2⟩ := open_int Tryz.underlying2 (hval 2 2 v2 rfl rfl) h2
        obtain ⟨a3, rfl, rfl, rfl, w3⟩ := open_float Tryz.underlying23 (hval 3 23 v3 rfl rfl) h3
        obtain ⟨a4, rfl, rfl, rfl, w4⟩ := open_float Tryz.underlying23 (hval 4 23 v4 rfl rfl) h4
        have hE := handle_of_laid hL
        exact FnExactFewestChanges_walk n0 wd0 gp0 t0 sh0 bw0 hs1 ts1 hh1 ht1 rb1 a2 a3 w3 a4 w4 W  hE))

set_option maxRecDepth 100000 in
theorem FnExactFewestChanges_holds : Rows.FnExactFewestChangesCardSaid :=
  Claim7.holds_tied_plain_at .later [] [.handle] true Rows.fnExactFewestChangesCard.stood.harness true
    FnExactFewestChanges_row (fun _ h => by cases h) (by kernel_rfl) (fun _ h => by cases h) fnExactFewestChanges_row_tie rfl ⟨rfl, rfl⟩ (by kernel_rfl) rfl
    (fun f fn hf hfn => by
      obtain rfl : f = 3 := Option.some.inj ((show Tryz.prog.funcNamed "loop.example/g01367/laws.FnExactFewestChanges" = some 3 by kernel_rfl).symm.trans hf) |>.symm
      obtain rfl : fn = Tryz.f3 := (Option.some.inj (Tryz.func3.symm.trans hfn)).symm
      exact ⟨by kernel_rfl, fun j t ht => by
        rw [Tryz.params3] at ht
        have hm : t ∈ [26, 29, 2, 23, 23] := by
          have := Array.mem_of_getElem? ht
          simpa using this
        simp only [List.mem_cons, List.not_mem_nil, or_false] at hm
        rcases hm with rfl | rfl | rfl | rfl | rfl <;> (show Tryz.prog.wantsStandIn _ = false; kernel_rfl)⟩)
    (by kernel_rfl)
#print axioms FnExactFewestChanges_holds

end Go.Proofs.YtmniodfdoidffaaGreatDoor
