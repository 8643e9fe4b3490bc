/-
  BrightestPlan.
-/
import Derived.Test.YtmniodfdoidffaaGreatDoorMz6
import Derived.Test.YtmniodfdoidffaaGreatDoorMz7
import Derived.Test.YtmniodfdoidffaaGreatDoorCards
import Derived.Test.YtmniodfdoidffaaGreatDoorTie
import Derived.SevenTiedAt

namespace Go.Proofs.YtmniodfdoidffaaGreatDoor
open Go.ChangeShapes Go.WideShapes Go.ChangeAt Go.RowKit Go.Deep Go.Joins

attribute [local go_sem] run_store_f

theorem law_bp_T (T : Nat → List Int) (h : ¬ ∀ j, j < 24 → T j ≠ []) : ∃ j, j < 24 ∧ T j = [] := by
  apply Classical.byContradiction
  intro hn
  apply h
  intro j hj he
  exact hn ⟨j, hj, he⟩

theorem FnExactBrightestPlan_walk (n : Int) (wd gp : Nat) (t : Int) (sh : Nat) (bw : BlWf n wd gp t sh) (hs ts : List Int) (hh : hs.length = 24) (ht : ts.length = 24) (rb : ∀ x ∈ hs ++ ts, -32768 ≤ x ∧ x ≤ 32767) (fc : Int) (hi : Nat) (whi : (Lit.float .f32 hi).wf = true) (W : World) (hE : ErrT W) :
    Calls Tryz.prog 4 #[.agg (blindC n wd gp t sh), .agg (sunC hs ts), .int .i64 fc, .float .f32 hi] W fun e w' => e = .returned (.bool true) ∧ Below W.heap.size W w' := by
  obtain ⟨T0, T1⟩ := blwf_t bw
  obtain ⟨N0, N1⟩ := blwf_n bw
  have hz : fin32 0 = true := by decide +kernel
  cases hf : inF fc with
  | false =>
    have hne : cdP true (okBl n wd gp t sh) (okB hs ts) false ≠ 0 := fun h => by have := (cdP_yes h).2.2.2; cases this
    exact FnExactBrightestPlan_core n wd gp t sh hs ts hh ht fc hi zP zP_len 0 hz _ (fun w => sBest_F n wd gp t sh hs ts hh ht fc hi T0 T1 N0 N1 rb hf _ rfl hne w) (fun w hE => iBest_F n wd gp t sh hs ts hh ht fc hi T0 T1 hf _ rfl hne w hE) W hE
  | true =>
    by_cases hc : cdP true (okBl n wd gp t sh) (okB hs ts) (partB hi) = 0
    · obtain ⟨_, hk, hos, hhi⟩ := cdP_yes hc
      rw [hhi] at hc
      have OK := blok_of bw hk
      have dh : ∀ k : Nat, k < 24 → HrOk hs ts (k : Int) fc := fun k hk => hrok_of hh ht hos (by omega) (by omega) hf
      obtain ⟨T, hT⟩ : ∃ T : Nat → List Int, T = (fun h : Nat => wantT (kpB hs ts fc 0 hi wd gp sh (h : Int)) (tls 129)) := ⟨_, rfl⟩
      obtain ⟨g, hgd⟩ : ∃ g : Nat → Int → Nat, g = (fun (h : Nat) (x : Int) => winB wd gp x sh hs ts (h : Int) fc) := ⟨_, rfl⟩
      have hps : ∀ k : Nat, k < 24 → pos32 (g k (bpT (g k) (T k))) = true := by
        rw [hgd]
        exact fun k hk => winB_pos wd gp _ OK.2.2.2.2.2.2.2.2 hs ts (k : Int) fc (dh k hk).x1
      obtain ⟨p, hp⟩ : ∃ p, p = bpL g T 24 := ⟨_, rfl⟩
      obtain ⟨sB, hsB⟩ : ∃ sB, sB = sumTo (fun j => g j (bpT (g j) (T j))) 24 := ⟨_, rfl⟩
      have hp1 : ∀ k, k = 24 → bpL g T k = p := fun k hk => by rw [hk, hp]
      have hs1 : ∀ k, k = 24 → sumTo (fun j => g j (bpT (g j) (T j))) k = sB := fun k hk => by rw [hk, hsB]
      by_cases hall : ∀ j, j < 24 → T j ≠ []
      · have hB : (∃ h, h < 24 ∧ T h = []) → p = zP ∧ sB = 0 ∧ (0 : Int) = 6 := fun ⟨h, h1, h2⟩ => absurd h2 (hall h h1)
        have hfin : fin32 sB = true := by rw [hsB]; exact pos_fin (sumTo_pos _ 24 hps 24 (Nat.le_refl _))
        exact FnExactBrightestPlan_core n wd gp t sh hs ts hh ht fc hi p (by rw [hp]; exact bpL_len g T (Nat.le_refl _)) sB hfin 0 (fun w => sBest_yes n wd gp t sh hs ts hh ht fc hi bw T0 T1 N0 N1 rb hf hhi whi hc T hT g hgd p hp1 sB hs1 p sB 0 (fun _ => ⟨rfl, rfl, rfl⟩) hB w) (fun w hE => iBest_yes n wd gp t sh hs ts hh ht fc hi bw T0 T1 hf hhi hc T hT g hgd p hp1 sB hs1 p sB 0 (fun _ => ⟨rfl, rfl, rfl⟩) hB w hE) W hE
      · have hex := law_bp_T T hall
        have hA : (∀ h, h < 24 → T h ≠ []) → zP = p ∧ (0 : Nat) = sB ∧ (6 : Int) = 0 := fun h => absurd h hall
        exact FnExactBrightestPlan_core n wd gp t sh hs ts hh ht fc hi zP zP_len 0 hz 6 (fun w => sBest_yes n wd gp t sh hs ts hh ht fc hi bw T0 T1 N0 N1 rb hf hhi whi hc T hT g hgd p hp1 sB hs1 zP 0 6 hA (fun _ => ⟨rfl, rfl, rfl⟩) w) (fun w hE => iBest_yes n wd gp t sh hs ts hh ht fc hi bw T0 T1 hf hhi hc T hT g hgd p hp1 sB hs1 zP 0 6 hA (fun _ => ⟨rfl, rfl, rfl⟩) w hE) W hE
    · exact FnExactBrightestPlan_core n wd gp t sh hs ts hh ht fc hi zP zP_len 0 hz _ (fun w => sBest_T n wd gp t sh hs ts hh ht fc hi T0 T1 N0 N1 rb hf _ rfl _ rfl hc w) (fun w hE => iBest_T n wd gp t sh hs ts hh ht fc hi T0 T1 hf _ rfl _ rfl hc w hE) W hE

set_option maxRecDepth 100000 in
set_option maxHeartbeats 4000000 in
theorem FnExactBrightestPlan_row : Rows.FnExactBrightestPlanSaid :=
  OpenClaim.holds_of_wide 4 Tryz.f4 rfl rfl rfl rfl rfl rfl rfl ⟨rfl, rfl, rfl, rfl, rfl⟩ rfl rfl rfl rfl rfl (by as_aux_lemma => kernel_rfl) Tryz.func4 (by as_aux_lemma => kernel_rfl)
    (of_decide_eq_true (by as_aux_lemma => kernel_rfl)) (by unfold Func.isWrapper; first | (rw [if_pos (by decide +kernel)]; kernel_rfl) | (rw [if_neg (by decide +kernel)]; exact ⟨rfl, rfl⟩))
    (fun os started H enc _ => law_liftedH 4 Tryz.f4 Rows.fnExactBrightestPlanSpec Rows.fnExactBrightestPlanRow.domain os started H enc (by as_aux_lemma => kernel_rfl) Tryz.func4 rfl rfl
      (by rw [Tryz.params4]; intro t ht; simp only [List.mem_cons, List.not_mem_nil, or_false] at ht; rcases ht with rfl | rfl | rfl | rfl <;> exact ⟨by as_aux_lemma => kernel_rfl, of_decide_eq_true (by as_aux_lemma => kernel_rfl)⟩)
      (fun ds hl => by
        match ds, hl with
        | [d0, d1, d2, d3], _ => rfl)
      (ChangeSpec.witness_at (enc := enc) (C := Tryz.checked) (os := os) (X := MetH) false (laidWorld os) #[.agg #[.int .i8 0, .float .f32 0, .float .f32 0, .int .i16 0, .float .f32 0], .agg #[.int .i16 0, .int .i16 0, .int .i16 0, .int .i16 0, .int .i16 0, .int .i16 0, .int .i16 0, .int .i16 0, .int .i16 0, .int .i16 0, .int .i16 0, .int .i16 0, .int .i16 0, .int .i16 0, .int .i16 0, .int .i16 0, .int .i16 0, .int .i16 0, .int .i16 0, .int .i16 0, .int .i16 0, .int .i16 0, .int .i16 0, .int .i16 0, .int .i16 0, .int .i16 0, .int .i16 0, .int .i16 0, .int .i16 0, .int .i16 0, .int .i16 0, .int .i16 0, .int .i16 0, .int .i16 0, .int .i16 0, .int .i16 0, .int .i16 0, .int .i16 0, .int .i16 0, .int .i16 0, .int .i16 0, .int .i16 0, .int .i16 0, .int .i16 0, .int .i16 0, .int .i16 0, .int .i16 0, .int .i16 0], .int .i64 0, .float .f32 0] 8 rfl (by as_aux_lemma => kernel_rfl) (by as_aux_lemma => kernel_rfl) (by as_aux_lemma => kernel_rfl) (by as_aux_lemma => kernel_rfl) (by as_aux_lemma => kernel_rfl) (laidWorld_met os _))
      (fun W base args ds p hval hA hL => by
        rw [Tryz.params4] at hA hval
        obtain ⟨v0, vs0, d0, ds0, p0, q0, hargs, rfl, rfl, h0, r0⟩ := trodAll_cons hA
        obtain ⟨v1, vs1, d1, ds1, p1, q1, rfl, rfl, rfl, h1, r1⟩ := trodAll_cons r0
        obtain ⟨v2, vs2, d2, ds2, p2, q2, rfl, rfl, rfl, h2, r2⟩ := trodAll_cons r1
        obtain ⟨v3, vs3, d3, ds3, p3, q3, rfl, rfl, rfl, h3, r3⟩ := trodAll_cons r2
        obtain ⟨rfl, rfl, rfl⟩ := trodAll_nil r3
        obtain rfl : args = #[v0, v1, v2, v3] := by cases args; simp_all
        obtain ⟨n0, wd0, gp0, t0, sh0, bw0, rfl⟩ := open_blind (hval 0 26 v0 rfl rfl) h0
        obtain ⟨hs1, ts1, hh1, ht1, rb1, rfl⟩ := open_sun (hval 1 29 v1 rfl rfl) h1
        obtain ⟨a2, rfl, rfl, rfl, w2⟩ := open_int Tryz.underlying2 (hval 2 2 v2 rfl rfl) h2
        obtain ⟨a3, rfl, rfl, rfl, w3⟩ := open_float Tryz.underlying23 (hval 3 23 v3 rfl rfl) h3
        have hE := handle_of_laid hL
        exact FnExactBrightestPlan_walk n0 wd0 gp0 t0 sh0 bw0 hs1 ts1 hh1 ht1 rb1 a2 a3 w3 W  hE))

set_option maxRecDepth 100000 in
theorem FnExactBrightestPlan_holds : Rows.FnExactBrightestPlanCardSaid :=
  Claim7.holds_tied_plain_at .later [] [.handle] true Rows.fnExactBrightestPlanCard.stood.harness true
    FnExactBrightestPlan_row (fun _ h => by cases h) (by kernel_rfl) (fun _ h => by cases h) fnExactBrightestPlan_row_tie rfl ⟨rfl, rfl⟩ (by kernel_rfl) rfl
    (fun f fn hf hfn => by
      obtain rfl : f = 4 := Option.some.inj ((show Tryz.prog.funcNamed "loop.example/g01367/laws.FnExactBrightestPlan" = some 4 by kernel_rfl).symm.trans hf) |>.symm
      obtain rfl : fn = Tryz.f4 := (Option.some.inj (Tryz.func4.symm.trans hfn)).symm
      exact ⟨by kernel_rfl, fun j t ht => by
        rw [Tryz.params4] at ht
        have hm : t ∈ [26, 29, 2, 23] := by
          have := Array.mem_of_getElem? ht
          simpa using this
        simp only [List.mem_cons, List.not_mem_nil, or_false] at hm
        rcases hm with rfl | rfl | rfl | rfl <;> (show Tryz.prog.wantsStandIn _ = false; kernel_rfl)⟩)
    (by kernel_rfl)
#print axioms FnExactBrightestPlan_holds

end Go.Proofs.YtmniodfdoidffaaGreatDoor
