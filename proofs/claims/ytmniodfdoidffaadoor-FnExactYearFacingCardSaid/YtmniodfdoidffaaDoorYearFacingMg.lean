/-
  YearFacing.
-/
import Derived.Test.YtmniodfdoidffaaDoorMy3
import Derived.Test.YtmniodfdoidffaaDoorMy2
import Derived.Test.YtmniodfdoidffaaDoorCards
import Derived.Test.YtmniodfdoidffaaDoorTie
import Derived.SevenTiedAt

namespace Go.Proofs.YtmniodfdoidffaaDoor
open Go.ChangeShapes Go.WideShapes Go.ChangeAt Go.RowKit Go.Deep Go.Joins

theorem FnExactYearFacing_walk (n : Int) (wd gp : Nat) (t : Int) (sh : Nat) (bw : BlWf n wd gp t sh) (sv : Value) (ws : List Su) (hwf : ∀ x ∈ ws, SuWf x) (fc : Int) (w : World) (hz : SunsAt w sv ws) (hE : ErrT w) :
    Calls Tryd.prog 9 #[.agg (blindC n wd gp t sh), sv, .int .i64 fc] w fun e w' => e = .returned (.bool true) ∧ Below w.heap.size w w' := by
  obtain ⟨T0, T1⟩ := blwf_t bw
  obtain ⟨N0, N1⟩ := blwf_n bw
  by_cases hc : codeY (okBl n wd gp t sh) ws (inI 8 255 fc) = 0
  · obtain ⟨hk, ha, ⟨l1, l12⟩, hf⟩ := codeY_ok hc
    have OK := blok_of bw hk
    have hok : ∀ x ∈ ws, okSu x = true := List.all_eq_true.1 ha
    rw [hf] at hc
    have hfi := inI_get hf
    obtain ⟨st, rfl⟩ : ∃ st : Nat, fc = (st : Int) := ⟨fc.toNat, by omega⟩
    have h8 : 8 ≤ st := by omega
    have hbl := bstI_lt (gYr wd gp t sh ws st) (n := 255 / st + 1) (Nat.succ_pos _) (255 / st + 1) (Nat.le_refl _)
    have hv : fin32 ((gYr wd gp t sh ws st).getD (bstI (gYr wd gp t sh ws st) (255 / st + 1)) 0) = true := by
      rw [getD_at (gYr_get wd gp t sh ws st hbl)]
      refine pos_fin (sumL_pos (fun z hz => ?_) (by rw [List.length_map]; exact Nat.le_refl _))
      obtain ⟨x, hx, rfl⟩ := List.mem_map.1 hz
      exact dyL_pos n wd gp t sh OK _ x (hwf x hx) (hok x hx)
    exact FnExactYearFacing_core n wd gp t sh sv ws hwf (st : Int) _ _ _ hv w hE hz (fun w u hu => sYearFacing_yes n wd gp t sh T0 T1 N0 N1 u ws hwf bw st h8 (by omega) hc w hu) (fun w u _ hu => iYearFacing_yes n wd gp t sh T0 T1 u ws hwf bw st h8 (by omega) hc w hu)
  · generalize hcc : codeY (okBl n wd gp t sh) ws (inI 8 255 fc) = c at hc
    exact FnExactYearFacing_core n wd gp t sh sv ws hwf fc 0 0 c (by decide) w hE hz (fun w u hu => sYearFacing_no n wd gp t sh T0 T1 N0 N1 u ws hwf fc _ rfl c hcc hc w hu) (fun w u hE hu => iYearFacing_no n wd gp t sh T0 T1 u ws hwf fc _ rfl c hcc hc w hE hu)

set_option maxRecDepth 100000 in
set_option maxHeartbeats 4000000 in
theorem FnExactYearFacing_row : Rows.FnExactYearFacingSaid :=
  OpenClaim.holds_of_wide 9 Tryd.f9 rfl rfl rfl rfl rfl rfl rfl ⟨rfl, rfl, rfl, rfl, rfl⟩ rfl rfl rfl rfl rfl (by as_aux_lemma => kernel_rfl) Tryd.func9 (by as_aux_lemma => kernel_rfl)
    (of_decide_eq_true (by as_aux_lemma => kernel_rfl)) (by unfold Func.isWrapper; first | (rw [if_pos (by decide +kernel)]; kernel_rfl) | (rw [if_neg (by decide +kernel)]; exact ⟨rfl, rfl⟩))
    (fun os started H enc _ => law_liftedH 9 Tryd.f9 Rows.fnExactYearFacingSpec Rows.fnExactYearFacingRow.domain os started H enc (by as_aux_lemma => kernel_rfl) Tryd.func9 rfl rfl
      (by rw [Tryd.params9]; intro t ht; simp only [List.mem_cons, List.not_mem_nil, or_false] at ht; rcases ht with rfl | rfl | rfl <;> exact ⟨by as_aux_lemma => kernel_rfl, of_decide_eq_true (by as_aux_lemma => kernel_rfl)⟩)
      (fun ds hl => by
        match ds, hl with
        | [d0, d1, d2], _ => rfl)
      (ChangeSpec.witness_at (enc := enc) (C := Tryd.checked) (os := os) (X := MetH) false (laidWorld os) #[.agg #[.int .i8 0, .float .f32 0, .float .f32 0, .int .i16 0, .float .f32 0], .slice none 0 0, .int .i64 0] 8 rfl (by as_aux_lemma => kernel_rfl) (by as_aux_lemma => kernel_rfl) (by as_aux_lemma => kernel_rfl) (by as_aux_lemma => kernel_rfl) (by as_aux_lemma => kernel_rfl) (laidWorld_met os _))
      (fun W base args ds p hval hA hL => by
        rw [Tryd.params9] at hA hval
        obtain ⟨v0, vs0, d0, ds0, p0, q0, hargs, rfl, rfl, h0, r0⟩ := trodAll_cons hA
        obtain ⟨v1, vs1, d1, ds1, p1, q1, rfl, rfl, rfl, h1, r1⟩ := trodAll_cons r0
        obtain ⟨v2, vs2, d2, ds2, p2, q2, rfl, rfl, rfl, h2, r2⟩ := trodAll_cons r1
        obtain ⟨rfl, rfl, rfl⟩ := trodAll_nil r2
        obtain rfl : args = #[v0, v1, v2] := by cases args; simp_all
        obtain ⟨n0, wd0, gp0, t0, sh0, bw0, rfl⟩ := open_blind (hval 0 54 v0 rfl rfl) h0
        obtain ⟨ls1, hl1, lw1⟩ := open_suns (hval 1 64 v1 rfl rfl) h1
        obtain ⟨a2, rfl, rfl, rfl, w2⟩ := open_int Tryd.underlying2 (hval 2 2 v2 rfl rfl) h2
        have hE := handle_of_laid hL
        exact FnExactYearFacing_walk n0 wd0 gp0 t0 sh0 bw0 v1 ls1 lw1 a2 W hl1 hE))

set_option maxRecDepth 100000 in
theorem FnExactYearFacing_holds : Rows.FnExactYearFacingCardSaid :=
  Claim7.holds_tied_plain_at .later [] [.handle] true Rows.fnExactYearFacingCard.stood.harness true
    FnExactYearFacing_row (fun _ h => by cases h) (by kernel_rfl) (fun _ h => by cases h) fnExactYearFacing_row_tie rfl ⟨rfl, rfl⟩ (by kernel_rfl) rfl
    (fun f fn hf hfn => by
      obtain rfl : f = 9 := Option.some.inj ((show Tryd.prog.funcNamed "loop.example/g01367/laws.FnExactYearFacing" = some 9 by kernel_rfl).symm.trans hf) |>.symm
      obtain rfl : fn = Tryd.f9 := (Option.some.inj (Tryd.func9.symm.trans hfn)).symm
      exact ⟨by kernel_rfl, fun j t ht => by
        rw [Tryd.params9] at ht
        have hm : t ∈ [54, 64, 2] := by
          have := Array.mem_of_getElem? ht
          simpa using this
        simp only [List.mem_cons, List.not_mem_nil, or_false] at hm
        rcases hm with rfl | rfl | rfl <;> (show Tryd.prog.wantsStandIn _ = false; kernel_rfl)⟩)
    (by kernel_rfl)
#print axioms FnExactYearFacing_holds

end Go.Proofs.YtmniodfdoidffaaDoor
