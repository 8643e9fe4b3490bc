/-
  BestMonth.
-/
import Derived.Test.YtmniodfdoidffaaDoorMy2
import Derived.Test.YtmniodfdoidffaaDoorCards
import Derived.Test.YtmniodfdoidffaaDoorTie
import Derived.SevenTiedAt

namespace Go.Proofs.YtmniodfdoidffaaDoor
open Go.ChangeShapes Go.WideShapes Go.ChangeAt Go.RowKit Go.Deep Go.Joins

theorem FnExactBestMonth_walk (n : Int) (wd gp : Nat) (t : Int) (sh : Nat) (bw : BlWf n wd gp t sh) (sv : Value) (ws : List Su) (hwf : ∀ x ∈ ws, SuWf x) (fc : Int) (w : World) (hz : SunsAt w sv ws) (hE : ErrT w) :
    Calls Tryd.prog 8 #[.agg (blindC n wd gp t sh), sv, .int .i64 fc] w fun e w' => e = .returned (.bool true) ∧ Below w.heap.size w w' := by
  obtain ⟨T0, T1⟩ := blwf_t bw
  obtain ⟨N0, N1⟩ := blwf_n bw
  by_cases hc : codeY (okBl n wd gp t sh) ws (inF fc) = 0
  · obtain ⟨hk, ha, ⟨l1, l12⟩, hf⟩ := codeY_ok hc
    have OK := blok_of bw hk
    have hok : ∀ x ∈ ws, okSu x = true := List.all_eq_true.1 ha
    rw [hf] at hc
    have HPO : Hid (∀ z ∈ ws.map (dyL wd gp t sh fc), pos32 z = true) := by
      intro z hz
      obtain ⟨x, hx, rfl⟩ := List.mem_map.1 hz
      exact dyL_pos n wd gp t sh OK fc x (hwf x hx) (hok x hx)
    have hbst : (ws.map (dyL wd gp t sh fc))[bstI (ws.map (dyL wd gp t sh fc)) ws.length]? = some ((ws.map (dyL wd gp t sh fc)).getD (bstI (ws.map (dyL wd gp t sh fc)) ws.length) 0) := by
      rw [List.getD]
      rw [List.getElem?_eq_getElem (by rw [List.length_map]; exact bstI_lt _ (by omega) _ (Nat.le_refl _))]
      rfl
    exact FnExactBestMonth_core n wd gp t sh sv ws hwf fc _ _ _ (pos_fin (HPO.out _ (List.mem_of_getElem? hbst))) w hE hz (fun w u hu => sBestMonth_yes n wd gp t sh T0 T1 N0 N1 u ws hwf bw fc true hf hc w hu) (fun w u _ hu => iBestMonth_yes n wd gp t sh T0 T1 u ws hwf bw fc true hf hc w hu)
  · generalize hcc : codeY (okBl n wd gp t sh) ws (inF fc) = c at hc
    exact FnExactBestMonth_core n wd gp t sh sv ws hwf fc 0 0 c (by decide) w hE hz (fun w u hu => sBestMonth_no n wd gp t sh T0 T1 N0 N1 u ws hwf fc _ rfl c hcc hc w hu) (fun w u hE hu => iBestMonth_no n wd gp t sh T0 T1 u ws hwf fc _ rfl c hcc hc w hE hu)

set_option maxRecDepth 100000 in
set_option maxHeartbeats 4000000 in
theorem FnExactBestMonth_row : Rows.FnExactBestMonthSaid :=
  OpenClaim.holds_of_wide 8 Tryd.f8 rfl rfl rfl rfl rfl rfl rfl ⟨rfl, rfl, rfl, rfl, rfl⟩ rfl rfl rfl rfl rfl (by as_aux_lemma => kernel_rfl) Tryd.func8 (by as_aux_lemma => kernel_rfl)
    (of_decide_eq_true (by as_aux_lemma => kernel_rfl)) (by unfold Func.isWrapper; first | (rw [if_pos (by decide +kernel)]; kernel_rfl) | (rw [if_neg (by decide +kernel)]; exact ⟨rfl, rfl⟩))
    (fun os started H enc _ => law_liftedH 8 Tryd.f8 Rows.fnExactBestMonthSpec Rows.fnExactBestMonthRow.domain os started H enc (by as_aux_lemma => kernel_rfl) Tryd.func8 rfl rfl
      (by rw [Tryd.params8]; intro t ht; simp only [List.mem_cons, List.not_mem_nil, or_false] at ht; rcases ht with rfl | rfl | rfl <;> exact ⟨by as_aux_lemma => kernel_rfl, of_decide_eq_true (by as_aux_lemma => kernel_rfl)⟩)
      (fun ds hl => by
        match ds, hl with
        | [d0, d1, d2], _ => rfl)
      (ChangeSpec.witness_at (enc := enc) (C := Tryd.checked) (os := os) (X := MetH) false (laidWorld os) #[.agg #[.int .i8 0, .float .f32 0, .float .f32 0, .int .i16 0, .float .f32 0], .slice none 0 0, .int .i64 0] 8 rfl (by as_aux_lemma => kernel_rfl) (by as_aux_lemma => kernel_rfl) (by as_aux_lemma => kernel_rfl) (by as_aux_lemma => kernel_rfl) (by as_aux_lemma => kernel_rfl) (laidWorld_met os _))
      (fun W base args ds p hval hA hL => by
        rw [Tryd.params8] at hA hval
        obtain ⟨v0, vs0, d0, ds0, p0, q0, hargs, rfl, rfl, h0, r0⟩ := trodAll_cons hA
        obtain ⟨v1, vs1, d1, ds1, p1, q1, rfl, rfl, rfl, h1, r1⟩ := trodAll_cons r0
        obtain ⟨v2, vs2, d2, ds2, p2, q2, rfl, rfl, rfl, h2, r2⟩ := trodAll_cons r1
        obtain ⟨rfl, rfl, rfl⟩ := trodAll_nil r2
        obtain rfl : args = #[v0, v1, v2] := by cases args; simp_all
        obtain ⟨n0, wd0, gp0, t0, sh0, bw0, rfl⟩ := open_blind (hval 0 54 v0 rfl rfl) h0
        obtain ⟨ls1, hl1, lw1⟩ := open_suns (hval 1 64 v1 rfl rfl) h1
        obtain ⟨a2, rfl, rfl, rfl, w2⟩ := open_int Tryd.underlying2 (hval 2 2 v2 rfl rfl) h2
        have hE := handle_of_laid hL
        exact FnExactBestMonth_walk n0 wd0 gp0 t0 sh0 bw0 v1 ls1 lw1 a2 W hl1 hE))

set_option maxRecDepth 100000 in
theorem FnExactBestMonth_holds : Rows.FnExactBestMonthCardSaid :=
  Claim7.holds_tied_plain_at .later [] [.handle] true Rows.fnExactBestMonthCard.stood.harness true
    FnExactBestMonth_row (fun _ h => by cases h) (by kernel_rfl) (fun _ h => by cases h) fnExactBestMonth_row_tie rfl ⟨rfl, rfl⟩ (by kernel_rfl) rfl
    (fun f fn hf hfn => by
      obtain rfl : f = 8 := Option.some.inj ((show Tryd.prog.funcNamed "loop.example/g01367/laws.FnExactBestMonth" = some 8 by kernel_rfl).symm.trans hf) |>.symm
      obtain rfl : fn = Tryd.f8 := (Option.some.inj (Tryd.func8.symm.trans hfn)).symm
      exact ⟨by kernel_rfl, fun j t ht => by
        rw [Tryd.params8] at ht
        have hm : t ∈ [54, 64, 2] := by
          have := Array.mem_of_getElem? ht
          simpa using this
        simp only [List.mem_cons, List.not_mem_nil, or_false] at hm
        rcases hm with rfl | rfl | rfl <;> (show Tryd.prog.wantsStandIn _ = false; kernel_rfl)⟩)
    (by kernel_rfl)
#print axioms FnExactBestMonth_holds

end Go.Proofs.YtmniodfdoidffaaDoor
