/-
  For every list of trees, valid or not: whether they are valid is what the model says, and the list is as it was. No conditions.
-/
import Derived.Test.YtnienahjfocalabTrS
import Derived.Test.YtnienahjfocalabLeave
import Derived.Test.YtnienahjfocalabLaw
namespace Go.Proofs.Ytnienahjfocalab
open Go.ChangeShapes Go.WideShapes Go.ChangeAt Go.RowKit Go.Deep Go.Joins

attribute [local go_sem] run_store_f

set_option maxRecDepth 100000 in
theorem open_treeS {H : Type} {enc : TypeId × Value → H} {W : World} {b0 base : Nat} {spare : Nat → Bool} {held : Bool} {r : Reach} {v : Value} {d : DataW H} {p : List MemPlace}
    (hv : Value.okWide Try.prog W r b0 22 v) (h : DataW.Trod enc Try.prog W base spare held 22 v d p) : ∃ ts, TreesAt W v ts ∧ ∀ x ∈ ts, TrWf x := by
  obtain ⟨a0, len0, cap0, rfl⟩ := okWide_slice Try.underlying22 hv
  obtain ⟨fuel, hf⟩ := h
  exact open_trees hf

set_option maxRecDepth 100000 in
set_option maxHeartbeats 4000000 in
theorem lawValidTrees_walk (sv : Value) (ts : List Tr) (hwf : ∀ x ∈ ts, TrWf x) (w : World) (hts : TreesAt w sv ts) :
    Calls Try.prog 3 #[sv] w fun e w' => e = .returned (.bool true) ∧ Below w.heap.size w w' := by
  have HA := Lib.hid hts
  have HF := Lib.hid hwf
  have hsv := hts
  obtain ⟨a0, cap0, esv, hl1, hl2, _⟩ := hsv
  unfold maxLen at hl2
  have HZ := Lib.hid (fun w => szTreeS_any a0 ts.length cap0 1048576 (by omega) (by decide) (by decide) w)
  rw [← esv] at HZ
  have hlr : (leftI ts.length 1048576 < 0 ∧ 1048576 < ts.length) ∨ (0 ≤ leftI ts.length 1048576 ∧ ts.length ≤ 1048576) := by unfold leftI; split <;> omega
  clear hts esv hl1 hl2 hwf
  generalize leftI (ts.length : Int) 1048576 = lf at *
  have hb : Below w.heap.size w w := Below.refl _ _
  go_enter Try.func3, Try.ntmps3
  rcases hlr with ⟨hlf, _⟩ | ⟨hlf, hlen⟩
  · go_wp2_with (go_at_call 9; refine (HZ.out _).mono ?_; rintro e w1 ⟨rfl, rfl⟩)
    go_ret
    exact ⟨rfl, hb⟩
  · go_upto_region 6 with (first | (go_at_call 9; refine (HZ.out _).mono ?_; rintro e w1 ⟨rfl, rfl⟩) | (go_at_call 11; refine (toTreeS_any sv ts hlen _ HA.out).mono ?_; rintro e W1 ⟨⟨v0, rfl, hv⟩, hb1⟩; have HV0 := Lib.hid (ownT_at hv); clear hv; replace HA := Lib.hid (trees_below HA.out hb1); replace hb := hb.trans (hb1.mono hb.size); clear hb1) | (go_at_call 10; refine (specValidTrees_any _ ts HF.out _ HV0.out).mono ?_; rintro e W2 ⟨rfl, hb1⟩; replace HA := Lib.hid (trees_below HA.out hb1); replace hb := hb.trans (hb1.mono hb.size); clear hb1))
    clear HV0
    go_upto_region 7 with (go_at_call 11; refine (toTreeS_any sv ts hlen _ HA.out).mono ?_; rintro e W3 ⟨⟨v1, rfl, hv⟩, hb1⟩; have HV1 := Lib.hid (ownT_at hv); clear hv; replace HA := Lib.hid (trees_below HA.out hb1); replace hb := hb.trans (hb1.mono hb.size); clear hb1)
    go_upto_region 10 with (go_at_call 12; refine (implValidTrees_any _ ts HF.out _ HV1.out).mono ?_; rintro e W4 ⟨rfl, hb1⟩; replace HA := Lib.hid (trees_below HA.out hb1); replace HV1 := Lib.hid (trees_below HV1.out hb1); replace hb := hb.trans (hb1.mono hb.size); clear hb1)
    go_wp2_with (first | (go_at_call 11; refine (toTreeS_any sv ts hlen _ HA.out).mono ?_; rintro e W5 ⟨⟨v2, rfl, hv⟩, hb1⟩; have HV2 := Lib.hid (ownT_at hv); clear hv; replace HA := Lib.hid (trees_below HA.out hb1); replace HV1 := Lib.hid (trees_below HV1.out hb1); replace hb := hb.trans (hb1.mono hb.size); clear hb1) | (go_at_call 13; refine (eqTreeS_any v1 v2 ts _ HV1.out HV2.out).mono ?_; rintro e W6 ⟨rfl, hb1⟩; replace hb := hb.trans (hb1.mono hb.size); clear hb1))
    go_ret
    exact ⟨rfl, hb⟩

set_option maxRecDepth 100000 in
theorem FnExactValidTrees_holds : Rows.FnExactValidTreesSaid :=
  OpenClaim.holds_of_wide_leaving 3 Try.f3 rfl rfl rfl rfl rfl rfl rfl ⟨rfl, rfl, rfl, rfl, rfl⟩ rfl rfl rfl rfl rfl (by kernel_rfl) Try.func3 (by kernel_rfl)
    (of_decide_eq_true (by kernel_rfl)) (by unfold Func.isWrapper; first | (rw [if_pos (by decide +kernel)]; kernel_rfl) | (rw [if_neg (by decide +kernel)]; exact ⟨rfl, rfl⟩))
    (fun os started H enc _ => leaving_of_handed (law_lifted 3 Try.f3 Rows.fnExactValidTreesSpec Rows.fnExactValidTreesRow.domain os started H enc (by kernel_rfl) Try.func3 rfl rfl
      (by rw [Try.params3]; intro t ht; simp only [List.mem_cons, List.not_mem_nil, or_false] at ht; rcases ht with rfl; exact ⟨by kernel_rfl, of_decide_eq_true (by kernel_rfl)⟩)
      (fun ds hl => by
        match ds, hl with
        | [d0], _ => rfl)
      (ChangeSpec.witness6 (enc := enc) (C := Try.checked) false ⟨#[], #[.slice none 0 0], []⟩ 8 (by kernel_rfl) (by kernel_rfl) (by kernel_rfl) (by kernel_rfl))
      (fun W base args ds p hval hA => by
        rw [Try.params3] at hA hval
        obtain ⟨v0, vs0, d0, ds0, p0, q0, hargs, rfl, rfl, h0, r0⟩ := trodAll_cons hA
        obtain ⟨rfl, rfl, rfl⟩ := trodAll_nil r0
        obtain rfl : args = #[v0] := by cases args; simp_all
        obtain ⟨ts0, ht0, hf0⟩ := open_treeS (hval 0 22 v0 rfl rfl) h0
        exact lawValidTrees_walk v0 ts0 hf0 W ht0)))
#print axioms FnExactValidTrees_holds

end Go.Proofs.Ytnienahjfocalab
