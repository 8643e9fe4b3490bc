/-
  For every person, valid or not: whether it is valid is what the model says. No conditions.
-/
import Derived.Test.YtkmjapdikhckeaaPersonA
import Derived.Test.YtkmjapdikhckeaaPlainN
import Derived.Test.YtkmjapdikhckeaaLaw
namespace Go.Proofs.Ytkmjapdikhckeaa
open Go.ChangeShapes Go.WideShapes Go.ChangeAt Go.RowKit Go.Deep Go.Joins

def okPe (l m g : Nat) : Bool := plainB l && plainB m && plainB g && le0 (FloatKind.f32.format.order l m)

set_option maxRecDepth 100000 in
set_option maxHeartbeats 1000000 in
theorem implValidPerson_any (l m g : Nat) (w : World) :
    Calls Try.prog 15 #[.agg (persC l m g)] w fun e w' => e = .returned (.bool (okPe l m g)) ∧ Below w.heap.size w w' := by
  unfold persC okPe
  rcases h0 : FloatKind.f32.format.order l m with _ | (_ | _ | _)
  all_goals
    cases hl : plainB l <;> cases hm : plainB m <;> cases hg : plainB g
    all_goals
      go_enter Try.func15, Try.ntmps15
      go_wp2_with (go_at_call 27; refine (isPlain_any _ _).mono ?_; rw [‹plainB _ = _›]; rintro e w' ⟨rfl, rfl⟩)
      go_ret
      exact ⟨rfl, by repeat' first | exact Below.refl _ _ | assumption | refine Below.alloc ?_ (by first | omega | (simp; done) | (simp; omega)) _ | refine Below.setCell ?_ (by first | omega | (simp; done) | (simp; omega)) _ | refine Below.drew ?_⟩

set_option maxRecDepth 100000 in
set_option maxHeartbeats 1000000 in
theorem specValidPerson_any (l m g : Nat) (w : World) :
    Calls Try.prog 13 #[.agg (persC l m g)] w fun e w' => e = .returned (.bool (okPe l m g)) ∧ Below w.heap.size w w' := by
  unfold persC okPe
  rcases h0 : FloatKind.f32.format.order l m with _ | (_ | _ | _)
  all_goals
    cases hl : plainB l <;> cases hm : plainB m <;> cases hg : plainB g
    all_goals
      go_enter Try.func13, Try.ntmps13
      go_wp2_with (go_at_call 26; refine (l01Plain_any _ _).mono ?_; rw [‹plainB _ = _›]; rintro e w' ⟨rfl, rfl⟩)
      go_ret
      exact ⟨rfl, by repeat' first | exact Below.refl _ _ | assumption | refine Below.alloc ?_ (by first | omega | (simp; done) | (simp; omega)) _ | refine Below.setCell ?_ (by first | omega | (simp; done) | (simp; omega)) _ | refine Below.drew ?_⟩

set_option maxRecDepth 100000 in
set_option maxHeartbeats 1000000 in
theorem FnExactValidPerson_core (l m g : Nat) (v0 : Bool) 
    (hspec : ∀ w, Calls Try.prog 13 #[.agg (persC l m g)] w fun e w' => e = .returned (.bool v0) ∧ Below w.heap.size w w')
    (himpl : ∀ w, Calls Try.prog 15 #[.agg (persC l m g)] w fun e w' => e = .returned (.bool v0) ∧ Below w.heap.size w w') (w : World) :
    Calls Try.prog 5 #[.agg (persC l m g)] w fun e w' => e = .returned (.bool true) ∧ Below w.heap.size w w' := by
  have HS := Lib.hid hspec
  have HI := Lib.hid himpl
  clear hspec himpl
  go_enter Try.func5, Try.ntmps5
  go_upto_region 1 with (fail)
  refine abs_world (fun W => Below w.heap.size w W ∧ W.heap[w.heap.size]? = some (.cells (persC l m g) 37 (0, 0))) ⟨(Below.refl _ _).alloc (Nat.le_refl _) _, heap_alloc_new _ _⟩ ?_
  rintro W ⟨hb, h0⟩
  have H0 := Lib.hid h0
  clear h0
  go_wp2_with (first | (refine wpList_load_part rfl 37 _ rfl w.heap.size 0 3 rfl 37 (persC l m g) (0, 0) _ H0.out Try.underlying37 rfl info_persL (pers_fits _ _ _) _ (pers_all _ _ _) ?_) | (go_at_call 14; refine (toPerson_any _ _ _ _).mono ?_; rintro e W1 ⟨rfl, hb1⟩; replace H0 := Lib.hid (below_row hb1 H0.out); replace hb := hb.trans (hb1.mono hb.size); clear hb1) | (go_at_call 13; refine (HS.out _).mono ?_; rintro e W1 ⟨rfl, hb1⟩; replace H0 := Lib.hid (below_row hb1 H0.out); replace hb := hb.trans (hb1.mono hb.size); clear hb1) | (go_at_call 15; refine (HI.out _).mono ?_; rintro e W1 ⟨rfl, hb1⟩; replace H0 := Lib.hid (below_row hb1 H0.out); replace hb := hb.trans (hb1.mono hb.size); clear hb1))
  go_ret
  exact ⟨rfl, hb⟩

theorem lawValidPerson_walk (l m g : Nat) (_ : PeWf l m g) (w : World) :
    Calls Try.prog 5 #[.agg (persC l m g)] w fun e w' => e = .returned (.bool true) ∧ Below w.heap.size w w' :=
  FnExactValidPerson_core _ _ _ _ (fun w => specValidPerson_any _ _ _ w) (fun w => implValidPerson_any _ _ _ w) w

set_option maxRecDepth 100000 in
theorem FnExactValidPerson_holds : Rows.FnExactValidPersonSaid :=
  OpenClaim.holds_of_wide 5 Try.f5 rfl rfl rfl rfl rfl rfl rfl ⟨rfl, rfl, rfl, rfl, rfl⟩ rfl rfl rfl rfl rfl (by kernel_rfl) Try.func5 (by kernel_rfl)
    (of_decide_eq_true (by kernel_rfl)) (by unfold Func.isWrapper; first | (rw [if_pos (by decide +kernel)]; kernel_rfl) | (rw [if_neg (by decide +kernel)]; exact ⟨rfl, rfl⟩))
    (fun os started H enc _ => law_lifted 5 Try.f5 Rows.fnExactValidPersonSpec Rows.fnExactValidPersonRow.domain os started H enc (by kernel_rfl) Try.func5 rfl rfl
      (by rw [Try.params5]; intro t ht; simp only [List.mem_cons, List.not_mem_nil, or_false] at ht; subst ht <;> exact ⟨by kernel_rfl, of_decide_eq_true (by kernel_rfl)⟩)
      (fun ds hl => by
        match ds, hl with
        | [d0], _ => rfl)
      (ChangeSpec.witness6 (enc := enc) (C := Try.checked) false ⟨#[], #[.agg #[.float .f32 0, .float .f32 0, .float .f32 0]], []⟩ 8 (by kernel_rfl) (by kernel_rfl) (by kernel_rfl) (by kernel_rfl))
      (fun W base args ds p hval hA => by
        rw [Try.params5] at hA hval
        obtain ⟨v0, vs0, d0, ds0, p0, q0, hargs, rfl, rfl, h0, r0⟩ := trodAll_cons hA
        obtain ⟨rfl, rfl, rfl⟩ := trodAll_nil r0
        obtain rfl : args = #[v0] := by cases args; simp_all
        obtain ⟨pl0, pm0, pg0, pw0, rfl⟩ := open_person (hval 0 37 v0 rfl rfl) h0
        exact lawValidPerson_walk pl0 pm0 pg0 pw0 W ))
#print axioms FnExactValidPerson_holds

end Go.Proofs.Ytkmjapdikhckeaa
