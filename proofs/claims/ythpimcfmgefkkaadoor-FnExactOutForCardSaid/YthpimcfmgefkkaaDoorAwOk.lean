/-
  Which awnings are valid: contracts of the program and of the model.
-/
import Derived.Test.YthpimcfmgefkkaaDoorAwA
import Derived.Test.YthpimcfmgefkkaaDoorSgn
import Derived.Test.YthpimcfmgefkkaaDoorLaw
namespace Go.Proofs.YthpimcfmgefkkaaDoor
open Go.ChangeShapes Go.WideShapes Go.ChangeAt Go.RowKit Go.Deep Go.Joins

attribute [local go_sem] run_store_f

def okAw (o dr gp tl : Nat) : Bool := betw o 0 1090519040 && betw dr 0 1073741824 && betw gp 0 1073741824 && betw tl 1040187392 1082130432

/-- The bounds of an awning that is valid. -/
structure AwOk (o dr gp tl : Nat) : Prop where
  o : o ≤ 1090519040 ∨ o = 2147483648
  d : dr ≤ 1073741824 ∨ dr = 2147483648
  g : gp ≤ 1073741824 ∨ gp = 2147483648
  t0 : 1040187392 ≤ tl
  t1 : tl ≤ 1082130432
theorem awok_of {o dr gp tl : Nat} (aw : AwWf o dr gp tl) (h : okAw o dr gp tl = true) : AwOk o dr gp tl := by
  simp only [okAw, Bool.and_eq_true] at h
  obtain ⟨⟨⟨h1, h2⟩, h3⟩, h4⟩ := h
  obtain ⟨a1, a2⟩ := betw_above aw.2.2.2 (by decide) (by decide) (by decide) h4
  exact ⟨betw_zero aw.1 (by decide) h1, betw_zero aw.2.1 (by decide) h2, betw_zero aw.2.2.1 (by decide) h3, a1, a2⟩

set_option maxHeartbeats 1000000 in
theorem l04Between_any (x a b : Nat) (w : World) :
    Calls Tryd.prog 32 #[.float .f32 x, .float .f32 a, .float .f32 b] w fun e w' => e = .returned (.bool (betw x a b)) ∧ w = w' := by
  unfold betw
  rcases h0 : FloatKind.f32.format.order x a with _ | (_ | _ | _)
  all_goals
    rcases h1 : FloatKind.f32.format.order x b with _ | (_ | _ | _)
    all_goals
      go_enter Tryd.func32, Tryd.ntmps32
      go_wp2
      go_ret
      exact ⟨rfl, rfl⟩

set_option maxRecDepth 100000 in
set_option maxHeartbeats 1000000 in
theorem l04Ok_any (o dr gp tl : Nat) (g : Nat) (T : TypeId) (fr : Nat × Nat) (w : World) (hg : w.heap[g]? = some (.cells (awC o dr gp tl) T fr)) :
    Calls Tryd.prog 21 #[.pointer (some ⟨g, 0, none⟩)] w fun e w' => e = .returned (.bool (okAw o dr gp tl)) ∧ w = w' := by
  obtain ⟨c0, c1, c2, c3⟩ := aw_cells hg
  clear hg
  go_enter Tryd.func21, Tryd.ntmps21
  go_wp2_with (go_at_call 32; refine (l04Between_any _ _ _ _).mono ?_; rintro e w' ⟨rfl, rfl⟩)
  all_goals
    go_ret
    refine ⟨?_, rfl⟩
    simp [okAw, *]

theorem ret_boolA {a b : Bool} (h : a = b) : Ending.returned (.bool a) = .returned (.bool b) := by rw [h]
/-- A comparison that has no answer yet, as a truth value. -/
theorem bin_geq (t : TypeId) (x y : Nat) (w : World) : (binOp .geq t (.float .f32 x) (.float .f32 y)).run Tryd.prog w = .ok (.bool (ge0 (FloatKind.f32.format.order x y))) w := by
  rcases h0 : FloatKind.f32.format.order x y with _ | (_ | _ | _) <;> simp [binOp, go_sem, Op.floatCmp, h0, ge0]
theorem bin_leq (t : TypeId) (x y : Nat) (w : World) : (binOp .leq t (.float .f32 x) (.float .f32 y)).run Tryd.prog w = .ok (.bool (le0 (FloatKind.f32.format.order x y))) w := by
  rcases h0 : FloatKind.f32.format.order x y with _ | (_ | _ | _) <;> simp [binOp, go_sem, Op.floatCmp, h0, le0]

set_option maxRecDepth 100000 in
set_option maxHeartbeats 1000000 in
theorem implValidAwning_any (o dr gp tl : Nat) (w : World) :
    Calls Tryd.prog 28 #[.agg (awC o dr gp tl)] w fun e w' => e = .returned (.bool (okAw o dr gp tl)) ∧ Below w.heap.size w w' := by
  go_enter Tryd.func28, Tryd.ntmps28
  go_upto_region 1 with (fail)
  refine abs_world (fun W => Below w.heap.size w W ∧ W.heap[w.heap.size]? = some (.cells (awC o dr gp tl) 31 (0, 0))) ⟨(Below.refl _ _).alloc (Nat.le_refl _) _, heap_alloc_new _ _⟩ ?_
  rintro W ⟨hb, h0⟩
  obtain ⟨c0, c1, c2, c3⟩ := aw_cells h0
  clear h0
  go_wp2
  all_goals
    go_ret
    refine ⟨ret_boolA ?_, hb⟩
    first | (simp only [okAw, betw, ge0, le0, Bool.and_assoc]; done) | (simp [okAw, betw, ge0, le0, *]; done)

end Go.Proofs.YthpimcfmgefkkaaDoor
