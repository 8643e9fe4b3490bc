/-
  For every floor and every bound: the stripes that are darker, and the code, are what the model says. No conditions.
-/
import Derived.Test.YtdbleddcnknmiaaDkA
namespace Go.Proofs.Ytdbleddcnknmiaa
open Go.ChangeShapes Go.WideShapes Go.ChangeAt Go.RowKit Go.Deep Go.Joins

set_option maxRecDepth 100000 in
set_option maxHeartbeats 2000000 in
theorem lawDarkStripes_core (xs : List Nat) (hx : xs.length = 24) (b : Nat) (d c : Int)
    (hspec : ∀ w, Calls Try.prog 17 #[.agg (f32s xs), .float .f32 b] w fun e w' => e = .returned (.tuple #[.int .u32 d, .int .i64 c]) ∧ Below w.heap.size w w')
    (himpl : ∀ w, Calls Try.prog 18 #[.agg (f32s xs), .float .f32 b] w fun e w' => e = .returned (.tuple #[.int .u32 d, .int .i64 c]) ∧ Below w.heap.size w w') (w : World) :
    Calls Try.prog 6 #[.agg (f32s xs), .float .f32 b] w fun e w' => e = .returned (.bool true) ∧ Below w.heap.size w w' := by
  have Hx := Lib.hid hx
  have HS := Lib.hid hspec
  have HI := Lib.hid himpl
  clear hx hspec himpl
  go_enter Try.func6, Try.ntmps6
  go_upto_region 1 with (fail)
  refine abs_code (fun W => Below w.heap.size w W ∧ W.heap[w.heap.size]? = some (.cells (f32s xs) 33 (0, 0))) ⟨(Below.refl _ _).alloc (Nat.le_refl _) _, heap_alloc_new _ _⟩ ?_
  rintro W ⟨hb, h0⟩
  have H0 := Lib.hid h0
  clear h0
  go_wp2_with (first | (refine wpList_load_part rfl 33 _ rfl w.heap.size 0 24 rfl 33 (f32s xs) (0, 0) _ H0.out Try.underlying33 rfl info_farr (by rw [f32s_size, Hx.out]; decide) (f32s xs) (f32s_all _ 24 Hx.out) ?_) | (go_at_call 15; refine (toFloor_any xs Hx.out _).mono ?_; rintro e W1 ⟨rfl, hb1⟩; replace H0 := Lib.hid (below_row hb1 H0.out); replace hb := hb.trans (hb1.mono hb.size); clear hb1) | (go_at_call 17; refine (HS.out _).mono ?_; rintro e W1 ⟨rfl, hb1⟩; replace H0 := Lib.hid (below_row hb1 H0.out); replace hb := hb.trans (hb1.mono hb.size); clear hb1) | (go_at_call 18; refine (HI.out _).mono ?_; rintro e W1 ⟨rfl, hb1⟩; replace H0 := Lib.hid (below_row hb1 H0.out); replace hb := hb.trans (hb1.mono hb.size); clear hb1))
  go_ret
  exact ⟨rfl, hb⟩

theorem lawDarkStripes_walk (xs : List Nat) (hx : xs.length = 24) (_ : ∀ x ∈ xs, (Lit.float .f32 x).wf = true) (b : Nat) (_ : (Lit.float .f32 b).wf = true) (w : World) :
    Calls Try.prog 6 #[.agg (f32s xs), .float .f32 b] w fun e w' => e = .returned (.bool true) ∧ Below w.heap.size w w' := by
  cases hb : partB b with
  | true => exact lawDarkStripes_core xs hx b _ 0 (fun w => sDark_yes xs hx b hb w) (fun w => iDark_yes xs hx b hb w) w
  | false => exact lawDarkStripes_core xs hx b 0 2 (fun w => sDark_no xs b hb w) (fun w => iDark_no xs b hb w) w

set_option maxRecDepth 100000 in
theorem FnExactDarkStripes_holds : Rows.FnExactDarkStripesSaid :=
  OpenClaim.holds_of_wide 6 Try.f6 rfl rfl rfl rfl rfl rfl rfl ⟨rfl, rfl, rfl, rfl, rfl⟩ rfl rfl rfl rfl rfl (by kernel_rfl) Try.func6 (by kernel_rfl)
    (of_decide_eq_true (by kernel_rfl)) (by unfold Func.isWrapper; first | (rw [if_pos (by decide +kernel)]; kernel_rfl) | (rw [if_neg (by decide +kernel)]; exact ⟨rfl, rfl⟩))
    (fun os started H enc _ => law_lifted 6 Try.f6 Rows.fnExactDarkStripesSpec Rows.fnExactDarkStripesRow.domain os started H enc (by kernel_rfl) Try.func6 rfl rfl
      (by rw [Try.params6]; intro t ht; simp only [List.mem_cons, List.not_mem_nil, or_false] at ht; rcases ht with rfl | rfl <;> exact ⟨by kernel_rfl, of_decide_eq_true (by kernel_rfl)⟩)
      (fun ds hl => by
        match ds, hl with
        | [d0, d1], _ => rfl)
      (ChangeSpec.witness6 (enc := enc) (C := Try.checked) false ⟨#[], #[.agg #[.float .f32 0, .float .f32 0, .float .f32 0, .float .f32 0, .float .f32 0, .float .f32 0, .float .f32 0, .float .f32 0, .float .f32 0, .float .f32 0, .float .f32 0, .float .f32 0, .float .f32 0, .float .f32 0, .float .f32 0, .float .f32 0, .float .f32 0, .float .f32 0, .float .f32 0, .float .f32 0, .float .f32 0, .float .f32 0, .float .f32 0, .float .f32 0], .float .f32 0], []⟩ 8 (by kernel_rfl) (by kernel_rfl) (by kernel_rfl) (by kernel_rfl))
      (fun W base args ds p hval hA => by
        rw [Try.params6] at hA hval
        obtain ⟨v0, vs0, d0, ds0, p0, q0, hargs, rfl, rfl, h0, r0⟩ := trodAll_cons hA
        obtain ⟨v1, vs1, d1, ds1, p1, q1, rfl, rfl, rfl, h1, r1⟩ := trodAll_cons r0
        obtain ⟨rfl, rfl, rfl⟩ := trodAll_nil r1
        obtain rfl : args = #[v0, v1] := by cases args; simp_all
        obtain ⟨fs0, hf0, fb0, rfl⟩ := open_floor (hval 0 33 v0 rfl rfl) h0
        obtain ⟨a1, rfl, rfl, rfl, w1⟩ := open_float Try.underlying29 (hval 1 29 v1 rfl rfl) h1
        exact lawDarkStripes_walk fs0 hf0 fb0 a1 w1 W ))
#print axioms FnExactDarkStripes_holds

end Go.Proofs.Ytdbleddcnknmiaa
