/-
  What a blind blocks: contracts of the program and of the model.
-/
import Derived.Test.YtddnfbpgldchcaaBok
import Derived.Test.YtddnfbpgldchcaaBlk
import Derived.Test.YtddnfbpgldchcaaAngle
import Derived.Test.YtddnfbpgldchcaaTake
namespace Go.Proofs.Ytddnfbpgldchcaa
open Go.ChangeShapes Go.WideShapes Go.ChangeAt Go.RowKit Go.Deep Go.Joins

attribute [local go_sem] run_store_f

set_option maxHeartbeats 1000000 in
theorem sizeOf_any (x : Nat) (h : isNum x) (w : World) :
    Calls Try.prog 55 #[.float .f32 x] w fun e w' => e = .returned (.float .f32 (sizeB x)) ∧ w = w' := by
  rcases size_cases h with ⟨r, h0, h1, rfl, ho⟩ | ⟨hx, ho | ho⟩
  · rw [sizeB_neg h0]
    have r1 : ∀ t w, (binOp .sub t (.float .f32 0) (.float .f32 (2147483648 + r))).run Try.prog w = .ok (.float .f32 r) w := fun t w => run_float_arith w .sub t .f32 _ _ _ (sub_neg h1)
    go_enter Try.func55, Try.ntmps55
    go_wp2
    go_ret
    exact ⟨rfl, rfl⟩
  · rw [sizeB_pos hx]
    go_enter Try.func55, Try.ntmps55
    go_wp2
    go_ret
    exact ⟨rfl, rfl⟩
  · rw [sizeB_pos hx]
    go_enter Try.func55, Try.ntmps55
    go_wp2
    go_ret
    exact ⟨rfl, rfl⟩

set_option maxHeartbeats 1000000 in
theorem l01Size_any (x : Nat) (h : isNum x) (w : World) :
    Calls Try.prog 40 #[.float .f32 x] w fun e w' => e = .returned (.float .f32 (sizeB x)) ∧ w = w' := by
  rcases size_cases h with ⟨r, h0, h1, rfl, ho⟩ | ⟨hx, ho | ho⟩
  · rw [sizeB_neg h0]
    have ru : ∀ w, (Op.unary .neg (.float .f32 (2147483648 + r))).run Try.prog w = .ok (.float .f32 r) w := fun w => by simp [Op.unary, neg_neg (r := r) (by omega)]
    go_enter Try.func40, Try.ntmps40
    go_wp2
    go_ret
    exact ⟨rfl, rfl⟩
  · rw [sizeB_pos hx]
    go_enter Try.func40, Try.ntmps40
    go_wp2
    go_ret
    exact ⟨rfl, rfl⟩
  · rw [sizeB_pos hx]
    go_enter Try.func40, Try.ntmps40
    go_wp2
    go_ret
    exact ⟨rfl, rfl⟩

/-- The lengths of a blind, as words. -/
theorem len_get {a : Nat} (hw : (Lit.float .f32 a).wf = true) (h : lenB a = true) : 1031798784 ≤ a ∧ a ≤ 1115684864 := betw_above hw (by decide) (by decide) (by decide) h

theorem part_get {a : Nat} (hw : (Lit.float .f32 a).wf = true) (h : partB a = true) : a ≤ 1065353216 ∨ a = 2147483648 := betw_zero hw (by decide) h

theorem cos_gt (h : Int) (h0 : 1 ≤ h) (h1 : h < 64) : FloatKind.f32.format.order (cosB h) 0 = some .gt := by
  obtain ⟨c0, c1⟩ := cos_high h h0 h1
  rw [order_pos (by omega) (by decide), Nat.compare_eq_gt.2 (by omega)]

theorem cos_eq : FloatKind.f32.format.order (cosB 64) 0 = some .eq := by rw [cos_top]; decide +kernel

theorem run_min1 (ts : Array TypeId) (T : TypeId) (q : Nat) (h : q < 2139095040) (w : World) : (Builtin.min_ ts T #[.float .f32 q, .float .f32 1065353216]).run Try.prog w = .ok (.float .f32 (min1 q)) w := by
  have ho := order_pos h (y := 1065353216) (by decide)
  simp only [Builtin.min_, List.foldlM_cons, List.foldlM_nil, Builtin.min2, ho]
  rcases Nat.lt_trichotomy q 1065353216 with c | c | c
  · have e : min1 q = q := if_neg (by omega)
    rw [Nat.compare_eq_lt.2 c, e]; rfl
  · subst c; rfl
  · have e : min1 q = 1065353216 := if_pos c
    rw [Nat.compare_eq_gt.2 c, e]; rfl

end Go.Proofs.Ytddnfbpgldchcaa
