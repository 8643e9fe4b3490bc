/-
  What a blind blocks: contracts of the program and of the model.

-/
import Derived.Test.YtddnfbpgldchcaaGreatDoorBok
import Derived.Test.YtddnfbpgldchcaaGreatDoorBlk
import Derived.Test.YtddnfbpgldchcaaGreatDoorAngle
import Derived.Test.YtddnfbpgldchcaaGreatDoorTake

namespace Go.Proofs.YtddnfbpgldchcaaGreatDoor

open Go.ChangeShapes Go.WideShapes Go.ChangeAt Go.RowKit Go.Deep Go.Joins

attribute [local go_sem] run_store_f

set_option maxHeartbeats 1000000 in
theorem sizeOf_any (x : Nat) (h : isNum x) (w : World) :
    Calls Tryz.prog 155 #[.float .f32 x] w fun e w' => e = .returned (.float .f32 (sizeB x)) ∧ w = w' := by
  rcases size_cases h with ⟨r, h0, h1, rfl, ho⟩ | ⟨hx, ho | ho⟩
  · rw [sizeB_neg h0]
    have r1 : ∀ t w, (binOp .sub t (.float .f32 0) (.float .f32 (2147483648 + r))).run Tryz.prog w = .ok (.float .f32 r) w := fun t w => run_float_arith w .sub t .f32 _ _ _ (sub_neg h1)
    go_enter Tryz.func155, Tryz.ntmps155
    go_wp2
    go_ret
    exact ⟨rfl, rfl⟩
  · rw [sizeB_pos hx]
    go_enter Tryz.func155, Tryz.ntmps155
    go_wp2
    go_ret
    exact ⟨rfl, rfl⟩
  · rw [sizeB_pos hx]
    go_enter Tryz.func155, Tryz.ntmps155
    go_wp2
    go_ret
    exact ⟨rfl, rfl⟩

set_option maxHeartbeats 1000000 in
theorem l01Size_any (x : Nat) (h : isNum x) (w : World) :
    Calls Tryz.prog 175 #[.float .f32 x] w fun e w' => e = .returned (.float .f32 (sizeB x)) ∧ w = w' := by
  rcases size_cases h with ⟨r, h0, h1, rfl, ho⟩ | ⟨hx, ho | ho⟩
  · rw [sizeB_neg h0]
    have ru : ∀ w, (Op.unary .neg (.float .f32 (2147483648 + r))).run Tryz.prog w = .ok (.float .f32 r) w := fun w => by simp [Op.unary, neg_neg (r := r) (by omega)]
    go_enter Tryz.func175, Tryz.ntmps175
    go_wp2
    go_ret
    exact ⟨rfl, rfl⟩
  · rw [sizeB_pos hx]
    go_enter Tryz.func175, Tryz.ntmps175
    go_wp2
    go_ret
    exact ⟨rfl, rfl⟩
  · rw [sizeB_pos hx]
    go_enter Tryz.func175, Tryz.ntmps175
    go_wp2
    go_ret
    exact ⟨rfl, rfl⟩

/-- The lengths of a blind, as words. -/
theorem len_get {a : Nat} (hw : (Lit.float .f32 a).wf = true) (h : lenB a = true) : 1031798784 ≤ a ∧ a ≤ 1115684864 := betw_above hw (by decide) (by decide) (by decide) h

theorem part_get {a : Nat} (hw : (Lit.float .f32 a).wf = true) (h : partB a = true) : a ≤ 1065353216 ∨ a = 2147483648 := betw_zero hw (by decide) h

theorem cos_gt (h : Int) (h0 : 1 ≤ h) (h1 : h < 64) : FloatKind.f32.format.order (cosB h) 0 = some .gt := by
  obtain ⟨c0, c1⟩ := cos_high h h0 h1
  rw [order_pos (by omega) (by decide), Nat.compare_eq_gt.2 (by omega)]

theorem cos_eq : FloatKind.f32.format.order (cosB 64) 0 = some .eq := by rw [cos_top]; decide +kernel

theorem run_min1 (ts : Array TypeId) (T : TypeId) (q : Nat) (h : q < 2139095040) (w : World) : (Builtin.min_ ts T #[.float .f32 q, .float .f32 1065353216]).run Tryz.prog w = .ok (.float .f32 (min1 q)) w := by
  have ho := order_pos h (y := 1065353216) (by decide)
  simp only [Builtin.min_, List.foldlM_cons, List.foldlM_nil, Builtin.min2, ho]
  rcases Nat.lt_trichotomy q 1065353216 with c | c | c
  · have e : min1 q = q := if_neg (by omega)
    rw [Nat.compare_eq_lt.2 c, e]; rfl
  · subst c; rfl
  · have e : min1 q = 1065353216 := if_pos c
    rw [Nat.compare_eq_gt.2 c, e]; rfl

set_option maxRecDepth 100000 in
set_option maxHeartbeats 1000000 in
theorem blockedAt_any (n : Int) (wd gp : Nat) (t : Int) (sh : Nat) (w0 : 1031798784 ≤ wd) (w1 : wd ≤ 1115684864) (g0 : 1031798784 ≤ gp) (g1 : gp ≤ 1115684864) (t0 : -64 ≤ t) (t1 : t ≤ 64) (h : Int) (h0 : 1 ≤ h) (h1 : h ≤ 64) (w : World) :
    Calls Tryz.prog 113 #[.agg (blindC n wd gp t sh), .int .i64 h] w fun e w' => e = .returned (.float .f32 (blkB wd gp t h)) ∧ Below w.heap.size w w' := by
  by_cases hh : h < 64
  · obtain ⟨f1, f2, f3, f4, _, _⟩ := blk_facts (t := t) w0 w1 g0 g1 h0 hh
    have hc := cos_gt h h0 hh
    have HN := Lib.hid (sine_isNum (h + t))
    have hB : blkB wd gp t h = min1 (quoB wd gp t h) := if_neg (by omega)
    rw [hB]
    clear hB
    have r1 : ∀ T w, (binOp .mul T (.float .f32 wd) (.float .f32 (sizeB (sineB (angB (h + t)))))).run Tryz.prog w = .ok (.float .f32 (fmul wd (sizeB (sineB (angB (h + t)))))) w := fun T w => run_float_arith w .mul T .f32 _ _ _ f1
    have r2 : ∀ T w, (binOp .mul T (.float .f32 gp) (.float .f32 (cosB h))).run Tryz.prog w = .ok (.float .f32 (fmul gp (cosB h))) w := fun T w => run_float_arith w .mul T .f32 _ _ _ f2
    have r3 : ∀ T w, (binOp .quo T (.float .f32 (fmul wd (sizeB (sineB (angB (h + t)))))) (.float .f32 (fmul gp (cosB h)))).run Tryz.prog w = .ok (.float .f32 (quoB wd gp t h)) w := fun T w => run_float_arith w .quo T .f32 _ _ _ f3
    have r4 : ∀ ts T w, (Builtin.min_ ts T #[.float .f32 (quoB wd gp t h), .float .f32 1065353216]).run Tryz.prog w = .ok (.float .f32 (min1 (quoB wd gp t h))) w := fun ts T w => run_min1 ts T _ f4 w
    clear f1 f2 f3 f4
    generalize fmul wd (sizeB (sineB (angB (h + t)))) = x1 at *
    generalize fmul gp (cosB h) = x2 at *
    go_enter Tryz.func113, Tryz.ntmps113
    go_upto_region 1 with (fail)
    refine abs_world (fun W => Below w.heap.size w W ∧ W.heap[w.heap.size]? = some (.cells (blindC n wd gp t sh) 32 (0, 0))) ⟨(Below.refl _ _).alloc (Nat.le_refl _) _, heap_alloc_new _ _⟩ ?_
    rintro W ⟨hb, hc0⟩
    have H0 := Lib.hid hc0
    obtain ⟨k0, k1, k2, k3, k4⟩ := blind_cells hc0
    clear hc0
    go_wp2_with (first | (go_at_call 154; refine (CosineOf_any _ _).mono ?_; rintro e W1 ⟨rfl, hb1⟩; replace H0 := Lib.hid (below_row hb1 H0.out); replace hb := hb.trans (hb1.mono hb.size); clear hb1; clear k0 k1 k2 k3 k4; obtain ⟨k0, k1, k2, k3, k4⟩ := blind_cells H0.out) | (go_at_call 156; refine (SineOf_any _ _).mono ?_; rintro e W1 ⟨rfl, hb1⟩; replace H0 := Lib.hid (below_row hb1 H0.out); replace hb := hb.trans (hb1.mono hb.size); clear hb1; clear k0 k1 k2 k3 k4; obtain ⟨k0, k1, k2, k3, k4⟩ := blind_cells H0.out) | (go_at_call 155; refine (sizeOf_any _ HN.out _).mono ?_; rintro e w' ⟨rfl, rfl⟩))
    go_ret
    exact ⟨rfl, hb⟩
  · obtain rfl : h = 64 := by omega
    have hc := cos_eq
    have hB : blkB wd gp t 64 = 1065353216 := rfl
    rw [hB]
    clear hB
    go_enter Tryz.func113, Tryz.ntmps113
    go_wp2_with (go_at_call 154; refine (CosineOf_any _ _).mono ?_; rintro e W1 ⟨rfl, hb1⟩)
    go_ret
    exact ⟨rfl, (Below.alloc (Below.refl _ _) (Nat.le_refl _) _).trans (hb1.mono (by simp))⟩

end Go.Proofs.YtddnfbpgldchcaaGreatDoor
