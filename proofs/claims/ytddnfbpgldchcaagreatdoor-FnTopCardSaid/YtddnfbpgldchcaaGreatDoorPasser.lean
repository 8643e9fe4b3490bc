/-
  What passes through a blind: the closure that tells it.

-/
import Derived.Test.YtddnfbpgldchcaaGreatDoorBhd

namespace Go.Proofs.YtddnfbpgldchcaaGreatDoor

open Go.ChangeShapes Go.WideShapes Go.ChangeAt Go.RowKit Go.Deep Go.Joins

attribute [local go_sem] run_store_f

/-- A value that tells what passes through a blind: it holds the blind, and what is open for the first height. -/
def Passes (n : Int) (wd gp : Nat) (t : Int) (sh : Nat) (v : Value) (W : World) : Prop :=
  ∃ g1 g2 : Nat, v = .func (.func 112) #[] #[.pointer (some ⟨g1, 0, none⟩), .pointer (some ⟨g2, 0, none⟩)] ∧ W.heap[g1]? = some (.cells (blindC n wd gp t sh) 32 (0, 0)) ∧ W.heap[g2]? = some (.cells #[.float .f32 (opnB wd gp t 1)] 30 (0, 0))

def RetPasses (n : Int) (wd gp : Nat) (t : Int) (sh : Nat) (w : World) (e : Ending) (w' : World) : Prop := (∃ v, e = .returned v ∧ Passes n wd gp t sh v w') ∧ Below w.heap.size w w'

set_option maxRecDepth 100000 in
set_option maxHeartbeats 1000000 in
theorem passer_any (n : Int) (wd gp : Nat) (t : Int) (sh : Nat) (ok : BlOk n wd gp t sh) (w : World) :
    Calls Tryz.prog 52 #[.agg (blindC n wd gp t sh)] w (RetPasses n wd gp t sh w) := by
  have HO := Lib.hid (fun w => openAt_any n wd gp t sh ok 1 (by decide) (by decide) w)
  clear ok
  go_enter Tryz.func52, Tryz.ntmps52
  go_upto_region 1 with (fail)
  refine abs_world (fun W => Below w.heap.size w W ∧ W.heap[w.heap.size]? = some (.cells (blindC n wd gp t sh) 32 (0, 0)) ∧ w.heap.size < W.heap.size) ⟨(Below.refl _ _).alloc (Nat.le_refl _) _, heap_alloc_new _ _, by simp⟩ ?_
  rintro W ⟨hb, h0, hs⟩
  have H0 := Lib.hid h0
  clear h0
  go_wp2_with (first | (refine wpList_load_part rfl 32 _ rfl w.heap.size 0 5 rfl 32 (blindC n wd gp t sh) (0, 0) _ H0.out Tryz.underlying32 rfl info_blind (blind_fits _ _ _ _ _) _ (blind_all _ _ _ _ _) ?_) | (go_at_call 111; refine (HO.out _).mono ?_; rintro e W1 ⟨rfl, hb1⟩; replace H0 := Lib.hid (below_row hb1 H0.out); replace hb := hb.trans (hb1.mono hb.size); replace hs := Nat.lt_of_lt_of_le hs hb1.size; clear hb1))
  go_ret
  exact ⟨⟨_, rfl, w.heap.size, W1.heap.size, rfl, below_row ((Below.refl W1.heap.size W1).alloc (Nat.le_refl _) _) H0.out, heap_alloc_new _ _⟩, hb.alloc (Nat.le_of_lt hs) _⟩

set_option maxRecDepth 100000 in
set_option maxHeartbeats 1000000 in
theorem passes_call (n : Int) (wd gp : Nat) (t : Int) (sh : Nat) (ok : BlOk n wd gp t sh) (g1 g2 : Nat) (h : Int) (h0 : 1 ≤ h) (h1 : h ≤ 64) (w : World) (c1 : w.heap[g1]? = some (.cells (blindC n wd gp t sh) 32 (0, 0))) (c2 : w.heap[g2]? = some (.cells #[.float .f32 (opnB wd gp t 1)] 30 (0, 0))) :
    Calls Tryz.prog 112 #[.int .i64 h, .pointer (some ⟨g1, 0, none⟩), .pointer (some ⟨g2, 0, none⟩)] w fun e w' => e = .returned (.float .f32 (pasB wd gp t sh h)) ∧ Below w.heap.size w w' := by
  obtain ⟨f1, f2, f3, f4, _⟩ := pas_facts wd gp t ok.2.2.2.2.2.2.2.2 h
  have HB := Lib.hid (fun w => blockedAt_any n wd gp t sh ok.2.2.1 ok.2.2.2.1 ok.2.2.2.2.1 ok.2.2.2.2.2.1 ok.2.2.2.2.2.2.1 ok.2.2.2.2.2.2.2.1 h h0 h1 w)
  obtain ⟨k0, k1, k2, k3, k4⟩ := blind_cells c1
  have k5 : w.cell? ⟨g2, 0, none⟩ = some (.float .f32 (opnB wd gp t 1)) := by rw [cell_of_row w _ _ _ _ _ c2]; rfl
  have f0 := (opn_facts wd gp t h).1
  have r0 : ∀ T w, (binOp .sub T (.float .f32 1065353216) (.float .f32 (blkB wd gp t h))).run Tryz.prog w = .ok (.float .f32 (opnB wd gp t h)) w := fun T w => run_float_arith w .sub T .f32 _ _ _ f0
  have r1 : ∀ T w, (binOp .mul T (.float .f32 (blkB wd gp t h)) (.float .f32 sh)).run Tryz.prog w = .ok (.float .f32 (fmul (blkB wd gp t h) sh)) w := fun T w => run_float_arith w .mul T .f32 _ _ _ f1
  have r2 : ∀ T w, (binOp .mul T (.float .f32 (fmul (blkB wd gp t h) sh)) (.float .f32 (opnB wd gp t 1))).run Tryz.prog w = .ok (.float .f32 (fmul (fmul (blkB wd gp t h) sh) (opnB wd gp t 1))) w := fun T w => run_float_arith w .mul T .f32 _ _ _ f2
  have r3 : ∀ T w, (binOp .quo T (.float .f32 (fmul (fmul (blkB wd gp t h) sh) (opnB wd gp t 1))) (.float .f32 1073741824)).run Tryz.prog w = .ok (.float .f32 (bncB wd gp t sh h)) w := fun T w => run_float_arith w .quo T .f32 _ _ _ f3
  have r4 : ∀ T w, (binOp .add T (.float .f32 (opnB wd gp t h)) (.float .f32 (bncB wd gp t sh h))).run Tryz.prog w = .ok (.float .f32 (pasB wd gp t sh h)) w := fun T w => run_float_arith w .add T .f32 _ _ _ f4
  have H0 := Lib.hid c1
  have H1 := Lib.hid c2
  have hb : Below w.heap.size w w := Below.refl _ _
  clear f0 f1 f2 f3 f4 ok h0 h1 c1 c2
  generalize fmul (fmul (blkB wd gp t h) sh) (opnB wd gp t 1) = x2 at *
  generalize fmul (blkB wd gp t h) sh = x1 at *
  go_enter Tryz.func112, Tryz.ntmps112
  go_wp2_with (first | (refine wpList_load_part rfl 32 _ rfl g1 0 5 rfl 32 (blindC n wd gp t sh) (0, 0) _ H0.out Tryz.underlying32 rfl info_blind (blind_fits _ _ _ _ _) _ (blind_all _ _ _ _ _) ?_) | (go_at_call 113; refine (HB.out _).mono ?_; rintro e W1 ⟨rfl, hb1⟩; replace H0 := Lib.hid (below_row hb1 H0.out); replace H1 := Lib.hid (below_row hb1 H1.out); replace hb := hb.trans (hb1.mono hb.size); clear hb1 k0 k1 k2 k3 k4 k5; obtain ⟨k0, k1, k2, k3, k4⟩ := blind_cells H0.out; have k5 : W1.cell? ⟨g2, 0, none⟩ = some (.float .f32 (opnB wd gp t 1)) := by rw [cell_of_row W1 _ _ _ _ _ H1.out]; rfl))
  go_ret
  exact ⟨rfl, hb⟩

end Go.Proofs.YtddnfbpgldchcaaGreatDoor
