/-
  The tilts with which what passes is within bounds: the program's walk and the model's.
-/
import Derived.Test.YtdccmdcgbembpaaShut
import Derived.Test.YtdccmdcgbembpaaPasser
namespace Go.Proofs.Ytdccmdcgbembpaa
open Go.RowKit

/-- At least, and at most. -/
def geB (a b : Nat) : Bool := FloatKind.f32.format.order a b == some .gt || FloatKind.f32.format.order a b == some .eq
def leB (a b : Nat) : Bool := FloatKind.f32.format.order a b == some .lt || FloatKind.f32.format.order a b == some .eq
def inBW (wd gp sh : Nat) (h : Int) (lo hi : Nat) (x : Int) : Bool := geB (pasB wd gp x sh h) lo && leB (pasB wd gp x sh h) hi

set_option maxRecDepth 100000 in
set_option maxHeartbeats 1000000 in
theorem within_call (n : Int) (wd gp : Nat) (x : Int) (sh : Nat) (ok : BlOk n wd gp x sh) (h : Int) (h0 : 1 ≤ h) (h1 : h ≤ 64) (lo hi : Nat) (g1 g2 g3 : Nat) (w : World) (c : w.heap[g1]? = some (.cells #[.int .i64 h] 2 (0, 0)) ∧ w.heap[g2]? = some (.cells #[.float .f32 lo] 25 (0, 0)) ∧ w.heap[g3]? = some (.cells #[.float .f32 hi] 25 (0, 0))) :
    Calls Try.prog 42 #[.agg (blindC n wd gp x sh), .pointer (some ⟨g1, 0, none⟩), .pointer (some ⟨g2, 0, none⟩), .pointer (some ⟨g3, 0, none⟩)] w fun e w' => e = .returned (.bool (inBW wd gp sh h lo hi x)) ∧ Below w.heap.size w w' := by
  have HP := Lib.hid (fun w => passer_any n wd gp x sh ok w)
  have HC := Lib.hid (fun p1 p2 w c1 c2 => passes_call n wd gp x sh ok p1 p2 h h0 h1 w c1 c2)
  obtain ⟨c1, c2, c3⟩ := c
  have C1 := Lib.hid c1
  have C2 := Lib.hid c2
  have C3 := Lib.hid c3
  clear ok h0 h1 c1 c2 c3
  unfold inBW geB leB
  generalize (pasB wd gp x sh h) = ps at *
  go_enter Try.func42, Try.ntmps42
  go_upto_region 1 with (fail)
  refine abs_world (fun W => W.heap[w.heap.size]? = some (.cells (blindC n wd gp x sh) 28 (0, 0)) ∧ W.heap[g1]? = some (.cells #[.int .i64 h] 2 (0, 0)) ∧ W.heap[g2]? = some (.cells #[.float .f32 lo] 25 (0, 0)) ∧ W.heap[g3]? = some (.cells #[.float .f32 hi] 25 (0, 0)) ∧ Below w.heap.size w W) ⟨heap_alloc_new _ _, below_row ((Below.refl _ _).alloc (Nat.le_refl _) _) C1.out, below_row ((Below.refl _ _).alloc (Nat.le_refl _) _) C2.out, below_row ((Below.refl _ _).alloc (Nat.le_refl _) _) C3.out, (Below.refl _ _).alloc (Nat.le_refl _) _⟩ ?_
  clear C1 C2 C3
  rintro W ⟨d0, d1, d2, d3, hb⟩
  refine wp_region_held_drew (S := (fun W => W.heap[w.heap.size]? = some (.cells (blindC n wd gp x sh) 28 (0, 0)) ∧ W.heap[g1]? = some (.cells #[.int .i64 h] 2 (0, 0)) ∧ W.heap[g2]? = some (.cells #[.float .f32 lo] 25 (0, 0)) ∧ W.heap[g3]? = some (.cells #[.float .f32 hi] 25 (0, 0)) ∧ Below w.heap.size w W)) (by kernel_rfl) ⟨d0, d1, d2, d3, hb.drew⟩ (fun hHeld => ?_)
  refine take_op (i := 0) (d := 7) (v := .agg (blindC n wd gp x sh)) rfl rfl (by kernel_rfl) (by kernel_rfl) (by kernel_rfl) (fun _ _ _ h => h) (yields_row (by rfl) 28 (.tmp 4) (by rfl) w.heap.size 0 5 (by rfl) 28 (blindC n wd gp x sh) (0, 0) _ (fun _ h => h.1) Try.underlying28 rfl info_blind (blind_fits _ _ _ _ _) (blindC n wd gp x sh) (blind_all _ _ _ _ _)) hHeld ?_
  simp only [List.setIfInBounds_toArray, List.set_cons_zero, List.set_cons_succ]
  refine take_op (i := 2) (d := 9) (v := ?_) rfl rfl (by kernel_rfl) (by kernel_rfl) (by kernel_rfl) (fun _ _ _ h => h) (Or.inl ⟨by rfl, ?hy2u1⟩) hHeld ?rest2u1
  case hy2u1 =>
    intro w' hS'
    obtain ⟨s1, s2, s3⟩ := hS'
    have q2 : w'.cell? ⟨g1, 0, none⟩ = some (.int .i64 h) := by rw [cell_of_row w' _ _ _ _ _ s2]; rfl
    clear s1 s2 s3
    go_simp
    try with_reducible rfl
  simp only [List.setIfInBounds_toArray, List.set_cons_zero, List.set_cons_succ]
  refine wpAnyH_ready (rs := [1]) (by kernel_rfl) (by simp) ?_
  refine AllReadyH.cons rfl (fun K hK => ?_) AllReadyH.nil
  go_simp
  refine (HP.out _).mono ?_
  rintro e W1 ⟨⟨v, rfl, p1, p2, rfl, c1, c2⟩, hb1⟩
  refine hK.out _ _ (⟨below_row hb1 hHeld.1, below_row hb1 hHeld.2.1, below_row hb1 hHeld.2.2.1, below_row hb1 hHeld.2.2.2.1, hHeld.2.2.2.2.trans (hb1.mono hHeld.2.2.2.2.size)⟩) (fun hHeld2 => ?_)
  clear hK K
  replace hHeld := hHeld2
  clear hHeld2
  refine wpAnyH_ready (rs := [3]) (by kernel_rfl) (by simp) ?_
  refine AllReadyH.cons rfl (fun K hK => ?_) AllReadyH.nil
  go_simp
  refine (HC.out p1 p2 _ c1 c2).mono ?_
  rintro e W3 ⟨rfl, hb3⟩
  refine hK.out _ _ (⟨below_row hb3 hHeld.1, below_row hb3 hHeld.2.1, below_row hb3 hHeld.2.2.1, below_row hb3 hHeld.2.2.2.1, hHeld.2.2.2.2.trans (hb3.mono hHeld.2.2.2.2.size)⟩) (fun hHeld2 => ?_)
  clear hK K
  replace hHeld := hHeld2
  clear hHeld2
  refine take_op (i := 4) (d := 6) (v := ?_) rfl rfl (by kernel_rfl) (by kernel_rfl) (by kernel_rfl) (fun _ _ _ h => h) (Or.inl ⟨by rfl, ?hy4u2⟩) hHeld ?rest4u2
  case hy4u2 =>
    intro w' hS'
    go_simp
    try with_reducible rfl
  simp only [List.setIfInBounds_toArray, List.set_cons_zero, List.set_cons_succ]
  refine wpAnyH_done (by kernel_rfl) ?_ _
  obtain ⟨e0, e1, e2, e3, hbx⟩ := hHeld
  have q2 : W3.cell? ⟨g2, 0, none⟩ = some (.float .f32 lo) := by rw [cell_of_row W3 _ _ _ _ _ e2]; rfl
  have q3 : W3.cell? ⟨g3, 0, none⟩ = some (.float .f32 hi) := by rw [cell_of_row W3 _ _ _ _ _ e3]; rfl
  clear e0 e1 e2 e3 d0 d1 d2 d3 hb hb1 hb3 c1 c2
  go_wp2
  · go_ret
    exact ⟨rfl, hbx⟩
  · rename_i hn
    have hf : (FloatKind.f32.format.order ps lo == some Ordering.gt || FloatKind.f32.format.order ps lo == some Ordering.eq) = false := by simpa using hn
    clear hn
    go_ret
    refine ⟨?_, hbx⟩
    rw [hf]
    rfl

end Go.Proofs.Ytdccmdcgbembpaa
