/-
  The light of a tile: the model's contracts.
-/
import Derived.Test.YtnienahjfocalaaDoorPlace2
import Derived.IntWalk
import Derived.Test.YtnienahjfocalaaDoorRoomE
namespace Go.Proofs.YtnienahjfocalaaDoor
open Go.RowKit

attribute [local go_sem] run_store_f

theorem sq_turn (a b : Int) : (a - b) * (a - b) = (b - a) * (b - a) := by
  have e : b - a = -(a - b) := by omega
  rw [e, Int.neg_mul_neg]

set_option maxRecDepth 100000 in
set_option maxHeartbeats 1000000 in
theorem l03From_any (wd hg : Int) (sv : Value) (x : Wn) (hf : FitOk wd hg x) (hrb : RB wd hg) (a1 a2 : Int) (ha : inRoom wd hg (a1, a2)) (gb : Nat) (T : TypeId) (fr : Nat × Nat) (w : World) (hb0 : w.heap[gb]? = some (.cells (roomC wd hg sv) T fr)) :
    Calls Tryd.prog 130 #[.pointer (some ⟨gb, 0, none⟩), .agg (winC x), .agg (tileC a1 a2)] w fun e w' => e = .returned (.float .f32 (fromW wd hg (a1, a2) x)) ∧ Below w.heap.size w w' := by
  obtain ⟨w0, w1, h0, h1⟩ := hrb
  obtain ⟨f1, _⟩ := from_facts w0 w1 h0 h1 ha hf
  have hin := tlW_in w0 h0 hf
  have HT := Lib.hid (fun (W : World) hW => l03Tile_any wd hg sv x hf ⟨w0, w1, h0, h1⟩ gb T fr W hW)
  obtain ⟨t1, t2, htl⟩ : ∃ t1 t2, tlW wd hg x = (t1, t2) := ⟨_, _, rfl⟩
  unfold Hid at HT
  rw [htl] at f1 hin HT
  dsimp only at HT
  have HT2 := Lib.hid HT
  obtain ⟨p1, p2, p3, p4⟩ := hin
  obtain ⟨q1, q2, q3, q4⟩ := ha
  dsimp only at p1 p2 p3 p4 q1 q2 q3 q4
  have s1 := sq_le (d := t1 - a1) (by omega) (by omega)
  have s2 := sq_le (d := t2 - a2) (by omega) (by omega)
  obtain ⟨s10, s11⟩ := s1
  obtain ⟨s20, s21⟩ := s2
  have e : 1 + sqT (a1, a2) (t1, t2) = 1 + (t1 - a1) * (t1 - a1) + (t2 - a2) * (t2 - a2) := by
    show 1 + ((a1 - t1) * (a1 - t1) + (a2 - t2) * (a2 - t2)) = _
    rw [sq_turn a1 t1, sq_turn a2 t2]; omega
  rw [e] at f1
  have rq : ∀ T w, (binOp .quo T (.float .f32 x.2.2) (.float .f32 (floatOfInt .f32 (1 + (t1 - a1) * (t1 - a1) + (t2 - a2) * (t2 - a2))))).run Tryd.prog w = .ok (.float .f32 (fromW wd hg (a1, a2) x)) w := fun T w => run_float_arith w .quo T .f32 _ _ _ f1
  have H0 := Lib.hid hb0
  clear hb0 f1 HT htl e hf
  go_enter Tryd.func130, Tryd.ntmps130
  go_upto_region 1 with (fail)
  refine abs_world (fun W => W.heap[w.heap.size]? = some (.cells (winC x) 163 (0, 0)) ∧ W.heap[w.heap.size + 1]? = some (.cells (tileC a1 a2) 89 (0, 0)) ∧ Below w.heap.size w W) (two_at w (.cells (winC x) 163) (.cells (tileC a1 a2) 89)) ?_
  rintro W ⟨g0, g1, hb⟩
  replace H0 := Lib.hid (below_row hb H0.out)
  have H1 := Lib.hid g0
  have H2 := Lib.hid g1
  clear g0 g1
  go_upto_region 2 with (first | (refine wpList_load_part rfl 163 _ rfl w.heap.size 0 3 rfl 163 (winC x) (0, 0) _ H1.out Tryd.underlying163 rfl info_win (win_fits _) _ (win_all _) ?_) | (go_at_call 152; refine (HT2.out _ H0.out).mono ?_; rintro e W5 ⟨rfl, hb5⟩) | (refine wpList_store_part rfl 89 _ _ rfl _ 0 (tileC t1 t2) rfl rfl 89 _ (heap_alloc_new _ _) (by kernel_rfl) (Nat.le_refl _) (tile_one _ _) ?_; rw [laid_allr _ _ (by rfl)]))
  refine abs_world (fun V => Below W5.heap.size W5 V ∧ V.heap[W5.heap.size]? = some (.cells (tileC t1 t2) 89 (0, 0))) ⟨below_setRow ((Below.refl _ _).alloc (Nat.le_refl _) _) (Nat.le_refl _) _, setRow_heap _ _ _ _ _ _ (heap_alloc_new _ _)⟩ ?_
  rintro V ⟨hb6, h3⟩
  obtain ⟨k0, k1, k2⟩ := win_cells (below_row hb6 (below_row hb5 H1.out))
  obtain ⟨c0, c1⟩ := tile_cells (below_row hb6 (below_row hb5 H2.out))
  obtain ⟨d0, d1⟩ := tile_cells h3
  replace hb := (hb.trans (hb5.mono hb.size)).trans (hb6.mono (hb.trans (hb5.mono hb.size)).size)
  clear hb5 hb6 h3 H0 H1 H2
  generalize W5.heap.size = tb at *
  go_wp2
  go_ret
  exact ⟨rfl, hb⟩

end Go.Proofs.YtnienahjfocalaaDoor
