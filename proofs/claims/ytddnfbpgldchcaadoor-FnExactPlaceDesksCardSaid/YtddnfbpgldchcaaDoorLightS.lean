/-
  The light of a tile: the model's contracts.
-/
import Derived.Test.YtddnfbpgldchcaaDoorPlace2
import Derived.IntWalk
import Derived.Test.YtddnfbpgldchcaaDoorRoomE
namespace Go.Proofs.YtddnfbpgldchcaaDoor
open Go.RowKit

attribute [local go_sem] run_store_f

theorem sq_turn (a b : Int) : (a - b) * (a - b) = (b - a) * (b - a) := by
  have e : b - a = -(a - b) := by omega
  rw [e, Int.neg_mul_neg]

set_option maxRecDepth 100000 in
set_option maxHeartbeats 1000000 in
theorem l03From_any (wd hg : Int) (sv : Value) (x : Wn) (hf : FitOk wd hg x) (hrb : RB wd hg) (a1 a2 : Int) (ha : inRoom wd hg (a1, a2)) (gb : Nat) (T : TypeId) (fr : Nat × Nat) (w : World) (hb0 : w.heap[gb]? = some (.cells (roomC wd hg sv) T fr)) :
    Calls Tryd.prog 31 #[.pointer (some ⟨gb, 0, none⟩), .agg (winC x), .agg (tileC a1 a2)] w fun e w' => e = .returned (.float .f32 (fromW wd hg (a1, a2) x)) ∧ Below w.heap.size w w' := by
  obtain ⟨w0, w1, h0, h1⟩ := hrb
  obtain ⟨f1, _⟩ := from_facts w0 w1 h0 h1 ha hf
  have hin := tlW_in w0 h0 hf
  have HT := Lib.hid (fun (W : World) hW => l03Tile_any wd hg sv x hf ⟨w0, w1, h0, h1⟩ gb T fr W hW)
  obtain ⟨t1, t2, htl⟩ : ∃ t1 t2, tlW wd hg x = (t1, t2) := ⟨_, _, rfl⟩
  unfold Hid at HT
  rw [htl] at f1 hin HT
  dsimp only at HT
  have HT2 := Lib.hid HT
  obtain ⟨p1, p2, p3, p4⟩ := hin
  obtain ⟨q1, q2, q3, q4⟩ := ha
  dsimp only at p1 p2 p3 p4 q1 q2 q3 q4
  have s1 := sq_le (d := t1 - a1) (by omega) (by omega)
  have s2 := sq_le (d := t2 - a2) (by omega) (by omega)
  obtain ⟨s10, s11⟩ := s1
  obtain ⟨s20, s21⟩ := s2
  have e : 1 + sqT (a1, a2) (t1, t2) = 1 + (t1 - a1) * (t1 - a1) + (t2 - a2) * (t2 - a2) := by
    show 1 + ((a1 - t1) * (a1 - t1) + (a2 - t2) * (a2 - t2)) = _
    rw [sq_turn a1 t1, sq_turn a2 t2]; omega
  rw [e] at f1
  have rq : ∀ T w, (binOp .quo T (.float .f32 x.2.2) (.float .f32 (floatOfInt .f32 (1 + (t1 - a1) * (t1 - a1) + (t2 - a2) * (t2 - a2))))).run Tryd.prog w = .ok (.float .f32 (fromW wd hg (a1, a2) x)) w := fun T w => run_float_arith w .quo T .f32 _ _ _ f1
  have H0 := Lib.hid hb0
  clear hb0 f1 HT htl e hf
  go_enter Tryd.func31, Tryd.ntmps31
  go_upto_region 1 with (fail)
  refine abs_world (fun W => W.heap[w.heap.size]? = some (.cells (winC x) 68 (0, 0)) ∧ W.heap[w.heap.size + 1]? = some (.cells (tileC a1 a2) 48 (0, 0)) ∧ Below w.heap.size w W) (two_at w (.cells (winC x) 68) (.cells (tileC a1 a2) 48)) ?_
  rintro W ⟨g0, g1, hb⟩
  replace H0 := Lib.hid (below_row hb H0.out)
  have H1 := Lib.hid g0
  have H2 := Lib.hid g1
  clear g0 g1
  go_upto_region 2 with (first | (refine wpList_load_part rfl 68 _ rfl w.heap.size 0 3 rfl 68 (winC x) (0, 0) _ H1.out Tryd.underlying68 rfl info_win (win_fits _) _ (win_all _) ?_) | (go_at_call 44; refine (HT2.out _ H0.out).mono ?_; rintro e W5 ⟨rfl, hb5⟩) | (refine wpList_store_part rfl 48 _ _ rfl _ 0 (tileC t1 t2) rfl rfl 48 _ (heap_alloc_new _ _) (by kernel_rfl) (Nat.le_refl _) (tile_one _ _) ?_; rw [laid_allr _ _ (by rfl)]))
  refine abs_world (fun V => Below W5.heap.size W5 V ∧ V.heap[W5.heap.size]? = some (.cells (tileC t1 t2) 48 (0, 0))) ⟨below_setRow ((Below.refl _ _).alloc (Nat.le_refl _) _) (Nat.le_refl _) _, setRow_heap _ _ _ _ _ _ (heap_alloc_new _ _)⟩ ?_
  rintro V ⟨hb6, h3⟩
  obtain ⟨k0, k1, k2⟩ := win_cells (below_row hb6 (below_row hb5 H1.out))
  obtain ⟨c0, c1⟩ := tile_cells (below_row hb6 (below_row hb5 H2.out))
  obtain ⟨d0, d1⟩ := tile_cells h3
  replace hb := (hb.trans (hb5.mono hb.size)).trans (hb6.mono (hb.trans (hb5.mono hb.size)).size)
  clear hb5 hb6 h3 H0 H1 H2
  generalize W5.heap.size = tb at *
  go_wp2
  go_ret
  exact ⟨rfl, hb⟩

set_option maxRecDepth 100000 in
set_option maxHeartbeats 1000000 in
theorem l03Light_any (wd hg : Int) (sv : Value) (ws : List Wn) (ok : RmOk wd hg ws) (hwf : ∀ x ∈ ws, WnWf x) (a1 a2 : Int) (ha : inRoom wd hg (a1, a2)) (gb : Nat) (T : TypeId) (fr : Nat × Nat) (w : World) (hb0 : w.heap[gb]? = some (.cells (roomC wd hg sv) T fr)) (hws : WinsAt w sv ws) :
    Calls Tryd.prog 18 #[.pointer (some ⟨gb, 0, none⟩), .agg (tileC a1 a2)] w fun e w' => e = .returned (.float .f32 (litW wd hg (a1, a2) (fun _ => true) ws)) ∧ Below w.heap.size w w' := by
  have HW := Lib.hid hws
  have HOk := Lib.hid ok
  have HF := Lib.hid hwf
  have HAt := Lib.hid ha
  have H0 := Lib.hid hb0
  obtain ⟨a, cap, rfl, hl1, hl2, _⟩ := hws
  unfold maxLen at hl2
  generalize hn : ws.length = n at *
  have HN := Lib.hid hn
  have HRB := Lib.hid (show RB wd hg from ⟨ok.w0, ok.w1, ok.h0, ok.h1⟩)
  clear hn hwf ha ok hb0
  go_enter Tryd.func18, Tryd.ntmps18
  go_upto_region 1 with (fail)
  refine abs_world (fun W => Below w.heap.size w W ∧ W.heap[w.heap.size]? = some (.cells (tileC a1 a2) 48 (0, 0))) ⟨(Below.refl _ _).alloc (Nat.le_refl _) _, heap_alloc_new _ _⟩ ?_
  rintro W ⟨hb, h1⟩
  replace H0 := Lib.hid (below_row hb H0.out)
  have H1 := Lib.hid h1
  clear h1
  go_wp2
  go_loopw [5, 6] (fun q i wr => ∃ k : Nat, k ≤ n ∧ i = .int .i64 k ∧ q = .float .f32 (sumL (qsW wd hg (a1, a2) (fun _ => true) (ws.take k))) ∧ Below w.heap.size w wr ∧ wr.heap[gb]? = some (.cells (roomC wd hg (.slice a n cap)) T fr) ∧ wr.heap[w.heap.size]? = some (.cells (tileC a1 a2) 48 (0, 0))) (fun _ i _ => n - (intOf i).toNat)
  case atStart => exact ⟨0, Nat.zero_le _, rfl, rfl, hb, H0.out, H1.out⟩
  case round =>
    clear H0 H1 hb
    obtain ⟨k, hk, rfl, rfl, hb, h0, h1⟩ := hrel
    have H0 := Lib.hid h0
    have H1 := Lib.hid h1
    obtain ⟨r0, r1, r2⟩ := room_cells h0
    clear h0 h1
    by_cases hlt : k < n
    · have hx : ws[k]? = some (ws[k]'(by rw [HN.out]; exact hlt)) := List.getElem?_eq_getElem _
      obtain ⟨g, o, rfl, hc⟩ := win_at (wins_below HW.out hb) hx
      have HCl := Lib.hid hc
      have hts : ws.take (k + 1) = ws.take k ++ [ws[k]'(by rw [HN.out]; exact hlt)] := by rw [List.take_succ_eq_append_getElem]
      have hmem := List.mem_of_getElem? hx
      generalize (ws[k]'(by rw [HN.out]; exact hlt)) = x at *
      have hfx : FitOk wd hg x := fit_get (HF.out x hmem) (HOk.out.all x hmem)
      have HT := Lib.hid hts
      obtain ⟨_, f2⟩ := from_facts HOk.out.w0 HOk.out.w1 HOk.out.h0 HOk.out.h1 HAt.out hfx
      have hqs : ∀ q ∈ qsW wd hg (a1, a2) (fun _ => true) (ws.take k), PartOk q := qsW_ok HOk.out.w0 HOk.out.w1 HOk.out.h0 HOk.out.h1 HAt.out (fun y hy => fit_get (HF.out y (List.mem_of_mem_take hy)) (HOk.out.all y (List.mem_of_mem_take hy)))
      have hql : (qsW wd hg (a1, a2) (fun _ => true) (ws.take k)).length ≤ 12 := Nat.le_trans (qsW_len _ _ _ _ _) (Nat.le_trans (List.length_take_le _ _) (by have := HOk.out.len; have := HN.out; omega))
      have f3 := sumL_step hqs f2 hql
      have HQ : Hid (qsW wd hg (a1, a2) (fun _ => true) (ws.take (k + 1)) = qsW wd hg (a1, a2) (fun _ => true) (ws.take k) ++ [fromW wd hg (a1, a2) x]) := Lib.hid (by rw [HT.out]; exact qsW_hit _ _ _ _ _ _ rfl)
      have HFr := Lib.hid (fun (V : World) hV => l03From_any wd hg (.slice (some ⟨g, o, none⟩) n cap) x hfx HRB.out a1 a2 HAt.out gb T fr V hV)
      have z1 : (k : Int) < (n : Int) := by omega
      have z2 : (0 : Int) ≤ (k : Int) := by omega
      have z3 : decide ((k : Int) < (n : Int)) = true := decide_eq_true z1
      have ra : ∀ T w, (binOp .add T (.float .f32 (sumL (qsW wd hg (a1, a2) (fun _ => true) (ws.take k)))) (.float .f32 (fromW wd hg (a1, a2) x))).run Tryd.prog w = .ok (.float .f32 (sumL (qsW wd hg (a1, a2) (fun _ => true) (ws.take k) ++ [fromW wd hg (a1, a2) x]))) w := fun T w => run_float_arith w .add T .f32 _ _ _ f3
      clear hc hx hts hmem hfx f2 f3 hqs hql
      go_wp2
      refine wp_region_held_drew (S := (fun W => W.heap[gb]? = some (.cells (roomC wd hg (.slice (some ⟨g, o, none⟩) n cap)) T fr) ∧ W.heap[w.heap.size]? = some (.cells (tileC a1 a2) 48 (0, 0)) ∧ (∀ j v, (winC x)[j]? = some v → W.cell? ⟨g, o + k * 3 + j, none⟩ = some v) ∧ Below w.heap.size w W)) (by kernel_rfl) ⟨H0.out, H1.out, HCl.out, hb.drew⟩ (fun hHeld => ?_)
      refine take_op (i := 0) (d := 16) (v := ?_) rfl rfl (by kernel_rfl) (by kernel_rfl) (by kernel_rfl) (fun _ _ _ h => h) (Or.inl ⟨by rfl, ?hy0u1⟩) hHeld ?rest0u1
      case hy0u1 =>
        intro w' hS'
        go_simp
        try with_reducible rfl
      simp only [List.setIfInBounds_toArray, List.set_cons_zero, List.set_cons_succ]
      refine take_op (i := 1) (d := 17) (v := ?_) rfl rfl (by kernel_rfl) (by kernel_rfl) (by kernel_rfl) (fun _ _ _ h => h) (Or.inl ⟨by rfl, ?hy1u2⟩) hHeld ?rest1u2
      case hy1u2 =>
        intro w' hS'
        go_simp
        try with_reducible rfl
      simp only [List.setIfInBounds_toArray, List.set_cons_zero, List.set_cons_succ]
      refine take_op (i := 2) (d := 18) (v := ?_) rfl rfl (by kernel_rfl) (by kernel_rfl) (by kernel_rfl) (fun _ _ _ h => h) (Or.inl ⟨by rfl, ?hy2u3⟩) hHeld ?rest2u3
      case hy2u3 =>
        intro w' hS'
        go_simp
        try with_reducible rfl
      simp only [List.setIfInBounds_toArray, List.set_cons_zero, List.set_cons_succ]
      refine take_op (i := 3) (d := 19) (v := ?_) rfl rfl (by kernel_rfl) (by kernel_rfl) (by kernel_rfl) (fun _ _ _ h => h) (Or.inl ⟨by rfl, ?hy3u4⟩) hHeld ?rest3u4
      case hy3u4 =>
        intro w' hS'
        go_simp
        try with_reducible rfl
      simp only [List.setIfInBounds_toArray, List.set_cons_zero, List.set_cons_succ]
      refine take_op (i := 4) (d := 20) (v := ?_) rfl rfl (by kernel_rfl) (by kernel_rfl) (by kernel_rfl) (fun _ _ _ h => h) (Or.inl ⟨by rfl, ?hy4u5⟩) hHeld ?rest4u5
      case hy4u5 =>
        intro w' hS'
        go_simp
        try with_reducible rfl
      simp only [List.setIfInBounds_toArray, List.set_cons_zero, List.set_cons_succ]
      refine take_op (i := 5) (d := 21) (v := ?_) rfl rfl (by kernel_rfl) (by kernel_rfl) (by kernel_rfl) (fun _ _ _ h => h) (Or.inl ⟨by rfl, ?hy5u6⟩) hHeld ?rest5u6
      case hy5u6 =>
        intro w' hS'
        obtain ⟨s1, _⟩ := hS'
        obtain ⟨r0, r1, r2⟩ := room_cells s1
        clear s1
        go_simp
        try with_reducible rfl
      simp only [List.setIfInBounds_toArray, List.set_cons_zero, List.set_cons_succ]
      refine take_op (i := 6) (d := 22) (v := ?_) rfl rfl (by kernel_rfl) (by kernel_rfl) (by kernel_rfl) (fun _ _ _ h => h) (Or.inl ⟨by rfl, ?hy6u7⟩) hHeld ?rest6u7
      case hy6u7 =>
        intro w' hS'
        go_simp
        try with_reducible rfl
      simp only [List.setIfInBounds_toArray, List.set_cons_zero, List.set_cons_succ]
      refine take_op (i := 7) (d := 23) (v := ?_) rfl rfl (by kernel_rfl) (by kernel_rfl) (by kernel_rfl) (fun _ _ _ h => h) (Or.inl ⟨by rfl, ?hy7u8⟩) hHeld ?rest7u8
      case hy7u8 =>
        intro w' hS'
        go_simp
        try with_reducible rfl
      simp only [List.setIfInBounds_toArray, List.set_cons_zero, List.set_cons_succ]
      refine take_op (i := 8) (d := 24) (v := .agg (winC x)) rfl rfl (by kernel_rfl) (by kernel_rfl) (by kernel_rfl) (fun _ _ _ h => h) (yields_cells (by rfl) 68 (.tmp 23) (by rfl) g (o + k * 3) 3 (by rfl) _ Tryd.underlying68 rfl info_win (winC x) rfl (fun W h => h.2.2.1)) hHeld ?_
      simp only [List.setIfInBounds_toArray, List.set_cons_zero, List.set_cons_succ]
      refine take_op (i := 9) (d := 25) (v := .agg (tileC a1 a2)) rfl rfl (by kernel_rfl) (by kernel_rfl) (by kernel_rfl) (fun _ _ _ h => h) (yields_row (by rfl) 48 (.tmp 3) (by rfl) w.heap.size 0 2 (by rfl) 48 (tileC a1 a2) (0, 0) _ (fun _ h => h.2.1) Tryd.underlying48 rfl info_tile (tile_fits _ _) (tileC a1 a2) (tile_all _ _)) hHeld ?_
      simp only [List.setIfInBounds_toArray, List.set_cons_zero, List.set_cons_succ]
      refine wpAnyH_ready (rs := [10]) (by kernel_rfl) (by simp) ?_
      refine AllReadyH.cons rfl (fun K hK => ?_) AllReadyH.nil
      go_simp
      refine (HFr.out _ hHeld.1).mono ?_
      rintro e W1 ⟨rfl, hb1⟩
      refine hK.out _ _ (⟨below_row hb1 hHeld.1, below_row hb1 hHeld.2.1, fun j v h => cell_below hb1 (hHeld.2.2.1 j v h), hHeld.2.2.2.trans (hb1.mono hHeld.2.2.2.size)⟩) (fun hHeld2 => ?_)
      clear hK K
      replace hHeld := hHeld2
      clear hHeld2
      refine take_op (i := 11) (d := 27) (v := ?_) rfl rfl (by kernel_rfl) (by kernel_rfl) (by kernel_rfl) (fun _ _ _ h => h) (Or.inl ⟨by rfl, ?hy11u9⟩) hHeld ?rest11u9
      case hy11u9 =>
        intro w' hS'
        go_simp
        try with_reducible rfl
      simp only [List.setIfInBounds_toArray, List.set_cons_zero, List.set_cons_succ]
      refine take_op (i := 12) (d := 5) (v := ?_) rfl rfl (by kernel_rfl) (by kernel_rfl) (by kernel_rfl) (fun _ _ _ h => h) (Or.inl ⟨by rfl, ?hy12u10⟩) hHeld ?rest12u10
      case hy12u10 =>
        intro w' hS'
        go_simp
        try with_reducible rfl
      simp only [List.setIfInBounds_toArray, List.set_cons_zero, List.set_cons_succ]
      refine wpAnyH_done (by kernel_rfl) ?_ _
      have HH := Lib.hid hHeld
      clear hHeld ra hb H0 H1 r0 r1 r2
      go_wp2
      go_roundw
      case rel => exact ⟨k + 1, by omega, by go_num, by rw [HQ.out], HH.out.2.2.2, HH.out.1, HH.out.2.1⟩
      case measure => simp [intOf]; omega
    · obtain rfl : k = n := by omega
      have HL : Hid (ws.take k = ws) := Lib.hid (List.take_of_length_le (by rw [HN.out]; exact Nat.le_refl _))
      go_wp2
      go_ret
      refine ⟨?_, hb⟩
      rw [litW, HL.out]; rfl

end Go.Proofs.YtddnfbpgldchcaaDoor
