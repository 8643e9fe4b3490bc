/-
  The light that a tile gets from those windows that count: the program's walk.
-/
import Derived.Test.YtddnfbpgldchcaaDoorPlace2
import Derived.IntWalk
namespace Go.Proofs.YtddnfbpgldchcaaDoor
open Go.RowKit

attribute [local go_sem] run_store_f

set_option maxRecDepth 100000 in
set_option maxHeartbeats 1000000 in
theorem lightFrom_any (wd hg : Int) (sv : Value) (ws : List Wn) (ok : RmOk wd hg ws) (hwf : ∀ x ∈ ws, WnWf x) (a1 a2 : Int) (ha : inRoom wd hg (a1, a2)) (Fc : FuncId) (hE : ∀ args w, (callFunc Fc args).run Tryd.prog w = .ok (.enter Fc args) w) (lbw : Array Value) (c : Wn → Bool) (C : World → Prop) (w : World) (hws : WinsAt w sv ws)
    (hC : ∀ W, Below w.heap.size w W → C W)
    (hP : ∀ (x : Wn) (W : World), FitOk wd hg x → C W → Calls Tryd.prog Fc (#[.agg (winC x), .agg (tileC (tlW wd hg x).1 (tlW wd hg x).2)] ++ lbw) W fun e W' => e = .returned (.bool (c x)) ∧ Below W.heap.size W W') :
    Calls Tryd.prog 56 #[.agg (roomC wd hg sv), .agg (tileC a1 a2), .func (.func Fc) #[] lbw] w fun e w' => e = .returned (.float .f32 (litW wd hg (a1, a2) c ws)) ∧ Below w.heap.size w w' := by
  have HW := Lib.hid hws
  have HOk := Lib.hid ok
  have HF := Lib.hid hwf
  have HCc := Lib.hid hC
  have HPp := Lib.hid hP
  have HAt := Lib.hid ha
  obtain ⟨a, cap, rfl, hl1, hl2, _⟩ := hws
  unfold maxLen at hl2
  generalize hn : ws.length = n at *
  have HN := Lib.hid hn
  have hrb : RB wd hg := ⟨ok.w0, ok.w1, ok.h0, ok.h1⟩
  have HRB := Lib.hid hrb
  have HA : Hid (0 ≤ a1 ∧ a1 ≤ 9 ∧ 0 ≤ a2 ∧ a2 ≤ 9) := by
    obtain ⟨p1, p2, p3, p4⟩ := ha
    have := ok.w1
    have := ok.h1
    dsimp only at *
    exact Lib.hid ⟨by omega, by omega, by omega, by omega⟩
  clear hn hC hP hwf ha ok hrb
  go_enter Tryd.func56, Tryd.ntmps56
  go_upto_region 2 with (fail)
  refine abs_world (fun W => W.heap[w.heap.size]? = some (.cells (roomC wd hg (.slice a n cap)) 33 (0, 0)) ∧ W.heap[w.heap.size + 1]? = some (.cells (tileC a1 a2) 48 (0, 0)) ∧ Below w.heap.size w W) (two_at w (.cells (roomC wd hg (.slice a n cap)) 33) (.cells (tileC a1 a2) 48)) ?_
  rintro W ⟨h0, h1, hb⟩
  obtain ⟨r0, r1, r2⟩ := room_cells h0
  have H0 := Lib.hid h0
  have H1 := Lib.hid h1
  clear h0 h1
  go_wp2
  go_loopw [7, 14] (fun q i wr => ∃ k : Nat, k ≤ n ∧ i = .int .i64 k ∧ q = .float .f32 (sumL (qsW wd hg (a1, a2) c (ws.take k))) ∧ Below w.heap.size w wr ∧ wr.heap[w.heap.size]? = some (.cells (roomC wd hg (.slice a n cap)) 33 (0, 0)) ∧ wr.heap[w.heap.size + 1]? = some (.cells (tileC a1 a2) 48 (0, 0))) (fun _ i _ => n - (intOf i).toNat)
  case atStart => exact ⟨0, Nat.zero_le _, rfl, rfl, hb, H0.out, H1.out⟩
  case round =>
    clear H0 H1 hb r0 r1 r2
    obtain ⟨k, hk, rfl, rfl, hb, h0, h1⟩ := hrel
    have H0 := Lib.hid h0
    have H1 := Lib.hid h1
    have hl1' := row_lt h1
    clear h0 h1
    by_cases hlt : k < n
    · have hx : ws[k]? = some (ws[k]'(by rw [HN.out]; exact hlt)) := List.getElem?_eq_getElem _
      obtain ⟨g, o, rfl, hc⟩ := win_at (wins_below HW.out hb) hx
      have HCl := Lib.hid hc
      have hts : ws.take (k + 1) = ws.take k ++ [ws[k]'(by rw [HN.out]; exact hlt)] := by rw [List.take_succ_eq_append_getElem]
      have hmem := List.mem_of_getElem? hx
      generalize (ws[k]'(by rw [HN.out]; exact hlt)) = x at *
      have hfx : FitOk wd hg x := fit_get (HF.out x hmem) (HOk.out.all x hmem)
      have HT := Lib.hid hts
      have HFx := Lib.hid hfx
      obtain ⟨f1, f2⟩ := from_facts HOk.out.w0 HOk.out.w1 HOk.out.h0 HOk.out.h1 HAt.out hfx
      have hin := tlW_in HOk.out.w0 HOk.out.h0 hfx
      have hsq := sqT_le HOk.out.w1 HOk.out.h1 HAt.out hin
      have hqs : ∀ q ∈ qsW wd hg (a1, a2) c (ws.take k), PartOk q := qsW_ok HOk.out.w0 HOk.out.w1 HOk.out.h0 HOk.out.h1 HAt.out (fun y hy => fit_get (HF.out y (List.mem_of_mem_take hy)) (HOk.out.all y (List.mem_of_mem_take hy)))
      have hql : (qsW wd hg (a1, a2) c (ws.take k)).length ≤ 12 := Nat.le_trans (qsW_len _ _ _ _ _) (Nat.le_trans (List.length_take_le _ _) (by have := HOk.out.len; have := HN.out; omega))
      have f3 := sumL_step hqs f2 hql
      have HPl := Lib.hid (fun w => placeOf_any wd hg (.slice (some ⟨g, o, none⟩) n cap) x hfx HRB.out w)
      have HPx := Lib.hid (fun W hW => HPp.out x W hfx hW)
      obtain ⟨t1, t2, htl⟩ : ∃ t1 t2, tlW wd hg x = (t1, t2) := ⟨_, _, rfl⟩
      have HB : Hid (0 ≤ t1 ∧ t1 ≤ 9 ∧ 0 ≤ t2 ∧ t2 ≤ 9) := by
        rw [htl] at hin
        obtain ⟨p1, p2, p3, p4⟩ := hin
        have := HOk.out.w1
        have := HOk.out.h1
        dsimp only at *
        exact Lib.hid ⟨by omega, by omega, by omega, by omega⟩
      unfold Hid at HPl HPx
      rw [htl] at f1 hsq HPl HPx
      dsimp only at HPl HPx
      have HPl2 := Lib.hid HPl
      have HPx2 := Lib.hid HPx
      have HQ1 : Hid (c x = true → qsW wd hg (a1, a2) c (ws.take (k + 1)) = qsW wd hg (a1, a2) c (ws.take k) ++ [fromW wd hg (a1, a2) x]) := Lib.hid (fun h => by rw [HT.out]; exact qsW_hit _ _ _ _ _ _ h)
      have HQ2 : Hid (c x = false → qsW wd hg (a1, a2) c (ws.take (k + 1)) = qsW wd hg (a1, a2) c (ws.take k)) := Lib.hid (fun h => by rw [HT.out]; exact qsW_miss _ _ _ _ _ _ h)
      have z1 : (k : Int) < (n : Int) := by omega
      have z2 : (0 : Int) ≤ (k : Int) := by omega
      obtain ⟨s0, s1⟩ := hsq
      have rq : ∀ T w, (binOp .quo T (.float .f32 x.2.2) (.float .f32 (floatOfInt .f32 (1 + sqT (a1, a2) (t1, t2))))).run Tryd.prog w = .ok (.float .f32 (fromW wd hg (a1, a2) x)) w := fun T w => run_float_arith w .quo T .f32 _ _ _ f1
      have ra : ∀ T w, (binOp .add T (.float .f32 (sumL (qsW wd hg (a1, a2) c (ws.take k)))) (.float .f32 (fromW wd hg (a1, a2) x))).run Tryd.prog w = .ok (.float .f32 (sumL (qsW wd hg (a1, a2) c (ws.take k) ++ [fromW wd hg (a1, a2) x]))) w := fun T w => run_float_arith w .add T .f32 _ _ _ f3
      have u1 : IntKind.i16.wrap (1 + sqT (a1, a2) (t1, t2)) = 1 + sqT (a1, a2) (t1, t2) := IntWalk.i16_in _ (by omega)
      clear hc hx hts hmem hfx f1 f2 f3 hin hqs hql HPl HPx htl s0 s1
      go_upto_region 5 with (first | (refine wpList_load_cells rfl 68 _ rfl g (o + k * 3) 3 rfl _ Tryd.underlying68 rfl info_win (winC x) rfl HCl.out ?_) | (refine wpList_store_part rfl 68 _ _ rfl _ 0 (winC x) rfl rfl 68 _ (heap_alloc_new _ _) (by kernel_rfl) (Nat.le_refl _) (win_one _) ?_; rw [laid_allr _ _ (by rfl)]))
      refine abs_world (fun V => Below wr.heap.size wr V ∧ V.heap[wr.heap.size]? = some (.cells (winC x) 68 (0, 0))) ⟨below_setRow ((Below.refl _ _).alloc (Nat.le_refl _) _) (Nat.le_refl _) _, setRow_heap _ _ _ _ _ _ (heap_alloc_new _ _)⟩ ?_
      have hwb : w.heap.size + 1 < wr.heap.size := hl1'
      have HBr := Lib.hid hb
      clear hb hl1'
      rintro V1 ⟨hb1, h2⟩
      have hb := HBr.out.trans (hb1.mono HBr.out.size)
      replace H0 := Lib.hid (below_row hb1 H0.out); replace H1 := Lib.hid (below_row hb1 H1.out)
      have H2 := Lib.hid h2
      clear hb1 h2 HBr
      generalize wr.heap.size = wb at *
      go_upto_region 6 with (first | (refine wpList_load_part rfl 33 _ rfl w.heap.size 0 3 rfl 33 (roomC wd hg (.slice (some ⟨g, o, none⟩) n cap)) (0, 0) _ H0.out Tryd.underlying33 rfl info_room (room_fits _ _ _) _ (room_all _ _ _) ?_) | (refine wpList_load_part rfl 68 _ rfl wb 0 3 rfl 68 (winC x) (0, 0) _ H2.out Tryd.underlying68 rfl info_win (win_fits _) _ (win_all _) ?_) | (go_at_call 58; refine (HPl2.out _).mono ?_; rintro e W5 ⟨rfl, hb5⟩) | (refine wpList_store_part rfl 48 _ _ rfl _ 0 (tileC t1 t2) rfl rfl 48 _ (heap_alloc_new _ _) (by kernel_rfl) (Nat.le_refl _) (tile_one _ _) ?_; rw [laid_allr _ _ (by rfl)]))
      refine abs_world (fun V => Below W5.heap.size W5 V ∧ V.heap[W5.heap.size]? = some (.cells (tileC t1 t2) 48 (0, 0))) ⟨below_setRow ((Below.refl _ _).alloc (Nat.le_refl _) _) (Nat.le_refl _) _, setRow_heap _ _ _ _ _ _ (heap_alloc_new _ _)⟩ ?_
      rintro V2 ⟨hb6, h3⟩
      replace H0 := Lib.hid (below_row hb6 (below_row hb5 H0.out))
      replace H1 := Lib.hid (below_row hb6 (below_row hb5 H1.out))
      replace H2 := Lib.hid (below_row hb6 (below_row hb5 H2.out))
      replace hb := (hb.trans (hb5.mono hb.size)).trans (hb6.mono (hb.trans (hb5.mono hb.size)).size)
      have H3 := Lib.hid h3
      clear hb5 hb6 h3
      generalize W5.heap.size = tb at *
      have HPv := Lib.hid (HPx2.out V2 (HCc.out V2 hb))
      cases hcx : c x with
      | true =>
        unfold Hid at HPv
        rw [hcx] at HPv
        have HPw := Lib.hid HPv
        have HQ := Lib.hid (HQ1.out hcx)
        clear HPv hcx HQ1 HQ2 HPx2
        go_upto_region 7 with (first | (refine wpList_load_part rfl 68 _ rfl wb 0 3 rfl 68 (winC x) (0, 0) _ H2.out Tryd.underlying68 rfl info_win (win_fits _) _ (win_all _) ?_) | (refine wpList_load_part rfl 48 _ rfl tb 0 2 rfl 48 (tileC t1 t2) (0, 0) _ H3.out Tryd.underlying48 rfl info_tile (tile_fits _ _) _ (tile_all _ _) ?_) | (refine HPw.out.mono ?_; rintro e W7 ⟨rfl, hb7⟩))
        replace H0 := Lib.hid (below_row hb7 H0.out)
        replace H1 := Lib.hid (below_row hb7 H1.out)
        replace H2 := Lib.hid (below_row hb7 H2.out)
        replace H3 := Lib.hid (below_row hb7 H3.out)
        replace hb := hb.trans (hb7.mono hb.size)
        clear hb7
        refine wp_region_held_drew (S := (fun W => W.heap[w.heap.size]? = some (.cells (roomC wd hg (.slice (some ⟨g, o, none⟩) n cap)) 33 (0, 0)) ∧ W.heap[w.heap.size + 1]? = some (.cells (tileC a1 a2) 48 (0, 0)) ∧ W.heap[wb]? = some (.cells (winC x) 68 (0, 0)) ∧ W.heap[tb]? = some (.cells (tileC t1 t2) 48 (0, 0)) ∧ Below w.heap.size w W)) (by kernel_rfl) ⟨H0.out, H1.out, H2.out, H3.out, hb.drew⟩ (fun hHeld => ?_)
        refine take_op (i := 0) (d := 25) (v := ?_) rfl rfl (by kernel_rfl) (by kernel_rfl) (by kernel_rfl) (fun _ _ _ h => h) (Or.inl ⟨by rfl, ?hy0u34⟩) hHeld ?rest0u34
        case hy0u34 =>
          intro w' hS'
          go_simp
          try with_reducible rfl
        simp only [List.setIfInBounds_toArray, List.set_cons_zero, List.set_cons_succ]
        refine take_op (i := 1) (d := 26) (v := ?_) rfl rfl (by kernel_rfl) (by kernel_rfl) (by kernel_rfl) (fun _ _ _ h => h) (Or.inl ⟨by rfl, ?hy1u35⟩) hHeld ?rest1u35
        case hy1u35 =>
          intro w' hS'
          go_simp
          try with_reducible rfl
        simp only [List.setIfInBounds_toArray, List.set_cons_zero, List.set_cons_succ]
        refine take_op (i := 2) (d := 27) (v := ?_) rfl rfl (by kernel_rfl) (by kernel_rfl) (by kernel_rfl) (fun _ _ _ h => h) (Or.inl ⟨by rfl, ?hy2u36⟩) hHeld ?rest2u36
        case hy2u36 =>
          intro w' hS'
          obtain ⟨_, _, s1, _⟩ := hS'
          obtain ⟨k0, k1, k2⟩ := win_cells s1
          clear s1
          go_simp
          try with_reducible rfl
        simp only [List.setIfInBounds_toArray, List.set_cons_zero, List.set_cons_succ]
        refine take_op (i := 3) (d := 28) (v := .agg (tileC a1 a2)) rfl rfl (by kernel_rfl) (by kernel_rfl) (by kernel_rfl) (fun _ _ _ h => h) (yields_row (by rfl) 48 (.tmp 4) (by rfl) (w.heap.size + 1) 0 2 (by rfl) 48 (tileC a1 a2) (0, 0) _ (fun _ h => h.2.1) Tryd.underlying48 rfl info_tile (tile_fits _ _) (tileC a1 a2) (tile_all _ _)) hHeld ?_
        simp only [List.setIfInBounds_toArray, List.set_cons_zero, List.set_cons_succ]
        refine take_op (i := 4) (d := 29) (v := .agg (tileC t1 t2)) rfl rfl (by kernel_rfl) (by kernel_rfl) (by kernel_rfl) (fun _ _ _ h => h) (yields_row (by rfl) 48 (.tmp 10) (by rfl) tb 0 2 (by rfl) 48 (tileC t1 t2) (0, 0) _ (fun _ h => h.2.2.2.1) Tryd.underlying48 rfl info_tile (tile_fits _ _) (tileC t1 t2) (tile_all _ _)) hHeld ?_
        simp only [List.setIfInBounds_toArray, List.set_cons_zero, List.set_cons_succ]
        refine wpAnyH_ready (rs := [5]) (by kernel_rfl) (by simp) ?_
        refine AllReadyH.cons rfl (fun K hK => ?_) AllReadyH.nil
        go_simp
        refine (squares_any a1 a2 t1 t2 HA.out HB.out _).mono ?_
        rintro e W1 ⟨rfl, hb1⟩
        refine hK.out _ _ (⟨below_row hb1 hHeld.1, below_row hb1 hHeld.2.1, below_row hb1 hHeld.2.2.1, below_row hb1 hHeld.2.2.2.1, hHeld.2.2.2.2.trans (hb1.mono hHeld.2.2.2.2.size)⟩) (fun hHeld2 => ?_)
        clear hK K
        replace hHeld := hHeld2
        clear hHeld2
        refine take_op (i := 6) (d := 31) (v := ?_) rfl rfl (by kernel_rfl) (by kernel_rfl) (by kernel_rfl) (fun _ _ _ h => h) (Or.inl ⟨by rfl, ?hy6u37⟩) hHeld ?rest6u37
        case hy6u37 =>
          intro w' hS'
          go_simp
          try with_reducible rfl
        simp only [List.setIfInBounds_toArray, List.set_cons_zero, List.set_cons_succ]
        refine take_op (i := 7) (d := 32) (v := ?_) rfl rfl (by kernel_rfl) (by kernel_rfl) (by kernel_rfl) (fun _ _ _ h => h) (Or.inl ⟨by rfl, ?hy7u38⟩) hHeld ?rest7u38
        case hy7u38 =>
          intro w' hS'
          go_simp
          try with_reducible rfl
        simp only [List.setIfInBounds_toArray, List.set_cons_zero, List.set_cons_succ]
        refine take_op (i := 8) (d := 33) (v := ?_) rfl rfl (by kernel_rfl) (by kernel_rfl) (by kernel_rfl) (fun _ _ _ h => h) (Or.inl ⟨by rfl, ?hy8u39⟩) hHeld ?rest8u39
        case hy8u39 =>
          intro w' hS'
          go_simp
          try with_reducible rfl
        simp only [List.setIfInBounds_toArray, List.set_cons_zero, List.set_cons_succ]
        refine take_op (i := 9) (d := 34) (v := ?_) rfl rfl (by kernel_rfl) (by kernel_rfl) (by kernel_rfl) (fun _ _ _ h => h) (Or.inl ⟨by rfl, ?hy9u40⟩) hHeld ?rest9u40
        case hy9u40 =>
          intro w' hS'
          go_simp
          try with_reducible rfl
        simp only [List.setIfInBounds_toArray, List.set_cons_zero, List.set_cons_succ]
        refine take_op (i := 10) (d := 7) (v := ?_) rfl rfl (by kernel_rfl) (by kernel_rfl) (by kernel_rfl) (fun _ _ _ h => h) (Or.inl ⟨by rfl, ?hy10u41⟩) hHeld ?rest10u41
        case hy10u41 =>
          intro w' hS'
          go_simp
          try with_reducible rfl
        simp only [List.setIfInBounds_toArray, List.set_cons_zero, List.set_cons_succ]
        refine wpAnyH_done (by kernel_rfl) ?_ _
        have HH := Lib.hid hHeld
        clear hHeld u1 rq ra hb H0 H1 H2 H3
        go_wp2
        go_roundw
        case rel =>
          refine ⟨k + 1, by omega, by go_num, by rw [HQ.out], HH.out.2.2.2.2, HH.out.1, HH.out.2.1⟩
        case measure => simp [intOf]; omega
      | false =>
        unfold Hid at HPv
        rw [hcx] at HPv
        have HPw := Lib.hid HPv
        have HQ := Lib.hid (HQ2.out hcx)
        clear HPv hcx HQ1 HQ2 HPx2
        go_wp2_with (first | (refine wpList_load_part rfl 68 _ rfl wb 0 3 rfl 68 (winC x) (0, 0) _ H2.out Tryd.underlying68 rfl info_win (win_fits _) _ (win_all _) ?_) | (refine wpList_load_part rfl 48 _ rfl tb 0 2 rfl 48 (tileC t1 t2) (0, 0) _ H3.out Tryd.underlying48 rfl info_tile (tile_fits _ _) _ (tile_all _ _) ?_) | (refine HPw.out.mono ?_; rintro e W7 ⟨rfl, hb7⟩))
        go_roundw
        case rel =>
          refine ⟨k + 1, by omega, by go_num, by rw [HQ.out], hb.trans (hb7.mono hb.size), below_row hb7 H0.out, below_row hb7 H1.out⟩
        case measure => simp [intOf]; omega
    · obtain rfl : k = n := by omega
      have HL : Hid (ws.take k = ws) := Lib.hid (List.take_of_length_le (by rw [HN.out]; exact Nat.le_refl _))
      go_wp2
      go_ret
      refine ⟨?_, hb⟩
      rw [litW, HL.out]; rfl

end Go.Proofs.YtddnfbpgldchcaaDoor
