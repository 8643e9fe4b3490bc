/-
  The glare of a desk: the model's sum.
-/
import Derived.Test.YtckkemknajggpaaGreatDoorGlareA
namespace Go.Proofs.YtckkemknajggpaaGreatDoor
open Go.RowKit

attribute [local go_sem] run_store_f

set_option maxRecDepth 100000 in
set_option maxHeartbeats 1000000 in
theorem l03Glare_any (wd hg : Int) (sv : Value) (ws : List Wn) (ok : RmOk wd hg ws) (hwf : ∀ x ∈ ws, WnWf x) (a1 a2 a3 : Int) (ha : inRoom wd hg (a1, a2)) (gb : Nat) (T : TypeId) (fr : Nat × Nat) (w : World) (hb0 : w.heap[gb]? = some (.cells (roomC wd hg sv) T fr)) (hws : WinsAt w sv ws) :
    Calls Tryz.prog 58 #[.pointer (some ⟨gb, 0, none⟩), .agg (deskC a1 a2 a3)] w fun e w' => e = .returned (.float .f32 (litW wd hg (a1, a2) (glW wd hg a1 a2 a3) ws)) ∧ Below w.heap.size w w' := by
  have HW := Lib.hid hws
  have HOk := Lib.hid ok
  have HF := Lib.hid hwf
  have HAt := Lib.hid ha
  have H0 := Lib.hid hb0
  obtain ⟨a, cap, rfl, hl1, hl2, _⟩ := hws
  unfold maxLen at hl2
  generalize hn : ws.length = n at *
  have HN := Lib.hid hn
  have HRB := Lib.hid (show RB wd hg from ⟨ok.w0, ok.w1, ok.h0, ok.h1⟩)
  clear hn hwf ha ok hb0
  go_enter Tryz.func58, Tryz.ntmps58
  go_upto_region 1 with (fail)
  refine abs_world (fun W => Below w.heap.size w W ∧ W.heap[w.heap.size]? = some (.cells (deskC a1 a2 a3) 65 (0, 0))) ⟨(Below.refl _ _).alloc (Nat.le_refl _) _, heap_alloc_new _ _⟩ ?_
  rintro W ⟨hb, h1⟩
  replace H0 := Lib.hid (below_row hb H0.out)
  have H1 := Lib.hid h1
  clear h1
  go_wp2
  go_loopw [5, 6] (fun q i wr => ∃ k : Nat, k ≤ n ∧ i = .int .i64 k ∧ q = .float .f32 (sumL (qsW wd hg (a1, a2) (glW wd hg a1 a2 a3) (ws.take k))) ∧ Below w.heap.size w wr ∧ wr.heap[gb]? = some (.cells (roomC wd hg (.slice a n cap)) T fr) ∧ wr.heap[w.heap.size]? = some (.cells (deskC a1 a2 a3) 65 (0, 0))) (fun _ i _ => n - (intOf i).toNat)
  case atStart => exact ⟨0, Nat.zero_le _, rfl, rfl, hb, H0.out, H1.out⟩
  case round =>
    clear H0 H1 hb
    obtain ⟨k, hk, rfl, rfl, hb, h0, h1⟩ := hrel
    have H0 := Lib.hid h0
    have H1 := Lib.hid h1
    obtain ⟨r0, r1, r2⟩ := room_cells h0
    clear h0 h1
    by_cases hlt : k < n
    · have hx : ws[k]? = some (ws[k]'(by rw [HN.out]; exact hlt)) := List.getElem?_eq_getElem _
      obtain ⟨g, o, rfl, hc⟩ := win_at (wins_below HW.out hb) hx
      have HCl := Lib.hid hc
      have hts : ws.take (k + 1) = ws.take k ++ [ws[k]'(by rw [HN.out]; exact hlt)] := by rw [List.take_succ_eq_append_getElem]
      have hmem := List.mem_of_getElem? hx
      generalize (ws[k]'(by rw [HN.out]; exact hlt)) = x at *
      have hfx : FitOk wd hg x := fit_get (HF.out x hmem) (HOk.out.all x hmem)
      have HT := Lib.hid hts
      obtain ⟨_, f2⟩ := from_facts HOk.out.w0 HOk.out.w1 HOk.out.h0 HOk.out.h1 HAt.out hfx
      have hqs : ∀ q ∈ qsW wd hg (a1, a2) (glW wd hg a1 a2 a3) (ws.take k), PartOk q := qsW_ok HOk.out.w0 HOk.out.w1 HOk.out.h0 HOk.out.h1 HAt.out (fun y hy => fit_get (HF.out y (List.mem_of_mem_take hy)) (HOk.out.all y (List.mem_of_mem_take hy)))
      have hql : (qsW wd hg (a1, a2) (glW wd hg a1 a2 a3) (ws.take k)).length ≤ 12 := Nat.le_trans (qsW_len _ _ _ _ _) (Nat.le_trans (List.length_take_le _ _) (by have := HOk.out.len; have := HN.out; omega))
      have f3 := sumL_step hqs f2 hql
      have HQ1 : Hid (glW wd hg a1 a2 a3 x = true → qsW wd hg (a1, a2) (glW wd hg a1 a2 a3) (ws.take (k + 1)) = qsW wd hg (a1, a2) (glW wd hg a1 a2 a3) (ws.take k) ++ [fromW wd hg (a1, a2) x]) := Lib.hid (fun h => by rw [HT.out]; exact qsW_hit _ _ _ _ _ _ h)
      have HQ2 : Hid (glW wd hg a1 a2 a3 x = false → qsW wd hg (a1, a2) (glW wd hg a1 a2 a3) (ws.take (k + 1)) = qsW wd hg (a1, a2) (glW wd hg a1 a2 a3) (ws.take k)) := Lib.hid (fun h => by rw [HT.out]; exact qsW_miss _ _ _ _ _ _ h)
      have HFr := Lib.hid (fun (V : World) hV => l03From_any wd hg (.slice (some ⟨g, o, none⟩) n cap) x hfx HRB.out a1 a2 HAt.out gb T fr V hV)
      have HAh := Lib.hid (fun (V : World) hV => l03Ahead_any wd hg (.slice (some ⟨g, o, none⟩) n cap) x hfx HRB.out a1 a2 a3 gb T fr V hV)
      have z1 : (k : Int) < (n : Int) := by omega
      have z2 : (0 : Int) ≤ (k : Int) := by omega
      have z3 : decide ((k : Int) < (n : Int)) = true := decide_eq_true z1
      have ra : ∀ T w, (binOp .add T (.float .f32 (sumL (qsW wd hg (a1, a2) (glW wd hg a1 a2 a3) (ws.take k)))) (.float .f32 (fromW wd hg (a1, a2) x))).run Tryz.prog w = .ok (.float .f32 (sumL (qsW wd hg (a1, a2) (glW wd hg a1 a2 a3) (ws.take k) ++ [fromW wd hg (a1, a2) x]))) w := fun T w => run_float_arith w .add T .f32 _ _ _ f3
      have hsz := row_lt H1.out
      clear hc hx hts hmem hfx f2 f3 hqs hql
      go_wp2
      refine wp_region_held_drew (S := (fun V => Below wr.heap.size wr V)) (by kernel_rfl) ((Below.refl _ _).drew) (fun hHeld => ?_)
      refine take_op (i := 0) (d := 16) (v := ?_) rfl rfl (by kernel_rfl) (by kernel_rfl) (by kernel_rfl) (fun _ _ _ h => h) (Or.inl ⟨by rfl, ?hy0u1⟩) hHeld ?rest0u1
      case hy0u1 =>
        intro w' hS'
        go_simp
        try with_reducible rfl
      simp only [List.setIfInBounds_toArray, List.set_cons_zero, List.set_cons_succ]
      refine take_op (i := 1) (d := 17) (v := .agg (deskC a1 a2 a3)) rfl rfl (by kernel_rfl) (by kernel_rfl) (by kernel_rfl) (fun _ _ _ h => h) (yields_row (by rfl) 65 (.tmp 3) (by rfl) w.heap.size 0 3 (by rfl) 65 (deskC a1 a2 a3) (0, 0) _ (fun _ h => below_row h H1.out) Tryz.underlying65 rfl info_desk (desk_fits _ _ _) (deskC a1 a2 a3) (desk_all _ _ _)) hHeld ?_
      simp only [List.setIfInBounds_toArray, List.set_cons_zero, List.set_cons_succ]
      refine take_op (i := 2) (d := 18) (v := ?_) rfl rfl (by kernel_rfl) (by kernel_rfl) (by kernel_rfl) (fun _ _ _ h => h) (Or.inl ⟨by rfl, ?hy2u2⟩) hHeld ?rest2u2
      case hy2u2 =>
        intro w' hS'
        go_simp
        try with_reducible rfl
      simp only [List.setIfInBounds_toArray, List.set_cons_zero, List.set_cons_succ]
      refine take_op (i := 3) (d := 19) (v := ?_) rfl rfl (by kernel_rfl) (by kernel_rfl) (by kernel_rfl) (fun _ _ _ h => h) (Or.inl ⟨by rfl, ?hy3u3⟩) hHeld ?rest3u3
      case hy3u3 =>
        intro w' hS'
        go_simp
        try with_reducible rfl
      simp only [List.setIfInBounds_toArray, List.set_cons_zero, List.set_cons_succ]
      refine take_op (i := 4) (d := 20) (v := ?_) rfl rfl (by kernel_rfl) (by kernel_rfl) (by kernel_rfl) (fun _ _ _ h => h) (Or.inl ⟨by rfl, ?hy4u4⟩) hHeld ?rest4u4
      case hy4u4 =>
        intro w' hS'
        go_simp
        try with_reducible rfl
      simp only [List.setIfInBounds_toArray, List.set_cons_zero, List.set_cons_succ]
      refine take_op (i := 5) (d := 21) (v := ?_) rfl rfl (by kernel_rfl) (by kernel_rfl) (by kernel_rfl) (fun _ _ _ h => h) (Or.inl ⟨by rfl, ?hy5u5⟩) hHeld ?rest5u5
      case hy5u5 =>
        intro w' hS'
        have r2 := cell_belowB hS' r2
        go_simp
        try with_reducible rfl
      simp only [List.setIfInBounds_toArray, List.set_cons_zero, List.set_cons_succ]
      refine take_op (i := 6) (d := 22) (v := ?_) rfl rfl (by kernel_rfl) (by kernel_rfl) (by kernel_rfl) (fun _ _ _ h => h) (Or.inl ⟨by rfl, ?hy6u6⟩) hHeld ?rest6u6
      case hy6u6 =>
        intro w' hS'
        go_simp
        try with_reducible rfl
      simp only [List.setIfInBounds_toArray, List.set_cons_zero, List.set_cons_succ]
      refine take_op (i := 7) (d := 23) (v := ?_) rfl rfl (by kernel_rfl) (by kernel_rfl) (by kernel_rfl) (fun _ _ _ h => h) (Or.inl ⟨by rfl, ?hy7u7⟩) hHeld ?rest7u7
      case hy7u7 =>
        intro w' hS'
        go_simp
        try with_reducible rfl
      simp only [List.setIfInBounds_toArray, List.set_cons_zero, List.set_cons_succ]
      refine take_op (i := 8) (d := 24) (v := .agg (winC x)) rfl rfl (by kernel_rfl) (by kernel_rfl) (by kernel_rfl) (fun _ _ _ h => h) (yields_cells (by rfl) 91 (.tmp 23) (by rfl) g (o + k * 3) 3 (by rfl) _ Tryz.underlying91 rfl info_win (winC x) rfl (fun _ h => (fun j v hj => cell_below h (HCl.out j v hj)))) hHeld ?_
      simp only [List.setIfInBounds_toArray, List.set_cons_zero, List.set_cons_succ]
      refine wpAnyH_ready (rs := [9]) (by kernel_rfl) (by simp) ?_
      refine AllReadyH.cons rfl (fun K hK => ?_) AllReadyH.nil
      go_simp
      refine (HAh.out _ (below_row hHeld H0.out)).mono ?_
      rintro e W1 ⟨rfl, hb1⟩
      refine hK.out _ _ (hHeld.trans (hb1.mono hHeld.size)) (fun hHeld2 => ?_)
      clear hK K
      replace hHeld := hHeld2
      clear hHeld2
      clear hb1
      refine wpAnyH_done (by kernel_rfl) ?_ _
      replace H0 := Lib.hid (below_row hHeld H0.out)
      replace H1 := Lib.hid (below_row hHeld H1.out)
      replace HCl := Lib.hid ((fun j v hj => cell_below hHeld (HCl.out j v hj)))
      replace r2 := cell_belowB hHeld r2
      replace hb := hb.trans (hHeld.mono hb.size)
      clear hHeld
      cases hgx : glW wd hg a1 a2 a3 x with
      | true =>
        have HQ := Lib.hid (HQ1.out hgx)
        clear HQ1 HQ2
        go_upto_region 6 with (fail)
        refine wp_region_held_drew (S := (fun V => Below W1.heap.size W1 V)) (by kernel_rfl) ((Below.refl _ _).drew) (fun hHeld => ?_)
        refine take_op (i := 0) (d := 26) (v := ?_) rfl rfl (by kernel_rfl) (by kernel_rfl) (by kernel_rfl) (fun _ _ _ h => h) (Or.inl ⟨by rfl, ?hy0u8⟩) hHeld ?rest0u8
        case hy0u8 =>
          intro w' hS'
          go_simp
          try with_reducible rfl
        simp only [List.setIfInBounds_toArray, List.set_cons_zero, List.set_cons_succ]
        refine take_op (i := 1) (d := 27) (v := ?_) rfl rfl (by kernel_rfl) (by kernel_rfl) (by kernel_rfl) (fun _ _ _ h => h) (Or.inl ⟨by rfl, ?hy1u9⟩) hHeld ?rest1u9
        case hy1u9 =>
          intro w' hS'
          go_simp
          try with_reducible rfl
        simp only [List.setIfInBounds_toArray, List.set_cons_zero, List.set_cons_succ]
        refine take_op (i := 2) (d := 28) (v := ?_) rfl rfl (by kernel_rfl) (by kernel_rfl) (by kernel_rfl) (fun _ _ _ h => h) (Or.inl ⟨by rfl, ?hy2u10⟩) hHeld ?rest2u10
        case hy2u10 =>
          intro w' hS'
          go_simp
          try with_reducible rfl
        simp only [List.setIfInBounds_toArray, List.set_cons_zero, List.set_cons_succ]
        refine take_op (i := 3) (d := 29) (v := ?_) rfl rfl (by kernel_rfl) (by kernel_rfl) (by kernel_rfl) (fun _ _ _ h => h) (Or.inl ⟨by rfl, ?hy3u11⟩) hHeld ?rest3u11
        case hy3u11 =>
          intro w' hS'
          go_simp
          try with_reducible rfl
        simp only [List.setIfInBounds_toArray, List.set_cons_zero, List.set_cons_succ]
        refine take_op (i := 4) (d := 30) (v := ?_) rfl rfl (by kernel_rfl) (by kernel_rfl) (by kernel_rfl) (fun _ _ _ h => h) (Or.inl ⟨by rfl, ?hy4u12⟩) hHeld ?rest4u12
        case hy4u12 =>
          intro w' hS'
          go_simp
          try with_reducible rfl
        simp only [List.setIfInBounds_toArray, List.set_cons_zero, List.set_cons_succ]
        refine take_op (i := 5) (d := 31) (v := ?_) rfl rfl (by kernel_rfl) (by kernel_rfl) (by kernel_rfl) (fun _ _ _ h => h) (Or.inl ⟨by rfl, ?hy5u13⟩) hHeld ?rest5u13
        case hy5u13 =>
          intro w' hS'
          have r2 := cell_belowB hS' r2
          go_simp
          try with_reducible rfl
        simp only [List.setIfInBounds_toArray, List.set_cons_zero, List.set_cons_succ]
        refine take_op (i := 6) (d := 32) (v := ?_) rfl rfl (by kernel_rfl) (by kernel_rfl) (by kernel_rfl) (fun _ _ _ h => h) (Or.inl ⟨by rfl, ?hy6u14⟩) hHeld ?rest6u14
        case hy6u14 =>
          intro w' hS'
          go_simp
          try with_reducible rfl
        simp only [List.setIfInBounds_toArray, List.set_cons_zero, List.set_cons_succ]
        refine take_op (i := 7) (d := 33) (v := ?_) rfl rfl (by kernel_rfl) (by kernel_rfl) (by kernel_rfl) (fun _ _ _ h => h) (Or.inl ⟨by rfl, ?hy7u15⟩) hHeld ?rest7u15
        case hy7u15 =>
          intro w' hS'
          go_simp
          try with_reducible rfl
        simp only [List.setIfInBounds_toArray, List.set_cons_zero, List.set_cons_succ]
        refine take_op (i := 8) (d := 34) (v := .agg (winC x)) rfl rfl (by kernel_rfl) (by kernel_rfl) (by kernel_rfl) (fun _ _ _ h => h) (yields_cells (by rfl) 91 (.tmp 33) (by rfl) g (o + k * 3) 3 (by rfl) _ Tryz.underlying91 rfl info_win (winC x) rfl (fun _ h => (fun j v hj => cell_below h (HCl.out j v hj)))) hHeld ?_
        simp only [List.setIfInBounds_toArray, List.set_cons_zero, List.set_cons_succ]
        refine take_op (i := 9) (d := 35) (v := ?_) rfl rfl (by kernel_rfl) (by kernel_rfl) (by kernel_rfl) (fun _ _ _ h => h) (Or.inl ⟨by rfl, ?hy9u16⟩) hHeld ?rest9u16
        case hy9u16 =>
          intro w' hS'
          go_simp
          try with_reducible rfl
        simp only [List.setIfInBounds_toArray, List.set_cons_zero, List.set_cons_succ]
        refine take_op (i := 10) (d := 36) (v := .agg (tileC a1 a2)) rfl rfl (by kernel_rfl) (by kernel_rfl) (by kernel_rfl) (fun _ _ _ h => h) (yields_row (by rfl) 63 (.tmp 35) (by rfl) w.heap.size 0 2 (by rfl) 65 (deskC a1 a2 a3) (0, 0) _ (fun _ h => below_row h H1.out) Tryz.underlying63 rfl info_tile (desk_fits2 _ _ _) (tileC a1 a2) (desk_tile _ _ _)) hHeld ?_
        simp only [List.setIfInBounds_toArray, List.set_cons_zero, List.set_cons_succ]
        refine wpAnyH_ready (rs := [11]) (by kernel_rfl) (by simp) ?_
        refine AllReadyH.cons rfl (fun K hK => ?_) AllReadyH.nil
        go_simp
        refine (HFr.out _ (below_row hHeld H0.out)).mono ?_
        rintro e W2 ⟨rfl, hb2⟩
        refine hK.out _ _ (hHeld.trans (hb2.mono hHeld.size)) (fun hHeld2 => ?_)
        clear hK K
        replace hHeld := hHeld2
        clear hHeld2
        clear hb2
        refine take_op (i := 12) (d := 38) (v := ?_) rfl rfl (by kernel_rfl) (by kernel_rfl) (by kernel_rfl) (fun _ _ _ h => h) (Or.inl ⟨by rfl, ?hy12u17⟩) hHeld ?rest12u17
        case hy12u17 =>
          intro w' hS'
          go_simp
          try with_reducible rfl
        simp only [List.setIfInBounds_toArray, List.set_cons_zero, List.set_cons_succ]
        refine take_op (i := 13) (d := 5) (v := ?_) rfl rfl (by kernel_rfl) (by kernel_rfl) (by kernel_rfl) (fun _ _ _ h => h) (Or.inl ⟨by rfl, ?hy13u18⟩) hHeld ?rest13u18
        case hy13u18 =>
          intro w' hS'
          go_simp
          try with_reducible rfl
        simp only [List.setIfInBounds_toArray, List.set_cons_zero, List.set_cons_succ]
        refine wpAnyH_done (by kernel_rfl) ?_ _
        replace H0 := Lib.hid (below_row hHeld H0.out)
        replace H1 := Lib.hid (below_row hHeld H1.out)
        replace HCl := Lib.hid ((fun j v hj => cell_below hHeld (HCl.out j v hj)))
        replace r2 := cell_belowB hHeld r2
        replace hb := hb.trans (hHeld.mono hb.size)
        clear hHeld
        have HH := Lib.hid (And.intro hb (And.intro H0.out H1.out))
        clear hb H0 H1 HCl r2 ra r0 r1
        go_wp2
        go_roundw
        case rel => exact ⟨k + 1, by omega, by go_num, by rw [HQ.out], HH.out.1, HH.out.2.1, HH.out.2.2⟩
        case measure => simp [intOf]; omega
      | false =>
        have HQ := Lib.hid (HQ2.out hgx)
        clear HQ1 HQ2
        have HH := Lib.hid (And.intro hb (And.intro H0.out H1.out))
        clear hb H0 H1 HCl r2 ra r0 r1
        go_wp2
        go_roundw
        case rel => exact ⟨k + 1, by omega, by go_num, by rw [HQ.out], HH.out.1, HH.out.2.1, HH.out.2.2⟩
        case measure => simp [intOf]; omega
    · obtain rfl : k = n := by omega
      have HL : Hid (ws.take k = ws) := Lib.hid (List.take_of_length_le (by rw [HN.out]; exact Nat.le_refl _))
      go_wp2
      go_ret
      refine ⟨?_, hb⟩
      rw [litW, HL.out]; rfl

end Go.Proofs.YtckkemknajggpaaGreatDoor
