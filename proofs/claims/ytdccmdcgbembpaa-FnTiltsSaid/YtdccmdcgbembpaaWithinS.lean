/-
  The tilts with which what passes is within bounds: the model's walk, and the law.
-/
import Derived.Test.YtdccmdcgbembpaaWithinN
import Derived.Test.YtdccmdcgbembpaaGap
namespace Go.Proofs.Ytdccmdcgbembpaa
open Go.ChangeShapes Go.WideShapes Go.ChangeAt Go.RowKit

attribute [local go_sem] run_store_f

set_option maxRecDepth 100000 in
set_option maxHeartbeats 1000000 in
theorem specWithin_yes (n : Int) (wd gp : Nat) (t : Int) (sh : Nat) (bw : BlWf n wd gp t sh) (h : Int) (lo hi : Nat) (hk : okBl n wd gp t sh = true) (hh : inI 1 64 h = true) (hp : partB lo = true) (hq : partB hi = true) (hwl : (Lit.float .f32 lo).wf = true) (hwh : (Lit.float .f32 hi).wf = true) (w : World) :
    Calls Try.prog 13 #[.agg (blindC n wd gp t sh), .int .i64 h, .float .f32 lo, .float .f32 hi] w (RetList (wantT (inBW wd gp sh h lo hi) (tls 129)) 0 w) := by
  obtain ⟨i0, hin, hz0, hz1, hz2⟩ := info_parts infoW
  obtain ⟨T0, T1⟩ := blwf_t bw
  obtain ⟨N0, N1⟩ := blwf_n bw
  obtain ⟨h0, h1⟩ := inI_get hh
  have OK := blok_of bw hk
  have WL := want_num (part_get hwl hp)
  have WH := want_num (part_get hwh hq)
  have HO := Lib.hid (fun (x : Int) (x0 : -64 ≤ x) (x1 : x ≤ 64) W hg => l02Pass_any n wd gp x sh (blok_tilt _ _ _ _ _ OK x0 x1) h h0 h1 w.heap.size 28 (0, 0) W hg)
  have HR : Hid (∀ x, (∃ o, FloatKind.f32.format.order (pasB wd gp x sh h) lo = some o) ∧ ∃ o, FloatKind.f32.format.order (pasB wd gp x sh h) hi = some o) := fun x => ⟨⟨_, order_num (.inl (pas_facts wd gp x OK.2.2.2.2.2.2.2.2 h).2.2.2.2) WL⟩, ⟨_, order_num (.inl (pas_facts wd gp x OK.2.2.2.2.2.2.2.2 h).2.2.2.2) WH⟩⟩
  have Hc : Hid (codeC (okBl n wd gp t sh) true = 0) := by rw [hk]; rfl
  have Hi := Lib.hid hh
  have Hp := Lib.hid hp
  have Hq := Lib.hid hq
  clear OK h0 h1 hk hh hp hq bw WL WH hwl hwh
  go_enter Try.func13, Try.ntmps13
  go_upto_region 1 with (fail)
  refine abs_world (fun W => Below w.heap.size w W ∧ W.heap[w.heap.size]? = some (.cells (blindC n wd gp t sh) 28 (0, 0))) ⟨(Below.refl _ _).alloc (Nat.le_refl _) _, heap_alloc_new _ _⟩ ?_
  rintro W ⟨hb, d0⟩
  have D0 := Lib.hid d0
  clear d0
  go_upto_region 4 with (first | (go_at_call 34; refine (l02Up_is h true Hi.out _).mono ?_; rintro e w' ⟨rfl, rfl⟩) | (go_at_call 35; refine (l01Part_w _ _).mono ?_; rintro e w' ⟨rfl, rfl⟩; first | rw [Hp.out] | rw [Hq.out]) | (go_at_call 33; refine (l02Asked_is n wd gp t sh T0 T1 N0 N1 w.heap.size _ _ true 0 Hc.out _ D0.out).mono ?_; rintro e w' ⟨rfl, rfl⟩))
  clear Hi Hp Hq Hc
  go_wp2
  have hrow0 : (W.alloc (.cells #[] 2)).ownsRow w.heap.size 2 1 (.slice (some ⟨W.heap.size, 0, none⟩) 0 0) 0 [] := World.ownsRow_made _ _ _ hb.size (Nat.zero_le _) rfl
  go_loopw [11, 12] (fun o i wr => ∃ (vo : Value) (k : Nat) (t' : Int), vo = o ∧ k ≤ 129 ∧ i = .int .i64 ((k : Int) - 64) ∧ wr.ownsRow w.heap.size 2 1 o (wantT (inBW wd gp sh h lo hi) (tls k)).length ((wantT (inBW wd gp sh h lo hi) (tls k)).map (Value.int .i64)) ∧ Below w.heap.size w wr ∧ wr.heap[w.heap.size]? = some (.cells (blindC n wd gp t' sh) 28 (0, 0))) (fun _ i _ => (65 - intOf i).toNat)
  case atStart => exact ⟨_, 0, t, rfl, Nat.zero_le _, rfl, hrow0, hb.alloc hb.size _, below_row ((Below.refl _ _).alloc (Nat.le_refl _) _) D0.out⟩
  case round =>
    clear hrow0 hb D0
    obtain ⟨vo, k, t', rfl, hk, rfl, hrow, hb, d0⟩ := hrel
    have hwl := wantT_len (inBW wd gp sh h lo hi) (tls k)
    rw [tls_length] at hwl
    by_cases hlt : k < 129
    · have z0 : (-64 : Int) ≤ (k : Int) - 64 := by omega
      have z1 : (k : Int) - 64 ≤ 64 := by omega
      have HX := Lib.hid (HO.out ((k : Int) - 64) z0 z1)
      obtain ⟨⟨o1, ho1⟩, ⟨o2, ho2⟩⟩ := HR.out ((k : Int) - 64)
      obtain ⟨k0, k1, k2, k3, k4⟩ := blind_cells d0
      have kf := frozen_of_row wr w.heap.size 3 _ _ d0
      have D0 := Lib.hid d0
      have hne := not_rowW d0 (by decide) hrow
      have HI : Hid (inBW wd gp sh h lo hi (tl k).1 = ((o1 == .gt || o1 == .eq) && (o2 == .lt || o2 == .eq))) := by
        unfold Hid; rw [tl_val k hlt]; unfold inBW geB leB; rw [ho1, ho2]; rfl
      clear d0
      generalize pasB wd gp ((k : Int) - 64) sh h = ps at *
      go_upto_region 9 with (fail)
      refine abs_world (fun V => Below w.heap.size w V ∧ V.heap[w.heap.size]? = some (.cells (blindC n wd gp ((k : Int) - 64) sh) 28 (0, 0)) ∧ V.ownsRow w.heap.size 2 1 vo (wantT (inBW wd gp sh h lo hi) (tls k)).length ((wantT (inBW wd gp sh h lo hi) (tls k)).map (Value.int .i64))) ⟨hb.setCell (p := ⟨w.heap.size, 3, none⟩) (Nat.le_refl _) _, by rw [heap_setCell_same _ _ _ _ _ _ D0.out]; rfl, hrow.kept (grownBy_setCellW wr w.heap.size 3 _) (.inr hne.symm)⟩ ?_
      clear hb D0 k0 k1 k2 k3 k4 kf hrow hne
      rintro W2 ⟨hbw, d2, hrow2⟩
      have HD := Lib.hid d2
      clear d2
      cases o1
      · have HN : Hid (wantT (inBW wd gp sh h lo hi) (tls (k + 1)) = wantT (inBW wd gp sh h lo hi) (tls k)) := by
          unfold Hid; rw [tls_succ]; exact wantT_miss _ _ _ HI.out
        go_wp2_with (go_at_call 36; refine (HX.out _ HD.out).mono ?_; rintro e W3 ⟨rfl, hb3⟩; have hrow3 := owns_below hrow2 hb3; have hD3 := Lib.hid (below_row hb3 HD.out); have hbw3 := hbw.trans (hb3.mono hbw.size); have hsz3 := hbw3.size)
        go_roundw
        case rel => exact ⟨_, k + 1, _, rfl, by omega, by simp; omega, by rw [HN.out]; exact hrow3, hbw3, hD3.out⟩
        case measure => simp [intOf]; omega
      · cases o2
        · have HN : Hid (wantT (inBW wd gp sh h lo hi) (tls (k + 1)) = wantT (inBW wd gp sh h lo hi) (tls k) ++ [(k : Int) - 64]) := by
            unfold Hid; rw [tls_succ, wantT_hit _ _ _ HI.out, tl_val k hlt]
          go_wp2_with (first | (go_at_call 36; refine (HX.out _ HD.out).mono ?_; rintro e W3 ⟨rfl, hb3⟩; have hrow3 := owns_below hrow2 hb3; have hD3 := Lib.hid (below_row hb3 HD.out); have hbw3 := hbw.trans (hb3.mono hbw.size); have hsz3 := hbw3.size) | (at_builtin; refine wpList_append_own _ rfl _ _ 34 rfl w.heap.size 2 i0 (.int .i64 0) 1 8 Try.underlying34 hin hz0 hz1 hz2 rfl (by decide) _ _ _ rfl (hrow3.alloc _) ⟨W3.heap.size, 0, none⟩ 1 1 [.int .i64 ((k : Int) - 64)] rfl rfl (cell_one_new _ _ _) (by simp [Value.oneCell']) (by unfold maxLen; omega) (by omega) (by simp; omega) ?_; intro v' w1 hown' hgrow _))
          go_roundw
          case rel => exact ⟨_, k + 1, _, rfl, by omega, by simp; omega, by rw [HN.out]; simpa using hown', (hbw3.alloc (by omega) _).grown hgrow (by simp; omega) (row_base hrow3), kept_append2 hD3.out (by decide) hrow3 hgrow⟩
          case measure => simp [intOf]; omega
        · have HN : Hid (wantT (inBW wd gp sh h lo hi) (tls (k + 1)) = wantT (inBW wd gp sh h lo hi) (tls k) ++ [(k : Int) - 64]) := by
            unfold Hid; rw [tls_succ, wantT_hit _ _ _ HI.out, tl_val k hlt]
          go_wp2_with (first | (go_at_call 36; refine (HX.out _ HD.out).mono ?_; rintro e W3 ⟨rfl, hb3⟩; have hrow3 := owns_below hrow2 hb3; have hD3 := Lib.hid (below_row hb3 HD.out); have hbw3 := hbw.trans (hb3.mono hbw.size); have hsz3 := hbw3.size) | (at_builtin; refine wpList_append_own _ rfl _ _ 34 rfl w.heap.size 2 i0 (.int .i64 0) 1 8 Try.underlying34 hin hz0 hz1 hz2 rfl (by decide) _ _ _ rfl (hrow3.alloc _) ⟨W3.heap.size, 0, none⟩ 1 1 [.int .i64 ((k : Int) - 64)] rfl rfl (cell_one_new _ _ _) (by simp [Value.oneCell']) (by unfold maxLen; omega) (by omega) (by simp; omega) ?_; intro v' w1 hown' hgrow _))
          go_roundw
          case rel => exact ⟨_, k + 1, _, rfl, by omega, by simp; omega, by rw [HN.out]; simpa using hown', (hbw3.alloc (by omega) _).grown hgrow (by simp; omega) (row_base hrow3), kept_append2 hD3.out (by decide) hrow3 hgrow⟩
          case measure => simp [intOf]; omega
        · have HN : Hid (wantT (inBW wd gp sh h lo hi) (tls (k + 1)) = wantT (inBW wd gp sh h lo hi) (tls k)) := by
            unfold Hid; rw [tls_succ]; exact wantT_miss _ _ _ HI.out
          go_wp2_with (go_at_call 36; refine (HX.out _ HD.out).mono ?_; rintro e W3 ⟨rfl, hb3⟩; have hrow3 := owns_below hrow2 hb3; have hD3 := Lib.hid (below_row hb3 HD.out); have hbw3 := hbw.trans (hb3.mono hbw.size); have hsz3 := hbw3.size)
          go_roundw
          case rel => exact ⟨_, k + 1, _, rfl, by omega, by simp; omega, by rw [HN.out]; exact hrow3, hbw3, hD3.out⟩
          case measure => simp [intOf]; omega
      · cases o2
        · have HN : Hid (wantT (inBW wd gp sh h lo hi) (tls (k + 1)) = wantT (inBW wd gp sh h lo hi) (tls k) ++ [(k : Int) - 64]) := by
            unfold Hid; rw [tls_succ, wantT_hit _ _ _ HI.out, tl_val k hlt]
          go_wp2_with (first | (go_at_call 36; refine (HX.out _ HD.out).mono ?_; rintro e W3 ⟨rfl, hb3⟩; have hrow3 := owns_below hrow2 hb3; have hD3 := Lib.hid (below_row hb3 HD.out); have hbw3 := hbw.trans (hb3.mono hbw.size); have hsz3 := hbw3.size) | (at_builtin; refine wpList_append_own _ rfl _ _ 34 rfl w.heap.size 2 i0 (.int .i64 0) 1 8 Try.underlying34 hin hz0 hz1 hz2 rfl (by decide) _ _ _ rfl (hrow3.alloc _) ⟨W3.heap.size, 0, none⟩ 1 1 [.int .i64 ((k : Int) - 64)] rfl rfl (cell_one_new _ _ _) (by simp [Value.oneCell']) (by unfold maxLen; omega) (by omega) (by simp; omega) ?_; intro v' w1 hown' hgrow _))
          go_roundw
          case rel => exact ⟨_, k + 1, _, rfl, by omega, by simp; omega, by rw [HN.out]; simpa using hown', (hbw3.alloc (by omega) _).grown hgrow (by simp; omega) (row_base hrow3), kept_append2 hD3.out (by decide) hrow3 hgrow⟩
          case measure => simp [intOf]; omega
        · have HN : Hid (wantT (inBW wd gp sh h lo hi) (tls (k + 1)) = wantT (inBW wd gp sh h lo hi) (tls k) ++ [(k : Int) - 64]) := by
            unfold Hid; rw [tls_succ, wantT_hit _ _ _ HI.out, tl_val k hlt]
          go_wp2_with (first | (go_at_call 36; refine (HX.out _ HD.out).mono ?_; rintro e W3 ⟨rfl, hb3⟩; have hrow3 := owns_below hrow2 hb3; have hD3 := Lib.hid (below_row hb3 HD.out); have hbw3 := hbw.trans (hb3.mono hbw.size); have hsz3 := hbw3.size) | (at_builtin; refine wpList_append_own _ rfl _ _ 34 rfl w.heap.size 2 i0 (.int .i64 0) 1 8 Try.underlying34 hin hz0 hz1 hz2 rfl (by decide) _ _ _ rfl (hrow3.alloc _) ⟨W3.heap.size, 0, none⟩ 1 1 [.int .i64 ((k : Int) - 64)] rfl rfl (cell_one_new _ _ _) (by simp [Value.oneCell']) (by unfold maxLen; omega) (by omega) (by simp; omega) ?_; intro v' w1 hown' hgrow _))
          go_roundw
          case rel => exact ⟨_, k + 1, _, rfl, by omega, by simp; omega, by rw [HN.out]; simpa using hown', (hbw3.alloc (by omega) _).grown hgrow (by simp; omega) (row_base hrow3), kept_append2 hD3.out (by decide) hrow3 hgrow⟩
          case measure => simp [intOf]; omega
        · have HN : Hid (wantT (inBW wd gp sh h lo hi) (tls (k + 1)) = wantT (inBW wd gp sh h lo hi) (tls k)) := by
            unfold Hid; rw [tls_succ]; exact wantT_miss _ _ _ HI.out
          go_wp2_with (go_at_call 36; refine (HX.out _ HD.out).mono ?_; rintro e W3 ⟨rfl, hb3⟩; have hrow3 := owns_below hrow2 hb3; have hD3 := Lib.hid (below_row hb3 HD.out); have hbw3 := hbw.trans (hb3.mono hbw.size); have hsz3 := hbw3.size)
          go_roundw
          case rel => exact ⟨_, k + 1, _, rfl, by omega, by simp; omega, by rw [HN.out]; exact hrow3, hbw3, hD3.out⟩
          case measure => simp [intOf]; omega
    · obtain rfl : k = 129 := by omega
      have HR2 : Hid (Own wr w.heap.size 2 (Value.int .i64) vo (wantT (inBW wd gp sh h lo hi) (tls 129))) := own_of_row hrow (by unfold maxLen; omega)
      clear hrow d0
      go_wp2
      go_ret2
      exact ⟨⟨_, rfl, HR2.out⟩, hb⟩

end Go.Proofs.Ytdccmdcgbembpaa
