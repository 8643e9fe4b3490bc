/-
  ShadedHours: the model.
-/
import Derived.Test.YtnienahjfocalaaDoorShH
import Derived.Test.YtnienahjfocalaaDoorShC
import Derived.Test.YtnienahjfocalaaDoorPart
import Derived.Test.YtnienahjfocalaaDoorListLaw
namespace Go.Proofs.YtnienahjfocalaaDoor
open Go.ChangeShapes Go.WideShapes Go.ChangeAt Go.RowKit Go.Shelf Go.Deep Go.Joins

attribute [local go_sem] run_store_float

set_option maxRecDepth 100000 in
set_option maxHeartbeats 1000000 in
theorem sshh_no (o dr gp tl : Nat) (hs ts : List Int) (hh : hs.length = 24) (ht : ts.length = 24) (rb : ∀ x ∈ hs ++ ts, -32768 ≤ x ∧ x ≤ 32767) (fc : Int) (le : Nat) (n : Nat) (hn : refN (okAw o dr gp tl && okB hs ts) (inH 0 && inF fc && partB le) true = n) (hne : (codeE n != 0) = true) (w : World) :
    Calls Tryd.prog 28 #[.agg (awC o dr gp tl), .agg (sunC hs ts), .int .i64 fc, .float .f32 le] w (RetList [] (codeE n) w) := by
  have HL := Lib.hid (fun g1 g2 w q1 q2 => l04Asked_is o dr gp tl hs ts hh ht rb 0 fc (partB le) n hn g1 g2 27 37 (0, 0) (0, 0) w q1 q2)
  have HQ := Lib.hid (fun w => l01Part_any le w)
  clear hn rb hh ht
  go_enter Tryd.func28, Tryd.ntmps28
  go_upto_region 1 with (fail)
  refine abs_world (fun W => W.heap[w.heap.size]? = some (.cells (awC o dr gp tl) 27 (0, 0)) ∧ W.heap[w.heap.size + 1]? = some (.cells (sunC hs ts) 37 (0, 0)) ∧ Below w.heap.size w W) (box2 w (.cells (awC o dr gp tl) 27) (.cells (sunC hs ts) 37)) ?_
  rintro W ⟨h0, h1, hb⟩
  generalize w.heap.size + 1 = b1 at *
  have H0 := Lib.hid h0
  have H1 := Lib.hid h1
  clear h0 h1
  go_upto_region 2 with (fail)
  refine abs_world (fun V => Below w.heap.size w V ∧ V.heap[w.heap.size]? = some (.cells (awC o dr gp tl) 27 (0, 0)) ∧ V.heap[b1]? = some (.cells (sunC hs ts) 37 (0, 0)) ∧ V.ownsRow w.heap.size 2 1 (.slice (some ⟨W.heap.size, 0, none⟩) 0 0) 0 []) ⟨hb.alloc hb.size _, below_row ((Below.refl _ _).alloc (Nat.le_refl _) _) H0.out, below_row ((Below.refl _ _).alloc (Nat.le_refl _) _) H1.out, World.ownsRow_made _ _ _ hb.size (Nat.zero_le _) rfl⟩ ?_
  clear H0 H1 hb
  rintro V ⟨hb, h0, h1, hrow0⟩
  generalize W.heap.size = n0 at *
  have H0 := Lib.hid h0
  have H1 := Lib.hid h1
  clear h0 h1
  go_wp2_with (first | (refine wpList_load_partG 27 _ rfl w.heap.size 0 4 rfl rfl 27 (awC o dr gp tl) (0, 0) _ H0.out Tryd.underlying27 rfl info_aw (aw_fits _ _ _ _) _ (aw_all _ _ _ _) ?_) | (refine wpList_load_partG 37 _ rfl b1 0 48 rfl rfl 37 (sunC hs ts) (0, 0) _ H1.out Tryd.underlying37 rfl info_sun (sun_fits _ _ Hh.out Ht.out) _ (sun_all _ _ Hh.out Ht.out) ?_) | (go_at_call 64; refine (HL.out _ _ _ H0.out H1.out).mono ?_; rintro e w1 ⟨rfl, rfl⟩) | (go_at_call 78; refine (HQ.out _).mono ?_; rintro e w2 ⟨rfl, rfl⟩))
  go_ret2
  exact ⟨⟨_, rfl, own_of_row (xs := []) hrow0 (Nat.zero_le _)⟩, hb⟩

set_option maxRecDepth 100000 in
set_option maxHeartbeats 1000000 in
theorem sshh_yes {o dr gp tl : Nat} (aw : AwOk o dr gp tl) (hs ts : List Int) (hh : hs.length = 24) (ht : ts.length = 24) (rb : ∀ x ∈ hs ++ ts, -32768 ≤ x ∧ x ≤ 32767) (fc : Int) (le : Nat) (hle : fin32 le = true) (q : ∀ k : Nat, k < 24 → HrOk hs ts (k : Int) fc) (hn : refN (okAw o dr gp tl && okB hs ts) (inH 0 && inF fc && partB le) true = 0) (w : World) :
    Calls Tryd.prog 28 #[.agg (awC o dr gp tl), .agg (sunC hs ts), .int .i64 fc, .float .f32 le] w (RetList (wantH (enoA o dr gp tl hs ts fc le) (hrs 24)) 0 w) := by
  obtain ⟨i0, hin, hz0, hz1, hz2⟩ := info_parts infoW
  have HL := Lib.hid (fun g1 g2 w q1 q2 => l04Asked_is o dr gp tl hs ts hh ht rb 0 fc (partB le) 0 hn g1 g2 27 37 (0, 0) (0, 0) w q1 q2)
  have HQ := Lib.hid (fun w => l01Part_any le w)
  have HF := Lib.hid (fun (k : Nat) (hk : k < 24) g w h => l01Fall_any g hs ts hh ht (k : Int) fc (q k hk).h0 (q k hk).h1 (q k hk).f0 (q k hk).f1 (q k hk).x1 (q k hk).y0 (q k hk).y1 37 (0, 0) w h)
  have HP := Lib.hid (fun (k : Nat) (hk : k < 24) g1 g2 w h h' => l04Part_any aw hs ts hh ht fc (k : Int) (q k hk) g1 g2 27 37 (0, 0) (0, 0) w h h')
  have HO := Lib.hid (fun (k : Nat) (hk : k < 24) => sh_split aw hle (k : Int) (q k hk))
  clear hn rb q aw hle
  have Hh := Lib.hid hh
  have Ht := Lib.hid ht
  clear hh ht
  go_enter Tryd.func28, Tryd.ntmps28
  go_upto_region 1 with (fail)
  refine abs_world (fun W => W.heap[w.heap.size]? = some (.cells (awC o dr gp tl) 27 (0, 0)) ∧ W.heap[w.heap.size + 1]? = some (.cells (sunC hs ts) 37 (0, 0)) ∧ Below w.heap.size w W) (box2 w (.cells (awC o dr gp tl) 27) (.cells (sunC hs ts) 37)) ?_
  rintro W ⟨h0, h1, hb⟩
  generalize w.heap.size + 1 = b1 at *
  have H0 := Lib.hid h0
  have H1 := Lib.hid h1
  clear h0 h1
  go_upto_region 2 with (fail)
  refine abs_world (fun V => Below w.heap.size w V ∧ V.heap[w.heap.size]? = some (.cells (awC o dr gp tl) 27 (0, 0)) ∧ V.heap[b1]? = some (.cells (sunC hs ts) 37 (0, 0)) ∧ V.ownsRow w.heap.size 2 1 (.slice (some ⟨W.heap.size, 0, none⟩) 0 0) 0 []) ⟨hb.alloc hb.size _, below_row ((Below.refl _ _).alloc (Nat.le_refl _) _) H0.out, below_row ((Below.refl _ _).alloc (Nat.le_refl _) _) H1.out, World.ownsRow_made _ _ _ hb.size (Nat.zero_le _) rfl⟩ ?_
  clear H0 H1 hb
  rintro V ⟨hb, h0, h1, hrow0⟩
  generalize W.heap.size = n0 at *
  have H0 := Lib.hid h0
  have H1 := Lib.hid h1
  clear h0 h1
  go_upto_region 5 with (first | (refine wpList_load_partG 27 _ rfl w.heap.size 0 4 rfl rfl 27 (awC o dr gp tl) (0, 0) _ H0.out Tryd.underlying27 rfl info_aw (aw_fits _ _ _ _) _ (aw_all _ _ _ _) ?_) | (refine wpList_load_partG 37 _ rfl b1 0 48 rfl rfl 37 (sunC hs ts) (0, 0) _ H1.out Tryd.underlying37 rfl info_sun (sun_fits _ _ Hh.out Ht.out) _ (sun_all _ _ Hh.out Ht.out) ?_) | (go_at_call 64; refine (HL.out _ _ _ H0.out H1.out).mono ?_; rintro e w1 ⟨rfl, rfl⟩) | (go_at_call 78; refine (HQ.out _).mono ?_; rintro e w2 ⟨rfl, rfl⟩))
  clear HL HQ
  go_wp2
  go_loopw [10, 12] (fun o' i wr => ∃ (vo : Value) (k : Nat), vo = o' ∧ k ≤ 24 ∧ i = .int .i64 (k : Int) ∧ wr.ownsRow w.heap.size 2 1 o' (wantH (enoA o dr gp tl hs ts fc le) (hrs k)).length ((wantH (enoA o dr gp tl hs ts fc le) (hrs k)).map (Value.int .i64)) ∧ Below w.heap.size w wr ∧ wr.heap[w.heap.size]? = some (.cells (awC o dr gp tl) 27 (0, 0)) ∧ wr.heap[b1]? = some (.cells (sunC hs ts) 37 (0, 0))) (fun _ i _ => (24 - intOf i).toNat)
  case atStart => exact ⟨_, 0, rfl, Nat.zero_le _, rfl, hrow0, hb, H0.out, H1.out⟩
  case round =>
    clear hrow0 hb H0 H1
    obtain ⟨vo, k, rfl, hk, rfl, hrow2, hbw, d0, d1⟩ := hrel
    have hwl := wantH_len (enoA o dr gp tl hs ts fc le) (hrs k)
    rw [hrs_length] at hwl
    by_cases hlt : k < 24
    · have z0 : (0 : Int) ≤ (k : Int) := by omega
      have z1 : (k : Int) < 24 := by omega
      have HX := Lib.hid (HF.out k hlt)
      have HY := Lib.hid (HP.out k hlt)
      have HO1 := HO.out k hlt
      have HI : Hid ((enoA o dr gp tl hs ts fc le) (hr k).1 = (FloatKind.f32.format.order (fallOf hs ts (k : Int) fc) 0 == some .gt && (FloatKind.f32.format.order (shB o dr gp tl (atH hs (k : Int)) (fallOf hs ts (k : Int) fc)) le == some .gt || FloatKind.f32.format.order (shB o dr gp tl (atH hs (k : Int)) (fallOf hs ts (k : Int) fc)) le == some .eq))) := by
        unfold Hid; rw [hr_val k hlt]; rfl
      have HA := Lib.hid d0
      have HD := Lib.hid d1
      clear d0 d1
      generalize shB o dr gp tl (atH hs (k : Int)) (fallOf hs ts (k : Int) fc) = sh at *
      generalize fallOf hs ts (k : Int) fc = fl at *
      rcases HO1 with ho | ⟨ho, c, hc⟩
      · rw [ho] at HI
        replace HI : Hid ((enoA o dr gp tl hs ts fc le) (hr k).1 = false) := HI.out
        have HN : Hid (wantH (enoA o dr gp tl hs ts fc le) (hrs (k + 1)) = wantH (enoA o dr gp tl hs ts fc le) (hrs k)) := by
          unfold Hid; rw [hrs_succ]; exact wantH_miss _ _ _ HI.out
        go_wp2_with (go_at_call 79; refine (HX.out _ _ HD.out).mono ?_; rintro e W3 ⟨rfl, hb3⟩; replace hrow2 := owns_below hrow2 hb3; replace HA := Lib.hid (below_row hb3 HA.out); replace HD := Lib.hid (below_row hb3 HD.out); replace hbw := hbw.trans (hb3.mono hbw.size); have hsz := hbw.size)
        go_roundw
        case rel => (iterate 21 apply Exists.intro); refine ⟨?_, rfl⟩; exact ⟨_, k + 1, rfl, by omega, by simp, by rw [HN.out]; exact hrow2, hbw, HA.out, HD.out⟩
        case measure => simp [intOf]; omega
      · rw [ho, hc] at HI
        cases c
        · replace HI : Hid ((enoA o dr gp tl hs ts fc le) (hr k).1 = false) := HI.out
          have HN : Hid (wantH (enoA o dr gp tl hs ts fc le) (hrs (k + 1)) = wantH (enoA o dr gp tl hs ts fc le) (hrs k)) := by
            unfold Hid; rw [hrs_succ]; exact wantH_miss _ _ _ HI.out
          go_wp2_with (first | (go_at_call 79; refine (HX.out _ _ HD.out).mono ?_; rintro e W3 ⟨rfl, hb3⟩; replace hrow2 := owns_below hrow2 hb3; replace HA := Lib.hid (below_row hb3 HA.out); replace HD := Lib.hid (below_row hb3 HD.out); replace hbw := hbw.trans (hb3.mono hbw.size); have hsz := hbw.size) | (go_at_call 65; refine (HY.out _ _ _ HA.out HD.out).mono ?_; rintro e W4 ⟨rfl, hb4⟩; clear hsz; replace hrow2 := owns_below hrow2 hb4; replace HA := Lib.hid (below_row hb4 HA.out); replace HD := Lib.hid (below_row hb4 HD.out); replace hbw := hbw.trans (hb4.mono hbw.size); have hsz := hbw.size))
          go_roundw
          case rel => (iterate 21 apply Exists.intro); refine ⟨?_, rfl⟩; exact ⟨_, k + 1, rfl, by omega, by simp, by rw [HN.out]; exact hrow2, hbw, HA.out, HD.out⟩
          case measure => simp [intOf]; omega
        · replace HI : Hid ((enoA o dr gp tl hs ts fc le) (hr k).1 = true) := HI.out
          have HN : Hid (wantH (enoA o dr gp tl hs ts fc le) (hrs (k + 1)) = wantH (enoA o dr gp tl hs ts fc le) (hrs k) ++ [(k : Int)]) := by
            unfold Hid; rw [hrs_succ, wantH_hit _ _ _ HI.out, hr_val k hlt]
          go_wp2_with (first | (go_at_call 79; refine (HX.out _ _ HD.out).mono ?_; rintro e W3 ⟨rfl, hb3⟩; replace hrow2 := owns_below hrow2 hb3; replace HA := Lib.hid (below_row hb3 HA.out); replace HD := Lib.hid (below_row hb3 HD.out); replace hbw := hbw.trans (hb3.mono hbw.size); have hsz := hbw.size) | (go_at_call 65; refine (HY.out _ _ _ HA.out HD.out).mono ?_; rintro e W4 ⟨rfl, hb4⟩; clear hsz; replace hrow2 := owns_below hrow2 hb4; replace HA := Lib.hid (below_row hb4 HA.out); replace HD := Lib.hid (below_row hb4 HD.out); replace hbw := hbw.trans (hb4.mono hbw.size); have hsz := hbw.size) | (at_builtin; refine wpList_append_own _ rfl _ _ 45 rfl w.heap.size 2 i0 (.int .i64 0) 1 8 Tryd.underlying45 hin hz0 hz1 hz2 rfl (by decide) _ _ _ rfl (hrow2.alloc _) ⟨W4.heap.size, 0, none⟩ 1 1 [.int .i64 (k : Int)] rfl rfl (cell_one_new _ _ _) (by simp [Value.oneCell']) (by unfold maxLen; omega) (by omega) (by simp; omega) ?_; intro v' w1 hown' hgrow _; obtain ⟨g', cap', rfl⟩ := ownsRow_succ hown'))
          go_roundw
          case rel => (iterate 21 apply Exists.intro); refine ⟨?_, rfl⟩; exact ⟨_, k + 1, rfl, by omega, by simp, by rw [HN.out]; simpa using hown', (hbw.alloc (by omega) _).grown hgrow (by simp; omega) (row_base hrow2), kept_append2 HA.out (by decide) hrow2 hgrow, kept_append2 HD.out (by decide) hrow2 hgrow⟩
          case measure => simp [intOf]; omega
        · replace HI : Hid ((enoA o dr gp tl hs ts fc le) (hr k).1 = true) := HI.out
          have HN : Hid (wantH (enoA o dr gp tl hs ts fc le) (hrs (k + 1)) = wantH (enoA o dr gp tl hs ts fc le) (hrs k) ++ [(k : Int)]) := by
            unfold Hid; rw [hrs_succ, wantH_hit _ _ _ HI.out, hr_val k hlt]
          go_wp2_with (first | (go_at_call 79; refine (HX.out _ _ HD.out).mono ?_; rintro e W3 ⟨rfl, hb3⟩; replace hrow2 := owns_below hrow2 hb3; replace HA := Lib.hid (below_row hb3 HA.out); replace HD := Lib.hid (below_row hb3 HD.out); replace hbw := hbw.trans (hb3.mono hbw.size); have hsz := hbw.size) | (go_at_call 65; refine (HY.out _ _ _ HA.out HD.out).mono ?_; rintro e W4 ⟨rfl, hb4⟩; clear hsz; replace hrow2 := owns_below hrow2 hb4; replace HA := Lib.hid (below_row hb4 HA.out); replace HD := Lib.hid (below_row hb4 HD.out); replace hbw := hbw.trans (hb4.mono hbw.size); have hsz := hbw.size) | (at_builtin; refine wpList_append_own _ rfl _ _ 45 rfl w.heap.size 2 i0 (.int .i64 0) 1 8 Tryd.underlying45 hin hz0 hz1 hz2 rfl (by decide) _ _ _ rfl (hrow2.alloc _) ⟨W4.heap.size, 0, none⟩ 1 1 [.int .i64 (k : Int)] rfl rfl (cell_one_new _ _ _) (by simp [Value.oneCell']) (by unfold maxLen; omega) (by omega) (by simp; omega) ?_; intro v' w1 hown' hgrow _; obtain ⟨g', cap', rfl⟩ := ownsRow_succ hown'))
          go_roundw
          case rel => (iterate 21 apply Exists.intro); refine ⟨?_, rfl⟩; exact ⟨_, k + 1, rfl, by omega, by simp, by rw [HN.out]; simpa using hown', (hbw.alloc (by omega) _).grown hgrow (by simp; omega) (row_base hrow2), kept_append2 HA.out (by decide) hrow2 hgrow, kept_append2 HD.out (by decide) hrow2 hgrow⟩
          case measure => simp [intOf]; omega
    · obtain rfl : k = 24 := by omega
      have HR2 : Hid (Own wr w.heap.size 2 (Value.int .i64) vo (wantH (enoA o dr gp tl hs ts fc le) (hrs 24))) := own_of_row hrow2 (by unfold maxLen; omega)
      clear hrow2 d0 d1
      go_wp2
      go_ret2
      exact ⟨⟨_, rfl, HR2.out⟩, hbw⟩

end Go.Proofs.YtnienahjfocalaaDoor
