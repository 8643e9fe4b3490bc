/-
  FlS, BrA, Hours, Round, Held, Ok.
-/
import Derived.Test.YtmbgmpeiicjlaaaGreatDoorMt3
import Derived.Test.YtmbgmpeiicjlaaaGreatDoorMt2
import Derived.Test.YtmbgmpeiicjlaaaGreatDoorMt4
import Derived.Laws.Small
import Derived.RangeFuncNested
import Derived.RangeFuncBound
import Derived.RangeFuncCalls
import Derived.RangeFuncLeaves
import Derived.RangeFuncFrom
import Derived.RangeFuncWrites
import Derived.Shelf.Abstract
import Derived.Shelf.RegionOpen
import Derived.WalkKit
import Derived.OwnWalkIn
import Derived.TacticsInMore
import Derived.LoopNIn
import Derived.LoopIn
import Derived.Test.YtmbgmpeiicjlaaaGreatDoorMt1
import Derived.Deep.RegionHeld3
import Derived.OrdersIn
import Derived.StillTail
import Derived.StillTailTactics

namespace Go.Proofs.YtmbgmpeiicjlaaaGreatDoor

open Go.ChangeShapes Go.WideShapes Go.ChangeAt Go.RowKit Go.Deep Go.Joins

attribute [local go_sem] run_store_f

theorem l00Max_is (a b r : Int) (hr : (if b < a then a else b) = r) (w : World) : Calls Tryz.prog 67 #[.int .i64 a, .int .i64 b] w fun e w' => e = .returned (.int .i64 r) ∧ w = w' := by
  subst hr
  by_cases h : b < a
  · rw [if_pos h]
    go_enter Tryz.func67, Tryz.ntmps67
    go_wp2
    go_ret
    exact ⟨rfl, rfl⟩
  · rw [if_neg h]
    go_enter Tryz.func67, Tryz.ntmps67
    go_wp2
    go_ret
    exact ⟨rfl, rfl⟩

theorem l00Min_is (a b r : Int) (hr : (if a < b then a else b) = r) (w : World) : Calls Tryz.prog 60 #[.int .i64 a, .int .i64 b] w fun e w' => e = .returned (.int .i64 r) ∧ w = w' := by
  subst hr
  by_cases h : a < b
  · rw [if_pos h]
    go_enter Tryz.func60, Tryz.ntmps60
    go_wp2
    go_ret
    exact ⟨rfl, rfl⟩
  · rw [if_neg h]
    go_enter Tryz.func60, Tryz.ntmps60
    go_wp2
    go_ret
    exact ⟨rfl, rfl⟩

set_option maxRecDepth 100000 in
set_option maxHeartbeats 4000000 in
theorem slatsOf_any (n : Int) (wd gp : Nat) (t : Int) (sh : Nat) (w : World) :
    Calls Tryz.prog 32 #[.agg (blindC n wd gp t sh)] w fun e w' => e = .returned (.int .u32 (allP (mB n).toNat : Int)) ∧ Below w.heap.size w w' := by
  have hm0 := mB_le n
  have hmin : ∀ (ts : Array TypeId) (T : TypeId) (w : World), (Builtin.min_ ts T #[.int .i8 n, .int .i8 24]).run Tryz.prog w = .ok (.int .i8 (mB n)) w := fun ts T w => run_min_int2 (P := Tryz.prog) w ts T .i8 .i8 n 24
  obtain ⟨M, hM⟩ : ∃ M, M = (mB n).toNat := ⟨_, rfl⟩
  rw [← hM]
  generalize mB n = m at *
  go_enter Tryz.func32, Tryz.ntmps32
  go_upto_region 2 with (fail)
  refine abs_code (fun W => W.heap[w.heap.size]? = some (.cells (blindC n wd gp t sh) 28 (0, 0)) ∧ Below w.heap.size w W) ⟨heap_alloc_new _ _, (Below.refl _ _).alloc (Nat.le_refl _) _⟩ ?_
  rintro W ⟨h0, hb⟩
  obtain ⟨k0, _, _, _, _⟩ := blind_cells h0
  clear h0
  go_upto_region 3 with (fail)
  clear k0
  go_loopw [3, 8] (fun s i wr => ∃ k : Nat, k ≤ M ∧ i = .int .i8 k ∧ s = .int .u32 (allP k : Int) ∧ Below w.heap.size w wr) (fun _ i _ => M - (intOf i).toNat)
  case atStart => exact ⟨0, Nat.zero_le _, rfl, rfl, hb⟩
  case round =>
    clear hb
    obtain ⟨k, hk, rfl, rfl, hb⟩ := hrel
    by_cases hlt : k < M
    · have z1 : (k : Int) < m := by omega
      have z2 : (0 : Int) ≤ (k : Int) := by omega
      obtain ⟨s1, _, s3, s4⟩ := packP_step (fun _ => true) k (by omega)
      have S1 := Lib.hid (s1 rfl)
      have S3 := Lib.hid s3
      have S4 : Hid (bits .or .u32 (allP k : Int) ((2 : Int) ^ k) = ((allP k ||| 2 ^ k : Nat) : Int)) := s4
      clear s1 s3 s4
      have z4 : IntKind.i8.wrap ((k : Int) + 1) = (k : Int) + 1 := by rw [IntWalk.i8_in _ (by omega)]
      have z5 : (k : Int) ≤ 32 := by omega
      go_wp2
      go_roundw
      case rel => exact ⟨k + 1, by omega, by first | go_num | rfl, by rw [S3.out, S4.out]; exact congrArg (fun x : Nat => Value.int .u32 (x : Int)) S1.out.symm, hb⟩
      case measure => simp [intOf]; omega
    · obtain rfl : k = M := by omega
      have z1 : ¬ (k : Int) < m := by omega
      go_wp2
      go_ret
      exact ⟨rfl, hb⟩

set_option maxRecDepth 100000 in
set_option maxHeartbeats 1000000 in
theorem l07Looked_any (n : Int) (wd gp : Nat) (t : Int) (sh : Nat) (n0 : -128 ≤ n) (n1 : n ≤ 127) (g : Nat) (T : TypeId) (fr : Nat × Nat) (w : World) (hg : w.heap[g]? = some (.cells (blindC n wd gp t sh) T fr)) :
    Calls Tryz.prog 28 #[.pointer (some ⟨g, 0, none⟩)] w fun e w' => e = .returned (.int .i64 (mB n)) ∧ w = w' := by
  obtain ⟨k0, k1, k2, k3, k4⟩ := blind_cells hg
  have HM := Lib.hid (fun w => l00Min_is 24 n (mB n) rfl w)
  have z : IntKind.i64.wrap n = n := IntWalk.i64_in _ (by omega)
  clear hg k1 k2 k3 k4 n0 n1
  generalize mB n = m at *
  go_enter Tryz.func28, Tryz.ntmps28
  go_wp2_with (go_at_call 60; refine (HM.out _).mono ?_; rintro e w' ⟨rfl, rfl⟩)
  go_ret
  exact ⟨rfl, rfl⟩

theorem blok_hang {n : Int} {wd gp : Nat} {t : Int} {sh : Nat} (ok : BlOk n wd gp t sh) : BlOk n wd gp (hgT t) sh := by
  obtain ⟨a, b, c, d, e, f, g, h, i⟩ := ok
  have := hgT_in g h
  exact ⟨a, b, c, d, e, f, this.1, this.2, i⟩

set_option maxRecDepth 100000 in
set_option maxHeartbeats 2000000 in
theorem l07Hanging_any (n : Int) (wd gp : Nat) (t : Int) (sh : Nat) (ok : BlOk n wd gp t sh) (h : Int) (h0 : 1 ≤ h) (h1 : h ≤ 64) (w : World) :
    Calls Tryz.prog 37 #[.agg (blindC n wd gp t sh), .int .i64 h] w fun e w' => e = .returned (.float .f32 (opnB wd gp (hgT t) h)) ∧ Below w.heap.size w w' := by
  obtain ⟨q0, q1⟩ : -64 ≤ t ∧ t ≤ 64 := ⟨ok.2.2.2.2.2.2.1, ok.2.2.2.2.2.2.2.1⟩
  have HO := Lib.hid (fun w g hg => l02Open_any n wd gp (hgT t) sh (blok_hang ok) h h0 h1 g 28 (0, 0) w hg)
  clear ok h0 h1
  by_cases ht : t - 32 < -64
  · have e : hgT t = -64 := if_pos ht
    have HMX := Lib.hid (fun w => l00Max_is (-64) (t - 32) (-64) (if_pos (by omega)) w)
    have z3 : IntKind.i64.wrap t = t := IntWalk.i64_in _ (by omega)
    have z4 : IntKind.i64.wrap (t - 32) = t - 32 := IntWalk.i64_in _ (by omega)
    rw [e] at HO ⊢
    clear e
    go_enter Tryz.func37, Tryz.ntmps37
    go_upto_region 1 with (fail)
    refine abs_code (fun W => W.heap[w.heap.size]? = some (.cells (blindC n wd gp t sh) 28 (0, 0)) ∧ Below w.heap.size w W) ⟨heap_alloc_new _ _, (Below.refl _ _).alloc (Nat.le_refl _) _⟩ ?_
    rintro W ⟨h0, hb⟩
    obtain ⟨k0, k1, k2, k3, k4⟩ := blind_cells h0
    have f3 := frozen_of_row W w.heap.size 3 _ _ h0
    have H0 := Lib.hid h0
    clear h0
    go_upto_region 2 with (go_at_call 67; refine (HMX.out _).mono ?_; rintro e w' ⟨rfl, rfl⟩)
    refine abs_code (fun V => V.heap[w.heap.size]? = some (.cells (blindC n wd gp (-64) sh) 28 (0, 0)) ∧ Below w.heap.size w V) ⟨by rw [heap_setCell_same _ _ _ _ _ _ H0.out]; rfl, hb.setCell (p := ⟨w.heap.size, 3, none⟩) (Nat.le_refl _) _⟩ ?_
    clear H0 hb k0 k1 k2 k3 k4 f3
    rintro V ⟨h0, hb⟩
    go_wp2_with (go_at_call 36; refine (HO.out _ _ h0).mono ?_; rintro e W1 ⟨rfl, hb1⟩)
    go_ret
    exact ⟨rfl, hb.trans (hb1.mono hb.size)⟩
  · have e : hgT t = t - 32 := if_neg ht
    have HMX := Lib.hid (fun w => l00Max_is (-64) (t - 32) (t - 32) (if_neg (by omega)) w)
    have z3 : IntKind.i64.wrap t = t := IntWalk.i64_in _ (by omega)
    have z4 : IntKind.i64.wrap (t - 32) = t - 32 := IntWalk.i64_in _ (by omega)
    rw [e] at HO ⊢
    clear e
    have z2 : IntKind.i16.wrap (t - 32) = t - 32 := by rw [IntWalk.i16_in _ (by omega)]
    go_enter Tryz.func37, Tryz.ntmps37
    go_upto_region 1 with (fail)
    refine abs_code (fun W => W.heap[w.heap.size]? = some (.cells (blindC n wd gp t sh) 28 (0, 0)) ∧ Below w.heap.size w W) ⟨heap_alloc_new _ _, (Below.refl _ _).alloc (Nat.le_refl _) _⟩ ?_
    rintro W ⟨h0, hb⟩
    obtain ⟨k0, k1, k2, k3, k4⟩ := blind_cells h0
    have f3 := frozen_of_row W w.heap.size 3 _ _ h0
    have H0 := Lib.hid h0
    clear h0
    go_upto_region 2 with (go_at_call 67; refine (HMX.out _).mono ?_; rintro e w' ⟨rfl, rfl⟩)
    refine abs_code (fun V => V.heap[w.heap.size]? = some (.cells (blindC n wd gp (t - 32) sh) 28 (0, 0)) ∧ Below w.heap.size w V) ⟨by rw [heap_setCell_same _ _ _ _ _ _ H0.out]; rfl, hb.setCell (p := ⟨w.heap.size, 3, none⟩) (Nat.le_refl _) _⟩ ?_
    clear H0 hb k0 k1 k2 k3 k4 f3
    rintro V ⟨h0, hb⟩
    go_wp2_with (go_at_call 36; refine (HO.out _ _ h0).mono ?_; rintro e W1 ⟨rfl, hb1⟩)
    go_ret
    exact ⟨rfl, hb.trans (hb1.mono hb.size)⟩

theorem heap_alloc_old {W : World} {g : Nat} {o p : Obj} (h : W.heap[g]? = some o) : (W.alloc p).heap[g]? = some o := by
  rw [heap_alloc, if_neg (by have := row_lt h; omega)]
  exact h

set_option maxRecDepth 100000 in
set_option maxHeartbeats 8000000 in
theorem floorOf_any (n : Int) (wd gp : Nat) (t : Int) (sh : Nat) (ok : BlOk n wd gp t sh) (h : Int) (h0 : 1 ≤ h) (h1 : h ≤ 64) (br : Nat) (hbr : br < 4294967296) (hfit : br < 2 ^ (mB n).toNat) (w : World) :
    Calls Tryz.prog 33 #[.agg (blindC n wd gp t sh), .int .i64 h, .int .u32 (br : Int)] w fun e w' => e = .returned (.agg (f32s (flB n wd gp t h br))) ∧ Below w.heap.size w w' := by
  obtain ⟨q0, q1⟩ : -64 ≤ t ∧ t ≤ 64 := ⟨ok.2.2.2.2.2.2.1, ok.2.2.2.2.2.2.2.1⟩
  have HO1 := Lib.hid (fun w => openAt_any n wd gp t sh ok h h0 h1 w)
  have HO2 := Lib.hid (fun w => openAt_any n wd gp (hgT t) sh (blok_hang ok) h h0 h1 w)
  have HT := Lib.hid (fun w => tilted_any2 n wd gp t sh (hgT t) (hgT_in q0 q1).1 (hgT_in q0 q1).2 w)
  have HS := Lib.hid (fun w => slatsOf_any n wd gp t sh w)
  have hM : (mB n).toNat ≤ 24 := by have := mB_le n; omega
  unfold flB
  generalize (mB n).toNat = M at *
  generalize opnB wd gp (hgT t) h = hg at *
  have HB1 := Lib.hid (fun k => bit_impl hbr k)
  have HB2 : Hid (∀ k, (bits .and .u32 ((allP M : Int) / 2 ^ k) 1 == 1) = decide (k < M)) := fun k => by rw [bit_impl (allP_lt hM) k, allP_bit]
  have HBM : Hid (∀ k, br.testBit k = true → k < M) := fun k hk => Nat.lt_of_not_le (fun hle => by rw [high_bit hfit hle] at hk; cases hk)
  clear ok h0 h1 hbr hfit
  by_cases ht : t - 32 < -64
  · have e : hgT t = -64 := if_pos ht
    rw [e] at HO2 HT
    clear e
    have z2 : IntKind.i16.wrap (t - 32) = t - 32 := by rw [IntWalk.i16_in _ (by omega)]
    go_enter Tryz.func33, Tryz.ntmps33
    go_upto_region 1 with (fail)
    refine abs_code (fun W => W.heap[w.heap.size]? = some (.cells (blindC n wd gp t sh) 28 (0, 0)) ∧ W.heap[w.heap.size + 1]? = some (.cells (f32s (List.replicate 24 0)) 35 (0, 0)) ∧ Below w.heap.size w W) ⟨heap_alloc2_old _ _ _, heap_alloc2_new _ _ _, ((Below.refl _ _).alloc (Nat.le_refl _) _).alloc (by simp) _⟩ ?_
    rintro W ⟨h0, h1, hb⟩
    have hb1s : w.heap.size ≤ w.heap.size + 1 := by omega
    generalize w.heap.size + 1 = b1 at *
    have H0 := Lib.hid h0
    have H1 := Lib.hid h1
    clear h0 h1
    go_upto_region 2 with (first | (refine wpList_load_part rfl 28 _ rfl w.heap.size 0 5 rfl 28 (blindC n wd gp t sh) (0, 0) _ H0.out Tryz.underlying28 rfl info_blind (blind_fits _ _ _ _ _) _ (blind_all _ _ _ _ _) ?_) | (go_at_call 62; refine (HO1.out _).mono ?_; rintro e W1 ⟨rfl, hb1⟩; replace H0 := Lib.hid (below_row hb1 H0.out); replace H1 := Lib.hid (below_row hb1 H1.out); replace hb := hb.trans (hb1.mono hb.size); clear hb1))
    obtain ⟨k0, k1, k2, k3, k4⟩ := blind_cells H0.out
    go_upto_region 3 with (first | (refine wpList_load_part rfl 28 _ rfl w.heap.size 0 5 rfl 28 (blindC n wd gp t sh) (0, 0) _ H0.out Tryz.underlying28 rfl info_blind (blind_fits _ _ _ _ _) _ (blind_all _ _ _ _ _) ?_) | (go_at_call 63; refine (HT.out _).mono ?_; rintro e W2 ⟨rfl, hb1⟩; replace H0 := Lib.hid (below_row hb1 H0.out); replace H1 := Lib.hid (below_row hb1 H1.out); replace hb := hb.trans (hb1.mono hb.size); clear hb1) | (go_at_call 62; refine (HO2.out _).mono ?_; rintro e W1 ⟨rfl, hb1⟩; replace H0 := Lib.hid (below_row hb1 H0.out); replace H1 := Lib.hid (below_row hb1 H1.out); replace hb := hb.trans (hb1.mono hb.size); clear hb1))
    clear k0 k1 k2 k3 k4
    go_upto_region 4 with (first | (refine wpList_load_part rfl 28 _ rfl w.heap.size 0 5 rfl 28 (blindC n wd gp t sh) (0, 0) _ H0.out Tryz.underlying28 rfl info_blind (blind_fits _ _ _ _ _) _ (blind_all _ _ _ _ _) ?_) | (go_at_call 32; refine (HS.out _).mono ?_; rintro e W3 ⟨rfl, hb1⟩; replace H0 := Lib.hid (below_row hb1 H0.out); replace H1 := Lib.hid (below_row hb1 H1.out); replace hb := hb.trans (hb1.mono hb.size); clear hb1))
    refine abs_code (fun V => V.heap[b1]? = some (.cells (f32s (List.replicate 24 0)) 35 (0, 0)) ∧ Below w.heap.size w V) ⟨H1.out, hb⟩ ?_
    clear H0 H1 hb HO1 HO2 HT HS
    rintro V ⟨h1, hb⟩
    have H1 := Lib.hid h1
    have hbl := row_lt h1
    have hVs := hb.size
    clear h1
    generalize hwh : opnB wd gp t h = wh at *
    have HWH := Lib.hid hwh
    clear hwh
    go_upto_region 6 with (fail)
    go_loopw [26] (fun i wr => ∃ k : Nat, k ≤ 24 ∧ i = .int .i64 k ∧ wr.heap[b1]? = some (.cells (f32s (List.replicate 24 0)) 35 (0, 0)) ∧ wr.heap[V.heap.size]? = some (.cells (f32s (flK (flP wh hg br M) k)) 35 (0, 0)) ∧ Below w.heap.size w wr) (fun i _ => 24 - (intOf i).toNat)
    case atStart => exact ⟨0, Nat.zero_le _, rfl, heap_alloc_old H1.out, heap_alloc_new _ _, hb.alloc hVs _⟩
    case round =>
      clear hb H1
      obtain ⟨k, hk, rfl, h1, h2, hb⟩ := hrel
      by_cases hlt : k < 24
      · have z1 : (k : Int) < 24 := by omega
        have z2 : (0 : Int) ≤ (k : Int) := by omega
        have z5 : (k : Int) ≤ 32 := by omega
        have hl2 := flK_len (flP wh hg br M) hk
        have hd := cell_of_f32s h2 k (by rw [hl2]; exact hlt)
        have hf := frozen_of_row wr V.heap.size k _ _ h2
        have H1 := Lib.hid h1
        have H2 := Lib.hid h2
        have B1 := HB1.out k
        have B2 := HB2.out k
        have hst := Lib.hid (flK_set (flP wh hg br M) hlt)
        have hsz := Lib.hid (flK_zero (flP wh hg br M) hlt)
        have HP : Hid (flP wh hg br M k = if k < M then (if br.testBit k then hg else wh) else 0) := rfl
        clear h1 h2 hl2
        rcases hbr : br.testBit k with _ | _
        · rw [hbr] at B1
          by_cases hm : k < M
          · rw [decide_eq_true hm] at B2
            have hv : flP wh hg br M k = wh := by rw [HP.out, if_pos hm, hbr]; rfl
            rw [hv] at hst
            have HV := Lib.hid hbr
            clear hbr hv
            go_wp2
            go_roundw
            case rel => exact ⟨k + 1, by omega, by go_num, by rw [heap_setCell_other _ _ _ _ (by simp; omega)]; exact H1.out, by rw [heap_setCell_same _ _ _ _ _ _ H2.out, f32s_set, hst.out], hb.setCell (by simp; omega) _⟩
            case measure => simp [intOf]; omega
          · rw [decide_eq_false hm] at B2
            have hv : flP wh hg br M k = 0 := by rw [HP.out, if_neg hm]
            have hz := Lib.hid (hsz.out hv)
            have HV := Lib.hid hbr
            clear hbr hv
            go_wp2
            go_roundw
            case rel => exact ⟨k + 1, by omega, by go_num, H1.out, by rw [← hz.out]; exact H2.out, hb⟩
            case measure => simp [intOf]; omega
        · rw [hbr] at B1
          have hm : k < M := HBM.out k hbr
          have hv : flP wh hg br M k = hg := by rw [HP.out, if_pos hm, hbr]; rfl
          rw [hv] at hst
          have HV := Lib.hid hbr
          clear hbr hv B2
          go_wp2
          go_roundw
          case rel => exact ⟨k + 1, by omega, by go_num, by rw [heap_setCell_other _ _ _ _ (by simp; omega)]; exact H1.out, by rw [heap_setCell_same _ _ _ _ _ _ H2.out, f32s_set, hst.out], hb.setCell (by simp; omega) _⟩
          case measure => simp [intOf]; omega
      · obtain rfl : k = 24 := by omega
        have hm := flK_len (flP wh hg br M) (Nat.le_refl 24)
        generalize hys : flK (flP wh hg br M) 24 = ys at *
        have HY := Lib.hid hys
        have Hm := Lib.hid hm
        have H2 := Lib.hid h2
        have H1 := Lib.hid h1
        clear h1 h2 hm hlt hk hys
        go_wp2_with (first | (refine wpList_load_part rfl 35 _ rfl _ _ 24 rfl _ _ _ _ H2.out Tryz.underlying35 rfl info_floor (by rw [f32s_size, Hm.out]; decide) _ (f32s_all _ 24 Hm.out) ?_) | (refine wpList_store_part rfl 35 _ _ rfl _ _ _ rfl rfl _ _ H1.out (by rw [f32s_size, Hm.out]; exact info_floor) (by simp [Hm.out]) (f32s_one _) ?_; rw [laid_all _ _ (by simp [Hm.out])]))
        exact bodyPost_ret (results_cell_row rfl _ _ _ _ _ _ _ rfl (setRow_heap _ _ _ _ _ _ H1.out) Tryz.underlying35 rfl (by rw [f32s_size, Hm.out]; exact info_floor)) rfl ⟨by rw [← HY.out, HWH.out], below_setRow hb (by omega) _⟩
  · have e : hgT t = t - 32 := if_neg ht
    rw [e] at HO2 HT
    clear e
    have z2 : IntKind.i16.wrap (t - 32) = t - 32 := by rw [IntWalk.i16_in _ (by omega)]
    go_enter Tryz.func33, Tryz.ntmps33
    go_upto_region 1 with (fail)
    refine abs_code (fun W => W.heap[w.heap.size]? = some (.cells (blindC n wd gp t sh) 28 (0, 0)) ∧ W.heap[w.heap.size + 1]? = some (.cells (f32s (List.replicate 24 0)) 35 (0, 0)) ∧ Below w.heap.size w W) ⟨heap_alloc2_old _ _ _, heap_alloc2_new _ _ _, ((Below.refl _ _).alloc (Nat.le_refl _) _).alloc (by simp) _⟩ ?_
    rintro W ⟨h0, h1, hb⟩
    have hb1s : w.heap.size ≤ w.heap.size + 1 := by omega
    generalize w.heap.size + 1 = b1 at *
    have H0 := Lib.hid h0
    have H1 := Lib.hid h1
    clear h0 h1
    go_upto_region 2 with (first | (refine wpList_load_part rfl 28 _ rfl w.heap.size 0 5 rfl 28 (blindC n wd gp t sh) (0, 0) _ H0.out Tryz.underlying28 rfl info_blind (blind_fits _ _ _ _ _) _ (blind_all _ _ _ _ _) ?_) | (go_at_call 62; refine (HO1.out _).mono ?_; rintro e W1 ⟨rfl, hb1⟩; replace H0 := Lib.hid (below_row hb1 H0.out); replace H1 := Lib.hid (below_row hb1 H1.out); replace hb := hb.trans (hb1.mono hb.size); clear hb1))
    obtain ⟨k0, k1, k2, k3, k4⟩ := blind_cells H0.out
    go_upto_region 3 with (first | (refine wpList_load_part rfl 28 _ rfl w.heap.size 0 5 rfl 28 (blindC n wd gp t sh) (0, 0) _ H0.out Tryz.underlying28 rfl info_blind (blind_fits _ _ _ _ _) _ (blind_all _ _ _ _ _) ?_) | (go_at_call 63; refine (HT.out _).mono ?_; rintro e W2 ⟨rfl, hb1⟩; replace H0 := Lib.hid (below_row hb1 H0.out); replace H1 := Lib.hid (below_row hb1 H1.out); replace hb := hb.trans (hb1.mono hb.size); clear hb1) | (go_at_call 62; refine (HO2.out _).mono ?_; rintro e W1 ⟨rfl, hb1⟩; replace H0 := Lib.hid (below_row hb1 H0.out); replace H1 := Lib.hid (below_row hb1 H1.out); replace hb := hb.trans (hb1.mono hb.size); clear hb1))
    clear k0 k1 k2 k3 k4
    go_upto_region 4 with (first | (refine wpList_load_part rfl 28 _ rfl w.heap.size 0 5 rfl 28 (blindC n wd gp t sh) (0, 0) _ H0.out Tryz.underlying28 rfl info_blind (blind_fits _ _ _ _ _) _ (blind_all _ _ _ _ _) ?_) | (go_at_call 32; refine (HS.out _).mono ?_; rintro e W3 ⟨rfl, hb1⟩; replace H0 := Lib.hid (below_row hb1 H0.out); replace H1 := Lib.hid (below_row hb1 H1.out); replace hb := hb.trans (hb1.mono hb.size); clear hb1))
    refine abs_code (fun V => V.heap[b1]? = some (.cells (f32s (List.replicate 24 0)) 35 (0, 0)) ∧ Below w.heap.size w V) ⟨H1.out, hb⟩ ?_
    clear H0 H1 hb HO1 HO2 HT HS
    rintro V ⟨h1, hb⟩
    have H1 := Lib.hid h1
    have hbl := row_lt h1
    have hVs := hb.size
    clear h1
    generalize hwh : opnB wd gp t h = wh at *
    have HWH := Lib.hid hwh
    clear hwh
    go_upto_region 6 with (fail)
    go_loopw [26] (fun i wr => ∃ k : Nat, k ≤ 24 ∧ i = .int .i64 k ∧ wr.heap[b1]? = some (.cells (f32s (List.replicate 24 0)) 35 (0, 0)) ∧ wr.heap[V.heap.size]? = some (.cells (f32s (flK (flP wh hg br M) k)) 35 (0, 0)) ∧ Below w.heap.size w wr) (fun i _ => 24 - (intOf i).toNat)
    case atStart => exact ⟨0, Nat.zero_le _, rfl, heap_alloc_old H1.out, heap_alloc_new _ _, hb.alloc hVs _⟩
    case round =>
      clear hb H1
      obtain ⟨k, hk, rfl, h1, h2, hb⟩ := hrel
      by_cases hlt : k < 24
      · have z1 : (k : Int) < 24 := by omega
        have z2 : (0 : Int) ≤ (k : Int) := by omega
        have z5 : (k : Int) ≤ 32 := by omega
        have hl2 := flK_len (flP wh hg br M) hk
        have hd := cell_of_f32s h2 k (by rw [hl2]; exact hlt)
        have hf := frozen_of_row wr V.heap.size k _ _ h2
        have H1 := Lib.hid h1
        have H2 := Lib.hid h2
        have B1 := HB1.out k
        have B2 := HB2.out k
        have hst := Lib.hid (flK_set (flP wh hg br M) hlt)
        have hsz := Lib.hid (flK_zero (flP wh hg br M) hlt)
        have HP : Hid (flP wh hg br M k = if k < M then (if br.testBit k then hg else wh) else 0) := rfl
        clear h1 h2 hl2
        rcases hbr : br.testBit k with _ | _
        · rw [hbr] at B1
          by_cases hm : k < M
          · rw [decide_eq_true hm] at B2
            have hv : flP wh hg br M k = wh := by rw [HP.out, if_pos hm, hbr]; rfl
            rw [hv] at hst
            have HV := Lib.hid hbr
            clear hbr hv
            go_wp2
            go_roundw
            case rel => exact ⟨k + 1, by omega, by go_num, by rw [heap_setCell_other _ _ _ _ (by simp; omega)]; exact H1.out, by rw [heap_setCell_same _ _ _ _ _ _ H2.out, f32s_set, hst.out], hb.setCell (by simp; omega) _⟩
            case measure => simp [intOf]; omega
          · rw [decide_eq_false hm] at B2
            have hv : flP wh hg br M k = 0 := by rw [HP.out, if_neg hm]
            have hz := Lib.hid (hsz.out hv)
            have HV := Lib.hid hbr
            clear hbr hv
            go_wp2
            go_roundw
            case rel => exact ⟨k + 1, by omega, by go_num, H1.out, by rw [← hz.out]; exact H2.out, hb⟩
            case measure => simp [intOf]; omega
        · rw [hbr] at B1
          have hm : k < M := HBM.out k hbr
          have hv : flP wh hg br M k = hg := by rw [HP.out, if_pos hm, hbr]; rfl
          rw [hv] at hst
          have HV := Lib.hid hbr
          clear hbr hv B2
          go_wp2
          go_roundw
          case rel => exact ⟨k + 1, by omega, by go_num, by rw [heap_setCell_other _ _ _ _ (by simp; omega)]; exact H1.out, by rw [heap_setCell_same _ _ _ _ _ _ H2.out, f32s_set, hst.out], hb.setCell (by simp; omega) _⟩
          case measure => simp [intOf]; omega
      · obtain rfl : k = 24 := by omega
        have hm := flK_len (flP wh hg br M) (Nat.le_refl 24)
        generalize hys : flK (flP wh hg br M) 24 = ys at *
        have HY := Lib.hid hys
        have Hm := Lib.hid hm
        have H2 := Lib.hid h2
        have H1 := Lib.hid h1
        clear h1 h2 hm hlt hk hys
        go_wp2_with (first | (refine wpList_load_part rfl 35 _ rfl _ _ 24 rfl _ _ _ _ H2.out Tryz.underlying35 rfl info_floor (by rw [f32s_size, Hm.out]; decide) _ (f32s_all _ 24 Hm.out) ?_) | (refine wpList_store_part rfl 35 _ _ rfl _ _ _ rfl rfl _ _ H1.out (by rw [f32s_size, Hm.out]; exact info_floor) (by simp [Hm.out]) (f32s_one _) ?_; rw [laid_all _ _ (by simp [Hm.out])]))
        exact bodyPost_ret (results_cell_row rfl _ _ _ _ _ _ _ rfl (setRow_heap _ _ _ _ _ _ H1.out) Tryz.underlying35 rfl (by rw [f32s_size, Hm.out]; exact info_floor)) rfl ⟨by rw [← HY.out, HWH.out], below_setRow hb (by omega) _⟩

end Go.Proofs.YtmbgmpeiicjlaaaGreatDoor

namespace Go.Proofs.YtmbgmpeiicjlaaaGreatDoor

open Go.ChangeShapes Go.WideShapes Go.ChangeAt Go.RowKit Go.Deep Go.Joins

attribute [local go_sem] run_store_f

theorem two_newB (w : World) (a b : Obj) : ((w.alloc a).alloc b).heap[w.heap.size]? = some a ∧ ((w.alloc a).alloc b).heap[w.heap.size + 1]? = some b ∧ Below w.heap.size w ((w.alloc a).alloc b) := by
  have hb : Below w.heap.size w (w.alloc a) := (Below.refl _ _).alloc (Nat.le_refl _) _
  refine ⟨below_row ((Below.refl (w.alloc a).heap.size _).alloc (Nat.le_refl _) b) (heap_alloc_new w a), ?_, hb.alloc hb.size _⟩
  have := heap_alloc_new (w.alloc a) b
  rwa [World.size_alloc] at this

def alP (xs ys : List Nat) (k : Nat) : Bool := sameB (xs[k]?.getD 0) (ys[k]?.getD 0)

theorem SameNumber_b (a b : Nat) (r : Bool) (hr : sameB a b = r) (w : World) : Calls Tryz.prog 89 #[.float .f32 a, .float .f32 b] w fun e w' => e = .returned (.bool r) ∧ w = w' := by subst hr; exact SameNumber_is a b w

set_option maxRecDepth 100000 in
set_option maxHeartbeats 2000000 in
theorem alike_any (xs ys : List Nat) (hx : xs.length = 24) (hy : ys.length = 24) (w : World) :
    Calls Tryz.prog 68 #[.agg (f32s xs), .agg (f32s ys)] w fun e w' => e = .returned (.int .u32 (packP (alP xs ys) 24 : Int)) ∧ Below w.heap.size w w' := by
  have Hx := Lib.hid hx
  have Hy := Lib.hid hy
  have HI := Lib.hid (fun k hk w => run_index_f xs hx k hk w)
  have HP : Hid (∀ k, k ≤ 31 → (alP xs ys k = true → packP (alP xs ys) (k + 1) = (packP (alP xs ys) k ||| 2 ^ k)) ∧ (alP xs ys k = false → packP (alP xs ys) (k + 1) = packP (alP xs ys) k) ∧ (2 : Int) ^ k % 4294967296 = (2 : Int) ^ k ∧ bits .or .u32 (packP (alP xs ys) k : Int) ((2 : Int) ^ k) = ((packP (alP xs ys) k ||| 2 ^ k : Nat) : Int)) := fun k hk => packP_step (alP xs ys) k hk
  clear hx hy
  go_enter Tryz.func68, Tryz.ntmps68
  go_upto_region 1 with (fail)
  refine abs_code (fun W => W.heap[w.heap.size]? = some (.cells (f32s xs) 35 (0, 0)) ∧ W.heap[w.heap.size + 1]? = some (.cells (f32s ys) 35 (0, 0)) ∧ Below w.heap.size w W) ⟨(two_newB _ _ _).1, (two_newB _ _ _).2.1, (two_newB _ _ _).2.2⟩ ?_
  rintro W ⟨h0, h1, hb⟩
  generalize w.heap.size + 1 = b1 at *
  have H0 := Lib.hid h0
  have H1 := Lib.hid h1
  clear h0 h1
  go_upto_region 3 with (refine wpList_load_part rfl 35 _ rfl w.heap.size 0 24 rfl 35 (f32s xs) (0, 0) _ H0.out Tryz.underlying35 rfl info_floor (by rw [f32s_size, Hx.out]; decide) (f32s xs) (f32s_all _ 24 Hx.out) ?_)
  go_loopw [5, 9] (fun s i wr => ∃ k : Nat, k ≤ 24 ∧ i = .int .i64 k ∧ s = .int .u32 (packP (alP xs ys) k : Int) ∧ Below W.heap.size W wr) (fun _ i _ => 24 - (intOf i).toNat)
  case atStart => exact ⟨0, Nat.zero_le _, rfl, rfl, Below.refl _ _⟩
  case round =>
    obtain ⟨k, hk, rfl, rfl, hbw⟩ := hrel
    by_cases hlt : k < 24
    · have z1 : (k : Int) < 24 := by omega
      have z2 : (0 : Int) ≤ (k : Int) := by omega
      have hi := HI.out k hlt
      have qy := cell_of_f32s (below_row hbw H1.out) k (by rw [Hy.out]; exact hlt)
      obtain ⟨s1, s2, s3, s4⟩ := HP.out k (by omega)
      have he : alP xs ys k = sameB (xs[k]?.getD 0) (ys[k]?.getD 0) := rfl
      have S1 := Lib.hid s1
      have S2 := Lib.hid s2
      have S3 := Lib.hid s3
      have S4 := Lib.hid s4
      have HE := Lib.hid he
      clear s1 s2 s3 s4 he
      generalize xs[k]?.getD 0 = x at *
      generalize ys[k]?.getD 0 = y at *
      have z4 : IntKind.u64.wrap (k : Int) = (k : Int) := by rw [IntWalk.u64_in _ (by omega)]
      have z5 : (k : Int) ≤ 32 := by omega
      rcases hs : sameB x y with _ | _
      · have e := hs
        clear hs
        have E := Lib.hid e
        clear e
        go_wp2_with (first | (go_at_call 89; refine (SameNumber_b x y false E.out _).mono ?_; rintro e w' ⟨rfl, rfl⟩))
        go_roundw
        case rel => exact ⟨k + 1, by omega, by go_num, by rw [S2.out (HE.out.trans E.out)], hbw⟩
        case measure => simp [intOf]; omega
      · have e := hs
        clear hs
        have E := Lib.hid e
        clear e
        go_wp2_with (first | (go_at_call 89; refine (SameNumber_b x y true E.out _).mono ?_; rintro e w' ⟨rfl, rfl⟩))
        go_roundw
        case rel => exact ⟨k + 1, by omega, by go_num, by rw [S3.out, S4.out, S1.out (HE.out.trans E.out)], hbw⟩
        case measure => simp [intOf]; omega
    · obtain rfl : k = 24 := by omega
      go_wp2
      go_ret
      exact ⟨rfl, hb.trans (hbw.mono hb.size)⟩

/-- Whether a stripe's light is one that can be. -/
def gdP (xs : List Nat) (wh hg m : Nat) (k : Nat) : Bool := if k < m then (sameB (xs[k]?.getD 0) wh || sameB (xs[k]?.getD 0) hg) else sameB (xs[k]?.getD 0) 0

/-- Whether a slat is told to be broken. -/
def sbP (xs : List Nat) (wh hg m : Nat) (k : Nat) : Bool := decide (k < m) && (!sameB (xs[k]?.getD 0) wh && sameB (xs[k]?.getD 0) hg)

def gdA (xs : List Nat) (wh hg m : Nat) : Bool := (List.range 24).all (gdP xs wh hg m)

theorem gdA_no {xs : List Nat} {wh hg m k : Nat} (hk : k < 24) (h : gdP xs wh hg m k = false) : gdA xs wh hg m = false := by
  unfold gdA
  rw [List.all_eq_false]
  exact ⟨k, List.mem_range.2 hk, by rw [h]; decide⟩

def gdR (xs : List Nat) (wh hg m : Nat) : Int := if gdA xs wh hg m then (packP (sbP xs wh hg m) 24 : Int) else 0

def gdC (xs : List Nat) (wh hg m : Nat) : Int := if gdA xs wh hg m then 0 else 4

theorem gdR_no {xs : List Nat} {wh hg m : Nat} (h : gdA xs wh hg m = false) : gdR xs wh hg m = 0 ∧ gdC xs wh hg m = 4 := by unfold gdR gdC; rw [h]; exact ⟨rfl, rfl⟩

theorem gdR_yes {xs : List Nat} {wh hg m : Nat} (h : gdA xs wh hg m = true) : gdR xs wh hg m = (packP (sbP xs wh hg m) 24 : Int) ∧ gdC xs wh hg m = 0 := by unfold gdR gdC; rw [h]; exact ⟨rfl, rfl⟩

theorem gdA_yes {xs : List Nat} {wh hg m : Nat} (h : ∀ k, k < 24 → gdP xs wh hg m k = true) : gdA xs wh hg m = true := by
  unfold gdA
  rw [List.all_eq_true]
  exact fun k hk => h k (List.mem_range.1 hk)

set_option maxRecDepth 100000 in
set_option maxHeartbeats 4000000 in
theorem sBroken_yes (n : Int) (wd gp : Nat) (t : Int) (sh : Nat) (T0 : -32768 ≤ t) (T1 : t ≤ 32767) (N0 : -128 ≤ n) (N1 : n ≤ 127) (ok : BlOk n wd gp t sh) (hk : okBl n wd gp t sh = true) (h : Int) (hi : inI 1 64 h = true) (xs : List Nat) (hx : xs.length = 24) (w : World) :
    Calls Tryz.prog 12 #[.agg (blindC n wd gp t sh), .int .i64 h, .agg (f32s xs)] w fun e w' => e = .returned (.tuple #[.int .u32 (gdR xs (opnB wd gp t h) (opnB wd gp (hgT t) h) (mB n).toNat), .int .i64 (gdC xs (opnB wd gp t h) (opnB wd gp (hgT t) h) (mB n).toNat)]) ∧ Below w.heap.size w w' := by
  have Hi := Lib.hid hi
  have Hx := Lib.hid hx
  have Hc : Hid (codeC (okBl n wd gp t sh) true = 0) := by rw [hk]; rfl
  have hm0 := mB_le n
  have hm1 : 1 ≤ mB n := by
    have := ok.1
    unfold mB; split <;> omega
  have HO1 : Hid (∀ (g : Nat) (W' : World), W'.heap[g]? = some (.cells (blindC n wd gp t sh) 28 (0, 0)) → Calls Tryz.prog 36 #[.pointer (some ⟨g, 0, none⟩), .int .i64 h] W' fun e w' => e = .returned (.float .f32 (opnB wd gp t h)) ∧ Below W'.heap.size W' w') := fun g W' hg => l02Open_any n wd gp t sh ok h (inI_get hi).1 (inI_get hi).2 g 28 (0, 0) W' hg
  have HO2 := Lib.hid (fun w => l07Hanging_any n wd gp t sh ok h (inI_get hi).1 (inI_get hi).2 w)
  obtain ⟨M, hM⟩ := Int.eq_ofNat_of_zero_le (by omega : 0 ≤ mB n)
  rw [hM] at hm0 hm1
  rw [hM, Int.toNat_natCast]
  have HM := Lib.hid hM
  clear hM ok hk hi hx
  generalize opnB wd gp t h = wh at *
  generalize opnB wd gp (hgT t) h = hg at *
  go_enter Tryz.func12, Tryz.ntmps12
  go_upto_region 1 with (fail)
  refine abs_code (fun W => W.heap[w.heap.size]? = some (.cells (blindC n wd gp t sh) 28 (0, 0)) ∧ W.heap[w.heap.size + 1]? = some (.cells (f32s xs) 35 (0, 0)) ∧ Below w.heap.size w W) ⟨(two_newB _ _ _).1, (two_newB _ _ _).2.1, (two_newB _ _ _).2.2⟩ ?_
  rintro W ⟨h0, h1, hb⟩
  generalize w.heap.size + 1 = b1 at *
  have H0 := Lib.hid h0
  have H1 := Lib.hid h1
  clear h0 h1
  go_upto_region 9 with (first | (refine wpList_load_part rfl 28 _ rfl w.heap.size 0 5 rfl 28 (blindC n wd gp t sh) (0, 0) _ H0.out Tryz.underlying28 rfl info_blind (blind_fits _ _ _ _ _) _ (blind_all _ _ _ _ _) ?_) | (go_at_call 35; refine (l02Up_is h true Hi.out _).mono ?_; rintro e w' ⟨rfl, rfl⟩) | (go_at_call 40; refine (l02Asked_is n wd gp t sh T0 T1 N0 N1 w.heap.size _ _ true 0 Hc.out _ H0.out).mono ?_; rintro e w' ⟨rfl, rfl⟩) | (go_at_call 28; refine (l07Looked_any n wd gp t sh N0 N1 _ 28 (0, 0) _ H0.out).mono ?_; rw [HM.out]; rintro e w' ⟨rfl, rfl⟩) | (go_at_call 36; refine (HO1.out _ _ H0.out).mono ?_; rintro e W1 ⟨rfl, hb1⟩; replace H0 := Lib.hid (below_row hb1 H0.out); replace H1 := Lib.hid (below_row hb1 H1.out); replace hb := hb.trans (hb1.mono hb.size); clear hb1) | (go_at_call 37; refine (HO2.out _).mono ?_; rintro e W2 ⟨rfl, hb1⟩; replace H0 := Lib.hid (below_row hb1 H0.out); replace H1 := Lib.hid (below_row hb1 H1.out); replace hb := hb.trans (hb1.mono hb.size); clear hb1))
  clear H0 HO1 HO2 Hi Hc
  have HP : Hid (∀ k, k ≤ 31 → (sbP xs wh hg M k = true → packP (sbP xs wh hg M) (k + 1) = (packP (sbP xs wh hg M) k ||| 2 ^ k)) ∧ (sbP xs wh hg M k = false → packP (sbP xs wh hg M) (k + 1) = packP (sbP xs wh hg M) k) ∧ (2 : Int) ^ k % 4294967296 = (2 : Int) ^ k ∧ bits .or .u32 (packP (sbP xs wh hg M) k : Int) ((2 : Int) ^ k) = ((packP (sbP xs wh hg M) k ||| 2 ^ k : Nat) : Int)) := fun k hk => packP_step (sbP xs wh hg M) k hk
  go_loopw [12, 13] (fun s i wr => ∃ k : Nat, k ≤ 24 ∧ i = .int .i64 k ∧ s = .int .u32 (packP (sbP xs wh hg M) k : Int) ∧ (∀ j, j < k → gdP xs wh hg M j = true) ∧ Below W2.heap.size W2 wr) (fun _ i _ => 24 - (intOf i).toNat)
  case atStart => exact ⟨0, Nat.zero_le _, rfl, rfl, fun j hj => absurd hj (Nat.not_lt_zero j), Below.refl _ _⟩
  case round =>
    obtain ⟨k, hk, rfl, rfl, hgd, hbw⟩ := hrel
    by_cases hlt : k < 24
    · have z1 : (k : Int) < 24 := by omega
      have z2 : (0 : Int) ≤ (k : Int) := by omega
      have qy := cell_of_f32s (below_row hbw H1.out) k (by rw [Hx.out]; exact hlt)
      obtain ⟨s1, s2, s3, s4⟩ := HP.out k (by omega)
      have hg1 : gdP xs wh hg M k = if k < M then (sameB (xs[k]?.getD 0) wh || sameB (xs[k]?.getD 0) hg) else sameB (xs[k]?.getD 0) 0 := rfl
      have hs1 : sbP xs wh hg M k = (decide (k < M) && (!sameB (xs[k]?.getD 0) wh && sameB (xs[k]?.getD 0) hg)) := rfl
      have S1 := Lib.hid s1
      have S2 := Lib.hid s2
      have S3 := Lib.hid s3
      have S4 := Lib.hid s4
      clear s1 s2 s3 s4
      generalize xs[k]?.getD 0 = x at *
      have z4 : IntKind.u64.wrap (k : Int) = (k : Int) := by rw [IntWalk.u64_in _ (by omega)]
      have z5 : (k : Int) ≤ 32 := by omega
      by_cases hkm : k < M
      · have z6 : ¬ (M : Int) ≤ (k : Int) := by omega
        have z7 : (k : Int) < (M : Int) := by omega
        rw [if_pos hkm] at hg1
        rw [decide_eq_true hkm, Bool.true_and] at hs1
        rcases ha : sameB x wh with _ | _
        · have HA := Lib.hid (fun w => l01Same_is6a x wh _ ha w)
          rw [ha] at hg1 hs1
          rcases hc : sameB x hg with _ | _
          · have HC := Lib.hid (fun w => l01Same_is6a x hg _ hc w)
            rw [hc] at hg1 hs1
            have HG1 := Lib.hid hg1
            clear hg1 hs1 ha hc
            go_wp2_with (first | (go_at_call 41; (first | (with_reducible refine (HA.out _).mono ?_) | (with_reducible refine (HC.out _).mono ?_)); rintro e w' ⟨rfl, rfl⟩))
            go_ret2
            have hno := gdR_no (gdA_no hlt HG1.out)
            exact ⟨by rw [hno.1, hno.2]; rfl, hb.trans (hbw.mono hb.size)⟩
          · have HC := Lib.hid (fun w => l01Same_is6a x hg _ hc w)
            rw [hc] at hg1 hs1
            have HG1 := Lib.hid hg1
            have HS1 := Lib.hid hs1
            clear hg1 hs1 ha hc
            go_wp2_with (first | (go_at_call 41; (first | (with_reducible refine (HA.out _).mono ?_) | (with_reducible refine (HC.out _).mono ?_)); rintro e w' ⟨rfl, rfl⟩))
            go_roundw
            case rel => exact ⟨k + 1, by omega, by go_num, by rw [S3.out, S4.out, S1.out HS1.out], fun j hj => by
              by_cases e : j = k
              · rw [e]; exact HG1.out
              · exact hgd j (by omega), hbw⟩
            case measure => simp [intOf]; omega
        · have HA := Lib.hid (fun w => l01Same_is6a x wh _ ha w)
          have HC := HA
          rw [ha] at hg1 hs1
          have HG1 := Lib.hid hg1
          have HS1 := Lib.hid hs1
          clear hg1 hs1 ha
          go_wp2_with (first | (go_at_call 41; (first | (with_reducible refine (HA.out _).mono ?_) | (with_reducible refine (HC.out _).mono ?_)); rintro e w' ⟨rfl, rfl⟩))
          go_roundw
          case rel => exact ⟨k + 1, by omega, by go_num, by rw [S2.out HS1.out], fun j hj => by
            by_cases e : j = k
            · rw [e]; exact HG1.out
            · exact hgd j (by omega), hbw⟩
          case measure => simp [intOf]; omega
      · have z6 : (M : Int) ≤ (k : Int) := by omega
        have z7 : ¬ (k : Int) < (M : Int) := by omega
        rw [if_neg hkm] at hg1
        rw [decide_eq_false hkm, Bool.false_and] at hs1
        have HS1 := Lib.hid hs1
        rcases ha : sameB x 0 with _ | _
        · have HA := Lib.hid (fun w => l01Same_is6a x 0 _ ha w)
          have HC := HA
          rw [ha] at hg1
          have HG1 := Lib.hid hg1
          clear hg1 hs1 ha
          go_wp2_with (first | (go_at_call 41; (first | (with_reducible refine (HA.out _).mono ?_) | (with_reducible refine (HC.out _).mono ?_)); rintro e w' ⟨rfl, rfl⟩))
          go_ret2
          have hno := gdR_no (gdA_no hlt HG1.out)
          exact ⟨by rw [hno.1, hno.2]; rfl, hb.trans (hbw.mono hb.size)⟩
        · have HA := Lib.hid (fun w => l01Same_is6a x 0 _ ha w)
          have HC := HA
          rw [ha] at hg1
          have HG1 := Lib.hid hg1
          clear hg1 hs1 ha
          go_wp2_with (first | (go_at_call 41; (first | (with_reducible refine (HA.out _).mono ?_) | (with_reducible refine (HC.out _).mono ?_)); rintro e w' ⟨rfl, rfl⟩))
          go_roundw
          case rel => exact ⟨k + 1, by omega, by go_num, by rw [S2.out HS1.out], fun j hj => by
            by_cases e : j = k
            · rw [e]; exact HG1.out
            · exact hgd j (by omega), hbw⟩
          case measure => simp [intOf]; omega
    · obtain rfl : k = 24 := by omega
      go_wp2
      go_ret2
      have hga := gdR_yes (gdA_yes hgd)
      exact ⟨by rw [hga.1, hga.2]; rfl, hb.trans (hbw.mono hb.size)⟩

end Go.Proofs.YtmbgmpeiicjlaaaGreatDoor

namespace Go.Proofs.YtmbgmpeiicjlaaaGreatDoor

open Go.RowKit Go.Shelf

/-- An hour of a day. -/
abbrev Hr := { h : Int // 0 ≤ h ∧ h < 24 }

def hr (k : Nat) : Hr := ⟨(k % 24 : Nat), by omega⟩

theorem hr_val (k : Nat) (h : k < 24) : (hr k).1 = (k : Int) := by simp [hr, Nat.mod_eq_of_lt h]

def hrs (k : Nat) : List Hr := (List.range k).map hr

theorem hrs_succ (k : Nat) : hrs (k + 1) = hrs k ++ [hr k] := by simp [hrs, List.range_succ]

@[simp] theorem hrs_length (k : Nat) : (hrs k).length = k := by simp [hrs]

set_option maxRecDepth 100000 in
set_option maxHeartbeats 1000000 in
theorem eachHour_in (F : Fence) (n : Nat) (hF : F.fn 79) (hro : F.round = none) (hn : 1 ≤ n) (l n₀ : Nat) (J Jx : List Hr → World → Prop)
    (hY : ∀ pre x W, J pre W → pre.length < 24 → YieldAt F (n - 1) Tryz.prog l #[.int .i64 x.1] W fun e W' =>
      (e = .returned (.bool true) ∧ J (pre ++ [x]) W' ∧ Below n₀ W W') ∨ (e = .returned (.bool false) ∧ Jx (pre ++ [x]) W'))
    (W : World) (h0 : J [] W) :
    CallsIn F n Tryz.prog 79 #[.func (.yield l) #[] #[]] W fun e W' => (∃ v, e = .returned v) ∧
      ((∃ xs, xs = hrs 24 ∧ J xs W') ∨ (∃ pre, (∃ k, k ≤ 24 ∧ pre = hrs k) ∧ Jx pre W')) := by
  refine callsIn_of_wp Tryz.func79 rfl hF ?_ hro
  simp only [Tryz.ntmps79, List.size_toArray, List.length_cons, List.length_nil, Nat.reduceAdd, Nat.reduceSub, Array.replicate_succ, Array.replicate_zero, List.push_toArray, List.append_toArray, List.nil_append, List.cons_append]
  gi_wp2
  gi_loopw [3] (fun i wr => ∃ k : Nat, k ≤ 24 ∧ i = .int .i64 k ∧ J (hrs k) wr ∧ Below n₀ W wr) (fun i _ => 24 - (intOf i).toNat)
  case atStart => exact ⟨0, Nat.zero_le _, rfl, h0, Below.refl _ _⟩
  case round =>
    obtain ⟨k, hk, rfl, hJs, hnx⟩ := hrel
    by_cases hlt : k < 24
    · obtain ⟨fn, tmps, assign, body, hy, hR⟩ := hY _ (hr k) wr hJs (by rw [hrs_length]; exact hlt)
      rw [hr_val k hlt] at hy
      gi_wp2
      refine hR.mono ?_
      rintro e W3 (⟨rfl, hJ3, hk3⟩ | ⟨rfl, hJx3⟩)
      · gi_wp2
        go_roundw
        case rel => exact ⟨k + 1, by omega, by simp, by rw [hrs_succ]; exact hJ3, hnx.trans hk3⟩
        case measure => simp [intOf]; omega
      · gi_wp2
        refine bodyPost_ret (results_none rfl _ _ _) rfl ?_
        exact ⟨⟨_, rfl⟩, .inr ⟨_, ⟨k + 1, by omega, (hrs_succ _).symm⟩, hJx3⟩⟩
    · obtain rfl : k = 24 := by omega
      gi_wp2
      go_end0
      exact ⟨⟨_, rfl⟩, .inl ⟨_, rfl, hJs⟩⟩

theorem eachHour_stops (F : Fence) (n : Nat) (hF : F.fn 79) (hro : F.round = none) (hn : 1 ≤ n) (n₀ : Nat) (w : World) :
    SeqStopsK F n Tryz.prog 79 #[] (fun x : Hr => #[Value.int .i64 x.1]) (Below n₀) (fun xs => xs = hrs 24) (fun pre => ∃ k, k ≤ 24 ∧ pre = hrs k) 24 w := fun l J Jx W _ _ _ hY h0 =>
  eachHour_in F n hF hro hn l n₀ J Jx hY W h0

end Go.Proofs.YtmbgmpeiicjlaaaGreatDoor

namespace Go.Proofs.YtmbgmpeiicjlaaaGreatDoor

open Go Go.RowKit

section

variable {P : Program}

theorem op_round {l n : Nat} {o : Oper} {a : Act} {w : World} {K : Act → World → Prop} {Q : Exit → Act → World → Prop} (hd : ∀ c, o.op ≠ .defer c) (h : o.wp P a w K Q) :
    o.wpIn (Fence.wide.inRound l) n P a w K Q := by
  refine ⟨fun _ _ => trivial, ?_⟩
  rw [Oper.semAt_eq _ _ _ hd]
  unfold Oper.wp at h
  generalize (execOp a.eval o).run P w = r at *
  cases r with
  | ok x w' =>
    cases x <;> simp only [Oper.upon, Oper.uponIn] at h ⊢
    case value => exact h
    case skip => exact h
    case defer => exact h
    case enter f args => exact ⟨fun h => (by cases h), CallsIn.inRound l (callsIn_wide.2 (h.mono fun e w' he => by cases e <;> exact he))⟩
    case row row args => exact ⟨fun h => (by cases h), fun c cs _ => let ⟨v, w', r, s⟩ := h c cs; ⟨v, w', r, stepsIn_wide.2 s⟩⟩
  | halt x w' => cases x <;> simp only [Oper.upon, Oper.uponIn] at h ⊢ <;> exact h

theorem any_round {l n : Nat} {md : Region.Mode} {ops : Array Oper} {Q : Exit → Act → World → Prop} (hd : ∀ (i : Nat) (o : Oper), ops[i]? = some o → ∀ c, o.op ≠ .defer c) (hlo : ¬ LetsOut Q) :
    ∀ (fuel : Nat) (listed : Array Bool) (a : Act) (w : World), wpAny P md ops Q fuel listed a w → wpAnyIn (Fence.wide.inRound l) n P md ops Q fuel listed a w
  | 0, _, _, _, h => h
  | fuel + 1, listed, a, w, h => by
    refine ⟨h.1, fun i hi => ?_⟩
    have h1 := h.2 i hi
    unfold wpOp at h1
    unfold wpOpIn
    cases ho : ops[i]? with
    | none => simp only [ho] at h1; exact any_round hd hlo fuel _ _ _ h1
    | some o =>
      simp only [ho] at h1 ⊢
      split
      · rename_i hw
        rw [if_pos hw] at h1
        have h2 := h1.resolve_right (fun h => hlo h.2)
        exact Oper.wpIn_mono (fun a w h => any_round hd hlo fuel _ a w h) (op_round (hd i o ho) h2)
      · rename_i hw
        rw [if_neg hw] at h1
        exact ⟨fun _ _ => trivial, any_round hd hlo fuel _ _ _ h1⟩

/-- A region that draws its order, in a round: from the law for a region under a held condition. -/
theorem region_round {l n id : Nat} {ops : Array Oper} {Q : Exit → Act → World → Prop} {S : World → Prop} {a : Act} {w : World} (hm : P.follows .mixedOrders = true)
    (hd : ∀ (i : Nat) (o : Oper), ops[i]? = some o → ∀ c, o.op ≠ .defer c) (hlo : ¬ LetsOut Q) (hS : S w.drew)
    (h : S w.drew → wpAnyH P .any ops Q S ops.size (Array.replicate ops.size false) a w.drew) : (Code.region id ops true).wpIn (Fence.wide.inRound l) n P Q a w :=
  wpIn_region_any hm (any_round hd hlo _ _ _ _ (wpAny_of_held _ _ _ _ (h hS)))

/-- Reads before one store, in a round. -/
theorem still_tail_round {l n id k : Nat} {Q : Exit → Act → World → Prop} {a : Act} {w : World} {os : List Oper} (hm : P.follows .mixedOrders = true) (hB : Region.lexTailB .any os.toArray k = true)
    (hd : ∀ (i : Nat) (o : Oper), os.toArray[i]? = some o → ∀ c, o.op ≠ .defer c) (hlo : ¬ LetsOut Q)
    (h : wpStill P os.toArray w.drew (fun a' => wpList P os.toArray Q (os.drop k) a' w.drew) (os.take k) a) : (Code.region id os.toArray true).wpIn (Fence.wide.inRound l) n P Q a w := by
  refine wpIn_region_any hm (any_round hd hlo _ _ _ _ ?_)
  simp only [Region.lexTailB, Bool.and_eq_true, decide_eq_true_eq] at hB
  obtain ⟨⟨⟨⟨hsel, hk⟩, hs⟩, hc⟩, hlex⟩ := hB
  have hk' : k < os.length := by simpa using hk
  have htl : (os.take k).length = k := by simp; omega
  have hdl : (os.drop k).length = os.toArray.size - k := by simp
  have inv0 : HeadInv .any os.toArray k (Array.replicate os.toArray.size false) :=
    ⟨by simp, fun j oj _ hl => (by rw [getD_replicate_false] at hl; cases hl), fun t _ ht => getD_in (by simpa using ht) (getD_replicate_false _ _)⟩
  have H := wpAnyL_lex (md := .any) (g := os.toArray.size - k) hsel hs hc hk (os.take k) 0 _ a (fun j hj => by
    have hj' : j < k := by rw [htl] at hj; exact hj
    simp [hj']) (by simpa using htl) inv0 (by rw [htl]; exact hlex) h
  have H2 := wpAny_of_head (Q' := Q) (g := os.toArray.size - k) (fun listed a' hL => by
    have h3 := wpAny_of_seq (md := .any) (Q' := Q) (os.drop k) k listed a' w.drew (fun j => by simp [List.getElem?_drop]) (by rw [hdl]; exact hL.1) hL.2
    rwa [hdl] at h3) _ _ _ H
  rw [htl, show k + (os.toArray.size - k) = os.toArray.size by omega] at H2
  exact H2

theorem no_defer {ops : List Oper} (h : ops.all (fun o => match o.op with | .defer _ => false | _ => true) = true) : ∀ (i : Nat) (o : Oper), ops.toArray[i]? = some o → ∀ c, o.op ≠ .defer c := by
  intro i o ho c hc
  have hm : o ∈ ops := List.mem_iff_getElem?.2 ⟨i, by simpa using ho⟩
  have := List.all_eq_true.1 h o hm
  rw [hc] at this
  cases this

end

end Go.Proofs.YtmbgmpeiicjlaaaGreatDoor

namespace Go.Proofs.YtmbgmpeiicjlaaaGreatDoor

open Go.RowKit Go.Shelf

attribute [local go_sem] Oper.semAt_some

theorem heap_kept {W W' : World} {row : Option Nat} {b : Nat} {cs : Array Value} {t : TypeId} {fr : Nat × Nat} (h : W.heap[b]? = some (.cells cs t fr)) (hg : W.grownBy W' row)
    (hr : ∀ r, row = some r → ∃ o : Obj, W.heap[r]? = some o ∧ o.isCells = false) : W'.heap[b]? = some (.cells cs t fr) := by
  have hlt := (Array.getElem?_eq_some_iff.1 h).1
  rw [← h]
  refine hg.block b hlt fun e => ?_
  obtain ⟨o, ho, hc⟩ := hr b e.symm
  rw [h] at ho
  cases ho
  cases hc

/-- A number between two bounds. -/
def clampI (lo hi y : Int) : Int := if hi < (if lo > y then lo else y) then hi else (if lo > y then lo else y)

/-- The list whose first numbers are held. -/
def clampTo (lo hi : Int) (xs : List Int) (k : Nat) : List Int := (xs.take k).map (clampI lo hi) ++ xs.drop k

def Good (pre : List Hr) : Prop := pre = hrs pre.length

theorem good_snoc {pre : List Hr} {x : Hr} (h : Good (pre ++ [x])) (hl : pre.length < 24) : Good pre ∧ x.1 = (pre.length : Int) := by
  unfold Good at h
  rw [List.length_append, List.length_singleton, hrs_succ] at h
  have h1 := List.append_inj_left h (by simp)
  have h2 := List.append_inj_right h (by simp)
  refine ⟨h1, ?_⟩
  injection h2 with h3
  rw [h3, hr_val _ hl]

theorem good_all : Good (hrs 24) := by unfold Good; rw [hrs_length]

theorem clampTo_get (lo hi : Int) (xs : List Int) (k : Nat) (hx : xs.length = 24) (hk : k < 24) : (clampTo lo hi xs k)[k]?.getD 0 = xs[k]?.getD 0 := by
  unfold clampTo
  rw [List.getElem?_append_right (by simp; omega), List.getElem?_drop]
  congr 2
  simp; omega

theorem clampTo_step (lo hi : Int) (xs : List Int) (k : Nat) (hx : xs.length = 24) (hk : k < 24) :
    (clampTo lo hi xs k).set k (clampI lo hi (xs[k]?.getD 0)) = clampTo lo hi xs (k + 1) := by
  apply List.ext_getElem?
  intro j
  unfold clampTo
  simp only [List.getElem?_set, List.getElem?_append, List.length_map, List.length_take, List.getElem?_map, List.getElem?_take, List.getElem?_drop, List.length_append, List.length_drop, hx]
  by_cases h1 : k = j
  · subst h1
    rw [if_pos rfl, if_pos (by omega), if_pos (by omega), if_pos (by omega), List.getElem?_eq_getElem (by omega)]
    rfl
  · rw [if_neg h1]
    by_cases h2 : j < k
    · rw [if_pos (by omega), if_pos (by omega), if_pos (by omega), if_pos (by omega)]
    · rw [if_neg (by omega), if_neg (by omega)]
      congr 1
      omega

theorem clampTo_all (lo hi : Int) (xs : List Int) (hx : xs.length = 24) : clampTo lo hi xs 24 = xs.map (clampI lo hi) := by
  unfold clampTo
  rw [List.take_of_length_le (by omega), List.drop_of_length_le (by omega), List.append_nil]

def HeldI (w : World) (lo hi : Int) (xs : List Int) (pre : List Hr) (W : World) : Prop :=
  ∃ ys : List Int, ys.length = 24 ∧ W.heap[w.heap.size]? = some (.cells (i16s ys) 44 (0, 0)) ∧ W.heap[w.heap.size + 1]? = some (.cells #[.int .i16 lo] 26 (0, 0)) ∧ W.heap[w.heap.size + 1 + 1]? = some (.cells #[.int .i16 hi] 26 (0, 0)) ∧ W.heap[w.heap.size + 1 + 1 + 1]? = some (.cells (i16s zer) 44 (0, 0)) ∧ (Good pre → ys = clampTo lo hi xs pre.length) ∧ Below w.heap.size w W

theorem heldI_own (w : World) (lo hi : Int) (xs : List Int) (B : Nat) (hB : w.heap.size ≤ B) : OwnFrom B (HeldI w lo hi xs) := by
  intro s W W' row ⟨ys, hy, h0, h1, h2, h3, hg, hb⟩ hg' hr
  have hr2 := fun r e => (hr r e).2
  exact ⟨ys, hy, heap_kept h0 hg' hr2, heap_kept h1 hg' hr2, heap_kept h2 hg' hr2, heap_kept h3 hg' hr2, hg, ownFrom_below (β := Unit) (Nat.le_refl _) hB () W W' row hb hg' hr⟩

theorem held_step {w W : World} {lo hi : Int} {xs ys : List Int} {pre : List Hr} {k : Nat} {h01 : 0 ≤ (k : Int) ∧ (k : Int) < 24} (hx : xs.length = 24) (hy : ys.length = 24) (hl : pre.length < 24)
    (h0 : W.heap[w.heap.size]? = some (.cells (i16s ys) 44 (0, 0))) (h1 : W.heap[w.heap.size + 1]? = some (.cells #[.int .i16 lo] 26 (0, 0))) (h2 : W.heap[w.heap.size + 1 + 1]? = some (.cells #[.int .i16 hi] 26 (0, 0)))
    (h3 : W.heap[w.heap.size + 1 + 1 + 1]? = some (.cells (i16s zer) 44 (0, 0))) (hg : Good pre → ys = clampTo lo hi xs pre.length) (hb : Below w.heap.size w W) (v : Int) (hv : v = clampI lo hi (ys[k]?.getD 0)) :
    KeepsOthers W (W.setCell ⟨w.heap.size, k, none⟩ (.int .i16 v)).drew ∧ Below w.heap.size W (W.setCell ⟨w.heap.size, k, none⟩ (.int .i16 v)).drew ∧ HeldI w lo hi xs (pre ++ [⟨k, h01⟩]) (W.setCell ⟨w.heap.size, k, none⟩ (.int .i16 v)).drew := by
  have hk : k < 24 := by have := h01.2; omega
  refine ⟨(KeepsOthers.setCell _ _ _).trans (KeepsOthers.drew _), ((Below.refl w.heap.size W).setCell (p := ⟨w.heap.size, k, none⟩) (Nat.le_refl _) _).drew, ys.set k v, by simp [hy], ?_, ?_, ?_, ?_, ?_, (hb.setCell (p := ⟨w.heap.size, k, none⟩) (Nat.le_refl _) _).drew⟩
  · rw [heap_drew, heap_setCell_same _ _ _ _ _ _ h0, i16s_set]
  · rw [heap_drew, heap_setCell_other _ _ _ _ (by simp)]; exact h1
  · rw [heap_drew, heap_setCell_other _ _ _ _ (by simp; omega)]; exact h2
  · rw [heap_drew, heap_setCell_other _ _ _ _ (by simp; omega)]; exact h3
  · intro hgs
    obtain ⟨hgp, hxk⟩ := good_snoc hgs hl
    have hkl : k = pre.length := by have : (k : Int) = (pre.length : Int) := hxk; omega
    have hys := hg hgp
    rw [List.length_append, List.length_singleton, hv, hys, hkl, clampTo_get lo hi xs _ hx hl, clampTo_step lo hi xs _ hx hl]

theorem arrU : Tryz.prog.follows .mixedOrders = true := by kernel_rfl

set_option maxRecDepth 100000 in
set_option maxHeartbeats 2000000 in
theorem held_any (xs : List Int) (hx : xs.length = 24) (lo hi : Int) (w : World) :
    Calls Tryz.prog 94 #[.agg (i16s xs), .int .i16 lo, .int .i16 hi] w fun e w' => e = .returned (.agg (i16s (xs.map (clampI lo hi)))) ∧ Below w.heap.size w w' := by
  refine (callsIn_wide (n := 4)).1 ?_
  have Hx := Lib.hid hx
  clear hx
  refine callsIn_of_wp_marks Tryz.func94 rfl trivial ?_ rfl
  simp only [Tryz.ntmps94, List.size_toArray, List.length_cons, List.length_nil, Nat.reduceAdd, Nat.reduceSub, Array.replicate_succ, Array.replicate_zero, List.push_toArray, List.append_toArray, List.nil_append, List.cons_append]
  gi_wp2
  refine wpIn_rangeFunc_ownF rfl (by decide) (gf := 79) (lb := #[]) rfl trivial (enters_of Tryz.func79 (by kernel_rfl) rfl)
    (eachHour_stops Fence.wide _ trivial rfl (by decide) w.heap.size _) belowK_t (belowK_b (by simp; omega)) (Below.refl _ _) (fun _ => rfl)
    (HeldI w lo hi xs)
    (fun _ _ _ => False) (heldI_own w lo hi xs _ (by simp; omega)) (fun _ _ _ _ _ hs _ _ => hs) ?h0
    (fun x => { tmps := #[.agg (i16s xs), .int .i16 lo, .int .i16 hi, .pointer (some ⟨w.heap.size, 0, none⟩), .pointer (some ⟨w.heap.size + 1, 0, none⟩), .pointer (some ⟨w.heap.size + 1 + 1, 0, none⟩), .pointer (some ⟨w.heap.size + 1 + 1 + 1, 0, none⟩), .int .i64 x.1, .int .i64 x.1, undef, undef, undef, undef, undef, undef, undef, undef, undef, undef], defers := [] }) ?assign ?body ?done ?stop
  case h0 =>
    refine ⟨xs, Hx.out, ?_, ?_, ?_, ?_, fun _ => rfl, ((((Below.refl _ _).alloc (Nat.le_refl _) _).alloc (by simp) _).alloc (by simp; omega) _).alloc (by simp; omega) _⟩
    all_goals simp only [heap_alloc, World.size_alloc]
    · rw [if_neg (by omega), if_neg (by omega), if_neg (by omega), if_true]
    · rw [if_neg (by omega), if_neg (by omega), if_true]
    · rw [if_neg (by omega), if_true]
    · rw [if_true]; rfl
  case assign =>
    intro l x W K hK
    gi_wp2
    exact hK
  case body =>
    rintro l pre x W ⟨ys, hy, h0, h1, h2, h3, hg, hb⟩ hl
    have hmx := arrU
    obtain ⟨x, hx0, hx1⟩ := x
    obtain ⟨k, rfl⟩ := Int.eq_ofNat_of_zero_le hx0
    have hk : k < 24 := by omega
    have c0 := cell_of_i16s h0 k (by rw [hy]; exact hk)
    have c1 : W.cell? ⟨w.heap.size + 1, 0, none⟩ = some (.int .i16 lo) := by rw [cell_of_row W _ _ _ _ _ h1]; rfl
    have c2 : W.cell? ⟨w.heap.size + 1 + 1, 0, none⟩ = some (.int .i16 hi) := by rw [cell_of_row W _ _ _ _ _ h2]; rfl
    have f0 := frozen_of_row W w.heap.size k _ _ h0
    have H0 := Lib.hid h0
    have H1 := Lib.hid h1
    have H2 := Lib.hid h2
    have H3 := Lib.hid h3
    have HG := Lib.hid hg
    have Hy := Lib.hid hy
    clear h0 h1 h2 h3 hg hy
    gi_wp2
    refine still_tail_round (k := 9) hmx (by kernel_rfl) (no_defer (by rfl)) (fun ⟨_, _, h⟩ => h) ?_
    simp only [List.take_succ_cons, List.take_zero, List.drop_succ_cons, List.drop_zero]
    repeat still_step
    refine wpStill_nil ?_
    go_wp2
    all_goals refine held_step Hx.out Hy.out hl H0.out H1.out H2.out H3.out HG.out hb _ ?_
    all_goals (unfold clampI; clear H0 H1 H2 H3 HG Hy c0 f0)
    all_goals (repeat (first | rw [if_pos (by omega)] | rw [if_neg (by omega)]))
  case done =>
    rintro D zs W hD rfl ⟨ys, hy, h0, h1, h2, h3, hg, hb⟩ hK
    rename_i K hcont
    have hD' : w.heap.size + 4 ≤ D := by simpa using hD
    have hys : ys = xs.map (clampI lo hi) := by rw [hg good_all, hrs_length, clampTo_all lo hi xs Hx.out]
    subst hys
    clear hg hD h1 h2
    have H0 := Lib.hid h0
    have H3 := Lib.hid h3
    have HK := Lib.hid hK
    have Hy := Lib.hid hy
    clear h0 h3 hK hy
    refine hcont _ _ ?_
    refine wpIn_wide.2 ?_
    go_wp2_with (first | (refine wpList_load_part rfl 44 _ rfl w.heap.size 0 24 rfl 44 (i16s (xs.map (clampI lo hi))) (0, 0) _ H0.out Tryz.underlying44 rfl info_arr (by rw [i16s_size, Hy.out]; decide) (i16s (xs.map (clampI lo hi))) (i16s_all _ 24 Hy.out) ?_) | (refine wpList_store_part rfl 44 _ _ rfl (w.heap.size + 1 + 1 + 1) 0 (i16s (xs.map (clampI lo hi))) rfl rfl 44 (i16s zer) H3.out (by rw [i16s_size, Hy.out]; exact info_arr) (by rw [i16s_size, i16s_size, Hy.out]; decide) (i16s_one _) ?_; rw [laid_all _ _ (by rw [i16s_size, i16s_size, Hy.out]; rfl)]))
    have hK2 : (W.setRow (w.heap.size + 1 + 1 + 1) (i16s (xs.map (clampI lo hi)))).heap[D]? = some (.deferred (some [])) := (setRow_other _ _ _ _ (by omega)).trans HK.out
    have hR := setRow_heap W (w.heap.size + 1 + 1 + 1) _ (i16s (xs.map (clampI lo hi))) _ _ H3.out
    refine ⟨by simp, .inl ⟨_, _, rfl, run_takeDeferred hK2, ?_⟩⟩
    refine ⟨.agg (i16s (xs.map (clampI lo hi))), results_cell_row rfl _ _ (w.heap.size + 1 + 1 + 1) 44 _ (0, 0) _ rfl ((World.putObj_heap_other (by omega)).trans hR) Tryz.underlying44 rfl (by rw [i16s_size, Hy.out]; exact info_arr), rfl, ?_⟩
    exact (below_setRow hb (by omega) _).trans (belowK_b (w := w) (Nat.le_refl _) _ D _ _ (by omega) hK2 rfl rfl)
  case stop =>
    rintro D c pre W _ _ h _
    exact h.elim

end Go.Proofs.YtmbgmpeiicjlaaaGreatDoor

namespace Go.Proofs.YtmbgmpeiicjlaaaGreatDoor

open Go.RowKit

def inB (n lo hi : Int) : Bool := decide (lo ≤ n) && decide (n ≤ hi)

theorem inB_true {n lo hi : Int} (h : inB n lo hi = true) : lo ≤ n ∧ n ≤ hi := by simpa [inB] using h

theorem inB_mk {n lo hi : Int} (h : lo ≤ n ∧ n ≤ hi) : inB n lo hi = true := by simpa [inB] using h

set_option maxHeartbeats 400000 in
theorem l00In_any (n lo hi : Int) (w : World) :
    Calls Tryz.prog 54 #[.int .i64 n, .int .i64 lo, .int .i64 hi] w fun e w' => e = .returned (.bool (inB n lo hi)) ∧ w = w' := by
  unfold inB
  by_cases h1 : lo ≤ n
  · have h1' : decide (lo ≤ n) = true := decide_eq_true h1
    go_enter Tryz.func54, Tryz.ntmps54
    go_wp2
    go_ret
    rw [h1', Bool.true_and]
    exact ⟨rfl, rfl⟩
  · have h1' : decide (lo ≤ n) = false := decide_eq_false h1
    go_enter Tryz.func54, Tryz.ntmps54
    go_wp2
    go_ret
    exact ⟨by simp, rfl⟩

set_option maxHeartbeats 400000 in
theorem l01Height_any (n : Int) (w : World) :
    Calls Tryz.prog 96 #[.int .i64 n] w fun e w' => e = .returned (.bool (inB n (-64) 64)) ∧ w = w' := by
  go_enter Tryz.func96, Tryz.ntmps96
  go_wp2_with (go_at_call 54; refine (l00In_any _ _ _ _).mono ?_; rintro e w' ⟨rfl, rfl⟩)
  go_ret
  exact ⟨rfl, rfl⟩

set_option maxHeartbeats 400000 in
theorem l01Faced_any (n : Int) (w : World) :
    Calls Tryz.prog 51 #[.int .i64 n] w fun e w' => e = .returned (.bool (inB n 0 255)) ∧ w = w' := by
  go_enter Tryz.func51, Tryz.ntmps51
  go_wp2_with (go_at_call 54; refine (l00In_any _ _ _ _).mono ?_; rintro e w' ⟨rfl, rfl⟩)
  go_ret
  exact ⟨rfl, rfl⟩

/-- A sun is valid. -/
def okB (hs ts : List Int) : Bool := hs.all (fun x => inB x (-64) 64) && ts.all (fun x => inB x 0 255)

theorem all_get {p : Int → Bool} {xs : List Int} (n : Nat) (hx : xs.length = n) : xs.all p = true ↔ ∀ k, k < n → p (xs[k]?.getD 0) = true := by
  rw [List.all_eq_true]
  constructor
  · intro h k hk
    rw [List.getElem?_eq_getElem (by omega)]
    exact h _ (List.getElem_mem _)
  · intro h x hm
    obtain ⟨k, hk, rfl⟩ := List.mem_iff_getElem.1 hm
    have := h k (by omega)
    rwa [List.getElem?_eq_getElem hk] at this

theorem okB_iff (hs ts : List Int) (hh : hs.length = 24) (ht : ts.length = 24) : okB hs ts = true ↔ ∀ k, k < 24 → inB (hs[k]?.getD 0) (-64) 64 = true ∧ inB (ts[k]?.getD 0) 0 255 = true := by
  unfold okB
  rw [Bool.and_eq_true, all_get 24 hh, all_get 24 ht]
  constructor
  · intro h k hk; exact ⟨h.1 k hk, h.2 k hk⟩
  · intro h; exact ⟨fun k hk => (h k hk).1, fun k hk => (h k hk).2⟩

theorem okB_false {hs ts : List Int} (hh : hs.length = 24) (ht : ts.length = 24) (k : Nat) (hk : k < 24) (h : inB (hs[k]?.getD 0) (-64) 64 = false ∨ inB (ts[k]?.getD 0) 0 255 = false) : okB hs ts = false := by
  cases e : okB hs ts
  · rfl
  · obtain ⟨h1, h2⟩ := (okB_iff hs ts hh ht).1 e k hk
    rcases h with h | h
    · rw [h] at h1; cases h1
    · rw [h] at h2; cases h2

theorem cell_sun_h {w : World} {b : Nat} {hs ts : List Int} {t : TypeId} {fr : Nat × Nat} (hg : w.heap[b]? = some (.cells (sunC hs ts) t fr)) (hh : hs.length = 24) (k : Nat) (hk : k < 24) :
    w.cell? ⟨b, k, none⟩ = some (.int .i16 (hs[k]?.getD 0)) := by
  rw [cell_of_row w b k _ t fr hg, sunC, i16s_get _ _ (by simp; omega), List.getElem?_append_left (by omega)]

theorem cell_sun_t {w : World} {b : Nat} {hs ts : List Int} {t : TypeId} {fr : Nat × Nat} (hg : w.heap[b]? = some (.cells (sunC hs ts) t fr)) (hh : hs.length = 24) (ht : ts.length = 24) (k : Nat) (hk : k < 24) :
    w.cell? ⟨b, 24 + k, none⟩ = some (.int .i16 (ts[k]?.getD 0)) := by
  rw [cell_of_row w b (24 + k) _ t fr hg, sunC, i16s_get _ _ (by simp; omega), List.getElem?_append_right (by omega)]
  congr 4; omega

theorem rb_get {xs : List Int} (h : ∀ x ∈ xs, -32768 ≤ x ∧ x ≤ 32767) (k : Nat) : -32768 ≤ xs[k]?.getD 0 ∧ xs[k]?.getD 0 ≤ 32767 := by
  by_cases hk : k < xs.length
  · have e : xs[k]? = some xs[k] := List.getElem?_eq_getElem hk
    rw [e]; exact h _ (List.getElem_mem _)
  · rw [List.getElem?_eq_none (by omega)]; decide

end Go.Proofs.YtmbgmpeiicjlaaaGreatDoor
