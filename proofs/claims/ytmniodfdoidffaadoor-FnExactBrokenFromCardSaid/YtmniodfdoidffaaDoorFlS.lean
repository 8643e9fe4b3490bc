/-
  Floors behind slats: the program's pieces and the model's.
-/
import Derived.Test.YtmniodfdoidffaaDoorFlK
import Derived.Test.YtmniodfdoidffaaDoorFoB
import Derived.Test.YtmniodfdoidffaaDoorBfn
import Derived.Test.YtmniodfdoidffaaDoorBhd
import Derived.Test.YtmniodfdoidffaaDoorTilted
import Derived.Laws.Small
namespace Go.Proofs.YtmniodfdoidffaaDoor
open Go.ChangeShapes Go.WideShapes Go.ChangeAt Go.RowKit Go.Deep Go.Joins

attribute [local go_sem] run_store_f

theorem l00Max_is (a b r : Int) (hr : (if b < a then a else b) = r) (w : World) : Calls Tryd.prog 132 #[.int .i64 a, .int .i64 b] w fun e w' => e = .returned (.int .i64 r) ∧ w = w' := by
  subst hr
  by_cases h : b < a
  · rw [if_pos h]
    go_enter Tryd.func132, Tryd.ntmps132
    go_wp2
    go_ret
    exact ⟨rfl, rfl⟩
  · rw [if_neg h]
    go_enter Tryd.func132, Tryd.ntmps132
    go_wp2
    go_ret
    exact ⟨rfl, rfl⟩

theorem l00Min_is (a b r : Int) (hr : (if a < b then a else b) = r) (w : World) : Calls Tryd.prog 133 #[.int .i64 a, .int .i64 b] w fun e w' => e = .returned (.int .i64 r) ∧ w = w' := by
  subst hr
  by_cases h : a < b
  · rw [if_pos h]
    go_enter Tryd.func133, Tryd.ntmps133
    go_wp2
    go_ret
    exact ⟨rfl, rfl⟩
  · rw [if_neg h]
    go_enter Tryd.func133, Tryd.ntmps133
    go_wp2
    go_ret
    exact ⟨rfl, rfl⟩

set_option maxRecDepth 100000 in
set_option maxHeartbeats 4000000 in
theorem slatsOf_any (n : Int) (wd gp : Nat) (t : Int) (sh : Nat) (w : World) :
    Calls Tryd.prog 136 #[.agg (blindC n wd gp t sh)] w fun e w' => e = .returned (.int .u32 (allP (mB n).toNat : Int)) ∧ Below w.heap.size w w' := by
  have hm0 := mB_le n
  have hmin : ∀ (ts : Array TypeId) (T : TypeId) (w : World), (Builtin.min_ ts T #[.int .i8 n, .int .i8 24]).run Tryd.prog w = .ok (.int .i8 (mB n)) w := fun ts T w => run_min_int2 (P := Tryd.prog) w ts T .i8 .i8 n 24
  obtain ⟨M, hM⟩ : ∃ M, M = (mB n).toNat := ⟨_, rfl⟩
  rw [← hM]
  generalize mB n = m at *
  go_enter Tryd.func136, Tryd.ntmps136
  go_upto_region 2 with (fail)
  refine abs_code (fun W => W.heap[w.heap.size]? = some (.cells (blindC n wd gp t sh) 59 (0, 0)) ∧ Below w.heap.size w W) ⟨heap_alloc_new _ _, (Below.refl _ _).alloc (Nat.le_refl _) _⟩ ?_
  rintro W ⟨h0, hb⟩
  obtain ⟨k0, _, _, _, _⟩ := blind_cells h0
  clear h0
  go_upto_region 3 with (fail)
  clear k0
  go_loopw [3, 8] (fun s i wr => ∃ k : Nat, k ≤ M ∧ i = .int .i8 k ∧ s = .int .u32 (allP k : Int) ∧ Below w.heap.size w wr) (fun _ i _ => M - (intOf i).toNat)
  case atStart => exact ⟨0, Nat.zero_le _, rfl, rfl, hb⟩
  case round =>
    clear hb
    obtain ⟨k, hk, rfl, rfl, hb⟩ := hrel
    by_cases hlt : k < M
    · have z1 : (k : Int) < m := by omega
      have z2 : (0 : Int) ≤ (k : Int) := by omega
      obtain ⟨s1, _, s3, s4⟩ := packP_step (fun _ => true) k (by omega)
      have S1 := Lib.hid (s1 rfl)
      have S3 := Lib.hid s3
      have S4 : Hid (bits .or .u32 (allP k : Int) ((2 : Int) ^ k) = ((allP k ||| 2 ^ k : Nat) : Int)) := s4
      clear s1 s3 s4
      have z4 : IntKind.i8.wrap ((k : Int) + 1) = (k : Int) + 1 := by rw [IntWalk.i8_in _ (by omega)]
      have z5 : (k : Int) ≤ 32 := by omega
      go_wp2
      go_roundw
      case rel => exact ⟨k + 1, by omega, by first | go_num | rfl, by rw [S3.out, S4.out]; exact congrArg (fun x : Nat => Value.int .u32 (x : Int)) S1.out.symm, hb⟩
      case measure => simp [intOf]; omega
    · obtain rfl : k = M := by omega
      have z1 : ¬ (k : Int) < m := by omega
      go_wp2
      go_ret
      exact ⟨rfl, hb⟩

set_option maxRecDepth 100000 in
set_option maxHeartbeats 1000000 in
theorem l07Looked_any (n : Int) (wd gp : Nat) (t : Int) (sh : Nat) (n0 : -128 ≤ n) (n1 : n ≤ 127) (g : Nat) (T : TypeId) (fr : Nat × Nat) (w : World) (hg : w.heap[g]? = some (.cells (blindC n wd gp t sh) T fr)) :
    Calls Tryd.prog 82 #[.pointer (some ⟨g, 0, none⟩)] w fun e w' => e = .returned (.int .i64 (mB n)) ∧ w = w' := by
  obtain ⟨k0, k1, k2, k3, k4⟩ := blind_cells hg
  have HM := Lib.hid (fun w => l00Min_is 24 n (mB n) rfl w)
  have z : IntKind.i64.wrap n = n := IntWalk.i64_in _ (by omega)
  clear hg k1 k2 k3 k4 n0 n1
  generalize mB n = m at *
  go_enter Tryd.func82, Tryd.ntmps82
  go_wp2_with (go_at_call 133; refine (HM.out _).mono ?_; rintro e w' ⟨rfl, rfl⟩)
  go_ret
  exact ⟨rfl, rfl⟩

theorem blok_hang {n : Int} {wd gp : Nat} {t : Int} {sh : Nat} (ok : BlOk n wd gp t sh) : BlOk n wd gp (hgT t) sh := by
  obtain ⟨a, b, c, d, e, f, g, h, i⟩ := ok
  have := hgT_in g h
  exact ⟨a, b, c, d, e, f, this.1, this.2, i⟩

set_option maxRecDepth 100000 in
set_option maxHeartbeats 2000000 in
theorem l07Hanging_any (n : Int) (wd gp : Nat) (t : Int) (sh : Nat) (ok : BlOk n wd gp t sh) (h : Int) (h0 : 1 ≤ h) (h1 : h ≤ 64) (w : World) :
    Calls Tryd.prog 81 #[.agg (blindC n wd gp t sh), .int .i64 h] w fun e w' => e = .returned (.float .f32 (opnB wd gp (hgT t) h)) ∧ Below w.heap.size w w' := by
  obtain ⟨q0, q1⟩ : -64 ≤ t ∧ t ≤ 64 := ⟨ok.2.2.2.2.2.2.1, ok.2.2.2.2.2.2.2.1⟩
  have HO := Lib.hid (fun w g hg => l02Open_any n wd gp (hgT t) sh (blok_hang ok) h h0 h1 g 59 (0, 0) w hg)
  clear ok h0 h1
  by_cases ht : t - 32 < -64
  · have e : hgT t = -64 := if_pos ht
    have HMX := Lib.hid (fun w => l00Max_is (-64) (t - 32) (-64) (if_pos (by omega)) w)
    have z3 : IntKind.i64.wrap t = t := IntWalk.i64_in _ (by omega)
    have z4 : IntKind.i64.wrap (t - 32) = t - 32 := IntWalk.i64_in _ (by omega)
    rw [e] at HO ⊢
    clear e
    go_enter Tryd.func81, Tryd.ntmps81
    go_upto_region 1 with (fail)
    refine abs_code (fun W => W.heap[w.heap.size]? = some (.cells (blindC n wd gp t sh) 59 (0, 0)) ∧ Below w.heap.size w W) ⟨heap_alloc_new _ _, (Below.refl _ _).alloc (Nat.le_refl _) _⟩ ?_
    rintro W ⟨h0, hb⟩
    obtain ⟨k0, k1, k2, k3, k4⟩ := blind_cells h0
    have f3 := frozen_of_row W w.heap.size 3 _ _ h0
    have H0 := Lib.hid h0
    clear h0
    go_upto_region 2 with (go_at_call 132; refine (HMX.out _).mono ?_; rintro e w' ⟨rfl, rfl⟩)
    refine abs_code (fun V => V.heap[w.heap.size]? = some (.cells (blindC n wd gp (-64) sh) 59 (0, 0)) ∧ Below w.heap.size w V) ⟨by rw [heap_setCell_same _ _ _ _ _ _ H0.out]; rfl, hb.setCell (p := ⟨w.heap.size, 3, none⟩) (Nat.le_refl _) _⟩ ?_
    clear H0 hb k0 k1 k2 k3 k4 f3
    rintro V ⟨h0, hb⟩
    go_wp2_with (go_at_call 80; refine (HO.out _ _ h0).mono ?_; rintro e W1 ⟨rfl, hb1⟩)
    go_ret
    exact ⟨rfl, hb.trans (hb1.mono hb.size)⟩
  · have e : hgT t = t - 32 := if_neg ht
    have HMX := Lib.hid (fun w => l00Max_is (-64) (t - 32) (t - 32) (if_neg (by omega)) w)
    have z3 : IntKind.i64.wrap t = t := IntWalk.i64_in _ (by omega)
    have z4 : IntKind.i64.wrap (t - 32) = t - 32 := IntWalk.i64_in _ (by omega)
    rw [e] at HO ⊢
    clear e
    have z2 : IntKind.i16.wrap (t - 32) = t - 32 := by rw [IntWalk.i16_in _ (by omega)]
    go_enter Tryd.func81, Tryd.ntmps81
    go_upto_region 1 with (fail)
    refine abs_code (fun W => W.heap[w.heap.size]? = some (.cells (blindC n wd gp t sh) 59 (0, 0)) ∧ Below w.heap.size w W) ⟨heap_alloc_new _ _, (Below.refl _ _).alloc (Nat.le_refl _) _⟩ ?_
    rintro W ⟨h0, hb⟩
    obtain ⟨k0, k1, k2, k3, k4⟩ := blind_cells h0
    have f3 := frozen_of_row W w.heap.size 3 _ _ h0
    have H0 := Lib.hid h0
    clear h0
    go_upto_region 2 with (go_at_call 132; refine (HMX.out _).mono ?_; rintro e w' ⟨rfl, rfl⟩)
    refine abs_code (fun V => V.heap[w.heap.size]? = some (.cells (blindC n wd gp (t - 32) sh) 59 (0, 0)) ∧ Below w.heap.size w V) ⟨by rw [heap_setCell_same _ _ _ _ _ _ H0.out]; rfl, hb.setCell (p := ⟨w.heap.size, 3, none⟩) (Nat.le_refl _) _⟩ ?_
    clear H0 hb k0 k1 k2 k3 k4 f3
    rintro V ⟨h0, hb⟩
    go_wp2_with (go_at_call 80; refine (HO.out _ _ h0).mono ?_; rintro e W1 ⟨rfl, hb1⟩)
    go_ret
    exact ⟨rfl, hb.trans (hb1.mono hb.size)⟩

theorem heap_alloc_old {W : World} {g : Nat} {o p : Obj} (h : W.heap[g]? = some o) : (W.alloc p).heap[g]? = some o := by
  rw [heap_alloc, if_neg (by have := row_lt h; omega)]
  exact h

set_option maxRecDepth 100000 in
set_option maxHeartbeats 8000000 in
theorem floorOf_any (n : Int) (wd gp : Nat) (t : Int) (sh : Nat) (ok : BlOk n wd gp t sh) (h : Int) (h0 : 1 ≤ h) (h1 : h ≤ 64) (br : Nat) (hbr : br < 4294967296) (hfit : br < 2 ^ (mB n).toNat) (w : World) :
    Calls Tryd.prog 135 #[.agg (blindC n wd gp t sh), .int .i64 h, .int .u32 (br : Int)] w fun e w' => e = .returned (.agg (f32s (flB n wd gp t h br))) ∧ Below w.heap.size w w' := by
  obtain ⟨q0, q1⟩ : -64 ≤ t ∧ t ≤ 64 := ⟨ok.2.2.2.2.2.2.1, ok.2.2.2.2.2.2.2.1⟩
  have HO1 := Lib.hid (fun w => openAt_any n wd gp t sh ok h h0 h1 w)
  have HO2 := Lib.hid (fun w => openAt_any n wd gp (hgT t) sh (blok_hang ok) h h0 h1 w)
  have HT := Lib.hid (fun w => tilted_any2 n wd gp t sh (hgT t) (hgT_in q0 q1).1 (hgT_in q0 q1).2 w)
  have HS := Lib.hid (fun w => slatsOf_any n wd gp t sh w)
  have hM : (mB n).toNat ≤ 24 := by have := mB_le n; omega
  unfold flB
  generalize (mB n).toNat = M at *
  generalize opnB wd gp (hgT t) h = hg at *
  have HB1 := Lib.hid (fun k => bit_impl hbr k)
  have HB2 : Hid (∀ k, (bits .and .u32 ((allP M : Int) / 2 ^ k) 1 == 1) = decide (k < M)) := fun k => by rw [bit_impl (allP_lt hM) k, allP_bit]
  have HBM : Hid (∀ k, br.testBit k = true → k < M) := fun k hk => Nat.lt_of_not_le (fun hle => by rw [high_bit hfit hle] at hk; cases hk)
  clear ok h0 h1 hbr hfit
  by_cases ht : t - 32 < -64
  · have e : hgT t = -64 := if_pos ht
    rw [e] at HO2 HT
    clear e
    have z2 : IntKind.i16.wrap (t - 32) = t - 32 := by rw [IntWalk.i16_in _ (by omega)]
    go_enter Tryd.func135, Tryd.ntmps135
    go_upto_region 1 with (fail)
    refine abs_code (fun W => W.heap[w.heap.size]? = some (.cells (blindC n wd gp t sh) 59 (0, 0)) ∧ W.heap[w.heap.size + 1]? = some (.cells (f32s (List.replicate 24 0)) 61 (0, 0)) ∧ Below w.heap.size w W) ⟨heap_alloc2_old _ _ _, heap_alloc2_new _ _ _, ((Below.refl _ _).alloc (Nat.le_refl _) _).alloc (by simp) _⟩ ?_
    rintro W ⟨h0, h1, hb⟩
    have hb1s : w.heap.size ≤ w.heap.size + 1 := by omega
    generalize w.heap.size + 1 = b1 at *
    have H0 := Lib.hid h0
    have H1 := Lib.hid h1
    clear h0 h1
    go_upto_region 2 with (first | (refine wpList_load_part rfl 59 _ rfl w.heap.size 0 5 rfl 59 (blindC n wd gp t sh) (0, 0) _ H0.out Tryd.underlying59 rfl info_blind (blind_fits _ _ _ _ _) _ (blind_all _ _ _ _ _) ?_) | (go_at_call 180; refine (HO1.out _).mono ?_; rintro e W1 ⟨rfl, hb1⟩; replace H0 := Lib.hid (below_row hb1 H0.out); replace H1 := Lib.hid (below_row hb1 H1.out); replace hb := hb.trans (hb1.mono hb.size); clear hb1))
    obtain ⟨k0, k1, k2, k3, k4⟩ := blind_cells H0.out
    go_upto_region 3 with (first | (refine wpList_load_part rfl 59 _ rfl w.heap.size 0 5 rfl 59 (blindC n wd gp t sh) (0, 0) _ H0.out Tryd.underlying59 rfl info_blind (blind_fits _ _ _ _ _) _ (blind_all _ _ _ _ _) ?_) | (go_at_call 181; refine (HT.out _).mono ?_; rintro e W2 ⟨rfl, hb1⟩; replace H0 := Lib.hid (below_row hb1 H0.out); replace H1 := Lib.hid (below_row hb1 H1.out); replace hb := hb.trans (hb1.mono hb.size); clear hb1) | (go_at_call 180; refine (HO2.out _).mono ?_; rintro e W1 ⟨rfl, hb1⟩; replace H0 := Lib.hid (below_row hb1 H0.out); replace H1 := Lib.hid (below_row hb1 H1.out); replace hb := hb.trans (hb1.mono hb.size); clear hb1))
    clear k0 k1 k2 k3 k4
    go_upto_region 4 with (first | (refine wpList_load_part rfl 59 _ rfl w.heap.size 0 5 rfl 59 (blindC n wd gp t sh) (0, 0) _ H0.out Tryd.underlying59 rfl info_blind (blind_fits _ _ _ _ _) _ (blind_all _ _ _ _ _) ?_) | (go_at_call 136; refine (HS.out _).mono ?_; rintro e W3 ⟨rfl, hb1⟩; replace H0 := Lib.hid (below_row hb1 H0.out); replace H1 := Lib.hid (below_row hb1 H1.out); replace hb := hb.trans (hb1.mono hb.size); clear hb1))
    refine abs_code (fun V => V.heap[b1]? = some (.cells (f32s (List.replicate 24 0)) 61 (0, 0)) ∧ Below w.heap.size w V) ⟨H1.out, hb⟩ ?_
    clear H0 H1 hb HO1 HO2 HT HS
    rintro V ⟨h1, hb⟩
    have H1 := Lib.hid h1
    have hbl := row_lt h1
    have hVs := hb.size
    clear h1
    generalize hwh : opnB wd gp t h = wh at *
    have HWH := Lib.hid hwh
    clear hwh
    go_upto_region 6 with (fail)
    go_loopw [26] (fun i wr => ∃ k : Nat, k ≤ 24 ∧ i = .int .i64 k ∧ wr.heap[b1]? = some (.cells (f32s (List.replicate 24 0)) 61 (0, 0)) ∧ wr.heap[V.heap.size]? = some (.cells (f32s (flK (flP wh hg br M) k)) 61 (0, 0)) ∧ Below w.heap.size w wr) (fun i _ => 24 - (intOf i).toNat)
    case atStart => exact ⟨0, Nat.zero_le _, rfl, heap_alloc_old H1.out, heap_alloc_new _ _, hb.alloc hVs _⟩
    case round =>
      clear hb H1
      obtain ⟨k, hk, rfl, h1, h2, hb⟩ := hrel
      by_cases hlt : k < 24
      · have z1 : (k : Int) < 24 := by omega
        have z2 : (0 : Int) ≤ (k : Int) := by omega
        have z5 : (k : Int) ≤ 32 := by omega
        have hl2 := flK_len (flP wh hg br M) hk
        have hd := cell_of_f32s h2 k (by rw [hl2]; exact hlt)
        have hf := frozen_of_row wr V.heap.size k _ _ h2
        have H1 := Lib.hid h1
        have H2 := Lib.hid h2
        have B1 := HB1.out k
        have B2 := HB2.out k
        have hst := Lib.hid (flK_set (flP wh hg br M) hlt)
        have hsz := Lib.hid (flK_zero (flP wh hg br M) hlt)
        have HP : Hid (flP wh hg br M k = if k < M then (if br.testBit k then hg else wh) else 0) := rfl
        clear h1 h2 hl2
        rcases hbr : br.testBit k with _ | _
        · rw [hbr] at B1
          by_cases hm : k < M
          · rw [decide_eq_true hm] at B2
            have hv : flP wh hg br M k = wh := by rw [HP.out, if_pos hm, hbr]; rfl
            rw [hv] at hst
            have HV := Lib.hid hbr
            clear hbr hv
            go_wp2
            go_roundw
            case rel => exact ⟨k + 1, by omega, by go_num, by rw [heap_setCell_other _ _ _ _ (by simp; omega)]; exact H1.out, by rw [heap_setCell_same _ _ _ _ _ _ H2.out, f32s_set, hst.out], hb.setCell (by simp; omega) _⟩
            case measure => simp [intOf]; omega
          · rw [decide_eq_false hm] at B2
            have hv : flP wh hg br M k = 0 := by rw [HP.out, if_neg hm]
            have hz := Lib.hid (hsz.out hv)
            have HV := Lib.hid hbr
            clear hbr hv
            go_wp2
            go_roundw
            case rel => exact ⟨k + 1, by omega, by go_num, H1.out, by rw [← hz.out]; exact H2.out, hb⟩
            case measure => simp [intOf]; omega
        · rw [hbr] at B1
          have hm : k < M := HBM.out k hbr
          have hv : flP wh hg br M k = hg := by rw [HP.out, if_pos hm, hbr]; rfl
          rw [hv] at hst
          have HV := Lib.hid hbr
          clear hbr hv B2
          go_wp2
          go_roundw
          case rel => exact ⟨k + 1, by omega, by go_num, by rw [heap_setCell_other _ _ _ _ (by simp; omega)]; exact H1.out, by rw [heap_setCell_same _ _ _ _ _ _ H2.out, f32s_set, hst.out], hb.setCell (by simp; omega) _⟩
          case measure => simp [intOf]; omega
      · obtain rfl : k = 24 := by omega
        have hm := flK_len (flP wh hg br M) (Nat.le_refl 24)
        generalize hys : flK (flP wh hg br M) 24 = ys at *
        have HY := Lib.hid hys
        have Hm := Lib.hid hm
        have H2 := Lib.hid h2
        have H1 := Lib.hid h1
        clear h1 h2 hm hlt hk hys
        go_wp2_with (first | (refine wpList_load_part rfl 61 _ rfl _ _ 24 rfl _ _ _ _ H2.out Tryd.underlying61 rfl info_floor (by rw [f32s_size, Hm.out]; decide) _ (f32s_all _ 24 Hm.out) ?_) | (refine wpList_store_part rfl 61 _ _ rfl _ _ _ rfl rfl _ _ H1.out (by rw [f32s_size, Hm.out]; exact info_floor) (by simp [Hm.out]) (f32s_one _) ?_; rw [laid_all _ _ (by simp [Hm.out])]))
        exact bodyPost_ret (results_cell_row rfl _ _ _ _ _ _ _ rfl (setRow_heap _ _ _ _ _ _ H1.out) Tryd.underlying61 rfl (by rw [f32s_size, Hm.out]; exact info_floor)) rfl ⟨by rw [← HY.out, HWH.out], below_setRow hb (by omega) _⟩
  · have e : hgT t = t - 32 := if_neg ht
    rw [e] at HO2 HT
    clear e
    have z2 : IntKind.i16.wrap (t - 32) = t - 32 := by rw [IntWalk.i16_in _ (by omega)]
    go_enter Tryd.func135, Tryd.ntmps135
    go_upto_region 1 with (fail)
    refine abs_code (fun W => W.heap[w.heap.size]? = some (.cells (blindC n wd gp t sh) 59 (0, 0)) ∧ W.heap[w.heap.size + 1]? = some (.cells (f32s (List.replicate 24 0)) 61 (0, 0)) ∧ Below w.heap.size w W) ⟨heap_alloc2_old _ _ _, heap_alloc2_new _ _ _, ((Below.refl _ _).alloc (Nat.le_refl _) _).alloc (by simp) _⟩ ?_
    rintro W ⟨h0, h1, hb⟩
    have hb1s : w.heap.size ≤ w.heap.size + 1 := by omega
    generalize w.heap.size + 1 = b1 at *
    have H0 := Lib.hid h0
    have H1 := Lib.hid h1
    clear h0 h1
    go_upto_region 2 with (first | (refine wpList_load_part rfl 59 _ rfl w.heap.size 0 5 rfl 59 (blindC n wd gp t sh) (0, 0) _ H0.out Tryd.underlying59 rfl info_blind (blind_fits _ _ _ _ _) _ (blind_all _ _ _ _ _) ?_) | (go_at_call 180; refine (HO1.out _).mono ?_; rintro e W1 ⟨rfl, hb1⟩; replace H0 := Lib.hid (below_row hb1 H0.out); replace H1 := Lib.hid (below_row hb1 H1.out); replace hb := hb.trans (hb1.mono hb.size); clear hb1))
    obtain ⟨k0, k1, k2, k3, k4⟩ := blind_cells H0.out
    go_upto_region 3 with (first | (refine wpList_load_part rfl 59 _ rfl w.heap.size 0 5 rfl 59 (blindC n wd gp t sh) (0, 0) _ H0.out Tryd.underlying59 rfl info_blind (blind_fits _ _ _ _ _) _ (blind_all _ _ _ _ _) ?_) | (go_at_call 181; refine (HT.out _).mono ?_; rintro e W2 ⟨rfl, hb1⟩; replace H0 := Lib.hid (below_row hb1 H0.out); replace H1 := Lib.hid (below_row hb1 H1.out); replace hb := hb.trans (hb1.mono hb.size); clear hb1) | (go_at_call 180; refine (HO2.out _).mono ?_; rintro e W1 ⟨rfl, hb1⟩; replace H0 := Lib.hid (below_row hb1 H0.out); replace H1 := Lib.hid (below_row hb1 H1.out); replace hb := hb.trans (hb1.mono hb.size); clear hb1))
    clear k0 k1 k2 k3 k4
    go_upto_region 4 with (first | (refine wpList_load_part rfl 59 _ rfl w.heap.size 0 5 rfl 59 (blindC n wd gp t sh) (0, 0) _ H0.out Tryd.underlying59 rfl info_blind (blind_fits _ _ _ _ _) _ (blind_all _ _ _ _ _) ?_) | (go_at_call 136; refine (HS.out _).mono ?_; rintro e W3 ⟨rfl, hb1⟩; replace H0 := Lib.hid (below_row hb1 H0.out); replace H1 := Lib.hid (below_row hb1 H1.out); replace hb := hb.trans (hb1.mono hb.size); clear hb1))
    refine abs_code (fun V => V.heap[b1]? = some (.cells (f32s (List.replicate 24 0)) 61 (0, 0)) ∧ Below w.heap.size w V) ⟨H1.out, hb⟩ ?_
    clear H0 H1 hb HO1 HO2 HT HS
    rintro V ⟨h1, hb⟩
    have H1 := Lib.hid h1
    have hbl := row_lt h1
    have hVs := hb.size
    clear h1
    generalize hwh : opnB wd gp t h = wh at *
    have HWH := Lib.hid hwh
    clear hwh
    go_upto_region 6 with (fail)
    go_loopw [26] (fun i wr => ∃ k : Nat, k ≤ 24 ∧ i = .int .i64 k ∧ wr.heap[b1]? = some (.cells (f32s (List.replicate 24 0)) 61 (0, 0)) ∧ wr.heap[V.heap.size]? = some (.cells (f32s (flK (flP wh hg br M) k)) 61 (0, 0)) ∧ Below w.heap.size w wr) (fun i _ => 24 - (intOf i).toNat)
    case atStart => exact ⟨0, Nat.zero_le _, rfl, heap_alloc_old H1.out, heap_alloc_new _ _, hb.alloc hVs _⟩
    case round =>
      clear hb H1
      obtain ⟨k, hk, rfl, h1, h2, hb⟩ := hrel
      by_cases hlt : k < 24
      · have z1 : (k : Int) < 24 := by omega
        have z2 : (0 : Int) ≤ (k : Int) := by omega
        have z5 : (k : Int) ≤ 32 := by omega
        have hl2 := flK_len (flP wh hg br M) hk
        have hd := cell_of_f32s h2 k (by rw [hl2]; exact hlt)
        have hf := frozen_of_row wr V.heap.size k _ _ h2
        have H1 := Lib.hid h1
        have H2 := Lib.hid h2
        have B1 := HB1.out k
        have B2 := HB2.out k
        have hst := Lib.hid (flK_set (flP wh hg br M) hlt)
        have hsz := Lib.hid (flK_zero (flP wh hg br M) hlt)
        have HP : Hid (flP wh hg br M k = if k < M then (if br.testBit k then hg else wh) else 0) := rfl
        clear h1 h2 hl2
        rcases hbr : br.testBit k with _ | _
        · rw [hbr] at B1
          by_cases hm : k < M
          · rw [decide_eq_true hm] at B2
            have hv : flP wh hg br M k = wh := by rw [HP.out, if_pos hm, hbr]; rfl
            rw [hv] at hst
            have HV := Lib.hid hbr
            clear hbr hv
            go_wp2
            go_roundw
            case rel => exact ⟨k + 1, by omega, by go_num, by rw [heap_setCell_other _ _ _ _ (by simp; omega)]; exact H1.out, by rw [heap_setCell_same _ _ _ _ _ _ H2.out, f32s_set, hst.out], hb.setCell (by simp; omega) _⟩
            case measure => simp [intOf]; omega
          · rw [decide_eq_false hm] at B2
            have hv : flP wh hg br M k = 0 := by rw [HP.out, if_neg hm]
            have hz := Lib.hid (hsz.out hv)
            have HV := Lib.hid hbr
            clear hbr hv
            go_wp2
            go_roundw
            case rel => exact ⟨k + 1, by omega, by go_num, H1.out, by rw [← hz.out]; exact H2.out, hb⟩
            case measure => simp [intOf]; omega
        · rw [hbr] at B1
          have hm : k < M := HBM.out k hbr
          have hv : flP wh hg br M k = hg := by rw [HP.out, if_pos hm, hbr]; rfl
          rw [hv] at hst
          have HV := Lib.hid hbr
          clear hbr hv B2
          go_wp2
          go_roundw
          case rel => exact ⟨k + 1, by omega, by go_num, by rw [heap_setCell_other _ _ _ _ (by simp; omega)]; exact H1.out, by rw [heap_setCell_same _ _ _ _ _ _ H2.out, f32s_set, hst.out], hb.setCell (by simp; omega) _⟩
          case measure => simp [intOf]; omega
      · obtain rfl : k = 24 := by omega
        have hm := flK_len (flP wh hg br M) (Nat.le_refl 24)
        generalize hys : flK (flP wh hg br M) 24 = ys at *
        have HY := Lib.hid hys
        have Hm := Lib.hid hm
        have H2 := Lib.hid h2
        have H1 := Lib.hid h1
        clear h1 h2 hm hlt hk hys
        go_wp2_with (first | (refine wpList_load_part rfl 61 _ rfl _ _ 24 rfl _ _ _ _ H2.out Tryd.underlying61 rfl info_floor (by rw [f32s_size, Hm.out]; decide) _ (f32s_all _ 24 Hm.out) ?_) | (refine wpList_store_part rfl 61 _ _ rfl _ _ _ rfl rfl _ _ H1.out (by rw [f32s_size, Hm.out]; exact info_floor) (by simp [Hm.out]) (f32s_one _) ?_; rw [laid_all _ _ (by simp [Hm.out])]))
        exact bodyPost_ret (results_cell_row rfl _ _ _ _ _ _ _ rfl (setRow_heap _ _ _ _ _ _ H1.out) Tryd.underlying61 rfl (by rw [f32s_size, Hm.out]; exact info_floor)) rfl ⟨by rw [← HY.out, HWH.out], below_setRow hb (by omega) _⟩

end Go.Proofs.YtmniodfdoidffaaDoor
