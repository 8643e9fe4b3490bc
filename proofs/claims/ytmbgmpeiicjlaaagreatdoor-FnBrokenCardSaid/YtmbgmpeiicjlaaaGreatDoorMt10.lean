/-
  FlW, SrA, SrB, SrC, SrD, SrE, SrF, FtQ.
-/
import Derived.Test.YtmbgmpeiicjlaaaGreatDoorMt5
import Derived.Test.YtmbgmpeiicjlaaaGreatDoorMt8
import Derived.Test.YtmbgmpeiicjlaaaGreatDoorMt6
import Derived.Test.YtmbgmpeiicjlaaaGreatDoorMt2
import Derived.IntWalk
import Derived.Laws.AppendOwn
import Derived.Laws.BitsAllLaws
import Derived.Test.YtmbgmpeiicjlaaaGreatDoorMt1
import Derived.Test.YtmbgmpeiicjlaaaGreatDoorMt3

namespace Go.Proofs.YtmbgmpeiicjlaaaGreatDoor

open Go.ChangeShapes Go.WideShapes Go.ChangeAt Go.RowKit Go.Deep Go.Joins

attribute [local go_sem] run_store_f

def zerF : List Nat := List.replicate 24 0

set_option maxRecDepth 100000 in
theorem info_zf : (Tryz.prog.info? 35).map (·.size) = some (f32s zerF).size := by kernel_rfl

theorem flK_endN {g : Nat → Nat} {m : Nat} : ∀ k, m ≤ k → k ≤ 24 → (∀ j, m ≤ j → g j = 0) → flK g m = flK g k
  | 0, h, _, _ => by obtain rfl : m = 0 := by omega
                     rfl
  | k + 1, h, h24, hz => by
    by_cases e : m = k + 1
    · rw [e]
    · rw [flK_endN k (by omega) (by omega) hz, flK_zero g (by omega) (hz k (by omega))]

theorem flK_end {wh hg br : Nat} (k : Nat) (h : k ≤ 24) : flK (flP wh hg br k) k = flK (flP wh hg br k) 24 :=
  flK_endN 24 h (Nat.le_refl _) (fun j hj => if_neg (by omega))

theorem results_floor {fn : Func} {p u : Tmp} (h : fn.results = #[.cell p 35, .tmp u]) (tmps : Array Value) (w : World) (g : Nat) (xs : List Nat) (hx : xs.length = 24) (hp : tmps.getD p undef = .pointer (some ⟨g, 0, none⟩)) (hg : w.heap[g]? = some (.cells (f32s xs) 35 (0, 0))) :
    (results fn tmps).run Tryz.prog w = .ok (.tuple #[.agg (f32s xs), tmps.getD u undef]) w := by
  rw [results_cell_tmp h, hp]
  have e := run_loadVar_row w g 35 35 (f32s xs) (0, 0) _ hg Tryz.underlying35 rfl (by rw [f32s_size, hx]; exact info_floor)
  simp only [asAddr, Sem.run_pure, Result.andThen_ok, e]

set_option maxRecDepth 100000 in
set_option maxHeartbeats 2000000 in
theorem iFloor_yes (n : Int) (wd gp : Nat) (t : Int) (sh : Nat) (T0 : -32768 ≤ t) (T1 : t ≤ 32767) (ok : BlOk n wd gp t sh) (hk : okBl n wd gp t sh = true) (h : Int) (hi : inI 1 64 h = true) (br : Nat) (hbr : br < 4294967296) (hft : fitB br n = true) (w : World) :
    Calls Tryz.prog 9 #[.agg (blindC n wd gp t sh), .int .i64 h, .int .u32 (br : Int)] w fun e w' => e = .returned (.tuple #[.agg (f32s (flB n wd gp t h br)), .int .i64 0]) ∧ Below w.heap.size w w' := by
  have Hi := Lib.hid hi
  have HF := fit_impl hbr n
  rw [hft] at HF
  obtain ⟨c, hc0⟩ : ∃ c : Int, c = 0 := ⟨0, rfl⟩
  obtain ⟨fit, hfit⟩ : ∃ f : Bool, f = true := ⟨true, rfl⟩
  have Hc : Hid (codeC (okBl n wd gp t sh) fit = c) := by rw [hk, hfit, hc0]; rfl
  have HO := Lib.hid (fun w => floorOf_any n wd gp t sh ok h (inI_get hi).1 (inI_get hi).2 br hbr (of_decide_eq_true hft) w)
  have HL := Lib.hid (flB_len n wd gp t h br)
  generalize flB n wd gp t h br = ys at *
  subst hc0 hfit
  clear ok hk hi hbr hft
  go_enter Tryz.func9, Tryz.ntmps9
  go_upto_region 1 with (fail)
  refine abs_code (fun W => W.heap[w.heap.size]? = some (.cells (blindC n wd gp t sh) 28 (0, 0)) ∧ W.heap[w.heap.size + 1]? = some (.cells (f32s zerF) 35 (0, 0)) ∧ Below w.heap.size w W) ⟨heap_alloc2_old _ _ _, heap_alloc2_new _ _ _, ((Below.refl _ _).alloc (Nat.le_refl _) _).alloc (by simp) _⟩ ?_
  rintro W ⟨h0, h1, hb⟩
  have hb1s : w.heap.size ≤ w.heap.size + 1 := by omega
  generalize w.heap.size + 1 = b1 at *
  have H0 := Lib.hid h0
  have H1 := Lib.hid h1
  clear h0 h1
  refine wp_region_held_drew (S := (fun V => Below W.heap.size W V)) (by kernel_rfl) (Below.refl _ _).drew (fun hHeld => ?_)
  refine take_op (i := 0) (d := 9) (v := .agg (blindC n wd gp t sh)) rfl rfl (by kernel_rfl) (by kernel_rfl) (by kernel_rfl) (fun _ _ _ h => h) (yields_row (by rfl) 28 (.tmp 3) (by rfl) w.heap.size 0 5 (by rfl) 28 (blindC n wd gp t sh) (0, 0) _ (fun _ h => below_row h H0.out) Tryz.underlying28 rfl info_blind (blind_fits _ _ _ _ _) (blindC n wd gp t sh) (blind_all _ _ _ _ _)) hHeld ?_
  simp only [List.setIfInBounds_toArray, List.set_cons_zero, List.set_cons_succ]
  refine take_op (i := 1) (d := 10) (v := ?_) rfl rfl (by kernel_rfl) (by kernel_rfl) (by kernel_rfl) (fun _ _ _ h => h) (Or.inl ⟨by rfl, ?hy1u30⟩) hHeld ?rest1u30
  case hy1u30 =>
    intro w' hS'
    go_simp
    try with_reducible rfl
  simp only [List.setIfInBounds_toArray, List.set_cons_zero, List.set_cons_succ]
  refine wpAnyH_ready (rs := [2]) (by kernel_rfl) (by simp) ?_
  refine AllReadyH.cons rfl (fun K hK => ?_) AllReadyH.nil
  go_simp
  refine (isHeight_is h true Hi.out _).mono ?_
  rintro e w' ⟨rfl, rfl⟩
  refine hK.out _ _ (hHeld) (fun hHeld2 => ?_)
  clear hK K
  replace hHeld := hHeld2
  clear hHeld2
  refine take_op (i := 3) (d := 12) (v := ?_) rfl rfl (by kernel_rfl) (by kernel_rfl) (by kernel_rfl) (fun _ _ _ h => h) (Or.inl ⟨by rfl, ?hy3u31⟩) hHeld ?rest3u31
  case hy3u31 =>
    intro w' hS'
    go_simp
    try with_reducible rfl
  simp only [List.setIfInBounds_toArray, List.set_cons_zero, List.set_cons_succ]
  refine take_op (i := 4) (d := 13) (v := ?_) rfl rfl (by kernel_rfl) (by kernel_rfl) (by kernel_rfl) (fun _ _ _ h => h) (Or.inl ⟨by rfl, ?hy4u32⟩) hHeld ?rest4u32
  case hy4u32 =>
    intro w' hS'
    go_simp
    try with_reducible rfl
  simp only [List.setIfInBounds_toArray, List.set_cons_zero, List.set_cons_succ]
  refine take_op (i := 5) (d := 14) (v := .agg (blindC n wd gp t sh)) rfl rfl (by kernel_rfl) (by kernel_rfl) (by kernel_rfl) (fun _ _ _ h => h) (yields_row (by rfl) 28 (.tmp 3) (by rfl) w.heap.size 0 5 (by rfl) 28 (blindC n wd gp t sh) (0, 0) _ (fun _ h => below_row h H0.out) Tryz.underlying28 rfl info_blind (blind_fits _ _ _ _ _) (blindC n wd gp t sh) (blind_all _ _ _ _ _)) hHeld ?_
  simp only [List.setIfInBounds_toArray, List.set_cons_zero, List.set_cons_succ]
  refine wpAnyH_ready (rs := [6]) (by kernel_rfl) (by simp) ?_
  refine AllReadyH.cons rfl (fun K hK => ?_) AllReadyH.nil
  go_simp
  refine (slatsOf_any n wd gp t sh _).mono ?_
  rintro e W1 ⟨rfl, hb1⟩
  refine hK.out _ _ (hHeld.trans (hb1.mono hHeld.size)) (fun hHeld2 => ?_)
  clear hK K
  replace hHeld := hHeld2
  clear hHeld2
  clear hb1
  refine take_op (i := 7) (d := 16) (v := ?_) rfl rfl (by kernel_rfl) (by kernel_rfl) (by kernel_rfl) (fun _ _ _ h => h) (Or.inl ⟨by rfl, ?hy7u33⟩) hHeld ?rest7u33
  case hy7u33 =>
    intro w' hS'
    go_simp
    try with_reducible rfl
  simp only [List.setIfInBounds_toArray, List.set_cons_zero, List.set_cons_succ]
  refine take_op (i := 8) (d := 17) (v := ?_) rfl rfl (by kernel_rfl) (by kernel_rfl) (by kernel_rfl) (fun _ _ _ h => h) (Or.inl ⟨by rfl, ?hy8u34⟩) hHeld ?rest8u34
  case hy8u34 =>
    intro w' hS'
    go_simp
    try with_reducible rfl
  simp only [List.setIfInBounds_toArray, List.set_cons_zero, List.set_cons_succ]
  refine take_op (i := 9) (d := 18) (v := ?_) rfl rfl (by kernel_rfl) (by kernel_rfl) (by kernel_rfl) (fun _ _ _ h => h) (Or.inl ⟨by rfl, ?hy9u35⟩) hHeld ?rest9u35
  case hy9u35 =>
    intro w' hS'
    go_simp
    try with_reducible rfl
  simp only [List.setIfInBounds_toArray, List.set_cons_zero, List.set_cons_succ]
  refine wpAnyH_ready (rs := [10]) (by kernel_rfl) (by simp) ?_
  refine AllReadyH.cons rfl (fun K hK => ?_) AllReadyH.nil
  go_simp
  refine (checkBlind_is n wd gp t sh T0 T1 true 0 Hc.out _).mono ?_
  rintro e W1 ⟨rfl, hb1⟩
  refine hK.out _ _ (hHeld.trans (hb1.mono hHeld.size)) (fun hHeld2 => ?_)
  clear hK K
  replace hHeld := hHeld2
  clear hHeld2
  clear hb1
  refine take_op (i := 11) (d := 8) (v := ?_) rfl rfl (by kernel_rfl) (by kernel_rfl) (by kernel_rfl) (fun _ _ _ h => h) (Or.inl ⟨by rfl, ?hy11u36⟩) hHeld ?rest11u36
  case hy11u36 =>
    intro w' hS'
    go_simp
    try with_reducible rfl
  simp only [List.setIfInBounds_toArray, List.set_cons_zero, List.set_cons_succ]
  refine wpAnyH_done (by kernel_rfl) ?_ _
  replace H0 := Lib.hid (below_row hHeld H0.out)
  replace H1 := Lib.hid (below_row hHeld H1.out)
  replace hb := hb.trans (hHeld.mono hb.size)
  clear hHeld
  go_wp2_with (first | (refine wpList_load_part rfl 28 _ rfl w.heap.size 0 5 rfl 28 (blindC n wd gp t sh) (0, 0) _ H0.out Tryz.underlying28 rfl info_blind (blind_fits _ _ _ _ _) _ (blind_all _ _ _ _ _) ?_) | (go_at_call 33; refine (HO.out _).mono ?_; rintro e W1 ⟨rfl, hb1⟩; replace H0 := Lib.hid (below_row hb1 H0.out); replace H1 := Lib.hid (below_row hb1 H1.out); replace hb := hb.trans (hb1.mono hb.size); clear hb1) | (refine wpList_store_part rfl 35 _ _ rfl b1 0 (f32s ys) rfl rfl 35 _ H1.out (by rw [f32s_size, HL.out]; exact info_floor) (by rw [f32s_size, f32s_size, HL.out]; decide) (f32s_one _) ?_; rw [laid_all _ _ (by rw [f32s_size, f32s_size, HL.out]; rfl)]))
  refine bodyPost_ret (results_floor rfl _ _ b1 ys HL.out rfl (setRow_heap _ _ _ _ _ _ H1.out)) rfl ?_
  exact ⟨rfl, below_setRow hb hb1s _⟩

set_option maxRecDepth 100000 in
set_option maxHeartbeats 8000000 in
theorem sFloor_yes (n : Int) (wd gp : Nat) (t : Int) (sh : Nat) (T0 : -32768 ≤ t) (T1 : t ≤ 32767) (N0 : -128 ≤ n) (N1 : n ≤ 127) (ok : BlOk n wd gp t sh) (hk : okBl n wd gp t sh = true) (h : Int) (hi : inI 1 64 h = true) (br : Nat) (hft : fitB br n = true) (w : World) :
    Calls Tryz.prog 10 #[.agg (blindC n wd gp t sh), .int .i64 h, .int .u32 (br : Int)] w fun e w' => e = .returned (.tuple #[.agg (f32s (flB n wd gp t h br)), .int .i64 0]) ∧ Below w.heap.size w w' := by
  have HK := Lib.hid hk
  have Hi := Lib.hid hi
  have HF := fit_spec br n
  rw [hft] at HF
  have hm0 := mB_le n
  have hm1 : 1 ≤ mB n := by
    have := ok.1
    unfold mB; split <;> omega
  have HO1 : Hid (∀ (W W' : World), W'.heap[W.heap.size]? = some (.cells (blindC n wd gp t sh) 28 (0, 0)) → Calls Tryz.prog 36 #[.pointer (some ⟨W.heap.size, 0, none⟩), .int .i64 h] W' fun e w' => e = .returned (.float .f32 (opnB wd gp t h)) ∧ Below W'.heap.size W' w') := fun W W' hg => l02Open_any n wd gp t sh ok h (inI_get hi).1 (inI_get hi).2 W.heap.size 28 (0, 0) W' hg
  have HO2 := Lib.hid (fun w => l07Hanging_any n wd gp t sh ok h (inI_get hi).1 (inI_get hi).2 w)
  unfold flB
  obtain ⟨M, hM⟩ := Int.eq_ofNat_of_zero_le (by omega : 0 ≤ mB n)
  rw [hM] at HF hm0 hm1
  rw [hM]
  rw [Int.toNat_natCast] at HF
  rw [Int.toNat_natCast]
  have HM := Lib.hid hM
  have z4 : IntKind.u64.wrap (M : Int) = (M : Int) := by rw [IntWalk.u64_in _ (by omega)]
  clear hft hM ok hk hi
  generalize hwh : opnB wd gp t h = wh at *
  generalize hhg : opnB wd gp (hgT t) h = hg at *
  clear hwh hhg
  go_enter Tryz.func10, Tryz.ntmps10
  go_upto_region 1 with (fail)
  refine abs_code (fun W => W.heap[w.heap.size]? = some (.cells (blindC n wd gp t sh) 28 (0, 0)) ∧ W.heap[w.heap.size + 1]? = some (.cells (f32s zerF) 35 (0, 0)) ∧ Below w.heap.size w W) ⟨heap_alloc2_old _ _ _, heap_alloc2_new _ _ _, ((Below.refl _ _).alloc (Nat.le_refl _) _).alloc (by simp) _⟩ ?_
  rintro W ⟨h0, h1, hb⟩
  have hb1s : w.heap.size ≤ w.heap.size + 1 := by omega
  generalize w.heap.size + 1 = b1 at *
  have H0 := Lib.hid h0
  have H1 := Lib.hid h1
  clear h0 h1
  go_upto_region 6 with (first | (go_at_call 34; refine (l02Ok_any n wd gp t sh T0 T1 N0 N1 _ 28 (0, 0) _ H0.out).mono ?_; rw [HK.out]; rintro e w' ⟨rfl, rfl⟩) | (go_at_call 28; refine (l07Looked_any n wd gp t sh N0 N1 _ 28 (0, 0) _ H0.out).mono ?_; rw [HM.out]; rintro e w' ⟨rfl, rfl⟩) | (go_at_call 35; refine (l02Up_is h true Hi.out _).mono ?_; rintro e w' ⟨rfl, rfl⟩))
  go_upto_region 7 with (refine wpList_store_part rfl 35 _ _ rfl _ 0 (f32s zerF) rfl rfl 35 _ (heap_alloc_new _ _) info_zf (by decide) (f32s_one _) ?_; rw [laid_all _ _ (by rfl)])
  clear HF z4
  refine abs_code (fun V => V.heap[w.heap.size]? = some (.cells (blindC n wd gp t sh) 28 (0, 0)) ∧ V.heap[b1]? = some (.cells (f32s zerF) 35 (0, 0)) ∧ V.heap[W.heap.size]? = some (.cells (f32s zerF) 35 (0, 0)) ∧ Below w.heap.size w V) ⟨by rw [setRow_other _ _ _ _ (by have := row_lt H0.out; omega)]; exact heap_alloc_old H0.out, by rw [setRow_other _ _ _ _ (by have := row_lt H1.out; omega)]; exact heap_alloc_old H1.out, setRow_heap _ _ _ _ _ _ (heap_alloc_new _ _), below_setRow (hb.alloc hb.size _) hb.size _⟩ ?_
  have hbl := row_lt H1.out
  have hbk := row_lt H0.out
  have hWs := hb.size
  clear H0 H1 hb
  generalize hg1 : W.heap.size = g1 at *
  clear hg1
  rintro V ⟨h0, h1, h2, hb⟩
  go_upto_region 8 with (fail)
  go_loopw [10] (fun i wr => ∃ k : Nat, k ≤ M ∧ i = .int .i64 k ∧ wr.heap[w.heap.size]? = some (.cells (blindC n wd gp t sh) 28 (0, 0)) ∧ wr.heap[b1]? = some (.cells (f32s zerF) 35 (0, 0)) ∧ wr.heap[g1]? = some (.cells (f32s (flK (flP wh hg br M) k)) 35 (0, 0)) ∧ Below w.heap.size w wr) (fun i _ => M - (intOf i).toNat)
  case atStart => exact ⟨0, Nat.zero_le _, rfl, h0, h1, h2, hb⟩
  case round =>
    clear h0 h1 h2 hb
    obtain ⟨k, hk, rfl, h0, h1, h2, hb⟩ := hrel
    by_cases hlt : k < M
    · have z1 : (k : Int) < (M : Int) := by omega
      have z2 : (0 : Int) ≤ (k : Int) := by omega
      have z3 : (k : Int) < 24 := by omega
      have z5 : (k : Int) ≤ 32 := by omega
      have z4 : IntKind.u64.wrap (k : Int) = (k : Int) := by rw [IntWalk.u64_in _ (by omega)]
      have B1 := bit_spec br k
      have hl2 := flK_len (flP wh hg br M) (by omega : k ≤ 24)
      have H0 := Lib.hid h0
      have H1 := Lib.hid h1
      have hst := Lib.hid (flK_set (flP wh hg br M) (by omega : k < 24))
      have HL := Lib.hid hl2
      have hHP : flP wh hg br M k = if br.testBit k then hg else wh := if_pos hlt
      have HP := Lib.hid hHP
      have HO3 : Hid (∀ W', Below wr.heap.size wr W' → Calls Tryz.prog 36 #[.pointer (some ⟨w.heap.size, 0, none⟩), .int .i64 h] W' fun e w' => e = .returned (.float .f32 wh) ∧ Below W'.heap.size W' w') := fun W' hb' => HO1.out w W' (below_row hb' H0.out)
      have H2 := Lib.hid h2
      clear h0 h1 h2 hl2 hHP
      go_upto_region 11 with (go_at_call 36; refine (HO3.out _ (Below.refl _ _)).mono ?_; rintro e W1 ⟨rfl, hb1⟩; replace H0 := Lib.hid (below_row hb1 H0.out); replace H1 := Lib.hid (below_row hb1 H1.out); replace H2 := Lib.hid (below_row hb1 H2.out); replace hb := hb.trans (hb1.mono hb.size); clear hb1 HO3; have hd := cell_of_f32s H2.out k (by rw [HL.out]; omega); have hf := frozen_of_row _ g1 k _ _ H2.out)
      clear hd hf
      refine abs_code (fun V => V.heap[w.heap.size]? = some (.cells (blindC n wd gp t sh) 28 (0, 0)) ∧ V.heap[b1]? = some (.cells (f32s zerF) 35 (0, 0)) ∧ V.heap[g1]? = some (.cells (f32s ((flK (flP wh hg br M) k).set k wh)) 35 (0, 0)) ∧ Below w.heap.size w V) ⟨by rw [heap_setCell_other _ _ _ _ (by simp; omega)]; exact H0.out, by rw [heap_setCell_other _ _ _ _ (by simp; omega)]; exact H1.out, by rw [heap_setCell_same _ _ _ _ _ _ H2.out, f32s_set], hb.setCell (by simp; omega) _⟩ ?_
      clear H0 H1 H2 hb
      rintro U ⟨h0, h1, h2, hb⟩
      have H0 := Lib.hid h0
      have H1 := Lib.hid h1
      have H2 := Lib.hid h2
      clear h0 h1 h2
      rcases hbr : br.testBit k with _ | _
      · rw [hbr] at B1
        have hv : flP wh hg br M k = wh := by rw [HP.out, hbr]; rfl
        rw [hv] at hst
        have HV := Lib.hid hbr
        clear hbr hv
        go_wp2
        go_roundw
        case rel => exact ⟨k + 1, by omega, by go_num, H0.out, H1.out, by rw [← hst.out]; exact H2.out, hb⟩
        case measure => simp [intOf]; omega
      · rw [hbr] at B1
        have hv : flP wh hg br M k = hg := by rw [HP.out, hbr]; rfl
        rw [hv] at hst
        have HV := Lib.hid hbr
        clear hbr hv
        go_wp2_with (first | (refine wpList_load_part rfl 28 _ rfl w.heap.size 0 5 rfl 28 (blindC n wd gp t sh) (0, 0) _ H0.out Tryz.underlying28 rfl info_blind (blind_fits _ _ _ _ _) _ (blind_all _ _ _ _ _) ?_) | (go_at_call 37; refine (HO2.out _).mono ?_; rintro e W2 ⟨rfl, hb1⟩; replace H0 := Lib.hid (below_row hb1 H0.out); replace H1 := Lib.hid (below_row hb1 H1.out); replace H2 := Lib.hid (below_row hb1 H2.out); replace hb := hb.trans (hb1.mono hb.size); clear hb1; have hd := cell_of_f32s H2.out k (by rw [List.length_set, HL.out]; omega); have hf := frozen_of_row _ g1 k _ _ H2.out))
        go_roundw
        case rel => exact ⟨k + 1, by omega, by go_num, by rw [heap_setCell_other _ _ _ _ (by simp; omega)]; exact H0.out, by rw [heap_setCell_other _ _ _ _ (by simp; omega)]; exact H1.out, by rw [heap_setCell_same _ _ _ _ _ _ H2.out, f32s_set, List.set_set, hst.out], hb.setCell (by simp; omega) _⟩
        case measure => simp [intOf]; omega
    · obtain rfl : k = M := by omega
      have hend : flK (flP wh hg br k) k = flK (flP wh hg br k) 24 := flK_end k (by omega)
      rw [hend] at h2
      have hm := flK_len (flP wh hg br k) (Nat.le_refl 24)
      generalize hys : flK (flP wh hg br k) 24 = ys at *
      have HY := Lib.hid hys
      have Hm := Lib.hid hm
      have H2 := Lib.hid h2
      have H1 := Lib.hid h1
      have z1 : ¬ (k : Int) < (k : Int) := by omega
      clear h0 h1 h2 hm hlt hk hys hend
      go_wp2_with (first | (refine wpList_load_part rfl 35 _ rfl _ _ 24 rfl _ _ _ _ H2.out Tryz.underlying35 rfl info_floor (by rw [f32s_size, Hm.out]; decide) _ (f32s_all _ 24 Hm.out) ?_) | (refine wpList_store_part rfl 35 _ _ rfl _ _ _ rfl rfl _ _ H1.out (by rw [f32s_size, Hm.out]; exact info_floor) (by rw [f32s_size, f32s_size, Hm.out]; decide) (f32s_one _) ?_; rw [laid_all _ _ (by rw [f32s_size, f32s_size, Hm.out]; rfl)]))
      refine bodyPost_ret (results_floor rfl _ _ b1 ys Hm.out rfl (setRow_heap _ _ _ _ _ _ H1.out)) rfl ?_
      exact ⟨by rw [← HY.out]; rfl, below_setRow hb hb1s _⟩

end Go.Proofs.YtmbgmpeiicjlaaaGreatDoor

namespace Go.Proofs.YtmbgmpeiicjlaaaGreatDoor

open Go.RowKit

/-- A list of bytes, all of it below a block. -/
def BytesAt (V : World) (B : Nat) (v : Value) (n : Nat) : Prop :=
  ∃ a cap, v = .slice a n cap ∧ n ≤ cap ∧ cap ≤ maxLen ∧ ∀ i, i < n → ∃ (g o : Nat) (x : Int), a = some ⟨g, o, none⟩ ∧ g < B ∧ 0 ≤ x ∧ x ≤ 255 ∧ V.cell? ⟨g, o + i, none⟩ = some (.int .u8 x)

def srcC (v : Value) (at' sd : Int) : Array Value := #[v, .int .i64 at', .int .u64 sd]

/-- The source lies in block b; it has handed out at most m bytes. -/
def SrcAt (V : World) (b : Nat) (v : Value) (n m : Nat) : Prop :=
  BytesAt V b v n ∧ ∃ at' sd : Int, 0 ≤ at' ∧ at' ≤ (m : Int) ∧ 0 ≤ sd ∧ sd ≤ 18446744073709551615 ∧ V.heap[b]? = some (.cells (srcC v at' sd) 96 (0, 0))

theorem bytes_grown {V V' : World} {b n : Nat} {v : Value} (h : BytesAt V b v n) (hg : V.grownBy V' (some b)) : BytesAt V' b v n := by
  obtain ⟨a, cap, h1, h2, h3, h4⟩ := h
  refine ⟨a, cap, h1, h2, h3, fun i hi => ?_⟩
  obtain ⟨g, o, x, e, hgb, x0, x1, hc⟩ := h4 i hi
  have hlt := World.block_lt_of_cell? _ _ hc
  exact ⟨g, o, x, e, hgb, x0, x1, (World.cell?_of_block (hg.block g hlt (fun e => by injection e with e; omega))).trans hc⟩

theorem u64_bd (n : Int) : 0 ≤ IntKind.u64.wrap n ∧ IntKind.u64.wrap n ≤ 18446744073709551615 := by
  rw [IntKind.wrap_u64]
  omega

theorem and255 {s : Int} (h0 : 0 ≤ s) (h1 : s ≤ 18446744073709551615) : 0 ≤ wrap64 (bits BinOp.and IntKind.u64 (s / 1099511627776) 255) ∧ wrap64 (bits BinOp.and IntKind.u64 (s / 1099511627776) 255) ≤ 255 := by
  obtain ⟨a, ha⟩ := Int.eq_ofNat_of_zero_le (by omega : 0 ≤ s / 1099511627776)
  rw [ha]
  have hl : a < 18446744073709551616 := by omega
  have e : bits BinOp.and IntKind.u64 (a : Int) 255 = ((a &&& 255 : Nat) : Int) := u64_and_nat a 255 hl (by decide)
  have h2 : a &&& 255 ≤ 255 := Nat.and_le_right
  rw [e]
  unfold wrap64
  omega

theorem src_cells {V : World} {b : Nat} {v : Value} {x y : Int} {fr : Nat × Nat} (h : V.heap[b]? = some (.cells (srcC v x y) 96 fr)) : V.cell? ⟨b, 0, none⟩ = some v ∧ V.cell? ⟨b, 1, none⟩ = some (.int .i64 x) ∧ V.cell? ⟨b, 2, none⟩ = some (.int .u64 y) :=
  ⟨by rw [cell_of_row _ _ _ _ _ _ h]; rfl, by rw [cell_of_row _ _ _ _ _ _ h]; rfl, by rw [cell_of_row _ _ _ _ _ _ h]; rfl⟩

theorem grown_set {V : World} {b o : Nat} (x : Value) : V.grownBy (V.setCell ⟨b, o, none⟩ x) (some b) :=
  ⟨rfl, rfl, rfl, by simp, fun k _ hk => heap_setCell_other _ _ _ _ (fun e => hk (congrArg some e))⟩

theorem grown_t {A B C : World} {r : Option Nat} (h : A.grownBy B r) (k : B.grownBy C r) : A.grownBy C r :=
  ⟨k.os.trans h.os, k.tape.trans h.tape, k.output.trans h.output, Nat.le_trans h.size k.size, fun i hi hne => (k.block i (Nat.lt_of_lt_of_le hi h.size) hne).trans (h.block i hi hne)⟩

set_option maxRecDepth 100000 in
set_option maxHeartbeats 4000000 in
theorem next_any (b n m : Nat) (v : Value) (hm : m ≤ 1000000) (V : World) (h : SrcAt V b v n m) :
    Calls Tryz.prog 83 #[.pointer (some ⟨b, 0, none⟩)] V fun e V' => (∃ r : Int, e = .returned (.int .i64 r) ∧ 0 ≤ r ∧ r ≤ 255) ∧ SrcAt V' b v n (m + 1) ∧ V.grownBy V' (some b) := by
  obtain ⟨hB, at', sd, a0, a1, s0, s1, hrow⟩ := h
  have HB := Lib.hid hB
  obtain ⟨a, cap, ev, hc1, hc2, hall⟩ := id hB
  unfold maxLen at hc2
  have HR := Lib.hid hrow
  obtain ⟨k0, k1, k2⟩ := src_cells hrow
  rw [ev] at k0
  have f1 := frozen_of_row V b 1 _ _ hrow
  have hw1 : IntKind.i64.wrap (at' + 1) = at' + 1 := by rw [IntWalk.i64_in _ (by omega)]
  clear hrow hB
  by_cases hlt : at' < (n : Int)
  · obtain ⟨i, rfl⟩ := Int.eq_ofNat_of_zero_le a0
    obtain ⟨g, o, x, ea, hgb, x0, x1, hcx⟩ := hall i (by omega)
    subst ea
    have hwx : IntKind.i64.wrap x = x := by rw [IntWalk.i64_in _ (by omega)]
    have z3 : decide ((i : Int) < (n : Int)) = true := decide_eq_true hlt
    clear hall
    go_enter Tryz.func83, Tryz.ntmps83
    go_wp2
    go_quiet (fail)
    go_wp2
    go_quiet (fail)
    go_upto_region 5 with (fail)
    refine abs_code (fun W => W.heap[b]? = some (.cells (srcC v ((i : Int) + 1) sd) 96 (0, 0)) ∧ V.grownBy W (some b)) ⟨?_, ⟨rfl, rfl, rfl, by simp, fun k _ hk => heap_setCell_other _ _ _ _ (fun e => hk (congrArg some e))⟩⟩ ?_
    · show (V.setCell ⟨b, 1, none⟩ (.int .i64 ((i : Int) + 1))).heap[b]? = _
      rw [heap_setCell_same _ _ _ _ _ _ HR.out]
      rfl
    rintro W ⟨hr, hg⟩
    have HRW := Lib.hid hr
    obtain ⟨j0, j1, j2⟩ := src_cells hr
    have f2 := frozen_of_row W b 2 _ _ hr
    clear k0 k1 k2 f1 hr
    go_upto_region 6 with (fail)
    refine abs_code (fun X => ∃ sd' : Int, 0 ≤ sd' ∧ sd' ≤ 18446744073709551615 ∧ X.heap[b]? = some (.cells (srcC v ((i : Int) + 1) sd') 96 (0, 0)) ∧ V.grownBy X (some b)) ⟨_, (u64_bd _).1, (u64_bd _).2, by rw [heap_setCell_same _ _ _ _ _ _ HRW.out]; rfl, grown_t hg (grown_set _)⟩ ?_
    clear j0 j1 j2 f2 hg HRW HR
    rintro X ⟨sd', d0, d1, hr, hg⟩
    have HRX := Lib.hid hr
    obtain ⟨j0, j1, j2⟩ := src_cells hr
    rw [ev] at j0
    clear hr
    have z4 : (i : Int) + 1 ≤ (n : Int) := by omega
    have z5 : decide ((i : Int) + 1 ≤ (n : Int)) = true := decide_eq_true z4
    go_wp2
    go_quiet (fail)
    go_wp2
    go_ret
    exact ⟨⟨x, rfl, x0, x1⟩, ⟨bytes_grown HB.out ⟨hg.os, hg.tape, hg.output, hg.size, hg.block⟩, (i : Int) + 1, sd', by omega, by omega, d0, d1, HRX.out⟩, ⟨hg.os, hg.tape, hg.output, hg.size, hg.block⟩⟩
  · have z3 : decide (at' < (n : Int)) = false := decide_eq_false hlt
    clear hall
    go_enter Tryz.func83, Tryz.ntmps83
    go_wp2
    go_quiet (fail)
    go_upto_region 5 with (fail)
    refine abs_code (fun W => W.heap[b]? = some (.cells (srcC v (at' + 1) sd) 96 (0, 0)) ∧ V.grownBy W (some b)) ⟨?_, ⟨rfl, rfl, rfl, by simp, fun k _ hk => heap_setCell_other _ _ _ _ (fun e => hk (congrArg some e))⟩⟩ ?_
    · show (V.setCell ⟨b, 1, none⟩ (.int .i64 (at' + 1))).heap[b]? = _
      rw [heap_setCell_same _ _ _ _ _ _ HR.out]
      rfl
    rintro W ⟨hr, hg⟩
    have HRW := Lib.hid hr
    obtain ⟨j0, j1, j2⟩ := src_cells hr
    have f2 := frozen_of_row W b 2 _ _ hr
    clear k0 k1 k2 f1 hr
    go_upto_region 6 with (fail)
    refine abs_code (fun X => ∃ sd' : Int, 0 ≤ sd' ∧ sd' ≤ 18446744073709551615 ∧ X.heap[b]? = some (.cells (srcC v (at' + 1) sd') 96 (0, 0)) ∧ V.grownBy X (some b)) ⟨_, (u64_bd _).1, (u64_bd _).2, by rw [heap_setCell_same _ _ _ _ _ _ HRW.out]; rfl, grown_t hg (grown_set _)⟩ ?_
    clear j0 j1 j2 f2 hg HRW HR
    rintro X ⟨sd', d0, d1, hr, hg⟩
    have HRX := Lib.hid hr
    obtain ⟨j0, j1, j2⟩ := src_cells hr
    rw [ev] at j0
    clear hr
    have z4 : ¬ (at' + 1 ≤ (n : Int)) := by omega
    have z5 : decide (at' + 1 ≤ (n : Int)) = false := decide_eq_false z4
    go_wp2
    go_quiet (fail)
    go_wp2
    go_ret
    refine ⟨⟨_, rfl, ?_, ?_⟩, ⟨bytes_grown HB.out ⟨hg.os, hg.tape, hg.output, hg.size, hg.block⟩, at' + 1, sd', by omega, by omega, d0, d1, HRX.out⟩, ⟨hg.os, hg.tape, hg.output, hg.size, hg.block⟩⟩
    · exact (and255 d0 d1).1
    · exact (and255 d0 d1).2

theorem src_mono {V : World} {b n m k : Nat} {v : Value} (h : SrcAt V b v n m) (hk : m ≤ k) : SrcAt V b v n k := by
  obtain ⟨hB, x, y, h0, h1, h2, h3, h4⟩ := h
  exact ⟨hB, x, y, h0, by omega, h2, h3, h4⟩

theorem grown_r (V : World) (r : Option Nat) : V.grownBy V r := ⟨rfl, rfl, rfl, Nat.le_refl _, fun _ _ _ => rfl⟩

set_option maxRecDepth 100000 in
set_option maxHeartbeats 2000000 in
theorem pick_any (b n m : Nat) (v : Value) (hm : m ≤ 900000) (k : Int) (k0 : 1 ≤ k) (k1 : k ≤ 65536) (V : World) (h : SrcAt V b v n m) :
    Calls Tryz.prog 58 #[.pointer (some ⟨b, 0, none⟩), .int .i64 k] V fun e V' => (∃ r : Int, e = .returned (.int .i64 r) ∧ 0 ≤ r ∧ r < k) ∧ SrcAt V' b v n (m + 2) ∧ V.grownBy V' (some b) := by
  have HN1 := Lib.hid (fun V h => next_any b n m v (by omega) V h)
  have HN2 := Lib.hid (fun V h => next_any b n (m + 1) v (by omega) V h)
  have HS := Lib.hid h
  clear h
  by_cases hk : k ≤ 1
  · have e1 : k = 1 := by omega
    subst e1
    go_enter Tryz.func58, Tryz.ntmps58
    go_wp2
    go_ret
    exact ⟨⟨0, rfl, by decide, by decide⟩, src_mono HS.out (by omega), grown_r _ _⟩
  · have z1 : decide (k ≤ 1) = false := decide_eq_false hk
    have hne : k ≠ 0 := by omega
    have hr : ∀ x : Int, 0 ≤ x % k ∧ x % k < k := fun x => ⟨Int.emod_nonneg _ hne, Int.emod_lt_of_pos _ (by omega)⟩
    by_cases h2 : k > 200
    · have z2 : decide (k > 200) = true := decide_eq_true h2
      go_enter Tryz.func58, Tryz.ntmps58
      go_upto_region 4 with (go_at_call 83; refine (HN1.out _ HS.out).mono ?_; rintro e W1 ⟨⟨x, rfl, x0, x1⟩, hs1, hg1⟩)
      have HS1 := Lib.hid hs1
      have hw1 : IntKind.i64.wrap (x * 256) = x * 256 := by rw [IntWalk.i64_in _ (by omega)]
      go_upto_region 6 with (go_at_call 83; refine (HN2.out _ HS1.out).mono ?_; rintro e W2 ⟨⟨y, rfl, y0, y1⟩, hs2, hg2⟩)
      have hw2 : IntKind.i64.wrap (x * 256 + y) = x * 256 + y := by rw [IntWalk.i64_in _ (by omega)]
      go_wp2
      go_ret
      exact ⟨⟨_, rfl, hr _⟩, hs2, grown_t hg1 hg2⟩
    · have z2 : decide (k > 200) = false := decide_eq_false h2
      go_enter Tryz.func58, Tryz.ntmps58
      go_upto_region 4 with (go_at_call 83; refine (HN1.out _ HS.out).mono ?_; rintro e W1 ⟨⟨x, rfl, x0, x1⟩, hs1, hg1⟩)
      go_wp2
      go_ret
      exact ⟨⟨_, rfl, hr _⟩, src_mono hs1 (by omega), hg1⟩

end Go.Proofs.YtmbgmpeiicjlaaaGreatDoor

namespace Go.Proofs.YtmbgmpeiicjlaaaGreatDoor

open Go.RowKit

set_option maxRecDepth 100000 in
set_option maxHeartbeats 2000000 in
theorem one_any (b n m : Nat) (v : Value) (hm : m ≤ 900000) (k : Int) (k0 : 1 ≤ k) (k1 : k ≤ 65536) (V : World) (h : SrcAt V b v n m) :
    Calls Tryz.prog 72 #[.pointer (some ⟨b, 0, none⟩), .int .i64 k] V fun e V' => (∃ r : Bool, e = .returned (.bool r)) ∧ SrcAt V' b v n (m + 2) ∧ V.grownBy V' (some b) := by
  have HP := Lib.hid (fun V h => pick_any b n m v hm k k0 k1 V h)
  have HS := Lib.hid h
  clear h
  go_enter Tryz.func72, Tryz.ntmps72
  go_wp2_with (go_at_call 58; refine (HP.out _ HS.out).mono ?_; rintro e W1 ⟨⟨x, rfl, x0, x1⟩, hs1, hg1⟩)
  go_ret
  exact ⟨⟨_, rfl⟩, hs1, hg1⟩

set_option maxRecDepth 100000 in
set_option maxHeartbeats 2000000 in
theorem l00From_any (n cap : Nat) (a : Option Addr) (V : World) (h : BytesAt V V.heap.size (.slice a n cap) n) :
    Calls Tryz.prog 26 #[.slice a n cap] V fun e V' => e = .returned (.pointer (some ⟨V.heap.size, 0, none⟩)) ∧ SrcAt V' V.heap.size (.slice a n cap) n 0 ∧ Below V.heap.size V V' := by
  have hbi : Tryz.prog.built 96 [(0, .slice a n cap)] = some (srcC (.slice a n cap) 0 0) := by kernel_rfl
  have HB := Lib.hid h
  clear h
  go_enter Tryz.func26, Tryz.ntmps26
  go_wp2
  go_ret
  have hbl : Below V.heap.size V (V.alloc (.cells (srcC (.slice a n cap) 0 0) 96)) := (Below.refl _ _).alloc (Nat.le_refl _) _
  exact ⟨rfl, ⟨bytes_grown HB.out ⟨hbl.os, hbl.tape, hbl.output, hbl.size, fun k hk _ => hbl.block k hk⟩, 0, 0, by decide, by decide, by decide, by decide, heap_alloc_new _ _⟩, hbl⟩

end Go.Proofs.YtmbgmpeiicjlaaaGreatDoor

namespace Go.Proofs.YtmbgmpeiicjlaaaGreatDoor

open Go.RowKit

theorem ofNat_rnd (k : Nat) : Rnd (k * 2 ^ 149) 1 (floatOfInt .f32 (k : Int)) := by
  have e : floatOfInt .f32 (k : Int) = Ieee.single.nearest false k 0 := by
    have h0 : decide ((k : Int) < 0) = false := decide_eq_false (by omega)
    show Ieee.single.write (.number (decide ((k : Int) < 0)) (k : Int).natAbs 0) = _
    rw [h0, Int.natAbs_natCast]
    rfl
  rw [e]
  exact nearest_rnd k 0 149 0 (by decide)

theorem ofNat_mono {j k : Nat} (h : j ≤ k) : floatOfInt .f32 (j : Int) ≤ floatOfInt .f32 (k : Int) :=
  rnd_mono (ofNat_rnd j) (ofNat_rnd k) (by decide) (by decide) (by rw [Nat.mul_one, Nat.mul_one]; exact Nat.mul_le_mul_right _ h)

/-- A part of whole numbers. -/
theorem tone_of {r R c : Nat} (hr : r ≤ R) (hR : floatOfInt .f32 (R : Int) < 2139095040) (hc0 : 0 < c) (hc : c < 2139095040) (h1 : fdiv (floatOfInt .f32 (R : Int)) c ≤ 1065353216) : floatBits .quo .f32 (floatOfInt .f32 (r : Int)) c = some (fdiv (floatOfInt .f32 (r : Int)) c) ∧ fdiv (floatOfInt .f32 (r : Int)) c ≤ 1065353216 := by
  have hm := ofNat_mono hr
  exact ⟨(div_rnd (by omega) hc hc0).1, Nat.le_trans (div_mono hR hc hc0 hm (Nat.le_refl _)) h1⟩

theorem tone16 {r : Nat} (hr : r ≤ 16) : floatBits .quo .f32 (floatOfInt .f32 (r : Int)) 1098907648 = some (fdiv (floatOfInt .f32 (r : Int)) 1098907648) ∧ fdiv (floatOfInt .f32 (r : Int)) 1098907648 ≤ 1065353216 := tone_of (R := 16) hr (by decide +kernel) (by decide) (by decide) (by decide +kernel)

theorem tone1000 {r : Nat} (hr : r ≤ 1000) : floatBits .quo .f32 (floatOfInt .f32 (r : Int)) 1148846080 = some (fdiv (floatOfInt .f32 (r : Int)) 1148846080) ∧ fdiv (floatOfInt .f32 (r : Int)) 1148846080 ≤ 1065353216 := tone_of (R := 1000) hr (by decide +kernel) (by decide) (by decide) (by decide +kernel)

theorem tone24 {r : Nat} (hr : r ≤ 16777216) : floatBits .quo .f32 (floatOfInt .f32 (r : Int)) 1266679808 = some (fdiv (floatOfInt .f32 (r : Int)) 1266679808) ∧ fdiv (floatOfInt .f32 (r : Int)) 1266679808 ≤ 1065353216 := tone_of (R := 16777216) hr (by decide +kernel) (by decide) (by decide) (by decide +kernel)

set_option maxRecDepth 100000 in
set_option maxHeartbeats 2000000 in
theorem l01Raw_any (b n m : Nat) (v : Value) (hm : m ≤ 800000) (V : World) (h : SrcAt V b v n m) :
    Calls Tryz.prog 27 #[.pointer (some ⟨b, 0, none⟩)] V fun e V' => (∃ r : Nat, e = .returned (.int .u32 (r : Int)) ∧ r < 4294967296) ∧ SrcAt V' b v n (m + 4) ∧ V.grownBy V' (some b) := by
  have HP1 := Lib.hid (fun V h => pick_any b n m v (by omega) 65536 (by decide) (by decide) V h)
  have HP2 := Lib.hid (fun V h => pick_any b n (m + 2) v (by omega) 65536 (by decide) (by decide) V h)
  have HS := Lib.hid h
  clear h
  go_enter Tryz.func27, Tryz.ntmps27
  go_upto_region 2 with (go_at_call 58; refine (HP1.out _ HS.out).mono ?_; rintro e W1 ⟨⟨x, rfl, x0, x1⟩, hs1, hg1⟩)
  have HS1 := Lib.hid hs1
  obtain ⟨p, rfl⟩ := Int.eq_ofNat_of_zero_le x0
  have hw1 : IntKind.u32.wrap (p : Int) = (p : Int) := by rw [IntWalk.u32_in _ (by omega)]
  have hw3 : IntKind.u32.wrap ((p : Int) * 65536) = (p : Int) * 65536 := by rw [IntWalk.u32_in _ (by omega)]
  have hw4 : IntKind.u32.wrap ((p : Int) * 2 ^ 16) = (p : Int) * 2 ^ 16 := by rw [IntWalk.u32_in _ (by omega)]
  go_wp2_with (go_at_call 58; refine (HP2.out _ HS1.out).mono ?_; rintro e W2 ⟨⟨y, rfl, y0, y1⟩, hs2, hg2⟩)
  go_ret
  obtain ⟨q, rfl⟩ := Int.eq_ofNat_of_zero_le y0
  have e : bits .or .u32 ((p : Int) * 65536) (q : Int) = ((p * 65536 ||| q : Nat) : Int) := by
    have := u32_or_nat (p * 65536) q (by omega) (by omega)
    rw [Int.natCast_mul] at this
    exact this
  refine ⟨⟨p * 65536 ||| q, ?_, Nat.or_lt_two_pow (n := 32) (by omega) (by omega)⟩, hs2, grown_t hg1 hg2⟩
  show Ending.returned (.int .u32 (bits .or .u32 ((p : Int) * 65536) (q : Int))) = _
  rw [e]

set_option maxRecDepth 100000 in
set_option maxHeartbeats 2000000 in
theorem l01Tone_any (b n m : Nat) (v : Value) (hm : m ≤ 700000) (V : World) (h : SrcAt V b v n m) :
    Calls Tryz.prog 29 #[.pointer (some ⟨b, 0, none⟩)] V fun e V' => (∃ z : Nat, e = .returned (.float .f32 z) ∧ z ≤ 1065353216) ∧ SrcAt V' b v n (m + 6) ∧ V.grownBy V' (some b) := by
  have HP1 := Lib.hid (fun V h => pick_any b n m v (by omega) 4 (by decide) (by decide) V h)
  have HP2 := Lib.hid (fun V h => pick_any b n (m + 2) v (by omega) 17 (by decide) (by decide) V h)
  have HP3 := Lib.hid (fun V h => pick_any b n (m + 2) v (by omega) 1001 (by decide) (by decide) V h)
  have HRW := Lib.hid (fun V h => l01Raw_any b n (m + 2) v (by omega) V h)
  have HS := Lib.hid h
  clear h
  go_enter Tryz.func29, Tryz.ntmps29
  go_upto_region 2 with (go_at_call 58; refine (HP1.out _ HS.out).mono ?_; rintro e W1 ⟨⟨x, rfl, x0, x1⟩, hs1, hg1⟩)
  have HS1 := Lib.hid hs1
  by_cases c0 : x = 0
  · subst c0
    go_wp2_with (go_at_call 58; refine (HP2.out _ HS1.out).mono ?_; rintro e W2 ⟨⟨y, rfl, y0, y1⟩, hs2, hg2⟩; obtain ⟨p, rfl⟩ := Int.eq_ofNat_of_zero_le y0; have hp : p ≤ 16 := (by omega); have rq : ∀ T w, (binOp .quo T (.float .f32 (floatOfInt .f32 (p : Int))) (.float .f32 1098907648)).run Tryz.prog w = .ok (.float .f32 (fdiv (floatOfInt .f32 (p : Int)) 1098907648)) w := (fun T w => run_float_arith w .quo T .f32 _ _ _ (tone16 hp).1))
    go_ret
    exact ⟨⟨_, rfl, (tone16 hp).2⟩, src_mono hs2 (by omega), grown_t hg1 hg2⟩
  · have z0 : (x == 0) = false := by simpa using c0
    by_cases c1 : x = 1
    · subst c1
      go_wp2_with (go_at_call 58; refine (HP3.out _ HS1.out).mono ?_; rintro e W2 ⟨⟨y, rfl, y0, y1⟩, hs2, hg2⟩; obtain ⟨p, rfl⟩ := Int.eq_ofNat_of_zero_le y0; have hp : p ≤ 1000 := (by omega); have rq : ∀ T w, (binOp .quo T (.float .f32 (floatOfInt .f32 (p : Int))) (.float .f32 1148846080)).run Tryz.prog w = .ok (.float .f32 (fdiv (floatOfInt .f32 (p : Int)) 1148846080)) w := (fun T w => run_float_arith w .quo T .f32 _ _ _ (tone1000 hp).1))
      go_ret
      exact ⟨⟨_, rfl, (tone1000 hp).2⟩, src_mono hs2 (by omega), grown_t hg1 hg2⟩
    · have z1 : (x == 1) = false := by simpa using c1
      go_wp2_with (go_at_call 27; refine (HRW.out _ HS1.out).mono ?_; rintro e W2 ⟨⟨r, rfl, hr⟩, hs2, hg2⟩; have h9 := (tone24 (r := r / 256) (by omega)).1; rw [Int.natCast_ediv] at h9; have rq : ∀ T w, (binOp .quo T (.float .f32 (floatOfInt .f32 ((r : Int) / 256))) (.float .f32 1266679808)).run Tryz.prog w = .ok (.float .f32 (fdiv (floatOfInt .f32 ((r : Int) / 256)) 1266679808)) w := (fun T w => run_float_arith w .quo T .f32 _ _ _ h9))
      go_ret
      refine ⟨⟨_, rfl, ?_⟩, src_mono hs2 (by omega), grown_t hg1 hg2⟩
      have h8 := (tone24 (r := r / 256) (by omega)).2
      rw [Int.natCast_ediv] at h8
      exact h8

end Go.Proofs.YtmbgmpeiicjlaaaGreatDoor

namespace Go.Proofs.YtmbgmpeiicjlaaaGreatDoor

open Go.RowKit

def Sized (z : Nat) : Prop := 1031798784 ≤ z ∧ z ≤ 1115684864

theorem sized16 {k : Nat} (h0 : 1 ≤ k) (h1 : k ≤ 64) : floatBits .quo .f32 (floatOfInt .f32 (k : Int)) 1098907648 = some (fdiv (floatOfInt .f32 (k : Int)) 1098907648) ∧ Sized (fdiv (floatOfInt .f32 (k : Int)) 1098907648) := by
  have hm := ofNat_mono h1
  have hl := ofNat_mono h0
  have hR : floatOfInt .f32 ((64 : Nat) : Int) < 2139095040 := by decide +kernel
  have e1 : fdiv (floatOfInt .f32 ((64 : Nat) : Int)) 1098907648 ≤ 1115684864 := by decide +kernel
  have e2 : 1031798784 ≤ fdiv (floatOfInt .f32 ((1 : Nat) : Int)) 1098907648 := by decide +kernel
  exact ⟨(div_rnd (by omega) (by decide) (by decide)).1, Nat.le_trans e2 (div_mono (by omega) (by decide) (by decide) hl (Nat.le_refl _)), Nat.le_trans (div_mono hR (by decide) (by decide) hm (Nat.le_refl _)) e1⟩

theorem sized21 {k : Nat} (h1 : k ≤ 16777216) : floatBits .quo .f32 (floatOfInt .f32 (k : Int)) 1241513984 = some (fdiv (floatOfInt .f32 (k : Int)) 1241513984) ∧ floatBits .add .f32 1031798784 (fdiv (floatOfInt .f32 (k : Int)) 1241513984) = some (fadd 1031798784 (fdiv (floatOfInt .f32 (k : Int)) 1241513984)) ∧ Sized (fadd 1031798784 (fdiv (floatOfInt .f32 (k : Int)) 1241513984)) := by
  have hm := ofNat_mono h1
  have hR : floatOfInt .f32 ((16777216 : Nat) : Int) < 2139095040 := by decide +kernel
  have e1 : fdiv (floatOfInt .f32 ((16777216 : Nat) : Int)) 1241513984 ≤ 1090519040 := by decide +kernel
  have e2 : fadd 1031798784 1090519040 ≤ 1115684864 := by decide +kernel
  have e3 : 1031798784 ≤ fadd 1031798784 0 := by decide +kernel
  have hq := Nat.le_trans (div_mono (y := 1241513984) (Y := 1241513984) hR (by decide) (by decide) hm (Nat.le_refl _)) e1
  exact ⟨(div_rnd (by omega) (by decide) (by decide)).1, (add_rnd (by decide) (by omega)).1, Nat.le_trans e3 (add_mono (by decide) (by omega) (Nat.le_refl _) (Nat.zero_le _)), Nat.le_trans (add_mono (by decide) (by decide) (Nat.le_refl _) hq) e2⟩

set_option maxRecDepth 100000 in
set_option maxHeartbeats 2000000 in
theorem l02Sized_any (b n m : Nat) (v : Value) (hm : m ≤ 700000) (V : World) (h : SrcAt V b v n m) :
    Calls Tryz.prog 59 #[.pointer (some ⟨b, 0, none⟩)] V fun e V' => (∃ z : Nat, e = .returned (.float .f32 z) ∧ Sized z) ∧ SrcAt V' b v n (m + 6) ∧ V.grownBy V' (some b) := by
  have HON := Lib.hid (fun V h => one_any b n m v (by omega) 3 (by decide) (by decide) V h)
  have HP2 := Lib.hid (fun V h => pick_any b n (m + 2) v (by omega) 64 (by decide) (by decide) V h)
  have HRW := Lib.hid (fun V h => l01Raw_any b n (m + 2) v (by omega) V h)
  have HS := Lib.hid h
  clear h
  go_enter Tryz.func59, Tryz.ntmps59
  go_upto_region 2 with (go_at_call 72; refine (HON.out _ HS.out).mono ?_; rintro e W1 ⟨⟨rb, rfl⟩, hs1, hg1⟩)
  all_goals have HS1 := Lib.hid hs1
  · go_wp2_with (go_at_call 58; refine (HP2.out _ HS1.out).mono ?_; rintro e W2 ⟨⟨y, rfl, y0, y1⟩, hs2, hg2⟩; obtain ⟨p, rfl⟩ := Int.eq_ofNat_of_zero_le y0; have hw : IntKind.i64.wrap (1 + (p : Int)) = 1 + (p : Int) := (by rw [IntWalk.i64_in _ (by omega)]); have hz := sized16 (k := 1 + p) (by omega) (by omega); rw [Int.natCast_add] at hz; have rq : ∀ T w, (binOp .quo T (.float .f32 (floatOfInt .f32 (1 + (p : Int)))) (.float .f32 1098907648)).run Tryz.prog w = .ok (.float .f32 (fdiv (floatOfInt .f32 (1 + (p : Int))) 1098907648)) w := (fun T w => run_float_arith w .quo T .f32 _ _ _ hz.1))
    go_ret
    exact ⟨⟨_, rfl, hz.2⟩, src_mono hs2 (by omega), grown_t hg1 hg2⟩
  · go_wp2_with (go_at_call 27; refine (HRW.out _ HS1.out).mono ?_; rintro e W2 ⟨⟨r, rfl, hr⟩, hs2, hg2⟩; have hz := sized21 (k := r / 256) (by omega); rw [Int.natCast_ediv] at hz; have rq : ∀ T w, (binOp .quo T (.float .f32 (floatOfInt .f32 ((r : Int) / 256))) (.float .f32 1241513984)).run Tryz.prog w = .ok (.float .f32 (fdiv (floatOfInt .f32 ((r : Int) / 256)) 1241513984)) w := (fun T w => run_float_arith w .quo T .f32 _ _ _ hz.1); have ra : ∀ T w, (binOp .add T (.float .f32 1031798784) (.float .f32 (fdiv (floatOfInt .f32 ((r : Int) / 256)) 1241513984))).run Tryz.prog w = .ok (.float .f32 (fadd 1031798784 (fdiv (floatOfInt .f32 ((r : Int) / 256)) 1241513984))) w := (fun T w => run_float_arith w .add T .f32 _ _ _ hz.2.1))
    go_ret
    exact ⟨⟨_, rfl, hz.2.2⟩, src_mono hs2 (by omega), grown_t hg1 hg2⟩

end Go.Proofs.YtmbgmpeiicjlaaaGreatDoor

namespace Go.Proofs.YtmbgmpeiicjlaaaGreatDoor

open Go.RowKit

attribute [local go_sem] run_store_float

theorem src_kept {V V' : World} {b n m : Nat} {v : Value} {row : Option Nat} (h : SrcAt V b v n m) (hg : V.grownBy V' row) (hr : ∀ g, row = some g → b < g) : SrcAt V' b v n m := by
  obtain ⟨hB, x, y, h0, h1, h2, h3, h4⟩ := h
  obtain ⟨a, cap, e1, e2, e3, e4⟩ := hB
  refine ⟨⟨a, cap, e1, e2, e3, fun i hi => ?_⟩, x, y, h0, h1, h2, h3, (hg.block b (row_lt h4) (fun e => by have := hr b e.symm; omega)).trans h4⟩
  obtain ⟨g, o, z, e, hgb, z0, z1, hc⟩ := e4 i hi
  have hlt := World.block_lt_of_cell? _ _ hc
  exact ⟨g, o, z, e, hgb, z0, z1, (World.cell?_of_block (hg.block g hlt (fun e => by have := hr g e.symm; omega))).trans hc⟩

theorem row_grown {V V' : World} {b g : Nat} {o : Obj} (h : V.heap[g]? = some o) (hg : V.grownBy V' (some b)) (hne : g ≠ b) : V'.heap[g]? = some o :=
  (hg.block g (row_lt h) (fun e => hne (by injection e))).trans h

theorem grown_wide {A B : World} {r : Option Nat} (h : A.grownBy B none) : A.grownBy B r := ⟨h.os, h.tape, h.output, h.size, fun k hk _ => h.block k hk (by simp)⟩

theorem grown_new {V W W' : World} {b : Nat} {r : Nat} (h : V.grownBy W (some b)) (k : W.grownBy W' (some r)) (hr : V.heap.size ≤ r) : V.grownBy W' (some b) :=
  ⟨k.os.trans h.os, k.tape.trans h.tape, k.output.trans h.output, Nat.le_trans h.size k.size, fun i hi hne => (k.block i (Nat.lt_of_lt_of_le hi h.size) (fun e => by injection e with e; omega)).trans (h.block i hi hne)⟩

theorem alloc_row {W : World} (o : Obj) (cs : Array Value) : W.grownBy ((W.alloc o).setRow W.heap.size cs) none := by
  have h : Below W.heap.size W ((W.alloc o).setRow W.heap.size cs) := below_setRow ((Below.refl _ _).alloc (Nat.le_refl _) _) (Nat.le_refl _) _
  exact ⟨h.os, h.tape, h.output, h.size, fun k hk _ => h.block k hk⟩

set_option maxRecDepth 100000 in
set_option maxHeartbeats 2000000 in
theorem l02Drawn_any (b n m : Nat) (v : Value) (hm : m ≤ 600000) (V : World) (h : SrcAt V b v n m) :
    Calls Tryz.prog 25 #[.pointer (some ⟨b, 0, none⟩)] V fun e V' => (∃ (k : Int) (wd gp : Nat) (t : Int) (sh : Nat), e = .returned (.agg (blindC k wd gp t sh)) ∧ 1 ≤ k ∧ k ≤ 60 ∧ Sized wd ∧ Sized gp ∧ -64 ≤ t ∧ t ≤ 64 ∧ sh ≤ 1065353216) ∧ SrcAt V' b v n (m + 22) ∧ V.grownBy V' (some b) := by
  have HP1 := Lib.hid (fun V h => pick_any b n m v (by omega) 60 (by decide) (by decide) V h)
  have HZ1 := Lib.hid (fun V h => l02Sized_any b n (m + 2) v (by omega) V h)
  have HZ2 := Lib.hid (fun V h => l02Sized_any b n (m + 8) v (by omega) V h)
  have HP2 := Lib.hid (fun V h => pick_any b n (m + 14) v (by omega) 129 (by decide) (by decide) V h)
  have HT := Lib.hid (fun V h => l01Tone_any b n (m + 16) v (by omega) V h)
  have hbl : b < V.heap.size := by obtain ⟨_, _, _, _, _, _, _, hr⟩ := h; exact row_lt hr
  have HS0 := Lib.hid h
  clear h
  go_enter Tryz.func25, Tryz.ntmps25
  go_upto_region 1 with (fail)
  have hga : V.grownBy (V.alloc (.cells (blindC 0 0 0 0 0) 28)) none := World.grownBy_alloc V _ none
  refine abs_code (fun W => W.heap[V.heap.size]? = some (.cells (blindC 0 0 0 0 0) 28 (0, 0)) ∧ SrcAt W b v n m ∧ V.grownBy W (some b)) ⟨heap_alloc_new _ _, src_kept HS0.out hga (fun g e => by cases e), grown_wide hga⟩ ?_
  rintro W ⟨h0, hs, hg⟩
  have H0 := Lib.hid h0
  have HS := Lib.hid hs
  have HG := Lib.hid hg
  have hne0 : V.heap.size ≠ b := by omega
  generalize hg0 : V.heap.size = g0 at *
  clear h0 hs hg HS0 hga
  go_upto_region 2 with (first | (go_at_call 58; refine (HP1.out _ HS.out).mono ?_; rintro e W1 ⟨⟨y, rfl, y0, y1⟩, hs1, hg1⟩; replace HS := Lib.hid hs1; replace HG := Lib.hid (grown_t HG.out hg1); replace H0 := Lib.hid (row_grown H0.out hg1 hne0); clear hs1 hg1; obtain ⟨p, rfl⟩ := Int.eq_ofNat_of_zero_le y0; have hw : IntKind.i64.wrap (1 + (p : Int)) = 1 + (p : Int) := (by rw [IntWalk.i64_in _ (by omega)]); have hw8 : IntKind.i8.wrap (1 + (p : Int)) = 1 + (p : Int) := (by rw [IntWalk.i8_in _ (by omega)])) | (go_at_call 59; refine (HZ1.out _ HS.out).mono ?_; rintro e W2 ⟨⟨z, rfl, hz⟩, hs1, hg1⟩; replace HS := Lib.hid hs1; replace HG := Lib.hid (grown_t HG.out hg1); replace H0 := Lib.hid (row_grown H0.out hg1 hne0); clear hs1 hg1; have HBI : Hid (Tryz.prog.built 28 [(0, .int .i8 (1 + (p : Int))), (1, .float .f32 z)] = some (blindC (1 + (p : Int)) z 0 0 0)) := (by unfold Hid; kernel_rfl)) | (refine wpList_buildL rfl 28 _ rfl _ rfl [(0, .int .i8 (1 + (p : Int))), (1, .float .f32 z)] rfl (blindC (1 + (p : Int)) z 0 0 0) HBI.out ?_) | (refine wpList_store_part rfl 28 _ _ rfl _ 0 (blindC (1 + (p : Int)) z 0 0 0) rfl rfl 28 _ (heap_alloc_new _ _) info_blind (Nat.le_refl _) (by intro u hu; simp only [blindC, List.mem_toArray, List.mem_cons, List.not_mem_nil, or_false] at hu; rcases hu with rfl | rfl | rfl | rfl | rfl <;> rfl) ?_; rw [laid_all _ _ (by rfl)]))
  have hl3 : g0 < W2.heap.size := row_lt H0.out
  refine abs_code (fun X => X.heap[g0]? = some (.cells (blindC 0 0 0 0 0) 28 (0, 0)) ∧ X.heap[W2.heap.size]? = some (.cells (blindC (1 + (p : Int)) z 0 0 0) 28 (0, 0)) ∧ SrcAt X b v n (m + 8) ∧ V.grownBy X (some b)) ⟨((alloc_row _ _).block _ (row_lt H0.out) (by simp)).trans H0.out, setRow_heap _ _ _ _ _ _ (heap_alloc_new _ _), src_kept HS.out (alloc_row _ _) (fun g e => by cases e), grown_t HG.out (grown_wide (alloc_row _ _))⟩ ?_
  clear H0 HS HG HBI hw hw8
  generalize W2.heap.size = g3 at *
  rintro X ⟨h0, h3, hs, hg⟩
  have hne3 : g3 ≠ b := by omega
  have H0 := Lib.hid h0
  have H3 := Lib.hid h3
  have HS := Lib.hid hs
  have HG := Lib.hid hg
  clear h0 h3 hs hg
  go_upto_region 3 with (go_at_call 59; refine (HZ2.out _ HS.out).mono ?_; rintro e W3 ⟨⟨z2, rfl, hz2⟩, hs1, hg1⟩; replace HS := Lib.hid hs1; replace HG := Lib.hid (grown_t HG.out hg1); replace H0 := Lib.hid (row_grown H0.out hg1 hne0); replace H3 := Lib.hid (row_grown H3.out hg1 hne3); have f3 := frozen_of_row _ g3 2 _ _ H3.out; obtain ⟨q0, q1, q2, q3, q4⟩ := blind_cells H3.out; clear hs1 hg1)
  refine abs_code (fun Y => Y.heap[g0]? = some (.cells (blindC 0 0 0 0 0) 28 (0, 0)) ∧ Y.heap[g3]? = some (.cells (blindC (1 + (p : Int)) z z2 0 0) 28 (0, 0)) ∧ SrcAt Y b v n (m + 14) ∧ V.grownBy Y (some b)) ⟨(heap_setCell_other _ _ _ _ (by simp; omega)).trans H0.out, by rw [heap_setCell_same _ _ _ _ _ _ H3.out]; rfl, src_kept HS.out (grown_set (b := g3) (o := 2) _) (fun g e => by injection e with e; omega), grown_new HG.out (grown_set (b := g3) (o := 2) _) (by omega)⟩ ?_
  clear H0 H3 HS HG f3 q0 q1 q2 q3 q4
  rintro Y3 ⟨h0, h3, hs, hg⟩
  have H0 := Lib.hid h0
  have H3 := Lib.hid h3
  have HS := Lib.hid hs
  have HG := Lib.hid hg
  clear h0 h3 hs hg
  go_upto_region 4 with (go_at_call 58; refine (HP2.out _ HS.out).mono ?_; rintro e W4 ⟨⟨y, rfl, t0, t1⟩, hs1, hg1⟩; replace HS := Lib.hid hs1; replace HG := Lib.hid (grown_t HG.out hg1); replace H0 := Lib.hid (row_grown H0.out hg1 hne0); replace H3 := Lib.hid (row_grown H3.out hg1 hne3); have f3 := frozen_of_row _ g3 3 _ _ H3.out; obtain ⟨q0, q1, q2, q3, q4⟩ := blind_cells H3.out; clear hs1 hg1; have hw1 : IntKind.i64.wrap (y - 64) = y - 64 := (by rw [IntWalk.i64_in _ (by omega)]); have hw2 : IntKind.i16.wrap (y - 64) = y - 64 := (by rw [IntWalk.i16_in _ (by omega)]))
  refine abs_code (fun Y => Y.heap[g0]? = some (.cells (blindC 0 0 0 0 0) 28 (0, 0)) ∧ Y.heap[g3]? = some (.cells (blindC (1 + (p : Int)) z z2 (y - 64) 0) 28 (0, 0)) ∧ SrcAt Y b v n (m + 16) ∧ V.grownBy Y (some b)) ⟨(heap_setCell_other _ _ _ _ (by simp; omega)).trans H0.out, by rw [heap_setCell_same _ _ _ _ _ _ H3.out]; rfl, src_kept HS.out (grown_set (b := g3) (o := 3) _) (fun g e => by injection e with e; omega), grown_new HG.out (grown_set (b := g3) (o := 3) _) (by omega)⟩ ?_
  clear H0 H3 HS HG f3 q0 q1 q2 q3 q4
  rintro Y4 ⟨h0, h3, hs, hg⟩
  have H0 := Lib.hid h0
  have H3 := Lib.hid h3
  have HS := Lib.hid hs
  have HG := Lib.hid hg
  clear h0 h3 hs hg
  go_upto_region 5 with (go_at_call 29; refine (HT.out _ HS.out).mono ?_; rintro e W5 ⟨⟨z4, rfl, hz4⟩, hs1, hg1⟩; replace HS := Lib.hid hs1; replace HG := Lib.hid (grown_t HG.out hg1); replace H0 := Lib.hid (row_grown H0.out hg1 hne0); replace H3 := Lib.hid (row_grown H3.out hg1 hne3); have f3 := frozen_of_row _ g3 4 _ _ H3.out; obtain ⟨q0, q1, q2, q3, q4⟩ := blind_cells H3.out; clear hs1 hg1)
  refine abs_code (fun Y => Y.heap[g0]? = some (.cells (blindC 0 0 0 0 0) 28 (0, 0)) ∧ Y.heap[g3]? = some (.cells (blindC (1 + (p : Int)) z z2 (y - 64) z4) 28 (0, 0)) ∧ SrcAt Y b v n (m + 22) ∧ V.grownBy Y (some b)) ⟨(heap_setCell_other _ _ _ _ (by simp; omega)).trans H0.out, by rw [heap_setCell_same _ _ _ _ _ _ H3.out]; rfl, src_kept HS.out (grown_set (b := g3) (o := 4) _) (fun g e => by injection e with e; omega), grown_new HG.out (grown_set (b := g3) (o := 4) _) (by omega)⟩ ?_
  clear H0 H3 HS HG f3 q0 q1 q2 q3 q4
  rintro Y5 ⟨h0, h3, hs, hg⟩
  have H0 := Lib.hid h0
  have H3 := Lib.hid h3
  have HS := Lib.hid hs
  have HG := Lib.hid hg
  clear h0 h3 hs hg
  go_wp2_with (first | (refine wpList_load_part rfl 28 _ rfl g3 0 5 rfl 28 (blindC (1 + (p : Int)) z z2 (y - 64) z4) (0, 0) _ H3.out Tryz.underlying28 rfl info_blind (blind_fits _ _ _ _ _) _ (blind_all _ _ _ _ _) ?_) | (refine wpList_store_part rfl 28 _ _ rfl g0 0 (blindC (1 + (p : Int)) z z2 (y - 64) z4) rfl rfl 28 (blindC 0 0 0 0 0) H0.out info_blind (Nat.le_refl _) (by intro u hu; simp only [blindC, List.mem_toArray, List.mem_cons, List.not_mem_nil, or_false] at hu; rcases hu with rfl | rfl | rfl | rfl | rfl <;> rfl) ?_; rw [laid_all _ _ (by rfl)]))
  have hsr : Y5.grownBy (Y5.setRow g0 (blindC (1 + (p : Int)) z z2 (y - 64) z4)) (some g0) := ⟨rfl, rfl, rfl, by simp, fun k _ hk => setRow_other _ _ _ _ (fun e => hk (congrArg some e))⟩
  refine bodyPost_ret (v := .agg (blindC (1 + (p : Int)) z z2 (y - 64) z4)) (results_cell_row rfl _ _ _ _ _ _ _ rfl (setRow_heap _ _ _ _ _ _ H0.out) Tryz.underlying28 rfl info_blind) rfl ?_
  exact ⟨⟨_, _, _, _, _, rfl, by omega, by omega, hz, hz2, by omega, by omega, hz4⟩, src_kept HS.out hsr (fun g e => by injection e with e; omega), grown_new HG.out hsr (by omega)⟩

end Go.Proofs.YtmbgmpeiicjlaaaGreatDoor

namespace Go.Proofs.YtmbgmpeiicjlaaaGreatDoor

open Go.RowKit

attribute [local go_sem] run_store_float

theorem bytes_below {V V' : World} {B B' n : Nat} {v : Value} (h : BytesAt V B v n) (hb : Below V.heap.size V V') (hB : B ≤ B') : BytesAt V' B' v n := by
  obtain ⟨a, cap, e1, e2, e3, e4⟩ := h
  refine ⟨a, cap, e1, e2, e3, fun i hi => ?_⟩
  obtain ⟨g, o, z, e, hgb, z0, z1, hc⟩ := e4 i hi
  exact ⟨g, o, z, e, by omega, z0, z1, (hb.cell (p := ⟨g, o + i, none⟩) (World.block_lt_of_cell? _ _ hc)).trans hc⟩

theorem below_grown {A B C : World} {b : Nat} (h : Below A.heap.size A B) (k : B.grownBy C (some b)) (hb : A.heap.size ≤ b) : Below A.heap.size A C :=
  h.grown k h.size (fun j e => by injection e with e; omega)

set_option maxRecDepth 100000 in
set_option maxHeartbeats 2000000 in
theorem A2Part_any (n cap : Nat) (a : Option Addr) (V : World) (h : BytesAt V V.heap.size (.slice a n cap) n) :
    Calls Tryz.prog 8 #[.slice a n cap] V fun e V' => (∃ z : Nat, e = .returned (.float .f32 z) ∧ z ≤ 1065353216) ∧ Below V.heap.size V V' := by
  have HFR := Lib.hid (fun V h => l00From_any n cap a V h)
  have HT := Lib.hid (fun b V h => l01Tone_any b n 0 (.slice a n cap) (by decide) V h)
  have HBY := Lib.hid h
  clear h
  go_enter Tryz.func8, Tryz.ntmps8
  go_wp2_with (first | (go_at_call 26; refine (HFR.out _ HBY.out).mono ?_; rintro e W1 ⟨rfl, hs1, hb1⟩) | (go_at_call 29; refine (HT.out _ _ hs1).mono ?_; rintro e W2 ⟨⟨z, rfl, hz⟩, hs2, hg2⟩))
  go_ret
  exact ⟨⟨_, rfl, hz⟩, below_grown hb1 hg2 (Nat.le_refl _)⟩

set_option maxRecDepth 100000 in
set_option maxHeartbeats 2000000 in
theorem A2Blind_any (n cap : Nat) (a : Option Addr) (V : World) (h : BytesAt V V.heap.size (.slice a n cap) n) :
    Calls Tryz.prog 5 #[.slice a n cap] V fun e V' => (∃ (k : Int) (wd gp : Nat) (t : Int) (sh : Nat), e = .returned (.agg (blindC k wd gp t sh)) ∧ 1 ≤ k ∧ k ≤ 60 ∧ Sized wd ∧ Sized gp ∧ -64 ≤ t ∧ t ≤ 64 ∧ sh ≤ 1065353216) ∧ Below V.heap.size V V' := by
  have HFR := Lib.hid (fun V h => l00From_any n cap a V h)
  have HT := Lib.hid (fun b V h => l02Drawn_any b n 0 (.slice a n cap) (by decide) V h)
  have HB0 := Lib.hid h
  clear h
  go_enter Tryz.func5, Tryz.ntmps5
  go_upto_region 1 with (fail)
  refine abs_code (fun W => W.heap[V.heap.size]? = some (.cells (blindC 0 0 0 0 0) 28 (0, 0)) ∧ Below V.heap.size V W) ⟨heap_alloc_new _ _, (Below.refl _ _).alloc (Nat.le_refl _) _⟩ ?_
  rintro W ⟨h0, hb⟩
  have H0 := Lib.hid h0
  have HBY := Lib.hid (bytes_below HB0.out hb hb.size)
  have hl0 := row_lt h0
  clear h0 HB0
  go_wp2_with (first | (go_at_call 26; refine (HFR.out _ HBY.out).mono ?_; rintro e W1 ⟨rfl, hs1, hb1⟩) | (go_at_call 25; refine (HT.out _ _ hs1).mono ?_; rintro e W2 ⟨⟨k, wd, gp, t, sh, rfl, hk⟩, hs2, hg2⟩; have H2 := Lib.hid (row_grown (below_row hb1 H0.out) hg2 (by omega)); have hb2 := below_grown hb1 hg2 (Nat.le_refl _)) | (refine wpList_store_part rfl 28 _ _ rfl V.heap.size 0 (blindC k wd gp t sh) rfl rfl 28 (blindC 0 0 0 0 0) H2.out info_blind (Nat.le_refl _) (by intro u hu; simp only [blindC, List.mem_toArray, List.mem_cons, List.not_mem_nil, or_false] at hu; rcases hu with rfl | rfl | rfl | rfl | rfl <;> rfl) ?_; rw [laid_all _ _ (by rfl)]))
  refine bodyPost_ret (v := .agg (blindC k wd gp t sh)) (results_cell_row rfl _ _ _ _ _ _ _ rfl (setRow_heap _ _ _ _ _ _ H2.out) Tryz.underlying28 rfl info_blind) rfl ?_
  exact ⟨⟨_, _, _, _, _, rfl, hk⟩, below_setRow (hb.trans (hb2.mono hb.size)) (Nat.le_refl _) _⟩

set_option maxRecDepth 100000 in
set_option maxHeartbeats 2000000 in
theorem a2Long_any (n cap n' cap' : Nat) (a a' : Option Addr) (V : World) :
    Calls Tryz.prog 4 #[.slice a n cap, .slice a' n' cap'] V fun e V' => e = .returned (.bool (decide (3000 < n) || decide (3000 < n'))) ∧ V = V' := by
  by_cases h : (n : Int) > 3000
  · have e1 : decide (3000 < n) = true := decide_eq_true (by omega)
    have z1 : decide ((n : Int) > 3000) = true := decide_eq_true h
    rw [e1]
    go_enter Tryz.func4, Tryz.ntmps4
    go_wp2
    go_ret
    exact ⟨rfl, rfl⟩
  · have e1 : decide (3000 < n) = false := decide_eq_false (by omega)
    have z1 : decide ((n : Int) > 3000) = false := decide_eq_false h
    rw [e1, Bool.false_or]
    by_cases h2 : (n' : Int) > 3000
    · have e2 : decide (3000 < n') = true := decide_eq_true (by omega)
      have z2 : decide ((n' : Int) > 3000) = true := decide_eq_true h2
      rw [e2]
      go_enter Tryz.func4, Tryz.ntmps4
      go_wp2
      go_ret
      exact ⟨rfl, rfl⟩
    · have e2 : decide (3000 < n') = false := decide_eq_false (by omega)
      have z2 : decide ((n' : Int) > 3000) = false := decide_eq_false h2
      rw [e2]
      go_enter Tryz.func4, Tryz.ntmps4
      go_wp2
      go_ret
      exact ⟨rfl, rfl⟩

set_option maxRecDepth 100000 in
set_option maxHeartbeats 2000000 in
theorem a2At_any (n cap : Nat) (a : Option Addr) (at' k : Int) (h0 : 0 ≤ at') (k0 : 1 ≤ k) (k1 : k ≤ 65536) (B : Nat) (V : World) (h : BytesAt V B (.slice a n cap) n) :
    Calls Tryz.prog 7 #[.slice a n cap, .int .i64 at', .int .i64 k] V fun e V' => (∃ r : Int, e = .returned (.int .i64 r) ∧ 0 ≤ r ∧ r < k) ∧ V = V' := by
  obtain ⟨a1, cap1, e1, e2, e3, e4⟩ := h
  injection e1 with ea _ ec
  subst ea ec
  unfold maxLen at e3
  have zk : decide (k < 1) = false := decide_eq_false (by omega)
  have hne : k ≠ 0 := by omega
  by_cases hc : at' ≥ (n : Int)
  · have z1 : decide (at' ≥ (n : Int)) = true := decide_eq_true hc
    clear e4
    go_enter Tryz.func7, Tryz.ntmps7
    go_wp2
    go_ret
    exact ⟨⟨0, rfl, by omega, by omega⟩, rfl⟩
  · have z1 : decide (at' ≥ (n : Int)) = false := decide_eq_false hc
    obtain ⟨i, rfl⟩ := Int.eq_ofNat_of_zero_le h0
    obtain ⟨g, o, x, eg, hgb, x0, x1, hcx⟩ := e4 i (by omega)
    subst eg
    have z2 : (i : Int) < (n : Int) := by omega
    have hwx : IntKind.i64.wrap x = x := by rw [IntWalk.i64_in _ (by omega)]
    have hr : 0 ≤ x % k ∧ x % k < k := ⟨Int.emod_nonneg _ hne, Int.emod_lt_of_pos _ (by omega)⟩
    clear e4
    go_enter Tryz.func7, Tryz.ntmps7
    go_wp2
    go_ret
    exact ⟨⟨_, rfl, hr⟩, rfl⟩

end Go.Proofs.YtmbgmpeiicjlaaaGreatDoor

namespace Go.Proofs.YtmbgmpeiicjlaaaGreatDoor

open Go.RowKit

theorem ge0_pos {x y : Nat} (hx : x < 2139095040) (hy : y < 2139095040) (h : y ≤ x) : ge0 (FloatKind.f32.format.order x y) = true := by
  rw [order_pos hx hy]
  simp only [compare, compareOfLessAndEq]
  rw [if_neg (by omega)]
  split <;> rfl

theorem le0_pos {x y : Nat} (hx : x < 2139095040) (hy : y < 2139095040) (h : x ≤ y) : le0 (FloatKind.f32.format.order x y) = true := by
  rw [order_pos hx hy]
  simp only [compare, compareOfLessAndEq]
  by_cases c : x < y
  · rw [if_pos c]; rfl
  · rw [if_neg c, if_pos (by omega)]; rfl

theorem betw_pos {x lo hi : Nat} (h0 : lo ≤ x) (h1 : x ≤ hi) (h2 : hi < 2139095040) : betw x lo hi = true := by
  unfold betw
  rw [ge0_pos (by omega) (by omega) h0, le0_pos (by omega) h2 h1]
  rfl

theorem sized_len {z : Nat} (h : Sized z) : lenB z = true := betw_pos h.1 h.2 (by decide)

theorem tone_part {z : Nat} (h : z ≤ 1065353216) : partB z = true := betw_pos (Nat.zero_le _) h (by decide)

theorem low_wf {z : Nat} (h : z < 4294967296) : (Lit.float .f32 z).wf = true := by simpa [Lit.wf] using h

theorem drawn_ok {k : Int} {wd gp : Nat} {t : Int} {sh : Nat} (h : 1 ≤ k ∧ k ≤ 60 ∧ Sized wd ∧ Sized gp ∧ -64 ≤ t ∧ t ≤ 64 ∧ sh ≤ 1065353216) : okBl k wd gp t sh = true ∧ BlWf k wd gp t sh := by
  obtain ⟨h1, h2, h3, h4, h5, h6, h7⟩ := h
  constructor
  · unfold okBl
    rw [sized_len h3, sized_len h4, tone_part h7]
    unfold inI
    simp
    omega
  · refine ⟨?_, low_wf (by have := h3.2; omega), low_wf (by have := h4.2; omega), ?_, low_wf (by omega)⟩
    · simp [Lit.wf, IntKind.min, IntKind.max, IntKind.signed, IntKind.bits]; omega
    · simp [Lit.wf, IntKind.min, IntKind.max, IntKind.signed, IntKind.bits]; omega

end Go.Proofs.YtmbgmpeiicjlaaaGreatDoor
