/-
  LitTiles: the model.
-/
import Derived.Test.YtdccmdcgbembpaaDoorLtB
import Derived.Test.YtdccmdcgbembpaaDoorEtI
namespace Go.Proofs.YtdccmdcgbembpaaDoor
open Go.ChangeShapes Go.WideShapes Go.ChangeAt Go.RowKit Go.Deep Go.Joins

attribute [local go_sem] run_store_floatE

set_option maxRecDepth 100000 in
set_option maxHeartbeats 2000000 in
theorem sLit_n (wd hg : Int) (iw : I8 wd) (ih : I8 hg) (sv : Value) (ws : List Wn) (hwf : ∀ x ∈ ws, WnWf x) (le : Nat) (c : Int) (hne : c ≠ 0) (w : World) (hws : WinsAt w sv ws) (hc : codeR (okRm wd hg ws) (fin32 le) = c) :
    Calls Tryd.prog 18 #[.agg (roomC wd hg sv), .float .f32 le] w fun e w' => e = .returned (.tuple #[.agg (u16s zU), .int .i64 c]) ∧ Below w.heap.size w w' := by
  have HAS : Hid (∀ V, V.heap[w.heap.size]? = some (.cells (roomC wd hg sv) 34 (0, 0)) → WinsAt V sv ws → Calls Tryd.prog 55 #[.pointer (some ⟨w.heap.size, 0, none⟩), .bool (fin32 le)] V fun e w' => e = .returned (.int .i64 c) ∧ Below V.heap.size V w') := Lib.hid (fun V q h => by have := l03Asked_any wd hg iw ih sv ws hwf (fin32 le) w.heap.size 34 (0, 0) V q h; rw [hc] at this; exact this)
  have HNM := Lib.hid (fun V => sNumT le V)
  have HW := Lib.hid hws
  have hcn : (c != 0) = true := bne_iff_ne.2 hne
  have HZB : Hid (Tryd.prog.built 42 [] = some (u16s zU)) := by unfold Hid; kernel_rfl
  clear hws hwf iw ih hc
  generalize fin32 le = fl at *
  go_enter Tryd.func18, Tryd.ntmps18
  go_upto_region 1 with (fail)
  refine abs_world (fun V => V.heap[w.heap.size]? = some (.cells (roomC wd hg sv) 34 (0, 0)) ∧ V.heap[w.heap.size + 1]? = some (.cells (u16s zU) 42 (0, 0)) ∧ Below w.heap.size w V) (two_at w (.cells (roomC wd hg sv) 34) (.cells (u16s zU) 42)) ?_
  rintro V ⟨h0, h1, hb⟩
  have H0 := Lib.hid h0
  have H1 := Lib.hid h1
  have HV := Lib.hid (wins_below HW.out hb)
  have n01 : w.heap.size < w.heap.size + 1 := by omega
  have hle1 : w.heap.size ≤ w.heap.size + 1 := by omega
  generalize w.heap.size + 1 = b1 at *
  clear h0 h1
  go_upto_region 2 with (first | (refine wpList_buildTT rfl 42 _ rfl _ rfl [] rfl (u16s zU) HZB.out ?_) | (refine wpList_store_part rfl 42 _ _ rfl _ 0 (u16s zU) rfl rfl 42 _ (heap_alloc_new _ _) (by rw [u16s_size, zU_len]; exact info_u16) (by rw [u16s_size, zU_len]; decide) (u16s_one _) ?_; rw [laid_allwE _ _ (by rfl)]))
  refine abs_world (fun X => X.heap[w.heap.size]? = some (.cells (roomC wd hg sv) 34 (0, 0)) ∧ X.heap[b1]? = some (.cells (u16s zU) 42 (0, 0)) ∧ X.heap[V.heap.size]? = some (.cells (u16s zU) 42 (0, 0)) ∧ Below w.heap.size w X) ⟨below_row (zbelE _ _ _) H0.out, below_row (zbelE _ _ _) H1.out, setRow_heap _ _ _ _ _ _ (heap_alloc_new _ _), below_setRow (hb.alloc hb.size _) hb.size _⟩ ?_
  have hb12 := row_lt H1.out
  have hle2 := hb.size
  clear H0 H1 HV hb
  generalize V.heap.size = b2 at *
  rintro V ⟨h0, h1, h2, hb⟩
  have H0 := Lib.hid h0
  have H1 := Lib.hid h1
  have H2 := Lib.hid h2
  have HV := Lib.hid (wins_below HW.out hb)
  clear h0 h1 h2
  go_wp2_with (first | (go_at_call 56; refine (HNM.out _).mono ?_; rintro e w' ⟨rfl, rfl⟩) | (go_at_call 55; refine (HAS.out _ H0.out HV.out).mono ?_; rintro e W1 ⟨rfl, hb1⟩; replace H2 := Lib.hid (below_row hb1 H2.out); replace H0 := Lib.hid (below_row hb1 H0.out); replace H1 := Lib.hid (below_row hb1 H1.out); replace HV := Lib.hid (wins_below HV.out hb1); replace hb := hb.trans (hb1.mono hb.size); clear hb1) | (refine wpList_load_part rfl 42 _ rfl b2 0 10 rfl 42 (u16s zU) (0, 0) _ H2.out Tryd.underlying42 rfl info_u16 (by rw [u16s_size, zU_len]; decide) (u16s zU) (u16s_all _ 10 zU_len) ?_) | (refine wpList_store_part rfl 42 _ _ rfl b1 0 (u16s zU) rfl rfl 42 (u16s zU) H1.out (by rw [u16s_size, zU_len]; exact info_u16) (Nat.le_refl _) (u16s_one _) ?_; rw [laid_allwE _ _ (by rfl)]))
  refine bodyPost_ret (results_lit rfl _ _ b1 zU zU_len rfl (setRow_heap _ _ _ _ _ _ H1.out)) rfl ?_
  exact ⟨rfl, below_setRow hb hle1 _⟩

set_option maxRecDepth 100000 in
set_option maxHeartbeats 8000000 in
theorem sLit_y (W H : Nat) (hW : 0 < W) (hH : 0 < H) (sv : Value) (ws : List Wn) (hwf : ∀ x ∈ ws, WnWf x) (g : Int × Int → Nat) (hgd : g = fun t => litW (W : Int) (H : Int) t (fun _ => true) ws) (le : Nat) (hn2 : fin32 le = true) (P : Nat → Bool) (hP : P = fun k => enB le (g (tk W H hW hH k).1)) (w : World) (hws : WinsAt w sv ws) (hv : okRm (W : Int) (H : Int) ws = true) :
    Calls Tryd.prog 18 #[.agg (roomC (W : Int) (H : Int) sv), .float .f32 le] w fun e w' => e = .returned (.tuple #[.agg (u16s (litN P W (W * H))), .int .i64 0]) ∧ Below w.heap.size w w' := by
  have ok := okRm_get hv
  have hW1 : W ≤ 10 := by have := ok.w1; omega
  have hH1 : H ≤ 10 := by have := ok.h1; omega
  have iw : I8 (W : Int) := by unfold I8; omega
  have ih : I8 (H : Int) := by unfold I8; omega
  have HAS : Hid (∀ V, V.heap[w.heap.size]? = some (.cells (roomC (W : Int) (H : Int) sv) 34 (0, 0)) → WinsAt V sv ws → Calls Tryd.prog 55 #[.pointer (some ⟨w.heap.size, 0, none⟩), .bool true] V fun e w' => e = .returned (.int .i64 0) ∧ Below V.heap.size V w') := Lib.hid (fun V q h => by have := l03Asked_any (W : Int) (H : Int) iw ih sv ws hwf true w.heap.size 34 (0, 0) V q h; rw [hv] at this; exact this)
  have HNM : Hid (∀ V, Calls Tryd.prog 56 #[.float .f32 le] V fun e w' => e = .returned (.bool true) ∧ V = w') := Lib.hid (fun V => by have := sNumT le V; rw [hn2] at this; exact this)
  have HTI : Hid (∀ V, V.heap[w.heap.size]? = some (.cells (roomC (W : Int) (H : Int) sv) 34 (0, 0)) → Calls Tryd.prog 45 #[.pointer (some ⟨w.heap.size, 0, none⟩)] V fun e w' => (∃ v, e = .returned v ∧ w'.ownsRow V.heap.size 28 2 v (W * H) (tC W (W * H))) ∧ Below V.heap.size V w') := Lib.hid (fun V q => l03Tiles_any W H hW hW1 hH1 sv w.heap.size V q)
  have HLT : Hid (∀ (a1 a2 : Int), inRoom (W : Int) (H : Int) (a1, a2) → ∀ V, V.heap[w.heap.size]? = some (.cells (roomC (W : Int) (H : Int) sv) 34 (0, 0)) → WinsAt V sv ws → Calls Tryd.prog 46 #[.pointer (some ⟨w.heap.size, 0, none⟩), .agg (tileC a1 a2)] V fun e V' => e = .returned (.float .f32 (g (a1, a2))) ∧ Below V.heap.size V V') := by
    rw [hgd]
    exact fun a1 a2 ha V q hV => l03Light_any (W : Int) (H : Int) sv ws ok hwf a1 a2 ha w.heap.size 34 (0, 0) V q hV
  have HW := Lib.hid hws
  have HZB : Hid (Tryd.prog.built 42 [] = some (u16s zU)) := by unfold Hid; kernel_rfl
  have hn0 : 0 < W * H := Nat.mul_pos hW hH
  have hn1 : W * H ≤ 100 := Nat.mul_le_mul hW1 hH1
  have HSP := Lib.hid (fun k (hk : k < W * H) => tk_split W H hW hH hk)
  have HPK : Hid (∀ x y : Nat, x < W → y < H → P (y * W + x) = enB le (g ((x : Int), (y : Int)))) := by rw [hP]; exact fun x y hx hy => by show enB le (g (tk W H hW hH (y * W + x)).1) = _; rw [tk_at W H hW hH hx hy]
  have HLN := Lib.hid (litN_len P W)
  have HST := Lib.hid (fun x y (hx : x < W) => litN_at (P := P) (y := y) hW hx)
  clear hws hv hwf iw ih ok hgd hP hn2
  go_enter Tryd.func18, Tryd.ntmps18
  go_upto_region 1 with (fail)
  refine abs_world (fun V => V.heap[w.heap.size]? = some (.cells (roomC (W : Int) (H : Int) sv) 34 (0, 0)) ∧ V.heap[w.heap.size + 1]? = some (.cells (u16s zU) 42 (0, 0)) ∧ Below w.heap.size w V) (two_at w (.cells (roomC (W : Int) (H : Int) sv) 34) (.cells (u16s zU) 42)) ?_
  rintro V ⟨h0, h1, hb⟩
  have H0 := Lib.hid h0
  have H1 := Lib.hid h1
  have HV := Lib.hid (wins_below HW.out hb)
  have n01 : w.heap.size < w.heap.size + 1 := by omega
  have hle1 : w.heap.size ≤ w.heap.size + 1 := by omega
  generalize w.heap.size + 1 = b1 at *
  clear h0 h1
  go_upto_region 2 with (first | (refine wpList_buildTT rfl 42 _ rfl _ rfl [] rfl (u16s zU) HZB.out ?_) | (refine wpList_store_part rfl 42 _ _ rfl _ 0 (u16s zU) rfl rfl 42 _ (heap_alloc_new _ _) (by rw [u16s_size, zU_len]; exact info_u16) (by rw [u16s_size, zU_len]; decide) (u16s_one _) ?_; rw [laid_allwE _ _ (by rfl)]))
  refine abs_world (fun X => X.heap[w.heap.size]? = some (.cells (roomC (W : Int) (H : Int) sv) 34 (0, 0)) ∧ X.heap[b1]? = some (.cells (u16s zU) 42 (0, 0)) ∧ X.heap[V.heap.size]? = some (.cells (u16s zU) 42 (0, 0)) ∧ Below w.heap.size w X) ⟨below_row (zbelE _ _ _) H0.out, below_row (zbelE _ _ _) H1.out, setRow_heap _ _ _ _ _ _ (heap_alloc_new _ _), below_setRow (hb.alloc hb.size _) hb.size _⟩ ?_
  have hb12 := row_lt H1.out
  have hle2 := hb.size
  clear H0 H1 HV hb
  generalize V.heap.size = b2 at *
  rintro V ⟨h0, h1, h2, hb⟩
  have H0 := Lib.hid h0
  have H1 := Lib.hid h1
  have H2 := Lib.hid h2
  have HV := Lib.hid (wins_below HW.out hb)
  clear h0 h1 h2
  go_upto_region 6 with (first | (go_at_call 56; refine (HNM.out _).mono ?_; rintro e w' ⟨rfl, rfl⟩) | (go_at_call 55; refine (HAS.out _ H0.out HV.out).mono ?_; rintro e W1 ⟨rfl, hb1⟩; replace H2 := Lib.hid (below_row hb1 H2.out); replace H0 := Lib.hid (below_row hb1 H0.out); replace H1 := Lib.hid (below_row hb1 H1.out); replace HV := Lib.hid (wins_below HV.out hb1); replace hb := hb.trans (hb1.mono hb.size); clear hb1) | (go_at_call 45; have l0 := row_lt H0.out; have l1 := row_lt H1.out; have l2 := row_lt H2.out; refine (HTI.out _ H0.out).mono ?_; rintro e W1 ⟨⟨v, rfl, hv0⟩, hb1⟩; have HV0 := Lib.hid hv0; clear hv0; replace H2 := Lib.hid (below_row hb1 H2.out); replace H0 := Lib.hid (below_row hb1 H0.out); replace H1 := Lib.hid (below_row hb1 H1.out); replace HV := Lib.hid (wins_below HV.out hb1); replace hb := hb.trans (hb1.mono hb.size); clear hb1))
  rcases HV0.out.2 with ⟨_, hz⟩ | ⟨gs, cap, cur, rfl, hbg, hg, hnc, hcm, hsz, htk⟩
  · omega
  have hgs0 : w.heap.size < gs := by omega
  have hgs1 : b1 < gs := by omega
  have hgs2 : b2 < gs := by omega
  have HT := Lib.hid hg
  have HTK := Lib.hid htk
  clear hg htk hbg l0 l1 l2 HV0 HTI hsz HZB HAS HNM
  go_wp2
  go_loopw [9] (fun i wr => ∃ k : Nat, k ≤ W * H ∧ i = .int .i64 (k : Int) ∧ wr.heap[w.heap.size]? = some (.cells (roomC (W : Int) (H : Int) sv) 34 (0, 0)) ∧ wr.heap[b1]? = some (.cells (u16s zU) 42 (0, 0)) ∧ wr.heap[b2]? = some (.cells (u16s (litN P W k)) 42 (0, 0)) ∧ TilesAt wr gs cur ∧ Below w.heap.size w wr) (fun i _ => (W * H : Nat) - (intOf i).toNat)
  case atStart => exact ⟨0, Nat.zero_le _, rfl, H0.out, H1.out, H2.out, HT.out, hb⟩
  case round =>
    clear H0 H1 H2 HV HT hb
    obtain ⟨k, hk, rfl, h0, h1, h2, ht, hb⟩ := hrel
    have H0 := Lib.hid h0
    have H1 := Lib.hid h1
    have H2 := Lib.hid h2
    have HT := Lib.hid ht
    have HV := Lib.hid (wins_below HW.out hb)
    clear h0 h1 h2 ht
    by_cases hlt : k < W * H
    · obtain ⟨x, y, hx, hy, hkk, -⟩ := HSP.out k hlt
      have HS := HST.out x y hx
      rw [HPK.out x y hx hy] at HS
      have HLA := Lib.hid (HLT.out (x : Int) (y : Int) ⟨by show (0 : Int) ≤ (x : Int); omega, by show (x : Int) < (W : Int); omega, by show (0 : Int) ≤ (y : Int); omega, by show (y : Int) < (H : Int); omega⟩)
      have HGT := Lib.hid (fun V (h : TilesAt V gs cur) => tiles_get h HTK.out hW hx (by rw [← hkk]; exact hlt))
      have HLK := Lib.hid (HLN.out (y * W + x))
      rw [← hkk] at HS HGT HLK
      unfold enB at HS
      clear hkk
      have z1 : (k : Int) < ((W * H : Nat) : Int) := by omega
      have z2 : (0 : Int) ≤ (k : Int) := by omega
      have z3 : (x : Int) < 10 := by omega
      have z4 : (0 : Int) ≤ (x : Int) := by omega
      have z5 : (y : Int) < 10 := by omega
      have z6 : (0 : Int) ≤ (y : Int) := by omega
      have hpw := pow16 (show x < 10 by omega)
      have hpw2 : (2 : Int) ^ x % 65536 = (2 : Int) ^ x := hpw
      have hwu : IntKind.u64.wrap (x : Int) = (x : Int) := by rw [IntWalk.u64_in _ (by omega)]
      have hy10 : y < 10 := by omega
      clear HSP HST HLN HLT HPK
      generalize hnn : W * H = nn at *
      generalize hmk : litN P W k = mk at *
      generalize g ((x : Int), (y : Int)) = gv at *
      generalize hp : (FloatKind.f32.format.order gv le == some Ordering.gt || FloatKind.f32.format.order gv le == some Ordering.eq) = p at *
      have HSS := Lib.hid HS
      clear hnn hmk HS
      cases p with
      | false =>
        go_wp2_with (first | (refine wpList_load_part rfl 28 _ rfl gs (k * 2) 2 rfl 28 cur (0, 0) _ HT.out Tryd.underlying28 rfl info_tile (HGT.out _ HT.out).2.2.2 (tileC (x : Int) (y : Int)) (HGT.out _ HT.out).2.2.1 ?_) | (go_at_call 46; refine (HLA.out _ H0.out HV.out).mono ?_; rintro e W2 ⟨rfl, hb2⟩; replace H0 := Lib.hid (below_row hb2 H0.out); replace H1 := Lib.hid (below_row hb2 H1.out); replace H2 := Lib.hid (below_row hb2 H2.out); replace HT := Lib.hid (below_row hb2 HT.out); replace hb := hb.trans (hb2.mono hb.size); clear hb2))
        go_roundw
        case rel => exact ⟨k + 1, by omega, by first | (simp; done) | (simp; omega), H0.out, H1.out, by rw [HSS.out]; simpa using H2.out, HT.out, hb⟩
        case measure => simp [intOf]; omega
      | true =>
        go_upto_region 10 with (first | (refine wpList_load_part rfl 28 _ rfl gs (k * 2) 2 rfl 28 cur (0, 0) _ HT.out Tryd.underlying28 rfl info_tile (HGT.out _ HT.out).2.2.2 (tileC (x : Int) (y : Int)) (HGT.out _ HT.out).2.2.1 ?_) | (go_at_call 46; refine (HLA.out _ H0.out HV.out).mono ?_; rintro e W2 ⟨rfl, hb2⟩; replace H0 := Lib.hid (below_row hb2 H0.out); replace H1 := Lib.hid (below_row hb2 H1.out); replace H2 := Lib.hid (below_row hb2 H2.out); replace HT := Lib.hid (below_row hb2 HT.out); replace hb := hb.trans (hb2.mono hb.size); clear hb2))
        have qy := (HGT.out _ HT.out).2.1
        have qx := (HGT.out _ HT.out).1
        have q6 := u16s_cell H2.out y (by rw [HLK.out]; omega)
        have f6 := frozen_of_row W2 b2 y _ _ H2.out
        have HVD : Hid (Below W2.heap.size W2 W2.drew) := Lib.hid (Below.refl W2.heap.size W2).drew
        refine wp_region_still_tail 16 (by kernel_rfl) (by kernel_rfl) ?_
        simp only [List.take_succ_cons, List.take_zero, List.drop_succ_cons, List.drop_zero]
        repeat still_step
        refine wpStill_nil ?_
        go_wp2
        have hbn : Below w.heap.size w (W2.drew.setCell ⟨b2, y, none⟩ (.int .u16 (bits .or .u16 (mk[y]?.getD 0) ((2 : Int) ^ x)))) := (hb.trans (HVD.out.mono hb.size)).setCell (p := ⟨b2, y, none⟩) hle2 _
        go_roundw
        case rel => exact ⟨k + 1, by omega, by first | (simp; done) | (simp; omega), (heap_setCell_other _ _ _ _ (by simp; omega)).trans H0.out, (heap_setCell_other _ _ _ _ (by simp; omega)).trans H1.out, by rw [HSS.out, if_pos trivial]; show (W2.setCell ⟨b2, y, none⟩ _).heap[b2]? = _; rw [heap_setCell_same _ _ _ _ _ _ H2.out, u16s_set], (heap_setCell_other _ _ _ _ (by simp; omega)).trans HT.out, hbn⟩
        case measure => simp [intOf]; omega
    · obtain rfl : k = W * H := by omega
      have LM := Lib.hid (HLN.out (W * H))
      clear hlt hk HSP HST HLN HLT HPK
      have z1 : ¬ (((W * H : Nat) : Int) < ((W * H : Nat) : Int)) := Int.lt_irrefl _
      generalize hlt : litN P W (W * H) = lt at *
      go_wp2_with (first | (refine wpList_load_part rfl 42 _ rfl b2 0 10 rfl 42 (u16s lt) (0, 0) _ H2.out Tryd.underlying42 rfl info_u16 (by rw [u16s_size, LM.out]; decide) (u16s lt) (u16s_all _ 10 LM.out) ?_) | (refine wpList_store_part rfl 42 _ _ rfl b1 0 (u16s lt) rfl rfl 42 (u16s zU) H1.out (by rw [u16s_size, LM.out]; exact info_u16) (by rw [u16s_size, u16s_size, LM.out, zU_len]; decide) (u16s_one _) ?_; rw [laid_allwE _ _ (by rw [u16s_size, u16s_size, LM.out, zU_len])]))
      refine bodyPost_ret (results_lit rfl _ _ b1 lt LM.out rfl (setRow_heap _ _ _ _ _ _ H1.out)) rfl ?_
      exact ⟨rfl, below_setRow hb hle1 _⟩

end Go.Proofs.YtdccmdcgbembpaaDoor
