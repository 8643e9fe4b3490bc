/-
  The mean of the light of all tiles of a room: what reckons, and the program.
-/
import Derived.Test.YtmniodfdoidffaaDoorEtD
namespace Go.Proofs.YtmniodfdoidffaaDoor
open Go.RowKit Go.Shelf

attribute [local go_sem] Oper.semAt_some run_store_floatE

def sumM (g : Nat → Nat) (k : Nat) : Nat := (List.range k).foldl (fun s i => fadd s (g i)) 0

theorem sumM_succ (g : Nat → Nat) (k : Nat) : sumM g (k + 1) = fadd (sumM g k) (g k) := by simp [sumM, List.range_succ]

def capM (k : Nat) : Nat := floatOfInt .f32 ((12 * k : Nat) : Int)

theorem capM_dec : ∀ k : Nat, k < 101 → capM k < 2139095040 ∧ fadd (capM k) (floatOfInt .f32 (12 : Int)) = capM (k + 1) := by decide +kernel

theorem cap12 : floatOfInt .f32 (12 : Int) < 2139095040 := by decide +kernel

theorem sumM_step {s x k : Nat} (hs : s ≤ capM k) (hk : k < 100) (hx : x ≤ floatOfInt .f32 (12 : Int)) : floatBits .add .f32 s x = some (fadd s x) ∧ fadd s x ≤ capM (k + 1) := by
  obtain ⟨c1, c2⟩ := capM_dec k (by omega)
  have h12 := cap12
  exact ⟨(add_rnd (by omega) (by omega)).1, by rw [← c2]; exact add_mono c1 h12 hs hx⟩

theorem sumM_cap (g : Nat → Nat) : ∀ k, k ≤ 100 → (∀ j, j < k → g j ≤ floatOfInt .f32 (12 : Int)) → sumM g k ≤ capM k
  | 0, _, _ => by show (0 : Nat) ≤ _; exact Nat.zero_le _
  | k + 1, hk, h => by
    rw [sumM_succ]
    exact (sumM_step (sumM_cap g k (by omega) (fun j hj => h j (by omega))) (by omega) (h k (by omega))).2

def meanM (s n : Nat) : Nat := fdiv s (floatOfInt .f32 ((n : Nat) : Int))

theorem meanM_ok {s k n : Nat} (hs : s ≤ capM k) (hk : k ≤ 100) (h0 : 0 < n) (h1 : n ≤ 100) : floatBits .quo .f32 s (floatOfInt .f32 ((n : Nat) : Int)) = some (meanM s n) ∧ fin32 (meanM s n) = true := by
  obtain ⟨c1, _⟩ := capM_dec k (by omega)
  obtain ⟨m, rfl⟩ : ∃ m, n = m + 1 := ⟨n - 1, by omega⟩
  obtain ⟨d1, d2⟩ := whole_nat m (by omega)
  have e : ((m + 1 : Nat) : Int) = (m : Int) + 1 := by omega
  unfold meanM
  rw [e]
  refine ⟨(div_rnd (by omega) d1 (by omega)).1, fin_of_lt (Nat.lt_of_le_of_lt (div_mono (x := s) (X := capM k) (Y := 1065353216) c1 d1 (by decide) hs d2) ?_)⟩
  have h : ∀ k : Nat, k < 101 → fdiv (capM k) 1065353216 < 2139095040 := by decide +kernel
  exact h k (by omega)

theorem mpK_get (g : Int × Int → Nat) (W H : Nat) {x y : Nat} (hW1 : W ≤ 10) (hH1 : H ≤ 10) (hx : x < W) (hy : y < H) : (mpK g W H (W * H))[y * 10 + x]?.getD 0 = g ((x : Int), (y : Int)) := by
  have e1 : (y * 10 + x) % 10 = x := by omega
  have e2 : (y * 10 + x) / 10 = y := by omega
  have hk : y * W + x < W * H := by
    have h2 : (y + 1) * W ≤ H * W := Nat.mul_le_mul_right W (by omega)
    rw [Nat.add_mul, Nat.one_mul] at h2
    rw [Nat.mul_comm W H]
    omega
  unfold mpK
  rw [List.getElem?_map, List.getElem?_range (by omega : y * 10 + x < 100)]
  simp only [Option.map_some, Option.getD_some, e1, e2]
  rw [if_pos ⟨hx, hy, hk⟩]

def MnI (W H : Nat) (hW : 0 < W) (hH : 0 < H) (gk : Nat → Nat) (w : World) (sv : Value) (b5 b6 gb : Nat) (mp : List Nat) (pre : List (Tt W H)) (V : World) : Prop :=
  ∃ s : Nat, s ≤ capM pre.length ∧ V.heap[w.heap.size]? = some (.cells (roomC (W : Int) (H : Int) sv) 44 (0, 0)) ∧ V.heap[b5]? = some (.cells (mpC mp) 105 (0, 0)) ∧ V.heap[b6]? = some (.cells #[.float .f32 s] 25 (0, 0)) ∧ V.heap[gb]? = some (.cells (roomC (W : Int) (H : Int) sv) 44 (0, 0)) ∧ (GoodT W H hW hH pre → s = sumM gk pre.length) ∧ Below w.heap.size w V

theorem mnI_own (W H : Nat) (hW : 0 < W) (hH : 0 < H) (gk : Nat → Nat) (w : World) (sv : Value) (b5 b6 gb : Nat) (mp : List Nat) (B : Nat) (hB : w.heap.size ≤ B) : OwnFrom B (MnI W H hW hH gk w sv b5 b6 gb mp) := by
  intro s V V' row ⟨xs, hx, h0, h1, h2, h3, hg, hb⟩ hg' hr
  have hr2 := fun r e => (hr r e).2
  exact ⟨xs, hx, heap_keptWE h0 hg' hr2, heap_keptWE h1 hg' hr2, heap_keptWE h2 hg' hr2, heap_keptWE h3 hg' hr2, hg, ownFrom_below (β := Unit) (Nat.le_refl _) hB () V V' row hb hg' hr⟩

set_option maxRecDepth 100000 in
set_option maxHeartbeats 2000000 in
theorem iMean_n (wd hg : Int) (sv : Value) (ws : List Wn) (e0 e1 e2 e3 : Addr) (w : World) (hws : WinsAt w sv ws) (hE : ErrsAt w e0 e1 e2 e3) (hv : okRm wd hg ws = false) :
    Calls Tryd.prog 32 #[.agg (roomC wd hg sv)] w fun e w' => e = .returned (.tuple #[.float .f32 0, .int .i64 1]) ∧ Below w.heap.size w w' := by
  have HVR : Hid (∀ V, WinsAt V sv ws → Calls Tryd.prog 72 #[.agg (roomC wd hg sv)] V fun e w' => e = .returned (.bool false) ∧ Below V.heap.size V w') := Lib.hid (fun V h => by have := ValidRoom_any wd hg sv ws V h; rw [hv] at this; exact this)
  have HRF : Hid (∀ V, ErrsAt V e0 e1 e2 e3 → Calls Tryd.prog 71 #[.bool false, .bool true, .bool true] V fun e w' => e = .returned (.iface 284 (.pointer (some e0))) ∧ V = w') := Lib.hid (fun V h => refusal_any h false true true)
  have HW := Lib.hid hws
  have HX := Lib.hid hE
  have hn := fun w => run_neq_held_nil (P := Tryd.prog) (w := w) 86 284 (.pointer (some e0)) (by kernel_rfl)
  clear hws hE hv
  go_enter Tryd.func32, Tryd.ntmps32
  go_upto_region 1 with (fail)
  refine abs_world (fun V => V.heap[w.heap.size]? = some (.cells (roomC wd hg sv) 44 (0, 0)) ∧ Below w.heap.size w V) ⟨heap_alloc_new _ _, (Below.refl _ _).alloc (Nat.le_refl _) _⟩ ?_
  rintro V ⟨h0, hb⟩
  have H0 := Lib.hid h0
  have HV := Lib.hid (wins_below HW.out hb)
  replace HX := Lib.hid (errs_below HX.out hb)
  clear h0
  go_wp2_with (first | (refine wpList_load_part rfl 44 _ rfl w.heap.size 0 3 rfl 44 (roomC wd hg sv) (0, 0) _ H0.out Tryd.underlying44 rfl info_room (room_fits _ _ _) _ (room_all _ _ _) ?_) | (go_at_call 72; refine (HVR.out _ HV.out).mono ?_; rintro e W1 ⟨rfl, hb1⟩; replace H0 := Lib.hid (below_row hb1 H0.out); replace HV := Lib.hid (wins_below HV.out hb1); replace HX := Lib.hid (errs_below HX.out hb1); replace hb := hb.trans (hb1.mono hb.size); clear hb1) | (go_at_call 71; refine (HRF.out _ HX.out).mono ?_; rintro e W3 ⟨rfl, rfl⟩) | (go_at_call 73; refine (codeOf_any HX.out 1).mono ?_; rintro e W4 ⟨rfl, rfl⟩))
  go_ret2
  exact ⟨rfl, hb⟩

set_option maxRecDepth 100000 in
set_option maxHeartbeats 8000000 in
theorem iMean_y (W H : Nat) (hW : 0 < W) (hH : 0 < H) (sv : Value) (ws : List Wn) (hwf : ∀ x ∈ ws, WnWf x) (g : Int × Int → Nat) (hgd : g = fun t => litW (W : Int) (H : Int) t (fun _ => true) ws) (hcap : ∀ x y : Nat, x < W → y < H → g ((x : Int), (y : Int)) ≤ floatOfInt .f32 (12 : Int)) (gk : Nat → Nat) (hgk : gk = fun k => g (tk W H hW hH k).1) (e0 e1 e2 e3 : Addr) (w : World) (hws : WinsAt w sv ws) (hE : ErrsAt w e0 e1 e2 e3) (hv : okRm (W : Int) (H : Int) ws = true) :
    Calls Tryd.prog 32 #[.agg (roomC (W : Int) (H : Int) sv)] w fun e w' => e = .returned (.tuple #[.float .f32 (meanM (sumM gk (W * H)) (W * H)), .int .i64 0]) ∧ Below w.heap.size w w' := by
  refine (callsIn_wide (n := 4)).1 ?_
  have ok := okRm_get hv
  have hW1 : W ≤ 10 := by have := ok.w1; omega
  have hH1 : H ≤ 10 := by have := ok.h1; omega
  have hn0 : 0 < W * H := Nat.mul_pos hW hH
  have hn1 : W * H ≤ 100 := Nat.mul_le_mul hW1 hH1
  have HVR : Hid (∀ V, WinsAt V sv ws → Calls Tryd.prog 72 #[.agg (roomC (W : Int) (H : Int) sv)] V fun e w' => e = .returned (.bool true) ∧ Below V.heap.size V w') := Lib.hid (fun V h => by have := ValidRoom_any (W : Int) (H : Int) sv ws V h; rw [hv] at this; exact this)
  have HRF : Hid (∀ V, ErrsAt V e0 e1 e2 e3 → Calls Tryd.prog 71 #[.bool true, .bool true, .bool true] V fun e w' => e = .returned .nilIface ∧ V = w') := Lib.hid (fun V h => refusal_any h true true true)
  obtain ⟨mp, hmp⟩ : ∃ mp, mp = mpK g W H (W * H) := ⟨_, rfl⟩
  have HMO : Hid (∀ V, WinsAt V sv ws → Calls Tryd.prog 74 #[.agg (roomC (W : Int) (H : Int) sv)] V fun e w' => e = .returned (.agg (mpC mp)) ∧ Below V.heap.size V w') := by
    rw [hmp]
    exact fun V h => mapOf_any W H hW hH sv ws ok hwf g hgd V h
  have LM : Hid (mp.length = 100) := by rw [hmp]; exact mpK_len g W H (W * H)
  have HGT : Hid (∀ x y : Nat, x < W → y < H → mp[y * 10 + x]?.getD 0 = g ((x : Int), (y : Int))) := by rw [hmp]; exact fun x y hx hy => mpK_get g W H hW1 hH1 hx hy
  have HCP := Lib.hid hcap
  have HGK : Hid (∀ x y k : Nat, (tk W H hW hH k).1 = ((x : Int), (y : Int)) → gk k = g ((x : Int), (y : Int))) := by rw [hgk]; exact fun x y k e => by show g (tk W H hW hH k).1 = _; rw [e]
  have HW := Lib.hid hws
  have HX := Lib.hid hE
  have hn := fun w => run_neq_nil_nil (P := Tryd.prog) (w := w) 86 (by kernel_rfl)
  clear hws hE hv hwf hgd ok hmp hcap hgk
  refine callsIn_of_wp_marks Tryd.func32 rfl trivial ?_ rfl
  simp only [Tryd.ntmps32, List.size_toArray, List.length_cons, List.length_nil, Nat.reduceAdd, Nat.reduceSub, Array.replicate_succ, Array.replicate_zero, List.push_toArray, List.append_toArray, List.nil_append, List.cons_append]
  refine wpIn_wide.2 ?_
  go_upto_region 1 with (fail)
  refine abs_world (fun V => V.heap[w.heap.size]? = some (.cells (roomC (W : Int) (H : Int) sv) 44 (0, 0)) ∧ Below w.heap.size w V) ⟨heap_alloc_new _ _, (Below.refl _ _).alloc (Nat.le_refl _) _⟩ ?_
  rintro V ⟨h0, hb⟩
  have H0 := Lib.hid h0
  have HV := Lib.hid (wins_below HW.out hb)
  replace HX := Lib.hid (errs_below HX.out hb)
  clear h0
  go_upto_region 4 with (first | (refine wpList_load_part rfl 44 _ rfl w.heap.size 0 3 rfl 44 (roomC (W : Int) (H : Int) sv) (0, 0) _ H0.out Tryd.underlying44 rfl info_room (room_fits _ _ _) _ (room_all _ _ _) ?_) | (go_at_call 72; refine (HVR.out _ HV.out).mono ?_; rintro e W1 ⟨rfl, hb1⟩; replace H0 := Lib.hid (below_row hb1 H0.out); replace HV := Lib.hid (wins_below HV.out hb1); replace HX := Lib.hid (errs_below HX.out hb1); replace hb := hb.trans (hb1.mono hb.size); clear hb1) | (go_at_call 71; refine (HRF.out _ HX.out).mono ?_; rintro e W3 ⟨rfl, rfl⟩))
  go_upto_region 5 with (first | (refine wpList_load_part rfl 44 _ rfl w.heap.size 0 3 rfl 44 (roomC (W : Int) (H : Int) sv) (0, 0) _ H0.out Tryd.underlying44 rfl info_room (room_fits _ _ _) _ (room_all _ _ _) ?_) | (go_at_call 74; refine (HMO.out _ HV.out).mono ?_; rintro e W4 ⟨rfl, hb1⟩; replace H0 := Lib.hid (below_row hb1 H0.out); replace HV := Lib.hid (wins_below HV.out hb1); replace HX := Lib.hid (errs_below HX.out hb1); replace hb := hb.trans (hb1.mono hb.size); clear hb1) | (refine wpList_store_part rfl 105 _ _ rfl _ 0 (mpC mp) rfl rfl 105 _ (heap_alloc_new _ _) (by rw [mpC_size, LM.out]; exact info_lm) (by rw [mpC_size, LM.out]; decide) (mpC_one _) ?_; rw [laid_allwE _ _ (by rw [mpC_size, LM.out]; rfl)]))
  refine abs_world (fun X => X.heap[w.heap.size]? = some (.cells (roomC (W : Int) (H : Int) sv) 44 (0, 0)) ∧ X.heap[W4.heap.size]? = some (.cells (mpC mp) 105 (0, 0)) ∧ Below w.heap.size w X) ⟨below_row (zbelE _ _ _) H0.out, setRow_heap _ _ _ _ _ _ (heap_alloc_new _ _), below_setRow (hb.alloc hb.size _) hb.size _⟩ ?_
  have l5 := row_lt H0.out
  clear H0 HV HX hb
  generalize W4.heap.size = b5 at *
  rintro X ⟨h0, h5, hb⟩
  have H0 := Lib.hid h0
  have H5 := Lib.hid h5
  clear h0 h5
  go_upto_region 6 with (fail)
  refine abs_world (fun Y => Y.heap[w.heap.size]? = some (.cells (roomC (W : Int) (H : Int) sv) 44 (0, 0)) ∧ Y.heap[b5]? = some (.cells (mpC mp) 105 (0, 0)) ∧ Y.heap[X.heap.size]? = some (.cells #[.float .f32 0] 25 (0, 0)) ∧ Below w.heap.size w Y) ⟨below_row ((Below.refl X.heap.size _).alloc (Nat.le_refl _) _) H0.out, below_row ((Below.refl X.heap.size _).alloc (Nat.le_refl _) _) H5.out, heap_alloc_new _ _, hb.alloc hb.size _⟩ ?_
  have l6 := row_lt H5.out
  clear H0 H5 hb
  generalize X.heap.size = b6 at *
  rintro W0 ⟨h0, h5, h6, hb⟩
  have H0 := Lib.hid h0
  have H5 := Lib.hid h5
  have H6 := Lib.hid h6
  have HB := Lib.hid hb
  have l7 := row_lt h6
  have hle : w.heap.size ≤ W0.heap.size := hb.size
  clear h0 h5 h6 hb HVR HRF HMO hn
  go_wp2_with (first | (refine wpList_load_part rfl 44 _ rfl w.heap.size 0 3 rfl 44 (roomC (W : Int) (H : Int) sv) (0, 0) _ H0.out Tryd.underlying44 rfl info_room (room_fits _ _ _) _ (room_all _ _ _) ?_) | (go_at_call 77; refine (eachTile_any _ _ _ _).mono ?_; rintro e w' ⟨rfl, rfl⟩))
  refine (wpIn_wide (n := 4)).1 ?_
  refine wpIn_rangeFunc_ownH rfl (by decide) (gf := 129) (lb := #[.pointer (some ⟨W0.heap.size, 0, none⟩)]) rfl trivial (enters_of Tryd.func129 (by kernel_rfl) rfl)
    (eachTile_stops W H hW hH hW1 hH1 sv W0.heap.size _ (heap_alloc_new _ _)) keepsAt_t (keepsAt_b (by simp)) (Below.refl _ _) (fun _ => rfl)
    (MnI W H hW hH gk w sv b5 b6 W0.heap.size mp) (fun _ _ _ => False) (mnI_own W H hW hH gk w sv b5 b6 _ mp _ (by simp; omega)) (fun _ _ _ _ _ hs _ _ => hs) ?h0
    (fun x a' V => ∃ b7 : Nat, W0.heap.size < b7 ∧ a' = { tmps := #[.agg (roomC (W : Int) (H : Int) sv), .pointer (some ⟨w.heap.size, 0, none⟩), .float .f32 0, .int .i64 0, .nilIface, .pointer (some ⟨b5, 0, none⟩), .pointer (some ⟨b6, 0, none⟩), .pointer (some ⟨b7, 0, none⟩), .agg (roomC (W : Int) (H : Int) sv), .bool true, .nilIface, .nilIface, .bool false, undef, undef, .agg (roomC (W : Int) (H : Int) sv), .agg (mpC mp), .agg (roomC (W : Int) (H : Int) sv), .func (.func 129) #[] #[.pointer (some ⟨W0.heap.size, 0, none⟩)], .agg (tileC x.1.1 x.1.2), undef, undef, undef, undef, undef, undef, undef, undef, undef, undef, undef, undef, undef, undef, undef, undef, undef], defers := [] } ∧ V.heap[b7]? = some (.cells (tileC x.1.1 x.1.2) 100 (0, 0)))
    (fun x a' s V V' row hx hg hr => by obtain ⟨b4, l4, e, h⟩ := hx; exact ⟨b4, l4, e, heap_keptWE h hg (fun r e => (hr r e).2)⟩) ?assign ?body ?done ?stop
  case h0 =>
    exact ⟨0, Nat.zero_le _, below_row ((Below.refl W0.heap.size _).alloc (Nat.le_refl _) _) H0.out, below_row ((Below.refl W0.heap.size _).alloc (Nat.le_refl _) _) H5.out, below_row ((Below.refl W0.heap.size _).alloc (Nat.le_refl _) _) H6.out, heap_alloc_new _ _, fun _ => rfl, HB.out.alloc hle _⟩
  case assign =>
    rintro l pre x W2 K hI hK
    have hgl : W0.heap.size < W2.heap.size := by obtain ⟨_, _, _, _, _, h3, _⟩ := hI; exact row_lt h3
    refine region_plain_round (by rfl) (fun ⟨_, _, h⟩ => h) ?_
    go_wp2_with (refine wpList_store_part rfl 100 _ _ rfl _ 0 (tileC x.1.1 x.1.2) rfl rfl 100 _ (heap_alloc_new _ _) info_tile (Nat.le_refl _) (tile_one _ _) ?_; rw [laid_allwE _ _ (by rfl)])
    have hbn : ∀ o, Below W2.heap.size W2 ((W2.alloc o).setRow W2.heap.size (tileC x.1.1 x.1.2)) := fun o => below_setRow ((Below.refl _ _).alloc (Nat.le_refl _) _) (Nat.le_refl _) _
    exact hK _ _ ((keeps_of_belowWE (hbn _)).from _) (fun _ ho => below_row (hbn _) ho) (mnI_own W H hW hH gk w sv b5 b6 _ mp _ (Nat.le_refl _) _ _ _ none hI (grown_of_belowE (hbn _) none) (fun r e => by cases e)) ⟨_, hgl, rfl, setRow_heap _ _ _ _ _ _ (heap_alloc_new _ _)⟩
  case body =>
    clear H0 H5 H6 HB
    rintro l pre ⟨⟨a1, a2⟩, ha⟩ a' V hl0 hlr ⟨s, hs, h0, h1, h2, h3, hgd, hbw⟩ ⟨b7, hl7, rfl, h4⟩ hl
    have ha2 := ha
    obtain ⟨p0, p1, p2, p3⟩ := ha2
    dsimp only at p0 p1 p2 p3
    obtain ⟨x, rfl⟩ := Int.eq_ofNat_of_zero_le p0
    obtain ⟨y, rfl⟩ := Int.eq_ofNat_of_zero_le p2
    have hxl : x < W := by omega
    have hyl : y < H := by omega
    have HGX := Lib.hid (HGT.out x y hxl hyl)
    obtain ⟨st1, st2⟩ := sumM_step hs (by omega) (HCP.out x y hxl hyl)
    have HM : Hid (GoodT W H hW hH (pre ++ [⟨((x : Int), (y : Int)), ha⟩]) → fadd s (g ((x : Int), (y : Int))) = sumM gk (pre ++ [(⟨((x : Int), (y : Int)), ha⟩ : Tt W H)]).length) := Lib.hid (fun hgs => by
      obtain ⟨hgp, hxk⟩ := goodT_snoc hgs
      rw [List.length_append, List.length_singleton, sumM_succ, ← hgd hgp, HGK.out x y pre.length (by rw [← hxk])])
    have HS2 : Hid (fadd s (g ((x : Int), (y : Int))) ≤ capM (pre ++ [(⟨((x : Int), (y : Int)), ha⟩ : Tt W H)]).length) := Lib.hid (by rw [List.length_append, List.length_singleton]; exact st2)
    generalize g ((x : Int), (y : Int)) = gv at *
    have radd : ∀ T w, (binOp .add T (.float .f32 s) (.float .f32 gv)).run Tryd.prog w = .ok (.float .f32 (fadd s gv)) w := fun T w => run_float_arith w .add T .f32 _ _ _ st1
    have H0 := Lib.hid h0
    have H1 := Lib.hid h1
    have H2 := Lib.hid h2
    have H3 := Lib.hid h3
    have H4 := Lib.hid h4
    have HBW := Lib.hid hbw
    have z1 : (x : Int) < 10 := by omega
    have z2 : (0 : Int) ≤ (x : Int) := by omega
    have z3 : (y : Int) < 10 := by omega
    have z4 : (0 : Int) ≤ (y : Int) := by omega
    clear hgd h0 h1 h2 h3 h4 hbw p0 p1 p2 p3 HGT HCP HGK st1 st2 hs
    dsimp only
    refine wpIn_block ?_
    have HVD : Hid (Below V.heap.size V V.drew) := Lib.hid (Below.refl V.heap.size V).drew
    have q6 : V.cell? ⟨b6, 0, none⟩ = some (.float .f32 s) := by rw [cell_of_row _ _ _ _ _ _ H2.out]; rfl
    have f6 := frozen_of_row V b6 0 _ _ H2.out
    have qy : V.cell? ⟨b7, 1, none⟩ = some (.int .i8 (y : Int)) := by rw [cell_of_row _ _ _ _ _ _ H4.out]; rfl
    have qx : V.cell? ⟨b7, 0, none⟩ = some (.int .i8 (x : Int)) := by rw [cell_of_row _ _ _ _ _ _ H4.out]; rfl
    have qm := mpC_cell H1.out (y * 10 + x) (by rw [LM.out]; omega)
    rw [HGX.out] at qm
    refine still_tail_round (k := 9) arrU (by kernel_rfl) (no_defer (by rfl)) (fun ⟨_, _, h⟩ => h) ?_
    simp only [List.take_succ_cons, List.take_zero, List.drop_succ_cons, List.drop_zero]
    repeat still_step
    refine wpStill_nil ?_
    go_wp2
    exact ⟨((keeps_of_belowWE HVD.out).trans (KeepsOthers.setCell _ _ _)).from _, fun o ho => (heap_setCell_other _ _ _ _ (by simp; omega)).trans ho, fadd s gv, HS2.out, (heap_setCell_other _ _ _ _ (by simp; omega)).trans H0.out, (heap_setCell_other _ _ _ _ (by simp; omega)).trans H1.out, by show (V.setCell ⟨b6, 0, none⟩ (.float .f32 (fadd s gv))).heap[b6]? = _; rw [heap_setCell_same _ _ _ _ _ _ H2.out]; rfl, (heap_setCell_other _ _ _ _ (by simp; omega)).trans H3.out, HM.out, (HBW.out.trans (HVD.out.mono HBW.out.size)).setCell (p := ⟨b6, 0, none⟩) (by simp; omega) _⟩
  case done =>
    clear H0 H5 H6 HB HGT HCP HGK
    rintro D zs V hD rfl ⟨s, hs, h0, h1, h2, h3, hgd, hb⟩ hK
    rename_i K hcont
    have hD' : w.heap.size ≤ D := by first | omega | (simp at hD; omega)
    have hM := hgd (goodT_all W H hW hH (W * H))
    rw [tks_length] at hM hs
    have c6 : V.cell? ⟨b6, 0, none⟩ = some (.float .f32 s) := by rw [cell_of_row _ _ _ _ _ _ h2]; rfl
    have c0 := room_cell0 h0
    have c1 := room_cell1 h0
    have hq := (meanM_ok hs hn1 hn0 hn1).1
    have hmul : IntKind.i8.wrap ((W : Int) * (H : Int)) = (W : Int) * (H : Int) := by
      have e : ((W * H : Nat) : Int) = (W : Int) * (H : Int) := Int.natCast_mul W H
      exact i8_small _ (by omega) (by omega)
    rw [Int.natCast_mul] at hq
    have rq : ∀ T w, (binOp .quo T (.float .f32 s) (.float .f32 (floatOfInt .f32 ((W : Int) * (H : Int))))).run Tryd.prog w = .ok (.float .f32 (meanM s (W * H))) w := fun T w => run_float_arith w .quo T .f32 _ _ _ hq
    have HK := Lib.hid hK
    have HBX := Lib.hid hb
    have HMS := Lib.hid hM
    clear hgd h0 h1 h2 h3 hK hq hs hM hb
    refine hcont _ _ ?_
    go_wp2
    refine ⟨by simp, .inl ⟨_, _, rfl, run_takeDeferred HK.out, ?_⟩⟩
    refine ⟨_, results_tmp2 (fn := Tryd.f32) rfl _ _ _, ?_, HBX.out.trans (belowK_b (w := w) (Nat.le_refl _) _ D _ _ hD' HK.out rfl rfl)⟩
    rw [HMS.out]
    rfl
  case stop =>
    rintro D c pre V _ _ h _
    exact h.elim

end Go.Proofs.YtmniodfdoidffaaDoor
