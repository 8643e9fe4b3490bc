/-
  The tiles with enough light: the program.
-/
import Derived.Test.YtddnfbpgldchcaaDoorEtH
namespace Go.Proofs.YtddnfbpgldchcaaDoor
open Go.RowKit Go.Shelf

attribute [local go_sem] Oper.semAt_some run_store_floatE

def u16s (xs : List Int) : Array Value := (xs.map (Value.int .u16)).toArray

theorem u16s_size (xs : List Int) : (u16s xs).size = xs.length := by simp [u16s]

theorem u16s_cell {V : World} {g : Nat} {xs : List Int} {t : TypeId} {fr : Nat × Nat} (hg : V.heap[g]? = some (.cells (u16s xs) t fr)) (k : Nat) (h : k < xs.length) : V.cell? ⟨g, k, none⟩ = some (.int .u16 (xs[k]?.getD 0)) := by
  rw [cell_of_row V _ _ _ _ _ hg]
  simp [u16s, h]

theorem u16s_set (xs : List Int) (k : Nat) (n : Int) : (u16s xs).setIfInBounds k (.int .u16 n) = u16s (xs.set k n) := by
  apply Array.ext'
  simp [u16s, List.map_set]

theorem u16s_one (xs : List Int) : ∀ v ∈ u16s xs, v.oneCell' = true := by
  intro v hv
  simp only [u16s, List.mem_toArray, List.mem_map] at hv
  obtain ⟨x, _, rfl⟩ := hv
  rfl

theorem u16s_all (xs : List Int) (n : Nat) (h : xs.length = n) : (u16s xs).extract 0 (0 + n) = u16s xs := by
  rw [Nat.zero_add, ← h, ← u16s_size, Array.extract_size]

theorem info_u16 : (Tryd.prog.info? 60).map (·.size) = some 10 := by kernel_rfl

def zU : List Int := [0, 0, 0, 0, 0, 0, 0, 0, 0, 0]

theorem zU_len : zU.length = 10 := rfl

/-- The bits of lit tiles, as far as they have been looked at. -/
def litN (P : Nat → Bool) (W : Nat) : Nat → List Int
  | 0 => zU
  | k + 1 => if P k then (litN P W k).set (k / W) (bits .or .u16 ((litN P W k)[k / W]?.getD 0) ((2 : Int) ^ (k % W))) else litN P W k

theorem litN_len (P : Nat → Bool) (W : Nat) : ∀ k, (litN P W k).length = 10
  | 0 => rfl
  | k + 1 => by
    rw [litN]
    split
    · rw [List.length_set]; exact litN_len P W k
    · exact litN_len P W k

theorem litN_at {P : Nat → Bool} {W x y : Nat} (hW : 0 < W) (hx : x < W) : litN P W (y * W + x + 1) = if P (y * W + x) then (litN P W (y * W + x)).set y (bits .or .u16 ((litN P W (y * W + x))[y]?.getD 0) ((2 : Int) ^ x)) else litN P W (y * W + x) := by
  have e1 : (y * W + x) % W = x := by rw [Nat.mul_comm, Nat.mul_add_mod]; exact Nat.mod_eq_of_lt hx
  have e2 : (y * W + x) / W = y := by rw [Nat.mul_comm, Nat.mul_add_div hW, Nat.div_eq_of_lt hx, Nat.add_zero]
  rw [litN, e1, e2]

/-- Whether a light is enough. -/
def enB (least x : Nat) : Bool := FloatKind.f32.format.order x least == some .gt || FloatKind.f32.format.order x least == some .eq

theorem pow16 {x : Nat} (h : x < 10) : IntKind.u16.wrap ((2 : Int) ^ x) = (2 : Int) ^ x := by
  have h2 : ∀ x : Nat, x < 10 → IntKind.u16.wrap ((2 : Int) ^ x) = (2 : Int) ^ x := by decide +kernel
  exact h2 x h

def LtI (W H : Nat) (hW : 0 < W) (hH : 0 < H) (P : Nat → Bool) (w : World) (sv : Value) (le : Nat) (b3 b4 b5 b6 gb : Nat) (mp : List Nat) (pre : List (Tt W H)) (V : World) : Prop :=
  ∃ xs : List Int, xs.length = 10 ∧ V.heap[w.heap.size]? = some (.cells (roomC (W : Int) (H : Int) sv) 33 (0, 0)) ∧ V.heap[b3]? = some (.cells #[.float .f32 le] 26 (0, 0)) ∧ V.heap[b4]? = some (.cells (u16s zU) 60 (0, 0)) ∧ V.heap[b5]? = some (.cells (mpC mp) 82 (0, 0)) ∧ V.heap[b6]? = some (.cells (u16s xs) 60 (0, 0)) ∧ V.heap[gb]? = some (.cells (roomC (W : Int) (H : Int) sv) 33 (0, 0)) ∧ (GoodT W H hW hH pre → xs = litN P W pre.length) ∧ Below w.heap.size w V

theorem ltI_own (W H : Nat) (hW : 0 < W) (hH : 0 < H) (P : Nat → Bool) (w : World) (sv : Value) (le : Nat) (b3 b4 b5 b6 gb : Nat) (mp : List Nat) (B : Nat) (hB : w.heap.size ≤ B) : OwnFrom B (LtI W H hW hH P w sv le b3 b4 b5 b6 gb mp) := by
  intro s V V' row ⟨xs, hx, h0, h1, h2, h3, h4, h5, hg, hb⟩ hg' hr
  have hr2 := fun r e => (hr r e).2
  exact ⟨xs, hx, heap_keptWE h0 hg' hr2, heap_keptWE h1 hg' hr2, heap_keptWE h2 hg' hr2, heap_keptWE h3 hg' hr2, heap_keptWE h4 hg' hr2, heap_keptWE h5 hg' hr2, hg, ownFrom_below (β := Unit) (Nat.le_refl _) hB () V V' row hb hg' hr⟩

set_option maxRecDepth 100000 in
set_option maxHeartbeats 8000000 in
theorem litOf_any (W H : Nat) (hW : 0 < W) (hH : 0 < H) (sv : Value) (ws : List Wn) (ok : RmOk (W : Int) (H : Int) ws) (hwf : ∀ x ∈ ws, WnWf x) (g : Int × Int → Nat) (hgd : g = fun t => litW (W : Int) (H : Int) t (fun _ => true) ws) (le : Nat) (P : Nat → Bool) (hP : P = fun k => enB le (g (tk W H hW hH k).1)) (w : World) (hws : WinsAt w sv ws) :
    Calls Tryd.prog 26 #[.agg (roomC (W : Int) (H : Int) sv), .float .f32 le] w fun e w' => e = .returned (.agg (u16s (litN P W (W * H)))) ∧ Below w.heap.size w w' := by
  refine (callsIn_wide (n := 4)).1 ?_
  have hW1 : W ≤ 10 := by have := ok.w1; omega
  have hH1 : H ≤ 10 := by have := ok.h1; omega
  obtain ⟨mp, hmp⟩ : ∃ mp, mp = mpK g W H (W * H) := ⟨_, rfl⟩
  have HMO : Hid (∀ V, WinsAt V sv ws → Calls Tryd.prog 41 #[.agg (roomC (W : Int) (H : Int) sv)] V fun e w' => e = .returned (.agg (mpC mp)) ∧ Below V.heap.size V w') := by
    rw [hmp]
    exact fun V h => mapOf_any W H hW hH sv ws ok hwf g hgd V h
  have LM : Hid (mp.length = 100) := by rw [hmp]; exact mpK_len g W H (W * H)
  have HGT : Hid (∀ x y : Nat, x < W → y < H → mp[y * 10 + x]?.getD 0 = g ((x : Int), (y : Int))) := by rw [hmp]; exact fun x y hx hy => mpK_get g W H hW1 hH1 hx hy
  have HPK : Hid (∀ x y : Nat, x < W → y < H → P (y * W + x) = enB le (g ((x : Int), (y : Int)))) := by rw [hP]; exact fun x y hx hy => by show enB le (g (tk W H hW hH (y * W + x)).1) = _; rw [tk_at W H hW hH hx hy]
  have HLN := Lib.hid (litN_len P W (W * H))
  have HW := Lib.hid hws
  clear hws hwf hgd ok hmp hP
  refine callsIn_of_wp_marks Tryd.func26 rfl trivial ?_ rfl
  simp only [Tryd.ntmps26, List.size_toArray, List.length_cons, List.length_nil, Nat.reduceAdd, Nat.reduceSub, Array.replicate_succ, Array.replicate_zero, List.push_toArray, List.append_toArray, List.nil_append, List.cons_append]
  refine wpIn_wide.2 ?_
  go_upto_region 1 with (fail)
  refine abs_world (fun V => V.heap[w.heap.size]? = some (.cells (roomC (W : Int) (H : Int) sv) 33 (0, 0)) ∧ V.heap[w.heap.size + 1]? = some (.cells #[.float .f32 le] 26 (0, 0)) ∧ V.heap[w.heap.size + 1 + 1]? = some (.cells (u16s zU) 60 (0, 0)) ∧ Below w.heap.size w V) ⟨(three_new _ _ _ _).1, (three_new _ _ _ _).2.1, (three_new _ _ _ _).2.2.1, (three_new _ _ _ _).2.2.2⟩ ?_
  rintro V ⟨h0, h3, h4, hb⟩
  have H0 := Lib.hid h0
  have H3 := Lib.hid h3
  have H4 := Lib.hid h4
  have HV := Lib.hid (wins_below HW.out hb)
  have n01 : w.heap.size < w.heap.size + 1 := by omega
  have n12 : w.heap.size + 1 < w.heap.size + 1 + 1 := by omega
  generalize w.heap.size + 1 + 1 = b4 at *
  generalize w.heap.size + 1 = b3 at *
  clear h0 h3 h4
  go_upto_region 2 with (first | (refine wpList_load_part rfl 33 _ rfl w.heap.size 0 3 rfl 33 (roomC (W : Int) (H : Int) sv) (0, 0) _ H0.out Tryd.underlying33 rfl info_room (room_fits _ _ _) _ (room_all _ _ _) ?_) | (go_at_call 41; refine (HMO.out _ HV.out).mono ?_; rintro e W4 ⟨rfl, hb1⟩; replace H0 := Lib.hid (below_row hb1 H0.out); replace H3 := Lib.hid (below_row hb1 H3.out); replace H4 := Lib.hid (below_row hb1 H4.out); replace hb := hb.trans (hb1.mono hb.size); clear hb1) | (refine wpList_store_part rfl 82 _ _ rfl _ 0 (mpC mp) rfl rfl 82 _ (heap_alloc_new _ _) (by rw [mpC_size, LM.out]; exact info_lm) (by rw [mpC_size, LM.out]; decide) (mpC_one _) ?_; rw [laid_allwE _ _ (by rw [mpC_size, LM.out]; rfl)]))
  refine abs_world (fun X => X.heap[w.heap.size]? = some (.cells (roomC (W : Int) (H : Int) sv) 33 (0, 0)) ∧ X.heap[b3]? = some (.cells #[.float .f32 le] 26 (0, 0)) ∧ X.heap[b4]? = some (.cells (u16s zU) 60 (0, 0)) ∧ X.heap[W4.heap.size]? = some (.cells (mpC mp) 82 (0, 0)) ∧ Below w.heap.size w X) ⟨below_row (zbelE _ _ _) H0.out, below_row (zbelE _ _ _) H3.out, below_row (zbelE _ _ _) H4.out, setRow_heap _ _ _ _ _ _ (heap_alloc_new _ _), below_setRow (hb.alloc hb.size _) hb.size _⟩ ?_
  have l4 := row_lt H4.out
  clear H0 H3 H4 HV hb
  generalize W4.heap.size = b5 at *
  rintro X ⟨h0, h3, h4, h5, hb⟩
  have H0 := Lib.hid h0
  have H3 := Lib.hid h3
  have H4 := Lib.hid h4
  have H5 := Lib.hid h5
  clear h0 h3 h4 h5
  go_upto_region 3 with (fail)
  refine abs_world (fun Y => Y.heap[w.heap.size]? = some (.cells (roomC (W : Int) (H : Int) sv) 33 (0, 0)) ∧ Y.heap[b3]? = some (.cells #[.float .f32 le] 26 (0, 0)) ∧ Y.heap[b4]? = some (.cells (u16s zU) 60 (0, 0)) ∧ Y.heap[b5]? = some (.cells (mpC mp) 82 (0, 0)) ∧ Y.heap[X.heap.size]? = some (.cells (u16s zU) 60 (0, 0)) ∧ Below w.heap.size w Y) ⟨below_row ((Below.refl X.heap.size _).alloc (Nat.le_refl _) _) H0.out, below_row ((Below.refl X.heap.size _).alloc (Nat.le_refl _) _) H3.out, below_row ((Below.refl X.heap.size _).alloc (Nat.le_refl _) _) H4.out, below_row ((Below.refl X.heap.size _).alloc (Nat.le_refl _) _) H5.out, heap_alloc_new _ _, hb.alloc hb.size _⟩ ?_
  have l5 := row_lt H5.out
  clear H0 H3 H4 H5 hb
  generalize X.heap.size = b6 at *
  rintro W0 ⟨h0, h3, h4, h5, h6, hb⟩
  have H0 := Lib.hid h0
  have H3 := Lib.hid h3
  have H4 := Lib.hid h4
  have H5 := Lib.hid h5
  have H6 := Lib.hid h6
  have HB := Lib.hid hb
  have l6 := row_lt h6
  have hle : w.heap.size ≤ W0.heap.size := hb.size
  clear h0 h3 h4 h5 h6 hb HMO
  go_wp2_with (first | (refine wpList_load_part rfl 33 _ rfl w.heap.size 0 3 rfl 33 (roomC (W : Int) (H : Int) sv) (0, 0) _ H0.out Tryd.underlying33 rfl info_room (room_fits _ _ _) _ (room_all _ _ _) ?_) | (go_at_call 38; refine (eachTile_any _ _ _ _).mono ?_; rintro e w' ⟨rfl, rfl⟩))
  refine (wpIn_wide (n := 4)).1 ?_
  refine wpIn_rangeFunc_ownH rfl (by decide) (gf := 51) (lb := #[.pointer (some ⟨W0.heap.size, 0, none⟩)]) rfl trivial (enters_of Tryd.func51 (by kernel_rfl) rfl)
    (eachTile_stops W H hW hH hW1 hH1 sv W0.heap.size _ (heap_alloc_new _ _)) keepsAt_t (keepsAt_b (by simp)) (Below.refl _ _) (fun _ => rfl)
    (LtI W H hW hH P w sv le b3 b4 b5 b6 W0.heap.size mp) (fun _ _ _ => False) (ltI_own W H hW hH P w sv le b3 b4 b5 b6 _ mp _ (by simp; omega)) (fun _ _ _ _ _ hs _ _ => hs) ?h0
    (fun x a' V => ∃ b7 : Nat, W0.heap.size < b7 ∧ a' = { tmps := #[.agg (roomC (W : Int) (H : Int) sv), .float .f32 le, .pointer (some ⟨w.heap.size, 0, none⟩), .pointer (some ⟨b3, 0, none⟩), .pointer (some ⟨b4, 0, none⟩), .pointer (some ⟨b5, 0, none⟩), .pointer (some ⟨b6, 0, none⟩), .pointer (some ⟨b7, 0, none⟩), .agg (roomC (W : Int) (H : Int) sv), .agg (mpC mp), .agg (roomC (W : Int) (H : Int) sv), .func (.func 51) #[] #[.pointer (some ⟨W0.heap.size, 0, none⟩)], .agg (tileC x.1.1 x.1.2), undef, undef, undef, undef, undef, undef, undef, undef, undef, undef, undef, undef, undef, undef, undef, undef, undef, undef, undef], defers := [] } ∧ V.heap[b7]? = some (.cells (tileC x.1.1 x.1.2) 48 (0, 0)))
    (fun x a' s V V' row hx hg hr => by obtain ⟨b4, l4, e, h⟩ := hx; exact ⟨b4, l4, e, heap_keptWE h hg (fun r e => (hr r e).2)⟩) ?assign ?body ?done ?stop
  case h0 =>
    exact ⟨zU, zU_len, below_row ((Below.refl W0.heap.size _).alloc (Nat.le_refl _) _) H0.out, below_row ((Below.refl W0.heap.size _).alloc (Nat.le_refl _) _) H3.out, below_row ((Below.refl W0.heap.size _).alloc (Nat.le_refl _) _) H4.out, below_row ((Below.refl W0.heap.size _).alloc (Nat.le_refl _) _) H5.out, below_row ((Below.refl W0.heap.size _).alloc (Nat.le_refl _) _) H6.out, heap_alloc_new _ _, fun _ => rfl, HB.out.alloc hle _⟩
  case assign =>
    rintro l pre x W2 K hI hK
    have hgl : W0.heap.size < W2.heap.size := by obtain ⟨_, _, _, _, _, _, _, h5, _⟩ := hI; exact row_lt h5
    refine region_plain_round (by rfl) (fun ⟨_, _, h⟩ => h) ?_
    go_wp2_with (refine wpList_store_part rfl 48 _ _ rfl _ 0 (tileC x.1.1 x.1.2) rfl rfl 48 _ (heap_alloc_new _ _) info_tile (Nat.le_refl _) (tile_one _ _) ?_; rw [laid_allwE _ _ (by rfl)])
    have hbn : ∀ o, Below W2.heap.size W2 ((W2.alloc o).setRow W2.heap.size (tileC x.1.1 x.1.2)) := fun o => below_setRow ((Below.refl _ _).alloc (Nat.le_refl _) _) (Nat.le_refl _) _
    exact hK _ _ ((keeps_of_belowWE (hbn _)).from _) (fun _ ho => below_row (hbn _) ho) (ltI_own W H hW hH P w sv le b3 b4 b5 b6 _ mp _ (Nat.le_refl _) _ _ _ none hI (grown_of_belowE (hbn _) none) (fun r e => by cases e)) ⟨_, hgl, rfl, setRow_heap _ _ _ _ _ _ (heap_alloc_new _ _)⟩
  case body =>
    clear H0 H3 H4 H5 H6 HB
    rintro l pre ⟨⟨a1, a2⟩, ha⟩ a' V hl0 hlr ⟨xs, hxl, h0, h3, h4, h5, h6, hgr, hgd, hbw⟩ ⟨b7, hl7, rfl, h7⟩ hl
    have ha2 := ha
    obtain ⟨p0, p1, p2, p3⟩ := ha2
    dsimp only at p0 p1 p2 p3
    obtain ⟨x, rfl⟩ := Int.eq_ofNat_of_zero_le p0
    obtain ⟨y, rfl⟩ := Int.eq_ofNat_of_zero_le p2
    have hxl1 : x < W := by omega
    have hyl : y < H := by omega
    have HGX := Lib.hid (HGT.out x y hxl1 hyl)
    have HPX := HPK.out x y hxl1 hyl
    have HM : Hid (GoodT W H hW hH (pre ++ [⟨((x : Int), (y : Int)), ha⟩]) → (if enB le (g ((x : Int), (y : Int))) then xs.set y (bits .or .u16 (xs[y]?.getD 0) ((2 : Int) ^ x)) else xs) = litN P W (pre ++ [(⟨((x : Int), (y : Int)), ha⟩ : Tt W H)]).length) := Lib.hid (fun hgs => by
      obtain ⟨hgp, hxk⟩ := goodT_snoc hgs
      obtain ⟨x', y', hx', hy', hk', htk⟩ := tk_split W H hW hH hl
      have e : ((x : Int), (y : Int)) = ((x' : Int), (y' : Int)) := by rw [← htk, ← hxk]
      have e1 : x = x' := by have := congrArg Prod.fst e; simp at this; omega
      have e2 : y = y' := by have := congrArg Prod.snd e; simp at this; omega
      subst e1 e2
      rw [List.length_append, List.length_singleton, hgd hgp, hk', litN_at hW hxl1, HPX])
    unfold enB at HM
    generalize g ((x : Int), (y : Int)) = gv at *
    have H0 := Lib.hid h0
    have H3 := Lib.hid h3
    have H4 := Lib.hid h4
    have H5 := Lib.hid h5
    have H6 := Lib.hid h6
    have H7 := Lib.hid h7
    have HG := Lib.hid hgr
    have HBW := Lib.hid hbw
    have HXL := Lib.hid hxl
    have z1 : (x : Int) < 10 := by omega
    have z2 : (0 : Int) ≤ (x : Int) := by omega
    have z3 : (y : Int) < 10 := by omega
    have z4 : (0 : Int) ≤ (y : Int) := by omega
    have hpw := pow16 (show x < 10 by omega)
    have hpw2 : (2 : Int) ^ x % 65536 = (2 : Int) ^ x := hpw
    have HVD : Hid (Below V.heap.size V V.drew) := Lib.hid (Below.refl V.heap.size V).drew
    have qle : V.cell? ⟨b3, 0, none⟩ = some (.float .f32 le) := by rw [cell_of_row _ _ _ _ _ _ h3]; rfl
    have qy : V.cell? ⟨b7, 1, none⟩ = some (.int .i8 (y : Int)) := by rw [cell_of_row _ _ _ _ _ _ h7]; rfl
    have qx : V.cell? ⟨b7, 0, none⟩ = some (.int .i8 (x : Int)) := by rw [cell_of_row _ _ _ _ _ _ h7]; rfl
    have qm := mpC_cell h5 (y * 10 + x) (by rw [LM.out]; omega)
    rw [HGX.out] at qm
    have q6 := u16s_cell h6 y (by omega)
    have f6 := frozen_of_row V b6 y _ _ h6
    clear hgd h0 h3 h4 h5 h6 h7 hgr hbw hxl p0 p1 p2 p3 HGT HPK HPX
    generalize hp : (FloatKind.f32.format.order gv le == some Ordering.gt || FloatKind.f32.format.order gv le == some Ordering.eq) = p at *
    dsimp only
    refine wpIn_block (wpIn_seq ?_)
    refine still_tail_round (k := 8) arrU (by kernel_rfl) (no_defer (by rfl)) (fun ⟨_, _, h⟩ => h) ?_
    simp only [List.take_succ_cons, List.take_zero, List.drop_succ_cons, List.drop_zero]
    repeat still_step
    refine wpStill_nil ?_
    cases p with
    | false =>
      go_wp2
      gi_wp2
      exact ⟨(keeps_of_belowWE HVD.out).from _, fun o ho => ho, xs, HXL.out, H0.out, H3.out, H4.out, H5.out, H6.out, HG.out, fun hg => by have := HM.out hg; simpa using this, HBW.out.trans (HVD.out.mono HBW.out.size)⟩
    | true =>
      go_wp2
      gi_wp2
      refine still_tail_round (k := 9) arrU (by kernel_rfl) (no_defer (by rfl)) (fun ⟨_, _, h⟩ => h) ?_
      simp only [List.take_succ_cons, List.take_zero, List.drop_succ_cons, List.drop_zero]
      repeat still_step
      refine wpStill_nil ?_
      go_wp2
      have HV2 : Hid (Below V.heap.size V V.drew.drew) := Lib.hid HVD.out.drew
      have hbn : Below w.heap.size w (V.drew.drew.setCell ⟨b6, y, none⟩ (.int .u16 (bits .or .u16 (xs[y]?.getD 0) ((2 : Int) ^ x)))) := (HBW.out.trans (HV2.out.mono HBW.out.size)).setCell (p := ⟨b6, y, none⟩) (by simp; omega) _
      exact ⟨((keeps_of_belowWE HV2.out).trans (KeepsOthers.setCell _ _ _)).from _, fun o ho => (heap_setCell_other _ _ _ _ (by simp; omega)).trans ho, xs.set y (bits .or .u16 (xs[y]?.getD 0) ((2 : Int) ^ x)), by rw [List.length_set]; exact HXL.out, (heap_setCell_other _ _ _ _ (by simp; omega)).trans H0.out, (heap_setCell_other _ _ _ _ (by simp; omega)).trans H3.out, (heap_setCell_other _ _ _ _ (by simp; omega)).trans H4.out, (heap_setCell_other _ _ _ _ (by simp; omega)).trans H5.out, by show (V.setCell ⟨b6, y, none⟩ _).heap[b6]? = _; rw [heap_setCell_same _ _ _ _ _ _ H6.out, u16s_set], (heap_setCell_other _ _ _ _ (by simp; omega)).trans HG.out, fun hg => by have := HM.out hg; simpa using this, hbn⟩
  case done =>
    clear H0 H3 H4 H5 H6 HB HGT HPK
    rintro D zs V hD rfl ⟨xs, hxl, h0, h3, h4, h5, h6, hgr, hgd, hb⟩ hK
    rename_i K hcont
    have hD' : w.heap.size ≤ D := by first | omega | (simp at hD; omega)
    have hDb : D ≠ b4 := by first | omega | (simp at hD; omega)
    have hM := hgd (goodT_all W H hW hH (W * H))
    rw [tks_length] at hM
    subst hM
    have H4 := Lib.hid h4
    have H6 := Lib.hid h6
    have HK := Lib.hid hK
    clear hgd h0 h3 h4 h5 h6 hgr hD hK hxl
    refine hcont _ _ ?_
    have hle1 : w.heap.size ≤ b4 := by omega
    go_wp2_with (first | (refine wpList_load_part rfl 60 _ rfl b6 0 10 rfl 60 (u16s (litN P W (W * H))) (0, 0) _ H6.out Tryd.underlying60 rfl info_u16 (by rw [u16s_size, HLN.out]; decide) (u16s (litN P W (W * H))) (u16s_all _ 10 HLN.out) ?_) | (refine wpList_store_part rfl 60 _ _ rfl b4 0 (u16s (litN P W (W * H))) rfl rfl 60 _ H4.out (by rw [u16s_size, HLN.out]; exact info_u16) (by rw [u16s_size, u16s_size, HLN.out, zU_len]; decide) (u16s_one _) ?_; rw [laid_allwE _ _ (by rw [u16s_size, u16s_size, HLN.out, zU_len])]))
    have hK2 : (V.setRow b4 (u16s (litN P W (W * H)))).heap[D]? = some (.deferred (some [])) := (setRow_other _ _ _ _ hDb).trans HK.out
    have hR := setRow_heap V b4 _ (u16s (litN P W (W * H))) _ _ H4.out
    refine ⟨by simp, .inl ⟨_, _, rfl, run_takeDeferred hK2, ?_⟩⟩
    refine ⟨.agg (u16s (litN P W (W * H))), results_cell_row (fn := Tryd.f26) rfl _ _ _ _ _ _ _ rfl ((World.putObj_heap_other (Ne.symm hDb)).trans hR) Tryd.underlying60 rfl (by rw [u16s_size, HLN.out]; exact info_u16), rfl, ?_⟩
    exact (below_setRow hb hle1 _).trans (belowK_b (w := w) (Nat.le_refl _) _ D _ _ hD' hK2 rfl rfl)
  case stop =>
    rintro D c pre V _ _ h _
    exact h.elim

end Go.Proofs.YtddnfbpgldchcaaDoor
