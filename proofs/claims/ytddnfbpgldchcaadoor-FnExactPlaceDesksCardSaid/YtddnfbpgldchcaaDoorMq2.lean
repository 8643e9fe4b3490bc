/-
  PlV, PlX, PlW, PlY.
-/
import Derived.Test.YtddnfbpgldchcaaDoorMq1
import Derived.Test.YtddnfbpgldchcaaDoorLtB
import Derived.Test.YtddnfbpgldchcaaDoorLtC

namespace Go.Proofs.YtddnfbpgldchcaaDoor
open Go.ChangeShapes Go.WideShapes Go.ChangeAt Go.RowKit Go.Deep Go.Joins Go.Shelf Go.ChangeMaps

attribute [local go_sem] Oper.semAt_some run_store_floatE

theorem run_store_fnP (P : Program) (w : World) (a : Addr) (g : Fn) (bs cs : Array Value) (m : Mode) : (store a (.func g bs cs) m).run P w = stored P w a (.func g bs cs) m := run_store P w a _ m rfl

attribute [local go_sem] run_store_fnP

/-- A row of one cell is new. -/
theorem new_cellP (W : World) (v : Value) (T : TypeId) : (W.alloc (.cells #[v] T)).heap[W.heap.size]? = some (.cells #[v] T (0, 0)) ∧ Below W.heap.size W (W.alloc (.cells #[v] T)) :=
  ⟨heap_alloc_new _ _, (Below.refl _ _).alloc (Nat.le_refl _) _⟩

set_option maxRecDepth 100000 in
set_option maxHeartbeats 8000000 in
theorem placed_any (W H : Nat) (hW : 0 < W) (hH : 0 < H) (hW1 : W ≤ 10) (hH1 : H ≤ 10) (sv : Value) (E : Int × Int → Bool) (xs : List Int) (hxl : xs.length = 10) (hxE : ∀ x y : Nat, x < W → y < H → (bits .and .u16 (xs[y]?.getD 0 / 2 ^ x) 1 == 1) = E ((x : Int), (y : Int))) (n : Nat) (hn : n ≤ 5) (e0 e1 e2 e3 : Addr) (w : World) (hE : ErrsAt w e0 e1 e2 e3) (R : Option (List (Int × Int))) (hR : R = putT (brT E (tks W H hW hH (W * H))) n [] 0) :
    Calls Tryd.prog 25 #[.agg (roomC (W : Int) (H : Int) sv), .agg (u16s xs), .int .i64 (n : Int)] w fun e w' => (∃ v, e = .returned (.tuple #[v, errOf e0 e1 e2 e3 (if R.isSome then 0 else 4)]) ∧ w'.ownsRow w.heap.size 48 2 v (R.getD []).length (tlV (R.getD []))) ∧ Below w.heap.size w w' := by
  refine (callsIn_wide (n := 4)).1 ?_
  have HX := Lib.hid hE
  have HXL := Lib.hid hxl
  have HXE := Lib.hid hxE
  have HRR := Lib.hid hR
  obtain ⟨i0, hin, hz0, hz1, hz2⟩ := info_parts infoTE
  clear hE hxl hxE hR
  refine callsIn_of_wp_marks Tryd.func25 rfl trivial ?_ rfl
  simp only [Tryd.ntmps25, List.size_toArray, List.length_cons, List.length_nil, Nat.reduceAdd, Nat.reduceSub, Array.replicate_succ, Array.replicate_zero, List.push_toArray, List.append_toArray, List.nil_append, List.cons_append]
  refine wpIn_wide.2 ?_
  go_upto_region 2 with (fail)
  refine abs_world (fun V => V.heap[w.heap.size]? = some (.cells (roomC (W : Int) (H : Int) sv) 33 (0, 0)) ∧ V.heap[w.heap.size + 1]? = some (.cells (u16s xs) 60 (0, 0)) ∧ V.heap[w.heap.size + 1 + 1]? = some (.cells #[.int .i64 (n : Int)] 3 (0, 0)) ∧ V.heap[w.heap.size + 1 + 1 + 1]? = some (.cells #[.slice none 0 0] 28 (0, 0)) ∧ Below w.heap.size w V) (four_new w (.cells (roomC (W : Int) (H : Int) sv) 33) (.cells (u16s xs) 60) (.cells #[.int .i64 (n : Int)] 3) (.cells #[.slice none 0 0] 28)) ?_
  rintro W0 ⟨h0, h4, h5, h8, hb⟩
  have n34 : w.heap.size < w.heap.size + 1 := by omega
  have n45 : w.heap.size + 1 < w.heap.size + 1 + 1 := by omega
  have n58 : w.heap.size + 1 + 1 < w.heap.size + 1 + 1 + 1 := by omega
  generalize w.heap.size + 1 + 1 + 1 = b8 at *
  generalize w.heap.size + 1 + 1 = b5 at *
  generalize w.heap.size + 1 = b4 at *
  have H0 := Lib.hid h0
  have H4 := Lib.hid h4
  have H5 := Lib.hid h5
  have H8 := Lib.hid h8
  have HB := Lib.hid hb
  have l8 := row_lt h8
  have hle : w.heap.size ≤ W0.heap.size := hb.size
  clear h0 h4 h5 h8 hb
  go_wp2_with (first | (refine wpList_load_part rfl 33 _ rfl w.heap.size 0 3 rfl 33 (roomC (W : Int) (H : Int) sv) (0, 0) _ H0.out Tryd.underlying33 rfl info_room (room_fits _ _ _) _ (room_all _ _ _) ?_) | (go_at_call 38; refine (eachTile_any _ _ _ _).mono ?_; rintro e w' ⟨rfl, rfl⟩))
  refine (wpIn_wide (n := 4)).1 ?_
  refine wpIn_rangeFunc_ownH rfl (by decide) (gf := 51) (lb := #[.pointer (some ⟨W0.heap.size, 0, none⟩)]) rfl trivial (enters_of Tryd.func51 (by kernel_rfl) rfl)
    (eachTile_stops W H hW hH hW1 hH1 sv W0.heap.size _ (heap_alloc_new _ _)) keepsAt_t (keepsAt_b (by simp)) (Below.refl _ _) (fun _ => rfl)
    (PuI W H w sv xs n b4 b5 b8 W0.heap.size E) (fun _ _ _ => False) (puI_own W H w sv xs n b4 b5 b8 _ E _ (by simp; omega)) (fun _ _ _ _ _ hs _ _ => hs) ?h0
    (fun x a' V => ∃ b9 : Nat, W0.heap.size < b9 ∧ a' = { tmps := #[.agg (roomC (W : Int) (H : Int) sv), .agg (u16s xs), .int .i64 (n : Int), .pointer (some ⟨w.heap.size, 0, none⟩), .pointer (some ⟨b4, 0, none⟩), .pointer (some ⟨b5, 0, none⟩), .slice none 0 0, .nilIface, .pointer (some ⟨b8, 0, none⟩), .pointer (some ⟨b9, 0, none⟩), undef, undef, undef, .agg (roomC (W : Int) (H : Int) sv), .func (.func 51) #[] #[.pointer (some ⟨W0.heap.size, 0, none⟩)], .agg (tileC x.1.1 x.1.2), undef, undef, undef, undef, undef, undef, undef, undef, undef, undef, undef, undef, undef, undef, undef, undef, undef, undef, undef, undef, undef, undef], defers := [] } ∧ V.heap[b9]? = some (.cells (tileC x.1.1 x.1.2) 48 (0, 0)))
    (fun x a' s V V' row hx hg hr => by obtain ⟨b4, l4, e, h⟩ := hx; exact ⟨b4, l4, e, heap_keptWE h hg (fun r e => (hr r e).2)⟩) ?assign ?body ?done ?stop
  case h0 =>
    exact ⟨⟨_, below_row ((Below.refl W0.heap.size _).alloc (Nat.le_refl _) _) H8.out, World.ownsRow_nil _ _ _ _, trivial⟩, below_row ((Below.refl W0.heap.size _).alloc (Nat.le_refl _) _) H4.out, below_row ((Below.refl W0.heap.size _).alloc (Nat.le_refl _) _) H5.out, heap_alloc_new _ _, HB.out.alloc hle _⟩
  case assign =>
    rintro l pre x W2 K hI hK
    have hgl : W0.heap.size < W2.heap.size := by obtain ⟨_, _, _, h5, _⟩ := hI; exact row_lt h5
    refine region_plain_round (by rfl) (fun ⟨_, _, h⟩ => h) ?_
    go_wp2_with (refine wpList_store_part rfl 48 _ _ rfl _ 0 (tileC x.1.1 x.1.2) rfl rfl 48 _ (heap_alloc_new _ _) info_tile (Nat.le_refl _) (tile_one _ _) ?_; rw [laid_allwE _ _ (by rfl)])
    have hbn : ∀ o, Below W2.heap.size W2 ((W2.alloc o).setRow W2.heap.size (tileC x.1.1 x.1.2)) := fun o => below_setRow ((Below.refl _ _).alloc (Nat.le_refl _) _) (Nat.le_refl _) _
    exact hK _ _ ((keeps_of_belowWE (hbn _)).from _) (fun _ ho => below_row (hbn _) ho) (puI_own W H w sv xs n b4 b5 b8 _ E _ (Nat.le_refl _) _ _ _ none hI (grown_of_belowE (hbn _) none) (fun r e => by cases e)) ⟨_, hgl, rfl, setRow_heap _ _ _ _ _ _ (heap_alloc_new _ _)⟩
  case body =>
    clear H0 H4 H5 H8 HB
    rintro l pre ⟨⟨a1, a2⟩, ha⟩ a' V hl0 hlr ⟨⟨v, hv, hrow, -⟩, h4, h5, hgr, hbw⟩ ⟨b9, hl9, rfl, h9⟩ hl
    have ha2 := ha
    obtain ⟨p0, p1, p2, p3⟩ := ha2
    dsimp only at p0 p1 p2 p3
    obtain ⟨x, rfl⟩ := Int.eq_ofNat_of_zero_le p0
    obtain ⟨y, rfl⟩ := Int.eq_ofNat_of_zero_le p2
    have hxl1 : x < W := by omega
    have hyl : y < H := by omega
    have HEX := HXE.out x y hxl1 hyl
    have HN := Lib.hid (fun (h : E ((x : Int), (y : Int)) = false) => @brT_no W H E pre ⟨((x : Int), (y : Int)), ha⟩ h)
    have HY := Lib.hid (fun (h : E ((x : Int), (y : Int)) = true) => @brT_yes W H E pre ⟨((x : Int), (y : Int)), ha⟩ h)
    have hln := brT_len E pre
    have hwh : W * H ≤ 100 := Nat.le_trans (Nat.mul_le_mul hW1 hH1) (by decide)
    have hpr : (brT E pre).length ≤ 100 := by omega
    clear hln hwh
    have z1 : (x : Int) < 10 := by omega
    have z2 : (0 : Int) ≤ (x : Int) := by omega
    have z3 : (y : Int) < 10 := by omega
    have z4 : (0 : Int) ≤ (y : Int) := by omega
    have z5 : (x : Int) ≤ 16 := by omega
    have w21 : IntKind.u64.wrap (x : Int) = (x : Int) := by rw [IntWalk.u64_in _ (by omega)]
    have HVD : Hid (Below V.heap.size V V.drew) := Lib.hid (Below.refl V.heap.size V).drew
    have qy : V.cell? ⟨b9, 1, none⟩ = some (.int .i8 (y : Int)) := by rw [cell_of_row _ _ _ _ _ _ h9]; rfl
    have qx : V.cell? ⟨b9, 0, none⟩ = some (.int .i8 (x : Int)) := by rw [cell_of_row _ _ _ _ _ _ h9]; rfl
    have q4 := u16s_cell h4 y (by rw [HXL.out]; omega)
    have HV := Lib.hid hv
    have HR := Lib.hid hrow
    have H4 := Lib.hid h4
    have H5 := Lib.hid h5
    have H9 := Lib.hid h9
    have HG := Lib.hid hgr
    have HBW := Lib.hid hbw
    clear h4 h5 h9 hgr hbw hv hrow p0 p1 p2 p3 HXE
    have HEX2 := Lib.hid HEX
    clear HEX
    dsimp only
    refine wpIn_block (wpIn_seq ?_)
    refine still_tail_round (k := 8) arrU (by kernel_rfl) (no_defer (by rfl)) (fun ⟨_, _, h⟩ => h) ?_
    simp only [List.take_succ_cons, List.take_zero, List.drop_succ_cons, List.drop_zero]
    repeat still_step
    refine wpStill_nil ?_
    cases hE : E ((x : Int), (y : Int)) with
    | false =>
      have HEX := HEX2.out
      rw [hE] at HEX
      have hno := Lib.hid (HN.out hE)
      clear hE
      go_wp2
      gi_wp2
      exact ⟨(keeps_of_belowWE HVD.out).from _, fun o ho => ho, ⟨v, HV.out, by rw [hno.out]; exact HR.out, trivial⟩, H4.out, H5.out, HG.out, HBW.out.trans (HVD.out.mono HBW.out.size)⟩
    | true =>
      have HEX := HEX2.out
      rw [hE] at HEX
      have hys := Lib.hid (HY.out hE)
      clear HN HY hE qx qy q4
      go_wp2
      refine wpIn_cond_true rfl ?_
      generalize hV2 : V.drew = V2 at *
      have hv : Boxed V2 b8 28 v := by rw [← hV2]; exact HV.out
      have hrow : V2.ownsRow w.heap.size 48 2 v (brT E pre).length (tlV (brT E pre)) := by rw [← hV2]; exact HR.out.drew
      have h4 := below_row HVD.out H4.out
      have h5 := below_row HVD.out H5.out
      have h9 := below_row HVD.out H9.out
      have hgr := below_row HVD.out HG.out
      have hbw2 := HBW.out.trans (HVD.out.mono HBW.out.size)
      have hsz2 := hbw2.size
      have hcv := hv.cell
      have hlv := hv.lt
      have H9' := Lib.hid h9
      have n9 := ne_objP h9 hv (fun e => by injection e with _ e2 _; exact absurd e2 (by decide))
      have n4 := ne_objP h4 hv (fun e => by injection e with _ e2 _; exact absurd e2 (by decide))
      have n5 := ne_objP h5 hv (fun e => by injection e with _ e2 _; exact absurd e2 (by decide))
      have nG := ne_objP hgr hv (fun e => by injection e with _ e2 _; exact absurd e2 (by decide))
      have HW2 := Lib.hid (And.intro h4 (And.intro h5 hgr))
      have hks : (tileC (x : Int) (y : Int)).size = 2 := rfl
      clear HV HR H4 H5 H9 HG h4 h5 h9 hgr hl9
      refine region_plain_round (by rfl) (fun ⟨_, _, h⟩ => h) ?_
      go_wp2_with (first | (refine wpList_load_part rfl 48 _ rfl b9 0 2 rfl 48 (tileC (x : Int) (y : Int)) (0, 0) _ H9'.out Tryd.underlying48 rfl info_tile (Nat.le_refl _) (tileC (x : Int) (y : Int)) rfl ?_) | (at_builtin; go_loud (refine wpList_append_own _ rfl _ _ 28 rfl w.heap.size 48 i0 (.agg #[.int .i8 0, .int .i8 0]) 2 2 Tryd.underlying28 hin hz0 hz1 hz2 rfl (by decide) _ _ _ rfl (hrow.alloc _) ⟨V2.heap.size, 0, none⟩ 1 1 (tileC (x : Int) (y : Int)).toList rfl rfl (cells_newE _ _ _) (fun u hu => tile_one _ _ u (by simpa using hu)) (by unfold maxLen; omega) (by omega) (by simp; omega) ?_); intro v' w1 hown' hgrow _; obtain ⟨g', cap', rfl⟩ := ownsRow_succP hown'; obtain ⟨hv1, hv2, hr2, hk2, hbA⟩ := hv.appended (by decide) hrow hsz2 (by omega) hown' hgrow; have hc1 := hv1.cell; have hf1 := hv1.frozen))
      obtain ⟨a4, a5, aG⟩ := HW2.out
      have hgr : (V2.alloc (.cells _ 48)).grownBy w1 v.ownBlock := hgrow
      have keep : ∀ (g : Nat) (o : Obj), V2.heap[g]? = some o → some g ≠ v.ownBlock → g ≠ b8 → (w1.setCell ⟨b8, 0, none⟩ (.slice (some ⟨g', 0, none⟩) ((brT E pre).length + 1) cap')).heap[g]? = some o := fun g o h hne hn => (heap_setCell_other _ _ _ _ (by simpa using hn)).trans (keep_appP h hne hgr)
      have s4 := keep _ _ a4 (row_neP a4 (fun cs fr h => by injection h with _ e2 _; exact absurd e2 (by decide)) hrow) n4
      have s5 := keep _ _ a5 (row_neP a5 (fun cs fr h => by injection h with _ e2 _; exact absurd e2 (by decide)) hrow) n5
      have sG := keep _ _ aG (row_neP aG (fun cs fr h => by injection h with _ e2 _; exact absurd e2 (by decide)) hrow) nG
      gi_wp2
      refine ⟨((keeps_of_belowWE HVD.out).trans hk2).from _, fun o ho => ?_, ⟨_, hv2, ?_, trivial⟩, s4, s5, sG, hbw2.trans hbA⟩
      · have h4 := below_row HVD.out ho
        rw [aG] at h4
        injection h4 with h4
        subst h4
        exact sG
      · rw [hys.out, tlV_snoc, List.length_append, List.length_singleton]
        exact hr2
  case done =>
    clear H0 H4 H5 H8 HXE HXL
    rintro D zs V hD rfl ⟨⟨v, hv, hrow, -⟩, -, h5, -, hb⟩ hK
    rename_i K hcont
    have hD' : w.heap.size ≤ D := by first | omega | (simp at hD; omega)
    obtain ⟨ts, hts⟩ : ∃ ts, ts = brT E (tks W H hW hH (W * H)) := ⟨_, rfl⟩
    have hln := brT_len E (tks W H hW hH (W * H))
    have hok := brT_ok hW1 hH1 E (tks W H hW hH (W * H))
    rw [tks_length] at hln
    rw [← hts] at hrow hok hln HRR
    have hln2 : ts.length ≤ 100 := Nat.le_trans hln (Nat.le_trans (Nat.mul_le_mul hW1 hH1) (by decide))
    have hPL : Hid (∀ g10 g11 g12 gt gm V', QS w D (.deferred (some [])) n b5 b8 gt g10 gm g11 g12 v ts (.func (.func 39) #[] #[.pointer (some ⟨b5, 0, none⟩), .pointer (some ⟨b8, 0, none⟩), .pointer (some ⟨g11, 0, none⟩), .pointer (some ⟨g10, 0, none⟩), .pointer (some ⟨g12, 0, none⟩)]) [] V' → Calls Tryd.prog 39 #[.int .i64 0, .int .i64 0, .pointer (some ⟨b5, 0, none⟩), .pointer (some ⟨b8, 0, none⟩), .pointer (some ⟨g11, 0, none⟩), .pointer (some ⟨g10, 0, none⟩), .pointer (some ⟨g12, 0, none⟩)] V' fun e W' => e = .returned (.bool (resT [] R).1) ∧ QS w D (.deferred (some [])) n b5 b8 gt g10 gm g11 g12 v ts (.func (.func 39) #[] #[.pointer (some ⟨b5, 0, none⟩), .pointer (some ⟨b8, 0, none⟩), .pointer (some ⟨g11, 0, none⟩), .pointer (some ⟨g10, 0, none⟩), .pointer (some ⟨g12, 0, none⟩)]) (resT [] R).2 W') := Lib.hid (fun g10 g11 g12 gt gm V' h => by
      have := place_any w D (.deferred (some [])) n b5 b8 gt g10 gm g11 g12 v ts hok (by omega) hln2 n [] 0 V' (by simp) (Nat.zero_le _) (fun p hp => by cases hp) h
      rw [← HRR.out] at this
      exact this)
    have hRL : ∀ r, R = some r → r.length = n := fun r hr => by
      have := put_len n [] 0 r (by rw [← HRR.out]; exact hr)
      simpa using this
    have c5 : V.cell? ⟨b5, 0, none⟩ = some (.int .i64 (n : Int)) := by rw [cell_of_row _ _ _ _ _ _ h5]; rfl
    have hmk := fun w => make_tiles n (by omega) w
    have hmm := @run_makeMap Tryd.prog
    have H5 := Lib.hid h5
    have HV := Lib.hid hv
    have HR := Lib.hid hrow
    have HK := Lib.hid hK
    have HBV := Lib.hid hb
    have HRL := Lib.hid hRL
    clear hok hln hts h5 hv hrow hK hb hRL HRR HB hD
    refine hcont _ _ ?_
    go_upto_region 7 with (fail)
    refine abs_world (fun X => Below V.heap.size V X ∧ X.heap[V.heap.size]? = some (.cells (madeCells #[.int .i8 0, .int .i8 0] (n * 2)) 48 (0, 0)) ∧ X.heap[V.heap.size + 1]? = some (.cells #[.slice (some ⟨V.heap.size, 0, none⟩) n n] 28 (0, 0))) ?hw1 ?_
    case hw1 =>
      have hbm : Below V.heap.size V (V.alloc (.cells (madeCells #[.int .i8 0, .int .i8 0] (n * 2)) 48)) := (Below.refl _ _).alloc (Nat.le_refl _) _
      have k := new_cellP (V.alloc (.cells (madeCells #[.int .i8 0, .int .i8 0] (n * 2)) 48)) (.slice (some ⟨V.heap.size, 0, none⟩) n n) 28
      have k1 := k.1
      have hsz : (V.alloc (.cells (madeCells #[.int .i8 0, .int .i8 0] (n * 2)) 48)).heap.size = V.heap.size + 1 := by simp
      rw [hsz] at k1
      exact ⟨hbm.trans (k.2.mono hbm.size), below_row k.2 (heap_alloc_new _ _), k1⟩
    have lgt := HV.out.lt
    have lDt := row_lt HK.out
    have lV : V.heap.size < V.heap.size + 1 := Nat.lt_succ_self _
    clear c5 hmk
    generalize hgt : V.heap.size = gt at *
    generalize gt + 1 = g10 at *
    rintro X1 ⟨hb1, ht, h10⟩
    go_upto_region 8 with (fail)
    refine abs_world (fun X => Below gt V X ∧ X.heap[gt]? = some (.cells (madeCells #[.int .i8 0, .int .i8 0] (n * 2)) 48 (0, 0)) ∧ X.heap[g10]? = some (.cells #[.slice (some ⟨gt, 0, none⟩) n n] 28 (0, 0)) ∧ X.heap[X1.heap.size]? = some (.map #[] 0) ∧ X.heap[X1.heap.size + 1]? = some (.cells #[.map (some X1.heap.size)] 77 (0, 0))) ?hw2 ?_
    case hw2 =>
      have hbm : Below X1.heap.size X1 (X1.alloc (.map #[] 0)) := (Below.refl _ _).alloc (Nat.le_refl _) _
      have k := new_cellP (X1.alloc (.map #[] 0)) (.map (some X1.heap.size)) 77
      have k1 := k.1
      have hsz : (X1.alloc (.map #[] 0)).heap.size = X1.heap.size + 1 := by simp
      rw [hsz] at k1
      have hbk := hbm.trans (k.2.mono hbm.size)
      exact ⟨hb1.trans (hbk.mono (by have := hb1.size; omega)), below_row hbk ht, below_row hbk h10, below_row k.2 (heap_alloc_new _ _), k1⟩
    have l10 := row_lt h10
    have lX : X1.heap.size < X1.heap.size + 1 := Nat.lt_succ_self _
    clear hb1 ht h10 hmm
    generalize X1.heap.size + 1 = g11 at *
    generalize X1.heap.size = gm at *
    rintro X2 ⟨hb1, ht, h10, hm, h11⟩
    go_upto_region 10 with (fail)
    refine abs_world (fun X => QS w D (.deferred (some [])) n b5 b8 gt g10 gm g11 X2.heap.size v ts (.func (.func 39) #[] #[.pointer (some ⟨b5, 0, none⟩), .pointer (some ⟨b8, 0, none⟩), .pointer (some ⟨g11, 0, none⟩), .pointer (some ⟨g10, 0, none⟩), .pointer (some ⟨X2.heap.size, 0, none⟩)]) [] X) ?hw3 ?_
    case hw3 =>
      have k := new_cellP X2 (.func (.func 39) #[] #[.pointer (some ⟨b5, 0, none⟩), .pointer (some ⟨b8, 0, none⟩), .pointer (some ⟨g11, 0, none⟩), .pointer (some ⟨g10, 0, none⟩), .pointer (some ⟨X2.heap.size, 0, none⟩)]) 78
      have hbk : Below V.heap.size V (X2.alloc (.cells #[.func (.func 39) #[] #[.pointer (some ⟨b5, 0, none⟩), .pointer (some ⟨b8, 0, none⟩), .pointer (some ⟨g11, 0, none⟩), .pointer (some ⟨g10, 0, none⟩), .pointer (some ⟨X2.heap.size, 0, none⟩)]] 78)) := by rw [hgt]; exact hb1.trans (k.2.mono (by have := hb1.size; omega))
      exact ⟨below_row hbk H5.out, below_row hbk HV.out, owns_bE HR.out hbk, fun j hj => by rw [← hgt]; exact (HR.out.lt j hj).2, ⟨_, _, below_row k.2 ht, rfl, size_madeCells _ _⟩, below_row k.2 h10, ⟨#[], 0, below_row k.2 hm, tm_nil _⟩, below_row k.2 h11, k.1, HBV.out.trans (hbk.mono HBV.out.size), by omega, by omega, by omega, by omega, by omega, by omega, row_lt h11, below_row hbk HK.out, by omega⟩
    clear hb1 ht h10 hm h11 H5 HV HR HK lX l10 lV
    generalize X2.heap.size = g12 at *
    rintro X3 hqs
    have HQS := Lib.hid hqs
    have HPC := Lib.hid (hPL.out g10 g11 g12 gt gm _ hqs)
    have c12 := hqs.cells.2.2.2.2
    have enterPl' := enterPl
    clear hqs hPL
    cases R with
    | some r =>
      go_upto_region 12 with (go_at_call 39; refine HPC.out.mono ?_; rintro e X5 ⟨rfl, hq5⟩; have HQ5 := Lib.hid hq5; clear hq5; dsimp only [resT])
      have hrl := HRL.out r rfl
      obtain ⟨cur, rest, k1, k2, k3⟩ := HQ5.out.ht
      have c10 := HQ5.out.cells.2.2.1
      have hKD := Lib.hid HQ5.out.hD
      have HBX := Lib.hid HQ5.out.hb
      have hgw : w.heap.size ≤ gt := by omega
      have HO : Hid (X5.ownsRow w.heap.size 48 2 (.slice (some ⟨gt, 0, none⟩) n n) r.length (tlV r)) := Lib.hid (by
        have hlr := tlV_len r
        have hc : cur.toList.length = n * 2 := by rw [← k3]; rfl
        refine ⟨hlr, .inr ⟨gt, n, cur, by rw [hrl], hgw, k1, by omega, by unfold maxLen; omega, k3, ?_⟩⟩
        rw [k2]; exact List.take_left' hlr)
      clear HQ5 HQS HPC k1 k2 k3 c12 enterPl' hrl HRL
      go_wp2
      refine ⟨by simp, .inl ⟨_, _, rfl, run_takeDeferred hKD.out, ?_⟩⟩
      exact ⟨_, results_tmp2 (fn := Tryd.f25) rfl _ _ _, ⟨_, rfl, ownsRow_putObj HO.out _ hKD.out rfl⟩, HBX.out.trans (belowK_b (w := w) (Nat.le_refl _) _ D _ _ hD' hKD.out rfl rfl)⟩
    | none =>
      go_upto_region 11 with (go_at_call 39; refine HPC.out.mono ?_; rintro e X5 ⟨rfl, hq5⟩; have HQ5 := Lib.hid hq5; clear hq5; dsimp only [resT])
      have hKD := Lib.hid HQ5.out.hD
      have HBX := Lib.hid HQ5.out.hb
      have HEX := Lib.hid (errs_below HX.out HBX.out)
      clear HQ5 HQS HPC c12 enterPl' HRL
      refine wp_onlyL ?_
      refine wp_region_held_drew (S := (fun X => ErrsAt X e0 e1 e2 e3 ∧ X.heap[D]? = some (.deferred (some [])) ∧ Below w.heap.size w X)) (by kernel_rfl) ⟨errs_below HEX.out ((Below.refl _ _).drew), hKD.out, HBX.out.drew⟩ (fun hHeld => ?_)
      refine take_op (i := 0) (d := 36) (v := ?_) rfl rfl (by kernel_rfl) (by kernel_rfl) (by kernel_rfl) (fun _ _ _ h => h) (Or.inl ⟨by rfl, ?hy0u1⟩) hHeld ?rest0u1
      case hy0u1 =>
        intro w' hS'
        have c3 := hS'.1.v3
        go_simp
        try with_reducible rfl
      simp only [List.setIfInBounds_toArray, List.set_cons_zero, List.set_cons_succ]
      refine take_op (i := 1) (d := 6) (v := ?_) rfl rfl (by kernel_rfl) (by kernel_rfl) (by kernel_rfl) (fun _ _ _ h => h) (Or.inl ⟨by rfl, ?hy1u2⟩) hHeld ?rest1u2
      case hy1u2 =>
        intro w' hS'
        go_simp
        try with_reducible rfl
      simp only [List.setIfInBounds_toArray, List.set_cons_zero, List.set_cons_succ]
      refine take_op (i := 2) (d := 7) (v := ?_) rfl rfl (by kernel_rfl) (by kernel_rfl) (by kernel_rfl) (fun _ _ _ h => h) (Or.inl ⟨by rfl, ?hy2u3⟩) hHeld ?rest2u3
      case hy2u3 =>
        intro w' hS'
        go_simp
        try with_reducible rfl
      simp only [List.setIfInBounds_toArray, List.set_cons_zero, List.set_cons_succ]
      refine wpAnyH_done (by kernel_rfl) ?_ _

      obtain ⟨-, hKD2, hbz⟩ := hHeld
      go_wp2
      refine ⟨by simp, .inl ⟨_, _, rfl, run_takeDeferred hKD2, ?_⟩⟩
      exact ⟨_, results_tmp2 (fn := Tryd.f25) rfl _ _ _, ⟨_, rfl, World.ownsRow_nil _ _ _ _⟩, hbz.trans (belowK_b (w := w) (Nat.le_refl _) _ D _ _ hD' hKD2 rfl rfl)⟩
  case stop =>
    rintro D c pre V _ _ h _
    exact h.elim

end Go.Proofs.YtddnfbpgldchcaaDoor

namespace Go.Proofs.YtddnfbpgldchcaaDoor
open Go.ChangeShapes Go.WideShapes Go.ChangeAt Go.RowKit Go.Deep Go.Joins Go.Shelf Go.ChangeMaps

attribute [local go_sem] run_store_floatE

/-- Whether the numbers are in their ranges. -/
def pdIn (le : Nat) (mn : Int) : Bool := fin32 le && decide (0 ≤ mn) && decide (mn ≤ 5)

theorem owns_baseX {V : World} {b B k s : Nat} {e : TypeId} {v : Value} {xs : List Value} (h : V.ownsRow b e s v k xs) (hB : B ≤ b) : V.ownsRow B e s v k xs := by
  refine ⟨h.1, h.2.imp id ?_⟩
  rintro ⟨g, cap, cur, e1, hg, hc⟩
  exact ⟨g, cap, cur, e1, by omega, hc⟩

set_option maxRecDepth 100000 in
set_option maxHeartbeats 4000000 in
theorem iPd_n1 (wd hg : Int) (sv : Value) (ws : List Wn) (le : Nat) (mn : Int) (e0 e1 e2 e3 : Addr) (w : World) (hws : WinsAt w sv ws) (hE : ErrsAt w e0 e1 e2 e3) (hv : okRm wd hg ws = false) :
    Calls Tryd.prog 7 #[.agg (roomC wd hg sv), .float .f32 le, .int .i64 mn] w fun e w' => (∃ v, e = .returned (.tuple #[v, .int .i64 1]) ∧ w'.ownsRow w.heap.size 48 2 v 0 (tlV [])) ∧ Below w.heap.size w w' := by
  have HVR : Hid (∀ V, WinsAt V sv ws → Calls Tryd.prog 23 #[.agg (roomC wd hg sv)] V fun e w' => e = .returned (.bool false) ∧ Below V.heap.size V w') := Lib.hid (fun V h => by have := ValidRoom_any wd hg sv ws V h; rw [hv] at this; exact this)
  have HW := Lib.hid hws
  have HX := Lib.hid hE
  have hn := fun w => run_neq_held_nil (P := Tryd.prog) (w := w) 53 122 (.pointer (some e0)) (by kernel_rfl)
  have HNM0 := Lib.hid (fun V => iNumT le V)
  have hrr : pdIn le mn = (fin32 le && decide (0 ≤ mn) && decide (mn ≤ 5)) := rfl
  have key : (True ∧ fin32 le = true ∧ 0 ≤ mn ∧ mn ≤ 5) ∨ (fin32 le = true ∧ 0 ≤ mn ∧ ¬ mn ≤ 5) ∨ (fin32 le = true ∧ ¬ 0 ≤ mn) ∨ fin32 le = false := by
    skip
    cases hf : fin32 le with
    | false => exact .inr (.inr (.inr rfl))
    | true =>
      by_cases h0 : 0 ≤ mn
      · by_cases h5 : mn ≤ 5
        · exact .inl ⟨trivial, rfl, h0, h5⟩
        · exact .inr (.inl ⟨rfl, h0, h5⟩)
      · exact .inr (.inr (.inl ⟨rfl, h0⟩))
  clear hws hE hv hrr 
  rcases key with ⟨hx, hf, h0, h5⟩ | key
  · have HNM : Hid (∀ V, Calls Tryd.prog 21 #[.float .f32 le] V fun e w' => e = .returned (.bool true) ∧ V = w') := Lib.hid (fun V => by have := HNM0.out V; rw [hf] at this; exact this)
    have HRF : Hid (∀ V, ErrsAt V e0 e1 e2 e3 → Calls Tryd.prog 22 #[.bool false, .bool true, .bool true] V fun e w' => e = .returned (.iface 122 (.pointer (some e0))) ∧ V = w') := Lib.hid (fun V h => refusal_any h false true true)
    clear HNM0 hf
    go_enter Tryd.func7, Tryd.ntmps7
    go_upto_region 1 with (fail)
    refine abs_world (fun V => V.heap[w.heap.size]? = some (.cells (roomC wd hg sv) 33 (0, 0)) ∧ Below w.heap.size w V) ⟨heap_alloc_new _ _, (Below.refl _ _).alloc (Nat.le_refl _) _⟩ ?_
    rintro V ⟨h0, hb⟩
    have H0 := Lib.hid h0
    have HV := Lib.hid (wins_below HW.out hb)
    replace HX := Lib.hid (errs_below HX.out hb)
    clear h0
    go_wp2_with (first | (refine wpList_load_part rfl 33 _ rfl w.heap.size 0 3 rfl 33 (roomC wd hg sv) (0, 0) _ H0.out Tryd.underlying33 rfl info_room (room_fits _ _ _) _ (room_all _ _ _) ?_) | (go_at_call 23; refine (HVR.out _ HV.out).mono ?_; rintro e W1 ⟨rfl, hb1⟩; replace H0 := Lib.hid (below_row hb1 H0.out); replace HV := Lib.hid (wins_below HV.out hb1); replace HX := Lib.hid (errs_below HX.out hb1); replace hb := hb.trans (hb1.mono hb.size); clear hb1) | (go_at_call 21; refine (HNM.out _).mono ?_; rintro e w' ⟨rfl, rfl⟩) | (go_at_call 22; refine (HRF.out _ HX.out).mono ?_; rintro e W3 ⟨rfl, rfl⟩) | (go_at_call 24; refine (codeOf_any HX.out 1).mono ?_; rintro e W4 ⟨rfl, rfl⟩))
    go_ret2
    exact ⟨⟨_, rfl, World.ownsRow_nil _ _ _ _⟩, hb⟩
  rcases key with ⟨hf, h0, h5⟩ | key
  · have HNM : Hid (∀ V, Calls Tryd.prog 21 #[.float .f32 le] V fun e w' => e = .returned (.bool true) ∧ V = w') := Lib.hid (fun V => by have := HNM0.out V; rw [hf] at this; exact this)
    have HRF : Hid (∀ V, ErrsAt V e0 e1 e2 e3 → Calls Tryd.prog 22 #[.bool false, .bool false, .bool true] V fun e w' => e = .returned (.iface 122 (.pointer (some e0))) ∧ V = w') := Lib.hid (fun V h => refusal_any h false false true)
    have h5d : decide (mn ≤ 5) = false := decide_eq_false h5
    clear HNM0 hf
    go_enter Tryd.func7, Tryd.ntmps7
    go_upto_region 1 with (fail)
    refine abs_world (fun V => V.heap[w.heap.size]? = some (.cells (roomC wd hg sv) 33 (0, 0)) ∧ Below w.heap.size w V) ⟨heap_alloc_new _ _, (Below.refl _ _).alloc (Nat.le_refl _) _⟩ ?_
    rintro V ⟨h0, hb⟩
    have H0 := Lib.hid h0
    have HV := Lib.hid (wins_below HW.out hb)
    replace HX := Lib.hid (errs_below HX.out hb)
    clear h0
    go_wp2_with (first | (refine wpList_load_part rfl 33 _ rfl w.heap.size 0 3 rfl 33 (roomC wd hg sv) (0, 0) _ H0.out Tryd.underlying33 rfl info_room (room_fits _ _ _) _ (room_all _ _ _) ?_) | (go_at_call 23; refine (HVR.out _ HV.out).mono ?_; rintro e W1 ⟨rfl, hb1⟩; replace H0 := Lib.hid (below_row hb1 H0.out); replace HV := Lib.hid (wins_below HV.out hb1); replace HX := Lib.hid (errs_below HX.out hb1); replace hb := hb.trans (hb1.mono hb.size); clear hb1) | (go_at_call 21; refine (HNM.out _).mono ?_; rintro e w' ⟨rfl, rfl⟩) | (go_at_call 22; refine (HRF.out _ HX.out).mono ?_; rintro e W3 ⟨rfl, rfl⟩) | (go_at_call 24; refine (codeOf_any HX.out 1).mono ?_; rintro e W4 ⟨rfl, rfl⟩))
    go_ret2
    exact ⟨⟨_, rfl, World.ownsRow_nil _ _ _ _⟩, hb⟩
  rcases key with ⟨hf, h0⟩ | key
  · have HNM : Hid (∀ V, Calls Tryd.prog 21 #[.float .f32 le] V fun e w' => e = .returned (.bool true) ∧ V = w') := Lib.hid (fun V => by have := HNM0.out V; rw [hf] at this; exact this)
    have HRF : Hid (∀ V, ErrsAt V e0 e1 e2 e3 → Calls Tryd.prog 22 #[.bool false, .bool false, .bool true] V fun e w' => e = .returned (.iface 122 (.pointer (some e0))) ∧ V = w') := Lib.hid (fun V h => refusal_any h false false true)
    have h0d : decide (mn ≥ 0) = false := decide_eq_false h0
    clear HNM0 hf
    go_enter Tryd.func7, Tryd.ntmps7
    go_upto_region 1 with (fail)
    refine abs_world (fun V => V.heap[w.heap.size]? = some (.cells (roomC wd hg sv) 33 (0, 0)) ∧ Below w.heap.size w V) ⟨heap_alloc_new _ _, (Below.refl _ _).alloc (Nat.le_refl _) _⟩ ?_
    rintro V ⟨h0, hb⟩
    have H0 := Lib.hid h0
    have HV := Lib.hid (wins_below HW.out hb)
    replace HX := Lib.hid (errs_below HX.out hb)
    clear h0
    go_wp2_with (first | (refine wpList_load_part rfl 33 _ rfl w.heap.size 0 3 rfl 33 (roomC wd hg sv) (0, 0) _ H0.out Tryd.underlying33 rfl info_room (room_fits _ _ _) _ (room_all _ _ _) ?_) | (go_at_call 23; refine (HVR.out _ HV.out).mono ?_; rintro e W1 ⟨rfl, hb1⟩; replace H0 := Lib.hid (below_row hb1 H0.out); replace HV := Lib.hid (wins_below HV.out hb1); replace HX := Lib.hid (errs_below HX.out hb1); replace hb := hb.trans (hb1.mono hb.size); clear hb1) | (go_at_call 21; refine (HNM.out _).mono ?_; rintro e w' ⟨rfl, rfl⟩) | (go_at_call 22; refine (HRF.out _ HX.out).mono ?_; rintro e W3 ⟨rfl, rfl⟩) | (go_at_call 24; refine (codeOf_any HX.out 1).mono ?_; rintro e W4 ⟨rfl, rfl⟩))
    go_ret2
    exact ⟨⟨_, rfl, World.ownsRow_nil _ _ _ _⟩, hb⟩
  have hf := key
  have HNM : Hid (∀ V, Calls Tryd.prog 21 #[.float .f32 le] V fun e w' => e = .returned (.bool false) ∧ V = w') := Lib.hid (fun V => by have := HNM0.out V; rw [hf] at this; exact this)
  have HRF : Hid (∀ V, ErrsAt V e0 e1 e2 e3 → Calls Tryd.prog 22 #[.bool false, .bool false, .bool true] V fun e w' => e = .returned (.iface 122 (.pointer (some e0))) ∧ V = w') := Lib.hid (fun V h => refusal_any h false false true)
  clear HNM0 hf
  go_enter Tryd.func7, Tryd.ntmps7
  go_upto_region 1 with (fail)
  refine abs_world (fun V => V.heap[w.heap.size]? = some (.cells (roomC wd hg sv) 33 (0, 0)) ∧ Below w.heap.size w V) ⟨heap_alloc_new _ _, (Below.refl _ _).alloc (Nat.le_refl _) _⟩ ?_
  rintro V ⟨h0, hb⟩
  have H0 := Lib.hid h0
  have HV := Lib.hid (wins_below HW.out hb)
  replace HX := Lib.hid (errs_below HX.out hb)
  clear h0
  go_wp2_with (first | (refine wpList_load_part rfl 33 _ rfl w.heap.size 0 3 rfl 33 (roomC wd hg sv) (0, 0) _ H0.out Tryd.underlying33 rfl info_room (room_fits _ _ _) _ (room_all _ _ _) ?_) | (go_at_call 23; refine (HVR.out _ HV.out).mono ?_; rintro e W1 ⟨rfl, hb1⟩; replace H0 := Lib.hid (below_row hb1 H0.out); replace HV := Lib.hid (wins_below HV.out hb1); replace HX := Lib.hid (errs_below HX.out hb1); replace hb := hb.trans (hb1.mono hb.size); clear hb1) | (go_at_call 21; refine (HNM.out _).mono ?_; rintro e w' ⟨rfl, rfl⟩) | (go_at_call 22; refine (HRF.out _ HX.out).mono ?_; rintro e W3 ⟨rfl, rfl⟩) | (go_at_call 24; refine (codeOf_any HX.out 1).mono ?_; rintro e W4 ⟨rfl, rfl⟩))
  go_ret2
  exact ⟨⟨_, rfl, World.ownsRow_nil _ _ _ _⟩, hb⟩

set_option maxRecDepth 100000 in
set_option maxHeartbeats 4000000 in
theorem iPd_n2 (wd hg : Int) (sv : Value) (ws : List Wn) (le : Nat) (mn : Int) (e0 e1 e2 e3 : Addr) (w : World) (hws : WinsAt w sv ws) (hE : ErrsAt w e0 e1 e2 e3) (hv : okRm wd hg ws = true) (hr : pdIn le mn = false) :
    Calls Tryd.prog 7 #[.agg (roomC wd hg sv), .float .f32 le, .int .i64 mn] w fun e w' => (∃ v, e = .returned (.tuple #[v, .int .i64 2]) ∧ w'.ownsRow w.heap.size 48 2 v 0 (tlV [])) ∧ Below w.heap.size w w' := by
  have HVR : Hid (∀ V, WinsAt V sv ws → Calls Tryd.prog 23 #[.agg (roomC wd hg sv)] V fun e w' => e = .returned (.bool true) ∧ Below V.heap.size V w') := Lib.hid (fun V h => by have := ValidRoom_any wd hg sv ws V h; rw [hv] at this; exact this)
  have HW := Lib.hid hws
  have HX := Lib.hid hE
  have hn := fun w => run_neq_held_nil (P := Tryd.prog) (w := w) 53 122 (.pointer (some e1)) (by kernel_rfl)
  have HNM0 := Lib.hid (fun V => iNumT le V)
  have hrr : pdIn le mn = (fin32 le && decide (0 ≤ mn) && decide (mn ≤ 5)) := rfl
  have key : (False ∧ fin32 le = true ∧ 0 ≤ mn ∧ mn ≤ 5) ∨ (fin32 le = true ∧ 0 ≤ mn ∧ ¬ mn ≤ 5) ∨ (fin32 le = true ∧ ¬ 0 ≤ mn) ∨ fin32 le = false := by
    rw [hr] at hrr
    cases hf : fin32 le with
    | false => exact .inr (.inr (.inr rfl))
    | true =>
      by_cases h0 : 0 ≤ mn
      · by_cases h5 : mn ≤ 5
        · rw [hf, decide_eq_true h0, decide_eq_true h5] at hrr; cases hrr
        · exact .inr (.inl ⟨rfl, h0, h5⟩)
      · exact .inr (.inr (.inl ⟨rfl, h0⟩))
  clear hws hE hv hrr hr
  rcases key with ⟨hx, hf, h0, h5⟩ | key
  · exact hx.elim
  rcases key with ⟨hf, h0, h5⟩ | key
  · have HNM : Hid (∀ V, Calls Tryd.prog 21 #[.float .f32 le] V fun e w' => e = .returned (.bool true) ∧ V = w') := Lib.hid (fun V => by have := HNM0.out V; rw [hf] at this; exact this)
    have HRF : Hid (∀ V, ErrsAt V e0 e1 e2 e3 → Calls Tryd.prog 22 #[.bool true, .bool false, .bool true] V fun e w' => e = .returned (.iface 122 (.pointer (some e1))) ∧ V = w') := Lib.hid (fun V h => refusal_any h true false true)
    have h5d : decide (mn ≤ 5) = false := decide_eq_false h5
    clear HNM0 hf
    go_enter Tryd.func7, Tryd.ntmps7
    go_upto_region 1 with (fail)
    refine abs_world (fun V => V.heap[w.heap.size]? = some (.cells (roomC wd hg sv) 33 (0, 0)) ∧ Below w.heap.size w V) ⟨heap_alloc_new _ _, (Below.refl _ _).alloc (Nat.le_refl _) _⟩ ?_
    rintro V ⟨h0, hb⟩
    have H0 := Lib.hid h0
    have HV := Lib.hid (wins_below HW.out hb)
    replace HX := Lib.hid (errs_below HX.out hb)
    clear h0
    go_wp2_with (first | (refine wpList_load_part rfl 33 _ rfl w.heap.size 0 3 rfl 33 (roomC wd hg sv) (0, 0) _ H0.out Tryd.underlying33 rfl info_room (room_fits _ _ _) _ (room_all _ _ _) ?_) | (go_at_call 23; refine (HVR.out _ HV.out).mono ?_; rintro e W1 ⟨rfl, hb1⟩; replace H0 := Lib.hid (below_row hb1 H0.out); replace HV := Lib.hid (wins_below HV.out hb1); replace HX := Lib.hid (errs_below HX.out hb1); replace hb := hb.trans (hb1.mono hb.size); clear hb1) | (go_at_call 21; refine (HNM.out _).mono ?_; rintro e w' ⟨rfl, rfl⟩) | (go_at_call 22; refine (HRF.out _ HX.out).mono ?_; rintro e W3 ⟨rfl, rfl⟩) | (go_at_call 24; refine (codeOf_any HX.out 2).mono ?_; rintro e W4 ⟨rfl, rfl⟩))
    go_ret2
    exact ⟨⟨_, rfl, World.ownsRow_nil _ _ _ _⟩, hb⟩
  rcases key with ⟨hf, h0⟩ | key
  · have HNM : Hid (∀ V, Calls Tryd.prog 21 #[.float .f32 le] V fun e w' => e = .returned (.bool true) ∧ V = w') := Lib.hid (fun V => by have := HNM0.out V; rw [hf] at this; exact this)
    have HRF : Hid (∀ V, ErrsAt V e0 e1 e2 e3 → Calls Tryd.prog 22 #[.bool true, .bool false, .bool true] V fun e w' => e = .returned (.iface 122 (.pointer (some e1))) ∧ V = w') := Lib.hid (fun V h => refusal_any h true false true)
    have h0d : decide (mn ≥ 0) = false := decide_eq_false h0
    clear HNM0 hf
    go_enter Tryd.func7, Tryd.ntmps7
    go_upto_region 1 with (fail)
    refine abs_world (fun V => V.heap[w.heap.size]? = some (.cells (roomC wd hg sv) 33 (0, 0)) ∧ Below w.heap.size w V) ⟨heap_alloc_new _ _, (Below.refl _ _).alloc (Nat.le_refl _) _⟩ ?_
    rintro V ⟨h0, hb⟩
    have H0 := Lib.hid h0
    have HV := Lib.hid (wins_below HW.out hb)
    replace HX := Lib.hid (errs_below HX.out hb)
    clear h0
    go_wp2_with (first | (refine wpList_load_part rfl 33 _ rfl w.heap.size 0 3 rfl 33 (roomC wd hg sv) (0, 0) _ H0.out Tryd.underlying33 rfl info_room (room_fits _ _ _) _ (room_all _ _ _) ?_) | (go_at_call 23; refine (HVR.out _ HV.out).mono ?_; rintro e W1 ⟨rfl, hb1⟩; replace H0 := Lib.hid (below_row hb1 H0.out); replace HV := Lib.hid (wins_below HV.out hb1); replace HX := Lib.hid (errs_below HX.out hb1); replace hb := hb.trans (hb1.mono hb.size); clear hb1) | (go_at_call 21; refine (HNM.out _).mono ?_; rintro e w' ⟨rfl, rfl⟩) | (go_at_call 22; refine (HRF.out _ HX.out).mono ?_; rintro e W3 ⟨rfl, rfl⟩) | (go_at_call 24; refine (codeOf_any HX.out 2).mono ?_; rintro e W4 ⟨rfl, rfl⟩))
    go_ret2
    exact ⟨⟨_, rfl, World.ownsRow_nil _ _ _ _⟩, hb⟩
  have hf := key
  have HNM : Hid (∀ V, Calls Tryd.prog 21 #[.float .f32 le] V fun e w' => e = .returned (.bool false) ∧ V = w') := Lib.hid (fun V => by have := HNM0.out V; rw [hf] at this; exact this)
  have HRF : Hid (∀ V, ErrsAt V e0 e1 e2 e3 → Calls Tryd.prog 22 #[.bool true, .bool false, .bool true] V fun e w' => e = .returned (.iface 122 (.pointer (some e1))) ∧ V = w') := Lib.hid (fun V h => refusal_any h true false true)
  clear HNM0 hf
  go_enter Tryd.func7, Tryd.ntmps7
  go_upto_region 1 with (fail)
  refine abs_world (fun V => V.heap[w.heap.size]? = some (.cells (roomC wd hg sv) 33 (0, 0)) ∧ Below w.heap.size w V) ⟨heap_alloc_new _ _, (Below.refl _ _).alloc (Nat.le_refl _) _⟩ ?_
  rintro V ⟨h0, hb⟩
  have H0 := Lib.hid h0
  have HV := Lib.hid (wins_below HW.out hb)
  replace HX := Lib.hid (errs_below HX.out hb)
  clear h0
  go_wp2_with (first | (refine wpList_load_part rfl 33 _ rfl w.heap.size 0 3 rfl 33 (roomC wd hg sv) (0, 0) _ H0.out Tryd.underlying33 rfl info_room (room_fits _ _ _) _ (room_all _ _ _) ?_) | (go_at_call 23; refine (HVR.out _ HV.out).mono ?_; rintro e W1 ⟨rfl, hb1⟩; replace H0 := Lib.hid (below_row hb1 H0.out); replace HV := Lib.hid (wins_below HV.out hb1); replace HX := Lib.hid (errs_below HX.out hb1); replace hb := hb.trans (hb1.mono hb.size); clear hb1) | (go_at_call 21; refine (HNM.out _).mono ?_; rintro e w' ⟨rfl, rfl⟩) | (go_at_call 22; refine (HRF.out _ HX.out).mono ?_; rintro e W3 ⟨rfl, rfl⟩) | (go_at_call 24; refine (codeOf_any HX.out 2).mono ?_; rintro e W4 ⟨rfl, rfl⟩))
  go_ret2
  exact ⟨⟨_, rfl, World.ownsRow_nil _ _ _ _⟩, hb⟩

set_option maxRecDepth 100000 in
set_option maxHeartbeats 8000000 in
theorem iPd_y (wd hg : Int) (W H : Nat) (hwd : wd = (W : Int)) (hhg : hg = (H : Int)) (hW : 0 < W) (hH : 0 < H) (sv : Value) (ws : List Wn) (hwf : ∀ x ∈ ws, WnWf x) (g : Int × Int → Nat) (hgd : g = fun t => litW (W : Int) (H : Int) t (fun _ => true) ws) (le : Nat) (n : Nat) (hr : pdIn le (n : Int) = true) (R : Option (List (Int × Int))) (hR : R = putT (brT (fun t => enB le (g t)) (tks W H hW hH (W * H))) n [] 0) (e0 e1 e2 e3 : Addr) (w : World) (hws : WinsAt w sv ws) (hE : ErrsAt w e0 e1 e2 e3) (hv : okRm wd hg ws = true) :
    Calls Tryd.prog 7 #[.agg (roomC wd hg sv), .float .f32 le, .int .i64 (n : Int)] w fun e w' => (∃ v, e = .returned (.tuple #[v, .int .i64 (if R.isSome then 0 else 6)]) ∧ w'.ownsRow w.heap.size 48 2 v (R.getD []).length (tlV (R.getD []))) ∧ Below w.heap.size w w' := by
  have ok := okRm_get hv
  have hrr : fin32 le = true ∧ (n : Int) ≤ 5 := by
    unfold pdIn at hr
    rw [Bool.and_eq_true, Bool.and_eq_true] at hr
    exact ⟨hr.1.1, of_decide_eq_true hr.2⟩
  obtain ⟨hfl, h5⟩ := hrr
  have h0 : 0 ≤ (n : Int) := by omega
  have HVR : Hid (∀ V, WinsAt V sv ws → Calls Tryd.prog 23 #[.agg (roomC wd hg sv)] V fun e w' => e = .returned (.bool true) ∧ Below V.heap.size V w') := Lib.hid (fun V h => by have := ValidRoom_any wd hg sv ws V h; rw [hv] at this; exact this)
  have HNM : Hid (∀ V, Calls Tryd.prog 21 #[.float .f32 le] V fun e w' => e = .returned (.bool true) ∧ V = w') := Lib.hid (fun V => by have := iNumT le V; rw [hfl] at this; exact this)
  have HRF : Hid (∀ V, ErrsAt V e0 e1 e2 e3 → Calls Tryd.prog 22 #[.bool true, .bool true, .bool true] V fun e w' => e = .returned .nilIface ∧ V = w') := Lib.hid (fun V h => refusal_any h true true true)
  rw [hwd, hhg] at ok
  have hW1 : W ≤ 10 := by have := ok.w1; omega
  have hH1 : H ≤ 10 := by have := ok.h1; omega
  obtain ⟨P, hP⟩ : ∃ P : Nat → Bool, P = fun k => enB le (g (tk W H hW hH k).1) := ⟨_, rfl⟩
  have HLO : Hid (∀ V, WinsAt V sv ws → Calls Tryd.prog 26 #[.agg (roomC wd hg sv), .float .f32 le] V fun e w' => e = .returned (.agg (u16s (litN P W (W * H)))) ∧ Below V.heap.size V w') := Lib.hid (by
    rw [hwd, hhg]
    exact fun V h => litOf_any W H hW hH sv ws ok hwf g hgd le P hP V h)
  have HPL : Hid (∀ V, ErrsAt V e0 e1 e2 e3 → Calls Tryd.prog 25 #[.agg (roomC wd hg sv), .agg (u16s (litN P W (W * H))), .int .i64 (n : Int)] V fun e w' => (∃ v, e = .returned (.tuple #[v, errOf e0 e1 e2 e3 (if R.isSome then 0 else 4)]) ∧ w'.ownsRow V.heap.size 48 2 v (R.getD []).length (tlV (R.getD []))) ∧ Below V.heap.size V w') := Lib.hid (by
    rw [hwd, hhg]
    refine fun V h => placed_any W H hW hH hW1 hH1 sv (fun t => enB le (g t)) _ (litN_len P W (W * H)) (fun x y hx hy => ?_) n (by omega) e0 e1 e2 e3 V h R hR
    rw [lit_bit P W H hW hW1 hH1 hx hy, hP]
    show enB le (g (tk W H hW hH (y * W + x)).1) = _
    rw [tk_at W H hW hH hx hy])
  have HW := Lib.hid hws
  have HX := Lib.hid hE
  have hn := fun w => run_neq_nil_nil (P := Tryd.prog) (w := w) 53 (by kernel_rfl)
  clear hws hE hv hwf hgd hwd hhg hP ok hR hr hfl
  generalize litN P W (W * H) = lt at *
  go_enter Tryd.func7, Tryd.ntmps7
  go_upto_region 1 with (fail)
  refine abs_world (fun V => V.heap[w.heap.size]? = some (.cells (roomC wd hg sv) 33 (0, 0)) ∧ Below w.heap.size w V) ⟨heap_alloc_new _ _, (Below.refl _ _).alloc (Nat.le_refl _) _⟩ ?_
  rintro V ⟨h0, hb⟩
  have H0 := Lib.hid h0
  have HV := Lib.hid (wins_below HW.out hb)
  replace HX := Lib.hid (errs_below HX.out hb)
  clear h0
  go_upto_region 5 with (first | (refine wpList_load_part rfl 33 _ rfl w.heap.size 0 3 rfl 33 (roomC wd hg sv) (0, 0) _ H0.out Tryd.underlying33 rfl info_room (room_fits _ _ _) _ (room_all _ _ _) ?_) | (go_at_call 23; refine (HVR.out _ HV.out).mono ?_; rintro e W1 ⟨rfl, hb1⟩; replace H0 := Lib.hid (below_row hb1 H0.out); replace HV := Lib.hid (wins_below HV.out hb1); replace HX := Lib.hid (errs_below HX.out hb1); replace hb := hb.trans (hb1.mono hb.size); clear hb1) | (go_at_call 21; refine (HNM.out _).mono ?_; rintro e w' ⟨rfl, rfl⟩) | (go_at_call 22; refine (HRF.out _ HX.out).mono ?_; rintro e W3 ⟨rfl, rfl⟩))
  refine wp_region_held_drew (S := (fun X => X.heap[w.heap.size]? = some (.cells (roomC wd hg sv) 33 (0, 0)) ∧ WinsAt X sv ws ∧ ErrsAt X e0 e1 e2 e3 ∧ Below w.heap.size w X)) (by kernel_rfl) ⟨H0.out, wins_below HV.out (Below.refl _ _).drew, errs_below HX.out (Below.refl _ _).drew, hb.drew⟩ (fun hHeld => ?_)
  refine take_op (i := 0) (d := 31) (v := .agg (roomC wd hg sv)) rfl rfl (by kernel_rfl) (by kernel_rfl) (by kernel_rfl) (fun _ _ _ h => h) (yields_row (by rfl) 33 (.tmp 3) (by rfl) w.heap.size 0 3 (by rfl) 33 (roomC wd hg sv) (0, 0) _ (fun _ h => h.1) Tryd.underlying33 rfl info_room (room_fits _ _ _) (roomC wd hg sv) (room_all _ _ _)) hHeld ?_
  simp only [List.setIfInBounds_toArray, List.set_cons_zero, List.set_cons_succ]
  refine take_op (i := 1) (d := 32) (v := .agg (roomC wd hg sv)) rfl rfl (by kernel_rfl) (by kernel_rfl) (by kernel_rfl) (fun _ _ _ h => h) (yields_row (by rfl) 33 (.tmp 3) (by rfl) w.heap.size 0 3 (by rfl) 33 (roomC wd hg sv) (0, 0) _ (fun _ h => h.1) Tryd.underlying33 rfl info_room (room_fits _ _ _) (roomC wd hg sv) (room_all _ _ _)) hHeld ?_
  simp only [List.setIfInBounds_toArray, List.set_cons_zero, List.set_cons_succ]
  refine take_op (i := 2) (d := 33) (v := ?_) rfl rfl (by kernel_rfl) (by kernel_rfl) (by kernel_rfl) (fun _ _ _ h => h) (Or.inl ⟨by rfl, ?hy2u1⟩) hHeld ?rest2u1
  case hy2u1 =>
    intro w' hS'
    go_simp
    try with_reducible rfl
  simp only [List.setIfInBounds_toArray, List.set_cons_zero, List.set_cons_succ]
  refine take_op (i := 4) (d := 35) (v := ?_) rfl rfl (by kernel_rfl) (by kernel_rfl) (by kernel_rfl) (fun _ _ _ h => h) (Or.inl ⟨by rfl, ?hy4u2⟩) hHeld ?rest4u2
  case hy4u2 =>
    intro w' hS'
    go_simp
    try with_reducible rfl
  simp only [List.setIfInBounds_toArray, List.set_cons_zero, List.set_cons_succ]
  refine wpAnyH_ready (rs := [3]) (by kernel_rfl) (by simp) ?_
  refine AllReadyH.cons rfl (fun K hK => ?_) AllReadyH.nil
  go_simp
  refine (HLO.out _ hHeld.2.1).mono ?_
  rintro e W1 ⟨rfl, hb1⟩
  refine hK.out _ _ (⟨below_row hb1 hHeld.1, wins_below hHeld.2.1 hb1, errs_below hHeld.2.2.1 hb1, hHeld.2.2.2.trans (hb1.mono hHeld.2.2.2.size)⟩) (fun hHeld2 => ?_)
  clear hK K
  replace hHeld := hHeld2
  clear hHeld2
  clear hb1
  refine wpAnyH_ready (rs := [5]) (by kernel_rfl) (by simp) ?_
  refine AllReadyH.cons rfl (fun K hK => ?_) AllReadyH.nil
  go_simp
  refine (HPL.out _ hHeld.2.2.1).mono ?_
  rintro e W2 ⟨⟨v, rfl, hov⟩, hb1⟩
  have hsz := hHeld.2.2.2.size
  refine hK.out _ _ (⟨below_row hb1 hHeld.1, wins_below hHeld.2.1 hb1, errs_below hHeld.2.2.1 hb1, hHeld.2.2.2.trans (hb1.mono hHeld.2.2.2.size)⟩) (fun hHeld2 => ?_)
  clear hK K
  replace hHeld := hHeld2
  clear hHeld2
  have HOV := Lib.hid (owns_baseX hov hsz)
  clear hov hb1 hsz
  refine take_op (i := 6) (d := 30) (v := ?_) rfl rfl (by kernel_rfl) (by kernel_rfl) (by kernel_rfl) (fun _ _ _ h => h) (Or.inl ⟨by rfl, ?hy6u3⟩) hHeld ?rest6u3
  case hy6u3 =>
    intro w' hS'
    go_simp
    try with_reducible rfl
  simp only [List.setIfInBounds_toArray, List.set_cons_zero, List.set_cons_succ]
  refine take_op (i := 7) (d := 37) (v := ?_) rfl rfl (by kernel_rfl) (by kernel_rfl) (by kernel_rfl) (fun _ _ _ h => h) (Or.inl ⟨by rfl, ?hy7u4⟩) hHeld ?rest7u4
  case hy7u4 =>
    intro w' hS'
    go_simp
    try with_reducible rfl
  simp only [List.setIfInBounds_toArray, List.set_cons_zero, List.set_cons_succ]
  refine take_op (i := 8) (d := 38) (v := ?_) rfl rfl (by kernel_rfl) (by kernel_rfl) (by kernel_rfl) (fun _ _ _ h => h) (Or.inl ⟨by rfl, ?hy8u5⟩) hHeld ?rest8u5
  case hy8u5 =>
    intro w' hS'
    go_simp
    try with_reducible rfl
  simp only [List.setIfInBounds_toArray, List.set_cons_zero, List.set_cons_succ]
  refine take_op (i := 9) (d := 10) (v := ?_) rfl rfl (by kernel_rfl) (by kernel_rfl) (by kernel_rfl) (fun _ _ _ h => h) (Or.inl ⟨by rfl, ?hy9u6⟩) hHeld ?rest9u6
  case hy9u6 =>
    intro w' hS'
    go_simp
    try with_reducible rfl
  simp only [List.setIfInBounds_toArray, List.set_cons_zero, List.set_cons_succ]
  refine take_op (i := 10) (d := 11) (v := ?_) rfl rfl (by kernel_rfl) (by kernel_rfl) (by kernel_rfl) (fun _ _ _ h => h) (Or.inl ⟨by rfl, ?hy10u7⟩) hHeld ?rest10u7
  case hy10u7 =>
    intro w' hS'
    go_simp
    try with_reducible rfl
  simp only [List.setIfInBounds_toArray, List.set_cons_zero, List.set_cons_succ]
  refine wpAnyH_done (by kernel_rfl) ?_ _
  have HX5 := Lib.hid hHeld.2.2.1
  have hb5 := hHeld.2.2.2
  clear hHeld HX hb HV H0
  cases R with
  | some r =>
    have HOV2 : Hid (W2.ownsRow w.heap.size 48 2 v r.length (tlV r)) := Lib.hid HOV.out
    have HCD := Lib.hid (codeOf_any HX5.out 0)
    unfold errOf at HCD
    clear HOV HPL
    go_wp2_with (go_at_call 24; refine HCD.out.mono ?_; rintro e W4 ⟨rfl, rfl⟩)
    go_ret2
    exact ⟨⟨_, rfl, HOV2.out⟩, hb5⟩
  | none =>
    have HOV2 : Hid (W2.ownsRow w.heap.size 48 2 v 0 (tlV [])) := Lib.hid HOV.out
    have HCD := Lib.hid (codeOf_any HX5.out 4)
    clear HOV HPL
    go_wp2_with (go_at_call 24; refine HCD.out.mono ?_; rintro e W4 ⟨rfl, rfl⟩)
    go_ret2
    exact ⟨⟨_, rfl, HOV2.out⟩, hb5⟩

end Go.Proofs.YtddnfbpgldchcaaDoor

namespace Go.Proofs.YtddnfbpgldchcaaDoor
open Go.ChangeShapes Go.WideShapes Go.ChangeAt Go.RowKit Go.Deep Go.Joins Go.Shelf Go.ChangeMaps

attribute [local go_sem] run_store_floatE

theorem abs_anyP {P : Program} {md : Region.Mode} {ops : Array Oper} {Q : Exit → Act → World → Prop} {S : World → Prop} {fuel : Nat} {listed : Array Bool} {a : Act} {w : World} (R : World → Prop) (hw : R w) (h : ∀ V, R V → wpAnyH P md ops Q S fuel listed a V) : wpAnyH P md ops Q S fuel listed a w := h w hw

/-- A list of tiles of one's own, which is not nil. -/
def OT (V : World) (b : Nat) (v : Value) (ts : List (Int × Int)) : Prop := (∃ g cap, v = .slice (some ⟨g, 0, none⟩) ts.length cap) ∧ V.ownsRow b 48 2 v ts.length (tlV ts)

theorem ot_below {V V' : World} {b : Nat} {v : Value} {ts : List (Int × Int)} (h : OT V b v ts) (hb : Below V.heap.size V V') : OT V' b v ts := ⟨h.1, owns_bE h.2 hb⟩

theorem ot_base {V : World} {b B k s : Nat} {e : TypeId} {v : Value} {xs : List Value} (h : V.ownsRow b e s v k xs) (hB : B ≤ b) : V.ownsRow B e s v k xs := by
  refine ⟨h.1, h.2.imp id ?_⟩
  rintro ⟨g, cap, cur, e1, hg, hc⟩
  exact ⟨g, cap, cur, e1, by omega, hc⟩

theorem ot_snoc {V : World} {b : Nat} {v : Value} {o : List (Int × Int)} {p : Int × Int} (h : V.ownsRow b 48 2 v (o.length + 1) (tlV o ++ [.int .i8 p.1, .int .i8 p.2])) (hn : v ≠ .slice none 0 0) : OT V b v (o ++ [p]) := by
  have hl : (o ++ [p]).length = o.length + 1 := by rw [List.length_append, List.length_singleton]
  refine ⟨?_, by rw [hl, tlV_snoc]; exact h⟩
  rcases h.2 with ⟨e, hz⟩ | ⟨g, cap, cur, e, -⟩
  · omega
  · exact ⟨g, cap, by rw [hl]; exact e⟩

theorem tlV_one (o : List (Int × Int)) : ∀ u ∈ tlV o, u.oneCell' = true := by
  intro u hu
  unfold tlV at hu
  obtain ⟨p, -, hp⟩ := List.mem_flatMap.1 hu
  simp at hp
  rcases hp with rfl | rfl <;> rfl

theorem tile_cellG {X : World} {g : Nat} {p : Int × Int} (h : X.heap[g]? = some (.cells (tileC p.1 p.2) 48 (0, 0))) {j : Nat} {u : Value} (hu : [Value.int .i8 p.1, Value.int .i8 p.2][j]? = some u) : X.cell? ((⟨g, 0, none⟩ : Addr).add j) = some u := by
  rw [addr_add, Nat.zero_add, cell_of_row _ _ _ _ _ _ h]
  match j, hu with
  | 0, hu => exact hu
  | 1, hu => exact hu
  | j + 2, hu => simp at hu

theorem row_neG {W : World} {g G base : Nat} {x y : Int} (h : W.heap[g]? = some (.cells (tileC x y) 48 (0, 0))) (hr : W.ownsRow base 48 2 (.slice (some ⟨G, 0, none⟩) 0 0) 0 []) : some g ≠ (Value.slice (some ⟨G, 0, none⟩) 0 0).ownBlock := by
  intro e
  obtain rfl : g = G := Option.some.inj e
  rcases hr.2 with ⟨e1, -⟩ | ⟨g', cap, cur, e1, -, hc, -, -, hsz, -⟩
  · cases e1
  · injection e1 with e1 e2 e3
    obtain rfl : g = g' := by simpa using e1
    rw [h] at hc
    injection hc with hc
    injection hc with hc
    rw [← hc, ← e3] at hsz
    cases hsz

/-- Whether a tile is still fine behind so many looks. -/
def fineK (o : List (Int × Int)) (p : Int × Int) (j : Nat) : Bool := !(o.take j).any (fun a => nearT a p)

theorem fine_step {o : List (Int × Int)} {p q : Int × Int} {j : Nat} (h : o[j]? = some q) : fineK o p (j + 1) = (fineK o p j && !nearT q p) := by
  unfold fineK
  rw [List.take_add_one, h, List.any_append]
  cases (o.take j).any (fun a => nearT a p) <;> simp

theorem fine_end (o : List (Int × Int)) (p : Int × Int) : fineK o p o.length = !o.any (fun a => nearT a p) := by unfold fineK; rw [List.take_length]

set_option maxRecDepth 100000 in
set_option maxHeartbeats 4000000 in
theorem l03Near_any (a b : Int × Int) (ha : okT a) (hb : okT b) (w : World) : Calls Tryd.prog 32 #[.agg (tileC a.1 a.2), .agg (tileC b.1 b.2)] w fun e w' => e = .returned (.bool (nearT a b)) ∧ Below w.heap.size w w' := by
  obtain ⟨⟨x0, x1⟩, y0, y1⟩ := ha
  obtain ⟨⟨u0, u1⟩, v0, v1⟩ := hb
  obtain ⟨X, Y⟩ := a
  obtain ⟨U, T⟩ := b
  dsimp only at *
  have hn : nearT (X, Y) (U, T) = (decide ((X - U) * (X - U) ≤ 1) && decide ((Y - T) * (Y - T) ≤ 1)) := rfl
  rw [hn]
  clear hn
  have sq : ∀ z : Int, -9 ≤ z → z ≤ 9 → z * z ≤ 81 ∧ 0 ≤ z * z := fun z h0 h1 => by
    have h : z = -9 ∨ z = -8 ∨ z = -7 ∨ z = -6 ∨ z = -5 ∨ z = -4 ∨ z = -3 ∨ z = -2 ∨ z = -1 ∨ z = 0 ∨ z = 1 ∨ z = 2 ∨ z = 3 ∨ z = 4 ∨ z = 5 ∨ z = 6 ∨ z = 7 ∨ z = 8 ∨ z = 9 := by omega
    rcases h with h | h | h | h | h | h | h | h | h | h | h | h | h | h | h | h | h | h | h <;> subst h <;> decide
  have s1 := sq (X - U) (by omega) (by omega)
  have s2 := sq (Y - T) (by omega) (by omega)
  have w1 : IntKind.i64.wrap X = X := i64P (by omega) (by omega)
  have w2 : IntKind.i64.wrap Y = Y := i64P (by omega) (by omega)
  have w3 : IntKind.i64.wrap U = U := i64P (by omega) (by omega)
  have w4 : IntKind.i64.wrap T = T := i64P (by omega) (by omega)
  have w5 : IntKind.i64.wrap (X - U) = X - U := i64P (by omega) (by omega)
  have w6 : IntKind.i64.wrap (Y - T) = Y - T := i64P (by omega) (by omega)
  have w7 : IntKind.i64.wrap ((X - U) * (X - U)) = (X - U) * (X - U) := i64P (by omega) (by omega)
  have w8 : IntKind.i64.wrap ((Y - T) * (Y - T)) = (Y - T) * (Y - T) := i64P (by omega) (by omega)
  clear sq s1 s2
  go_enter Tryd.func32, Tryd.ntmps32
  go_upto_region 1 with (fail)
  refine abs_world (fun V => V.heap[w.heap.size]? = some (.cells (tileC X Y) 48 (0, 0)) ∧ V.heap[w.heap.size + 1]? = some (.cells (tileC U T) 48 (0, 0)) ∧ Below w.heap.size w V) (box2 w (.cells (tileC X Y) 48) (.cells (tileC U T) 48)) ?_
  rintro V ⟨h0, h1, hb⟩
  generalize w.heap.size + 1 = b1 at *
  have c0 : V.cell? ⟨w.heap.size, 0, none⟩ = some (.int .i8 X) := by rw [cell_of_row _ _ _ _ _ _ h0]; rfl
  have c1 : V.cell? ⟨w.heap.size, 1, none⟩ = some (.int .i8 Y) := by rw [cell_of_row _ _ _ _ _ _ h0]; rfl
  have c2 : V.cell? ⟨b1, 0, none⟩ = some (.int .i8 U) := by rw [cell_of_row _ _ _ _ _ _ h1]; rfl
  have c3 : V.cell? ⟨b1, 1, none⟩ = some (.int .i8 T) := by rw [cell_of_row _ _ _ _ _ _ h1]; rfl
  clear h0 h1
  generalize hd1 : decide ((X - U) * (X - U) ≤ 1) = d1
  generalize hd2 : decide ((Y - T) * (Y - T) ≤ 1) = d2
  cases d1 with
  | false =>
    go_wp2
    go_ret
    exact ⟨by rw [hd1]; rfl, hb⟩
  | true =>
    go_wp2
    go_ret
    exact ⟨by rw [hd1, hd2]; rfl, hb⟩

set_option maxRecDepth 100000 in
set_option maxHeartbeats 16000000 in
theorem l03Put_any (ts : List (Int × Int)) (hts : ∀ p ∈ ts, okT p) (hl : ts.length ≤ 100) (lv : Value) (base0 : Nat) :
    ∀ (m : Nat) (o : List (Int × Int)) (f : Nat) (ov : Value) (W : World) (b : Nat), o.length + m ≤ 10 → f ≤ ts.length → (∀ p ∈ o, okT p) → b ≤ W.heap.size → W.ownsRow base0 48 2 lv ts.length (tlV ts) → OT W b ov o →
    Calls Tryd.prog 19 #[lv, ov, .int .i64 (f : Int), .int .i64 (m : Int)] W fun e W' => (∃ v, e = .returned (.tuple #[v, .bool (putT ts m o f).isSome]) ∧ OT W' b v ((putT ts m o f).getD [])) ∧ Below W.heap.size W W' := by
  intro m
  induction m with
  | zero =>
    intro o f ov W b hom hf hok hbW hlr hot
    have HOT := Lib.hid hot
    clear hot hlr hok
    go_enter Tryd.func19, Tryd.ntmps19
    go_wp2
    go_ret2
    exact ⟨⟨_, rfl, HOT.out⟩, Below.refl _ _⟩
  | succ m ih =>
    intro o f ov W b hom hf hok hbW hlr hot
    have HLR0 := Lib.hid hlr
    have HOT := Lib.hid hot
    have HOK := Lib.hid hok
    have HIH := Lib.hid ih
    have HTS := Lib.hid hts
    obtain ⟨i0, hin, hz0, hz1, hz2⟩ := info_parts infoTE
    obtain ⟨⟨gO, capO, rfl⟩, hor⟩ := id hot
    have HOR0 := Lib.hid hor
    obtain ⟨R, hR⟩ : ∃ R, R = putT ts (m + 1) o f := ⟨_, rfl⟩
    rw [← hR]
    rw [put_gT] at hR
    have HR := Lib.hid hR
    have ze : (((m + 1 : Nat) : Int) == 0) = false := beq_eq_false_iff_ne.2 (by omega)
    have zm : IntKind.i64.wrap (((m + 1 : Nat) : Int) - 1) = (m : Int) := by rw [i64P (by omega) (by omega)]; omega
    have hol : o.length ≤ 10 := by omega
    have hbl : ∃ a c, lv = .slice a ts.length c := by
      rcases hlr.2 with ⟨e, hz⟩ | ⟨g, c, cu, e, -⟩
      · exact ⟨none, 0, by rw [e, hz]⟩
      · exact ⟨_, c, e⟩
    obtain ⟨aL, capL, rfl⟩ := hbl
    generalize hmm : ((m + 1 : Nat) : Int) = mi at *
    clear hlr hot hok ih hts hR hor
    go_enter Tryd.func19, Tryd.ntmps19
    go_upto_region 4 with (fail)
    clear ze
    go_loopw [10] (fun i wr => ∃ k : Nat, k ≤ ts.length ∧ i = .int .i64 (k : Int) ∧ Below W.heap.size W wr ∧ R = (List.range' k (ts.length - k)).findSome? (gT ts m o)) (fun i _ => ts.length - (intOf i).toNat)
    case atStart => exact ⟨f, hf, rfl, Below.refl _ _, HR.out⟩
    case round =>
      clear HR
      obtain ⟨k, hk, rfl, hbw, hR⟩ := hrel
      have HBW := Lib.hid hbw
      by_cases hlt : k < ts.length
      · obtain ⟨p, hp⟩ : ∃ p, ts[k]? = some p := ⟨_, List.getElem?_eq_getElem hlt⟩
        have hlr := owns_bE HLR0.out hbw
        have HLR := Lib.hid hlr
        obtain ⟨gL, capL2, curL, hLe, -, hrowL, hszL, hexL⟩ := tl_get hlr hp
        injection hLe with hLe1 hLe2 hLe3
        subst hLe1
        have HRL0 := Lib.hid hrowL
        have HSL := Lib.hid hszL
        have HEL := Lib.hid hexL
        have HPO := Lib.hid (HTS.out p (List.mem_of_getElem? hp))
        have hgp : ts.getD k (0, 0) = p := by rw [List.getD_eq_getElem?_getD, hp]; rfl
        rw [put_step hlt] at hR
        have hgt : gT ts m o k = if o.any (fun a => nearT a p) then none else putT ts m (o ++ [p]) (k + 1) := by unfold gT; rw [hgp]
        rw [hgt] at hR
        have HR := Lib.hid hR
        have HOR := Lib.hid (owns_bE HOR0.out hbw)
        have z0 : (0 : Int) ≤ (k : Int) := by omega
        have z1 : (k : Int) < (ts.length : Int) := by omega
        have w1 : IntKind.i64.wrap (k : Int) = (k : Int) := i64P (by omega) (by omega)
        have e7 : IntKind.i64.wrap ((k : Int) + 1) = (k : Int) + 1 := i64P (by omega) (by omega)
        clear hbw hlr hLe2 hLe3 hrowL hszL hexL hp hgp hgt hR
        go_upto_region 8 with (fail)
        generalize wr = wA at *
        go_loopw [11, 12] (fun fv jv wq => ∃ j : Nat, j ≤ o.length ∧ jv = .int .i64 (j : Int) ∧ fv = .bool (fineK o p j) ∧ Below wA.heap.size wA wq) (fun _ jv _ => o.length - (intOf jv).toNat)
        case atStart => exact ⟨0, Nat.zero_le _, rfl, rfl, Below.refl _ _⟩
        case round =>
          obtain ⟨j, hj, rfl, rfl, hbq⟩ := hrel
          by_cases hlj : j < o.length
          · obtain ⟨q, hq⟩ : ∃ q, o[j]? = some q := ⟨_, List.getElem?_eq_getElem hlj⟩
            obtain ⟨gO2, capO2, curO, hOe, -, hrowO, hszO, hexO⟩ := tl_get (owns_bE HOR.out hbq) hq
            injection hOe with hOe1 hOe2 hOe3
            obtain rfl : gO = gO2 := by simpa using hOe1
            have HRO := Lib.hid hrowO
            have HSO := Lib.hid hszO
            have HEO := Lib.hid hexO
            have HRL := Lib.hid (below_row hbq HRL0.out)
            have HNE := Lib.hid (fun V => l03Near_any q p (HOK.out q (List.mem_of_getElem? hq)) HPO.out V)
            have hfs := fine_step (p := p) hq
            have HFS := Lib.hid hfs
            have HBQ := Lib.hid hbq
            have z2 : (0 : Int) ≤ (j : Int) := by omega
            have z3 : (j : Int) < (o.length : Int) := by omega
            have w2 : IntKind.i64.wrap (j : Int) = (j : Int) := i64P (by omega) (by omega)
            have e8 : IntKind.i64.wrap ((j : Int) + 1) = (j : Int) + 1 := i64P (by omega) (by omega)
            clear hOe1 hOe2 hOe3 hrowO hszO hexO hq hfs hbq
            generalize fineK o p j = fb at *
            cases fb with
            | true =>
              go_upto_region 10 with (fail)
              refine wp_region_held_drew (S := (fun X => Below wr.heap.size wr X)) (by kernel_rfl) ((Below.refl _ _).drew) (fun hHeld => ?_)
              refine take_op (i := 0) (d := 31) (v := ?_) rfl rfl (by kernel_rfl) (by kernel_rfl) (by kernel_rfl) (fun _ _ _ h => h) (Or.inl ⟨by rfl, ?hy0u25⟩) hHeld ?rest0u25
              case hy0u25 =>
                intro w' hS'
                go_simp
                try with_reducible rfl
              simp only [List.setIfInBounds_toArray, List.set_cons_zero, List.set_cons_succ]
              refine take_op (i := 1) (d := 32) (v := ?_) rfl rfl (by kernel_rfl) (by kernel_rfl) (by kernel_rfl) (fun _ _ _ h => h) (Or.inl ⟨by rfl, ?hy1u26⟩) hHeld ?rest1u26
              case hy1u26 =>
                intro w' hS'
                go_simp
                try with_reducible rfl
              simp only [List.setIfInBounds_toArray, List.set_cons_zero, List.set_cons_succ]
              refine take_op (i := 2) (d := 33) (v := ?_) rfl rfl (by kernel_rfl) (by kernel_rfl) (by kernel_rfl) (fun _ _ _ h => h) (Or.inl ⟨by rfl, ?hy2u27⟩) hHeld ?rest2u27
              case hy2u27 =>
                intro w' hS'
                go_simp
                try with_reducible rfl
              simp only [List.setIfInBounds_toArray, List.set_cons_zero, List.set_cons_succ]
              refine take_op (i := 3) (d := 34) (v := ?_) rfl rfl (by kernel_rfl) (by kernel_rfl) (by kernel_rfl) (fun _ _ _ h => h) (Or.inl ⟨by rfl, ?hy3u28⟩) hHeld ?rest3u28
              case hy3u28 =>
                intro w' hS'
                go_simp
                try with_reducible rfl
              simp only [List.setIfInBounds_toArray, List.set_cons_zero, List.set_cons_succ]
              refine take_op (i := 4) (d := 35) (v := ?_) rfl rfl (by kernel_rfl) (by kernel_rfl) (by kernel_rfl) (fun _ _ _ h => h) (Or.inl ⟨by rfl, ?hy4u29⟩) hHeld ?rest4u29
              case hy4u29 =>
                intro w' hS'
                go_simp
                try with_reducible rfl
              simp only [List.setIfInBounds_toArray, List.set_cons_zero, List.set_cons_succ]
              refine take_op (i := 5) (d := 36) (v := .agg (tileC q.1 q.2)) rfl rfl (by kernel_rfl) (by kernel_rfl) (by kernel_rfl) (fun _ _ _ h => h) (yields_row (by rfl) 48 (.tmp 35) (by rfl) gO (j * 2) 2 (by rfl) 48 curO (0, 0) _ (fun _ hX => below_row hX HRO.out) Tryd.underlying48 rfl info_tile HSO.out (tileC q.1 q.2) HEO.out) hHeld ?_
              simp only [List.setIfInBounds_toArray, List.set_cons_zero, List.set_cons_succ]
              refine take_op (i := 6) (d := 37) (v := ?_) rfl rfl (by kernel_rfl) (by kernel_rfl) (by kernel_rfl) (fun _ _ _ h => h) (Or.inl ⟨by rfl, ?hy6u30⟩) hHeld ?rest6u30
              case hy6u30 =>
                intro w' hS'
                go_simp
                try with_reducible rfl
              simp only [List.setIfInBounds_toArray, List.set_cons_zero, List.set_cons_succ]
              refine take_op (i := 7) (d := 38) (v := ?_) rfl rfl (by kernel_rfl) (by kernel_rfl) (by kernel_rfl) (fun _ _ _ h => h) (Or.inl ⟨by rfl, ?hy7u31⟩) hHeld ?rest7u31
              case hy7u31 =>
                intro w' hS'
                go_simp
                try with_reducible rfl
              simp only [List.setIfInBounds_toArray, List.set_cons_zero, List.set_cons_succ]
              refine take_op (i := 8) (d := 39) (v := ?_) rfl rfl (by kernel_rfl) (by kernel_rfl) (by kernel_rfl) (fun _ _ _ h => h) (Or.inl ⟨by rfl, ?hy8u32⟩) hHeld ?rest8u32
              case hy8u32 =>
                intro w' hS'
                go_simp
                try with_reducible rfl
              simp only [List.setIfInBounds_toArray, List.set_cons_zero, List.set_cons_succ]
              refine take_op (i := 9) (d := 40) (v := .agg (tileC p.1 p.2)) rfl rfl (by kernel_rfl) (by kernel_rfl) (by kernel_rfl) (fun _ _ _ h => h) (yields_row (by rfl) 48 (.tmp 39) (by rfl) gL (k * 2) 2 (by rfl) 48 curL (0, 0) _ (fun _ hX => below_row hX HRL.out) Tryd.underlying48 rfl info_tile HSL.out (tileC p.1 p.2) HEL.out) hHeld ?_
              simp only [List.setIfInBounds_toArray, List.set_cons_zero, List.set_cons_succ]
              refine wpAnyH_ready (rs := [10]) (by kernel_rfl) (by simp) ?_
              refine AllReadyH.cons rfl (fun K hK => ?_) AllReadyH.nil
              go_simp
              refine (HNE.out _).mono ?_
              rintro e W1 ⟨rfl, hb1⟩
              refine hK.out _ _ (hHeld.trans (hb1.mono hHeld.size)) (fun hHeld2 => ?_)
              clear hK K
              replace hHeld := hHeld2
              clear hHeld2
              clear hb1
              refine take_op (i := 11) (d := 42) (v := ?_) rfl rfl (by kernel_rfl) (by kernel_rfl) (by kernel_rfl) (fun _ _ _ h => h) (Or.inl ⟨by rfl, ?hy11u33⟩) hHeld ?rest11u33
              case hy11u33 =>
                intro w' hS'
                go_simp
                try with_reducible rfl
              simp only [List.setIfInBounds_toArray, List.set_cons_zero, List.set_cons_succ]
              refine take_op (i := 12) (d := 43) (v := ?_) rfl rfl (by kernel_rfl) (by kernel_rfl) (by kernel_rfl) (fun _ _ _ h => h) (Or.inl ⟨by rfl, ?hy12u34⟩) hHeld ?rest12u34
              case hy12u34 =>
                intro w' hS'
                go_simp
                try with_reducible rfl
              simp only [List.setIfInBounds_toArray, List.set_cons_zero, List.set_cons_succ]
              refine take_op (i := 13) (d := 11) (v := ?_) rfl rfl (by kernel_rfl) (by kernel_rfl) (by kernel_rfl) (fun _ _ _ h => h) (Or.inl ⟨by rfl, ?hy13u35⟩) hHeld ?rest13u35
              case hy13u35 =>
                intro w' hS'
                go_simp
                try with_reducible rfl
              simp only [List.setIfInBounds_toArray, List.set_cons_zero, List.set_cons_succ]
              refine wpAnyH_done (by kernel_rfl) ?_ _
              have HBZ := Lib.hid (HBQ.out.trans (hHeld.mono HBQ.out.size))
              clear hHeld
              go_wp2
              go_roundw
              case rel => exact ⟨j + 1, by omega, by first | rfl | go_num, by rw [HFS.out]; rfl, HBZ.out⟩
              case measure => simp [intOf]; omega
            | false =>
              go_upto_region 10 with (fail)
              refine wp_region_held_drew (S := (fun X => Below wr.heap.size wr X)) (by kernel_rfl) ((Below.refl _ _).drew) (fun hHeld => ?_)
              refine take_op (i := 0) (d := 31) (v := ?_) rfl rfl (by kernel_rfl) (by kernel_rfl) (by kernel_rfl) (fun _ _ _ h => h) (Or.inl ⟨by rfl, ?hy0u36⟩) hHeld ?rest0u36
              case hy0u36 =>
                intro w' hS'
                go_simp
                try with_reducible rfl
              simp only [List.setIfInBounds_toArray, List.set_cons_zero, List.set_cons_succ]
              refine take_op (i := 1) (d := 32) (v := ?_) rfl rfl (by kernel_rfl) (by kernel_rfl) (by kernel_rfl) (fun _ _ _ h => h) (Or.inl ⟨by rfl, ?hy1u37⟩) hHeld ?rest1u37
              case hy1u37 =>
                intro w' hS'
                go_simp
                try with_reducible rfl
              simp only [List.setIfInBounds_toArray, List.set_cons_zero, List.set_cons_succ]
              refine take_op (i := 2) (d := 33) rfl rfl (by kernel_rfl) (by kernel_rfl) (by kernel_rfl) (fun _ _ _ h => h) (Or.inr ⟨by rfl, rfl⟩) hHeld ?_
              simp only [List.setIfInBounds_toArray, List.set_cons_zero, List.set_cons_succ]
              refine take_op (i := 3) (d := 34) rfl rfl (by kernel_rfl) (by kernel_rfl) (by kernel_rfl) (fun _ _ _ h => h) (Or.inr ⟨by rfl, rfl⟩) hHeld ?_
              simp only [List.setIfInBounds_toArray, List.set_cons_zero, List.set_cons_succ]
              refine take_op (i := 4) (d := 35) rfl rfl (by kernel_rfl) (by kernel_rfl) (by kernel_rfl) (fun _ _ _ h => h) (Or.inr ⟨by rfl, rfl⟩) hHeld ?_
              simp only [List.setIfInBounds_toArray, List.set_cons_zero, List.set_cons_succ]
              refine take_op (i := 5) (d := 36) rfl rfl (by kernel_rfl) (by kernel_rfl) (by kernel_rfl) (fun _ _ _ h => h) (Or.inr ⟨by rfl, rfl⟩) hHeld ?_
              simp only [List.setIfInBounds_toArray, List.set_cons_zero, List.set_cons_succ]
              refine take_op (i := 6) (d := 37) rfl rfl (by kernel_rfl) (by kernel_rfl) (by kernel_rfl) (fun _ _ _ h => h) (Or.inr ⟨by rfl, rfl⟩) hHeld ?_
              simp only [List.setIfInBounds_toArray, List.set_cons_zero, List.set_cons_succ]
              refine take_op (i := 7) (d := 38) rfl rfl (by kernel_rfl) (by kernel_rfl) (by kernel_rfl) (fun _ _ _ h => h) (Or.inr ⟨by rfl, rfl⟩) hHeld ?_
              simp only [List.setIfInBounds_toArray, List.set_cons_zero, List.set_cons_succ]
              refine take_op (i := 8) (d := 39) rfl rfl (by kernel_rfl) (by kernel_rfl) (by kernel_rfl) (fun _ _ _ h => h) (Or.inr ⟨by rfl, rfl⟩) hHeld ?_
              simp only [List.setIfInBounds_toArray, List.set_cons_zero, List.set_cons_succ]
              refine take_op (i := 9) (d := 40) rfl rfl (by kernel_rfl) (by kernel_rfl) (by kernel_rfl) (fun _ _ _ h => h) (Or.inr ⟨by rfl, rfl⟩) hHeld ?_
              simp only [List.setIfInBounds_toArray, List.set_cons_zero, List.set_cons_succ]
              refine take_op (i := 10) (d := 41) rfl rfl (by kernel_rfl) (by kernel_rfl) (by kernel_rfl) (fun _ _ _ h => h) (Or.inr ⟨by rfl, rfl⟩) hHeld ?_
              simp only [List.setIfInBounds_toArray, List.set_cons_zero, List.set_cons_succ]
              refine take_op (i := 11) (d := 42) rfl rfl (by kernel_rfl) (by kernel_rfl) (by kernel_rfl) (fun _ _ _ h => h) (Or.inr ⟨by rfl, rfl⟩) hHeld ?_
              simp only [List.setIfInBounds_toArray, List.set_cons_zero, List.set_cons_succ]
              refine take_op (i := 12) (d := 43) (v := ?_) rfl rfl (by kernel_rfl) (by kernel_rfl) (by kernel_rfl) (fun _ _ _ h => h) (Or.inl ⟨by rfl, ?hy12u38⟩) hHeld ?rest12u38
              case hy12u38 =>
                intro w' hS'
                go_simp
                try with_reducible rfl
              simp only [List.setIfInBounds_toArray, List.set_cons_zero, List.set_cons_succ]
              refine take_op (i := 13) (d := 11) (v := ?_) rfl rfl (by kernel_rfl) (by kernel_rfl) (by kernel_rfl) (fun _ _ _ h => h) (Or.inl ⟨by rfl, ?hy13u39⟩) hHeld ?rest13u39
              case hy13u39 =>
                intro w' hS'
                go_simp
                try with_reducible rfl
              simp only [List.setIfInBounds_toArray, List.set_cons_zero, List.set_cons_succ]
              refine wpAnyH_done (by kernel_rfl) ?_ _
              have HBZ := Lib.hid (HBQ.out.trans (hHeld.mono HBQ.out.size))
              clear hHeld
              go_wp2
              go_roundw
              case rel => exact ⟨j + 1, by omega, by first | rfl | go_num, by rw [HFS.out]; rfl, HBZ.out⟩
              case measure => simp [intOf]; omega
          · obtain rfl : j = o.length := by omega
            have hfe := fine_end o p
            have hbz := HBW.out.trans (hbq.mono HBW.out.size)
            have HBZ := Lib.hid hbz
            have HLRq := Lib.hid (owns_bE HLR.out hbq)
            have HORq := Lib.hid (owns_bE HOR.out hbq)
            have HRL := Lib.hid (below_row hbq HRL0.out)
            rw [hfe]
            clear hfe hbq hbz HLR HOR HRL0 HBW
            have HBW := HBZ
            have HLR := HLRq
            have HOR := HORq
            clear HBZ HLRq HORq
            cases hnear : o.any (fun a => nearT a p) with
            | true =>
              rw [hnear] at HR
              go_wp2
              go_roundw
              case rel => exact ⟨k + 1, by omega, by first | rfl | go_num, HBW.out, HR.out⟩
              case measure => simp [intOf]; omega
            | false =>
              rw [hnear] at HR
              clear hnear
              have HI2 := Lib.hid (fun v V (hbV : Below wr.heap.size wr V) hlrV hotV => HIH.out (o ++ [p]) (k + 1) v V W.heap.size (by rw [List.length_append, List.length_singleton]; omega) (by omega) (fun q hq => by
                rcases List.mem_append.1 hq with hq | hq
                · exact HOK.out q hq
                · rw [List.mem_singleton.1 hq]; exact HPO.out) (Nat.le_trans HBW.out.size hbV.size) hlrV hotV)
              rw [show ((k + 1 : Nat) : Int) = (k : Int) + 1 from rfl] at HI2
              go_upto_region 12 with (fail)
              refine wp_region_held_drew (S := (fun X => Below wr.heap.size wr X)) (by kernel_rfl) ((Below.refl _ _).drew) (fun hHeld => ?_)
              refine take_op (i := 0) (d := 47) (v := ?_) rfl rfl (by kernel_rfl) (by kernel_rfl) (by kernel_rfl) (fun _ _ _ h => h) (Or.inl ⟨by rfl, ?hy0u1⟩) hHeld ?rest0u1
              case hy0u1 =>
                intro w' hS'
                go_simp
                try with_reducible rfl
              simp only [List.setIfInBounds_toArray, List.set_cons_zero, List.set_cons_succ]
              refine take_op (i := 2) (d := 49) (v := ?_) rfl rfl (by kernel_rfl) (by kernel_rfl) (by kernel_rfl) (fun _ _ _ h => h) (Or.inl ⟨by rfl, ?hy2u2⟩) hHeld ?rest2u2
              case hy2u2 =>
                intro w' hS'
                go_simp
                try with_reducible rfl
              simp only [List.setIfInBounds_toArray, List.set_cons_zero, List.set_cons_succ]
              refine take_op (i := 4) (d := 51) (v := ?_) rfl rfl (by kernel_rfl) (by kernel_rfl) (by kernel_rfl) (fun _ _ _ h => h) (Or.inl ⟨by rfl, ?hy4u3⟩) hHeld ?rest4u3
              case hy4u3 =>
                intro w' hS'
                go_simp
                try with_reducible rfl
              simp only [List.setIfInBounds_toArray, List.set_cons_zero, List.set_cons_succ]
              refine take_op (i := 5) (d := 52) (v := ?_) rfl rfl (by kernel_rfl) (by kernel_rfl) (by kernel_rfl) (fun _ _ _ h => h) (Or.inl ⟨by rfl, ?hy5u4⟩) hHeld ?rest5u4
              case hy5u4 =>
                intro w' hS'
                go_simp
                try with_reducible rfl
              simp only [List.setIfInBounds_toArray, List.set_cons_zero, List.set_cons_succ]
              refine take_op (i := 6) (d := 53) (v := ?_) rfl rfl (by kernel_rfl) (by kernel_rfl) (by kernel_rfl) (fun _ _ _ h => h) (Or.inl ⟨by rfl, ?hy6u5⟩) hHeld ?rest6u5
              case hy6u5 =>
                intro w' hS'
                go_simp
                try with_reducible rfl
              simp only [List.setIfInBounds_toArray, List.set_cons_zero, List.set_cons_succ]
              refine take_op (i := 7) (d := 54) (v := .agg (tileC p.1 p.2)) rfl rfl (by kernel_rfl) (by kernel_rfl) (by kernel_rfl) (fun _ _ _ h => h) (yields_row (by rfl) 48 (.tmp 53) (by rfl) gL (k * 2) 2 (by rfl) 48 curL (0, 0) _ (fun _ hX => below_row hX HRL.out) Tryd.underlying48 rfl info_tile HSL.out (tileC p.1 p.2) HEL.out) hHeld ?_
              simp only [List.setIfInBounds_toArray, List.set_cons_zero, List.set_cons_succ]
              refine take_op (i := 10) (d := 57) (v := ?_) rfl rfl (by kernel_rfl) (by kernel_rfl) (by kernel_rfl) (fun _ _ _ h => h) (Or.inl ⟨by rfl, ?hy10u6⟩) hHeld ?rest10u6
              case hy10u6 =>
                intro w' hS'
                go_simp
                try with_reducible rfl
              simp only [List.setIfInBounds_toArray, List.set_cons_zero, List.set_cons_succ]
              refine take_op (i := 11) (d := 58) (v := ?_) rfl rfl (by kernel_rfl) (by kernel_rfl) (by kernel_rfl) (fun _ _ _ h => h) (Or.inl ⟨by rfl, ?hy11u7⟩) hHeld ?rest11u7
              case hy11u7 =>
                intro w' hS'
                go_simp
                try with_reducible rfl
              simp only [List.setIfInBounds_toArray, List.set_cons_zero, List.set_cons_succ]
              refine take_op (i := 12) (d := 59) (v := ?_) rfl rfl (by kernel_rfl) (by kernel_rfl) (by kernel_rfl) (fun _ _ _ h => h) (Or.inl ⟨by rfl, ?hy12u8⟩) hHeld ?rest12u8
              case hy12u8 =>
                intro w' hS'
                go_simp
                try with_reducible rfl
              simp only [List.setIfInBounds_toArray, List.set_cons_zero, List.set_cons_succ]
              refine take_op (i := 13) (d := 60) (v := ?_) rfl rfl (by kernel_rfl) (by kernel_rfl) (by kernel_rfl) (fun _ _ _ h => h) (Or.inl ⟨by rfl, ?hy13u9⟩) hHeld ?rest13u9
              case hy13u9 =>
                intro w' hS'
                go_simp
                try with_reducible rfl
              simp only [List.setIfInBounds_toArray, List.set_cons_zero, List.set_cons_succ]
              have hks : (tileC p.1 p.2).size = 2 := rfl
              refine abs_anyP (fun V => Below wr.heap.size wr V) hHeld ?_
              clear hHeld
              rintro X hHeld
              refine wpAnyH_ready (rs := [1, 8]) (by kernel_rfl) (by simp) ?_
              refine AllReadyH.cons rfl (fun K hK => ?_) (AllReadyH.cons rfl (fun K hK => ?_) AllReadyH.nil)
              · go_simp
                refine hK.out _ _ (hHeld.alloc hHeld.size (.cells #[] 48)) (fun _ => ?_)
                clear hK K
                obtain ⟨G0, hG0⟩ : ∃ G, G = X.heap.size := ⟨_, rfl⟩
                have hr0 : (X.alloc (.cells #[] 48)).ownsRow wr.heap.size 48 2 (.slice (some ⟨X.heap.size, 0, none⟩) 0 0) 0 [] := World.ownsRow_made X _ _ hHeld.size (Nat.zero_le _) rfl
                rw [← hG0] at hr0 ⊢
                clear hG0
                refine abs_anyP (fun V => Below wr.heap.size wr V ∧ V.ownsRow wr.heap.size 48 2 (.slice (some ⟨G0, 0, none⟩) 0 0) 0 []) ⟨hHeld.alloc hHeld.size _, hr0⟩ ?_
                clear hHeld hr0 
                rintro X ⟨hHeld, hR0⟩
                refine wpAnyH_ready (rs := [3, 8]) (by kernel_rfl) (by simp) ?_
                refine AllReadyH.cons rfl (fun K hK => ?_) (AllReadyH.cons rfl (fun K hK => ?_) AllReadyH.nil)
                · show Oper.wp _ _ _ _ _ _
                  refine wp_append_own _ (.tmp 48) (.tmp 49) 28 rfl wr.heap.size 48 i0 (.agg #[.int .i8 0, .int .i8 0]) 2 2 Tryd.underlying28 hin hz0 hz1 hz2 rfl (by decide) (.slice (some ⟨G0, 0, none⟩) 0 0) _ _ rfl hR0 ⟨gO, 0, none⟩ o.length capO (tlV o) rfl (tlV_len o) (fun j u hu => by rw [addr_add, Nat.zero_add, (owns_bE HOR.out hHeld).cellAt j (by have := (List.getElem?_eq_some_iff.1 hu).1; rw [tlV_len] at this; exact this)]; exact hu) (tlV_one o) (by unfold maxLen; omega) (by omega) hHeld.size ?_
                  intro v1 V hown hgrow hnil
                  rw [List.nil_append, Nat.zero_add] at hown
                  have hnn1 : v1 ≠ .slice none 0 0 := fun e => by have := (hnil.1 e).1; cases this
                  have hbn := hHeld.grown hgrow hHeld.size (fun j e => (hR0.lt j e).1)
                  refine hK.out _ _ hbn (fun _ => ?_)
                  clear hK K
                  refine abs_anyP (fun V => Below wr.heap.size wr V ∧ V.ownsRow wr.heap.size 48 2 v1 o.length (tlV o)) ⟨hbn, hown⟩ ?_
                  clear hHeld hown hgrow hnil hbn hR0
                  rintro X ⟨hHeld, hR3⟩
                  refine wpAnyH_ready (rs := [8]) (by kernel_rfl) (by simp) ?_
                  refine AllReadyH.cons rfl (fun K hK => ?_) AllReadyH.nil
                  go_simp
                  refine hK.out _ _ (hHeld.alloc hHeld.size (.cells (tileC p.1 p.2) 48)) (fun _ => ?_)
                  clear hK K
                  obtain ⟨G8, hG8⟩ : ∃ G, G = X.heap.size := ⟨_, rfl⟩
                  have hk8 : (X.alloc (.cells (tileC p.1 p.2) 48)).heap[X.heap.size]? = some (.cells (tileC p.1 p.2) 48 (0, 0)) := heap_alloc_new _ _
                  rw [← hG8] at hk8 ⊢
                  clear hG8
                  refine abs_anyP (fun V => Below wr.heap.size wr V ∧ V.ownsRow wr.heap.size 48 2 v1 o.length (tlV o) ∧ V.heap[G8]? = some (.cells (tileC p.1 p.2) 48 (0, 0))) ⟨hHeld.alloc hHeld.size _, hR3.alloc _, hk8⟩ ?_
                  clear hHeld hk8 hR3
                  rintro X ⟨hHeld, hR3, hK8⟩
                  refine wpAnyH_ready (rs := [9]) (by kernel_rfl) (by simp) ?_
                  refine AllReadyH.cons rfl (fun K hK => ?_) AllReadyH.nil
                  show Oper.wp _ _ _ _ _ _
                  refine wp_append_own _ (.tmp 50) (.tmp 55) 28 rfl wr.heap.size 48 i0 (.agg #[.int .i8 0, .int .i8 0]) 2 2 Tryd.underlying28 hin hz0 hz1 hz2 rfl (by decide) v1 _ _ rfl hR3 ⟨G8, 0, none⟩ 1 1 ([.int .i8 p.1, .int .i8 p.2]) rfl rfl (fun j u hu => tile_cellG hK8 hu) (fun u hu => by simp at hu; rcases hu with rfl | rfl <;> rfl) (by unfold maxLen; omega) (by omega) hHeld.size ?_
                  intro v2 V hown hgrow hnil
                  have hnn2 : v2 ≠ .slice none 0 0 := fun e => by have := (hnil.1 e).2; cases this
                  have hbn := hHeld.grown hgrow hHeld.size (fun j e => (hR3.lt j e).1)
                  refine hK.out _ _ hbn (fun _ => ?_)
                  clear hK K
                  refine abs_anyP (fun V => Below wr.heap.size wr V ∧ V.ownsRow wr.heap.size 48 2 v2 (o.length + 1) (tlV o ++ [.int .i8 p.1, .int .i8 p.2])) ⟨hbn, hown⟩ ?_
                  clear hHeld hown hgrow hnil hbn hR3 hK8 hnn1
                  rintro X ⟨hHeld, hR9⟩
                  have hot : OT X W.heap.size v2 (o ++ [p]) := ot_snoc (ot_base hR9 HBW.out.size) hnn2
                  refine wpAnyH_ready (rs := [14]) (by kernel_rfl) (by simp) ?_
                  refine AllReadyH.cons rfl (fun K hK => ?_) AllReadyH.nil
                  have hIH := HI2.out v2 X hHeld (owns_bE HLR.out hHeld) hot
                  clear hot hR9
                  go_simp
                  refine hIH.mono ?_
                  rintro e X9 ⟨⟨v3, rfl, hov⟩, hb9⟩
                  have HOV := Lib.hid hov
                  clear hov hIH
                  refine hK.out _ _ (hHeld.trans (hb9.mono hHeld.size)) (fun hHeld2 => ?_)
                  clear hK K
                  replace hHeld := hHeld2
                  clear hHeld2 hb9 hnn2
                  refine take_op (i := 15) (d := 46) (v := ?_) rfl rfl (by kernel_rfl) (by kernel_rfl) (by kernel_rfl) (fun _ _ _ h => h) (Or.inl ⟨by rfl, ?hy15u10⟩) hHeld ?rest15u10
                  case hy15u10 =>
                    intro w' hS'
                    go_simp
                    try with_reducible rfl
                  simp only [List.setIfInBounds_toArray, List.set_cons_zero, List.set_cons_succ]
                  refine take_op (i := 16) (d := 62) (v := ?_) rfl rfl (by kernel_rfl) (by kernel_rfl) (by kernel_rfl) (fun _ _ _ h => h) (Or.inl ⟨by rfl, ?hy16u11⟩) hHeld ?rest16u11
                  case hy16u11 =>
                    intro w' hS'
                    go_simp
                    try with_reducible rfl
                  simp only [List.setIfInBounds_toArray, List.set_cons_zero, List.set_cons_succ]
                  refine take_op (i := 17) (d := 63) (v := ?_) rfl rfl (by kernel_rfl) (by kernel_rfl) (by kernel_rfl) (fun _ _ _ h => h) (Or.inl ⟨by rfl, ?hy17u12⟩) hHeld ?rest17u12
                  case hy17u12 =>
                    intro w' hS'
                    go_simp
                    try with_reducible rfl
                  simp only [List.setIfInBounds_toArray, List.set_cons_zero, List.set_cons_succ]
                  refine take_op (i := 18) (d := 13) (v := ?_) rfl rfl (by kernel_rfl) (by kernel_rfl) (by kernel_rfl) (fun _ _ _ h => h) (Or.inl ⟨by rfl, ?hy18u13⟩) hHeld ?rest18u13
                  case hy18u13 =>
                    intro w' hS'
                    go_simp
                    try with_reducible rfl
                  simp only [List.setIfInBounds_toArray, List.set_cons_zero, List.set_cons_succ]
                  refine take_op (i := 19) (d := 14) (v := ?_) rfl rfl (by kernel_rfl) (by kernel_rfl) (by kernel_rfl) (fun _ _ _ h => h) (Or.inl ⟨by rfl, ?hy19u14⟩) hHeld ?rest19u14
                  case hy19u14 =>
                    intro w' hS'
                    go_simp
                    try with_reducible rfl
                  simp only [List.setIfInBounds_toArray, List.set_cons_zero, List.set_cons_succ]
                  refine wpAnyH_done (by kernel_rfl) ?_ _
                  have hbz := HBW.out.trans (hHeld.mono HBW.out.size)
                  have HBZ := Lib.hid hbz
                  clear hHeld hbz
                  cases hr : putT ts m (o ++ [p]) (k + 1) with
                  | some r =>
                    rw [hr] at HR HOV
                    have HRR : Hid (R = some r) := Lib.hid HR.out
                    have HOV2 : Hid (OT X9 W.heap.size v3 r) := Lib.hid HOV.out
                    clear HR HOV HI2
                    go_wp2
                    go_ret2
                    exact ⟨⟨_, by rw [HRR.out]; rfl, by rw [HRR.out]; exact ⟨HOV2.out.1, ot_base HOV2.out.2 hbW⟩⟩, HBZ.out⟩
                  | none =>
                    rw [hr] at HR
                    have HRR : Hid (R = (List.range' (k + 1) (ts.length - (k + 1))).findSome? (gT ts m o)) := Lib.hid HR.out
                    clear HR HOV HI2
                    go_wp2
                    go_roundw
                    case rel => exact ⟨k + 1, by omega, by first | rfl | go_num, HBZ.out, HRR.out⟩
                    case measure => simp [intOf]; omega
                · go_simp
                  refine hK.out _ _ (hHeld.alloc hHeld.size (.cells (tileC p.1 p.2) 48)) (fun _ => ?_)
                  clear hK K
                  obtain ⟨G8, hG8⟩ : ∃ G, G = X.heap.size := ⟨_, rfl⟩
                  have hk8 : (X.alloc (.cells (tileC p.1 p.2) 48)).heap[X.heap.size]? = some (.cells (tileC p.1 p.2) 48 (0, 0)) := heap_alloc_new _ _
                  rw [← hG8] at hk8 ⊢
                  clear hG8
                  refine abs_anyP (fun V => Below wr.heap.size wr V ∧ V.ownsRow wr.heap.size 48 2 (.slice (some ⟨G0, 0, none⟩) 0 0) 0 [] ∧ V.heap[G8]? = some (.cells (tileC p.1 p.2) 48 (0, 0))) ⟨hHeld.alloc hHeld.size _, hR0.alloc _, hk8⟩ ?_
                  clear hHeld hk8 hR0
                  rintro X ⟨hHeld, hR0, hK8⟩
                  refine wpAnyH_ready (rs := [3]) (by kernel_rfl) (by simp) ?_
                  refine AllReadyH.cons rfl (fun K hK => ?_) AllReadyH.nil
                  show Oper.wp _ _ _ _ _ _
                  refine wp_append_own _ (.tmp 48) (.tmp 49) 28 rfl wr.heap.size 48 i0 (.agg #[.int .i8 0, .int .i8 0]) 2 2 Tryd.underlying28 hin hz0 hz1 hz2 rfl (by decide) (.slice (some ⟨G0, 0, none⟩) 0 0) _ _ rfl hR0 ⟨gO, 0, none⟩ o.length capO (tlV o) rfl (tlV_len o) (fun j u hu => by rw [addr_add, Nat.zero_add, (owns_bE HOR.out hHeld).cellAt j (by have := (List.getElem?_eq_some_iff.1 hu).1; rw [tlV_len] at this; exact this)]; exact hu) (tlV_one o) (by unfold maxLen; omega) (by omega) hHeld.size ?_
                  intro v1 V hown hgrow hnil
                  rw [List.nil_append, Nat.zero_add] at hown
                  have hnn1 : v1 ≠ .slice none 0 0 := fun e => by have := (hnil.1 e).1; cases this
                  have hbn := hHeld.grown hgrow hHeld.size (fun j e => (hR0.lt j e).1)
                  refine hK.out _ _ hbn (fun _ => ?_)
                  clear hK K
                  refine abs_anyP (fun V => Below wr.heap.size wr V ∧ V.heap[G8]? = some (.cells (tileC p.1 p.2) 48 (0, 0)) ∧ V.ownsRow wr.heap.size 48 2 v1 o.length (tlV o)) ⟨hbn, (hgrow.block G8 (row_lt hK8) (row_neG hK8 hR0)).trans hK8, hown⟩ ?_
                  clear hHeld hown hgrow hnil hbn hR0 hK8
                  rintro X ⟨hHeld, hK8, hR3⟩
                  refine wpAnyH_ready (rs := [9]) (by kernel_rfl) (by simp) ?_
                  refine AllReadyH.cons rfl (fun K hK => ?_) AllReadyH.nil
                  show Oper.wp _ _ _ _ _ _
                  refine wp_append_own _ (.tmp 50) (.tmp 55) 28 rfl wr.heap.size 48 i0 (.agg #[.int .i8 0, .int .i8 0]) 2 2 Tryd.underlying28 hin hz0 hz1 hz2 rfl (by decide) v1 _ _ rfl hR3 ⟨G8, 0, none⟩ 1 1 ([.int .i8 p.1, .int .i8 p.2]) rfl rfl (fun j u hu => tile_cellG hK8 hu) (fun u hu => by simp at hu; rcases hu with rfl | rfl <;> rfl) (by unfold maxLen; omega) (by omega) hHeld.size ?_
                  intro v2 V hown hgrow hnil
                  have hnn2 : v2 ≠ .slice none 0 0 := fun e => by have := (hnil.1 e).2; cases this
                  have hbn := hHeld.grown hgrow hHeld.size (fun j e => (hR3.lt j e).1)
                  refine hK.out _ _ hbn (fun _ => ?_)
                  clear hK K
                  refine abs_anyP (fun V => Below wr.heap.size wr V ∧ V.ownsRow wr.heap.size 48 2 v2 (o.length + 1) (tlV o ++ [.int .i8 p.1, .int .i8 p.2])) ⟨hbn, hown⟩ ?_
                  clear hHeld hown hgrow hnil hbn hK8 hR3 hnn1
                  rintro X ⟨hHeld, hR9⟩
                  have hot : OT X W.heap.size v2 (o ++ [p]) := ot_snoc (ot_base hR9 HBW.out.size) hnn2
                  refine wpAnyH_ready (rs := [14]) (by kernel_rfl) (by simp) ?_
                  refine AllReadyH.cons rfl (fun K hK => ?_) AllReadyH.nil
                  have hIH := HI2.out v2 X hHeld (owns_bE HLR.out hHeld) hot
                  clear hot hR9
                  go_simp
                  refine hIH.mono ?_
                  rintro e X9 ⟨⟨v3, rfl, hov⟩, hb9⟩
                  have HOV := Lib.hid hov
                  clear hov hIH
                  refine hK.out _ _ (hHeld.trans (hb9.mono hHeld.size)) (fun hHeld2 => ?_)
                  clear hK K
                  replace hHeld := hHeld2
                  clear hHeld2 hb9 hnn2
                  refine take_op (i := 15) (d := 46) (v := ?_) rfl rfl (by kernel_rfl) (by kernel_rfl) (by kernel_rfl) (fun _ _ _ h => h) (Or.inl ⟨by rfl, ?hy15u15⟩) hHeld ?rest15u15
                  case hy15u15 =>
                    intro w' hS'
                    go_simp
                    try with_reducible rfl
                  simp only [List.setIfInBounds_toArray, List.set_cons_zero, List.set_cons_succ]
                  refine take_op (i := 16) (d := 62) (v := ?_) rfl rfl (by kernel_rfl) (by kernel_rfl) (by kernel_rfl) (fun _ _ _ h => h) (Or.inl ⟨by rfl, ?hy16u16⟩) hHeld ?rest16u16
                  case hy16u16 =>
                    intro w' hS'
                    go_simp
                    try with_reducible rfl
                  simp only [List.setIfInBounds_toArray, List.set_cons_zero, List.set_cons_succ]
                  refine take_op (i := 17) (d := 63) (v := ?_) rfl rfl (by kernel_rfl) (by kernel_rfl) (by kernel_rfl) (fun _ _ _ h => h) (Or.inl ⟨by rfl, ?hy17u17⟩) hHeld ?rest17u17
                  case hy17u17 =>
                    intro w' hS'
                    go_simp
                    try with_reducible rfl
                  simp only [List.setIfInBounds_toArray, List.set_cons_zero, List.set_cons_succ]
                  refine take_op (i := 18) (d := 13) (v := ?_) rfl rfl (by kernel_rfl) (by kernel_rfl) (by kernel_rfl) (fun _ _ _ h => h) (Or.inl ⟨by rfl, ?hy18u18⟩) hHeld ?rest18u18
                  case hy18u18 =>
                    intro w' hS'
                    go_simp
                    try with_reducible rfl
                  simp only [List.setIfInBounds_toArray, List.set_cons_zero, List.set_cons_succ]
                  refine take_op (i := 19) (d := 14) (v := ?_) rfl rfl (by kernel_rfl) (by kernel_rfl) (by kernel_rfl) (fun _ _ _ h => h) (Or.inl ⟨by rfl, ?hy19u19⟩) hHeld ?rest19u19
                  case hy19u19 =>
                    intro w' hS'
                    go_simp
                    try with_reducible rfl
                  simp only [List.setIfInBounds_toArray, List.set_cons_zero, List.set_cons_succ]
                  refine wpAnyH_done (by kernel_rfl) ?_ _
                  have hbz := HBW.out.trans (hHeld.mono HBW.out.size)
                  have HBZ := Lib.hid hbz
                  clear hHeld hbz
                  cases hr : putT ts m (o ++ [p]) (k + 1) with
                  | some r =>
                    rw [hr] at HR HOV
                    have HRR : Hid (R = some r) := Lib.hid HR.out
                    have HOV2 : Hid (OT X9 W.heap.size v3 r) := Lib.hid HOV.out
                    clear HR HOV HI2
                    go_wp2
                    go_ret2
                    exact ⟨⟨_, by rw [HRR.out]; rfl, by rw [HRR.out]; exact ⟨HOV2.out.1, ot_base HOV2.out.2 hbW⟩⟩, HBZ.out⟩
                  | none =>
                    rw [hr] at HR
                    have HRR : Hid (R = (List.range' (k + 1) (ts.length - (k + 1))).findSome? (gT ts m o)) := Lib.hid HR.out
                    clear HR HOV HI2
                    go_wp2
                    go_roundw
                    case rel => exact ⟨k + 1, by omega, by first | rfl | go_num, HBZ.out, HRR.out⟩
                    case measure => simp [intOf]; omega
              · go_simp
                refine hK.out _ _ (hHeld.alloc hHeld.size (.cells (tileC p.1 p.2) 48)) (fun _ => ?_)
                clear hK K
                obtain ⟨G8, hG8⟩ : ∃ G, G = X.heap.size := ⟨_, rfl⟩
                have hk8 : (X.alloc (.cells (tileC p.1 p.2) 48)).heap[X.heap.size]? = some (.cells (tileC p.1 p.2) 48 (0, 0)) := heap_alloc_new _ _
                rw [← hG8] at hk8 ⊢
                clear hG8
                refine abs_anyP (fun V => Below wr.heap.size wr V ∧ V.heap[G8]? = some (.cells (tileC p.1 p.2) 48 (0, 0))) ⟨hHeld.alloc hHeld.size _, hk8⟩ ?_
                clear hHeld hk8 
                rintro X ⟨hHeld, hK8⟩
                refine wpAnyH_ready (rs := [1]) (by kernel_rfl) (by simp) ?_
                refine AllReadyH.cons rfl (fun K hK => ?_) AllReadyH.nil
                go_simp
                refine hK.out _ _ (hHeld.alloc hHeld.size (.cells #[] 48)) (fun _ => ?_)
                clear hK K
                obtain ⟨G0, hG0⟩ : ∃ G, G = X.heap.size := ⟨_, rfl⟩
                have hr0 : (X.alloc (.cells #[] 48)).ownsRow wr.heap.size 48 2 (.slice (some ⟨X.heap.size, 0, none⟩) 0 0) 0 [] := World.ownsRow_made X _ _ hHeld.size (Nat.zero_le _) rfl
                rw [← hG0] at hr0 ⊢
                clear hG0
                refine abs_anyP (fun V => Below wr.heap.size wr V ∧ V.ownsRow wr.heap.size 48 2 (.slice (some ⟨G0, 0, none⟩) 0 0) 0 [] ∧ V.heap[G8]? = some (.cells (tileC p.1 p.2) 48 (0, 0))) ⟨hHeld.alloc hHeld.size _, hr0, below_row ((Below.refl _ _).alloc (Nat.le_refl _) _) hK8⟩ ?_
                clear hHeld hr0 hK8
                rintro X ⟨hHeld, hR0, hK8⟩
                refine wpAnyH_ready (rs := [3]) (by kernel_rfl) (by simp) ?_
                refine AllReadyH.cons rfl (fun K hK => ?_) AllReadyH.nil
                show Oper.wp _ _ _ _ _ _
                refine wp_append_own _ (.tmp 48) (.tmp 49) 28 rfl wr.heap.size 48 i0 (.agg #[.int .i8 0, .int .i8 0]) 2 2 Tryd.underlying28 hin hz0 hz1 hz2 rfl (by decide) (.slice (some ⟨G0, 0, none⟩) 0 0) _ _ rfl hR0 ⟨gO, 0, none⟩ o.length capO (tlV o) rfl (tlV_len o) (fun j u hu => by rw [addr_add, Nat.zero_add, (owns_bE HOR.out hHeld).cellAt j (by have := (List.getElem?_eq_some_iff.1 hu).1; rw [tlV_len] at this; exact this)]; exact hu) (tlV_one o) (by unfold maxLen; omega) (by omega) hHeld.size ?_
                intro v1 V hown hgrow hnil
                rw [List.nil_append, Nat.zero_add] at hown
                have hnn1 : v1 ≠ .slice none 0 0 := fun e => by have := (hnil.1 e).1; cases this
                have hbn := hHeld.grown hgrow hHeld.size (fun j e => (hR0.lt j e).1)
                refine hK.out _ _ hbn (fun _ => ?_)
                clear hK K
                refine abs_anyP (fun V => Below wr.heap.size wr V ∧ V.heap[G8]? = some (.cells (tileC p.1 p.2) 48 (0, 0)) ∧ V.ownsRow wr.heap.size 48 2 v1 o.length (tlV o)) ⟨hbn, (hgrow.block G8 (row_lt hK8) (row_neG hK8 hR0)).trans hK8, hown⟩ ?_
                clear hHeld hown hgrow hnil hbn hR0 hK8
                rintro X ⟨hHeld, hK8, hR3⟩
                refine wpAnyH_ready (rs := [9]) (by kernel_rfl) (by simp) ?_
                refine AllReadyH.cons rfl (fun K hK => ?_) AllReadyH.nil
                show Oper.wp _ _ _ _ _ _
                refine wp_append_own _ (.tmp 50) (.tmp 55) 28 rfl wr.heap.size 48 i0 (.agg #[.int .i8 0, .int .i8 0]) 2 2 Tryd.underlying28 hin hz0 hz1 hz2 rfl (by decide) v1 _ _ rfl hR3 ⟨G8, 0, none⟩ 1 1 ([.int .i8 p.1, .int .i8 p.2]) rfl rfl (fun j u hu => tile_cellG hK8 hu) (fun u hu => by simp at hu; rcases hu with rfl | rfl <;> rfl) (by unfold maxLen; omega) (by omega) hHeld.size ?_
                intro v2 V hown hgrow hnil
                have hnn2 : v2 ≠ .slice none 0 0 := fun e => by have := (hnil.1 e).2; cases this
                have hbn := hHeld.grown hgrow hHeld.size (fun j e => (hR3.lt j e).1)
                refine hK.out _ _ hbn (fun _ => ?_)
                clear hK K
                refine abs_anyP (fun V => Below wr.heap.size wr V ∧ V.ownsRow wr.heap.size 48 2 v2 (o.length + 1) (tlV o ++ [.int .i8 p.1, .int .i8 p.2])) ⟨hbn, hown⟩ ?_
                clear hHeld hown hgrow hnil hbn hK8 hR3 hnn1
                rintro X ⟨hHeld, hR9⟩
                have hot : OT X W.heap.size v2 (o ++ [p]) := ot_snoc (ot_base hR9 HBW.out.size) hnn2
                refine wpAnyH_ready (rs := [14]) (by kernel_rfl) (by simp) ?_
                refine AllReadyH.cons rfl (fun K hK => ?_) AllReadyH.nil
                have hIH := HI2.out v2 X hHeld (owns_bE HLR.out hHeld) hot
                clear hot hR9
                go_simp
                refine hIH.mono ?_
                rintro e X9 ⟨⟨v3, rfl, hov⟩, hb9⟩
                have HOV := Lib.hid hov
                clear hov hIH
                refine hK.out _ _ (hHeld.trans (hb9.mono hHeld.size)) (fun hHeld2 => ?_)
                clear hK K
                replace hHeld := hHeld2
                clear hHeld2 hb9 hnn2
                refine take_op (i := 15) (d := 46) (v := ?_) rfl rfl (by kernel_rfl) (by kernel_rfl) (by kernel_rfl) (fun _ _ _ h => h) (Or.inl ⟨by rfl, ?hy15u20⟩) hHeld ?rest15u20
                case hy15u20 =>
                  intro w' hS'
                  go_simp
                  try with_reducible rfl
                simp only [List.setIfInBounds_toArray, List.set_cons_zero, List.set_cons_succ]
                refine take_op (i := 16) (d := 62) (v := ?_) rfl rfl (by kernel_rfl) (by kernel_rfl) (by kernel_rfl) (fun _ _ _ h => h) (Or.inl ⟨by rfl, ?hy16u21⟩) hHeld ?rest16u21
                case hy16u21 =>
                  intro w' hS'
                  go_simp
                  try with_reducible rfl
                simp only [List.setIfInBounds_toArray, List.set_cons_zero, List.set_cons_succ]
                refine take_op (i := 17) (d := 63) (v := ?_) rfl rfl (by kernel_rfl) (by kernel_rfl) (by kernel_rfl) (fun _ _ _ h => h) (Or.inl ⟨by rfl, ?hy17u22⟩) hHeld ?rest17u22
                case hy17u22 =>
                  intro w' hS'
                  go_simp
                  try with_reducible rfl
                simp only [List.setIfInBounds_toArray, List.set_cons_zero, List.set_cons_succ]
                refine take_op (i := 18) (d := 13) (v := ?_) rfl rfl (by kernel_rfl) (by kernel_rfl) (by kernel_rfl) (fun _ _ _ h => h) (Or.inl ⟨by rfl, ?hy18u23⟩) hHeld ?rest18u23
                case hy18u23 =>
                  intro w' hS'
                  go_simp
                  try with_reducible rfl
                simp only [List.setIfInBounds_toArray, List.set_cons_zero, List.set_cons_succ]
                refine take_op (i := 19) (d := 14) (v := ?_) rfl rfl (by kernel_rfl) (by kernel_rfl) (by kernel_rfl) (fun _ _ _ h => h) (Or.inl ⟨by rfl, ?hy19u24⟩) hHeld ?rest19u24
                case hy19u24 =>
                  intro w' hS'
                  go_simp
                  try with_reducible rfl
                simp only [List.setIfInBounds_toArray, List.set_cons_zero, List.set_cons_succ]
                refine wpAnyH_done (by kernel_rfl) ?_ _
                have hbz := HBW.out.trans (hHeld.mono HBW.out.size)
                have HBZ := Lib.hid hbz
                clear hHeld hbz
                cases hr : putT ts m (o ++ [p]) (k + 1) with
                | some r =>
                  rw [hr] at HR HOV
                  have HRR : Hid (R = some r) := Lib.hid HR.out
                  have HOV2 : Hid (OT X9 W.heap.size v3 r) := Lib.hid HOV.out
                  clear HR HOV HI2
                  go_wp2
                  go_ret2
                  exact ⟨⟨_, by rw [HRR.out]; rfl, by rw [HRR.out]; exact ⟨HOV2.out.1, ot_base HOV2.out.2 hbW⟩⟩, HBZ.out⟩
                | none =>
                  rw [hr] at HR
                  have HRR : Hid (R = (List.range' (k + 1) (ts.length - (k + 1))).findSome? (gT ts m o)) := Lib.hid HR.out
                  clear HR HOV HI2
                  go_wp2
                  go_roundw
                  case rel => exact ⟨k + 1, by omega, by first | rfl | go_num, HBZ.out, HRR.out⟩
                  case measure => simp [intOf]; omega
      · obtain rfl : k = ts.length := by omega
        rw [put_end] at hR
        have HR := Lib.hid hR
        clear hR
        have z1 : decide ((ts.length : Int) < (ts.length : Int)) = false := decide_eq_false (by omega)
        go_wp2
        go_ret2
        exact ⟨⟨_, by rw [HR.out]; rfl, by rw [HR.out]; exact ⟨⟨_, _, rfl⟩, World.ownsRow_made _ _ _ (Nat.le_trans hbW HBW.out.size) (Nat.zero_le _) rfl⟩⟩, HBW.out.alloc HBW.out.size _⟩

end Go.Proofs.YtddnfbpgldchcaaDoor

namespace Go.Proofs.YtddnfbpgldchcaaDoor
open Go.ChangeShapes Go.WideShapes Go.ChangeAt Go.RowKit Go.Deep Go.Joins Go.Shelf Go.ChangeMaps

attribute [local go_sem] run_store_floatE

theorem tC_tks (W H : Nat) (hW : 0 < W) (hH : 0 < H) : ∀ n, n ≤ W * H → tC W n = tlV ((tks W H hW hH n).map (fun x => x.1))
  | 0, _ => rfl
  | n + 1, h => by
    obtain ⟨x, y, hx, hy, hk, htk⟩ := tk_split W H hW hH (show n < W * H by omega)
    have e := tC_tks W H hW hH n (by omega)
    rw [tks_succ, List.map_append, List.map_singleton, tlV_snoc, ← e, htk]
    rw [hk, tC_succ W hW hx]

theorem tks_at (W H : Nat) (hW : 0 < W) (hH : 0 < H) {n k : Nat} (h : k < n) : ((tks W H hW hH n).map (fun x => x.1))[k]? = some (tk W H hW hH k).1 := by
  unfold tks
  rw [List.map_map, List.getElem?_map, List.getElem?_range h]
  rfl

theorem inI_pd (mn : Int) (le : Nat) : (fin32 le && inI 0 5 mn) = pdIn le mn := by
  unfold pdIn inI
  rw [Bool.and_assoc]

set_option maxRecDepth 100000 in
set_option maxHeartbeats 4000000 in
theorem sPd_n (wd hg : Int) (iw : I8 wd) (ih : I8 hg) (sv : Value) (ws : List Wn) (hwf : ∀ x ∈ ws, WnWf x) (le : Nat) (mn : Int) (c : Int) (hne : c ≠ 0) (w : World) (hws : WinsAt w sv ws) (hc : codeR (okRm wd hg ws) (pdIn le mn) = c) :
    Calls Tryd.prog 5 #[.agg (roomC wd hg sv), .float .f32 le, .int .i64 mn] w fun e w' => (∃ v, e = .returned (.tuple #[v, .int .i64 c]) ∧ w'.ownsRow w.heap.size 48 2 v 0 (tlV [])) ∧ Below w.heap.size w w' := by
  have HAS0 : Hid (∀ fine, fine = pdIn le mn → ∀ V, V.heap[w.heap.size]? = some (.cells (roomC wd hg sv) 33 (0, 0)) → WinsAt V sv ws → Calls Tryd.prog 14 #[.pointer (some ⟨w.heap.size, 0, none⟩), .bool fine] V fun e w' => e = .returned (.int .i64 c) ∧ Below V.heap.size V w') := Lib.hid (fun fine hf V q h => by subst hf; have := l03Asked_any wd hg iw ih sv ws hwf (pdIn le mn) w.heap.size 33 (0, 0) V q h; rw [hc] at this; exact this)
  have HNN0 := Lib.hid (fun V => sNumT le V)
  have HIN := Lib.hid (fun V => l00In_ban mn 0 5 V)
  have hpd := inI_pd mn le
  have HW := Lib.hid hws
  have hcn : (c != 0) = true := bne_iff_ne.2 hne
  clear hws hwf iw ih hc
  cases hf : fin32 le with
  | false =>
    rw [hf] at hpd
    have HAS := Lib.hid (HAS0.out false hpd)
    have HNN : Hid (∀ V, Calls Tryd.prog 15 #[.float .f32 le] V fun e w' => e = .returned (.bool false) ∧ V = w') := Lib.hid (fun V => by have := HNN0.out V; rw [hf] at this; exact this)
    clear HAS0 HNN0 hpd hf
    go_enter Tryd.func5, Tryd.ntmps5
    go_upto_region 1 with (fail)
    refine abs_world (fun V => V.heap[w.heap.size]? = some (.cells (roomC wd hg sv) 33 (0, 0)) ∧ Below w.heap.size w V) ⟨heap_alloc_new _ _, (Below.refl _ _).alloc (Nat.le_refl _) _⟩ ?_
    rintro V ⟨h0, hb⟩
    have H0 := Lib.hid h0
    have HV := Lib.hid (wins_below HW.out hb)
    clear h0
    go_wp2_with (first | (go_at_call 15; refine (HNN.out _).mono ?_; rintro e w' ⟨rfl, rfl⟩) | (go_at_call 16; refine (HIN.out _).mono ?_; rintro e w' ⟨rfl, rfl⟩) | (go_at_call 14; refine (HAS.out _ H0.out HV.out).mono ?_; rintro e W1 ⟨rfl, hb1⟩; replace H0 := Lib.hid (below_row hb1 H0.out); replace HV := Lib.hid (wins_below HV.out hb1); replace hb := hb.trans (hb1.mono hb.size); clear hb1))
    go_ret2
    exact ⟨⟨_, rfl, World.ownsRow_made _ _ _ hb.size (Nat.zero_le _) rfl⟩, hb.alloc hb.size _⟩
  | true =>
    rw [hf, Bool.true_and] at hpd
    have HAS := Lib.hid (HAS0.out (inI 0 5 mn) hpd)
    have HNN : Hid (∀ V, Calls Tryd.prog 15 #[.float .f32 le] V fun e w' => e = .returned (.bool true) ∧ V = w') := Lib.hid (fun V => by have := HNN0.out V; rw [hf] at this; exact this)
    clear HAS0 HNN0 hpd hf
    go_enter Tryd.func5, Tryd.ntmps5
    go_upto_region 1 with (fail)
    refine abs_world (fun V => V.heap[w.heap.size]? = some (.cells (roomC wd hg sv) 33 (0, 0)) ∧ Below w.heap.size w V) ⟨heap_alloc_new _ _, (Below.refl _ _).alloc (Nat.le_refl _) _⟩ ?_
    rintro V ⟨h0, hb⟩
    have H0 := Lib.hid h0
    have HV := Lib.hid (wins_below HW.out hb)
    clear h0
    go_wp2_with (first | (go_at_call 15; refine (HNN.out _).mono ?_; rintro e w' ⟨rfl, rfl⟩) | (go_at_call 16; refine (HIN.out _).mono ?_; rintro e w' ⟨rfl, rfl⟩) | (go_at_call 14; refine (HAS.out _ H0.out HV.out).mono ?_; rintro e W1 ⟨rfl, hb1⟩; replace H0 := Lib.hid (below_row hb1 H0.out); replace HV := Lib.hid (wins_below HV.out hb1); replace hb := hb.trans (hb1.mono hb.size); clear hb1))
    go_ret2
    exact ⟨⟨_, rfl, World.ownsRow_made _ _ _ hb.size (Nat.zero_le _) rfl⟩, hb.alloc hb.size _⟩

set_option maxRecDepth 100000 in
set_option maxHeartbeats 8000000 in
theorem sPd_y (W H : Nat) (hW : 0 < W) (hH : 0 < H) (sv : Value) (ws : List Wn) (hwf : ∀ x ∈ ws, WnWf x) (g : Int × Int → Nat) (hgd : g = fun t => litW (W : Int) (H : Int) t (fun _ => true) ws) (le : Nat) (n : Nat) (hr : pdIn le (n : Int) = true) (R : Option (List (Int × Int))) (hR : R = putT (brT (fun t => enB le (g t)) (tks W H hW hH (W * H))) n [] 0) (w : World) (hws : WinsAt w sv ws) (hv : okRm (W : Int) (H : Int) ws = true) :
    Calls Tryd.prog 5 #[.agg (roomC (W : Int) (H : Int) sv), .float .f32 le, .int .i64 (n : Int)] w fun e w' => (∃ v, e = .returned (.tuple #[v, .int .i64 (if R.isSome then 0 else 6)]) ∧ w'.ownsRow w.heap.size 48 2 v (R.getD []).length (tlV (R.getD []))) ∧ Below w.heap.size w w' := by
  have ok := okRm_get hv
  have hW1 : W ≤ 10 := by have := ok.w1; omega
  have hH1 : H ≤ 10 := by have := ok.h1; omega
  have iw : I8 (W : Int) := by unfold I8; omega
  have ih : I8 (H : Int) := by unfold I8; omega
  have hrr : fin32 le = true ∧ (n : Int) ≤ 5 := by
    unfold pdIn at hr
    rw [Bool.and_eq_true, Bool.and_eq_true] at hr
    exact ⟨hr.1.1, of_decide_eq_true hr.2⟩
  obtain ⟨hfl, h5⟩ := hrr
  obtain ⟨i0, hin, hz0, hz1, hz2⟩ := info_parts infoTE
  have HAS : Hid (∀ V, V.heap[w.heap.size]? = some (.cells (roomC (W : Int) (H : Int) sv) 33 (0, 0)) → WinsAt V sv ws → Calls Tryd.prog 14 #[.pointer (some ⟨w.heap.size, 0, none⟩), .bool true] V fun e w' => e = .returned (.int .i64 0) ∧ Below V.heap.size V w') := Lib.hid (fun V q h => by have := l03Asked_any (W : Int) (H : Int) iw ih sv ws hwf true w.heap.size 33 (0, 0) V q h; rw [hv] at this; exact this)
  have HNN : Hid (∀ V, Calls Tryd.prog 15 #[.float .f32 le] V fun e w' => e = .returned (.bool true) ∧ V = w') := Lib.hid (fun V => by have := sNumT le V; rw [hfl] at this; exact this)
  have HIN : Hid (∀ V, Calls Tryd.prog 16 #[.int .i64 (n : Int), .int .i64 0, .int .i64 5] V fun e w' => e = .returned (.bool true) ∧ V = w') := Lib.hid (fun V => by
    have := l00In_ban (n : Int) 0 5 V
    have e : inI 0 5 (n : Int) = true := by unfold inI; rw [decide_eq_true (by omega), decide_eq_true (by omega)]; rfl
    rw [e] at this
    exact this)
  have hn1 : W * H ≤ 100 := Nat.mul_le_mul hW1 hH1
  have HTI : Hid (∀ V, V.heap[w.heap.size]? = some (.cells (roomC (W : Int) (H : Int) sv) 33 (0, 0)) → Calls Tryd.prog 17 #[.pointer (some ⟨w.heap.size, 0, none⟩)] V fun e w' => (∃ v, e = .returned v ∧ w'.ownsRow V.heap.size 48 2 v ((tks W H hW hH (W * H)).map (fun x => x.1)).length (tlV ((tks W H hW hH (W * H)).map (fun x => x.1)))) ∧ Below V.heap.size V w') := Lib.hid (fun V q => by
    have := l03Tiles_any W H hW hW1 hH1 sv w.heap.size V q
    rw [tC_tks W H hW hH (W * H) (Nat.le_refl _)] at this
    rw [List.length_map, tks_length]
    exact this)
  have HLT : Hid (∀ (x : Tt W H), ∀ V, V.heap[w.heap.size]? = some (.cells (roomC (W : Int) (H : Int) sv) 33 (0, 0)) → WinsAt V sv ws → Calls Tryd.prog 18 #[.pointer (some ⟨w.heap.size, 0, none⟩), .agg (tileC x.1.1 x.1.2)] V fun e V' => e = .returned (.float .f32 (g x.1)) ∧ Below V.heap.size V V') := Lib.hid (by
    rw [hgd]
    exact fun x V q hV => l03Light_any (W : Int) (H : Int) sv ws ok hwf x.1.1 x.1.2 x.2 w.heap.size 33 (0, 0) V q hV)
  have HAT := Lib.hid (fun k (hk : k < W * H) => tks_at W H hW hH hk)
  have HNO := Lib.hid (fun k => @brT_no W H (fun t => enB le (g t)) (tks W H hW hH k) (tk W H hW hH k))
  have HYS := Lib.hid (fun k => @brT_yes W H (fun t => enB le (g t)) (tks W H hW hH k) (tk W H hW hH k))
  have HBL := Lib.hid (fun k => brT_len (fun t => enB le (g t)) (tks W H hW hH k))
  have HSC := Lib.hid (fun k => tks_succ W H hW hH k)
  have HTL := Lib.hid (fun k => tks_length W H hW hH k)
  have HBK := Lib.hid (brT_ok hW1 hH1 (fun t => enB le (g t)) (tks W H hW hH (W * H)))
  have HRR := Lib.hid hR
  have HW := Lib.hid hws
  clear hws hv hwf iw ih ok hgd hR hfl hr
  go_enter Tryd.func5, Tryd.ntmps5
  go_upto_region 1 with (fail)
  refine abs_world (fun V => V.heap[w.heap.size]? = some (.cells (roomC (W : Int) (H : Int) sv) 33 (0, 0)) ∧ Below w.heap.size w V) ⟨heap_alloc_new _ _, (Below.refl _ _).alloc (Nat.le_refl _) _⟩ ?_
  rintro V ⟨h0, hb⟩
  have H0 := Lib.hid h0
  have HV := Lib.hid (wins_below HW.out hb)
  clear h0
  have hl0 := row_lt H0.out
  go_upto_region 4 with (first | (go_at_call 15; refine (HNN.out _).mono ?_; rintro e w' ⟨rfl, rfl⟩) | (go_at_call 16; refine (HIN.out _).mono ?_; rintro e w' ⟨rfl, rfl⟩) | (go_at_call 14; refine (HAS.out _ H0.out HV.out).mono ?_; rintro e W1 ⟨rfl, hb1⟩; replace H0 := Lib.hid (below_row hb1 H0.out); replace HV := Lib.hid (wins_below HV.out hb1); replace hb := hb.trans (hb1.mono hb.size); clear hb1))
  clear HNN HIN HAS
  go_upto_region 5 with (fail)
  refine abs_world (fun X => X.heap[w.heap.size]? = some (.cells (roomC (W : Int) (H : Int) sv) 33 (0, 0)) ∧ X.ownsRow w.heap.size 48 2 (.slice (some ⟨W1.heap.size, 0, none⟩) 0 0) 0 [] ∧ Below w.heap.size w X) ⟨below_row ((Below.refl _ _).alloc (Nat.le_refl _) _) H0.out, World.ownsRow_made _ _ _ hb.size (Nat.zero_le _) rfl, hb.alloc hb.size _⟩ ?_
  clear H0 HV hb
  generalize W1.heap.size = b1 at *
  rintro X1 ⟨h0, hr1, hb⟩
  have H0 := Lib.hid h0
  have HR1 := Lib.hid hr1
  have lb1 : b1 < X1.heap.size := (hr1.lt b1 rfl).2
  clear h0 hr1
  go_upto_region 6 with (go_at_call 17; refine (HTI.out _ H0.out).mono ?_; rintro e W3 ⟨⟨vA, rfl, hvA⟩, hb1⟩; have HVA := Lib.hid hvA; clear hvA; replace H0 := Lib.hid (below_row hb1 H0.out); replace HR1 := Lib.hid (owns_bE HR1.out hb1); replace hb := hb.trans (hb1.mono hb.size); clear hb1)
  clear HTI
  have hnA : ((tks W H hW hH (W * H)).map (fun x => x.1)).length = W * H := by rw [List.length_map, HTL.out]
  generalize htA : (tks W H hW hH (W * H)).map (fun x => x.1) = tA at *
  obtain ⟨gA, capA, cur, rfl, hge, hTA⟩ : ∃ gA capA cur, vA = .slice (some ⟨gA, 0, none⟩) tA.length capA ∧ X1.heap.size ≤ gA ∧ W3.heap[gA]? = some (.cells cur 48 (0, 0)) := by
    have hp : 0 < W * H := Nat.mul_pos hW hH
    obtain ⟨ga, ca, cu, e1, e0, e2, -, -⟩ := tl_get HVA.out (HAT.out 0 hp)
    exact ⟨ga, ca, cu, e1, e0, e2⟩
  have HGT : Hid (∀ k p, tA[k]? = some p → k * 2 + 2 ≤ cur.size ∧ cur.extract (k * 2) (k * 2 + 2) = tileC p.1 p.2) := Lib.hid (fun k p hkp => by
    obtain ⟨ga, ca, cu, e1, -, e2, e3, e4⟩ := tl_get HVA.out hkp
    injection e1 with e1
    obtain rfl : gA = ga := by simpa using e1
    rw [hTA] at e2
    injection e2 with e2
    injection e2 with e2
    subst e2
    exact ⟨e3, e4⟩)
  have hbA : b1 ≠ gA := by omega
  have HTA := Lib.hid hTA
  have HBW := Lib.hid hb
  clear hTA HVA htA hb
  rw [hnA]
  clear hnA
  go_wp2
  go_loopw [9, 11] (fun lv i wr => ∃ k : Nat, k ≤ W * H ∧ i = .int .i64 (k : Int) ∧ wr.heap[w.heap.size]? = some (.cells (roomC (W : Int) (H : Int) sv) 33 (0, 0)) ∧ wr.heap[gA]? = some (.cells cur 48 (0, 0)) ∧ wr.ownsRow w.heap.size 48 2 lv (brT (fun t => enB le (g t)) (tks W H hW hH k)).length (tlV (brT (fun t => enB le (g t)) (tks W H hW hH k))) ∧ lv.ownBlock ≠ some gA ∧ Below w.heap.size w wr) (fun _ i _ => (W * H : Nat) - (intOf i).toNat)
  case atStart => exact ⟨0, Nat.zero_le _, rfl, H0.out, HTA.out, HR1.out, fun e => hbA (Option.some.inj e), HBW.out⟩
  case round =>
    clear H0 HTA HR1 HBW
    obtain ⟨k, hk, rfl, h0, hta, hli, hne, hb⟩ := hrel
    have H0 := Lib.hid h0
    have HTA := Lib.hid hta
    have HLI := Lib.hid hli
    have HBW := Lib.hid hb
    have HV := Lib.hid (wins_below HW.out hb)
    clear h0 hta hli hb
    by_cases hlt : k < W * H
    · obtain ⟨hsz, hex⟩ := HGT.out k _ (HAT.out k hlt)
      have HLA := Lib.hid (HLT.out (tk W H hW hH k))
      have HN := Lib.hid (HNO.out k)
      have HY := Lib.hid (HYS.out k)
      have hbl := HBL.out k
      rw [HTL.out] at hbl
      rw [← HSC.out] at HN HY
      generalize tk W H hW hH k = pk at *
      obtain ⟨p, hpk⟩ := pk
      have HSZ := Lib.hid hsz
      have HEX := Lib.hid hex
      have hks : (tileC p.1 p.2).size = 2 := rfl
      have z1 : (k : Int) < ((W * H : Nat) : Int) := by omega
      have z2 : (0 : Int) ≤ (k : Int) := by omega
      clear HNO HYS HBL HSC HTL HAT HLT HBK hsz hex
      dsimp only at *
      have heq : enB le (g p) = (FloatKind.f32.format.order (g p) le == some Ordering.gt || FloatKind.f32.format.order (g p) le == some Ordering.eq) := rfl
      generalize hq : enB le (g p) = q at *
      cases q with
      | false =>
        have hno := Lib.hid (HN.out rfl)
        have heq2 := heq.symm
        clear HN HY hq heq
        go_wp2_with (first | (refine wpList_load_part rfl 48 _ rfl gA (k * 2) 2 rfl 48 cur (0, 0) _ HTA.out Tryd.underlying48 rfl info_tile HSZ.out (tileC p.1 p.2) HEX.out ?_) | (go_at_call 18; refine (HLA.out _ H0.out HV.out).mono ?_; rintro e W2 ⟨rfl, hb2⟩; replace H0 := Lib.hid (below_row hb2 H0.out); replace HTA := Lib.hid (below_row hb2 HTA.out); replace HLI := Lib.hid (owns_bE HLI.out hb2); replace HBW := Lib.hid (HBW.out.trans (hb2.mono HBW.out.size)); clear hb2))
        go_roundw
        case rel => exact ⟨k + 1, by omega, by first | rfl | go_num, H0.out, HTA.out, by rw [hno.out]; exact HLI.out, hne, HBW.out⟩
        case measure => simp [intOf]; omega
      | true =>
        have hys := Lib.hid (HY.out rfl)
        have heq2 := heq.symm
        clear HN HY hq heq
        go_upto_region 10 with (first | (refine wpList_load_part rfl 48 _ rfl gA (k * 2) 2 rfl 48 cur (0, 0) _ HTA.out Tryd.underlying48 rfl info_tile HSZ.out (tileC p.1 p.2) HEX.out ?_) | (go_at_call 18; refine (HLA.out _ H0.out HV.out).mono ?_; rintro e W2 ⟨rfl, hb2⟩; replace H0 := Lib.hid (below_row hb2 H0.out); replace HTA := Lib.hid (below_row hb2 HTA.out); replace HLI := Lib.hid (owns_bE HLI.out hb2); replace HBW := Lib.hid (HBW.out.trans (hb2.mono HBW.out.size)); clear hb2))
        have hli := HLI.out
        have hsz2 := HBW.out.size
        have hgl := row_lt HTA.out
        go_wp2_with (first | (refine wpList_load_part rfl 48 _ rfl gA (k * 2) 2 rfl 48 cur (0, 0) _ HTA.out Tryd.underlying48 rfl info_tile HSZ.out (tileC p.1 p.2) HEX.out ?_) | (at_builtin; go_loud (refine wpList_append_own_at _ rfl _ _ 28 rfl w.heap.size 48 i0 (.agg #[.int .i8 0, .int .i8 0]) 2 2 Tryd.underlying28 hin hz0 hz1 hz2 rfl (by decide) _ _ _ rfl (hli.alloc _) ⟨W2.heap.size, 0, none⟩ 1 1 (tileC p.1 p.2).toList rfl rfl (cells_newE _ _ _) (fun u hu => tile_one _ _ u (by simpa using hu)) (by unfold maxLen; omega) (by omega) (by simp; omega) ?_); intro v' w1 hown' hgrow _ hat))
        go_roundw
        case rel =>
          refine ⟨k + 1, by omega, by first | rfl | go_num, keep_appP H0.out (row_neP H0.out (fun cs fr h => by injection h with _ e2 _; exact absurd e2 (by decide)) hli) hgrow, keep_appP HTA.out (fun e => hne e.symm) hgrow, ?_, ?_, (HBW.out.alloc hsz2 _).grown hgrow (by simp; omega) (fun j e => (hli.lt j e).1)⟩
          · rw [hys.out, tlV_snoc, List.length_append, List.length_singleton]
            exact hown'
          · rcases hat with e | e
            · rw [e]; exact hne
            · rw [e]
              intro e2
              have := Option.some.inj e2
              rw [World.size_alloc] at this
              omega
        case measure => simp [intOf]; omega
    · obtain rfl : k = W * H := by omega
      have hbl := HBL.out (W * H)
      rw [HTL.out] at hbl
      have HPU := Lib.hid (fun (lv : Value) (V : World) (h1 : V.ownsRow w.heap.size 48 2 lv (brT (fun t => enB le (g t)) (tks W H hW hH (W * H))).length (tlV (brT (fun t => enB le (g t)) (tks W H hW hH (W * H))))) (hs : w.heap.size ≤ V.heap.size) (gO : Nat) (h2 : OT V w.heap.size (.slice (some ⟨gO, 0, none⟩) 0 0) []) => l03Put_any (brT (fun t => enB le (g t)) (tks W H hW hH (W * H))) HBK.out (by omega) lv w.heap.size n [] 0 _ V w.heap.size (by simp; omega) (Nat.zero_le _) (fun p hp => by cases hp) hs h1 h2)
      rw [← HRR.out] at HPU
      have e00 : ((0 : Nat) : Int) = 0 := rfl
      rw [e00] at HPU
      have z1 : decide (((W * H : Nat) : Int) < ((W * H : Nat) : Int)) = false := decide_eq_false (by omega)
      clear HNO HYS HBL HSC HTL HAT HLT HBK HRR
      generalize hBR : brT (fun t => enB le (g t)) (tks W H hW hH (W * H)) = bt at *
      clear hBR
      have hsz2 := HBW.out.size
      have HCL := Lib.hid (HPU.out _ (wr.alloc (.cells #[] 48)) (HLI.out.alloc _) (by simp; omega) wr.heap.size ⟨⟨_, _, rfl⟩, World.ownsRow_made _ _ _ hsz2 (Nat.zero_le _) rfl⟩)
      clear HPU
      go_upto_region 12 with (go_at_call 19; refine HCL.out.mono ?_; rintro e W5 ⟨⟨v5, rfl, hot⟩, hb5⟩; have HOT := Lib.hid hot.2; have HB5 := Lib.hid ((HBW.out.alloc hsz2 _).trans (hb5.mono (by simp; omega))); clear hot hb5)
      clear HCL
      cases R with
      | some r =>
        have HOT2 : Hid (W5.ownsRow w.heap.size 48 2 v5 r.length (tlV r)) := Lib.hid HOT.out
        clear HOT
        go_wp2
        go_ret2
        exact ⟨⟨_, rfl, HOT2.out⟩, HB5.out⟩
      | none =>
        clear HOT
        go_wp2
        go_ret2
        exact ⟨⟨_, rfl, World.ownsRow_made _ _ _ HB5.out.size (Nat.zero_le _) rfl⟩, HB5.out.alloc HB5.out.size _⟩

end Go.Proofs.YtddnfbpgldchcaaDoor
