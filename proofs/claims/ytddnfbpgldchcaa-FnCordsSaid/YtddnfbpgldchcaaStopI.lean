/-
  The stop whose place is nearest: the program's walk.
-/
import Derived.Test.YtddnfbpgldchcaaStopN
import Derived.IntWalk
namespace Go.Proofs.Ytddnfbpgldchcaa
open Go Go.RowKit Go.ChangeMaps Go.MapKept

attribute [local go_sem] run_store_f

theorem owns_b {W w1 : World} {base s k : Nat} {e : TypeId} {v : Value} {xs : List Value} (h : W.ownsRow base e s v k xs) (hb : Below W.heap.size W w1) : w1.ownsRow base e s v k xs :=
  h.kept (row := none) ⟨hb.os, hb.tape, hb.output, hb.size, fun k hk _ => hb.block k hk⟩ (by cases v.ownBlock <;> simp)
theorem keep_app {W w1 : World} {g : Nat} {o tmp : Obj} {v : Value} (h : W.heap[g]? = some o) (hne : some g ≠ v.ownBlock) (hg : (W.alloc tmp).grownBy w1 v.ownBlock) : w1.heap[g]? = some o := by
  have h1 : (W.alloc tmp).heap[g]? = some o := below_row ((Below.refl W.heap.size W).alloc (Nat.le_refl _) _) h
  exact (hg.block g (row_lt h1) hne).trans h1
theorem grown_setBlock {w : World} {b : Nat} {es : Array MapEntry} {clock : Nat} (hb : w.heap[b]? = some (.map es clock)) (o : Obj) : w.grownBy (setBlock w b o) (some b) :=
  ⟨rfl, rfl, rfl, by simp [setBlock], fun i _ hi => heap_setBlock_other hb _ (fun e => hi (by rw [e]))⟩
theorem infoK : (Try.prog.info? 59).map (fun i => (i.zero, i.size, i.bytes)) = some (some (.agg #[.int .u32 0, .int .u32 0, .int .i8 0]), 3, 12) := by kernel_rfl
theorem cord_one (ln st : Nat) (sp : Int) : ∀ v ∈ cordC ln st sp, v.oneCell' = true := by
  intro v hv
  simp only [cordC, List.mem_toArray, List.mem_cons, List.not_mem_nil, or_false] at hv
  rcases hv with rfl | rfl | rfl <;> rfl

set_option maxRecDepth 100000 in
set_option maxHeartbeats 1000000 in
theorem implStopFor_y (ln st s : Nat) (cw : CoWf ln st (s : Int)) (load wanted : Nat) (hk : okCo ln st (s : Int) = true) (hp : partB load = true) (hw : (Lit.float .f32 load).wf = true) (hq : plainB wanted = true) (hww : (Lit.float .f32 wanted).wf = true) (w : World) :
    Calls Try.prog 12 #[.agg (cordC ln st (s : Int)), .float .f32 load, .float .f32 wanted] w fun e w' => e = .returned (.tuple #[.int .i64 (bestS ln st load s wanted : Int), .float .f32 (plc ln st load s (bestS ln st load s wanted)), .int .i64 0]) ∧ Below w.heap.size w w' := by
  have OK := cook_of cw hk
  have LP := betw_zero hw (by decide) hp
  have hs0 := OK.2.2.2.1
  have hs1 := OK.2.2.2.2
  have ho : ∀ i : Nat, i < s + 1 → floatBits .sub .f32 (plc ln st load s i) wanted = some (fsub (plc ln st load s i) wanted) ∧ isNum (fsub (plc ln st load s i) wanted) := fun i hi => off_plain (plc_le OK.1 OK.2.1 OK.2.2.1 LP (by omega) (by omega) hs0 hs1) hww hq
  have HO := Lib.hid ho
  have HK := Lib.hid (kC_keys (nbits ln) (nbits st) (nbits_lt cw.1) (nbits_lt cw.2.1))
  have HC := Lib.hid (fun (i : Nat) (hi : i ≤ s) (V : World) => placeAt_any ln st (s : Int) OK load LP (i : Int) (by omega) (by omega) V)
  have Hc : Hid (codeD (okCo ln st (s : Int)) true = 0) := by rw [hk]; rfl
  have Hp := Lib.hid hp
  have Hq := Lib.hid hq
  obtain ⟨i0, hi, hz0, hz1, hz2⟩ := info_parts infoK
  have hmm := @run_makeMap Try.prog
  clear OK LP hk hp hq ho cw hw hww
  go_enter Try.func12, Try.ntmps12
  go_wp2
  refine wp_region_held_drew (S := (fun W => W.heap[w.heap.size]? = some (.cells (cordC ln st (s : Int)) 27 (0, 0)) ∧ Below w.heap.size w W)) (by kernel_rfl) ⟨heap_alloc_new _ _, ((Below.refl _ _).alloc (Nat.le_refl _) _).drew⟩ (fun hHeld => ?_)
  refine take_op (i := 0) (d := 16) (v := .agg (cordC ln st (s : Int))) rfl rfl (by kernel_rfl) (by kernel_rfl) (by kernel_rfl) (fun _ _ _ h => h) (yields_row (by rfl) 27 (.tmp 3) (by rfl) w.heap.size 0 3 (by rfl) 27 (cordC ln st (s : Int)) (0, 0) _ (fun _ h => h.1) Try.underlying27 rfl info_cord (cord_fits _ _ _) (cordC ln st (s : Int)) (cord_all _ _ _)) hHeld ?_
  simp only [List.setIfInBounds_toArray, List.set_cons_zero, List.set_cons_succ]
  refine take_op (i := 1) (d := 17) (v := ?_) rfl rfl (by kernel_rfl) (by kernel_rfl) (by kernel_rfl) (fun _ _ _ h => h) (Or.inl ⟨by rfl, ?hy1u15⟩) hHeld ?rest1u15
  case hy1u15 =>
    intro w' hS'
    go_simp
    try with_reducible rfl
  simp only [List.setIfInBounds_toArray, List.set_cons_zero, List.set_cons_succ]
  refine wpAnyH_ready (rs := [2]) (by kernel_rfl) (by simp) ?_
  refine AllReadyH.cons rfl (fun K hK => ?_) AllReadyH.nil
  go_simp
  refine (isPart_is load _ Hp.out _).mono ?_
  rintro e w' ⟨rfl, rfl⟩
  refine hK.out _ _ (hHeld) (fun hHeld2 => ?_)
  clear hK K
  replace hHeld := hHeld2
  clear hHeld2
  refine take_op (i := 3) (d := 19) (v := ?_) rfl rfl (by kernel_rfl) (by kernel_rfl) (by kernel_rfl) (fun _ _ _ h => h) (Or.inl ⟨by rfl, ?hy3u16⟩) hHeld ?rest3u16
  case hy3u16 =>
    intro w' hS'
    go_simp
    try with_reducible rfl
  simp only [List.setIfInBounds_toArray, List.set_cons_zero, List.set_cons_succ]
  refine take_op (i := 4) (d := 20) (v := ?_) rfl rfl (by kernel_rfl) (by kernel_rfl) (by kernel_rfl) (fun _ _ _ h => h) (Or.inl ⟨by rfl, ?hy4u17⟩) hHeld ?rest4u17
  case hy4u17 =>
    intro w' hS'
    go_simp
    try with_reducible rfl
  simp only [List.setIfInBounds_toArray, List.set_cons_zero, List.set_cons_succ]
  refine wpAnyH_ready (rs := [5]) (by kernel_rfl) (by simp) ?_
  refine AllReadyH.cons rfl (fun K hK => ?_) AllReadyH.nil
  go_simp
  refine (isPlain_is wanted _ Hq.out _).mono ?_
  rintro e w' ⟨rfl, rfl⟩
  refine hK.out _ _ (hHeld) (fun hHeld2 => ?_)
  clear hK K
  replace hHeld := hHeld2
  clear hHeld2
  refine take_op (i := 6) (d := 22) (v := ?_) rfl rfl (by kernel_rfl) (by kernel_rfl) (by kernel_rfl) (fun _ _ _ h => h) (Or.inl ⟨by rfl, ?hy6u18⟩) hHeld ?rest6u18
  case hy6u18 =>
    intro w' hS'
    go_simp
    try with_reducible rfl
  simp only [List.setIfInBounds_toArray, List.set_cons_zero, List.set_cons_succ]
  refine wpAnyH_ready (rs := [7]) (by kernel_rfl) (by simp) ?_
  refine AllReadyH.cons rfl (fun K hK => ?_) AllReadyH.nil
  go_simp
  refine (checkCord_is ln st (s : Int) true 0 Hc.out _).mono ?_
  rintro e W1 ⟨rfl, hb1⟩
  refine hK.out _ _ (⟨below_row hb1 hHeld.1, hHeld.2.trans (hb1.mono hHeld.2.size)⟩) (fun hHeld2 => ?_)
  clear hK K
  replace hHeld := hHeld2
  clear hHeld2
  refine take_op (i := 8) (d := 9) (v := ?_) rfl rfl (by kernel_rfl) (by kernel_rfl) (by kernel_rfl) (fun _ _ _ h => h) (Or.inl ⟨by rfl, ?hy8u19⟩) hHeld ?rest8u19
  case hy8u19 =>
    intro w' hS'
    go_simp
    try with_reducible rfl
  simp only [List.setIfInBounds_toArray, List.set_cons_zero, List.set_cons_succ]
  refine wpAnyH_done (by kernel_rfl) ?_ _
  obtain ⟨h0, hb⟩ := hHeld
  have hl := row_lt h0
  have HB := Lib.hid hb
  have HH := Lib.hid h0
  clear h0 hb
  go_upto_region 6 with (fail)
  refine abs_world (fun V => Below w.heap.size w V ∧ V.heap[w.heap.size]? = some (.cells (cordC ln st (s : Int)) 27 (0, 0)) ∧ V.heap[W1.heap.size]? = some (.map #[] 0)) ⟨HB.out.alloc HB.out.size _, below_row ((Below.refl _ _).alloc (Nat.le_refl _) _) HH.out, heap_alloc_new _ _⟩ ?_
  clear HB HH
  generalize W1.heap.size = mb at *
  rintro V ⟨hb, h0, hm⟩
  have H0 := Lib.hid h0
  have HM := Lib.hid hm
  obtain ⟨k0, k1, k2⟩ := cord_cells h0
  clear h0 hm
  have hb1' : (True) := trivial
  go_wp2
  go_loopw [10, 31] (fun q i wr => ∃ (k : Nat) (v : Value), k ≤ s + 1 ∧ i = .int .i8 k ∧ v = q ∧ wr.ownsRow w.heap.size 59 3 v k (flat k (kCC (nbits ln) (nbits st))) ∧ Below w.heap.size w wr ∧ wr.heap[w.heap.size]? = some (.cells (cordC ln st (s : Int)) 27 (0, 0)) ∧ wr.heap[mb]? = some (.map (ents k (kCC (nbits ln) (nbits st)) (plc ln st load s)) k)) (fun _ i _ => s + 1 - (intOf i).toNat)
  case atStart => exact ⟨0, _, Nat.zero_le _, rfl, rfl, World.ownsRow_nil _ _ _ _, hb, H0.out, HM.out⟩
  case round =>
    clear H0 HM hb k0 k1 k2
    obtain ⟨k, v, hk, rfl, hqv, hrow, hb, h0, hm⟩ := hrel
    subst hqv
    have H0 := Lib.hid h0
    have HM := Lib.hid hm
    have HRw := Lib.hid hrow
    clear h0 hm hrow
    by_cases hlt : k < s + 1
    · have z1 : (k : Int) < (s : Int) + 1 := by omega
      have z2 : (0 : Int) ≤ (k : Int) := by omega
      go_upto_region 10 with (first | (refine wpList_load_part rfl 27 _ rfl w.heap.size 0 3 rfl 27 (cordC ln st (s : Int)) (0, 0) _ H0.out Try.underlying27 rfl info_cord (cord_fits _ _ _) _ (cord_all _ _ _) ?_) | (refine wpList_store_part rfl 27 _ _ rfl _ 0 (cordC ln st (s : Int)) rfl rfl 27 _ (heap_alloc_new _ _) (by kernel_rfl) (Nat.le_refl _) (cord_one _ _ _) ?_; rw [laid_all2 _ _ (by rfl)]))
      refine abs_world (fun V2 => Below wr.heap.size wr V2 ∧ V2.heap[wr.heap.size]? = some (.cells (cordC ln st (s : Int)) 27 (0, 0))) ⟨below_setRow ((Below.refl _ _).alloc (Nat.le_refl _) _) (Nat.le_refl _) _, setRow_heap _ _ _ _ _ _ (heap_alloc_new _ _)⟩ ?_
      rintro V2 ⟨hb2, h2⟩
      have H2 := Lib.hid h2
      obtain ⟨p0, p1, p2⟩ := cord_cells h2
      have f2 := frozen_of_row V2 wr.heap.size 2 _ _ h2
      clear h2
      go_upto_region 11 with (fail)
      refine abs_world (fun V3 => Below wr.heap.size wr V3 ∧ V3.heap[wr.heap.size]? = some (.cells (cordC ln st (k : Int)) 27 (0, 0))) ⟨hb2.setCell (p := ⟨wr.heap.size, 2, none⟩) (Nat.le_refl _) _, heap_setCell_same _ _ _ _ _ _ H2.out⟩ ?_
      rintro V3 ⟨hb3, h3⟩
      clear p0 p1 p2 f2 H2 hb2
      have H3 := Lib.hid h3
      clear h3
      go_upto_region 12 with (first | (refine wpList_load_part rfl 27 _ rfl wr.heap.size 0 3 rfl 27 (cordC ln st (k : Int)) (0, 0) _ H3.out Try.underlying27 rfl info_cord (cord_fits _ _ _) _ (cord_all _ _ _) ?_) | (go_at_call 35; refine (bitsOfCord_any _ _ _ _).mono ?_; rintro e V4 ⟨rfl, hb4⟩) | (refine wpList_store_part rfl 59 _ _ rfl _ 0 ((kCC (nbits ln) (nbits st)) k) rfl rfl 59 _ (heap_alloc_new _ _) (by kernel_rfl) (Nat.le_refl _) (kC_one _ _ _) ?_; rw [laid_all2 _ _ (by rfl)]))
      refine abs_world (fun V5 => Below wr.heap.size wr V5 ∧ V5.heap[V4.heap.size]? = some (.cells ((kCC (nbits ln) (nbits st)) k) 59 (0, 0))) ⟨below_setRow ((hb3.trans (hb4.mono hb3.size)).alloc (hb3.trans (hb4.mono hb3.size)).size _) (hb3.trans (hb4.mono hb3.size)).size _, setRow_heap _ _ _ _ _ _ (heap_alloc_new _ _)⟩ ?_
      have hkb : wr.heap.size ≤ V4.heap.size := (hb3.trans (hb4.mono hb3.size)).size
      clear H3 hb3 hb4
      generalize V4.heap.size = kb at *
      rintro V5 ⟨hb5, h5⟩
      replace H0 := Lib.hid (below_row hb5 H0.out)
      replace HM := Lib.hid (below_row hb5 HM.out)
      have hne : some kb ≠ v.ownBlock := fun e => by have := (HRw.out.lt kb e.symm).2; omega
      replace HRw := Lib.hid (owns_b HRw.out hb5)
      have hbw := hb.trans (hb5.mono hb.size)
      have hsw := hbw.size
      have H5 := Lib.hid h5
      clear h5 hb hb5
      have hks : ((kCC (nbits ln) (nbits st)) k).size = 3 := rfl
      go_upto_region 13 with (first | (refine wpList_load_part rfl 59 _ rfl kb 0 3 rfl 59 ((kCC (nbits ln) (nbits st)) k) (0, 0) _ H5.out Try.underlying59 rfl info_kC (kC_fits _ _ _) _ (kC_all _ _ _) ?_) | (at_builtin; refine wpList_append_own _ rfl _ _ 55 rfl w.heap.size 59 i0 (.agg #[.int .u32 0, .int .u32 0, .int .i8 0]) 3 12 Try.underlying55 hi hz0 hz1 hz2 rfl (by decide) _ _ _ rfl (HRw.out.alloc _) ⟨V5.heap.size, 0, none⟩ 1 1 ((kCC (nbits ln) (nbits st)) k).toList rfl rfl (cells_new _ _ _) (fun u hu => kC_one _ _ _ u (by simpa using hu)) (by unfold maxLen; omega) (by omega) (by simp; omega) ?_; intro v' w1 hown' hgrow _))
      refine abs_world (fun V6 => V6.ownsRow w.heap.size 59 3 v' (k + 1) (flat (k + 1) (kCC (nbits ln) (nbits st))) ∧ Below w.heap.size w V6 ∧ V6.heap[w.heap.size]? = some (.cells (cordC ln st (s : Int)) 27 (0, 0)) ∧ V6.heap[mb]? = some (.map (ents k (kCC (nbits ln) (nbits st)) (plc ln st load s)) k) ∧ V6.heap[kb]? = some (.cells ((kCC (nbits ln) (nbits st)) k) 59 (0, 0))) ⟨by rw [flat_succ]; exact hown', (hbw.alloc hsw _).grown hgrow (by simp; omega) (fun r hr => (HRw.out.lt r hr).1), keep_app H0.out (row_ne H0.out (fun cs fr h => by cases h) HRw.out) hgrow, keep_app HM.out (row_ne HM.out (fun cs fr h => by cases h) HRw.out) hgrow, keep_app H5.out hne hgrow⟩ ?_
      clear hks hown' hgrow HRw H0 HM H5 hbw hsw hne hkb
      rintro V6 ⟨hrow, hb, h0, hm, h5⟩
      have HX := Lib.hid (HC.out k (by omega))
      have HRw := Lib.hid hrow
      have HM := Lib.hid hm
      have hml := row_lt hm
      have hsz := hb.size
      have hkm : kb ≠ mb := fun e => by rw [e] at h5; rw [h5] at hm; cases hm
      have hwm : w.heap.size ≠ mb := fun e => by rw [e] at h0; rw [h0] at hm; cases hm
      have hwl := row_lt h0
      clear hrow hm
      refine wp_region_held_drew (S := (fun W => W.heap[kb]? = some (.cells ((kCC (nbits ln) (nbits st)) k) 59 (0, 0)) ∧ W.heap[w.heap.size]? = some (.cells (cordC ln st (s : Int)) 27 (0, 0)))) (by kernel_rfl) ⟨h5, h0⟩ (fun hHeld => ?_)
      refine take_op (i := 0) (d := 43) (v := ?_) rfl rfl (by kernel_rfl) (by kernel_rfl) (by kernel_rfl) (fun _ _ _ h => h) (Or.inl ⟨by rfl, ?hy0u28⟩) hHeld ?rest0u28
      case hy0u28 =>
        intro w' hS'
        go_simp
        try with_reducible rfl
      simp only [List.setIfInBounds_toArray, List.set_cons_zero, List.set_cons_succ]
      refine take_op (i := 1) (d := 44) (v := .agg ((kCC (nbits ln) (nbits st)) k)) rfl rfl (by kernel_rfl) (by kernel_rfl) (by kernel_rfl) (fun _ _ _ h => h) (yields_row (by rfl) 59 (.tmp 14) (by rfl) kb 0 3 (by rfl) 59 ((kCC (nbits ln) (nbits st)) k) (0, 0) _ (fun _ h => h.1) Try.underlying59 rfl info_kC (kC_fits _ _ _) ((kCC (nbits ln) (nbits st)) k) (kC_all _ _ _)) hHeld ?_
      simp only [List.setIfInBounds_toArray, List.set_cons_zero, List.set_cons_succ]
      refine take_op (i := 2) (d := 45) (v := .agg (cordC ln st (s : Int))) rfl rfl (by kernel_rfl) (by kernel_rfl) (by kernel_rfl) (fun _ _ _ h => h) (yields_row (by rfl) 27 (.tmp 3) (by rfl) w.heap.size 0 3 (by rfl) 27 (cordC ln st (s : Int)) (0, 0) _ (fun _ h => h.2) Try.underlying27 rfl info_cord (cord_fits _ _ _) (cordC ln st (s : Int)) (cord_all _ _ _)) hHeld ?_
      simp only [List.setIfInBounds_toArray, List.set_cons_zero, List.set_cons_succ]
      refine take_op (i := 3) (d := 46) (v := ?_) rfl rfl (by kernel_rfl) (by kernel_rfl) (by kernel_rfl) (fun _ _ _ h => h) (Or.inl ⟨by rfl, ?hy3u29⟩) hHeld ?rest3u29
      case hy3u29 =>
        intro w' hS'
        go_simp
        try with_reducible rfl
      simp only [List.setIfInBounds_toArray, List.set_cons_zero, List.set_cons_succ]
      refine take_op (i := 4) (d := 47) (v := ?_) rfl rfl (by kernel_rfl) (by kernel_rfl) (by kernel_rfl) (fun _ _ _ h => h) (Or.inl ⟨by rfl, ?hy4u30⟩) hHeld ?rest4u30
      case hy4u30 =>
        intro w' hS'
        go_simp
        try with_reducible rfl
      simp only [List.setIfInBounds_toArray, List.set_cons_zero, List.set_cons_succ]
      refine wpAnyH_ready (rs := [5]) (by kernel_rfl) (by simp) ?_
      refine AllReadyH.cons rfl (fun K hK => ?_) AllReadyH.nil
      go_simp
      refine (HX.out _).mono ?_
      rintro e W1 ⟨rfl, hb1⟩
      refine hK.out _ _ (⟨below_row hb1 hHeld.1, below_row hb1 hHeld.2⟩) (fun hHeld2 => ?_)
      clear hK K
      replace hHeld := hHeld2
      clear hHeld2
      refine wpAnyH_ready (rs := [6]) (by kernel_rfl) (by simp) ?_
      refine AllReadyH.cons rfl (fun K hK => ?_) AllReadyH.nil
      have hu := new_ents (P := Try.prog) kC_law Try.underlying56 (below_row hb1 HM.out) HK.out (by omega : k < 101)
      go_simp
      refine hK.out _ _ ⟨by rw [heap_setBlock_other (below_row hb1 HM.out) _ hkm]; exact hHeld.1, by rw [heap_setBlock_other (below_row hb1 HM.out) _ hwm]; exact hHeld.2⟩ (fun hHeld2 => ?_)
      clear hK K hu hHeld
      refine wpAnyH_done (by kernel_rfl) ?_ _

      have hb1d : Below V6.heap.size V6 W1 := (Below.refl V6.heap.size V6).drew.trans hb1
      have hb1m := hb1d.mono hsz
      have hrow1 := owns_b HRw.out hb1d
      have hM1 := below_row hb1d HM.out
      have HQ : Hid (_ ∧ _ ∧ _ ∧ _) := Lib.hid (And.intro hrow1 (And.intro (hb.trans hb1m) (And.intro hM1 hHeld2)))
      clear hb1d hb1m hrow1 hM1 hHeld2 hb hb1 HRw HM h0 h5 HX
      go_wp2
      go_roundw
      case rel =>
        obtain ⟨q1, q2, q3, q4⟩ := HQ.out
        exact ⟨k + 1, v', by omega, by go_num, rfl, q1.kept (row := some mb) (grown_setBlock q3 _) (.inr (fun e => (row_ne q3 (fun cs fr h => by cases h) q1) e.symm)), below_setBlock q2 (by omega) q3, q4.2, heap_setBlock_same q3 _⟩
      case measure => simp [intOf]; omega
    · obtain rfl : k = s + 1 := by omega
      have hA : KeysAt 59 3 wr v (s + 1) (kCC (nbits ln) (nbits st)) := keysAt_of_row (fun _ => rfl) (by omega) HRw.out
      have HNr : Hid (Calls Try.prog 37 #[v, .map (some mb), .float .f32 wanted] wr fun e w' => e = .returned (.agg ((kCC (nbits ln) (nbits st)) (bestS ln st load s wanted))) ∧ Below wr.heap.size wr w') := Lib.hid (nearestC_any (nbits ln) (nbits st) 101 (s + 1) (by omega) (by omega) (by omega) (plc ln st load s) wanted HO.out HK.out v mb wr hA HM.out)
      have hjl : bestS ln st load s wanted ≤ s := firstMin_le _ _
      have z1 : ¬ (((s + 1 : Nat) : Int) < (s : Int) + 1) := by omega
      clear hA HRw
      go_upto_region 16 with (first | (go_at_call 37; refine HNr.out.mono ?_; rintro e V1 ⟨rfl, hb1⟩) | (refine wpList_store_part rfl 59 _ _ rfl _ 0 ((kCC (nbits ln) (nbits st)) (bestS ln st load s wanted)) rfl rfl 59 _ (heap_alloc_new _ _) (by kernel_rfl) (Nat.le_refl _) (kC_one _ _ _) ?_; rw [laid_all2 _ _ (by rfl)]))
      have hbv := hb.trans (hb1.mono hb.size)
      refine abs_world (fun V2 => Below w.heap.size w V2 ∧ V2.heap[V1.heap.size]? = some (.cells ((kCC (nbits ln) (nbits st)) (bestS ln st load s wanted)) 59 (0, 0)) ∧ V2.heap[mb]? = some (.map (ents (s + 1) (kCC (nbits ln) (nbits st)) (plc ln st load s)) (s + 1))) ⟨below_setRow (hbv.alloc hbv.size _) hbv.size _, setRow_heap _ _ _ _ _ _ (heap_alloc_new _ _), by rw [setRow_other _ _ _ _ (by have := row_lt (below_row hb1 HM.out); omega)]; exact below_row ((Below.refl _ _).alloc (Nat.le_refl _) _) (below_row hb1 HM.out)⟩ ?_
      clear HM H0 hb hbv hb1 HNr
      generalize V1.heap.size = rb at *
      rintro V2 ⟨hb, hr, hm⟩
      dsimp only [Act.put]
      have hwr : IntKind.i64.wrap ((bestS ln st load s wanted) : Int) = (bestS ln st load s wanted) := IntWalk.i64_in _ (by omega)
      refine wp_region_held_drew (S := (fun W => W.heap[rb]? = some (.cells ((kCC (nbits ln) (nbits st)) (bestS ln st load s wanted)) 59 (0, 0)) ∧ W.heap[mb]? = some (.map (ents (s + 1) (kCC (nbits ln) (nbits st)) (plc ln st load s)) (s + 1)) ∧ Below w.heap.size w W)) (by kernel_rfl) ⟨hr, hm, hb.drew⟩ (fun hHeld => ?_)
      refine take_op (i := 0) (d := 54) (v := ?_) rfl rfl (by kernel_rfl) (by kernel_rfl) (by kernel_rfl) (fun _ _ _ h => h) (Or.inl ⟨by rfl, ?hy0u20⟩) hHeld ?rest0u20
      case hy0u20 =>
        intro w' hS'
        go_simp
        try with_reducible rfl
      simp only [List.setIfInBounds_toArray, List.set_cons_zero, List.set_cons_succ]
      refine take_op (i := 1) (d := 55) (v := ?_) rfl rfl (by kernel_rfl) (by kernel_rfl) (by kernel_rfl) (fun _ _ _ h => h) (Or.inl ⟨by rfl, ?hy1u21⟩) hHeld ?rest1u21
      case hy1u21 =>
        intro w' hS'
        obtain ⟨s1, s2, _⟩ := hS'
        have k2 : w'.cell? ⟨rb, 2, none⟩ = some (.int .i8 ((bestS ln st load s wanted) : Int)) := by rw [cell_of_row w' _ _ _ _ _ s1]; rfl
        clear s1 s2
        go_simp
        try with_reducible rfl
      simp only [List.setIfInBounds_toArray, List.set_cons_zero, List.set_cons_succ]
      refine take_op (i := 2) (d := 56) (v := ?_) rfl rfl (by kernel_rfl) (by kernel_rfl) (by kernel_rfl) (fun _ _ _ h => h) (Or.inl ⟨by rfl, ?hy2u22⟩) hHeld ?rest2u22
      case hy2u22 =>
        intro w' hS'
        go_simp
        try with_reducible rfl
      simp only [List.setIfInBounds_toArray, List.set_cons_zero, List.set_cons_succ]
      refine take_op (i := 3) (d := 57) (v := ?_) rfl rfl (by kernel_rfl) (by kernel_rfl) (by kernel_rfl) (fun _ _ _ h => h) (Or.inl ⟨by rfl, ?hy3u23⟩) hHeld ?rest3u23
      case hy3u23 =>
        intro w' hS'
        go_simp
        try with_reducible rfl
      simp only [List.setIfInBounds_toArray, List.set_cons_zero, List.set_cons_succ]
      refine take_op (i := 4) (d := 58) (v := .agg ((kCC (nbits ln) (nbits st)) (bestS ln st load s wanted))) rfl rfl (by kernel_rfl) (by kernel_rfl) (by kernel_rfl) (fun _ _ _ h => h) (yields_row (by rfl) 59 (.tmp 15) (by rfl) rb 0 3 (by rfl) 59 ((kCC (nbits ln) (nbits st)) (bestS ln st load s wanted)) (0, 0) _ (fun _ h => h.1) Try.underlying59 rfl info_kC (kC_fits _ _ _) ((kCC (nbits ln) (nbits st)) (bestS ln st load s wanted)) (kC_all _ _ _)) hHeld ?_
      simp only [List.setIfInBounds_toArray, List.set_cons_zero, List.set_cons_succ]
      refine take_op (i := 5) (d := 59) (v := ?_) rfl rfl (by kernel_rfl) (by kernel_rfl) (by kernel_rfl) (fun _ _ _ h => h) (Or.inl ⟨by rfl, ?hy5u24⟩) hHeld ?rest5u24
      case hy5u24 =>
        intro w' hS'
        obtain ⟨s1, s2, _⟩ := hS'
        have hlk := look_ents kC_law Try.underlying56 (kC_zero _) s2 HK.out (by omega) (bestS ln st load s wanted) (by omega)
        clear s1 s2
        go_simp
        try with_reducible rfl
      simp only [List.setIfInBounds_toArray, List.set_cons_zero, List.set_cons_succ]
      refine take_op (i := 6) (d := 6) (v := ?_) rfl rfl (by kernel_rfl) (by kernel_rfl) (by kernel_rfl) (fun _ _ _ h => h) (Or.inl ⟨by rfl, ?hy6u25⟩) hHeld ?rest6u25
      case hy6u25 =>
        intro w' hS'
        go_simp
        try with_reducible rfl
      simp only [List.setIfInBounds_toArray, List.set_cons_zero, List.set_cons_succ]
      refine take_op (i := 7) (d := 7) (v := ?_) rfl rfl (by kernel_rfl) (by kernel_rfl) (by kernel_rfl) (fun _ _ _ h => h) (Or.inl ⟨by rfl, ?hy7u26⟩) hHeld ?rest7u26
      case hy7u26 =>
        intro w' hS'
        go_simp
        try with_reducible rfl
      simp only [List.setIfInBounds_toArray, List.set_cons_zero, List.set_cons_succ]
      refine take_op (i := 8) (d := 8) (v := ?_) rfl rfl (by kernel_rfl) (by kernel_rfl) (by kernel_rfl) (fun _ _ _ h => h) (Or.inl ⟨by rfl, ?hy8u27⟩) hHeld ?rest8u27
      case hy8u27 =>
        intro w' hS'
        go_simp
        try with_reducible rfl
      simp only [List.setIfInBounds_toArray, List.set_cons_zero, List.set_cons_succ]
      refine wpAnyH_done (by kernel_rfl) ?_ _

      have hbz := hHeld.2.2
      clear hHeld
      go_wp2
      go_ret3
      exact ⟨rfl, hbz⟩

end Go.Proofs.Ytddnfbpgldchcaa
