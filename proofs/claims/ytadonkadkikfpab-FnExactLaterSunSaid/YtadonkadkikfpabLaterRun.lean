/-
  The later sun: the program's side.
-/
import Derived.Test.YtadonkadkikfpabLaterSpec
import Derived.Test.YtadonkadkikfpabBestRun
namespace Go.Proofs.Ytadonkadkikfpab
open Go.RowKit Go.Shelf

attribute [local go_sem] Oper.semAt_some

theorem new3 (w : World) (a b c : Obj) : (((w.alloc a).alloc b).alloc c).heap[w.heap.size]? = some a ∧ (((w.alloc a).alloc b).alloc c).heap[w.heap.size + 1]? = some b ∧ (((w.alloc a).alloc b).alloc c).heap[w.heap.size + 1 + 1]? = some c ∧ Below w.heap.size w (((w.alloc a).alloc b).alloc c) := by
  refine ⟨?_, ?_, ?_, (((Below.refl _ _).alloc (Nat.le_refl _) _).alloc (by simp) _).alloc (by simp; omega) _⟩
  all_goals simp only [heap_alloc, World.size_alloc]
  · rw [if_neg (by omega), if_neg (by omega), if_true]
  · rw [if_neg (by omega), if_true]
  · rw [if_true]

set_option maxRecDepth 100000 in
set_option maxHeartbeats 1000000 in
theorem implLater_no (hs ts : List Int) (hh : hs.length = 24) (ht : ts.length = 24) (hours : Int) (h1 : ¬ (okB hs ts = true ∧ inH hours = true)) (w : World) :
    Calls Try.prog 19 #[.agg (sunC hs ts), .int .i64 hours] w fun e w' => e = .returned (.tuple #[.agg (sunC zer zer), .int .i64 (codeB (okB hs ts) (inH hours))]) ∧ Below w.heap.size w w' := by
  have hne := codeB_ne h1
  generalize hf : inH hours = fine at *
  generalize hc : codeB (okB hs ts) fine = c at *
  have Hc := Lib.hid hc
  have Hi := Lib.hid hf
  have hne' : (c != 0) = true := bne_iff_ne.2 hne
  have Hh := Lib.hid hh
  have Ht := Lib.hid ht
  clear hh ht h1 hc hf hne
  go_enter Try.func19, Try.ntmps19
  go_wp2
  refine wp_region_held_drew (S := (fun W => W.heap[w.heap.size]? = some (.cells (sunC hs ts) 31 (0, 0)) ∧ W.heap[w.heap.size + 1]? = some (.cells #[.int .i64 hours] 2 (0, 0)) ∧ W.heap[w.heap.size + 1 + 1]? = some (.cells (sunC zer zer) 31 (0, 0)) ∧ Below w.heap.size w W)) (by kernel_rfl) ⟨(new3 _ _ _ _).1, (new3 _ _ _ _).2.1, (new3 _ _ _ _).2.2.1, (new3 _ _ _ _).2.2.2.drew⟩ (fun hHeld => ?_)
  refine take_at (i := 0) (d := 10) (v := .agg (sunC hs ts)) rfl rfl (by kernel_rfl) (by kernel_rfl) (by kernel_rfl) (fun _ _ _ h => h) (yields_part (by rfl) 31 (.tmp 2) (by rfl) w.heap.size 0 48 (by rfl) 31 (sunC hs ts) (0, 0) _ (fun _ h => h.1) Try.underlying31 rfl info_sun (sun_fits _ _ Hh.out Ht.out) (sunC hs ts) (sun_all _ _ Hh.out Ht.out)) hHeld ?_
  simp only [List.setIfInBounds_toArray, List.set_cons_zero, List.set_cons_succ]
  refine take_at (i := 1) (d := 11) (v := ?_) rfl rfl (by kernel_rfl) (by kernel_rfl) (by kernel_rfl) (fun _ _ _ h => h) (Or.inl ⟨by rfl, ?hy1u1⟩) hHeld ?rest1u1
  case hy1u1 =>
    intro w' hS'
    obtain ⟨s1, s2, s3, s5⟩ := hS'
    have s4 : w'.cell? ⟨w.heap.size + 1, 0, none⟩ = some (.int .i64 hours) := by rw [cell_of_row w' _ _ _ _ _ s2]; rfl
    go_simp
    try with_reducible rfl
  simp only [List.setIfInBounds_toArray, List.set_cons_zero, List.set_cons_succ]
  refine wpAnyH_ready (rs := [2]) (by kernel_rfl) (by simp) ?_
  refine AllReadyH.cons rfl (fun K hK => ?_) AllReadyH.nil
  go_simp
  refine (isHour_is hours fine Hi.out _).mono ?_
  rintro e w' ⟨rfl, rfl⟩
  refine hK.out _ _ (hHeld) (fun hHeld2 => ?_)
  clear hK K
  replace hHeld := hHeld2
  clear hHeld2
  refine wpAnyH_ready (rs := [3]) (by kernel_rfl) (by simp) ?_
  refine AllReadyH.cons rfl (fun K hK => ?_) AllReadyH.nil
  go_simp
  refine (checkSun_is hs ts Hh.out Ht.out fine c Hc.out _).mono ?_
  rintro e W1 ⟨rfl, hb1⟩
  refine hK.out _ _ (⟨below_row hb1 hHeld.1, below_row hb1 hHeld.2.1, below_row hb1 hHeld.2.2.1, hHeld.2.2.2.trans (hb1.mono hHeld.2.2.2.size)⟩) (fun hHeld2 => ?_)
  clear hK K
  replace hHeld := hHeld2
  clear hHeld2
  refine take_at (i := 4) (d := 6) (v := ?_) rfl rfl (by kernel_rfl) (by kernel_rfl) (by kernel_rfl) (fun _ _ _ h => h) (Or.inl ⟨by rfl, ?hy4u2⟩) hHeld ?rest4u2
  case hy4u2 =>
    intro w' hS'
    go_simp
    try with_reducible rfl
  simp only [List.setIfInBounds_toArray, List.set_cons_zero, List.set_cons_succ]
  refine wpAnyH_done (by kernel_rfl) ?_ _
  obtain ⟨h0, hF, hZ, hb⟩ := hHeld
  have H1 := Lib.hid hZ
  clear h0 hF hZ
  go_wp2_with ((refine wpList_store_part rfl 31 _ _ rfl (w.heap.size + 1 + 1) 0 (sunC zer zer) rfl rfl 31 _ H1.out info_zz (by decide) (i16s_one _) ?_; rw [laid_all _ _ (by rfl)]))
  refine bodyPost_ret (results_sun rfl _ _ (w.heap.size + 1 + 1) zer zer rfl rfl rfl (setRow_heap _ _ _ _ _ _ H1.out)) rfl ?_
  exact ⟨rfl, below_setRow hb (by omega) _⟩

def LatI (w : World) (hs ts : List Int) (h b2 : Nat) (pre : List Hr) (W : World) : Prop :=
  ∃ a b : List Int, a.length = 24 ∧ b.length = 24 ∧ W.heap[w.heap.size]? = some (.cells (sunC hs ts) 31 (0, 0)) ∧ W.heap[w.heap.size + 1]? = some (.cells #[.int .i64 (h : Int)] 2 (0, 0)) ∧ W.heap[w.heap.size + 1 + 1]? = some (.cells (sunC zer zer) 31 (0, 0)) ∧ W.heap[b2]? = some (.cells (sunC a b) 31 (0, 0)) ∧ (Good pre → Laters hs ts a b h pre.length) ∧ Below w.heap.size w W

theorem latI_own (w : World) (hs ts : List Int) (h b2 : Nat) (B : Nat) (hB : w.heap.size ≤ B) : OwnFrom B (LatI w hs ts h b2) := by
  intro s W W' row ⟨x, y, hx, hy, h0, h1, h2, h3, hg, hb⟩ hg' hr
  have hr2 := fun r e => (hr r e).2
  exact ⟨x, y, hx, hy, heap_kept h0 hg' hr2, heap_kept h1 hg' hr2, heap_kept h2 hg' hr2, heap_kept h3 hg' hr2, hg, ownFrom_below (β := Unit) (Nat.le_refl _) hB () W W' row hb hg' hr⟩

set_option maxRecDepth 100000 in
set_option maxHeartbeats 1000000 in
theorem implLater_yes (hs ts : List Int) (hh : hs.length = 24) (ht : ts.length = 24) (h : Nat) (hh24 : h < 24) (h1 : okB hs ts = true) (h2 : inH (h : Int) = true) (w : World) :
    Calls Try.prog 19 #[.agg (sunC hs ts), .int .i64 h] w fun e w' => e = .returned (.tuple #[.agg (sunC (latL hs h) (latL ts h)), .int .i64 0]) ∧ Below w.heap.size w w' := by
  refine (callsIn_wide (n := 4)).1 ?_
  have Hc : Hid (codeB (okB hs ts) true = 0) := by rw [h1]; rfl
  have Hi := Lib.hid h2
  have Hh := Lib.hid hh
  have Ht := Lib.hid ht
  clear hh ht h1 h2
  refine callsIn_of_wp_marks Try.func19 rfl trivial ?_ rfl
  simp only [Try.ntmps19, List.size_toArray, List.length_cons, List.length_nil, Nat.reduceAdd, Nat.reduceSub, Array.replicate_succ, Array.replicate_zero, List.push_toArray, List.append_toArray, List.nil_append, List.cons_append]
  refine wpIn_wide.2 ?_
  go_wp2
  refine wp_only ?_
  refine wp_region_held_drew (S := (fun W => W.heap[w.heap.size]? = some (.cells (sunC hs ts) 31 (0, 0)) ∧ W.heap[w.heap.size + 1]? = some (.cells #[.int .i64 h] 2 (0, 0)) ∧ W.heap[w.heap.size + 1 + 1]? = some (.cells (sunC zer zer) 31 (0, 0)) ∧ Below w.heap.size w W)) (by kernel_rfl) ⟨(new3 _ _ _ _).1, (new3 _ _ _ _).2.1, (new3 _ _ _ _).2.2.1, (new3 _ _ _ _).2.2.2.drew⟩ (fun hHeld => ?_)
  refine take_at (i := 0) (d := 10) (v := .agg (sunC hs ts)) rfl rfl (by kernel_rfl) (by kernel_rfl) (by kernel_rfl) (fun _ _ _ h => h) (yields_part (by rfl) 31 (.tmp 2) (by rfl) w.heap.size 0 48 (by rfl) 31 (sunC hs ts) (0, 0) _ (fun _ h => h.1) Try.underlying31 rfl info_sun (sun_fits _ _ Hh.out Ht.out) (sunC hs ts) (sun_all _ _ Hh.out Ht.out)) hHeld ?_
  simp only [List.setIfInBounds_toArray, List.set_cons_zero, List.set_cons_succ]
  refine take_at (i := 1) (d := 11) (v := ?_) rfl rfl (by kernel_rfl) (by kernel_rfl) (by kernel_rfl) (fun _ _ _ h => h) (Or.inl ⟨by rfl, ?hy1u3⟩) hHeld ?rest1u3
  case hy1u3 =>
    intro w' hS'
    obtain ⟨s1, s2, s3, s5⟩ := hS'
    have s4 : w'.cell? ⟨w.heap.size + 1, 0, none⟩ = some (.int .i64 h) := by rw [cell_of_row w' _ _ _ _ _ s2]; rfl
    go_simp
    try with_reducible rfl
  simp only [List.setIfInBounds_toArray, List.set_cons_zero, List.set_cons_succ]
  refine wpAnyH_ready (rs := [2]) (by kernel_rfl) (by simp) ?_
  refine AllReadyH.cons rfl (fun K hK => ?_) AllReadyH.nil
  go_simp
  refine (isHour_is h true Hi.out _).mono ?_
  rintro e w' ⟨rfl, rfl⟩
  refine hK.out _ _ (hHeld) (fun hHeld2 => ?_)
  clear hK K
  replace hHeld := hHeld2
  clear hHeld2
  refine wpAnyH_ready (rs := [3]) (by kernel_rfl) (by simp) ?_
  refine AllReadyH.cons rfl (fun K hK => ?_) AllReadyH.nil
  go_simp
  refine (checkSun_is hs ts Hh.out Ht.out true 0 Hc.out _).mono ?_
  rintro e W1 ⟨rfl, hb1⟩
  refine hK.out _ _ (⟨below_row hb1 hHeld.1, below_row hb1 hHeld.2.1, below_row hb1 hHeld.2.2.1, hHeld.2.2.2.trans (hb1.mono hHeld.2.2.2.size)⟩) (fun hHeld2 => ?_)
  clear hK K
  replace hHeld := hHeld2
  clear hHeld2
  refine take_at (i := 4) (d := 6) (v := ?_) rfl rfl (by kernel_rfl) (by kernel_rfl) (by kernel_rfl) (fun _ _ _ h => h) (Or.inl ⟨by rfl, ?hy4u4⟩) hHeld ?rest4u4
  case hy4u4 =>
    intro w' hS'
    go_simp
    try with_reducible rfl
  simp only [List.setIfInBounds_toArray, List.set_cons_zero, List.set_cons_succ]
  refine wpAnyH_done (by kernel_rfl) ?_ _
  obtain ⟨h0, hF, hZ, hb⟩ := hHeld
  have hlt1 : w.heap.size + 1 + 1 < W1.heap.size := row_lt hZ
  have H0 := Lib.hid h0
  have HF := Lib.hid hF
  have H1 := Lib.hid hZ
  clear h0 hF hZ
  go_wp2
  refine (wpIn_wide (n := 4)).1 ?_
  refine wpIn_rangeFunc_ownF rfl (by decide) (gf := 34) (lb := #[]) rfl trivial (enters_of Try.func34 (by kernel_rfl) rfl)
    (eachHour_stops Fence.wide _ trivial rfl (by decide) w.heap.size _) belowK_t (belowK_b (by simp; omega)) (Below.refl _ _) (fun _ => rfl)
    (LatI w hs ts h W1.heap.size) (fun _ _ _ => False) (latI_own w hs ts _ _ _ (by simp; omega)) (fun _ _ _ _ _ hs _ _ => hs) ?h0
    (fun x => { tmps := #[.agg (sunC hs ts), .int .i64 h, .pointer (some ⟨w.heap.size, 0, none⟩), .pointer (some ⟨w.heap.size + 1, 0, none⟩), .pointer (some ⟨w.heap.size + 1 + 1, 0, none⟩), .int .i64 0, .int .i64 0, .pointer (some ⟨W1.heap.size, 0, none⟩), .int .i64 x.1, undef, .agg (sunC hs ts), .int .i64 h, .bool true, .int .i64 0, .int .i64 0, .bool false, undef, undef, .int .i64 x.1, undef, undef, undef, undef, undef, undef, undef, undef, undef, undef, undef, undef, undef, undef, undef, undef, undef, undef, undef, undef], defers := [] }) ?assign ?body ?done ?stop
  case h0 =>
    refine ⟨zer, zer, rfl, rfl, ?_, ?_, ?_, heap_alloc_new _ _, fun _ j hj => absurd hj (Nat.not_lt_zero _), hb.alloc (by omega) _⟩
    · rw [heap_alloc_old _ _ _ (row_lt H0.out)]; exact H0.out
    · rw [heap_alloc_old _ _ _ (row_lt HF.out)]; exact HF.out
    · rw [heap_alloc_old _ _ _ (row_lt H1.out)]; exact H1.out
  case assign =>
    intro l x W K hK
    gi_wp2
    exact hK
  case body =>
    clear hb1 hb H0 H1 HF
    rintro l pre ⟨x, hx0, hx1⟩ wr ⟨a, b, ha, hbl, h0, hF, h1, h2, hg, hb⟩ hl
    generalize W1.heap.size = b2 at *
    obtain ⟨k, rfl⟩ := Int.eq_ofNat_of_zero_le hx0
    have hlt : k < 24 := by omega
    have hMg : Good (pre ++ [⟨(k : Int), hx0, hx1⟩]) → Laters hs ts (a.set k (hs[lat h k]?.getD 0)) (b.set k (ts[lat h k]?.getD 0)) h (pre ++ [(⟨(k : Int), hx0, hx1⟩ : Hr)]).length := by
      intro hgs
      obtain ⟨hgp, hxk⟩ := good_snoc hgs hl
      have hkl : k = pre.length := by have : (k : Int) = (pre.length : Int) := hxk; omega
      rw [List.length_append, List.length_singleton, ← hkl]
      exact laters_step ha hbl hlt (by rw [hkl]; exact hg hgp)
    have hcF : wr.cell? ⟨w.heap.size + 1, 0, none⟩ = some (.int .i64 h) := by rw [cell_of_row wr _ _ _ _ _ hF]; rfl
    obtain ⟨m, hm⟩ : ∃ m : Nat, m = lat h k := ⟨_, rfl⟩
    have hm24 : m < 24 := by rw [hm]; exact lat_lt h k
    have hM1 := hMg
    rw [← hm] at hM1
    have c1 := cell_sun_h h0 Hh.out m hm24
    have c2 := cell_sun_h h2 ha k hlt
    have f2 := frozen_of_row _ b2 k _ _ h2
    obtain ⟨x, ex⟩ : ∃ x, x = hs[m]?.getD 0 := ⟨_, rfl⟩
    obtain ⟨y, ey⟩ : ∃ y, y = ts[m]?.getD 0 := ⟨_, rfl⟩
    rw [← ex] at c1 hM1
    rw [← ey] at hM1
    have r0 := (heap_setCell_other wr ⟨b2, k, none⟩ _ (.int .i16 x) (by simp; omega)).trans h0
    have r1 := (heap_setCell_other wr ⟨b2, k, none⟩ _ (.int .i16 x) (by simp; omega)).trans h1
    have r2 := sun_set_h h2 k (by omega) x
    have c3 := cell_sun_t r0 Hh.out Ht.out m hm24
    rw [← ey] at c3
    have c4 := cell_sun_t r2 (by simp [ha]) hbl k hlt
    have f4 := frozen_of_row _ b2 (24 + k) _ _ r2
    have r3 := (heap_setCell_other (wr.setCell ⟨b2, k, none⟩ (.int .i16 x)) ⟨b2, 24 + k, none⟩ _ (.int .i16 y) (by simp; omega)).trans r0
    have r4 := (heap_setCell_other (wr.setCell ⟨b2, k, none⟩ (.int .i16 x)) ⟨b2, 24 + k, none⟩ _ (.int .i16 y) (by simp; omega)).trans r1
    have r5 := sun_set_t r2 (by simp [ha]) k y
    have hw1 := i64_small ((k : Int) - (h : Int)) (by omega) (by omega)
    have hw2 := i64_small ((k : Int) - (h : Int) + 24) (by omega) (by omega)
    have hw3 : ((k : Int) - (h : Int) + 24).tmod 24 = (m : Int) := by rw [hm]; exact lat_tmod hh24 hlt
    have rF := (heap_setCell_other wr ⟨b2, k, none⟩ _ (.int .i16 x) (by simp; omega)).trans hF
    have rF2 := (heap_setCell_other (wr.setCell ⟨b2, k, none⟩ (.int .i16 x)) ⟨b2, 24 + k, none⟩ _ (.int .i16 y) (by simp; omega)).trans rF
    have R3 := Lib.hid r3
    have R4 := Lib.hid r4
    have R5 := Lib.hid r5
    have RF := Lib.hid rF2
    have HM := Lib.hid hM1
    have HX := Lib.hid ha
    have HB := Lib.hid hbl
    clear h0 h1 h2 hF r0 r1 r2 r3 r4 r5 rF rF2 hg hM1 hMg ex ey ha hbl hm
    refine wpIn_block (wpIn_seq ?_)
    refine region_list_round (by rfl) (fun ⟨_, _, h⟩ => h) ?_
    go_wp2
    refine wpIn_seq ?_
    refine region_list_round (by rfl) (fun ⟨_, _, h⟩ => h) ?_
    go_wp2
    refine region_list_round (by rfl) (fun ⟨_, _, h⟩ => h) ?_
    go_wp2
    refine ⟨(KeepsOthers.setCell _ _ _).trans (KeepsOthers.setCell _ _ _), ((Below.refl w.heap.size wr).setCell (p := ⟨b2, k, none⟩) (by simp; omega) _).setCell (p := ⟨b2, 24 + k, none⟩) (by simp; omega) _, a.set k x, b.set k y, by simp [HX.out], by simp [HB.out], R3.out, RF.out, R4.out, R5.out, HM.out, (hb.setCell (p := ⟨b2, k, none⟩) (by simp; omega) _).setCell (p := ⟨b2, 24 + k, none⟩) (by simp; omega) _⟩
  case done =>
    clear hb1 hb H0 H1 HF
    rintro D zs V hD rfl ⟨a, b, ha, hbl, h0, hF, h1, h2, hg, hb⟩ hK
    rename_i K hcont
    have hD' : w.heap.size ≤ D := by simp at hD; omega
    have hDb : D ≠ w.heap.size + 1 + 1 := by simp at hD; omega
    have hM := hg good_all
    rw [hrs_length] at hM
    obtain ⟨rfl, rfl⟩ := laters_all ha hbl hM
    have H1 := Lib.hid h1
    have H2 := Lib.hid h2
    have HK := Lib.hid hK
    clear hg h0 hF h1 h2 hD hK hM ha hbl
    refine hcont _ _ ?_
    generalize W1.heap.size = b2 at *
    obtain ⟨b1, he⟩ : ∃ b1, w.heap.size + 1 + 1 = b1 := ⟨_, rfl⟩
    have hle : w.heap.size ≤ b1 := by omega
    rw [he] at H1 hDb ⊢
    go_wp2_with (first | (refine wpList_load_part rfl 31 _ rfl b2 0 48 rfl 31 (sunC (latL hs h) (latL ts h)) (0, 0) _ H2.out Try.underlying31 rfl info_sun (sun_fits _ _ (latL_len _ _) (latL_len _ _)) (sunC (latL hs h) (latL ts h)) (sun_all _ _ (latL_len _ _) (latL_len _ _)) ?_) | (refine wpList_store_part rfl 31 _ _ rfl b1 0 (sunC (latL hs h) (latL ts h)) rfl rfl 31 _ H1.out (by rw [sunC_size _ _ (latL_len _ _) (latL_len _ _)]; exact info_sun) (by rw [sunC_size _ _ (latL_len _ _) (latL_len _ _)]; decide) (i16s_one _) ?_; rw [laid_all _ _ (by rw [sunC_size _ _ (latL_len _ _) (latL_len _ _)]; rfl)]))
    have hK2 : (V.setRow b1 (sunC (latL hs h) (latL ts h))).heap[D]? = some (.deferred (some [])) := (setRow_other _ _ _ _ hDb).trans HK.out
    have hR := setRow_heap V b1 _ (sunC (latL hs h) (latL ts h)) _ _ H1.out
    refine ⟨by simp, .inl ⟨_, _, rfl, run_takeDeferred hK2, ?_⟩⟩
    refine ⟨.tuple #[.agg (sunC (latL hs h) (latL ts h)), .int .i64 0], results_sun (fn := Try.f19) rfl _ _ b1 _ _ (latL_len _ _) (latL_len _ _) rfl ((World.putObj_heap_other (Ne.symm hDb)).trans hR), rfl, ?_⟩
    exact (below_setRow hb hle _).trans (belowK_b (w := w) (Nat.le_refl _) _ D _ _ hD' hK2 rfl rfl)
  case stop =>
    rintro D c pre W _ _ h _
    exact h.elim

end Go.Proofs.Ytadonkadkikfpab
