/-
  For every blind, valid or not, every height and every wanted light: the gap that is found is what the model says. No conditions.
-/
import Derived.Test.YteagbfobnjfhcaaGap
import Derived.Test.YteagbfobnjfhcaaNew
namespace Go.Proofs.Yteagbfobnjfhcaa
open Go.ChangeShapes Go.WideShapes Go.ChangeAt Go.RowKit Go.Deep Go.Joins

attribute [local go_sem] run_store_f

set_option maxHeartbeats 400000 in
theorem lengthBounds_any (w : World) : Calls Try.prog 75 #[] w fun e w' => e = .returned (.tuple #[.float .f32 1031798784, .float .f32 1115684864]) ∧ w = w' := by
  go_enter Try.func75, Try.ntmps75
  go_wp2
  go_ret2
  exact ⟨rfl, rfl⟩

/-- What is asked besides the blind. -/
def fineG (h : Int) (want : Nat) : Bool := inI 1 64 h && partB want
theorem isPart_is (x : Nat) (fine : Bool) (hi : partB x = fine) (w : World) : Calls Try.prog 52 #[.float .f32 x] w fun e w' => e = .returned (.bool fine) ∧ w = w' := by
  rw [← hi]; exact isPart_any x w
theorem l01Part_is (x : Nat) (fine : Bool) (hi : partB x = fine) (w : World) : Calls Try.prog 72 #[.float .f32 x] w fun e w' => e = .returned (.bool fine) ∧ w = w' := by
  rw [← hi]; exact l01Part_any x w

/-- The gap that is found, and the code. -/
def gapR (wd : Nat) (t h : Int) (want : Nat) : Nat × Int := if enoB wd t h want 1115684864 then ((halfs (enoB wd t h want) 30).2, 0) else (0, 6)
theorem gapR_yes {wd : Nat} {t h : Int} {want : Nat} (he : enoB wd t h want 1115684864 = true) : gapR wd t h want = ((halfs (enoB wd t h want) 30).2, 0) := if_pos he
theorem gapR_no {wd : Nat} {t h : Int} {want : Nat} (he : enoB wd t h want 1115684864 = false) : gapR wd t h want = (0, 6) := if_neg (by rw [he]; decide)
theorem gapR_fin (wd : Nat) (t h : Int) (want : Nat) : fin32 (gapR wd t h want).1 = true := by
  cases he : enoB wd t h want 1115684864 with
  | true => rw [gapR_yes he]; exact fin_of_lt (Nat.lt_of_le_of_lt (halfs_in _ 30).2.2 (by decide))
  | false => rw [gapR_no he]; exact zero_fin

set_option maxRecDepth 100000 in
set_option maxHeartbeats 1000000 in
theorem implGapFor_found (n : Int) (wd gp : Nat) (t : Int) (sh : Nat) (bw : BlWf n wd gp t sh) (h : Int) (want : Nat) (hk : okBl n wd gp t sh = true) (hi : inI 1 64 h = true) (hp : partB want = true) (he : enoB wd t h want 1115684864 = true) (w : World) :
    Calls Try.prog 48 #[.agg (blindC n wd gp t sh), .int .i64 h, .float .f32 want] w fun e w' => e = .returned (.tuple #[.float .f32 (gapR wd t h want).1, .int .i64 (gapR wd t h want).2]) ∧ Below w.heap.size w w' := by
  rw [gapR_yes he]
  obtain ⟨T0, T1⟩ := blwf_t bw
  obtain ⟨h0, h1⟩ := inI_get hi
  have OK := blok_of bw hk
  have HC := Lib.hid (fun g1 g2 g3 W c1 c2 c3 => gap_call n wd gp t sh OK h h0 h1 want 1115684864 ⟨by decide, by decide⟩ g1 g2 g3 W c1 c2 c3)
  rw [he] at HC
  have HH := Lib.hid (fun g1 g2 g3 W c1 c2 c3 => halve_any n wd gp t sh OK h h0 h1 want g1 g2 g3 W c1 c2 c3)
  have Hc : Hid (codeC (okBl n wd gp t sh) true = 0) := by rw [hk]; rfl
  have Hi := Lib.hid hi
  have Hp := Lib.hid hp
  clear OK h0 h1 hk hi hp bw he
  go_enter Try.func48, Try.ntmps48
  go_upto_region 1 with (fail)
  refine abs_world (fun W => W.heap[w.heap.size]? = some (.cells (blindC n wd gp t sh) 28 (0, 0)) ∧ W.heap[w.heap.size + 1]? = some (.cells #[.int .i64 h] 2 (0, 0)) ∧ W.heap[w.heap.size + 1 + 1]? = some (.cells #[.float .f32 want] 23 (0, 0)) ∧ Below w.heap.size w W) ⟨(three_new _ _ _ _).1, (three_new _ _ _ _).2.1, (three_new _ _ _ _).2.2.1, (three_new _ _ _ _).2.2.2⟩ ?_
  rintro W ⟨d1, d2, d3, hb⟩
  generalize w.heap.size + 1 + 1 = g3 at *
  generalize w.heap.size + 1 = g2 at *
  refine wp_region_held_drew (S := (fun W => W.heap[w.heap.size]? = some (.cells (blindC n wd gp t sh) 28 (0, 0)) ∧ W.heap[g2]? = some (.cells #[.int .i64 h] 2 (0, 0)) ∧ W.heap[g3]? = some (.cells #[.float .f32 want] 23 (0, 0)) ∧ Below w.heap.size w W)) (by kernel_rfl) ⟨d1, d2, d3, hb.drew⟩ (fun hHeld => ?_)
  refine take_op (i := 0) (d := 12) (v := .agg (blindC n wd gp t sh)) rfl rfl (by kernel_rfl) (by kernel_rfl) (by kernel_rfl) (fun _ _ _ h => h) (yields_row (by rfl) 28 (.tmp 3) (by rfl) w.heap.size 0 5 (by rfl) 28 (blindC n wd gp t sh) (0, 0) _ (fun _ h => h.1) Try.underlying28 rfl info_blind (blind_fits _ _ _ _ _) (blindC n wd gp t sh) (blind_all _ _ _ _ _)) hHeld ?_
  simp only [List.setIfInBounds_toArray, List.set_cons_zero, List.set_cons_succ]
  refine take_op (i := 1) (d := 13) (v := ?_) rfl rfl (by kernel_rfl) (by kernel_rfl) (by kernel_rfl) (fun _ _ _ h => h) (Or.inl ⟨by rfl, ?hy1u5⟩) hHeld ?rest1u5
  case hy1u5 =>
    intro w' hS'
    obtain ⟨s1, s2, s3, s4⟩ := hS'
    have q2 : w'.cell? ⟨g2, 0, none⟩ = some (.int .i64 h) := by rw [cell_of_row w' _ _ _ _ _ s2]; rfl
    have q3 : w'.cell? ⟨g3, 0, none⟩ = some (.float .f32 want) := by rw [cell_of_row w' _ _ _ _ _ s3]; rfl
    clear s1 s2 s3 s4
    go_simp
    try with_reducible rfl
  simp only [List.setIfInBounds_toArray, List.set_cons_zero, List.set_cons_succ]
  refine wpAnyH_ready (rs := [2]) (by kernel_rfl) (by simp) ?_
  refine AllReadyH.cons rfl (fun K hK => ?_) AllReadyH.nil
  go_simp
  refine (isHeight_is h true Hi.out _).mono ?_
  rintro e w' ⟨rfl, rfl⟩
  refine hK.out _ _ (hHeld) (fun hHeld2 => ?_)
  clear hK K
  replace hHeld := hHeld2
  clear hHeld2
  refine take_op (i := 3) (d := 15) (v := ?_) rfl rfl (by kernel_rfl) (by kernel_rfl) (by kernel_rfl) (fun _ _ _ h => h) (Or.inl ⟨by rfl, ?hy3u6⟩) hHeld ?rest3u6
  case hy3u6 =>
    intro w' hS'
    go_simp
    try with_reducible rfl
  simp only [List.setIfInBounds_toArray, List.set_cons_zero, List.set_cons_succ]
  refine take_op (i := 4) (d := 16) (v := ?_) rfl rfl (by kernel_rfl) (by kernel_rfl) (by kernel_rfl) (fun _ _ _ h => h) (Or.inl ⟨by rfl, ?hy4u7⟩) hHeld ?rest4u7
  case hy4u7 =>
    intro w' hS'
    obtain ⟨s1, s2, s3, s4⟩ := hS'
    have q2 : w'.cell? ⟨g2, 0, none⟩ = some (.int .i64 h) := by rw [cell_of_row w' _ _ _ _ _ s2]; rfl
    have q3 : w'.cell? ⟨g3, 0, none⟩ = some (.float .f32 want) := by rw [cell_of_row w' _ _ _ _ _ s3]; rfl
    clear s1 s2 s3 s4
    go_simp
    try with_reducible rfl
  simp only [List.setIfInBounds_toArray, List.set_cons_zero, List.set_cons_succ]
  refine wpAnyH_ready (rs := [5]) (by kernel_rfl) (by simp) ?_
  refine AllReadyH.cons rfl (fun K hK => ?_) AllReadyH.nil
  go_simp
  refine (isPart_is want true Hp.out _).mono ?_
  rintro e w' ⟨rfl, rfl⟩
  refine hK.out _ _ (hHeld) (fun hHeld2 => ?_)
  clear hK K
  replace hHeld := hHeld2
  clear hHeld2
  refine take_op (i := 6) (d := 18) (v := ?_) rfl rfl (by kernel_rfl) (by kernel_rfl) (by kernel_rfl) (fun _ _ _ h => h) (Or.inl ⟨by rfl, ?hy6u8⟩) hHeld ?rest6u8
  case hy6u8 =>
    intro w' hS'
    go_simp
    try with_reducible rfl
  simp only [List.setIfInBounds_toArray, List.set_cons_zero, List.set_cons_succ]
  refine wpAnyH_ready (rs := [7]) (by kernel_rfl) (by simp) ?_
  refine AllReadyH.cons rfl (fun K hK => ?_) AllReadyH.nil
  go_simp
  refine (checkBlind_is n wd gp t sh T0 T1 true 0 Hc.out _).mono ?_
  rintro e W1 ⟨rfl, hb1⟩
  refine hK.out _ _ (⟨below_row hb1 hHeld.1, below_row hb1 hHeld.2.1, below_row hb1 hHeld.2.2.1, hHeld.2.2.2.trans (hb1.mono hHeld.2.2.2.size)⟩) (fun hHeld2 => ?_)
  clear hK K
  replace hHeld := hHeld2
  clear hHeld2
  refine take_op (i := 8) (d := 8) (v := ?_) rfl rfl (by kernel_rfl) (by kernel_rfl) (by kernel_rfl) (fun _ _ _ h => h) (Or.inl ⟨by rfl, ?hy8u9⟩) hHeld ?rest8u9
  case hy8u9 =>
    intro w' hS'
    go_simp
    try with_reducible rfl
  simp only [List.setIfInBounds_toArray, List.set_cons_zero, List.set_cons_succ]
  refine wpAnyH_done (by kernel_rfl) ?_ _
  obtain ⟨c1, c2, c3, hbx⟩ := hHeld
  have C1 := Lib.hid c1
  have C2 := Lib.hid c2
  have C3 := Lib.hid c3
  clear c1 c2 c3 d1 d2 d3 hb
  go_wp2_with (first | (go_at_call 74; refine (HC.out w.heap.size g2 g3 _ C1.out C2.out C3.out).mono ?_; rintro e W3 ⟨rfl, hb3⟩; replace C1 := Lib.hid (below_row hb3 C1.out); replace C2 := Lib.hid (below_row hb3 C2.out); replace C3 := Lib.hid (below_row hb3 C3.out); replace hbx := hbx.trans (hb3.mono hbx.size); clear hb3) | (go_at_call 76; refine (HH.out w.heap.size g2 g3 _ C1.out C2.out C3.out).mono ?_; rintro e W4 ⟨rfl, hb4⟩; replace hbx := hbx.trans (hb4.mono hbx.size); clear hb4) | (go_at_call 75; refine (lengthBounds_any _).mono ?_; rintro e w' ⟨rfl, rfl⟩))
  go_ret2
  exact ⟨rfl, hbx⟩

set_option maxRecDepth 100000 in
set_option maxHeartbeats 1000000 in
theorem implGapFor_none (n : Int) (wd gp : Nat) (t : Int) (sh : Nat) (bw : BlWf n wd gp t sh) (h : Int) (want : Nat) (hk : okBl n wd gp t sh = true) (hi : inI 1 64 h = true) (hp : partB want = true) (he : enoB wd t h want 1115684864 = false) (w : World) :
    Calls Try.prog 48 #[.agg (blindC n wd gp t sh), .int .i64 h, .float .f32 want] w fun e w' => e = .returned (.tuple #[.float .f32 (gapR wd t h want).1, .int .i64 (gapR wd t h want).2]) ∧ Below w.heap.size w w' := by
  rw [gapR_no he]
  obtain ⟨T0, T1⟩ := blwf_t bw
  obtain ⟨h0, h1⟩ := inI_get hi
  have OK := blok_of bw hk
  have HC := Lib.hid (fun g1 g2 g3 W c1 c2 c3 => gap_call n wd gp t sh OK h h0 h1 want 1115684864 ⟨by decide, by decide⟩ g1 g2 g3 W c1 c2 c3)
  rw [he] at HC
  have HH := Lib.hid (fun g1 g2 g3 W c1 c2 c3 => halve_any n wd gp t sh OK h h0 h1 want g1 g2 g3 W c1 c2 c3)
  have Hc : Hid (codeC (okBl n wd gp t sh) true = 0) := by rw [hk]; rfl
  have Hi := Lib.hid hi
  have Hp := Lib.hid hp
  clear OK h0 h1 hk hi hp bw he
  go_enter Try.func48, Try.ntmps48
  go_upto_region 1 with (fail)
  refine abs_world (fun W => W.heap[w.heap.size]? = some (.cells (blindC n wd gp t sh) 28 (0, 0)) ∧ W.heap[w.heap.size + 1]? = some (.cells #[.int .i64 h] 2 (0, 0)) ∧ W.heap[w.heap.size + 1 + 1]? = some (.cells #[.float .f32 want] 23 (0, 0)) ∧ Below w.heap.size w W) ⟨(three_new _ _ _ _).1, (three_new _ _ _ _).2.1, (three_new _ _ _ _).2.2.1, (three_new _ _ _ _).2.2.2⟩ ?_
  rintro W ⟨d1, d2, d3, hb⟩
  generalize w.heap.size + 1 + 1 = g3 at *
  generalize w.heap.size + 1 = g2 at *
  refine wp_region_held_drew (S := (fun W => W.heap[w.heap.size]? = some (.cells (blindC n wd gp t sh) 28 (0, 0)) ∧ W.heap[g2]? = some (.cells #[.int .i64 h] 2 (0, 0)) ∧ W.heap[g3]? = some (.cells #[.float .f32 want] 23 (0, 0)) ∧ Below w.heap.size w W)) (by kernel_rfl) ⟨d1, d2, d3, hb.drew⟩ (fun hHeld => ?_)
  refine take_op (i := 0) (d := 12) (v := .agg (blindC n wd gp t sh)) rfl rfl (by kernel_rfl) (by kernel_rfl) (by kernel_rfl) (fun _ _ _ h => h) (yields_row (by rfl) 28 (.tmp 3) (by rfl) w.heap.size 0 5 (by rfl) 28 (blindC n wd gp t sh) (0, 0) _ (fun _ h => h.1) Try.underlying28 rfl info_blind (blind_fits _ _ _ _ _) (blindC n wd gp t sh) (blind_all _ _ _ _ _)) hHeld ?_
  simp only [List.setIfInBounds_toArray, List.set_cons_zero, List.set_cons_succ]
  refine take_op (i := 1) (d := 13) (v := ?_) rfl rfl (by kernel_rfl) (by kernel_rfl) (by kernel_rfl) (fun _ _ _ h => h) (Or.inl ⟨by rfl, ?hy1u10⟩) hHeld ?rest1u10
  case hy1u10 =>
    intro w' hS'
    obtain ⟨s1, s2, s3, s4⟩ := hS'
    have q2 : w'.cell? ⟨g2, 0, none⟩ = some (.int .i64 h) := by rw [cell_of_row w' _ _ _ _ _ s2]; rfl
    have q3 : w'.cell? ⟨g3, 0, none⟩ = some (.float .f32 want) := by rw [cell_of_row w' _ _ _ _ _ s3]; rfl
    clear s1 s2 s3 s4
    go_simp
    try with_reducible rfl
  simp only [List.setIfInBounds_toArray, List.set_cons_zero, List.set_cons_succ]
  refine wpAnyH_ready (rs := [2]) (by kernel_rfl) (by simp) ?_
  refine AllReadyH.cons rfl (fun K hK => ?_) AllReadyH.nil
  go_simp
  refine (isHeight_is h true Hi.out _).mono ?_
  rintro e w' ⟨rfl, rfl⟩
  refine hK.out _ _ (hHeld) (fun hHeld2 => ?_)
  clear hK K
  replace hHeld := hHeld2
  clear hHeld2
  refine take_op (i := 3) (d := 15) (v := ?_) rfl rfl (by kernel_rfl) (by kernel_rfl) (by kernel_rfl) (fun _ _ _ h => h) (Or.inl ⟨by rfl, ?hy3u11⟩) hHeld ?rest3u11
  case hy3u11 =>
    intro w' hS'
    go_simp
    try with_reducible rfl
  simp only [List.setIfInBounds_toArray, List.set_cons_zero, List.set_cons_succ]
  refine take_op (i := 4) (d := 16) (v := ?_) rfl rfl (by kernel_rfl) (by kernel_rfl) (by kernel_rfl) (fun _ _ _ h => h) (Or.inl ⟨by rfl, ?hy4u12⟩) hHeld ?rest4u12
  case hy4u12 =>
    intro w' hS'
    obtain ⟨s1, s2, s3, s4⟩ := hS'
    have q2 : w'.cell? ⟨g2, 0, none⟩ = some (.int .i64 h) := by rw [cell_of_row w' _ _ _ _ _ s2]; rfl
    have q3 : w'.cell? ⟨g3, 0, none⟩ = some (.float .f32 want) := by rw [cell_of_row w' _ _ _ _ _ s3]; rfl
    clear s1 s2 s3 s4
    go_simp
    try with_reducible rfl
  simp only [List.setIfInBounds_toArray, List.set_cons_zero, List.set_cons_succ]
  refine wpAnyH_ready (rs := [5]) (by kernel_rfl) (by simp) ?_
  refine AllReadyH.cons rfl (fun K hK => ?_) AllReadyH.nil
  go_simp
  refine (isPart_is want true Hp.out _).mono ?_
  rintro e w' ⟨rfl, rfl⟩
  refine hK.out _ _ (hHeld) (fun hHeld2 => ?_)
  clear hK K
  replace hHeld := hHeld2
  clear hHeld2
  refine take_op (i := 6) (d := 18) (v := ?_) rfl rfl (by kernel_rfl) (by kernel_rfl) (by kernel_rfl) (fun _ _ _ h => h) (Or.inl ⟨by rfl, ?hy6u13⟩) hHeld ?rest6u13
  case hy6u13 =>
    intro w' hS'
    go_simp
    try with_reducible rfl
  simp only [List.setIfInBounds_toArray, List.set_cons_zero, List.set_cons_succ]
  refine wpAnyH_ready (rs := [7]) (by kernel_rfl) (by simp) ?_
  refine AllReadyH.cons rfl (fun K hK => ?_) AllReadyH.nil
  go_simp
  refine (checkBlind_is n wd gp t sh T0 T1 true 0 Hc.out _).mono ?_
  rintro e W1 ⟨rfl, hb1⟩
  refine hK.out _ _ (⟨below_row hb1 hHeld.1, below_row hb1 hHeld.2.1, below_row hb1 hHeld.2.2.1, hHeld.2.2.2.trans (hb1.mono hHeld.2.2.2.size)⟩) (fun hHeld2 => ?_)
  clear hK K
  replace hHeld := hHeld2
  clear hHeld2
  refine take_op (i := 8) (d := 8) (v := ?_) rfl rfl (by kernel_rfl) (by kernel_rfl) (by kernel_rfl) (fun _ _ _ h => h) (Or.inl ⟨by rfl, ?hy8u14⟩) hHeld ?rest8u14
  case hy8u14 =>
    intro w' hS'
    go_simp
    try with_reducible rfl
  simp only [List.setIfInBounds_toArray, List.set_cons_zero, List.set_cons_succ]
  refine wpAnyH_done (by kernel_rfl) ?_ _
  obtain ⟨c1, c2, c3, hbx⟩ := hHeld
  have C1 := Lib.hid c1
  have C2 := Lib.hid c2
  have C3 := Lib.hid c3
  clear c1 c2 c3 d1 d2 d3 hb
  go_wp2_with (first | (go_at_call 74; refine (HC.out w.heap.size g2 g3 _ C1.out C2.out C3.out).mono ?_; rintro e W3 ⟨rfl, hb3⟩; replace C1 := Lib.hid (below_row hb3 C1.out); replace C2 := Lib.hid (below_row hb3 C2.out); replace C3 := Lib.hid (below_row hb3 C3.out); replace hbx := hbx.trans (hb3.mono hbx.size); clear hb3) | (go_at_call 75; refine (lengthBounds_any _).mono ?_; rintro e w' ⟨rfl, rfl⟩))
  go_ret2
  exact ⟨rfl, hbx⟩

set_option maxRecDepth 100000 in
set_option maxHeartbeats 1000000 in
theorem implGapFor_no (n : Int) (wd gp : Nat) (t : Int) (sh : Nat) (bw : BlWf n wd gp t sh) (h : Int) (want : Nat) (hk : ¬ (okBl n wd gp t sh = true ∧ fineG h want = true)) (w : World) :
    Calls Try.prog 48 #[.agg (blindC n wd gp t sh), .int .i64 h, .float .f32 want] w fun e w' => e = .returned (.tuple #[.float .f32 0, .int .i64 (codeC (okBl n wd gp t sh) (fineG h want))]) ∧ Below w.heap.size w w' := by
  obtain ⟨T0, T1⟩ := blwf_t bw
  have hne := codeC_ne hk
  cases hi : inI 1 64 h with
  | true =>
    have e1 : fineG h want = partB want := by unfold fineG; rw [hi]; rfl
    rw [e1] at hne hk ⊢
    generalize hp : partB want = p at *
    generalize hc : codeC (okBl n wd gp t sh) p = c at *
    have Hc := Lib.hid hc
    have Hi := Lib.hid hi
    have Hp := Lib.hid hp
    have hne' : (c != 0) = true := bne_iff_ne.2 hne
    clear hk hi hp hc hne e1 bw
    go_enter Try.func48, Try.ntmps48
    go_upto_region 1 with (fail)
    refine abs_world (fun W => W.heap[w.heap.size]? = some (.cells (blindC n wd gp t sh) 28 (0, 0)) ∧ W.heap[w.heap.size + 1]? = some (.cells #[.int .i64 h] 2 (0, 0)) ∧ W.heap[w.heap.size + 1 + 1]? = some (.cells #[.float .f32 want] 23 (0, 0)) ∧ Below w.heap.size w W) ⟨(three_new _ _ _ _).1, (three_new _ _ _ _).2.1, (three_new _ _ _ _).2.2.1, (three_new _ _ _ _).2.2.2⟩ ?_
    rintro W ⟨d1, d2, d3, hb⟩
    generalize w.heap.size + 1 + 1 = g3 at *
    generalize w.heap.size + 1 = g2 at *
    refine wp_region_held_drew (S := (fun W => W.heap[w.heap.size]? = some (.cells (blindC n wd gp t sh) 28 (0, 0)) ∧ W.heap[g2]? = some (.cells #[.int .i64 h] 2 (0, 0)) ∧ W.heap[g3]? = some (.cells #[.float .f32 want] 23 (0, 0)) ∧ Below w.heap.size w W)) (by kernel_rfl) ⟨d1, d2, d3, hb.drew⟩ (fun hHeld => ?_)
    refine take_op (i := 0) (d := 12) (v := .agg (blindC n wd gp t sh)) rfl rfl (by kernel_rfl) (by kernel_rfl) (by kernel_rfl) (fun _ _ _ h => h) (yields_row (by rfl) 28 (.tmp 3) (by rfl) w.heap.size 0 5 (by rfl) 28 (blindC n wd gp t sh) (0, 0) _ (fun _ h => h.1) Try.underlying28 rfl info_blind (blind_fits _ _ _ _ _) (blindC n wd gp t sh) (blind_all _ _ _ _ _)) hHeld ?_
    simp only [List.setIfInBounds_toArray, List.set_cons_zero, List.set_cons_succ]
    refine take_op (i := 1) (d := 13) (v := ?_) rfl rfl (by kernel_rfl) (by kernel_rfl) (by kernel_rfl) (fun _ _ _ h => h) (Or.inl ⟨by rfl, ?hy1u15⟩) hHeld ?rest1u15
    case hy1u15 =>
      intro w' hS'
      obtain ⟨s1, s2, s3, s4⟩ := hS'
      have q2 : w'.cell? ⟨g2, 0, none⟩ = some (.int .i64 h) := by rw [cell_of_row w' _ _ _ _ _ s2]; rfl
      have q3 : w'.cell? ⟨g3, 0, none⟩ = some (.float .f32 want) := by rw [cell_of_row w' _ _ _ _ _ s3]; rfl
      clear s1 s2 s3 s4
      go_simp
      try with_reducible rfl
    simp only [List.setIfInBounds_toArray, List.set_cons_zero, List.set_cons_succ]
    refine wpAnyH_ready (rs := [2]) (by kernel_rfl) (by simp) ?_
    refine AllReadyH.cons rfl (fun K hK => ?_) AllReadyH.nil
    go_simp
    refine (isHeight_is h true Hi.out _).mono ?_
    rintro e w' ⟨rfl, rfl⟩
    refine hK.out _ _ (hHeld) (fun hHeld2 => ?_)
    clear hK K
    replace hHeld := hHeld2
    clear hHeld2
    refine take_op (i := 3) (d := 15) (v := ?_) rfl rfl (by kernel_rfl) (by kernel_rfl) (by kernel_rfl) (fun _ _ _ h => h) (Or.inl ⟨by rfl, ?hy3u16⟩) hHeld ?rest3u16
    case hy3u16 =>
      intro w' hS'
      go_simp
      try with_reducible rfl
    simp only [List.setIfInBounds_toArray, List.set_cons_zero, List.set_cons_succ]
    refine take_op (i := 4) (d := 16) (v := ?_) rfl rfl (by kernel_rfl) (by kernel_rfl) (by kernel_rfl) (fun _ _ _ h => h) (Or.inl ⟨by rfl, ?hy4u17⟩) hHeld ?rest4u17
    case hy4u17 =>
      intro w' hS'
      obtain ⟨s1, s2, s3, s4⟩ := hS'
      have q2 : w'.cell? ⟨g2, 0, none⟩ = some (.int .i64 h) := by rw [cell_of_row w' _ _ _ _ _ s2]; rfl
      have q3 : w'.cell? ⟨g3, 0, none⟩ = some (.float .f32 want) := by rw [cell_of_row w' _ _ _ _ _ s3]; rfl
      clear s1 s2 s3 s4
      go_simp
      try with_reducible rfl
    simp only [List.setIfInBounds_toArray, List.set_cons_zero, List.set_cons_succ]
    refine wpAnyH_ready (rs := [5]) (by kernel_rfl) (by simp) ?_
    refine AllReadyH.cons rfl (fun K hK => ?_) AllReadyH.nil
    go_simp
    refine (isPart_is want p Hp.out _).mono ?_
    rintro e w' ⟨rfl, rfl⟩
    refine hK.out _ _ (hHeld) (fun hHeld2 => ?_)
    clear hK K
    replace hHeld := hHeld2
    clear hHeld2
    refine take_op (i := 6) (d := 18) (v := ?_) rfl rfl (by kernel_rfl) (by kernel_rfl) (by kernel_rfl) (fun _ _ _ h => h) (Or.inl ⟨by rfl, ?hy6u18⟩) hHeld ?rest6u18
    case hy6u18 =>
      intro w' hS'
      go_simp
      try with_reducible rfl
    simp only [List.setIfInBounds_toArray, List.set_cons_zero, List.set_cons_succ]
    refine wpAnyH_ready (rs := [7]) (by kernel_rfl) (by simp) ?_
    refine AllReadyH.cons rfl (fun K hK => ?_) AllReadyH.nil
    go_simp
    refine (checkBlind_is n wd gp t sh T0 T1 p c Hc.out _).mono ?_
    rintro e W1 ⟨rfl, hb1⟩
    refine hK.out _ _ (⟨below_row hb1 hHeld.1, below_row hb1 hHeld.2.1, below_row hb1 hHeld.2.2.1, hHeld.2.2.2.trans (hb1.mono hHeld.2.2.2.size)⟩) (fun hHeld2 => ?_)
    clear hK K
    replace hHeld := hHeld2
    clear hHeld2
    refine take_op (i := 8) (d := 8) (v := ?_) rfl rfl (by kernel_rfl) (by kernel_rfl) (by kernel_rfl) (fun _ _ _ h => h) (Or.inl ⟨by rfl, ?hy8u19⟩) hHeld ?rest8u19
    case hy8u19 =>
      intro w' hS'
      go_simp
      try with_reducible rfl
    simp only [List.setIfInBounds_toArray, List.set_cons_zero, List.set_cons_succ]
    refine wpAnyH_done (by kernel_rfl) ?_ _
    have hbx := hHeld.2.2.2
    clear hHeld d1 d2 d3 hb
    go_wp2
    go_ret2
    exact ⟨rfl, hbx⟩
  | false =>
    have e1 : fineG h want = false := by unfold fineG; rw [hi]; rfl
    rw [e1] at hne hk ⊢
    generalize hc : codeC (okBl n wd gp t sh) false = c at *
    have Hc := Lib.hid hc
    have Hi := Lib.hid hi
    have hne' : (c != 0) = true := bne_iff_ne.2 hne
    clear hk hi hc hne e1 bw
    go_enter Try.func48, Try.ntmps48
    go_upto_region 1 with (fail)
    refine abs_world (fun W => W.heap[w.heap.size]? = some (.cells (blindC n wd gp t sh) 28 (0, 0)) ∧ W.heap[w.heap.size + 1]? = some (.cells #[.int .i64 h] 2 (0, 0)) ∧ W.heap[w.heap.size + 1 + 1]? = some (.cells #[.float .f32 want] 23 (0, 0)) ∧ Below w.heap.size w W) ⟨(three_new _ _ _ _).1, (three_new _ _ _ _).2.1, (three_new _ _ _ _).2.2.1, (three_new _ _ _ _).2.2.2⟩ ?_
    rintro W ⟨d1, d2, d3, hb⟩
    generalize w.heap.size + 1 + 1 = g3 at *
    generalize w.heap.size + 1 = g2 at *
    refine wp_region_held_drew (S := (fun W => W.heap[w.heap.size]? = some (.cells (blindC n wd gp t sh) 28 (0, 0)) ∧ W.heap[g2]? = some (.cells #[.int .i64 h] 2 (0, 0)) ∧ W.heap[g3]? = some (.cells #[.float .f32 want] 23 (0, 0)) ∧ Below w.heap.size w W)) (by kernel_rfl) ⟨d1, d2, d3, hb.drew⟩ (fun hHeld => ?_)
    refine take_op (i := 0) (d := 12) (v := .agg (blindC n wd gp t sh)) rfl rfl (by kernel_rfl) (by kernel_rfl) (by kernel_rfl) (fun _ _ _ h => h) (yields_row (by rfl) 28 (.tmp 3) (by rfl) w.heap.size 0 5 (by rfl) 28 (blindC n wd gp t sh) (0, 0) _ (fun _ h => h.1) Try.underlying28 rfl info_blind (blind_fits _ _ _ _ _) (blindC n wd gp t sh) (blind_all _ _ _ _ _)) hHeld ?_
    simp only [List.setIfInBounds_toArray, List.set_cons_zero, List.set_cons_succ]
    refine take_op (i := 1) (d := 13) (v := ?_) rfl rfl (by kernel_rfl) (by kernel_rfl) (by kernel_rfl) (fun _ _ _ h => h) (Or.inl ⟨by rfl, ?hy1u20⟩) hHeld ?rest1u20
    case hy1u20 =>
      intro w' hS'
      obtain ⟨s1, s2, s3, s4⟩ := hS'
      have q2 : w'.cell? ⟨g2, 0, none⟩ = some (.int .i64 h) := by rw [cell_of_row w' _ _ _ _ _ s2]; rfl
      have q3 : w'.cell? ⟨g3, 0, none⟩ = some (.float .f32 want) := by rw [cell_of_row w' _ _ _ _ _ s3]; rfl
      clear s1 s2 s3 s4
      go_simp
      try with_reducible rfl
    simp only [List.setIfInBounds_toArray, List.set_cons_zero, List.set_cons_succ]
    refine wpAnyH_ready (rs := [2]) (by kernel_rfl) (by simp) ?_
    refine AllReadyH.cons rfl (fun K hK => ?_) AllReadyH.nil
    go_simp
    refine (isHeight_is h false Hi.out _).mono ?_
    rintro e w' ⟨rfl, rfl⟩
    refine hK.out _ _ (hHeld) (fun hHeld2 => ?_)
    clear hK K
    replace hHeld := hHeld2
    clear hHeld2
    refine take_op (i := 3) (d := 15) (v := ?_) rfl rfl (by kernel_rfl) (by kernel_rfl) (by kernel_rfl) (fun _ _ _ h => h) (Or.inl ⟨by rfl, ?hy3u21⟩) hHeld ?rest3u21
    case hy3u21 =>
      intro w' hS'
      go_simp
      try with_reducible rfl
    simp only [List.setIfInBounds_toArray, List.set_cons_zero, List.set_cons_succ]
    refine take_op (i := 4) (d := 16) rfl rfl (by kernel_rfl) (by kernel_rfl) (by kernel_rfl) (fun _ _ _ h => h) (Or.inr ⟨by rfl, rfl⟩) hHeld ?_
    simp only [List.setIfInBounds_toArray, List.set_cons_zero, List.set_cons_succ]
    refine take_op (i := 5) (d := 17) rfl rfl (by kernel_rfl) (by kernel_rfl) (by kernel_rfl) (fun _ _ _ h => h) (Or.inr ⟨by rfl, rfl⟩) hHeld ?_
    simp only [List.setIfInBounds_toArray, List.set_cons_zero, List.set_cons_succ]
    refine take_op (i := 6) (d := 18) (v := ?_) rfl rfl (by kernel_rfl) (by kernel_rfl) (by kernel_rfl) (fun _ _ _ h => h) (Or.inl ⟨by rfl, ?hy6u22⟩) hHeld ?rest6u22
    case hy6u22 =>
      intro w' hS'
      go_simp
      try with_reducible rfl
    simp only [List.setIfInBounds_toArray, List.set_cons_zero, List.set_cons_succ]
    refine wpAnyH_ready (rs := [7]) (by kernel_rfl) (by simp) ?_
    refine AllReadyH.cons rfl (fun K hK => ?_) AllReadyH.nil
    go_simp
    refine (checkBlind_is n wd gp t sh T0 T1 false c Hc.out _).mono ?_
    rintro e W1 ⟨rfl, hb1⟩
    refine hK.out _ _ (⟨below_row hb1 hHeld.1, below_row hb1 hHeld.2.1, below_row hb1 hHeld.2.2.1, hHeld.2.2.2.trans (hb1.mono hHeld.2.2.2.size)⟩) (fun hHeld2 => ?_)
    clear hK K
    replace hHeld := hHeld2
    clear hHeld2
    refine take_op (i := 8) (d := 8) (v := ?_) rfl rfl (by kernel_rfl) (by kernel_rfl) (by kernel_rfl) (fun _ _ _ h => h) (Or.inl ⟨by rfl, ?hy8u23⟩) hHeld ?rest8u23
    case hy8u23 =>
      intro w' hS'
      go_simp
      try with_reducible rfl
    simp only [List.setIfInBounds_toArray, List.set_cons_zero, List.set_cons_succ]
    refine wpAnyH_done (by kernel_rfl) ?_ _
    have hbx := hHeld.2.2.2
    clear hHeld d1 d2 d3 hb
    go_wp2
    go_ret2
    exact ⟨rfl, hbx⟩

/-! ### The model's -/
set_option maxRecDepth 100000 in
set_option maxHeartbeats 1000000 in
theorem specGapFor_no (n : Int) (wd gp : Nat) (t : Int) (sh : Nat) (bw : BlWf n wd gp t sh) (h : Int) (want : Nat) (hk : ¬ (okBl n wd gp t sh = true ∧ fineG h want = true)) (w : World) :
    Calls Try.prog 47 #[.agg (blindC n wd gp t sh), .int .i64 h, .float .f32 want] w fun e w' => e = .returned (.tuple #[.float .f32 0, .int .i64 (codeC (okBl n wd gp t sh) (fineG h want))]) ∧ Below w.heap.size w w' := by
  obtain ⟨T0, T1⟩ := blwf_t bw
  obtain ⟨N0, N1⟩ := blwf_n bw
  have hne := codeC_ne hk
  cases hi : inI 1 64 h with
  | true =>
    have e1 : fineG h want = partB want := by unfold fineG; rw [hi]; rfl
    rw [e1] at hne hk ⊢
    generalize hp : partB want = p at *
    generalize hc : codeC (okBl n wd gp t sh) p = c at *
    have Hc := Lib.hid hc
    have Hi := Lib.hid hi
    have Hp := Lib.hid hp
    have hne' : (c != 0) = true := bne_iff_ne.2 hne
    clear hk hi hp hc hne e1 bw
    go_enter Try.func47, Try.ntmps47
    go_wp2_with (first | (go_at_call 59; refine (l02Up_is h true Hi.out _).mono ?_; rintro e w' ⟨rfl, rfl⟩) | (go_at_call 72; refine (l01Part_is want p Hp.out _).mono ?_; rintro e w' ⟨rfl, rfl⟩) | (go_at_call 58; refine (l02Asked_is n wd gp t sh T0 T1 N0 N1 w.heap.size _ _ p c Hc.out _ (heap_alloc_new _ _)).mono ?_; rintro e w' ⟨rfl, rfl⟩))
    go_ret2
    exact ⟨rfl, (Below.refl _ _).alloc (Nat.le_refl _) _⟩
  | false =>
    have e1 : fineG h want = false := by unfold fineG; rw [hi]; rfl
    rw [e1] at hne hk ⊢
    generalize hc : codeC (okBl n wd gp t sh) false = c at *
    have Hc := Lib.hid hc
    have Hi := Lib.hid hi
    have hne' : (c != 0) = true := bne_iff_ne.2 hne
    clear hk hi hc hne e1 bw
    go_enter Try.func47, Try.ntmps47
    go_wp2_with (first | (go_at_call 59; refine (l02Up_is h false Hi.out _).mono ?_; rintro e w' ⟨rfl, rfl⟩) | (go_at_call 58; refine (l02Asked_is n wd gp t sh T0 T1 N0 N1 w.heap.size _ _ false c Hc.out _ (heap_alloc_new _ _)).mono ?_; rintro e w' ⟨rfl, rfl⟩))
    go_ret2
    exact ⟨rfl, (Below.refl _ _).alloc (Nat.le_refl _) _⟩

theorem enoB_lt {wd : Nat} {t h : Int} {want gap : Nat} {o : Ordering} (ho : FloatKind.f32.format.order (opnB wd gap t h) want = some o) : enoB wd t h want gap = (o != .lt) := by
  unfold enoB; rw [ho]; cases o <;> rfl

set_option maxRecDepth 100000 in
set_option maxHeartbeats 1000000 in
theorem specGapFor_found (n : Int) (wd gp : Nat) (t : Int) (sh : Nat) (bw : BlWf n wd gp t sh) (h : Int) (want : Nat) (hk : okBl n wd gp t sh = true) (hi : inI 1 64 h = true) (hp : partB want = true) (hw : (Lit.float .f32 want).wf = true) (he : enoB wd t h want 1115684864 = true) (w : World) :
    Calls Try.prog 47 #[.agg (blindC n wd gp t sh), .int .i64 h, .float .f32 want] w fun e w' => e = .returned (.tuple #[.float .f32 (gapR wd t h want).1, .int .i64 (gapR wd t h want).2]) ∧ Below w.heap.size w w' := by
  rw [gapR_yes he]
  obtain ⟨T0, T1⟩ := blwf_t bw
  obtain ⟨N0, N1⟩ := blwf_n bw
  obtain ⟨h0, h1⟩ := inI_get hi
  have OK := blok_of bw hk
  have WP := part_get hw hp
  have HO := Lib.hid (fun m (hm : InLen m) W hg => l02Open_any n wd m t sh (blok_gap n wd gp t sh OK hm) h h0 h1 w.heap.size 28 (0, 0) W hg)
  have HR : Hid (∀ m, ∃ o, FloatKind.f32.format.order (opnB wd m t h) want = some o) := fun m => opn_order wd m t h WP
  obtain ⟨o, ho⟩ := HR.out 1115684864
  have hE := he.symm.trans (enoB_lt ho)
  have Hc : Hid (codeC (okBl n wd gp t sh) true = 0) := by rw [hk]; rfl
  have Hi := Lib.hid hi
  have Hp := Lib.hid hp
  clear OK WP h0 h1 hk hi hp bw hw he
  cases o
  · cases hE
  · clear hE
    go_enter Try.func47, Try.ntmps47
    go_upto_region 1 with (fail)
    refine abs_world (fun W => Below w.heap.size w W ∧ W.heap[w.heap.size]? = some (.cells (blindC n wd gp t sh) 28 (0, 0))) ⟨(Below.refl _ _).alloc (Nat.le_refl _) _, heap_alloc_new _ _⟩ ?_
    rintro W ⟨hb, d0⟩
    have D0 := Lib.hid d0
    obtain ⟨k0, k1, k2, k3, k4⟩ := blind_cells d0
    have kf := frozen_of_row W w.heap.size 2 _ _ d0
    clear d0
    go_upto_region 7 with (first | (go_at_call 59; refine (l02Up_is h true Hi.out _).mono ?_; rintro e w' ⟨rfl, rfl⟩) | (go_at_call 72; refine (l01Part_is want true Hp.out _).mono ?_; rintro e w' ⟨rfl, rfl⟩) | (go_at_call 58; refine (l02Asked_is n wd gp t sh T0 T1 N0 N1 w.heap.size _ _ true 0 Hc.out _ D0.out).mono ?_; rintro e w' ⟨rfl, rfl⟩))
    refine abs_world (fun W => Below w.heap.size w W ∧ W.heap[w.heap.size]? = some (.cells (blindC n wd 1115684864 t sh) 28 (0, 0))) ⟨hb.setCell (p := ⟨w.heap.size, 2, none⟩) (Nat.le_refl _) _, by rw [heap_setCell_same _ _ _ _ _ _ D0.out]; rfl⟩ ?_
    clear hb D0 k0 k1 k2 k3 k4 kf
    rintro W ⟨hb, d0⟩
    have D0 := Lib.hid d0
    clear d0
    go_wp2_with (go_at_call 63; refine (HO.out 1115684864 ⟨by decide, by decide⟩ _ D0.out).mono ?_; rintro e W1 ⟨rfl, hb1⟩)
    go_loopw [9, 10, 11] (fun l u i wr => ∃ k g : Nat, k ≤ 30 ∧ i = .int .i64 k ∧ l = .float .f32 (halfs (enoB wd t h want) k).1 ∧ u = .float .f32 (halfs (enoB wd t h want) k).2 ∧ Below w.heap.size w wr ∧ wr.heap[w.heap.size]? = some (.cells (blindC n wd g t sh) 28 (0, 0))) (fun _ _ i _ => 30 - (intOf i).toNat)
    case atStart => exact ⟨0, 1115684864, by decide, rfl, rfl, rfl, hb.trans (hb1.mono hb.size), below_row hb1 D0.out⟩
    case round =>
      clear hb D0 hb1 ho
      obtain ⟨k, g, hk, rfl, rfl, rfl, hb, d0⟩ := hrel
      by_cases hlt : k < 30
      · obtain ⟨i1, i2⟩ := halfs_in (enoB wd t h want) k
        generalize hbs : halfs (enoB wd t h want) k = bs at *
        obtain ⟨l, u⟩ := bs
        obtain ⟨f1, f2, f3⟩ := mid_facts i1 i2
        dsimp only at f1 f2 f3 i1 i2 ⊢
        have r1 : ∀ T w, (binOp .add T (.float .f32 l) (.float .f32 u)).run Try.prog w = .ok (.float .f32 (fadd l u)) w := fun T w => run_float_arith w .add T .f32 _ _ _ f1
        have r2 : ∀ T w, (binOp .quo T (.float .f32 (fadd l u)) (.float .f32 1073741824)).run Try.prog w = .ok (.float .f32 (midB l u)) w := fun T w => run_float_arith w .quo T .f32 _ _ _ f2
        have HM := Lib.hid (HO.out _ f3)
        obtain ⟨o2, ho2⟩ := HR.out (midB l u)
        have hE2 := enoB_lt ho2
        have HY : Hid (enoB wd t h want (midB l u) = true → halfs (enoB wd t h want) (k + 1) = (l, midB l u)) := fun hm => halfs_yes hbs hm
        have HN : Hid (enoB wd t h want (midB l u) = false → halfs (enoB wd t h want) (k + 1) = (midB l u, u)) := fun hm => halfs_no hbs hm
        have D0 := Lib.hid d0
        obtain ⟨k0, k1, k2, k3, k4⟩ := blind_cells d0
        have kf := frozen_of_row wr w.heap.size 2 _ _ d0
        clear f1 f2 f3 i1 i2 hbs d0 HO HR
        generalize fadd l u = x1 at *
        generalize midB l u = mm at *
        cases o2
        · have HE := Lib.hid (HN.out (hE2.trans rfl))
          clear hE2 HY HN
          go_upto_region 14 with (fail)
          refine abs_world (fun W => Below w.heap.size w W ∧ W.heap[w.heap.size]? = some (.cells (blindC n wd mm t sh) 28 (0, 0))) ⟨hb.setCell (p := ⟨w.heap.size, 2, none⟩) (Nat.le_refl _) _, by rw [heap_setCell_same _ _ _ _ _ _ D0.out]; rfl⟩ ?_
          clear hb D0 k0 k1 k2 k3 k4 kf
          rintro W ⟨hb, d0⟩
          have D0 := Lib.hid d0
          clear d0
          go_wp2_with (go_at_call 63; refine (HM.out _ D0.out).mono ?_; rintro e W1 ⟨rfl, hb1⟩)
          go_roundw
          case rel => exact ⟨k + 1, mm, by omega, by go_num, by rw [HE.out], by rw [HE.out], hb.trans (hb1.mono hb.size), below_row hb1 D0.out⟩
          case measure => simp [intOf]; omega
        · have HE := Lib.hid (HY.out (hE2.trans rfl))
          clear hE2 HY HN
          go_upto_region 14 with (fail)
          refine abs_world (fun W => Below w.heap.size w W ∧ W.heap[w.heap.size]? = some (.cells (blindC n wd mm t sh) 28 (0, 0))) ⟨hb.setCell (p := ⟨w.heap.size, 2, none⟩) (Nat.le_refl _) _, by rw [heap_setCell_same _ _ _ _ _ _ D0.out]; rfl⟩ ?_
          clear hb D0 k0 k1 k2 k3 k4 kf
          rintro W ⟨hb, d0⟩
          have D0 := Lib.hid d0
          clear d0
          go_wp2_with (go_at_call 63; refine (HM.out _ D0.out).mono ?_; rintro e W1 ⟨rfl, hb1⟩)
          go_roundw
          case rel => exact ⟨k + 1, mm, by omega, by go_num, by rw [HE.out], by rw [HE.out], hb.trans (hb1.mono hb.size), below_row hb1 D0.out⟩
          case measure => simp [intOf]; omega
        · have HE := Lib.hid (HY.out (hE2.trans rfl))
          clear hE2 HY HN
          go_upto_region 14 with (fail)
          refine abs_world (fun W => Below w.heap.size w W ∧ W.heap[w.heap.size]? = some (.cells (blindC n wd mm t sh) 28 (0, 0))) ⟨hb.setCell (p := ⟨w.heap.size, 2, none⟩) (Nat.le_refl _) _, by rw [heap_setCell_same _ _ _ _ _ _ D0.out]; rfl⟩ ?_
          clear hb D0 k0 k1 k2 k3 k4 kf
          rintro W ⟨hb, d0⟩
          have D0 := Lib.hid d0
          clear d0
          go_wp2_with (go_at_call 63; refine (HM.out _ D0.out).mono ?_; rintro e W1 ⟨rfl, hb1⟩)
          go_roundw
          case rel => exact ⟨k + 1, mm, by omega, by go_num, by rw [HE.out], by rw [HE.out], hb.trans (hb1.mono hb.size), below_row hb1 D0.out⟩
          case measure => simp [intOf]; omega
      · obtain rfl : k = 30 := by omega
        clear d0 hlt hk
        go_wp2
        go_ret2
        exact ⟨rfl, hb⟩
  · clear hE
    go_enter Try.func47, Try.ntmps47
    go_upto_region 1 with (fail)
    refine abs_world (fun W => Below w.heap.size w W ∧ W.heap[w.heap.size]? = some (.cells (blindC n wd gp t sh) 28 (0, 0))) ⟨(Below.refl _ _).alloc (Nat.le_refl _) _, heap_alloc_new _ _⟩ ?_
    rintro W ⟨hb, d0⟩
    have D0 := Lib.hid d0
    obtain ⟨k0, k1, k2, k3, k4⟩ := blind_cells d0
    have kf := frozen_of_row W w.heap.size 2 _ _ d0
    clear d0
    go_upto_region 7 with (first | (go_at_call 59; refine (l02Up_is h true Hi.out _).mono ?_; rintro e w' ⟨rfl, rfl⟩) | (go_at_call 72; refine (l01Part_is want true Hp.out _).mono ?_; rintro e w' ⟨rfl, rfl⟩) | (go_at_call 58; refine (l02Asked_is n wd gp t sh T0 T1 N0 N1 w.heap.size _ _ true 0 Hc.out _ D0.out).mono ?_; rintro e w' ⟨rfl, rfl⟩))
    refine abs_world (fun W => Below w.heap.size w W ∧ W.heap[w.heap.size]? = some (.cells (blindC n wd 1115684864 t sh) 28 (0, 0))) ⟨hb.setCell (p := ⟨w.heap.size, 2, none⟩) (Nat.le_refl _) _, by rw [heap_setCell_same _ _ _ _ _ _ D0.out]; rfl⟩ ?_
    clear hb D0 k0 k1 k2 k3 k4 kf
    rintro W ⟨hb, d0⟩
    have D0 := Lib.hid d0
    clear d0
    go_wp2_with (go_at_call 63; refine (HO.out 1115684864 ⟨by decide, by decide⟩ _ D0.out).mono ?_; rintro e W1 ⟨rfl, hb1⟩)
    go_loopw [9, 10, 11] (fun l u i wr => ∃ k g : Nat, k ≤ 30 ∧ i = .int .i64 k ∧ l = .float .f32 (halfs (enoB wd t h want) k).1 ∧ u = .float .f32 (halfs (enoB wd t h want) k).2 ∧ Below w.heap.size w wr ∧ wr.heap[w.heap.size]? = some (.cells (blindC n wd g t sh) 28 (0, 0))) (fun _ _ i _ => 30 - (intOf i).toNat)
    case atStart => exact ⟨0, 1115684864, by decide, rfl, rfl, rfl, hb.trans (hb1.mono hb.size), below_row hb1 D0.out⟩
    case round =>
      clear hb D0 hb1 ho
      obtain ⟨k, g, hk, rfl, rfl, rfl, hb, d0⟩ := hrel
      by_cases hlt : k < 30
      · obtain ⟨i1, i2⟩ := halfs_in (enoB wd t h want) k
        generalize hbs : halfs (enoB wd t h want) k = bs at *
        obtain ⟨l, u⟩ := bs
        obtain ⟨f1, f2, f3⟩ := mid_facts i1 i2
        dsimp only at f1 f2 f3 i1 i2 ⊢
        have r1 : ∀ T w, (binOp .add T (.float .f32 l) (.float .f32 u)).run Try.prog w = .ok (.float .f32 (fadd l u)) w := fun T w => run_float_arith w .add T .f32 _ _ _ f1
        have r2 : ∀ T w, (binOp .quo T (.float .f32 (fadd l u)) (.float .f32 1073741824)).run Try.prog w = .ok (.float .f32 (midB l u)) w := fun T w => run_float_arith w .quo T .f32 _ _ _ f2
        have HM := Lib.hid (HO.out _ f3)
        obtain ⟨o2, ho2⟩ := HR.out (midB l u)
        have hE2 := enoB_lt ho2
        have HY : Hid (enoB wd t h want (midB l u) = true → halfs (enoB wd t h want) (k + 1) = (l, midB l u)) := fun hm => halfs_yes hbs hm
        have HN : Hid (enoB wd t h want (midB l u) = false → halfs (enoB wd t h want) (k + 1) = (midB l u, u)) := fun hm => halfs_no hbs hm
        have D0 := Lib.hid d0
        obtain ⟨k0, k1, k2, k3, k4⟩ := blind_cells d0
        have kf := frozen_of_row wr w.heap.size 2 _ _ d0
        clear f1 f2 f3 i1 i2 hbs d0 HO HR
        generalize fadd l u = x1 at *
        generalize midB l u = mm at *
        cases o2
        · have HE := Lib.hid (HN.out (hE2.trans rfl))
          clear hE2 HY HN
          go_upto_region 14 with (fail)
          refine abs_world (fun W => Below w.heap.size w W ∧ W.heap[w.heap.size]? = some (.cells (blindC n wd mm t sh) 28 (0, 0))) ⟨hb.setCell (p := ⟨w.heap.size, 2, none⟩) (Nat.le_refl _) _, by rw [heap_setCell_same _ _ _ _ _ _ D0.out]; rfl⟩ ?_
          clear hb D0 k0 k1 k2 k3 k4 kf
          rintro W ⟨hb, d0⟩
          have D0 := Lib.hid d0
          clear d0
          go_wp2_with (go_at_call 63; refine (HM.out _ D0.out).mono ?_; rintro e W1 ⟨rfl, hb1⟩)
          go_roundw
          case rel => exact ⟨k + 1, mm, by omega, by go_num, by rw [HE.out], by rw [HE.out], hb.trans (hb1.mono hb.size), below_row hb1 D0.out⟩
          case measure => simp [intOf]; omega
        · have HE := Lib.hid (HY.out (hE2.trans rfl))
          clear hE2 HY HN
          go_upto_region 14 with (fail)
          refine abs_world (fun W => Below w.heap.size w W ∧ W.heap[w.heap.size]? = some (.cells (blindC n wd mm t sh) 28 (0, 0))) ⟨hb.setCell (p := ⟨w.heap.size, 2, none⟩) (Nat.le_refl _) _, by rw [heap_setCell_same _ _ _ _ _ _ D0.out]; rfl⟩ ?_
          clear hb D0 k0 k1 k2 k3 k4 kf
          rintro W ⟨hb, d0⟩
          have D0 := Lib.hid d0
          clear d0
          go_wp2_with (go_at_call 63; refine (HM.out _ D0.out).mono ?_; rintro e W1 ⟨rfl, hb1⟩)
          go_roundw
          case rel => exact ⟨k + 1, mm, by omega, by go_num, by rw [HE.out], by rw [HE.out], hb.trans (hb1.mono hb.size), below_row hb1 D0.out⟩
          case measure => simp [intOf]; omega
        · have HE := Lib.hid (HY.out (hE2.trans rfl))
          clear hE2 HY HN
          go_upto_region 14 with (fail)
          refine abs_world (fun W => Below w.heap.size w W ∧ W.heap[w.heap.size]? = some (.cells (blindC n wd mm t sh) 28 (0, 0))) ⟨hb.setCell (p := ⟨w.heap.size, 2, none⟩) (Nat.le_refl _) _, by rw [heap_setCell_same _ _ _ _ _ _ D0.out]; rfl⟩ ?_
          clear hb D0 k0 k1 k2 k3 k4 kf
          rintro W ⟨hb, d0⟩
          have D0 := Lib.hid d0
          clear d0
          go_wp2_with (go_at_call 63; refine (HM.out _ D0.out).mono ?_; rintro e W1 ⟨rfl, hb1⟩)
          go_roundw
          case rel => exact ⟨k + 1, mm, by omega, by go_num, by rw [HE.out], by rw [HE.out], hb.trans (hb1.mono hb.size), below_row hb1 D0.out⟩
          case measure => simp [intOf]; omega
      · obtain rfl : k = 30 := by omega
        clear d0 hlt hk
        go_wp2
        go_ret2
        exact ⟨rfl, hb⟩

set_option maxRecDepth 100000 in
set_option maxHeartbeats 1000000 in
theorem specGapFor_none (n : Int) (wd gp : Nat) (t : Int) (sh : Nat) (bw : BlWf n wd gp t sh) (h : Int) (want : Nat) (hk : okBl n wd gp t sh = true) (hi : inI 1 64 h = true) (hp : partB want = true) (hw : (Lit.float .f32 want).wf = true) (he : enoB wd t h want 1115684864 = false) (w : World) :
    Calls Try.prog 47 #[.agg (blindC n wd gp t sh), .int .i64 h, .float .f32 want] w fun e w' => e = .returned (.tuple #[.float .f32 (gapR wd t h want).1, .int .i64 (gapR wd t h want).2]) ∧ Below w.heap.size w w' := by
  rw [gapR_no he]
  obtain ⟨T0, T1⟩ := blwf_t bw
  obtain ⟨N0, N1⟩ := blwf_n bw
  obtain ⟨h0, h1⟩ := inI_get hi
  have OK := blok_of bw hk
  have WP := part_get hw hp
  have HO := Lib.hid (fun m (hm : InLen m) W hg => l02Open_any n wd m t sh (blok_gap n wd gp t sh OK hm) h h0 h1 w.heap.size 28 (0, 0) W hg)
  have HR : Hid (∀ m, ∃ o, FloatKind.f32.format.order (opnB wd m t h) want = some o) := fun m => opn_order wd m t h WP
  obtain ⟨o, ho⟩ := HR.out 1115684864
  have hE := he.symm.trans (enoB_lt ho)
  have Hc : Hid (codeC (okBl n wd gp t sh) true = 0) := by rw [hk]; rfl
  have Hi := Lib.hid hi
  have Hp := Lib.hid hp
  clear OK WP h0 h1 hk hi hp bw hw he
  obtain rfl : o = .lt := by cases o <;> first | rfl | (cases hE)
  clear hE
  go_enter Try.func47, Try.ntmps47
  go_upto_region 1 with (fail)
  refine abs_world (fun W => Below w.heap.size w W ∧ W.heap[w.heap.size]? = some (.cells (blindC n wd gp t sh) 28 (0, 0))) ⟨(Below.refl _ _).alloc (Nat.le_refl _) _, heap_alloc_new _ _⟩ ?_
  rintro W ⟨hb, d0⟩
  have D0 := Lib.hid d0
  obtain ⟨k0, k1, k2, k3, k4⟩ := blind_cells d0
  have kf := frozen_of_row W w.heap.size 2 _ _ d0
  clear d0
  go_upto_region 7 with (first | (go_at_call 59; refine (l02Up_is h true Hi.out _).mono ?_; rintro e w' ⟨rfl, rfl⟩) | (go_at_call 72; refine (l01Part_is want true Hp.out _).mono ?_; rintro e w' ⟨rfl, rfl⟩) | (go_at_call 58; refine (l02Asked_is n wd gp t sh T0 T1 N0 N1 w.heap.size _ _ true 0 Hc.out _ D0.out).mono ?_; rintro e w' ⟨rfl, rfl⟩))
  refine abs_world (fun W => Below w.heap.size w W ∧ W.heap[w.heap.size]? = some (.cells (blindC n wd 1115684864 t sh) 28 (0, 0))) ⟨hb.setCell (p := ⟨w.heap.size, 2, none⟩) (Nat.le_refl _) _, by rw [heap_setCell_same _ _ _ _ _ _ D0.out]; rfl⟩ ?_
  clear hb D0 k0 k1 k2 k3 k4 kf
  rintro W ⟨hb, d0⟩
  have D0 := Lib.hid d0
  clear d0
  go_wp2_with (go_at_call 63; refine (HO.out 1115684864 ⟨by decide, by decide⟩ _ D0.out).mono ?_; rintro e W1 ⟨rfl, hb1⟩)
  go_ret2
  exact ⟨rfl, hb.trans (hb1.mono hb.size)⟩

set_option maxRecDepth 100000 in
set_option maxHeartbeats 1000000 in
theorem FnExactGapFor_core (n : Int) (wd gp : Nat) (t : Int) (sh : Nat) (h : Int) (want : Nat) (v0 : Nat) (v1 : Int) (hv0 : fin32 v0 = true) 
    (hspec : ∀ w, Calls Try.prog 47 #[.agg (blindC n wd gp t sh), .int .i64 h, .float .f32 want] w fun e w' => e = .returned (.tuple #[.float .f32 v0, .int .i64 v1]) ∧ Below w.heap.size w w')
    (himpl : ∀ w, Calls Try.prog 48 #[.agg (blindC n wd gp t sh), .int .i64 h, .float .f32 want] w fun e w' => e = .returned (.tuple #[.float .f32 v0, .int .i64 v1]) ∧ Below w.heap.size w w') (w : World) :
    Calls Try.prog 14 #[.agg (blindC n wd gp t sh), .int .i64 h, .float .f32 want] w fun e w' => e = .returned (.bool true) ∧ Below w.heap.size w w' := by
  have HS := Lib.hid hspec
  have HI := Lib.hid himpl
  clear hspec himpl
  have hw0 := run_wide _ hv0
  have Hv0 := Lib.hid hv0
  clear hv0
  go_enter Try.func14, Try.ntmps14
  go_upto_region 1 with (fail)
  refine abs_world (fun W => Below w.heap.size w W ∧ W.heap[w.heap.size]? = some (.cells (blindC n wd gp t sh) 26 (0, 0))) ⟨(Below.refl _ _).alloc (Nat.le_refl _) _, heap_alloc_new _ _⟩ ?_
  rintro W ⟨hb, h0⟩
  have H0 := Lib.hid h0
  clear h0
  go_wp2_with (first | (refine wpList_load_part rfl 26 _ rfl w.heap.size 0 5 rfl 26 (blindC n wd gp t sh) (0, 0) _ H0.out Try.underlying26 rfl info_blindL (blind_fits _ _ _ _ _) _ (blind_all _ _ _ _ _) ?_) | (go_at_call 16; refine (toBlind_any _ _ _ _ _ _).mono ?_; rintro e W1 ⟨rfl, hb1⟩; replace H0 := Lib.hid (below_row hb1 H0.out); replace hb := hb.trans (hb1.mono hb.size); clear hb1) | (go_at_call 47; refine (HS.out _).mono ?_; rintro e W1 ⟨rfl, hb1⟩; replace H0 := Lib.hid (below_row hb1 H0.out); replace hb := hb.trans (hb1.mono hb.size); clear hb1) | (go_at_call 48; refine (HI.out _).mono ?_; rintro e W1 ⟨rfl, hb1⟩; replace H0 := Lib.hid (below_row hb1 H0.out); replace hb := hb.trans (hb1.mono hb.size); clear hb1) | (go_at_call 25; refine (same_wide _ Hv0.out _).mono ?_; rintro e w1 ⟨rfl, rfl⟩))
  go_ret
  exact ⟨rfl, hb⟩

theorem lawGapFor_walk (n : Int) (wd gp : Nat) (t : Int) (sh : Nat) (bw : BlWf n wd gp t sh) (h : Int) (want : Nat) (hw : (Lit.float .f32 want).wf = true) (w : World) :
    Calls Try.prog 14 #[.agg (blindC n wd gp t sh), .int .i64 h, .float .f32 want] w fun e w' => e = .returned (.bool true) ∧ Below w.heap.size w w' := by
  by_cases hk : okBl n wd gp t sh = true ∧ fineG h want = true
  · obtain ⟨hi, hp⟩ : inI 1 64 h = true ∧ partB want = true := by simpa [fineG] using hk.2
    cases he : enoB wd t h want 1115684864 with
    | true => exact FnExactGapFor_core n wd gp t sh h want _ _ (gapR_fin wd t h want) (fun w => specGapFor_found n wd gp t sh bw h want hk.1 hi hp hw he w) (fun w => implGapFor_found n wd gp t sh bw h want hk.1 hi hp he w) w
    | false => exact FnExactGapFor_core n wd gp t sh h want _ _ (gapR_fin wd t h want) (fun w => specGapFor_none n wd gp t sh bw h want hk.1 hi hp hw he w) (fun w => implGapFor_none n wd gp t sh bw h want hk.1 hi hp he w) w
  · exact FnExactGapFor_core n wd gp t sh h want _ _ zero_fin (fun w => specGapFor_no n wd gp t sh bw h want hk w) (fun w => implGapFor_no n wd gp t sh bw h want hk w) w

set_option maxRecDepth 100000 in
theorem FnExactGapFor_holds : Rows.FnExactGapForSaid :=
  OpenClaim.holds_of_wide 14 Try.f14 rfl rfl rfl rfl rfl rfl rfl ⟨rfl, rfl, rfl, rfl, rfl⟩ rfl rfl rfl rfl rfl (by kernel_rfl) Try.func14 (by kernel_rfl)
    (of_decide_eq_true (by kernel_rfl)) (by unfold Func.isWrapper; first | (rw [if_pos (by decide +kernel)]; kernel_rfl) | (rw [if_neg (by decide +kernel)]; exact ⟨rfl, rfl⟩))
    (fun os started H enc _ => law_lifted 14 Try.f14 Rows.fnExactGapForSpec Rows.fnExactGapForRow.domain os started H enc (by kernel_rfl) Try.func14 rfl rfl
      (by rw [Try.params14]; intro t ht; simp only [List.mem_cons, List.not_mem_nil, or_false] at ht; rcases ht with rfl | rfl | rfl <;> exact ⟨by kernel_rfl, of_decide_eq_true (by kernel_rfl)⟩)
      (fun ds hl => by
        match ds, hl with
        | [d0, d1, d2], _ => rfl)
      (ChangeSpec.witness6 (enc := enc) (C := Try.checked) false ⟨#[], #[.agg #[.int .i8 0, .float .f32 0, .float .f32 0, .int .i16 0, .float .f32 0], .int .i64 0, .float .f32 0], []⟩ 8 (by kernel_rfl) (by kernel_rfl) (by kernel_rfl) (by kernel_rfl))
      (fun W base args ds p hval hA => by
        rw [Try.params14] at hA hval
        obtain ⟨v0, vs0, d0, ds0, p0, q0, hargs, rfl, rfl, h0, r0⟩ := trodAll_cons hA
        obtain ⟨v1, vs1, d1, ds1, p1, q1, rfl, rfl, rfl, h1, r1⟩ := trodAll_cons r0
        obtain ⟨v2, vs2, d2, ds2, p2, q2, rfl, rfl, rfl, h2, r2⟩ := trodAll_cons r1
        obtain ⟨rfl, rfl, rfl⟩ := trodAll_nil r2
        obtain rfl : args = #[v0, v1, v2] := by cases args; simp_all
        obtain ⟨n0, wd0, gp0, t0, sh0, bw0, rfl⟩ := open_blind (hval 0 26 v0 rfl rfl) h0
        obtain ⟨a1, rfl, rfl, rfl, w1⟩ := open_int Try.underlying2 (hval 1 2 v1 rfl rfl) h1
        obtain ⟨a2, rfl, rfl, rfl, w2⟩ := open_float Try.underlying23 (hval 2 23 v2 rfl rfl) h2
        exact lawGapFor_walk n0 wd0 gp0 t0 sh0 bw0 a1 a2 w2 W))
#print axioms FnExactGapFor_holds

end Go.Proofs.Yteagbfobnjfhcaa
