/-
  For every blind, valid or not, every height and all bounds: the tilts with which what passes is within them are what the model says, in memory of their own. No conditions.
-/
import Derived.Test.YtdccmdcgbembpaaWithin
import Derived.Test.YtdccmdcgbembpaaListLaw
import Derived.Test.YtdccmdcgbembpaaLaw
namespace Go.Proofs.Ytdccmdcgbembpaa
open Go.ChangeShapes Go.WideShapes Go.ChangeAt Go.RowKit

attribute [local go_sem] run_store_f

/-- What is asked besides the blind. -/
def fineW (h : Int) (lo hi : Nat) : Bool := inI 1 64 h && partB lo && partB hi
theorem isPart_w (x : Nat) (fine : Bool) (hx : partB x = fine) (w : World) : Calls Try.prog 28 #[.float .f32 x] w fun e w' => e = .returned (.bool fine) ∧ w = w' := by
  rw [← hx]; exact isPart_any x w
theorem l01Part_w (x : Nat) (w : World) : Calls Try.prog 35 #[.float .f32 x] w fun e w' => e = .returned (.bool (partB x)) ∧ w = w' := l01Part_any x w

set_option maxRecDepth 100000 in
set_option maxHeartbeats 1000000 in
theorem implWithin_yes (n : Int) (wd gp : Nat) (t : Int) (sh : Nat) (bw : BlWf n wd gp t sh) (h : Int) (lo hi : Nat) (hk : okBl n wd gp t sh = true) (hh : inI 1 64 h = true) (hp : partB lo = true) (hq : partB hi = true) (w : World) :
    Calls Try.prog 12 #[.agg (blindC n wd gp t sh), .int .i64 h, .float .f32 lo, .float .f32 hi] w (RetList (wantT (inBW wd gp sh h lo hi) (tls 129)) 0 w) := by
  obtain ⟨T0, T1⟩ := blwf_t bw
  obtain ⟨h0, h1⟩ := inI_get hh
  have OK := blok_of bw hk
  have HW := Lib.hid (fun (g1 g2 g3 : Nat) (W : World) (c : W.heap[g1]? = some (.cells #[.int .i64 h] 2 (0, 0)) ∧ W.heap[g2]? = some (.cells #[.float .f32 lo] 25 (0, 0)) ∧ W.heap[g3]? = some (.cells #[.float .f32 hi] 25 (0, 0))) => tiltsWhere_any n wd gp t sh 42 (enters_of Try.func42 (by kernel_rfl) rfl) #[.pointer (some ⟨g1, 0, none⟩), .pointer (some ⟨g2, 0, none⟩), .pointer (some ⟨g3, 0, none⟩)] (inBW wd gp sh h lo hi) (fun V => V.heap[g1]? = some (.cells #[.int .i64 h] 2 (0, 0)) ∧ V.heap[g2]? = some (.cells #[.float .f32 lo] 25 (0, 0)) ∧ V.heap[g3]? = some (.cells #[.float .f32 hi] 25 (0, 0))) W (fun V hb => ⟨below_row hb c.1, below_row hb c.2.1, below_row hb c.2.2⟩) (fun x V x0 x1 c => within_call n wd gp x sh (blok_tilt _ _ _ _ _ OK x0 x1) h h0 h1 lo hi g1 g2 g3 V c))
  have Hc : Hid (codeC (okBl n wd gp t sh) true = 0) := by rw [hk]; rfl
  have Hi := Lib.hid hh
  have Hp := Lib.hid hp
  have Hq := Lib.hid hq
  clear OK h0 h1 hk hh hp hq bw
  go_enter Try.func12, Try.ntmps12
  go_upto_region 1 with (fail)
  refine abs_world (fun W => W.heap[w.heap.size]? = some (.cells (blindC n wd gp t sh) 28 (0, 0)) ∧ (W.heap[w.heap.size + 1]? = some (.cells #[.int .i64 h] 2 (0, 0)) ∧ W.heap[w.heap.size + 1 + 1]? = some (.cells #[.float .f32 lo] 25 (0, 0)) ∧ W.heap[w.heap.size + 1 + 1 + 1]? = some (.cells #[.float .f32 hi] 25 (0, 0))) ∧ Below w.heap.size w W) ⟨(four_new _ _ _ _ _).1, ⟨(four_new _ _ _ _ _).2.1, (four_new _ _ _ _ _).2.2.1, (four_new _ _ _ _ _).2.2.2.1⟩, (four_new _ _ _ _ _).2.2.2.2⟩ ?_
  rintro W ⟨d0, ⟨d1, d2, d3⟩, hb⟩
  generalize w.heap.size + 1 + 1 + 1 = g3 at *
  generalize w.heap.size + 1 + 1 = g2 at *
  generalize w.heap.size + 1 = g1 at *
  refine wp_region_held_drew (S := (fun W => W.heap[w.heap.size]? = some (.cells (blindC n wd gp t sh) 28 (0, 0)) ∧ W.heap[g1]? = some (.cells #[.int .i64 h] 2 (0, 0)) ∧ W.heap[g2]? = some (.cells #[.float .f32 lo] 25 (0, 0)) ∧ W.heap[g3]? = some (.cells #[.float .f32 hi] 25 (0, 0)) ∧ Below w.heap.size w W)) (by kernel_rfl) ⟨d0, d1, d2, d3, hb.drew⟩ (fun hHeld => ?_)
  refine take_op (i := 0) (d := 12) (v := .agg (blindC n wd gp t sh)) rfl rfl (by kernel_rfl) (by kernel_rfl) (by kernel_rfl) (fun _ _ _ h => h) (yields_row (by rfl) 28 (.tmp 4) (by rfl) w.heap.size 0 5 (by rfl) 28 (blindC n wd gp t sh) (0, 0) _ (fun _ h => h.1) Try.underlying28 rfl info_blind (blind_fits _ _ _ _ _) (blindC n wd gp t sh) (blind_all _ _ _ _ _)) hHeld ?_
  simp only [List.setIfInBounds_toArray, List.set_cons_zero, List.set_cons_succ]
  refine take_op (i := 1) (d := 13) (v := ?_) rfl rfl (by kernel_rfl) (by kernel_rfl) (by kernel_rfl) (fun _ _ _ h => h) (Or.inl ⟨by rfl, ?hy1u3⟩) hHeld ?rest1u3
  case hy1u3 =>
    intro w' hS'
    obtain ⟨s1, s2, s3, s4, s5⟩ := hS'
    have q1 : w'.cell? ⟨g1, 0, none⟩ = some (.int .i64 h) := by rw [cell_of_row w' _ _ _ _ _ s2]; rfl
    have q2 : w'.cell? ⟨g2, 0, none⟩ = some (.float .f32 lo) := by rw [cell_of_row w' _ _ _ _ _ s3]; rfl
    have q3 : w'.cell? ⟨g3, 0, none⟩ = some (.float .f32 hi) := by rw [cell_of_row w' _ _ _ _ _ s4]; rfl
    clear s1 s2 s3 s4 s5
    go_simp
    try with_reducible rfl
  simp only [List.setIfInBounds_toArray, List.set_cons_zero, List.set_cons_succ]
  refine wpAnyH_ready (rs := [2]) (by kernel_rfl) (by simp) ?_
  refine AllReadyH.cons rfl (fun K hK => ?_) AllReadyH.nil
  go_simp
  refine (isHeight_is h true Hi.out _).mono ?_
  rintro e w' ⟨rfl, rfl⟩
  refine hK.out _ _ (hHeld) (fun hHeld2 => ?_)
  clear hK K
  replace hHeld := hHeld2
  clear hHeld2
  refine take_op (i := 3) (d := 15) (v := ?_) rfl rfl (by kernel_rfl) (by kernel_rfl) (by kernel_rfl) (fun _ _ _ h => h) (Or.inl ⟨by rfl, ?hy3u4⟩) hHeld ?rest3u4
  case hy3u4 =>
    intro w' hS'
    go_simp
    try with_reducible rfl
  simp only [List.setIfInBounds_toArray, List.set_cons_zero, List.set_cons_succ]
  refine take_op (i := 4) (d := 16) (v := ?_) rfl rfl (by kernel_rfl) (by kernel_rfl) (by kernel_rfl) (fun _ _ _ h => h) (Or.inl ⟨by rfl, ?hy4u5⟩) hHeld ?rest4u5
  case hy4u5 =>
    intro w' hS'
    obtain ⟨s1, s2, s3, s4, s5⟩ := hS'
    have q1 : w'.cell? ⟨g1, 0, none⟩ = some (.int .i64 h) := by rw [cell_of_row w' _ _ _ _ _ s2]; rfl
    have q2 : w'.cell? ⟨g2, 0, none⟩ = some (.float .f32 lo) := by rw [cell_of_row w' _ _ _ _ _ s3]; rfl
    have q3 : w'.cell? ⟨g3, 0, none⟩ = some (.float .f32 hi) := by rw [cell_of_row w' _ _ _ _ _ s4]; rfl
    clear s1 s2 s3 s4 s5
    go_simp
    try with_reducible rfl
  simp only [List.setIfInBounds_toArray, List.set_cons_zero, List.set_cons_succ]
  refine wpAnyH_ready (rs := [5]) (by kernel_rfl) (by simp) ?_
  refine AllReadyH.cons rfl (fun K hK => ?_) AllReadyH.nil
  go_simp
  refine (isPart_w lo true Hp.out _).mono ?_
  rintro e w' ⟨rfl, rfl⟩
  refine hK.out _ _ (hHeld) (fun hHeld2 => ?_)
  clear hK K
  replace hHeld := hHeld2
  clear hHeld2
  refine take_op (i := 6) (d := 18) (v := ?_) rfl rfl (by kernel_rfl) (by kernel_rfl) (by kernel_rfl) (fun _ _ _ h => h) (Or.inl ⟨by rfl, ?hy6u6⟩) hHeld ?rest6u6
  case hy6u6 =>
    intro w' hS'
    go_simp
    try with_reducible rfl
  simp only [List.setIfInBounds_toArray, List.set_cons_zero, List.set_cons_succ]
  refine take_op (i := 7) (d := 19) (v := ?_) rfl rfl (by kernel_rfl) (by kernel_rfl) (by kernel_rfl) (fun _ _ _ h => h) (Or.inl ⟨by rfl, ?hy7u7⟩) hHeld ?rest7u7
  case hy7u7 =>
    intro w' hS'
    go_simp
    try with_reducible rfl
  simp only [List.setIfInBounds_toArray, List.set_cons_zero, List.set_cons_succ]
  refine take_op (i := 8) (d := 20) (v := ?_) rfl rfl (by kernel_rfl) (by kernel_rfl) (by kernel_rfl) (fun _ _ _ h => h) (Or.inl ⟨by rfl, ?hy8u8⟩) hHeld ?rest8u8
  case hy8u8 =>
    intro w' hS'
    obtain ⟨s1, s2, s3, s4, s5⟩ := hS'
    have q1 : w'.cell? ⟨g1, 0, none⟩ = some (.int .i64 h) := by rw [cell_of_row w' _ _ _ _ _ s2]; rfl
    have q2 : w'.cell? ⟨g2, 0, none⟩ = some (.float .f32 lo) := by rw [cell_of_row w' _ _ _ _ _ s3]; rfl
    have q3 : w'.cell? ⟨g3, 0, none⟩ = some (.float .f32 hi) := by rw [cell_of_row w' _ _ _ _ _ s4]; rfl
    clear s1 s2 s3 s4 s5
    go_simp
    try with_reducible rfl
  simp only [List.setIfInBounds_toArray, List.set_cons_zero, List.set_cons_succ]
  refine wpAnyH_ready (rs := [9]) (by kernel_rfl) (by simp) ?_
  refine AllReadyH.cons rfl (fun K hK => ?_) AllReadyH.nil
  go_simp
  refine (isPart_w hi true Hq.out _).mono ?_
  rintro e w' ⟨rfl, rfl⟩
  refine hK.out _ _ (hHeld) (fun hHeld2 => ?_)
  clear hK K
  replace hHeld := hHeld2
  clear hHeld2
  refine take_op (i := 10) (d := 22) (v := ?_) rfl rfl (by kernel_rfl) (by kernel_rfl) (by kernel_rfl) (fun _ _ _ h => h) (Or.inl ⟨by rfl, ?hy10u9⟩) hHeld ?rest10u9
  case hy10u9 =>
    intro w' hS'
    go_simp
    try with_reducible rfl
  simp only [List.setIfInBounds_toArray, List.set_cons_zero, List.set_cons_succ]
  refine wpAnyH_ready (rs := [11]) (by kernel_rfl) (by simp) ?_
  refine AllReadyH.cons rfl (fun K hK => ?_) AllReadyH.nil
  go_simp
  refine (checkBlind_is n wd gp t sh T0 T1 true 0 Hc.out _).mono ?_
  rintro e W1 ⟨rfl, hb1⟩
  refine hK.out _ _ (⟨below_row hb1 hHeld.1, below_row hb1 hHeld.2.1, below_row hb1 hHeld.2.2.1, below_row hb1 hHeld.2.2.2.1, hHeld.2.2.2.2.trans (hb1.mono hHeld.2.2.2.2.size)⟩) (fun hHeld2 => ?_)
  clear hK K
  replace hHeld := hHeld2
  clear hHeld2
  refine take_op (i := 12) (d := 10) (v := ?_) rfl rfl (by kernel_rfl) (by kernel_rfl) (by kernel_rfl) (fun _ _ _ h => h) (Or.inl ⟨by rfl, ?hy12u10⟩) hHeld ?rest12u10
  case hy12u10 =>
    intro w' hS'
    go_simp
    try with_reducible rfl
  simp only [List.setIfInBounds_toArray, List.set_cons_zero, List.set_cons_succ]
  refine wpAnyH_done (by kernel_rfl) ?_ _
  obtain ⟨c0, c1, c2, c3, hbx⟩ := hHeld
  have H0 := Lib.hid c0
  have CC := Lib.hid (And.intro c1 (And.intro c2 c3))
  clear c0 c1 c2 c3 d0 d1 d2 d3 hb
  go_wp2_with (first | (refine wpList_load_part rfl 28 _ rfl w.heap.size 0 5 rfl 28 (blindC n wd gp t sh) (0, 0) _ H0.out Try.underlying28 rfl info_blind (blind_fits _ _ _ _ _) _ (blind_all _ _ _ _ _) ?_) | (go_at_call 38; refine (HW.out g1 g2 g3 _ CC.out).mono ?_; rintro e W3 ⟨⟨v, rfl, hv⟩, hb3⟩))
  go_ret2
  exact ⟨⟨_, rfl, own_base hv hbx.size⟩, hbx.trans (hb3.mono hbx.size)⟩

set_option maxRecDepth 100000 in
set_option maxHeartbeats 1000000 in
theorem implWithin_no1 (n : Int) (wd gp : Nat) (t : Int) (sh : Nat) (bw : BlWf n wd gp t sh) (h : Int) (lo hi : Nat) (hh : inI 1 64 h = false) (hk : ¬ (okBl n wd gp t sh = true ∧ fineW h lo hi = true)) (w : World) :
    Calls Try.prog 12 #[.agg (blindC n wd gp t sh), .int .i64 h, .float .f32 lo, .float .f32 hi] w (RetList [] (codeC (okBl n wd gp t sh) (fineW h lo hi)) w) := by
  obtain ⟨T0, T1⟩ := blwf_t bw
  have e1 : fineW h lo hi = false := by unfold fineW; rw [hh]; rfl
  have hne := codeC_ne hk
  rw [e1] at hne ⊢
  generalize hc : codeC (okBl n wd gp t sh) false = c at *
  have Hc := Lib.hid hc
  have Hi := Lib.hid hh
  have hne' : (c != 0) = true := bne_iff_ne.2 hne
  clear hk hh hc hne e1 bw
  go_enter Try.func12, Try.ntmps12
  go_upto_region 1 with (fail)
  refine abs_world (fun W => W.heap[w.heap.size]? = some (.cells (blindC n wd gp t sh) 28 (0, 0)) ∧ (W.heap[w.heap.size + 1]? = some (.cells #[.int .i64 h] 2 (0, 0)) ∧ W.heap[w.heap.size + 1 + 1]? = some (.cells #[.float .f32 lo] 25 (0, 0)) ∧ W.heap[w.heap.size + 1 + 1 + 1]? = some (.cells #[.float .f32 hi] 25 (0, 0))) ∧ Below w.heap.size w W) ⟨(four_new _ _ _ _ _).1, ⟨(four_new _ _ _ _ _).2.1, (four_new _ _ _ _ _).2.2.1, (four_new _ _ _ _ _).2.2.2.1⟩, (four_new _ _ _ _ _).2.2.2.2⟩ ?_
  rintro W ⟨d0, ⟨d1, d2, d3⟩, hb⟩
  generalize w.heap.size + 1 + 1 + 1 = g3 at *
  generalize w.heap.size + 1 + 1 = g2 at *
  generalize w.heap.size + 1 = g1 at *
  refine wp_region_held_drew (S := (fun W => W.heap[w.heap.size]? = some (.cells (blindC n wd gp t sh) 28 (0, 0)) ∧ W.heap[g1]? = some (.cells #[.int .i64 h] 2 (0, 0)) ∧ W.heap[g2]? = some (.cells #[.float .f32 lo] 25 (0, 0)) ∧ W.heap[g3]? = some (.cells #[.float .f32 hi] 25 (0, 0)) ∧ Below w.heap.size w W)) (by kernel_rfl) ⟨d0, d1, d2, d3, hb.drew⟩ (fun hHeld => ?_)
  refine take_op (i := 0) (d := 12) (v := .agg (blindC n wd gp t sh)) rfl rfl (by kernel_rfl) (by kernel_rfl) (by kernel_rfl) (fun _ _ _ h => h) (yields_row (by rfl) 28 (.tmp 4) (by rfl) w.heap.size 0 5 (by rfl) 28 (blindC n wd gp t sh) (0, 0) _ (fun _ h => h.1) Try.underlying28 rfl info_blind (blind_fits _ _ _ _ _) (blindC n wd gp t sh) (blind_all _ _ _ _ _)) hHeld ?_
  simp only [List.setIfInBounds_toArray, List.set_cons_zero, List.set_cons_succ]
  refine take_op (i := 1) (d := 13) (v := ?_) rfl rfl (by kernel_rfl) (by kernel_rfl) (by kernel_rfl) (fun _ _ _ h => h) (Or.inl ⟨by rfl, ?hy1u11⟩) hHeld ?rest1u11
  case hy1u11 =>
    intro w' hS'
    obtain ⟨s1, s2, s3, s4, s5⟩ := hS'
    have q1 : w'.cell? ⟨g1, 0, none⟩ = some (.int .i64 h) := by rw [cell_of_row w' _ _ _ _ _ s2]; rfl
    have q2 : w'.cell? ⟨g2, 0, none⟩ = some (.float .f32 lo) := by rw [cell_of_row w' _ _ _ _ _ s3]; rfl
    have q3 : w'.cell? ⟨g3, 0, none⟩ = some (.float .f32 hi) := by rw [cell_of_row w' _ _ _ _ _ s4]; rfl
    clear s1 s2 s3 s4 s5
    go_simp
    try with_reducible rfl
  simp only [List.setIfInBounds_toArray, List.set_cons_zero, List.set_cons_succ]
  refine wpAnyH_ready (rs := [2]) (by kernel_rfl) (by simp) ?_
  refine AllReadyH.cons rfl (fun K hK => ?_) AllReadyH.nil
  go_simp
  refine (isHeight_is h false Hi.out _).mono ?_
  rintro e w' ⟨rfl, rfl⟩
  refine hK.out _ _ (hHeld) (fun hHeld2 => ?_)
  clear hK K
  replace hHeld := hHeld2
  clear hHeld2
  refine take_op (i := 3) (d := 15) (v := ?_) rfl rfl (by kernel_rfl) (by kernel_rfl) (by kernel_rfl) (fun _ _ _ h => h) (Or.inl ⟨by rfl, ?hy3u12⟩) hHeld ?rest3u12
  case hy3u12 =>
    intro w' hS'
    go_simp
    try with_reducible rfl
  simp only [List.setIfInBounds_toArray, List.set_cons_zero, List.set_cons_succ]
  refine take_op (i := 4) (d := 16) rfl rfl (by kernel_rfl) (by kernel_rfl) (by kernel_rfl) (fun _ _ _ h => h) (Or.inr ⟨by rfl, rfl⟩) hHeld ?_
  simp only [List.setIfInBounds_toArray, List.set_cons_zero, List.set_cons_succ]
  refine take_op (i := 5) (d := 17) rfl rfl (by kernel_rfl) (by kernel_rfl) (by kernel_rfl) (fun _ _ _ h => h) (Or.inr ⟨by rfl, rfl⟩) hHeld ?_
  simp only [List.setIfInBounds_toArray, List.set_cons_zero, List.set_cons_succ]
  refine take_op (i := 6) (d := 18) (v := ?_) rfl rfl (by kernel_rfl) (by kernel_rfl) (by kernel_rfl) (fun _ _ _ h => h) (Or.inl ⟨by rfl, ?hy6u13⟩) hHeld ?rest6u13
  case hy6u13 =>
    intro w' hS'
    go_simp
    try with_reducible rfl
  simp only [List.setIfInBounds_toArray, List.set_cons_zero, List.set_cons_succ]
  refine take_op (i := 7) (d := 19) (v := ?_) rfl rfl (by kernel_rfl) (by kernel_rfl) (by kernel_rfl) (fun _ _ _ h => h) (Or.inl ⟨by rfl, ?hy7u14⟩) hHeld ?rest7u14
  case hy7u14 =>
    intro w' hS'
    go_simp
    try with_reducible rfl
  simp only [List.setIfInBounds_toArray, List.set_cons_zero, List.set_cons_succ]
  refine take_op (i := 8) (d := 20) rfl rfl (by kernel_rfl) (by kernel_rfl) (by kernel_rfl) (fun _ _ _ h => h) (Or.inr ⟨by rfl, rfl⟩) hHeld ?_
  simp only [List.setIfInBounds_toArray, List.set_cons_zero, List.set_cons_succ]
  refine take_op (i := 9) (d := 21) rfl rfl (by kernel_rfl) (by kernel_rfl) (by kernel_rfl) (fun _ _ _ h => h) (Or.inr ⟨by rfl, rfl⟩) hHeld ?_
  simp only [List.setIfInBounds_toArray, List.set_cons_zero, List.set_cons_succ]
  refine take_op (i := 10) (d := 22) (v := ?_) rfl rfl (by kernel_rfl) (by kernel_rfl) (by kernel_rfl) (fun _ _ _ h => h) (Or.inl ⟨by rfl, ?hy10u15⟩) hHeld ?rest10u15
  case hy10u15 =>
    intro w' hS'
    go_simp
    try with_reducible rfl
  simp only [List.setIfInBounds_toArray, List.set_cons_zero, List.set_cons_succ]
  refine wpAnyH_ready (rs := [11]) (by kernel_rfl) (by simp) ?_
  refine AllReadyH.cons rfl (fun K hK => ?_) AllReadyH.nil
  go_simp
  refine (checkBlind_is n wd gp t sh T0 T1 false c Hc.out _).mono ?_
  rintro e W1 ⟨rfl, hb1⟩
  refine hK.out _ _ (⟨below_row hb1 hHeld.1, below_row hb1 hHeld.2.1, below_row hb1 hHeld.2.2.1, below_row hb1 hHeld.2.2.2.1, hHeld.2.2.2.2.trans (hb1.mono hHeld.2.2.2.2.size)⟩) (fun hHeld2 => ?_)
  clear hK K
  replace hHeld := hHeld2
  clear hHeld2
  refine take_op (i := 12) (d := 10) (v := ?_) rfl rfl (by kernel_rfl) (by kernel_rfl) (by kernel_rfl) (fun _ _ _ h => h) (Or.inl ⟨by rfl, ?hy12u16⟩) hHeld ?rest12u16
  case hy12u16 =>
    intro w' hS'
    go_simp
    try with_reducible rfl
  simp only [List.setIfInBounds_toArray, List.set_cons_zero, List.set_cons_succ]
  refine wpAnyH_done (by kernel_rfl) ?_ _
  have hbx := hHeld.2.2.2.2
  clear hHeld d0 d1 d2 d3 hb
  go_wp2
  go_ret2
  exact ⟨⟨_, rfl, own_nil⟩, hbx⟩

set_option maxRecDepth 100000 in
set_option maxHeartbeats 1000000 in
theorem implWithin_no2 (n : Int) (wd gp : Nat) (t : Int) (sh : Nat) (bw : BlWf n wd gp t sh) (h : Int) (lo hi : Nat) (hh : inI 1 64 h = true) (hp : partB lo = false) (hk : ¬ (okBl n wd gp t sh = true ∧ fineW h lo hi = true)) (w : World) :
    Calls Try.prog 12 #[.agg (blindC n wd gp t sh), .int .i64 h, .float .f32 lo, .float .f32 hi] w (RetList [] (codeC (okBl n wd gp t sh) (fineW h lo hi)) w) := by
  obtain ⟨T0, T1⟩ := blwf_t bw
  have e1 : fineW h lo hi = false := by unfold fineW; rw [hh, hp]; rfl
  have hne := codeC_ne hk
  rw [e1] at hne ⊢
  generalize hc : codeC (okBl n wd gp t sh) false = c at *
  have Hc := Lib.hid hc
  have Hi := Lib.hid hh
  have Hp := Lib.hid hp
  have hne' : (c != 0) = true := bne_iff_ne.2 hne
  clear hk hh hc hne e1 hp bw
  go_enter Try.func12, Try.ntmps12
  go_upto_region 1 with (fail)
  refine abs_world (fun W => W.heap[w.heap.size]? = some (.cells (blindC n wd gp t sh) 28 (0, 0)) ∧ (W.heap[w.heap.size + 1]? = some (.cells #[.int .i64 h] 2 (0, 0)) ∧ W.heap[w.heap.size + 1 + 1]? = some (.cells #[.float .f32 lo] 25 (0, 0)) ∧ W.heap[w.heap.size + 1 + 1 + 1]? = some (.cells #[.float .f32 hi] 25 (0, 0))) ∧ Below w.heap.size w W) ⟨(four_new _ _ _ _ _).1, ⟨(four_new _ _ _ _ _).2.1, (four_new _ _ _ _ _).2.2.1, (four_new _ _ _ _ _).2.2.2.1⟩, (four_new _ _ _ _ _).2.2.2.2⟩ ?_
  rintro W ⟨d0, ⟨d1, d2, d3⟩, hb⟩
  generalize w.heap.size + 1 + 1 + 1 = g3 at *
  generalize w.heap.size + 1 + 1 = g2 at *
  generalize w.heap.size + 1 = g1 at *
  refine wp_region_held_drew (S := (fun W => W.heap[w.heap.size]? = some (.cells (blindC n wd gp t sh) 28 (0, 0)) ∧ W.heap[g1]? = some (.cells #[.int .i64 h] 2 (0, 0)) ∧ W.heap[g2]? = some (.cells #[.float .f32 lo] 25 (0, 0)) ∧ W.heap[g3]? = some (.cells #[.float .f32 hi] 25 (0, 0)) ∧ Below w.heap.size w W)) (by kernel_rfl) ⟨d0, d1, d2, d3, hb.drew⟩ (fun hHeld => ?_)
  refine take_op (i := 0) (d := 12) (v := .agg (blindC n wd gp t sh)) rfl rfl (by kernel_rfl) (by kernel_rfl) (by kernel_rfl) (fun _ _ _ h => h) (yields_row (by rfl) 28 (.tmp 4) (by rfl) w.heap.size 0 5 (by rfl) 28 (blindC n wd gp t sh) (0, 0) _ (fun _ h => h.1) Try.underlying28 rfl info_blind (blind_fits _ _ _ _ _) (blindC n wd gp t sh) (blind_all _ _ _ _ _)) hHeld ?_
  simp only [List.setIfInBounds_toArray, List.set_cons_zero, List.set_cons_succ]
  refine take_op (i := 1) (d := 13) (v := ?_) rfl rfl (by kernel_rfl) (by kernel_rfl) (by kernel_rfl) (fun _ _ _ h => h) (Or.inl ⟨by rfl, ?hy1u17⟩) hHeld ?rest1u17
  case hy1u17 =>
    intro w' hS'
    obtain ⟨s1, s2, s3, s4, s5⟩ := hS'
    have q1 : w'.cell? ⟨g1, 0, none⟩ = some (.int .i64 h) := by rw [cell_of_row w' _ _ _ _ _ s2]; rfl
    have q2 : w'.cell? ⟨g2, 0, none⟩ = some (.float .f32 lo) := by rw [cell_of_row w' _ _ _ _ _ s3]; rfl
    have q3 : w'.cell? ⟨g3, 0, none⟩ = some (.float .f32 hi) := by rw [cell_of_row w' _ _ _ _ _ s4]; rfl
    clear s1 s2 s3 s4 s5
    go_simp
    try with_reducible rfl
  simp only [List.setIfInBounds_toArray, List.set_cons_zero, List.set_cons_succ]
  refine wpAnyH_ready (rs := [2]) (by kernel_rfl) (by simp) ?_
  refine AllReadyH.cons rfl (fun K hK => ?_) AllReadyH.nil
  go_simp
  refine (isHeight_is h true Hi.out _).mono ?_
  rintro e w' ⟨rfl, rfl⟩
  refine hK.out _ _ (hHeld) (fun hHeld2 => ?_)
  clear hK K
  replace hHeld := hHeld2
  clear hHeld2
  refine take_op (i := 3) (d := 15) (v := ?_) rfl rfl (by kernel_rfl) (by kernel_rfl) (by kernel_rfl) (fun _ _ _ h => h) (Or.inl ⟨by rfl, ?hy3u18⟩) hHeld ?rest3u18
  case hy3u18 =>
    intro w' hS'
    go_simp
    try with_reducible rfl
  simp only [List.setIfInBounds_toArray, List.set_cons_zero, List.set_cons_succ]
  refine take_op (i := 4) (d := 16) (v := ?_) rfl rfl (by kernel_rfl) (by kernel_rfl) (by kernel_rfl) (fun _ _ _ h => h) (Or.inl ⟨by rfl, ?hy4u19⟩) hHeld ?rest4u19
  case hy4u19 =>
    intro w' hS'
    obtain ⟨s1, s2, s3, s4, s5⟩ := hS'
    have q1 : w'.cell? ⟨g1, 0, none⟩ = some (.int .i64 h) := by rw [cell_of_row w' _ _ _ _ _ s2]; rfl
    have q2 : w'.cell? ⟨g2, 0, none⟩ = some (.float .f32 lo) := by rw [cell_of_row w' _ _ _ _ _ s3]; rfl
    have q3 : w'.cell? ⟨g3, 0, none⟩ = some (.float .f32 hi) := by rw [cell_of_row w' _ _ _ _ _ s4]; rfl
    clear s1 s2 s3 s4 s5
    go_simp
    try with_reducible rfl
  simp only [List.setIfInBounds_toArray, List.set_cons_zero, List.set_cons_succ]
  refine wpAnyH_ready (rs := [5]) (by kernel_rfl) (by simp) ?_
  refine AllReadyH.cons rfl (fun K hK => ?_) AllReadyH.nil
  go_simp
  refine (isPart_w lo false Hp.out _).mono ?_
  rintro e w' ⟨rfl, rfl⟩
  refine hK.out _ _ (hHeld) (fun hHeld2 => ?_)
  clear hK K
  replace hHeld := hHeld2
  clear hHeld2
  refine take_op (i := 6) (d := 18) (v := ?_) rfl rfl (by kernel_rfl) (by kernel_rfl) (by kernel_rfl) (fun _ _ _ h => h) (Or.inl ⟨by rfl, ?hy6u20⟩) hHeld ?rest6u20
  case hy6u20 =>
    intro w' hS'
    go_simp
    try with_reducible rfl
  simp only [List.setIfInBounds_toArray, List.set_cons_zero, List.set_cons_succ]
  refine take_op (i := 7) (d := 19) (v := ?_) rfl rfl (by kernel_rfl) (by kernel_rfl) (by kernel_rfl) (fun _ _ _ h => h) (Or.inl ⟨by rfl, ?hy7u21⟩) hHeld ?rest7u21
  case hy7u21 =>
    intro w' hS'
    go_simp
    try with_reducible rfl
  simp only [List.setIfInBounds_toArray, List.set_cons_zero, List.set_cons_succ]
  refine take_op (i := 8) (d := 20) rfl rfl (by kernel_rfl) (by kernel_rfl) (by kernel_rfl) (fun _ _ _ h => h) (Or.inr ⟨by rfl, rfl⟩) hHeld ?_
  simp only [List.setIfInBounds_toArray, List.set_cons_zero, List.set_cons_succ]
  refine take_op (i := 9) (d := 21) rfl rfl (by kernel_rfl) (by kernel_rfl) (by kernel_rfl) (fun _ _ _ h => h) (Or.inr ⟨by rfl, rfl⟩) hHeld ?_
  simp only [List.setIfInBounds_toArray, List.set_cons_zero, List.set_cons_succ]
  refine take_op (i := 10) (d := 22) (v := ?_) rfl rfl (by kernel_rfl) (by kernel_rfl) (by kernel_rfl) (fun _ _ _ h => h) (Or.inl ⟨by rfl, ?hy10u22⟩) hHeld ?rest10u22
  case hy10u22 =>
    intro w' hS'
    go_simp
    try with_reducible rfl
  simp only [List.setIfInBounds_toArray, List.set_cons_zero, List.set_cons_succ]
  refine wpAnyH_ready (rs := [11]) (by kernel_rfl) (by simp) ?_
  refine AllReadyH.cons rfl (fun K hK => ?_) AllReadyH.nil
  go_simp
  refine (checkBlind_is n wd gp t sh T0 T1 false c Hc.out _).mono ?_
  rintro e W1 ⟨rfl, hb1⟩
  refine hK.out _ _ (⟨below_row hb1 hHeld.1, below_row hb1 hHeld.2.1, below_row hb1 hHeld.2.2.1, below_row hb1 hHeld.2.2.2.1, hHeld.2.2.2.2.trans (hb1.mono hHeld.2.2.2.2.size)⟩) (fun hHeld2 => ?_)
  clear hK K
  replace hHeld := hHeld2
  clear hHeld2
  refine take_op (i := 12) (d := 10) (v := ?_) rfl rfl (by kernel_rfl) (by kernel_rfl) (by kernel_rfl) (fun _ _ _ h => h) (Or.inl ⟨by rfl, ?hy12u23⟩) hHeld ?rest12u23
  case hy12u23 =>
    intro w' hS'
    go_simp
    try with_reducible rfl
  simp only [List.setIfInBounds_toArray, List.set_cons_zero, List.set_cons_succ]
  refine wpAnyH_done (by kernel_rfl) ?_ _
  have hbx := hHeld.2.2.2.2
  clear hHeld d0 d1 d2 d3 hb
  go_wp2
  go_ret2
  exact ⟨⟨_, rfl, own_nil⟩, hbx⟩

set_option maxRecDepth 100000 in
set_option maxHeartbeats 1000000 in
theorem implWithin_no3 (n : Int) (wd gp : Nat) (t : Int) (sh : Nat) (bw : BlWf n wd gp t sh) (h : Int) (lo hi : Nat) (hh : inI 1 64 h = true) (hp : partB lo = true) (hk : ¬ (okBl n wd gp t sh = true ∧ fineW h lo hi = true)) (w : World) :
    Calls Try.prog 12 #[.agg (blindC n wd gp t sh), .int .i64 h, .float .f32 lo, .float .f32 hi] w (RetList [] (codeC (okBl n wd gp t sh) (fineW h lo hi)) w) := by
  obtain ⟨T0, T1⟩ := blwf_t bw
  have e1 : fineW h lo hi = partB hi := by unfold fineW; rw [hh, hp]; rfl
  have hne := codeC_ne hk
  rw [e1] at hne ⊢
  generalize hq : partB hi = q at *
  generalize hc : codeC (okBl n wd gp t sh) q = c at *
  have Hc := Lib.hid hc
  have Hi := Lib.hid hh
  have Hp := Lib.hid hp
  have Hq := Lib.hid hq
  have hne' : (c != 0) = true := bne_iff_ne.2 hne
  clear hk hh hc hne e1 hp hq bw
  go_enter Try.func12, Try.ntmps12
  go_upto_region 1 with (fail)
  refine abs_world (fun W => W.heap[w.heap.size]? = some (.cells (blindC n wd gp t sh) 28 (0, 0)) ∧ (W.heap[w.heap.size + 1]? = some (.cells #[.int .i64 h] 2 (0, 0)) ∧ W.heap[w.heap.size + 1 + 1]? = some (.cells #[.float .f32 lo] 25 (0, 0)) ∧ W.heap[w.heap.size + 1 + 1 + 1]? = some (.cells #[.float .f32 hi] 25 (0, 0))) ∧ Below w.heap.size w W) ⟨(four_new _ _ _ _ _).1, ⟨(four_new _ _ _ _ _).2.1, (four_new _ _ _ _ _).2.2.1, (four_new _ _ _ _ _).2.2.2.1⟩, (four_new _ _ _ _ _).2.2.2.2⟩ ?_
  rintro W ⟨d0, ⟨d1, d2, d3⟩, hb⟩
  generalize w.heap.size + 1 + 1 + 1 = g3 at *
  generalize w.heap.size + 1 + 1 = g2 at *
  generalize w.heap.size + 1 = g1 at *
  refine wp_region_held_drew (S := (fun W => W.heap[w.heap.size]? = some (.cells (blindC n wd gp t sh) 28 (0, 0)) ∧ W.heap[g1]? = some (.cells #[.int .i64 h] 2 (0, 0)) ∧ W.heap[g2]? = some (.cells #[.float .f32 lo] 25 (0, 0)) ∧ W.heap[g3]? = some (.cells #[.float .f32 hi] 25 (0, 0)) ∧ Below w.heap.size w W)) (by kernel_rfl) ⟨d0, d1, d2, d3, hb.drew⟩ (fun hHeld => ?_)
  refine take_op (i := 0) (d := 12) (v := .agg (blindC n wd gp t sh)) rfl rfl (by kernel_rfl) (by kernel_rfl) (by kernel_rfl) (fun _ _ _ h => h) (yields_row (by rfl) 28 (.tmp 4) (by rfl) w.heap.size 0 5 (by rfl) 28 (blindC n wd gp t sh) (0, 0) _ (fun _ h => h.1) Try.underlying28 rfl info_blind (blind_fits _ _ _ _ _) (blindC n wd gp t sh) (blind_all _ _ _ _ _)) hHeld ?_
  simp only [List.setIfInBounds_toArray, List.set_cons_zero, List.set_cons_succ]
  refine take_op (i := 1) (d := 13) (v := ?_) rfl rfl (by kernel_rfl) (by kernel_rfl) (by kernel_rfl) (fun _ _ _ h => h) (Or.inl ⟨by rfl, ?hy1u24⟩) hHeld ?rest1u24
  case hy1u24 =>
    intro w' hS'
    obtain ⟨s1, s2, s3, s4, s5⟩ := hS'
    have q1 : w'.cell? ⟨g1, 0, none⟩ = some (.int .i64 h) := by rw [cell_of_row w' _ _ _ _ _ s2]; rfl
    have q2 : w'.cell? ⟨g2, 0, none⟩ = some (.float .f32 lo) := by rw [cell_of_row w' _ _ _ _ _ s3]; rfl
    have q3 : w'.cell? ⟨g3, 0, none⟩ = some (.float .f32 hi) := by rw [cell_of_row w' _ _ _ _ _ s4]; rfl
    clear s1 s2 s3 s4 s5
    go_simp
    try with_reducible rfl
  simp only [List.setIfInBounds_toArray, List.set_cons_zero, List.set_cons_succ]
  refine wpAnyH_ready (rs := [2]) (by kernel_rfl) (by simp) ?_
  refine AllReadyH.cons rfl (fun K hK => ?_) AllReadyH.nil
  go_simp
  refine (isHeight_is h true Hi.out _).mono ?_
  rintro e w' ⟨rfl, rfl⟩
  refine hK.out _ _ (hHeld) (fun hHeld2 => ?_)
  clear hK K
  replace hHeld := hHeld2
  clear hHeld2
  refine take_op (i := 3) (d := 15) (v := ?_) rfl rfl (by kernel_rfl) (by kernel_rfl) (by kernel_rfl) (fun _ _ _ h => h) (Or.inl ⟨by rfl, ?hy3u25⟩) hHeld ?rest3u25
  case hy3u25 =>
    intro w' hS'
    go_simp
    try with_reducible rfl
  simp only [List.setIfInBounds_toArray, List.set_cons_zero, List.set_cons_succ]
  refine take_op (i := 4) (d := 16) (v := ?_) rfl rfl (by kernel_rfl) (by kernel_rfl) (by kernel_rfl) (fun _ _ _ h => h) (Or.inl ⟨by rfl, ?hy4u26⟩) hHeld ?rest4u26
  case hy4u26 =>
    intro w' hS'
    obtain ⟨s1, s2, s3, s4, s5⟩ := hS'
    have q1 : w'.cell? ⟨g1, 0, none⟩ = some (.int .i64 h) := by rw [cell_of_row w' _ _ _ _ _ s2]; rfl
    have q2 : w'.cell? ⟨g2, 0, none⟩ = some (.float .f32 lo) := by rw [cell_of_row w' _ _ _ _ _ s3]; rfl
    have q3 : w'.cell? ⟨g3, 0, none⟩ = some (.float .f32 hi) := by rw [cell_of_row w' _ _ _ _ _ s4]; rfl
    clear s1 s2 s3 s4 s5
    go_simp
    try with_reducible rfl
  simp only [List.setIfInBounds_toArray, List.set_cons_zero, List.set_cons_succ]
  refine wpAnyH_ready (rs := [5]) (by kernel_rfl) (by simp) ?_
  refine AllReadyH.cons rfl (fun K hK => ?_) AllReadyH.nil
  go_simp
  refine (isPart_w lo true Hp.out _).mono ?_
  rintro e w' ⟨rfl, rfl⟩
  refine hK.out _ _ (hHeld) (fun hHeld2 => ?_)
  clear hK K
  replace hHeld := hHeld2
  clear hHeld2
  refine take_op (i := 6) (d := 18) (v := ?_) rfl rfl (by kernel_rfl) (by kernel_rfl) (by kernel_rfl) (fun _ _ _ h => h) (Or.inl ⟨by rfl, ?hy6u27⟩) hHeld ?rest6u27
  case hy6u27 =>
    intro w' hS'
    go_simp
    try with_reducible rfl
  simp only [List.setIfInBounds_toArray, List.set_cons_zero, List.set_cons_succ]
  refine take_op (i := 7) (d := 19) (v := ?_) rfl rfl (by kernel_rfl) (by kernel_rfl) (by kernel_rfl) (fun _ _ _ h => h) (Or.inl ⟨by rfl, ?hy7u28⟩) hHeld ?rest7u28
  case hy7u28 =>
    intro w' hS'
    go_simp
    try with_reducible rfl
  simp only [List.setIfInBounds_toArray, List.set_cons_zero, List.set_cons_succ]
  refine take_op (i := 8) (d := 20) (v := ?_) rfl rfl (by kernel_rfl) (by kernel_rfl) (by kernel_rfl) (fun _ _ _ h => h) (Or.inl ⟨by rfl, ?hy8u29⟩) hHeld ?rest8u29
  case hy8u29 =>
    intro w' hS'
    obtain ⟨s1, s2, s3, s4, s5⟩ := hS'
    have q1 : w'.cell? ⟨g1, 0, none⟩ = some (.int .i64 h) := by rw [cell_of_row w' _ _ _ _ _ s2]; rfl
    have q2 : w'.cell? ⟨g2, 0, none⟩ = some (.float .f32 lo) := by rw [cell_of_row w' _ _ _ _ _ s3]; rfl
    have q3 : w'.cell? ⟨g3, 0, none⟩ = some (.float .f32 hi) := by rw [cell_of_row w' _ _ _ _ _ s4]; rfl
    clear s1 s2 s3 s4 s5
    go_simp
    try with_reducible rfl
  simp only [List.setIfInBounds_toArray, List.set_cons_zero, List.set_cons_succ]
  refine wpAnyH_ready (rs := [9]) (by kernel_rfl) (by simp) ?_
  refine AllReadyH.cons rfl (fun K hK => ?_) AllReadyH.nil
  go_simp
  refine (isPart_w hi q Hq.out _).mono ?_
  rintro e w' ⟨rfl, rfl⟩
  refine hK.out _ _ (hHeld) (fun hHeld2 => ?_)
  clear hK K
  replace hHeld := hHeld2
  clear hHeld2
  refine take_op (i := 10) (d := 22) (v := ?_) rfl rfl (by kernel_rfl) (by kernel_rfl) (by kernel_rfl) (fun _ _ _ h => h) (Or.inl ⟨by rfl, ?hy10u30⟩) hHeld ?rest10u30
  case hy10u30 =>
    intro w' hS'
    go_simp
    try with_reducible rfl
  simp only [List.setIfInBounds_toArray, List.set_cons_zero, List.set_cons_succ]
  refine wpAnyH_ready (rs := [11]) (by kernel_rfl) (by simp) ?_
  refine AllReadyH.cons rfl (fun K hK => ?_) AllReadyH.nil
  go_simp
  refine (checkBlind_is n wd gp t sh T0 T1 q c Hc.out _).mono ?_
  rintro e W1 ⟨rfl, hb1⟩
  refine hK.out _ _ (⟨below_row hb1 hHeld.1, below_row hb1 hHeld.2.1, below_row hb1 hHeld.2.2.1, below_row hb1 hHeld.2.2.2.1, hHeld.2.2.2.2.trans (hb1.mono hHeld.2.2.2.2.size)⟩) (fun hHeld2 => ?_)
  clear hK K
  replace hHeld := hHeld2
  clear hHeld2
  refine take_op (i := 12) (d := 10) (v := ?_) rfl rfl (by kernel_rfl) (by kernel_rfl) (by kernel_rfl) (fun _ _ _ h => h) (Or.inl ⟨by rfl, ?hy12u31⟩) hHeld ?rest12u31
  case hy12u31 =>
    intro w' hS'
    go_simp
    try with_reducible rfl
  simp only [List.setIfInBounds_toArray, List.set_cons_zero, List.set_cons_succ]
  refine wpAnyH_done (by kernel_rfl) ?_ _
  have hbx := hHeld.2.2.2.2
  clear hHeld d0 d1 d2 d3 hb
  go_wp2
  go_ret2
  exact ⟨⟨_, rfl, own_nil⟩, hbx⟩

end Go.Proofs.Ytdccmdcgbembpaa
