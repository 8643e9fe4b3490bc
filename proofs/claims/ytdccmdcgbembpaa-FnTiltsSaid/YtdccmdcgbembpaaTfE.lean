/-
  The tilt that passes nearest to what is wanted: what the program refuses; the law's core.
-/
import Derived.Test.YtdccmdcgbembpaaTfS
import Derived.Test.YtdccmdcgbembpaaLaw
import Derived.Test.YtdccmdcgbembpaaSame
namespace Go.Proofs.Ytdccmdcgbembpaa
open Go.ChangeShapes Go.WideShapes Go.ChangeAt Go.RowKit Go.Deep Go.Joins

attribute [local go_sem] run_store_f

set_option maxRecDepth 100000 in
set_option maxHeartbeats 1000000 in
theorem iTF_no (n : Int) (wd gp : Nat) (t : Int) (sh : Nat) (bw : BlWf n wd gp t sh) (h : Int) (want : Nat) (w : World) (hk : ¬ (okBl n wd gp t sh = true ∧ fineT h want = true)) :
    Calls Try.prog 8 #[.agg (blindC n wd gp t sh), .int .i64 h, .float .f32 want] w fun e w' => e = .returned (.tuple #[.int .i64 0, .float .f32 0, .int .i64 (codeC (okBl n wd gp t sh) (fineT h want))]) ∧ Below w.heap.size w w' := by
  obtain ⟨T0, T1⟩ := blwf_t bw
  have hne := codeC_ne hk
  cases hi : inI 1 64 h with
  | true =>
    have e1 : fineT h want = partB want := by unfold fineT; rw [hi]; rfl
    rw [e1] at hne hk ⊢
    generalize hp : partB want = p at *
    generalize hc : codeC (okBl n wd gp t sh) p = c at *
    have Hc := Lib.hid hc
    have Hi := Lib.hid hi
    have Hp := Lib.hid hp
    have hne' : (c != 0) = true := bne_iff_ne.2 hne
    clear hk hi hp hc hne e1 bw
    go_enter Try.func8, Try.ntmps8
    go_upto_region 1 with (fail)
    refine abs_world (fun W => W.heap[w.heap.size]? = some (.cells (blindC n wd gp t sh) 28 (0, 0)) ∧ W.heap[w.heap.size + 1]? = some (.cells #[.int .i64 h] 2 (0, 0)) ∧ Below w.heap.size w W) (two_at w (.cells (blindC n wd gp t sh) 28) (.cells #[.int .i64 h] 2)) ?_
    rintro W ⟨d1, d2, hb⟩
    generalize w.heap.size + 1 = g2 at *
    refine wp_region_held_drew (S := (fun W => W.heap[w.heap.size]? = some (.cells (blindC n wd gp t sh) 28 (0, 0)) ∧ W.heap[g2]? = some (.cells #[.int .i64 h] 2 (0, 0)) ∧ Below w.heap.size w W)) (by kernel_rfl) ⟨d1, d2, hb.drew⟩ (fun hHeld => ?_)
    refine take_op (i := 0) (d := 15) (v := .agg (blindC n wd gp t sh)) rfl rfl (by kernel_rfl) (by kernel_rfl) (by kernel_rfl) (fun _ _ _ h => h) (yields_row (by rfl) 28 (.tmp 3) (by rfl) w.heap.size 0 5 (by rfl) 28 (blindC n wd gp t sh) (0, 0) _ (fun _ h => h.1) Try.underlying28 rfl info_blind (blind_fits _ _ _ _ _) (blindC n wd gp t sh) (blind_all _ _ _ _ _)) hHeld ?_
    simp only [List.setIfInBounds_toArray, List.set_cons_zero, List.set_cons_succ]
    refine take_op (i := 1) (d := 16) (v := ?_) rfl rfl (by kernel_rfl) (by kernel_rfl) (by kernel_rfl) (fun _ _ _ h => h) (Or.inl ⟨by rfl, ?hy1u1⟩) hHeld ?rest1u1
    case hy1u1 =>
      intro w' hS'
      obtain ⟨s1, s2, _⟩ := hS'
      have k2 : w'.cell? ⟨g2, 0, none⟩ = some (.int .i64 h) := by rw [cell_of_row w' _ _ _ _ _ s2]; rfl
      clear s1 s2
      go_simp
      try with_reducible rfl
    simp only [List.setIfInBounds_toArray, List.set_cons_zero, List.set_cons_succ]
    refine wpAnyH_ready (rs := [2]) (by kernel_rfl) (by simp) ?_
    refine AllReadyH.cons rfl (fun K hK => ?_) AllReadyH.nil
    go_simp
    refine (isHeight_is h true Hi.out _).mono ?_
    rintro e w' ⟨rfl, rfl⟩
    refine hK.out _ _ (hHeld) (fun hHeld2 => ?_)
    clear hK K
    replace hHeld := hHeld2
    clear hHeld2
    refine take_op (i := 3) (d := 18) (v := ?_) rfl rfl (by kernel_rfl) (by kernel_rfl) (by kernel_rfl) (fun _ _ _ h => h) (Or.inl ⟨by rfl, ?hy3u2⟩) hHeld ?rest3u2
    case hy3u2 =>
      intro w' hS'
      go_simp
      try with_reducible rfl
    simp only [List.setIfInBounds_toArray, List.set_cons_zero, List.set_cons_succ]
    refine take_op (i := 4) (d := 19) (v := ?_) rfl rfl (by kernel_rfl) (by kernel_rfl) (by kernel_rfl) (fun _ _ _ h => h) (Or.inl ⟨by rfl, ?hy4u3⟩) hHeld ?rest4u3
    case hy4u3 =>
      intro w' hS'
      go_simp
      try with_reducible rfl
    simp only [List.setIfInBounds_toArray, List.set_cons_zero, List.set_cons_succ]
    refine wpAnyH_ready (rs := [5]) (by kernel_rfl) (by simp) ?_
    refine AllReadyH.cons rfl (fun K hK => ?_) AllReadyH.nil
    go_simp
    refine (isPart_iT want p Hp.out _).mono ?_
    rintro e w' ⟨rfl, rfl⟩
    refine hK.out _ _ (hHeld) (fun hHeld2 => ?_)
    clear hK K
    replace hHeld := hHeld2
    clear hHeld2
    refine take_op (i := 6) (d := 21) (v := ?_) rfl rfl (by kernel_rfl) (by kernel_rfl) (by kernel_rfl) (fun _ _ _ h => h) (Or.inl ⟨by rfl, ?hy6u4⟩) hHeld ?rest6u4
    case hy6u4 =>
      intro w' hS'
      go_simp
      try with_reducible rfl
    simp only [List.setIfInBounds_toArray, List.set_cons_zero, List.set_cons_succ]
    refine wpAnyH_ready (rs := [7]) (by kernel_rfl) (by simp) ?_
    refine AllReadyH.cons rfl (fun K hK => ?_) AllReadyH.nil
    go_simp
    refine (checkBlind_is n wd gp t sh T0 T1 p c Hc.out _).mono ?_
    rintro e W1 ⟨rfl, hb1⟩
    refine hK.out _ _ (⟨below_row hb1 hHeld.1, below_row hb1 hHeld.2.1, hHeld.2.2.trans (hb1.mono hHeld.2.2.size)⟩) (fun hHeld2 => ?_)
    clear hK K
    replace hHeld := hHeld2
    clear hHeld2
    refine take_op (i := 8) (d := 9) (v := ?_) rfl rfl (by kernel_rfl) (by kernel_rfl) (by kernel_rfl) (fun _ _ _ h => h) (Or.inl ⟨by rfl, ?hy8u5⟩) hHeld ?rest8u5
    case hy8u5 =>
      intro w' hS'
      go_simp
      try with_reducible rfl
    simp only [List.setIfInBounds_toArray, List.set_cons_zero, List.set_cons_succ]
    refine wpAnyH_done (by kernel_rfl) ?_ _
    have hbx := hHeld.2.2
    clear hHeld d1 d2 hb
    go_wp2
    go_ret3
    exact ⟨rfl, hbx⟩
  | false =>
    have e1 : fineT h want = false := by unfold fineT; rw [hi]; rfl
    rw [e1] at hne hk ⊢
    generalize hc : codeC (okBl n wd gp t sh) false = c at *
    have Hc := Lib.hid hc
    have Hi := Lib.hid hi
    have hne' : (c != 0) = true := bne_iff_ne.2 hne
    clear hk hi hc hne e1 bw
    go_enter Try.func8, Try.ntmps8
    go_upto_region 1 with (fail)
    refine abs_world (fun W => W.heap[w.heap.size]? = some (.cells (blindC n wd gp t sh) 28 (0, 0)) ∧ W.heap[w.heap.size + 1]? = some (.cells #[.int .i64 h] 2 (0, 0)) ∧ Below w.heap.size w W) (two_at w (.cells (blindC n wd gp t sh) 28) (.cells #[.int .i64 h] 2)) ?_
    rintro W ⟨d1, d2, hb⟩
    generalize w.heap.size + 1 = g2 at *
    refine wp_region_held_drew (S := (fun W => W.heap[w.heap.size]? = some (.cells (blindC n wd gp t sh) 28 (0, 0)) ∧ W.heap[g2]? = some (.cells #[.int .i64 h] 2 (0, 0)) ∧ Below w.heap.size w W)) (by kernel_rfl) ⟨d1, d2, hb.drew⟩ (fun hHeld => ?_)
    refine take_op (i := 0) (d := 15) (v := .agg (blindC n wd gp t sh)) rfl rfl (by kernel_rfl) (by kernel_rfl) (by kernel_rfl) (fun _ _ _ h => h) (yields_row (by rfl) 28 (.tmp 3) (by rfl) w.heap.size 0 5 (by rfl) 28 (blindC n wd gp t sh) (0, 0) _ (fun _ h => h.1) Try.underlying28 rfl info_blind (blind_fits _ _ _ _ _) (blindC n wd gp t sh) (blind_all _ _ _ _ _)) hHeld ?_
    simp only [List.setIfInBounds_toArray, List.set_cons_zero, List.set_cons_succ]
    refine take_op (i := 1) (d := 16) (v := ?_) rfl rfl (by kernel_rfl) (by kernel_rfl) (by kernel_rfl) (fun _ _ _ h => h) (Or.inl ⟨by rfl, ?hy1u6⟩) hHeld ?rest1u6
    case hy1u6 =>
      intro w' hS'
      obtain ⟨s1, s2, _⟩ := hS'
      have k2 : w'.cell? ⟨g2, 0, none⟩ = some (.int .i64 h) := by rw [cell_of_row w' _ _ _ _ _ s2]; rfl
      clear s1 s2
      go_simp
      try with_reducible rfl
    simp only [List.setIfInBounds_toArray, List.set_cons_zero, List.set_cons_succ]
    refine wpAnyH_ready (rs := [2]) (by kernel_rfl) (by simp) ?_
    refine AllReadyH.cons rfl (fun K hK => ?_) AllReadyH.nil
    go_simp
    refine (isHeight_is h false Hi.out _).mono ?_
    rintro e w' ⟨rfl, rfl⟩
    refine hK.out _ _ (hHeld) (fun hHeld2 => ?_)
    clear hK K
    replace hHeld := hHeld2
    clear hHeld2
    refine take_op (i := 3) (d := 18) (v := ?_) rfl rfl (by kernel_rfl) (by kernel_rfl) (by kernel_rfl) (fun _ _ _ h => h) (Or.inl ⟨by rfl, ?hy3u7⟩) hHeld ?rest3u7
    case hy3u7 =>
      intro w' hS'
      go_simp
      try with_reducible rfl
    simp only [List.setIfInBounds_toArray, List.set_cons_zero, List.set_cons_succ]
    refine take_op (i := 4) (d := 19) rfl rfl (by kernel_rfl) (by kernel_rfl) (by kernel_rfl) (fun _ _ _ h => h) (Or.inr ⟨by rfl, rfl⟩) hHeld ?_
    simp only [List.setIfInBounds_toArray, List.set_cons_zero, List.set_cons_succ]
    refine take_op (i := 5) (d := 20) rfl rfl (by kernel_rfl) (by kernel_rfl) (by kernel_rfl) (fun _ _ _ h => h) (Or.inr ⟨by rfl, rfl⟩) hHeld ?_
    simp only [List.setIfInBounds_toArray, List.set_cons_zero, List.set_cons_succ]
    refine take_op (i := 6) (d := 21) (v := ?_) rfl rfl (by kernel_rfl) (by kernel_rfl) (by kernel_rfl) (fun _ _ _ h => h) (Or.inl ⟨by rfl, ?hy6u8⟩) hHeld ?rest6u8
    case hy6u8 =>
      intro w' hS'
      go_simp
      try with_reducible rfl
    simp only [List.setIfInBounds_toArray, List.set_cons_zero, List.set_cons_succ]
    refine wpAnyH_ready (rs := [7]) (by kernel_rfl) (by simp) ?_
    refine AllReadyH.cons rfl (fun K hK => ?_) AllReadyH.nil
    go_simp
    refine (checkBlind_is n wd gp t sh T0 T1 false c Hc.out _).mono ?_
    rintro e W1 ⟨rfl, hb1⟩
    refine hK.out _ _ (⟨below_row hb1 hHeld.1, below_row hb1 hHeld.2.1, hHeld.2.2.trans (hb1.mono hHeld.2.2.size)⟩) (fun hHeld2 => ?_)
    clear hK K
    replace hHeld := hHeld2
    clear hHeld2
    refine take_op (i := 8) (d := 9) (v := ?_) rfl rfl (by kernel_rfl) (by kernel_rfl) (by kernel_rfl) (fun _ _ _ h => h) (Or.inl ⟨by rfl, ?hy8u9⟩) hHeld ?rest8u9
    case hy8u9 =>
      intro w' hS'
      go_simp
      try with_reducible rfl
    simp only [List.setIfInBounds_toArray, List.set_cons_zero, List.set_cons_succ]
    refine wpAnyH_done (by kernel_rfl) ?_ _
    have hbx := hHeld.2.2
    clear hHeld d1 d2 hb
    go_wp2
    go_ret3
    exact ⟨rfl, hbx⟩

end Go.Proofs.Ytdccmdcgbembpaa
