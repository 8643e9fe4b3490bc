/-
  The tilt with the least anger: the program.
-/
import Derived.Test.YtelgcggcmjdhjaaLaI
import Derived.Test.YtelgcggcmjdhjaaGenL
import Derived.Test.YtelgcggcmjdhjaaBhd
namespace Go.Proofs.Ytelgcggcmjdhjaa
open Go.ChangeShapes Go.WideShapes Go.ChangeAt Go.RowKit Go.Deep Go.Joins

attribute [local go_sem] run_store_f

/-- What is asked besides the blind. -/
def fineL (h : Int) (zs : List Nat) : Bool := inI 1 64 h && okVs zs
set_option maxRecDepth 100000 in
set_option maxHeartbeats 4000000 in
theorem iLA_no (n : Int) (wd gp : Nat) (t : Int) (sh : Nat) (bw : BlWf n wd gp t sh) (h : Int) (sv : Value) (zs : List Nat) (w : World) (hz : FloatsAt w sv zs) (hk : ¬ (okBl n wd gp t sh = true ∧ fineL h zs = true)) :
    Calls Try.prog 44 #[.agg (blindC n wd gp t sh), .int .i64 h, sv] w fun e w' => e = .returned (.tuple #[.int .i64 0, .float .f32 0, .int .i64 (codeC (okBl n wd gp t sh) (fineL h zs))]) ∧ Below w.heap.size w w' := by
  obtain ⟨T0, T1⟩ := blwf_t bw
  have hne := codeC_ne hk
  have HZ := Lib.hid hz
  have HV := Lib.hid (fun W hz => areVotes_any sv zs W hz)
  cases hi : inI 1 64 h with
  | true =>
    have e1 : fineL h zs = okVs zs := by unfold fineL; rw [hi]; rfl
    rw [e1] at hne hk ⊢
    generalize hp : okVs zs = p at *
    generalize hc : codeC (okBl n wd gp t sh) p = c at *
    have Hc := Lib.hid hc
    have Hi := Lib.hid hi
    have hne' : (c != 0) = true := bne_iff_ne.2 hne
    clear hk hi hp hc hne e1 bw
    obtain ⟨a, cap, rfl, hl1, hl2, _⟩ := hz
    unfold maxLen at hl2
    generalize hn : zs.length = n' at *
    clear hn
    go_enter Try.func44, Try.ntmps44
    go_upto_region 1 with (fail)
    refine abs_world (fun W => W.heap[w.heap.size]? = some (.cells (blindC n wd gp t sh) 49 (0, 0)) ∧ W.heap[w.heap.size + 1]? = some (.cells #[.int .i64 h] 2 (0, 0)) ∧ W.heap[w.heap.size + 1 + 1]? = some (.cells #[.slice a n' cap] 61 (0, 0)) ∧ Below w.heap.size w W) (three_at w (.cells (blindC n wd gp t sh) 49) (.cells #[.int .i64 h] 2) (.cells #[.slice a n' cap] 61)) ?_
    rintro W ⟨d1, d2, d3, hb⟩
    generalize w.heap.size + 1 + 1 = g3 at *
    generalize w.heap.size + 1 = g2 at *
    refine wp_region_held_drew (S := (fun W => W.heap[w.heap.size]? = some (.cells (blindC n wd gp t sh) 49 (0, 0)) ∧ W.heap[g2]? = some (.cells #[.int .i64 h] 2 (0, 0)) ∧ W.heap[g3]? = some (.cells #[.slice a n' cap] 61 (0, 0)) ∧ Below w.heap.size w W)) (by kernel_rfl) ⟨d1, d2, d3, hb.drew⟩ (fun hHeld => ?_)
    refine take_op (i := 0) (d := 12) (v := .agg (blindC n wd gp t sh)) rfl rfl (by kernel_rfl) (by kernel_rfl) (by kernel_rfl) (fun _ _ _ h => h) (yields_row (by rfl) 49 (.tmp 3) (by rfl) w.heap.size 0 5 (by rfl) 49 (blindC n wd gp t sh) (0, 0) _ (fun _ h => h.1) Try.underlying49 rfl info_blind (blind_fits _ _ _ _ _) (blindC n wd gp t sh) (blind_all _ _ _ _ _)) hHeld ?_
    simp only [List.setIfInBounds_toArray, List.set_cons_zero, List.set_cons_succ]
    refine take_op (i := 1) (d := 13) (v := ?_) rfl rfl (by kernel_rfl) (by kernel_rfl) (by kernel_rfl) (fun _ _ _ h => h) (Or.inl ⟨by rfl, ?hy1u25⟩) hHeld ?rest1u25
    case hy1u25 =>
      intro w' hS'
      obtain ⟨s1, s2, s3, _⟩ := hS'
      have k2 : w'.cell? ⟨g2, 0, none⟩ = some (.int .i64 h) := by rw [cell_of_row w' _ _ _ _ _ s2]; rfl
      have k3 : w'.cell? ⟨g3, 0, none⟩ = some (.slice a n' cap) := by rw [cell_of_row w' _ _ _ _ _ s3]; rfl
      clear s1 s2 s3
      go_simp
      try with_reducible rfl
    simp only [List.setIfInBounds_toArray, List.set_cons_zero, List.set_cons_succ]
    refine wpAnyH_ready (rs := [2]) (by kernel_rfl) (by simp) ?_
    refine AllReadyH.cons rfl (fun K hK => ?_) AllReadyH.nil
    go_simp
    refine (isHeight_is h true Hi.out _).mono ?_
    rintro e w' ⟨rfl, rfl⟩
    refine hK.out _ _ (hHeld) (fun hHeld2 => ?_)
    clear hK K
    replace hHeld := hHeld2
    clear hHeld2
    refine take_op (i := 3) (d := 15) (v := ?_) rfl rfl (by kernel_rfl) (by kernel_rfl) (by kernel_rfl) (fun _ _ _ h => h) (Or.inl ⟨by rfl, ?hy3u26⟩) hHeld ?rest3u26
    case hy3u26 =>
      intro w' hS'
      go_simp
      try with_reducible rfl
    simp only [List.setIfInBounds_toArray, List.set_cons_zero, List.set_cons_succ]
    refine take_op (i := 4) (d := 16) (v := ?_) rfl rfl (by kernel_rfl) (by kernel_rfl) (by kernel_rfl) (fun _ _ _ h => h) (Or.inl ⟨by rfl, ?hy4u27⟩) hHeld ?rest4u27
    case hy4u27 =>
      intro w' hS'
      obtain ⟨s1, s2, s3, _⟩ := hS'
      have k2 : w'.cell? ⟨g2, 0, none⟩ = some (.int .i64 h) := by rw [cell_of_row w' _ _ _ _ _ s2]; rfl
      have k3 : w'.cell? ⟨g3, 0, none⟩ = some (.slice a n' cap) := by rw [cell_of_row w' _ _ _ _ _ s3]; rfl
      clear s1 s2 s3
      go_simp
      try with_reducible rfl
    simp only [List.setIfInBounds_toArray, List.set_cons_zero, List.set_cons_succ]
    refine wpAnyH_ready (rs := [5]) (by kernel_rfl) (by simp) ?_
    refine AllReadyH.cons rfl (fun K hK => ?_) AllReadyH.nil
    go_simp
    refine (HV.out _ (floats_below HZ.out hHeld.2.2.2)).mono ?_
    rintro e w' ⟨rfl, rfl⟩
    refine hK.out _ _ (hHeld) (fun hHeld2 => ?_)
    clear hK K
    replace hHeld := hHeld2
    clear hHeld2
    refine take_op (i := 6) (d := 18) (v := ?_) rfl rfl (by kernel_rfl) (by kernel_rfl) (by kernel_rfl) (fun _ _ _ h => h) (Or.inl ⟨by rfl, ?hy6u28⟩) hHeld ?rest6u28
    case hy6u28 =>
      intro w' hS'
      go_simp
      try with_reducible rfl
    simp only [List.setIfInBounds_toArray, List.set_cons_zero, List.set_cons_succ]
    refine wpAnyH_ready (rs := [7]) (by kernel_rfl) (by simp) ?_
    refine AllReadyH.cons rfl (fun K hK => ?_) AllReadyH.nil
    go_simp
    refine (checkBlind_is n wd gp t sh T0 T1 p c Hc.out _).mono ?_
    rintro e W1 ⟨rfl, hb1⟩
    refine hK.out _ _ (⟨below_row hb1 hHeld.1, below_row hb1 hHeld.2.1, below_row hb1 hHeld.2.2.1, hHeld.2.2.2.trans (hb1.mono hHeld.2.2.2.size)⟩) (fun hHeld2 => ?_)
    clear hK K
    replace hHeld := hHeld2
    clear hHeld2
    refine take_op (i := 8) (d := 9) (v := ?_) rfl rfl (by kernel_rfl) (by kernel_rfl) (by kernel_rfl) (fun _ _ _ h => h) (Or.inl ⟨by rfl, ?hy8u29⟩) hHeld ?rest8u29
    case hy8u29 =>
      intro w' hS'
      go_simp
      try with_reducible rfl
    simp only [List.setIfInBounds_toArray, List.set_cons_zero, List.set_cons_succ]
    refine wpAnyH_done (by kernel_rfl) ?_ _
    have hbx := hHeld.2.2.2
    clear hHeld d1 d2 d3 hb
    go_wp2
    go_ret3
    exact ⟨rfl, hbx⟩
  | false =>
    have e1 : fineL h zs = false := by unfold fineL; rw [hi]; rfl
    rw [e1] at hne hk ⊢
    generalize hc : codeC (okBl n wd gp t sh) false = c at *
    have Hc := Lib.hid hc
    have Hi := Lib.hid hi
    have hne' : (c != 0) = true := bne_iff_ne.2 hne
    clear hk hi hc hne e1 bw
    obtain ⟨a, cap, rfl, hl1, hl2, _⟩ := hz
    unfold maxLen at hl2
    generalize hn : zs.length = n' at *
    clear hn
    go_enter Try.func44, Try.ntmps44
    go_upto_region 1 with (fail)
    refine abs_world (fun W => W.heap[w.heap.size]? = some (.cells (blindC n wd gp t sh) 49 (0, 0)) ∧ W.heap[w.heap.size + 1]? = some (.cells #[.int .i64 h] 2 (0, 0)) ∧ W.heap[w.heap.size + 1 + 1]? = some (.cells #[.slice a n' cap] 61 (0, 0)) ∧ Below w.heap.size w W) (three_at w (.cells (blindC n wd gp t sh) 49) (.cells #[.int .i64 h] 2) (.cells #[.slice a n' cap] 61)) ?_
    rintro W ⟨d1, d2, d3, hb⟩
    generalize w.heap.size + 1 + 1 = g3 at *
    generalize w.heap.size + 1 = g2 at *
    refine wp_region_held_drew (S := (fun W => W.heap[w.heap.size]? = some (.cells (blindC n wd gp t sh) 49 (0, 0)) ∧ W.heap[g2]? = some (.cells #[.int .i64 h] 2 (0, 0)) ∧ W.heap[g3]? = some (.cells #[.slice a n' cap] 61 (0, 0)) ∧ Below w.heap.size w W)) (by kernel_rfl) ⟨d1, d2, d3, hb.drew⟩ (fun hHeld => ?_)
    refine take_op (i := 0) (d := 12) (v := .agg (blindC n wd gp t sh)) rfl rfl (by kernel_rfl) (by kernel_rfl) (by kernel_rfl) (fun _ _ _ h => h) (yields_row (by rfl) 49 (.tmp 3) (by rfl) w.heap.size 0 5 (by rfl) 49 (blindC n wd gp t sh) (0, 0) _ (fun _ h => h.1) Try.underlying49 rfl info_blind (blind_fits _ _ _ _ _) (blindC n wd gp t sh) (blind_all _ _ _ _ _)) hHeld ?_
    simp only [List.setIfInBounds_toArray, List.set_cons_zero, List.set_cons_succ]
    refine take_op (i := 1) (d := 13) (v := ?_) rfl rfl (by kernel_rfl) (by kernel_rfl) (by kernel_rfl) (fun _ _ _ h => h) (Or.inl ⟨by rfl, ?hy1u30⟩) hHeld ?rest1u30
    case hy1u30 =>
      intro w' hS'
      obtain ⟨s1, s2, s3, _⟩ := hS'
      have k2 : w'.cell? ⟨g2, 0, none⟩ = some (.int .i64 h) := by rw [cell_of_row w' _ _ _ _ _ s2]; rfl
      have k3 : w'.cell? ⟨g3, 0, none⟩ = some (.slice a n' cap) := by rw [cell_of_row w' _ _ _ _ _ s3]; rfl
      clear s1 s2 s3
      go_simp
      try with_reducible rfl
    simp only [List.setIfInBounds_toArray, List.set_cons_zero, List.set_cons_succ]
    refine wpAnyH_ready (rs := [2]) (by kernel_rfl) (by simp) ?_
    refine AllReadyH.cons rfl (fun K hK => ?_) AllReadyH.nil
    go_simp
    refine (isHeight_is h false Hi.out _).mono ?_
    rintro e w' ⟨rfl, rfl⟩
    refine hK.out _ _ (hHeld) (fun hHeld2 => ?_)
    clear hK K
    replace hHeld := hHeld2
    clear hHeld2
    refine take_op (i := 3) (d := 15) (v := ?_) rfl rfl (by kernel_rfl) (by kernel_rfl) (by kernel_rfl) (fun _ _ _ h => h) (Or.inl ⟨by rfl, ?hy3u31⟩) hHeld ?rest3u31
    case hy3u31 =>
      intro w' hS'
      go_simp
      try with_reducible rfl
    simp only [List.setIfInBounds_toArray, List.set_cons_zero, List.set_cons_succ]
    refine take_op (i := 4) (d := 16) rfl rfl (by kernel_rfl) (by kernel_rfl) (by kernel_rfl) (fun _ _ _ h => h) (Or.inr ⟨by rfl, rfl⟩) hHeld ?_
    simp only [List.setIfInBounds_toArray, List.set_cons_zero, List.set_cons_succ]
    refine take_op (i := 5) (d := 17) rfl rfl (by kernel_rfl) (by kernel_rfl) (by kernel_rfl) (fun _ _ _ h => h) (Or.inr ⟨by rfl, rfl⟩) hHeld ?_
    simp only [List.setIfInBounds_toArray, List.set_cons_zero, List.set_cons_succ]
    refine take_op (i := 6) (d := 18) (v := ?_) rfl rfl (by kernel_rfl) (by kernel_rfl) (by kernel_rfl) (fun _ _ _ h => h) (Or.inl ⟨by rfl, ?hy6u32⟩) hHeld ?rest6u32
    case hy6u32 =>
      intro w' hS'
      go_simp
      try with_reducible rfl
    simp only [List.setIfInBounds_toArray, List.set_cons_zero, List.set_cons_succ]
    refine wpAnyH_ready (rs := [7]) (by kernel_rfl) (by simp) ?_
    refine AllReadyH.cons rfl (fun K hK => ?_) AllReadyH.nil
    go_simp
    refine (checkBlind_is n wd gp t sh T0 T1 false c Hc.out _).mono ?_
    rintro e W1 ⟨rfl, hb1⟩
    refine hK.out _ _ (⟨below_row hb1 hHeld.1, below_row hb1 hHeld.2.1, below_row hb1 hHeld.2.2.1, hHeld.2.2.2.trans (hb1.mono hHeld.2.2.2.size)⟩) (fun hHeld2 => ?_)
    clear hK K
    replace hHeld := hHeld2
    clear hHeld2
    refine take_op (i := 8) (d := 9) (v := ?_) rfl rfl (by kernel_rfl) (by kernel_rfl) (by kernel_rfl) (fun _ _ _ h => h) (Or.inl ⟨by rfl, ?hy8u33⟩) hHeld ?rest8u33
    case hy8u33 =>
      intro w' hS'
      go_simp
      try with_reducible rfl
    simp only [List.setIfInBounds_toArray, List.set_cons_zero, List.set_cons_succ]
    refine wpAnyH_done (by kernel_rfl) ?_ _
    have hbx := hHeld.2.2.2
    clear hHeld d1 d2 d3 hb
    go_wp2
    go_ret3
    exact ⟨rfl, hbx⟩

set_option maxRecDepth 100000 in
set_option maxHeartbeats 4000000 in
theorem iLA_yes (n : Int) (wd gp : Nat) (t : Int) (sh : Nat) (bw : BlWf n wd gp t sh) (h : Int) (sv : Value) (zs : List Nat) (hwf : ∀ z ∈ zs, (Lit.float .f32 z).wf = true) (w : World) (hz : FloatsAt w sv zs) (hk : okBl n wd gp t sh = true) (hi : inI 1 64 h = true) (hv : okVs zs = true) (m r : Nat) (hm : firstMin (dA wd gp sh h zs) 128 = m) (hr : dA wd gp sh h zs m = r) :
    Calls Try.prog 44 #[.agg (blindC n wd gp t sh), .int .i64 h, sv] w fun e w' => e = .returned (.tuple #[.int .i64 ((m : Int) - 64), .float .f32 r, .int .i64 0]) ∧ Below w.heap.size w w' := by
  obtain ⟨T0, T1⟩ := blwf_t bw
  obtain ⟨h0, h1⟩ := inI_get hi
  have OK := blok_of bw hk
  obtain ⟨v1, v12, hp⟩ := okVs_get hwf hv
  have HZ := Lib.hid hz
  have HV := Lib.hid (fun W hz => areVotes_any sv zs W hz)
  rw [hv] at HV
  have HT : Hid (∀ (g1 g2 g3 : Nat) (W : World), W.heap[g1]? = some (.cells (blindC n wd gp t sh) 49 (0, 0)) → W.heap[g2]? = some (.cells #[.int .i64 h] 2 (0, 0)) → W.heap[g3]? = some (.cells #[sv] 61 (0, 0)) → FloatsAt W sv zs →
      Calls Try.prog 76 #[.func (.func 77) #[] #[.pointer (some ⟨g1, 0, none⟩), .pointer (some ⟨g2, 0, none⟩), .pointer (some ⟨g3, 0, none⟩)]] W fun e w' => e = .returned (.tuple #[.int .i64 ((m : Int) - 64), .float .f32 r]) ∧ Below W.heap.size W w') := by
    intro g1 g2 g3 W c1 c2 c3 hz
    have hL := leastTilt_la g1 g2 g3 (dA wd gp sh h zs) (fun k _ => dA_num wd gp OK.2.2.2.2.2.2.2.2 h hp v12 k) W (fun k hk x hx V hb => la_call n wd gp t sh OK h h0 h1 sv zs v12 hp k hk x hx _ rfl g1 g2 g3 V (below_row hb c1) (below_row hb c2) (below_row hb c3) (floats_below hz hb))
    rw [hm, hr] at hL
    exact hL
  have Hc : Hid (codeC (okBl n wd gp t sh) true = 0) := by rw [hk]; rfl
  have Hi := Lib.hid hi
  clear OK h0 h1 hk hi hp hv bw hm hr hwf
  obtain ⟨a, cap, rfl, hl1, hl2, _⟩ := hz
  unfold maxLen at hl2
  generalize hn : zs.length = n' at *
  clear hn v1 v12
  go_enter Try.func44, Try.ntmps44
  go_upto_region 1 with (fail)
  refine abs_world (fun W => W.heap[w.heap.size]? = some (.cells (blindC n wd gp t sh) 49 (0, 0)) ∧ W.heap[w.heap.size + 1]? = some (.cells #[.int .i64 h] 2 (0, 0)) ∧ W.heap[w.heap.size + 1 + 1]? = some (.cells #[.slice a n' cap] 61 (0, 0)) ∧ Below w.heap.size w W) (three_at w (.cells (blindC n wd gp t sh) 49) (.cells #[.int .i64 h] 2) (.cells #[.slice a n' cap] 61)) ?_
  rintro W ⟨d1, d2, d3, hb⟩
  generalize w.heap.size + 1 + 1 = g3 at *
  generalize w.heap.size + 1 = g2 at *
  refine wp_region_held_drew (S := (fun W => W.heap[w.heap.size]? = some (.cells (blindC n wd gp t sh) 49 (0, 0)) ∧ W.heap[g2]? = some (.cells #[.int .i64 h] 2 (0, 0)) ∧ W.heap[g3]? = some (.cells #[.slice a n' cap] 61 (0, 0)) ∧ Below w.heap.size w W)) (by kernel_rfl) ⟨d1, d2, d3, hb.drew⟩ (fun hHeld => ?_)
  refine take_op (i := 0) (d := 12) (v := .agg (blindC n wd gp t sh)) rfl rfl (by kernel_rfl) (by kernel_rfl) (by kernel_rfl) (fun _ _ _ h => h) (yields_row (by rfl) 49 (.tmp 3) (by rfl) w.heap.size 0 5 (by rfl) 49 (blindC n wd gp t sh) (0, 0) _ (fun _ h => h.1) Try.underlying49 rfl info_blind (blind_fits _ _ _ _ _) (blindC n wd gp t sh) (blind_all _ _ _ _ _)) hHeld ?_
  simp only [List.setIfInBounds_toArray, List.set_cons_zero, List.set_cons_succ]
  refine take_op (i := 1) (d := 13) (v := ?_) rfl rfl (by kernel_rfl) (by kernel_rfl) (by kernel_rfl) (fun _ _ _ h => h) (Or.inl ⟨by rfl, ?hy1u34⟩) hHeld ?rest1u34
  case hy1u34 =>
    intro w' hS'
    obtain ⟨s1, s2, s3, _⟩ := hS'
    have k2 : w'.cell? ⟨g2, 0, none⟩ = some (.int .i64 h) := by rw [cell_of_row w' _ _ _ _ _ s2]; rfl
    have k3 : w'.cell? ⟨g3, 0, none⟩ = some (.slice a n' cap) := by rw [cell_of_row w' _ _ _ _ _ s3]; rfl
    clear s1 s2 s3
    go_simp
    try with_reducible rfl
  simp only [List.setIfInBounds_toArray, List.set_cons_zero, List.set_cons_succ]
  refine wpAnyH_ready (rs := [2]) (by kernel_rfl) (by simp) ?_
  refine AllReadyH.cons rfl (fun K hK => ?_) AllReadyH.nil
  go_simp
  refine (isHeight_is h true Hi.out _).mono ?_
  rintro e w' ⟨rfl, rfl⟩
  refine hK.out _ _ (hHeld) (fun hHeld2 => ?_)
  clear hK K
  replace hHeld := hHeld2
  clear hHeld2
  refine take_op (i := 3) (d := 15) (v := ?_) rfl rfl (by kernel_rfl) (by kernel_rfl) (by kernel_rfl) (fun _ _ _ h => h) (Or.inl ⟨by rfl, ?hy3u35⟩) hHeld ?rest3u35
  case hy3u35 =>
    intro w' hS'
    go_simp
    try with_reducible rfl
  simp only [List.setIfInBounds_toArray, List.set_cons_zero, List.set_cons_succ]
  refine take_op (i := 4) (d := 16) (v := ?_) rfl rfl (by kernel_rfl) (by kernel_rfl) (by kernel_rfl) (fun _ _ _ h => h) (Or.inl ⟨by rfl, ?hy4u36⟩) hHeld ?rest4u36
  case hy4u36 =>
    intro w' hS'
    obtain ⟨s1, s2, s3, _⟩ := hS'
    have k2 : w'.cell? ⟨g2, 0, none⟩ = some (.int .i64 h) := by rw [cell_of_row w' _ _ _ _ _ s2]; rfl
    have k3 : w'.cell? ⟨g3, 0, none⟩ = some (.slice a n' cap) := by rw [cell_of_row w' _ _ _ _ _ s3]; rfl
    clear s1 s2 s3
    go_simp
    try with_reducible rfl
  simp only [List.setIfInBounds_toArray, List.set_cons_zero, List.set_cons_succ]
  refine wpAnyH_ready (rs := [5]) (by kernel_rfl) (by simp) ?_
  refine AllReadyH.cons rfl (fun K hK => ?_) AllReadyH.nil
  go_simp
  refine (HV.out _ (floats_below HZ.out hHeld.2.2.2)).mono ?_
  rintro e w' ⟨rfl, rfl⟩
  refine hK.out _ _ (hHeld) (fun hHeld2 => ?_)
  clear hK K
  replace hHeld := hHeld2
  clear hHeld2
  refine take_op (i := 6) (d := 18) (v := ?_) rfl rfl (by kernel_rfl) (by kernel_rfl) (by kernel_rfl) (fun _ _ _ h => h) (Or.inl ⟨by rfl, ?hy6u37⟩) hHeld ?rest6u37
  case hy6u37 =>
    intro w' hS'
    go_simp
    try with_reducible rfl
  simp only [List.setIfInBounds_toArray, List.set_cons_zero, List.set_cons_succ]
  refine wpAnyH_ready (rs := [7]) (by kernel_rfl) (by simp) ?_
  refine AllReadyH.cons rfl (fun K hK => ?_) AllReadyH.nil
  go_simp
  refine (checkBlind_is n wd gp t sh T0 T1 true 0 Hc.out _).mono ?_
  rintro e W1 ⟨rfl, hb1⟩
  refine hK.out _ _ (⟨below_row hb1 hHeld.1, below_row hb1 hHeld.2.1, below_row hb1 hHeld.2.2.1, hHeld.2.2.2.trans (hb1.mono hHeld.2.2.2.size)⟩) (fun hHeld2 => ?_)
  clear hK K
  replace hHeld := hHeld2
  clear hHeld2
  refine take_op (i := 8) (d := 9) (v := ?_) rfl rfl (by kernel_rfl) (by kernel_rfl) (by kernel_rfl) (fun _ _ _ h => h) (Or.inl ⟨by rfl, ?hy8u38⟩) hHeld ?rest8u38
  case hy8u38 =>
    intro w' hS'
    go_simp
    try with_reducible rfl
  simp only [List.setIfInBounds_toArray, List.set_cons_zero, List.set_cons_succ]
  refine wpAnyH_done (by kernel_rfl) ?_ _
  obtain ⟨c1, c2, c3, hbx⟩ := hHeld
  have C1 := Lib.hid c1
  have C2 := Lib.hid c2
  have C3 := Lib.hid c3
  have HZ2 := Lib.hid (floats_below HZ.out hbx)
  clear c1 c2 c3 d1 d2 d3 hb HZ HV Hi Hc
  go_wp2_with (go_at_call 76; refine (HT.out _ _ _ _ C1.out C2.out C3.out HZ2.out).mono ?_; rintro e W3 ⟨rfl, hb3⟩; replace hbx := hbx.trans (hb3.mono hbx.size); clear hb3)
  go_ret3
  exact ⟨rfl, hbx⟩

end Go.Proofs.Ytelgcggcmjdhjaa
