/-
  DyW.
-/
import Derived.Test.YtdbleddcnknmiaaGreatDoorMg4

namespace Go.Proofs.YtdbleddcnknmiaaGreatDoor
open Go.ChangeShapes Go.WideShapes Go.ChangeAt Go.RowKit Go.Deep Go.Joins

attribute [local go_sem] run_store_f

set_option maxRecDepth 100000 in
set_option maxHeartbeats 4000000 in
theorem iKeepsWithin_F (n : Int) (wd gp : Nat) (t : Int) (sh : Nat) (hs ts : List Int) (hh : hs.length = 24) (ht : ts.length = 24) (fc : Int) (ps : List Int) (hp : ps.length = 24) (lo hi : Nat) (T0 : -32768 ≤ t) (T1 : t ≤ 32767) (hf : inF fc = false) (c : Int) (hc : cdP (okP ps) (okBl n wd gp t sh) (okB hs ts) false = c) (hne : c ≠ 0) (w : World) (hE : ErrT w) :
    Calls Tryz.prog 16 #[.agg (blindC n wd gp t sh), .agg (sunC hs ts), .int .i64 fc, .agg (i16s ps), .float .f32 lo, .float .f32 hi] w fun e w' => e = .returned (.tuple #[.bool false, .int .i64 c]) ∧ Below w.heap.size w w' := by
  have HC := Lib.hid (fun w => checkPlanned_no n wd gp t sh hs ts hh ht ps hp T0 T1 false c hc hne w)
  have HD := Lib.hid (fun w hE => codeD_call c w hE)
  have HF := Lib.hid hf
  have Hh := Lib.hid hh
  have Ht := Lib.hid ht
  have Hp := Lib.hid hp
  have hn := fun w => run_neq_held_nil (P := Tryz.prog) (w := w) 61 90 (.agg #[.int .i64 c]) (by kernel_rfl)
  have HE0 := Lib.hid hE
  clear hh ht hp hc hne hE hf
  go_enter Tryz.func16, Tryz.ntmps16
  go_upto_region 1 with (fail)
  refine abs_code (fun W => W.heap[w.heap.size]? = some (.cells (blindC n wd gp t sh) 33 (0, 0)) ∧ W.heap[w.heap.size + 1]? = some (.cells (sunC hs ts) 35 (0, 0)) ∧ W.heap[w.heap.size + 1 + 1]? = some (.cells (i16s ps) 37 (0, 0)) ∧ Below w.heap.size w W) ⟨(three_new _ _ _ _).1, (three_new _ _ _ _).2.1, (three_new _ _ _ _).2.2.1, (three_new _ _ _ _).2.2.2⟩ ?_
  rintro W ⟨h0, h1, h2, hb⟩
  generalize w.heap.size + 1 + 1 = b2 at *
  generalize w.heap.size + 1 = b1 at *
  have H0 := Lib.hid h0
  have H1 := Lib.hid h1
  have H2 := Lib.hid h2
  clear h0 h1 h2
  have HE := Lib.hid (errT_below HE0.out hb)
  refine wp_region_held_drew (S := (fun V => Below W.heap.size W V)) (by kernel_rfl) (Below.refl _ _).drew (fun hHeld => ?_)
  refine take_op (i := 0) (d := 15) (v := .agg (blindC n wd gp t sh)) rfl rfl (by kernel_rfl) (by kernel_rfl) (by kernel_rfl) (fun _ _ _ h => h) (yields_row (by rfl) 33 (.tmp 6) (by rfl) w.heap.size 0 5 (by rfl) 33 (blindC n wd gp t sh) (0, 0) _ (fun _ h => below_row h H0.out) Tryz.underlying33 rfl info_blind (blind_fits _ _ _ _ _) (blindC n wd gp t sh) (blind_all _ _ _ _ _)) hHeld ?_
  simp only [List.setIfInBounds_toArray, List.set_cons_zero, List.set_cons_succ]
  refine take_op (i := 1) (d := 16) (v := .agg (sunC hs ts)) rfl rfl (by kernel_rfl) (by kernel_rfl) (by kernel_rfl) (fun _ _ _ h => h) (yields_row (by rfl) 35 (.tmp 7) (by rfl) b1 0 48 (by rfl) 35 (sunC hs ts) (0, 0) _ (fun _ h => below_row h H1.out) Tryz.underlying35 rfl info_sun (sun_fits _ _ Hh.out Ht.out) (sunC hs ts) (sun_all _ _ Hh.out Ht.out)) hHeld ?_
  simp only [List.setIfInBounds_toArray, List.set_cons_zero, List.set_cons_succ]
  refine take_op (i := 2) (d := 17) (v := .agg (i16s ps)) rfl rfl (by kernel_rfl) (by kernel_rfl) (by kernel_rfl) (fun _ _ _ h => h) (yields_row (by rfl) 37 (.tmp 9) (by rfl) b2 0 24 (by rfl) 37 (i16s ps) (0, 0) _ (fun _ h => below_row h H2.out) Tryz.underlying37 rfl info_plan (by rw [i16s_size, Hp.out]; decide) (i16s ps) (i16s_all _ 24 Hp.out)) hHeld ?_
  simp only [List.setIfInBounds_toArray, List.set_cons_zero, List.set_cons_succ]
  refine take_op (i := 3) (d := 18) (v := ?_) rfl rfl (by kernel_rfl) (by kernel_rfl) (by kernel_rfl) (fun _ _ _ h => h) (Or.inl ⟨by rfl, ?hy3u59⟩) hHeld ?rest3u59
  case hy3u59 =>
    intro w' hS'
    go_simp
    try with_reducible rfl
  simp only [List.setIfInBounds_toArray, List.set_cons_zero, List.set_cons_succ]
  refine wpAnyH_ready (rs := [4]) (by kernel_rfl) (by simp) ?_
  refine AllReadyH.cons rfl (fun K hK => ?_) AllReadyH.nil
  go_simp
  refine (isFacing_is fc false HF.out _).mono ?_
  rintro e w' ⟨rfl, rfl⟩
  refine hK.out _ _ (hHeld) (fun hHeld2 => ?_)
  clear hK K
  replace hHeld := hHeld2
  clear hHeld2
  refine take_op (i := 5) (d := 20) (v := ?_) rfl rfl (by kernel_rfl) (by kernel_rfl) (by kernel_rfl) (fun _ _ _ h => h) (Or.inl ⟨by rfl, ?hy5u60⟩) hHeld ?rest5u60
  case hy5u60 =>
    intro w' hS'
    go_simp
    try with_reducible rfl
  simp only [List.setIfInBounds_toArray, List.set_cons_zero, List.set_cons_succ]
  refine take_op (i := 6) (d := 21) rfl rfl (by kernel_rfl) (by kernel_rfl) (by kernel_rfl) (fun _ _ _ h => h) (Or.inr ⟨by rfl, rfl⟩) hHeld ?_
  simp only [List.setIfInBounds_toArray, List.set_cons_zero, List.set_cons_succ]
  refine take_op (i := 7) (d := 22) rfl rfl (by kernel_rfl) (by kernel_rfl) (by kernel_rfl) (fun _ _ _ h => h) (Or.inr ⟨by rfl, rfl⟩) hHeld ?_
  simp only [List.setIfInBounds_toArray, List.set_cons_zero, List.set_cons_succ]
  refine take_op (i := 8) (d := 23) (v := ?_) rfl rfl (by kernel_rfl) (by kernel_rfl) (by kernel_rfl) (fun _ _ _ h => h) (Or.inl ⟨by rfl, ?hy8u61⟩) hHeld ?rest8u61
  case hy8u61 =>
    intro w' hS'
    go_simp
    try with_reducible rfl
  simp only [List.setIfInBounds_toArray, List.set_cons_zero, List.set_cons_succ]
  refine take_op (i := 9) (d := 24) (v := ?_) rfl rfl (by kernel_rfl) (by kernel_rfl) (by kernel_rfl) (fun _ _ _ h => h) (Or.inl ⟨by rfl, ?hy9u62⟩) hHeld ?rest9u62
  case hy9u62 =>
    intro w' hS'
    go_simp
    try with_reducible rfl
  simp only [List.setIfInBounds_toArray, List.set_cons_zero, List.set_cons_succ]
  refine take_op (i := 10) (d := 25) rfl rfl (by kernel_rfl) (by kernel_rfl) (by kernel_rfl) (fun _ _ _ h => h) (Or.inr ⟨by rfl, rfl⟩) hHeld ?_
  simp only [List.setIfInBounds_toArray, List.set_cons_zero, List.set_cons_succ]
  refine take_op (i := 11) (d := 26) rfl rfl (by kernel_rfl) (by kernel_rfl) (by kernel_rfl) (fun _ _ _ h => h) (Or.inr ⟨by rfl, rfl⟩) hHeld ?_
  simp only [List.setIfInBounds_toArray, List.set_cons_zero, List.set_cons_succ]
  refine take_op (i := 12) (d := 27) (v := ?_) rfl rfl (by kernel_rfl) (by kernel_rfl) (by kernel_rfl) (fun _ _ _ h => h) (Or.inl ⟨by rfl, ?hy12u63⟩) hHeld ?rest12u63
  case hy12u63 =>
    intro w' hS'
    go_simp
    try with_reducible rfl
  simp only [List.setIfInBounds_toArray, List.set_cons_zero, List.set_cons_succ]
  refine wpAnyH_ready (rs := [13]) (by kernel_rfl) (by simp) ?_
  refine AllReadyH.cons rfl (fun K hK => ?_) AllReadyH.nil
  go_simp
  refine (HC.out _).mono ?_
  rintro e W1 ⟨rfl, hb1⟩
  refine hK.out _ _ (hHeld.trans (hb1.mono hHeld.size)) (fun hHeld2 => ?_)
  clear hK K
  replace hHeld := hHeld2
  clear hHeld2
  clear hb1
  refine take_op (i := 14) (d := 14) (v := ?_) rfl rfl (by kernel_rfl) (by kernel_rfl) (by kernel_rfl) (fun _ _ _ h => h) (Or.inl ⟨by rfl, ?hy14u64⟩) hHeld ?rest14u64
  case hy14u64 =>
    intro w' hS'
    go_simp
    try with_reducible rfl
  simp only [List.setIfInBounds_toArray, List.set_cons_zero, List.set_cons_succ]
  refine wpAnyH_done (by kernel_rfl) ?_ _
  replace H0 := Lib.hid (below_row hHeld H0.out)
  replace H1 := Lib.hid (below_row hHeld H1.out)
  replace H2 := Lib.hid (below_row hHeld H2.out)
  replace HE := Lib.hid (errT_below HE.out hHeld)
  replace hb := hb.trans (hHeld.mono hb.size)
  clear hHeld
  go_wp2_with (go_at_call 30; refine (HD.out _ HE.out).mono ?_; rintro e W9 ⟨rfl, hb1⟩; replace hb := hb.trans (hb1.mono hb.size); clear hb1)
  go_ret2
  exact ⟨rfl, hb⟩

set_option maxRecDepth 100000 in
set_option maxHeartbeats 4000000 in
theorem iKeepsWithin_T (n : Int) (wd gp : Nat) (t : Int) (sh : Nat) (hs ts : List Int) (hh : hs.length = 24) (ht : ts.length = 24) (fc : Int) (ps : List Int) (hp : ps.length = 24) (lo hi : Nat) (T0 : -32768 ≤ t) (T1 : t ≤ 32767) (hf : inF fc = true) (hlo : partB lo = false) (c : Int) (hc : cdP (okP ps) (okBl n wd gp t sh) (okB hs ts) false = c) (hne : c ≠ 0) (w : World) (hE : ErrT w) :
    Calls Tryz.prog 16 #[.agg (blindC n wd gp t sh), .agg (sunC hs ts), .int .i64 fc, .agg (i16s ps), .float .f32 lo, .float .f32 hi] w fun e w' => e = .returned (.tuple #[.bool false, .int .i64 c]) ∧ Below w.heap.size w w' := by
  have HC := Lib.hid (fun w => checkPlanned_no n wd gp t sh hs ts hh ht ps hp T0 T1 false c hc hne w)
  have HD := Lib.hid (fun w hE => codeD_call c w hE)
  have HF := Lib.hid hf
  have HLo := Lib.hid hlo
  have Hh := Lib.hid hh
  have Ht := Lib.hid ht
  have Hp := Lib.hid hp
  have hn := fun w => run_neq_held_nil (P := Tryz.prog) (w := w) 61 90 (.agg #[.int .i64 c]) (by kernel_rfl)
  have HE0 := Lib.hid hE
  clear hh ht hp hc hne hE hf hlo
  go_enter Tryz.func16, Tryz.ntmps16
  go_upto_region 1 with (fail)
  refine abs_code (fun W => W.heap[w.heap.size]? = some (.cells (blindC n wd gp t sh) 33 (0, 0)) ∧ W.heap[w.heap.size + 1]? = some (.cells (sunC hs ts) 35 (0, 0)) ∧ W.heap[w.heap.size + 1 + 1]? = some (.cells (i16s ps) 37 (0, 0)) ∧ Below w.heap.size w W) ⟨(three_new _ _ _ _).1, (three_new _ _ _ _).2.1, (three_new _ _ _ _).2.2.1, (three_new _ _ _ _).2.2.2⟩ ?_
  rintro W ⟨h0, h1, h2, hb⟩
  generalize w.heap.size + 1 + 1 = b2 at *
  generalize w.heap.size + 1 = b1 at *
  have H0 := Lib.hid h0
  have H1 := Lib.hid h1
  have H2 := Lib.hid h2
  clear h0 h1 h2
  have HE := Lib.hid (errT_below HE0.out hb)
  refine wp_region_held_drew (S := (fun V => Below W.heap.size W V)) (by kernel_rfl) (Below.refl _ _).drew (fun hHeld => ?_)
  refine take_op (i := 0) (d := 15) (v := .agg (blindC n wd gp t sh)) rfl rfl (by kernel_rfl) (by kernel_rfl) (by kernel_rfl) (fun _ _ _ h => h) (yields_row (by rfl) 33 (.tmp 6) (by rfl) w.heap.size 0 5 (by rfl) 33 (blindC n wd gp t sh) (0, 0) _ (fun _ h => below_row h H0.out) Tryz.underlying33 rfl info_blind (blind_fits _ _ _ _ _) (blindC n wd gp t sh) (blind_all _ _ _ _ _)) hHeld ?_
  simp only [List.setIfInBounds_toArray, List.set_cons_zero, List.set_cons_succ]
  refine take_op (i := 1) (d := 16) (v := .agg (sunC hs ts)) rfl rfl (by kernel_rfl) (by kernel_rfl) (by kernel_rfl) (fun _ _ _ h => h) (yields_row (by rfl) 35 (.tmp 7) (by rfl) b1 0 48 (by rfl) 35 (sunC hs ts) (0, 0) _ (fun _ h => below_row h H1.out) Tryz.underlying35 rfl info_sun (sun_fits _ _ Hh.out Ht.out) (sunC hs ts) (sun_all _ _ Hh.out Ht.out)) hHeld ?_
  simp only [List.setIfInBounds_toArray, List.set_cons_zero, List.set_cons_succ]
  refine take_op (i := 2) (d := 17) (v := .agg (i16s ps)) rfl rfl (by kernel_rfl) (by kernel_rfl) (by kernel_rfl) (fun _ _ _ h => h) (yields_row (by rfl) 37 (.tmp 9) (by rfl) b2 0 24 (by rfl) 37 (i16s ps) (0, 0) _ (fun _ h => below_row h H2.out) Tryz.underlying37 rfl info_plan (by rw [i16s_size, Hp.out]; decide) (i16s ps) (i16s_all _ 24 Hp.out)) hHeld ?_
  simp only [List.setIfInBounds_toArray, List.set_cons_zero, List.set_cons_succ]
  refine take_op (i := 3) (d := 18) (v := ?_) rfl rfl (by kernel_rfl) (by kernel_rfl) (by kernel_rfl) (fun _ _ _ h => h) (Or.inl ⟨by rfl, ?hy3u65⟩) hHeld ?rest3u65
  case hy3u65 =>
    intro w' hS'
    go_simp
    try with_reducible rfl
  simp only [List.setIfInBounds_toArray, List.set_cons_zero, List.set_cons_succ]
  refine wpAnyH_ready (rs := [4]) (by kernel_rfl) (by simp) ?_
  refine AllReadyH.cons rfl (fun K hK => ?_) AllReadyH.nil
  go_simp
  refine (isFacing_is fc true HF.out _).mono ?_
  rintro e w' ⟨rfl, rfl⟩
  refine hK.out _ _ (hHeld) (fun hHeld2 => ?_)
  clear hK K
  replace hHeld := hHeld2
  clear hHeld2
  refine take_op (i := 5) (d := 20) (v := ?_) rfl rfl (by kernel_rfl) (by kernel_rfl) (by kernel_rfl) (fun _ _ _ h => h) (Or.inl ⟨by rfl, ?hy5u66⟩) hHeld ?rest5u66
  case hy5u66 =>
    intro w' hS'
    go_simp
    try with_reducible rfl
  simp only [List.setIfInBounds_toArray, List.set_cons_zero, List.set_cons_succ]
  refine take_op (i := 6) (d := 21) (v := ?_) rfl rfl (by kernel_rfl) (by kernel_rfl) (by kernel_rfl) (fun _ _ _ h => h) (Or.inl ⟨by rfl, ?hy6u67⟩) hHeld ?rest6u67
  case hy6u67 =>
    intro w' hS'
    go_simp
    try with_reducible rfl
  simp only [List.setIfInBounds_toArray, List.set_cons_zero, List.set_cons_succ]
  refine wpAnyH_ready (rs := [7]) (by kernel_rfl) (by simp) ?_
  refine AllReadyH.cons rfl (fun K hK => ?_) AllReadyH.nil
  go_simp
  refine (isPart_is lo false HLo.out _).mono ?_
  rintro e w' ⟨rfl, rfl⟩
  refine hK.out _ _ (hHeld) (fun hHeld2 => ?_)
  clear hK K
  replace hHeld := hHeld2
  clear hHeld2
  refine take_op (i := 8) (d := 23) (v := ?_) rfl rfl (by kernel_rfl) (by kernel_rfl) (by kernel_rfl) (fun _ _ _ h => h) (Or.inl ⟨by rfl, ?hy8u68⟩) hHeld ?rest8u68
  case hy8u68 =>
    intro w' hS'
    go_simp
    try with_reducible rfl
  simp only [List.setIfInBounds_toArray, List.set_cons_zero, List.set_cons_succ]
  refine take_op (i := 9) (d := 24) (v := ?_) rfl rfl (by kernel_rfl) (by kernel_rfl) (by kernel_rfl) (fun _ _ _ h => h) (Or.inl ⟨by rfl, ?hy9u69⟩) hHeld ?rest9u69
  case hy9u69 =>
    intro w' hS'
    go_simp
    try with_reducible rfl
  simp only [List.setIfInBounds_toArray, List.set_cons_zero, List.set_cons_succ]
  refine take_op (i := 10) (d := 25) rfl rfl (by kernel_rfl) (by kernel_rfl) (by kernel_rfl) (fun _ _ _ h => h) (Or.inr ⟨by rfl, rfl⟩) hHeld ?_
  simp only [List.setIfInBounds_toArray, List.set_cons_zero, List.set_cons_succ]
  refine take_op (i := 11) (d := 26) rfl rfl (by kernel_rfl) (by kernel_rfl) (by kernel_rfl) (fun _ _ _ h => h) (Or.inr ⟨by rfl, rfl⟩) hHeld ?_
  simp only [List.setIfInBounds_toArray, List.set_cons_zero, List.set_cons_succ]
  refine take_op (i := 12) (d := 27) (v := ?_) rfl rfl (by kernel_rfl) (by kernel_rfl) (by kernel_rfl) (fun _ _ _ h => h) (Or.inl ⟨by rfl, ?hy12u70⟩) hHeld ?rest12u70
  case hy12u70 =>
    intro w' hS'
    go_simp
    try with_reducible rfl
  simp only [List.setIfInBounds_toArray, List.set_cons_zero, List.set_cons_succ]
  refine wpAnyH_ready (rs := [13]) (by kernel_rfl) (by simp) ?_
  refine AllReadyH.cons rfl (fun K hK => ?_) AllReadyH.nil
  go_simp
  refine (HC.out _).mono ?_
  rintro e W1 ⟨rfl, hb1⟩
  refine hK.out _ _ (hHeld.trans (hb1.mono hHeld.size)) (fun hHeld2 => ?_)
  clear hK K
  replace hHeld := hHeld2
  clear hHeld2
  clear hb1
  refine take_op (i := 14) (d := 14) (v := ?_) rfl rfl (by kernel_rfl) (by kernel_rfl) (by kernel_rfl) (fun _ _ _ h => h) (Or.inl ⟨by rfl, ?hy14u71⟩) hHeld ?rest14u71
  case hy14u71 =>
    intro w' hS'
    go_simp
    try with_reducible rfl
  simp only [List.setIfInBounds_toArray, List.set_cons_zero, List.set_cons_succ]
  refine wpAnyH_done (by kernel_rfl) ?_ _
  replace H0 := Lib.hid (below_row hHeld H0.out)
  replace H1 := Lib.hid (below_row hHeld H1.out)
  replace H2 := Lib.hid (below_row hHeld H2.out)
  replace HE := Lib.hid (errT_below HE.out hHeld)
  replace hb := hb.trans (hHeld.mono hb.size)
  clear hHeld
  go_wp2_with (go_at_call 30; refine (HD.out _ HE.out).mono ?_; rintro e W9 ⟨rfl, hb1⟩; replace hb := hb.trans (hb1.mono hb.size); clear hb1)
  go_ret2
  exact ⟨rfl, hb⟩

set_option maxRecDepth 100000 in
set_option maxHeartbeats 4000000 in
theorem iKeepsWithin_TT (n : Int) (wd gp : Nat) (t : Int) (sh : Nat) (hs ts : List Int) (hh : hs.length = 24) (ht : ts.length = 24) (fc : Int) (ps : List Int) (hp : ps.length = 24) (lo hi : Nat) (T0 : -32768 ≤ t) (T1 : t ≤ 32767) (hf : inF fc = true) (hlo : partB lo = true) (hgh : Bool) (hhi : partB hi = hgh) (c : Int) (hc : cdP (okP ps) (okBl n wd gp t sh) (okB hs ts) hgh = c) (hne : c ≠ 0) (w : World) (hE : ErrT w) :
    Calls Tryz.prog 16 #[.agg (blindC n wd gp t sh), .agg (sunC hs ts), .int .i64 fc, .agg (i16s ps), .float .f32 lo, .float .f32 hi] w fun e w' => e = .returned (.tuple #[.bool false, .int .i64 c]) ∧ Below w.heap.size w w' := by
  have HC := Lib.hid (fun w => checkPlanned_no n wd gp t sh hs ts hh ht ps hp T0 T1 hgh c hc hne w)
  have HD := Lib.hid (fun w hE => codeD_call c w hE)
  have HF := Lib.hid hf
  have HLo := Lib.hid hlo
  have HHi := Lib.hid hhi
  have Hh := Lib.hid hh
  have Ht := Lib.hid ht
  have Hp := Lib.hid hp
  have hn := fun w => run_neq_held_nil (P := Tryz.prog) (w := w) 61 90 (.agg #[.int .i64 c]) (by kernel_rfl)
  have HE0 := Lib.hid hE
  clear hh ht hp hc hne hE hf hlo hhi
  go_enter Tryz.func16, Tryz.ntmps16
  go_upto_region 1 with (fail)
  refine abs_code (fun W => W.heap[w.heap.size]? = some (.cells (blindC n wd gp t sh) 33 (0, 0)) ∧ W.heap[w.heap.size + 1]? = some (.cells (sunC hs ts) 35 (0, 0)) ∧ W.heap[w.heap.size + 1 + 1]? = some (.cells (i16s ps) 37 (0, 0)) ∧ Below w.heap.size w W) ⟨(three_new _ _ _ _).1, (three_new _ _ _ _).2.1, (three_new _ _ _ _).2.2.1, (three_new _ _ _ _).2.2.2⟩ ?_
  rintro W ⟨h0, h1, h2, hb⟩
  generalize w.heap.size + 1 + 1 = b2 at *
  generalize w.heap.size + 1 = b1 at *
  have H0 := Lib.hid h0
  have H1 := Lib.hid h1
  have H2 := Lib.hid h2
  clear h0 h1 h2
  have HE := Lib.hid (errT_below HE0.out hb)
  refine wp_region_held_drew (S := (fun V => Below W.heap.size W V)) (by kernel_rfl) (Below.refl _ _).drew (fun hHeld => ?_)
  refine take_op (i := 0) (d := 15) (v := .agg (blindC n wd gp t sh)) rfl rfl (by kernel_rfl) (by kernel_rfl) (by kernel_rfl) (fun _ _ _ h => h) (yields_row (by rfl) 33 (.tmp 6) (by rfl) w.heap.size 0 5 (by rfl) 33 (blindC n wd gp t sh) (0, 0) _ (fun _ h => below_row h H0.out) Tryz.underlying33 rfl info_blind (blind_fits _ _ _ _ _) (blindC n wd gp t sh) (blind_all _ _ _ _ _)) hHeld ?_
  simp only [List.setIfInBounds_toArray, List.set_cons_zero, List.set_cons_succ]
  refine take_op (i := 1) (d := 16) (v := .agg (sunC hs ts)) rfl rfl (by kernel_rfl) (by kernel_rfl) (by kernel_rfl) (fun _ _ _ h => h) (yields_row (by rfl) 35 (.tmp 7) (by rfl) b1 0 48 (by rfl) 35 (sunC hs ts) (0, 0) _ (fun _ h => below_row h H1.out) Tryz.underlying35 rfl info_sun (sun_fits _ _ Hh.out Ht.out) (sunC hs ts) (sun_all _ _ Hh.out Ht.out)) hHeld ?_
  simp only [List.setIfInBounds_toArray, List.set_cons_zero, List.set_cons_succ]
  refine take_op (i := 2) (d := 17) (v := .agg (i16s ps)) rfl rfl (by kernel_rfl) (by kernel_rfl) (by kernel_rfl) (fun _ _ _ h => h) (yields_row (by rfl) 37 (.tmp 9) (by rfl) b2 0 24 (by rfl) 37 (i16s ps) (0, 0) _ (fun _ h => below_row h H2.out) Tryz.underlying37 rfl info_plan (by rw [i16s_size, Hp.out]; decide) (i16s ps) (i16s_all _ 24 Hp.out)) hHeld ?_
  simp only [List.setIfInBounds_toArray, List.set_cons_zero, List.set_cons_succ]
  refine take_op (i := 3) (d := 18) (v := ?_) rfl rfl (by kernel_rfl) (by kernel_rfl) (by kernel_rfl) (fun _ _ _ h => h) (Or.inl ⟨by rfl, ?hy3u72⟩) hHeld ?rest3u72
  case hy3u72 =>
    intro w' hS'
    go_simp
    try with_reducible rfl
  simp only [List.setIfInBounds_toArray, List.set_cons_zero, List.set_cons_succ]
  refine wpAnyH_ready (rs := [4]) (by kernel_rfl) (by simp) ?_
  refine AllReadyH.cons rfl (fun K hK => ?_) AllReadyH.nil
  go_simp
  refine (isFacing_is fc true HF.out _).mono ?_
  rintro e w' ⟨rfl, rfl⟩
  refine hK.out _ _ (hHeld) (fun hHeld2 => ?_)
  clear hK K
  replace hHeld := hHeld2
  clear hHeld2
  refine take_op (i := 5) (d := 20) (v := ?_) rfl rfl (by kernel_rfl) (by kernel_rfl) (by kernel_rfl) (fun _ _ _ h => h) (Or.inl ⟨by rfl, ?hy5u73⟩) hHeld ?rest5u73
  case hy5u73 =>
    intro w' hS'
    go_simp
    try with_reducible rfl
  simp only [List.setIfInBounds_toArray, List.set_cons_zero, List.set_cons_succ]
  refine take_op (i := 6) (d := 21) (v := ?_) rfl rfl (by kernel_rfl) (by kernel_rfl) (by kernel_rfl) (fun _ _ _ h => h) (Or.inl ⟨by rfl, ?hy6u74⟩) hHeld ?rest6u74
  case hy6u74 =>
    intro w' hS'
    go_simp
    try with_reducible rfl
  simp only [List.setIfInBounds_toArray, List.set_cons_zero, List.set_cons_succ]
  refine wpAnyH_ready (rs := [7]) (by kernel_rfl) (by simp) ?_
  refine AllReadyH.cons rfl (fun K hK => ?_) AllReadyH.nil
  go_simp
  refine (isPart_is lo true HLo.out _).mono ?_
  rintro e w' ⟨rfl, rfl⟩
  refine hK.out _ _ (hHeld) (fun hHeld2 => ?_)
  clear hK K
  replace hHeld := hHeld2
  clear hHeld2
  refine take_op (i := 8) (d := 23) (v := ?_) rfl rfl (by kernel_rfl) (by kernel_rfl) (by kernel_rfl) (fun _ _ _ h => h) (Or.inl ⟨by rfl, ?hy8u75⟩) hHeld ?rest8u75
  case hy8u75 =>
    intro w' hS'
    go_simp
    try with_reducible rfl
  simp only [List.setIfInBounds_toArray, List.set_cons_zero, List.set_cons_succ]
  refine take_op (i := 9) (d := 24) (v := ?_) rfl rfl (by kernel_rfl) (by kernel_rfl) (by kernel_rfl) (fun _ _ _ h => h) (Or.inl ⟨by rfl, ?hy9u76⟩) hHeld ?rest9u76
  case hy9u76 =>
    intro w' hS'
    go_simp
    try with_reducible rfl
  simp only [List.setIfInBounds_toArray, List.set_cons_zero, List.set_cons_succ]
  refine take_op (i := 10) (d := 25) (v := ?_) rfl rfl (by kernel_rfl) (by kernel_rfl) (by kernel_rfl) (fun _ _ _ h => h) (Or.inl ⟨by rfl, ?hy10u77⟩) hHeld ?rest10u77
  case hy10u77 =>
    intro w' hS'
    go_simp
    try with_reducible rfl
  simp only [List.setIfInBounds_toArray, List.set_cons_zero, List.set_cons_succ]
  refine wpAnyH_ready (rs := [11]) (by kernel_rfl) (by simp) ?_
  refine AllReadyH.cons rfl (fun K hK => ?_) AllReadyH.nil
  go_simp
  refine (isPart_is hi hgh HHi.out _).mono ?_
  rintro e w' ⟨rfl, rfl⟩
  refine hK.out _ _ (hHeld) (fun hHeld2 => ?_)
  clear hK K
  replace hHeld := hHeld2
  clear hHeld2
  refine take_op (i := 12) (d := 27) (v := ?_) rfl rfl (by kernel_rfl) (by kernel_rfl) (by kernel_rfl) (fun _ _ _ h => h) (Or.inl ⟨by rfl, ?hy12u78⟩) hHeld ?rest12u78
  case hy12u78 =>
    intro w' hS'
    go_simp
    try with_reducible rfl
  simp only [List.setIfInBounds_toArray, List.set_cons_zero, List.set_cons_succ]
  refine wpAnyH_ready (rs := [13]) (by kernel_rfl) (by simp) ?_
  refine AllReadyH.cons rfl (fun K hK => ?_) AllReadyH.nil
  go_simp
  refine (HC.out _).mono ?_
  rintro e W1 ⟨rfl, hb1⟩
  refine hK.out _ _ (hHeld.trans (hb1.mono hHeld.size)) (fun hHeld2 => ?_)
  clear hK K
  replace hHeld := hHeld2
  clear hHeld2
  clear hb1
  refine take_op (i := 14) (d := 14) (v := ?_) rfl rfl (by kernel_rfl) (by kernel_rfl) (by kernel_rfl) (fun _ _ _ h => h) (Or.inl ⟨by rfl, ?hy14u79⟩) hHeld ?rest14u79
  case hy14u79 =>
    intro w' hS'
    go_simp
    try with_reducible rfl
  simp only [List.setIfInBounds_toArray, List.set_cons_zero, List.set_cons_succ]
  refine wpAnyH_done (by kernel_rfl) ?_ _
  replace H0 := Lib.hid (below_row hHeld H0.out)
  replace H1 := Lib.hid (below_row hHeld H1.out)
  replace H2 := Lib.hid (below_row hHeld H2.out)
  replace HE := Lib.hid (errT_below HE.out hHeld)
  replace hb := hb.trans (hHeld.mono hb.size)
  clear hHeld
  go_wp2_with (go_at_call 30; refine (HD.out _ HE.out).mono ?_; rintro e W9 ⟨rfl, hb1⟩; replace hb := hb.trans (hb1.mono hb.size); clear hb1)
  go_ret2
  exact ⟨rfl, hb⟩

set_option maxRecDepth 100000 in
set_option maxHeartbeats 4000000 in
theorem iFirstOutside_F (n : Int) (wd gp : Nat) (t : Int) (sh : Nat) (hs ts : List Int) (hh : hs.length = 24) (ht : ts.length = 24) (fc : Int) (ps : List Int) (hp : ps.length = 24) (lo hi : Nat) (T0 : -32768 ≤ t) (T1 : t ≤ 32767) (hf : inF fc = false) (c : Int) (hc : cdP (okP ps) (okBl n wd gp t sh) (okB hs ts) false = c) (hne : c ≠ 0) (w : World) (hE : ErrT w) :
    Calls Tryz.prog 18 #[.agg (blindC n wd gp t sh), .agg (sunC hs ts), .int .i64 fc, .agg (i16s ps), .float .f32 lo, .float .f32 hi] w fun e w' => e = .returned (.tuple #[.int .i64 0, .int .i64 c]) ∧ Below w.heap.size w w' := by
  have HC := Lib.hid (fun w => checkPlanned_no n wd gp t sh hs ts hh ht ps hp T0 T1 false c hc hne w)
  have HD := Lib.hid (fun w hE => codeD_call c w hE)
  have HF := Lib.hid hf
  have Hh := Lib.hid hh
  have Ht := Lib.hid ht
  have Hp := Lib.hid hp
  have hn := fun w => run_neq_held_nil (P := Tryz.prog) (w := w) 61 90 (.agg #[.int .i64 c]) (by kernel_rfl)
  have HE0 := Lib.hid hE
  clear hh ht hp hc hne hE hf
  go_enter Tryz.func18, Tryz.ntmps18
  go_upto_region 1 with (fail)
  refine abs_code (fun W => W.heap[w.heap.size]? = some (.cells (blindC n wd gp t sh) 33 (0, 0)) ∧ W.heap[w.heap.size + 1]? = some (.cells (sunC hs ts) 35 (0, 0)) ∧ W.heap[w.heap.size + 1 + 1]? = some (.cells (i16s ps) 37 (0, 0)) ∧ Below w.heap.size w W) ⟨(three_new _ _ _ _).1, (three_new _ _ _ _).2.1, (three_new _ _ _ _).2.2.1, (three_new _ _ _ _).2.2.2⟩ ?_
  rintro W ⟨h0, h1, h2, hb⟩
  generalize w.heap.size + 1 + 1 = b2 at *
  generalize w.heap.size + 1 = b1 at *
  have H0 := Lib.hid h0
  have H1 := Lib.hid h1
  have H2 := Lib.hid h2
  clear h0 h1 h2
  have HE := Lib.hid (errT_below HE0.out hb)
  refine wp_region_held_drew (S := (fun V => Below W.heap.size W V)) (by kernel_rfl) (Below.refl _ _).drew (fun hHeld => ?_)
  refine take_op (i := 0) (d := 16) (v := .agg (blindC n wd gp t sh)) rfl rfl (by kernel_rfl) (by kernel_rfl) (by kernel_rfl) (fun _ _ _ h => h) (yields_row (by rfl) 33 (.tmp 6) (by rfl) w.heap.size 0 5 (by rfl) 33 (blindC n wd gp t sh) (0, 0) _ (fun _ h => below_row h H0.out) Tryz.underlying33 rfl info_blind (blind_fits _ _ _ _ _) (blindC n wd gp t sh) (blind_all _ _ _ _ _)) hHeld ?_
  simp only [List.setIfInBounds_toArray, List.set_cons_zero, List.set_cons_succ]
  refine take_op (i := 1) (d := 17) (v := .agg (sunC hs ts)) rfl rfl (by kernel_rfl) (by kernel_rfl) (by kernel_rfl) (fun _ _ _ h => h) (yields_row (by rfl) 35 (.tmp 7) (by rfl) b1 0 48 (by rfl) 35 (sunC hs ts) (0, 0) _ (fun _ h => below_row h H1.out) Tryz.underlying35 rfl info_sun (sun_fits _ _ Hh.out Ht.out) (sunC hs ts) (sun_all _ _ Hh.out Ht.out)) hHeld ?_
  simp only [List.setIfInBounds_toArray, List.set_cons_zero, List.set_cons_succ]
  refine take_op (i := 2) (d := 18) (v := .agg (i16s ps)) rfl rfl (by kernel_rfl) (by kernel_rfl) (by kernel_rfl) (fun _ _ _ h => h) (yields_row (by rfl) 37 (.tmp 9) (by rfl) b2 0 24 (by rfl) 37 (i16s ps) (0, 0) _ (fun _ h => below_row h H2.out) Tryz.underlying37 rfl info_plan (by rw [i16s_size, Hp.out]; decide) (i16s ps) (i16s_all _ 24 Hp.out)) hHeld ?_
  simp only [List.setIfInBounds_toArray, List.set_cons_zero, List.set_cons_succ]
  refine take_op (i := 3) (d := 19) (v := ?_) rfl rfl (by kernel_rfl) (by kernel_rfl) (by kernel_rfl) (fun _ _ _ h => h) (Or.inl ⟨by rfl, ?hy3u80⟩) hHeld ?rest3u80
  case hy3u80 =>
    intro w' hS'
    go_simp
    try with_reducible rfl
  simp only [List.setIfInBounds_toArray, List.set_cons_zero, List.set_cons_succ]
  refine wpAnyH_ready (rs := [4]) (by kernel_rfl) (by simp) ?_
  refine AllReadyH.cons rfl (fun K hK => ?_) AllReadyH.nil
  go_simp
  refine (isFacing_is fc false HF.out _).mono ?_
  rintro e w' ⟨rfl, rfl⟩
  refine hK.out _ _ (hHeld) (fun hHeld2 => ?_)
  clear hK K
  replace hHeld := hHeld2
  clear hHeld2
  refine take_op (i := 5) (d := 21) (v := ?_) rfl rfl (by kernel_rfl) (by kernel_rfl) (by kernel_rfl) (fun _ _ _ h => h) (Or.inl ⟨by rfl, ?hy5u81⟩) hHeld ?rest5u81
  case hy5u81 =>
    intro w' hS'
    go_simp
    try with_reducible rfl
  simp only [List.setIfInBounds_toArray, List.set_cons_zero, List.set_cons_succ]
  refine take_op (i := 6) (d := 22) rfl rfl (by kernel_rfl) (by kernel_rfl) (by kernel_rfl) (fun _ _ _ h => h) (Or.inr ⟨by rfl, rfl⟩) hHeld ?_
  simp only [List.setIfInBounds_toArray, List.set_cons_zero, List.set_cons_succ]
  refine take_op (i := 7) (d := 23) rfl rfl (by kernel_rfl) (by kernel_rfl) (by kernel_rfl) (fun _ _ _ h => h) (Or.inr ⟨by rfl, rfl⟩) hHeld ?_
  simp only [List.setIfInBounds_toArray, List.set_cons_zero, List.set_cons_succ]
  refine take_op (i := 8) (d := 24) (v := ?_) rfl rfl (by kernel_rfl) (by kernel_rfl) (by kernel_rfl) (fun _ _ _ h => h) (Or.inl ⟨by rfl, ?hy8u82⟩) hHeld ?rest8u82
  case hy8u82 =>
    intro w' hS'
    go_simp
    try with_reducible rfl
  simp only [List.setIfInBounds_toArray, List.set_cons_zero, List.set_cons_succ]
  refine take_op (i := 9) (d := 25) (v := ?_) rfl rfl (by kernel_rfl) (by kernel_rfl) (by kernel_rfl) (fun _ _ _ h => h) (Or.inl ⟨by rfl, ?hy9u83⟩) hHeld ?rest9u83
  case hy9u83 =>
    intro w' hS'
    go_simp
    try with_reducible rfl
  simp only [List.setIfInBounds_toArray, List.set_cons_zero, List.set_cons_succ]
  refine take_op (i := 10) (d := 26) rfl rfl (by kernel_rfl) (by kernel_rfl) (by kernel_rfl) (fun _ _ _ h => h) (Or.inr ⟨by rfl, rfl⟩) hHeld ?_
  simp only [List.setIfInBounds_toArray, List.set_cons_zero, List.set_cons_succ]
  refine take_op (i := 11) (d := 27) rfl rfl (by kernel_rfl) (by kernel_rfl) (by kernel_rfl) (fun _ _ _ h => h) (Or.inr ⟨by rfl, rfl⟩) hHeld ?_
  simp only [List.setIfInBounds_toArray, List.set_cons_zero, List.set_cons_succ]
  refine take_op (i := 12) (d := 28) (v := ?_) rfl rfl (by kernel_rfl) (by kernel_rfl) (by kernel_rfl) (fun _ _ _ h => h) (Or.inl ⟨by rfl, ?hy12u84⟩) hHeld ?rest12u84
  case hy12u84 =>
    intro w' hS'
    go_simp
    try with_reducible rfl
  simp only [List.setIfInBounds_toArray, List.set_cons_zero, List.set_cons_succ]
  refine wpAnyH_ready (rs := [13]) (by kernel_rfl) (by simp) ?_
  refine AllReadyH.cons rfl (fun K hK => ?_) AllReadyH.nil
  go_simp
  refine (HC.out _).mono ?_
  rintro e W1 ⟨rfl, hb1⟩
  refine hK.out _ _ (hHeld.trans (hb1.mono hHeld.size)) (fun hHeld2 => ?_)
  clear hK K
  replace hHeld := hHeld2
  clear hHeld2
  clear hb1
  refine take_op (i := 14) (d := 14) (v := ?_) rfl rfl (by kernel_rfl) (by kernel_rfl) (by kernel_rfl) (fun _ _ _ h => h) (Or.inl ⟨by rfl, ?hy14u85⟩) hHeld ?rest14u85
  case hy14u85 =>
    intro w' hS'
    go_simp
    try with_reducible rfl
  simp only [List.setIfInBounds_toArray, List.set_cons_zero, List.set_cons_succ]
  refine wpAnyH_done (by kernel_rfl) ?_ _
  replace H0 := Lib.hid (below_row hHeld H0.out)
  replace H1 := Lib.hid (below_row hHeld H1.out)
  replace H2 := Lib.hid (below_row hHeld H2.out)
  replace HE := Lib.hid (errT_below HE.out hHeld)
  replace hb := hb.trans (hHeld.mono hb.size)
  clear hHeld
  go_wp2_with (go_at_call 30; refine (HD.out _ HE.out).mono ?_; rintro e W9 ⟨rfl, hb1⟩; replace hb := hb.trans (hb1.mono hb.size); clear hb1)
  go_ret2
  exact ⟨rfl, hb⟩

set_option maxRecDepth 100000 in
set_option maxHeartbeats 4000000 in
theorem iFirstOutside_T (n : Int) (wd gp : Nat) (t : Int) (sh : Nat) (hs ts : List Int) (hh : hs.length = 24) (ht : ts.length = 24) (fc : Int) (ps : List Int) (hp : ps.length = 24) (lo hi : Nat) (T0 : -32768 ≤ t) (T1 : t ≤ 32767) (hf : inF fc = true) (hlo : partB lo = false) (c : Int) (hc : cdP (okP ps) (okBl n wd gp t sh) (okB hs ts) false = c) (hne : c ≠ 0) (w : World) (hE : ErrT w) :
    Calls Tryz.prog 18 #[.agg (blindC n wd gp t sh), .agg (sunC hs ts), .int .i64 fc, .agg (i16s ps), .float .f32 lo, .float .f32 hi] w fun e w' => e = .returned (.tuple #[.int .i64 0, .int .i64 c]) ∧ Below w.heap.size w w' := by
  have HC := Lib.hid (fun w => checkPlanned_no n wd gp t sh hs ts hh ht ps hp T0 T1 false c hc hne w)
  have HD := Lib.hid (fun w hE => codeD_call c w hE)
  have HF := Lib.hid hf
  have HLo := Lib.hid hlo
  have Hh := Lib.hid hh
  have Ht := Lib.hid ht
  have Hp := Lib.hid hp
  have hn := fun w => run_neq_held_nil (P := Tryz.prog) (w := w) 61 90 (.agg #[.int .i64 c]) (by kernel_rfl)
  have HE0 := Lib.hid hE
  clear hh ht hp hc hne hE hf hlo
  go_enter Tryz.func18, Tryz.ntmps18
  go_upto_region 1 with (fail)
  refine abs_code (fun W => W.heap[w.heap.size]? = some (.cells (blindC n wd gp t sh) 33 (0, 0)) ∧ W.heap[w.heap.size + 1]? = some (.cells (sunC hs ts) 35 (0, 0)) ∧ W.heap[w.heap.size + 1 + 1]? = some (.cells (i16s ps) 37 (0, 0)) ∧ Below w.heap.size w W) ⟨(three_new _ _ _ _).1, (three_new _ _ _ _).2.1, (three_new _ _ _ _).2.2.1, (three_new _ _ _ _).2.2.2⟩ ?_
  rintro W ⟨h0, h1, h2, hb⟩
  generalize w.heap.size + 1 + 1 = b2 at *
  generalize w.heap.size + 1 = b1 at *
  have H0 := Lib.hid h0
  have H1 := Lib.hid h1
  have H2 := Lib.hid h2
  clear h0 h1 h2
  have HE := Lib.hid (errT_below HE0.out hb)
  refine wp_region_held_drew (S := (fun V => Below W.heap.size W V)) (by kernel_rfl) (Below.refl _ _).drew (fun hHeld => ?_)
  refine take_op (i := 0) (d := 16) (v := .agg (blindC n wd gp t sh)) rfl rfl (by kernel_rfl) (by kernel_rfl) (by kernel_rfl) (fun _ _ _ h => h) (yields_row (by rfl) 33 (.tmp 6) (by rfl) w.heap.size 0 5 (by rfl) 33 (blindC n wd gp t sh) (0, 0) _ (fun _ h => below_row h H0.out) Tryz.underlying33 rfl info_blind (blind_fits _ _ _ _ _) (blindC n wd gp t sh) (blind_all _ _ _ _ _)) hHeld ?_
  simp only [List.setIfInBounds_toArray, List.set_cons_zero, List.set_cons_succ]
  refine take_op (i := 1) (d := 17) (v := .agg (sunC hs ts)) rfl rfl (by kernel_rfl) (by kernel_rfl) (by kernel_rfl) (fun _ _ _ h => h) (yields_row (by rfl) 35 (.tmp 7) (by rfl) b1 0 48 (by rfl) 35 (sunC hs ts) (0, 0) _ (fun _ h => below_row h H1.out) Tryz.underlying35 rfl info_sun (sun_fits _ _ Hh.out Ht.out) (sunC hs ts) (sun_all _ _ Hh.out Ht.out)) hHeld ?_
  simp only [List.setIfInBounds_toArray, List.set_cons_zero, List.set_cons_succ]
  refine take_op (i := 2) (d := 18) (v := .agg (i16s ps)) rfl rfl (by kernel_rfl) (by kernel_rfl) (by kernel_rfl) (fun _ _ _ h => h) (yields_row (by rfl) 37 (.tmp 9) (by rfl) b2 0 24 (by rfl) 37 (i16s ps) (0, 0) _ (fun _ h => below_row h H2.out) Tryz.underlying37 rfl info_plan (by rw [i16s_size, Hp.out]; decide) (i16s ps) (i16s_all _ 24 Hp.out)) hHeld ?_
  simp only [List.setIfInBounds_toArray, List.set_cons_zero, List.set_cons_succ]
  refine take_op (i := 3) (d := 19) (v := ?_) rfl rfl (by kernel_rfl) (by kernel_rfl) (by kernel_rfl) (fun _ _ _ h => h) (Or.inl ⟨by rfl, ?hy3u86⟩) hHeld ?rest3u86
  case hy3u86 =>
    intro w' hS'
    go_simp
    try with_reducible rfl
  simp only [List.setIfInBounds_toArray, List.set_cons_zero, List.set_cons_succ]
  refine wpAnyH_ready (rs := [4]) (by kernel_rfl) (by simp) ?_
  refine AllReadyH.cons rfl (fun K hK => ?_) AllReadyH.nil
  go_simp
  refine (isFacing_is fc true HF.out _).mono ?_
  rintro e w' ⟨rfl, rfl⟩
  refine hK.out _ _ (hHeld) (fun hHeld2 => ?_)
  clear hK K
  replace hHeld := hHeld2
  clear hHeld2
  refine take_op (i := 5) (d := 21) (v := ?_) rfl rfl (by kernel_rfl) (by kernel_rfl) (by kernel_rfl) (fun _ _ _ h => h) (Or.inl ⟨by rfl, ?hy5u87⟩) hHeld ?rest5u87
  case hy5u87 =>
    intro w' hS'
    go_simp
    try with_reducible rfl
  simp only [List.setIfInBounds_toArray, List.set_cons_zero, List.set_cons_succ]
  refine take_op (i := 6) (d := 22) (v := ?_) rfl rfl (by kernel_rfl) (by kernel_rfl) (by kernel_rfl) (fun _ _ _ h => h) (Or.inl ⟨by rfl, ?hy6u88⟩) hHeld ?rest6u88
  case hy6u88 =>
    intro w' hS'
    go_simp
    try with_reducible rfl
  simp only [List.setIfInBounds_toArray, List.set_cons_zero, List.set_cons_succ]
  refine wpAnyH_ready (rs := [7]) (by kernel_rfl) (by simp) ?_
  refine AllReadyH.cons rfl (fun K hK => ?_) AllReadyH.nil
  go_simp
  refine (isPart_is lo false HLo.out _).mono ?_
  rintro e w' ⟨rfl, rfl⟩
  refine hK.out _ _ (hHeld) (fun hHeld2 => ?_)
  clear hK K
  replace hHeld := hHeld2
  clear hHeld2
  refine take_op (i := 8) (d := 24) (v := ?_) rfl rfl (by kernel_rfl) (by kernel_rfl) (by kernel_rfl) (fun _ _ _ h => h) (Or.inl ⟨by rfl, ?hy8u89⟩) hHeld ?rest8u89
  case hy8u89 =>
    intro w' hS'
    go_simp
    try with_reducible rfl
  simp only [List.setIfInBounds_toArray, List.set_cons_zero, List.set_cons_succ]
  refine take_op (i := 9) (d := 25) (v := ?_) rfl rfl (by kernel_rfl) (by kernel_rfl) (by kernel_rfl) (fun _ _ _ h => h) (Or.inl ⟨by rfl, ?hy9u90⟩) hHeld ?rest9u90
  case hy9u90 =>
    intro w' hS'
    go_simp
    try with_reducible rfl
  simp only [List.setIfInBounds_toArray, List.set_cons_zero, List.set_cons_succ]
  refine take_op (i := 10) (d := 26) rfl rfl (by kernel_rfl) (by kernel_rfl) (by kernel_rfl) (fun _ _ _ h => h) (Or.inr ⟨by rfl, rfl⟩) hHeld ?_
  simp only [List.setIfInBounds_toArray, List.set_cons_zero, List.set_cons_succ]
  refine take_op (i := 11) (d := 27) rfl rfl (by kernel_rfl) (by kernel_rfl) (by kernel_rfl) (fun _ _ _ h => h) (Or.inr ⟨by rfl, rfl⟩) hHeld ?_
  simp only [List.setIfInBounds_toArray, List.set_cons_zero, List.set_cons_succ]
  refine take_op (i := 12) (d := 28) (v := ?_) rfl rfl (by kernel_rfl) (by kernel_rfl) (by kernel_rfl) (fun _ _ _ h => h) (Or.inl ⟨by rfl, ?hy12u91⟩) hHeld ?rest12u91
  case hy12u91 =>
    intro w' hS'
    go_simp
    try with_reducible rfl
  simp only [List.setIfInBounds_toArray, List.set_cons_zero, List.set_cons_succ]
  refine wpAnyH_ready (rs := [13]) (by kernel_rfl) (by simp) ?_
  refine AllReadyH.cons rfl (fun K hK => ?_) AllReadyH.nil
  go_simp
  refine (HC.out _).mono ?_
  rintro e W1 ⟨rfl, hb1⟩
  refine hK.out _ _ (hHeld.trans (hb1.mono hHeld.size)) (fun hHeld2 => ?_)
  clear hK K
  replace hHeld := hHeld2
  clear hHeld2
  clear hb1
  refine take_op (i := 14) (d := 14) (v := ?_) rfl rfl (by kernel_rfl) (by kernel_rfl) (by kernel_rfl) (fun _ _ _ h => h) (Or.inl ⟨by rfl, ?hy14u92⟩) hHeld ?rest14u92
  case hy14u92 =>
    intro w' hS'
    go_simp
    try with_reducible rfl
  simp only [List.setIfInBounds_toArray, List.set_cons_zero, List.set_cons_succ]
  refine wpAnyH_done (by kernel_rfl) ?_ _
  replace H0 := Lib.hid (below_row hHeld H0.out)
  replace H1 := Lib.hid (below_row hHeld H1.out)
  replace H2 := Lib.hid (below_row hHeld H2.out)
  replace HE := Lib.hid (errT_below HE.out hHeld)
  replace hb := hb.trans (hHeld.mono hb.size)
  clear hHeld
  go_wp2_with (go_at_call 30; refine (HD.out _ HE.out).mono ?_; rintro e W9 ⟨rfl, hb1⟩; replace hb := hb.trans (hb1.mono hb.size); clear hb1)
  go_ret2
  exact ⟨rfl, hb⟩

set_option maxRecDepth 100000 in
set_option maxHeartbeats 4000000 in
theorem iFirstOutside_TT (n : Int) (wd gp : Nat) (t : Int) (sh : Nat) (hs ts : List Int) (hh : hs.length = 24) (ht : ts.length = 24) (fc : Int) (ps : List Int) (hp : ps.length = 24) (lo hi : Nat) (T0 : -32768 ≤ t) (T1 : t ≤ 32767) (hf : inF fc = true) (hlo : partB lo = true) (hgh : Bool) (hhi : partB hi = hgh) (c : Int) (hc : cdP (okP ps) (okBl n wd gp t sh) (okB hs ts) hgh = c) (hne : c ≠ 0) (w : World) (hE : ErrT w) :
    Calls Tryz.prog 18 #[.agg (blindC n wd gp t sh), .agg (sunC hs ts), .int .i64 fc, .agg (i16s ps), .float .f32 lo, .float .f32 hi] w fun e w' => e = .returned (.tuple #[.int .i64 0, .int .i64 c]) ∧ Below w.heap.size w w' := by
  have HC := Lib.hid (fun w => checkPlanned_no n wd gp t sh hs ts hh ht ps hp T0 T1 hgh c hc hne w)
  have HD := Lib.hid (fun w hE => codeD_call c w hE)
  have HF := Lib.hid hf
  have HLo := Lib.hid hlo
  have HHi := Lib.hid hhi
  have Hh := Lib.hid hh
  have Ht := Lib.hid ht
  have Hp := Lib.hid hp
  have hn := fun w => run_neq_held_nil (P := Tryz.prog) (w := w) 61 90 (.agg #[.int .i64 c]) (by kernel_rfl)
  have HE0 := Lib.hid hE
  clear hh ht hp hc hne hE hf hlo hhi
  go_enter Tryz.func18, Tryz.ntmps18
  go_upto_region 1 with (fail)
  refine abs_code (fun W => W.heap[w.heap.size]? = some (.cells (blindC n wd gp t sh) 33 (0, 0)) ∧ W.heap[w.heap.size + 1]? = some (.cells (sunC hs ts) 35 (0, 0)) ∧ W.heap[w.heap.size + 1 + 1]? = some (.cells (i16s ps) 37 (0, 0)) ∧ Below w.heap.size w W) ⟨(three_new _ _ _ _).1, (three_new _ _ _ _).2.1, (three_new _ _ _ _).2.2.1, (three_new _ _ _ _).2.2.2⟩ ?_
  rintro W ⟨h0, h1, h2, hb⟩
  generalize w.heap.size + 1 + 1 = b2 at *
  generalize w.heap.size + 1 = b1 at *
  have H0 := Lib.hid h0
  have H1 := Lib.hid h1
  have H2 := Lib.hid h2
  clear h0 h1 h2
  have HE := Lib.hid (errT_below HE0.out hb)
  refine wp_region_held_drew (S := (fun V => Below W.heap.size W V)) (by kernel_rfl) (Below.refl _ _).drew (fun hHeld => ?_)
  refine take_op (i := 0) (d := 16) (v := .agg (blindC n wd gp t sh)) rfl rfl (by kernel_rfl) (by kernel_rfl) (by kernel_rfl) (fun _ _ _ h => h) (yields_row (by rfl) 33 (.tmp 6) (by rfl) w.heap.size 0 5 (by rfl) 33 (blindC n wd gp t sh) (0, 0) _ (fun _ h => below_row h H0.out) Tryz.underlying33 rfl info_blind (blind_fits _ _ _ _ _) (blindC n wd gp t sh) (blind_all _ _ _ _ _)) hHeld ?_
  simp only [List.setIfInBounds_toArray, List.set_cons_zero, List.set_cons_succ]
  refine take_op (i := 1) (d := 17) (v := .agg (sunC hs ts)) rfl rfl (by kernel_rfl) (by kernel_rfl) (by kernel_rfl) (fun _ _ _ h => h) (yields_row (by rfl) 35 (.tmp 7) (by rfl) b1 0 48 (by rfl) 35 (sunC hs ts) (0, 0) _ (fun _ h => below_row h H1.out) Tryz.underlying35 rfl info_sun (sun_fits _ _ Hh.out Ht.out) (sunC hs ts) (sun_all _ _ Hh.out Ht.out)) hHeld ?_
  simp only [List.setIfInBounds_toArray, List.set_cons_zero, List.set_cons_succ]
  refine take_op (i := 2) (d := 18) (v := .agg (i16s ps)) rfl rfl (by kernel_rfl) (by kernel_rfl) (by kernel_rfl) (fun _ _ _ h => h) (yields_row (by rfl) 37 (.tmp 9) (by rfl) b2 0 24 (by rfl) 37 (i16s ps) (0, 0) _ (fun _ h => below_row h H2.out) Tryz.underlying37 rfl info_plan (by rw [i16s_size, Hp.out]; decide) (i16s ps) (i16s_all _ 24 Hp.out)) hHeld ?_
  simp only [List.setIfInBounds_toArray, List.set_cons_zero, List.set_cons_succ]
  refine take_op (i := 3) (d := 19) (v := ?_) rfl rfl (by kernel_rfl) (by kernel_rfl) (by kernel_rfl) (fun _ _ _ h => h) (Or.inl ⟨by rfl, ?hy3u93⟩) hHeld ?rest3u93
  case hy3u93 =>
    intro w' hS'
    go_simp
    try with_reducible rfl
  simp only [List.setIfInBounds_toArray, List.set_cons_zero, List.set_cons_succ]
  refine wpAnyH_ready (rs := [4]) (by kernel_rfl) (by simp) ?_
  refine AllReadyH.cons rfl (fun K hK => ?_) AllReadyH.nil
  go_simp
  refine (isFacing_is fc true HF.out _).mono ?_
  rintro e w' ⟨rfl, rfl⟩
  refine hK.out _ _ (hHeld) (fun hHeld2 => ?_)
  clear hK K
  replace hHeld := hHeld2
  clear hHeld2
  refine take_op (i := 5) (d := 21) (v := ?_) rfl rfl (by kernel_rfl) (by kernel_rfl) (by kernel_rfl) (fun _ _ _ h => h) (Or.inl ⟨by rfl, ?hy5u94⟩) hHeld ?rest5u94
  case hy5u94 =>
    intro w' hS'
    go_simp
    try with_reducible rfl
  simp only [List.setIfInBounds_toArray, List.set_cons_zero, List.set_cons_succ]
  refine take_op (i := 6) (d := 22) (v := ?_) rfl rfl (by kernel_rfl) (by kernel_rfl) (by kernel_rfl) (fun _ _ _ h => h) (Or.inl ⟨by rfl, ?hy6u95⟩) hHeld ?rest6u95
  case hy6u95 =>
    intro w' hS'
    go_simp
    try with_reducible rfl
  simp only [List.setIfInBounds_toArray, List.set_cons_zero, List.set_cons_succ]
  refine wpAnyH_ready (rs := [7]) (by kernel_rfl) (by simp) ?_
  refine AllReadyH.cons rfl (fun K hK => ?_) AllReadyH.nil
  go_simp
  refine (isPart_is lo true HLo.out _).mono ?_
  rintro e w' ⟨rfl, rfl⟩
  refine hK.out _ _ (hHeld) (fun hHeld2 => ?_)
  clear hK K
  replace hHeld := hHeld2
  clear hHeld2
  refine take_op (i := 8) (d := 24) (v := ?_) rfl rfl (by kernel_rfl) (by kernel_rfl) (by kernel_rfl) (fun _ _ _ h => h) (Or.inl ⟨by rfl, ?hy8u96⟩) hHeld ?rest8u96
  case hy8u96 =>
    intro w' hS'
    go_simp
    try with_reducible rfl
  simp only [List.setIfInBounds_toArray, List.set_cons_zero, List.set_cons_succ]
  refine take_op (i := 9) (d := 25) (v := ?_) rfl rfl (by kernel_rfl) (by kernel_rfl) (by kernel_rfl) (fun _ _ _ h => h) (Or.inl ⟨by rfl, ?hy9u97⟩) hHeld ?rest9u97
  case hy9u97 =>
    intro w' hS'
    go_simp
    try with_reducible rfl
  simp only [List.setIfInBounds_toArray, List.set_cons_zero, List.set_cons_succ]
  refine take_op (i := 10) (d := 26) (v := ?_) rfl rfl (by kernel_rfl) (by kernel_rfl) (by kernel_rfl) (fun _ _ _ h => h) (Or.inl ⟨by rfl, ?hy10u98⟩) hHeld ?rest10u98
  case hy10u98 =>
    intro w' hS'
    go_simp
    try with_reducible rfl
  simp only [List.setIfInBounds_toArray, List.set_cons_zero, List.set_cons_succ]
  refine wpAnyH_ready (rs := [11]) (by kernel_rfl) (by simp) ?_
  refine AllReadyH.cons rfl (fun K hK => ?_) AllReadyH.nil
  go_simp
  refine (isPart_is hi hgh HHi.out _).mono ?_
  rintro e w' ⟨rfl, rfl⟩
  refine hK.out _ _ (hHeld) (fun hHeld2 => ?_)
  clear hK K
  replace hHeld := hHeld2
  clear hHeld2
  refine take_op (i := 12) (d := 28) (v := ?_) rfl rfl (by kernel_rfl) (by kernel_rfl) (by kernel_rfl) (fun _ _ _ h => h) (Or.inl ⟨by rfl, ?hy12u99⟩) hHeld ?rest12u99
  case hy12u99 =>
    intro w' hS'
    go_simp
    try with_reducible rfl
  simp only [List.setIfInBounds_toArray, List.set_cons_zero, List.set_cons_succ]
  refine wpAnyH_ready (rs := [13]) (by kernel_rfl) (by simp) ?_
  refine AllReadyH.cons rfl (fun K hK => ?_) AllReadyH.nil
  go_simp
  refine (HC.out _).mono ?_
  rintro e W1 ⟨rfl, hb1⟩
  refine hK.out _ _ (hHeld.trans (hb1.mono hHeld.size)) (fun hHeld2 => ?_)
  clear hK K
  replace hHeld := hHeld2
  clear hHeld2
  clear hb1
  refine take_op (i := 14) (d := 14) (v := ?_) rfl rfl (by kernel_rfl) (by kernel_rfl) (by kernel_rfl) (fun _ _ _ h => h) (Or.inl ⟨by rfl, ?hy14u100⟩) hHeld ?rest14u100
  case hy14u100 =>
    intro w' hS'
    go_simp
    try with_reducible rfl
  simp only [List.setIfInBounds_toArray, List.set_cons_zero, List.set_cons_succ]
  refine wpAnyH_done (by kernel_rfl) ?_ _
  replace H0 := Lib.hid (below_row hHeld H0.out)
  replace H1 := Lib.hid (below_row hHeld H1.out)
  replace H2 := Lib.hid (below_row hHeld H2.out)
  replace HE := Lib.hid (errT_below HE.out hHeld)
  replace hb := hb.trans (hHeld.mono hb.size)
  clear hHeld
  go_wp2_with (go_at_call 30; refine (HD.out _ HE.out).mono ?_; rintro e W9 ⟨rfl, hb1⟩; replace hb := hb.trans (hb1.mono hb.size); clear hb1)
  go_ret2
  exact ⟨rfl, hb⟩

set_option maxRecDepth 100000 in
set_option maxHeartbeats 4000000 in
theorem iKeepsWithin_yes (n : Int) (wd gp : Nat) (t : Int) (sh : Nat) (hs ts : List Int) (hh : hs.length = 24) (ht : ts.length = 24) (fc : Int) (ps : List Int) (hp : ps.length = 24) (lo hi : Nat) (bw : BlWf n wd gp t sh) (T0 : -32768 ≤ t) (T1 : t ≤ 32767) (hf : inF fc = true) (hlo : partB lo = true) (hhi : partB hi = true) (hc : cdP (okP ps) (okBl n wd gp t sh) (okB hs ts) true = 0) (w : World) (hE : ErrT w) :
    Calls Tryz.prog 16 #[.agg (blindC n wd gp t sh), .agg (sunC hs ts), .int .i64 fc, .agg (i16s ps), .float .f32 lo, .float .f32 hi] w fun e w' => e = .returned (.tuple #[.bool (firstNo (kpAt hs ts fc lo hi wd gp sh ps) 0 24).isNone, .int .i64 0]) ∧ Below w.heap.size w w' := by
  have HC := Lib.hid (fun w => checkPlanned_ok n wd gp t sh hs ts hh ht ps hp T0 T1 true hc w)
  obtain ⟨ho, hk, hos, _⟩ := cdP_yes hc
  have OK := blok_of bw hk
  have dh : DyHr hs ts fc := ⟨fun k hk => hrok_of hh ht hos (by omega) (by omega) hf⟩
  have HDO := Lib.hid (fun w => dayOf_any hs ts hh ht fc lo hi n wd gp t sh w)
  have HOU := Lib.hid (fun w => outside_any hs ts hh ht fc lo hi n wd gp t sh OK dh ps hp ho w)
  obtain ⟨hgh, hgt⟩ : ∃ b : Bool, b = true := ⟨true, rfl⟩
  have HF := Lib.hid hf
  have HLo := Lib.hid hlo
  have HHi : Hid (partB hi = hgh) := by rw [hgt]; exact hhi
  have Hh := Lib.hid hh
  have Ht := Lib.hid ht
  have Hp := Lib.hid hp
  have hn := fun w => run_neq_nil_nil (P := Tryz.prog) (w := w) 61 (by kernel_rfl)
  have hbt : Tryz.prog.built 67 [(0, .float .f32 lo), (1, .float .f32 hi)] = some (bnC lo hi) := by kernel_rfl
  have HE0 := Lib.hid hE
  subst hgt
  generalize firstNo (kpAt hs ts fc lo hi wd gp sh ps) 0 24 = fo at *
  clear hh ht hp hc hE hf hlo hhi OK dh bw
  cases fo with
  | none =>
    have hn2 := fun w => run_eql_nil_nil (P := Tryz.prog) (w := w) 61 (by kernel_rfl)
    have HOU2 : Hid (∀ w, Calls Tryz.prog 37 #[.agg (dayC hs ts fc lo hi n wd gp t sh), .agg (i16s ps)] w fun e w' => e = .returned .nilIface ∧ Below w.heap.size w w') := HOU.out
    clear HOU
    go_enter Tryz.func16, Tryz.ntmps16
    go_upto_region 1 with (fail)
    refine abs_code (fun W => W.heap[w.heap.size]? = some (.cells (blindC n wd gp t sh) 33 (0, 0)) ∧ W.heap[w.heap.size + 1]? = some (.cells (sunC hs ts) 35 (0, 0)) ∧ W.heap[w.heap.size + 1 + 1]? = some (.cells (i16s ps) 37 (0, 0)) ∧ Below w.heap.size w W) ⟨(three_new _ _ _ _).1, (three_new _ _ _ _).2.1, (three_new _ _ _ _).2.2.1, (three_new _ _ _ _).2.2.2⟩ ?_
    rintro W ⟨h0, h1, h2, hb⟩
    generalize w.heap.size + 1 + 1 = b2 at *
    generalize w.heap.size + 1 = b1 at *
    have H0 := Lib.hid h0
    have H1 := Lib.hid h1
    have H2 := Lib.hid h2
    clear h0 h1 h2
    have HE := Lib.hid (errT_below HE0.out hb)
    refine wp_region_held_drew (S := (fun V => Below W.heap.size W V)) (by kernel_rfl) (Below.refl _ _).drew (fun hHeld => ?_)
    refine take_op (i := 0) (d := 15) (v := .agg (blindC n wd gp t sh)) rfl rfl (by kernel_rfl) (by kernel_rfl) (by kernel_rfl) (fun _ _ _ h => h) (yields_row (by rfl) 33 (.tmp 6) (by rfl) w.heap.size 0 5 (by rfl) 33 (blindC n wd gp t sh) (0, 0) _ (fun _ h => below_row h H0.out) Tryz.underlying33 rfl info_blind (blind_fits _ _ _ _ _) (blindC n wd gp t sh) (blind_all _ _ _ _ _)) hHeld ?_
    simp only [List.setIfInBounds_toArray, List.set_cons_zero, List.set_cons_succ]
    refine take_op (i := 1) (d := 16) (v := .agg (sunC hs ts)) rfl rfl (by kernel_rfl) (by kernel_rfl) (by kernel_rfl) (fun _ _ _ h => h) (yields_row (by rfl) 35 (.tmp 7) (by rfl) b1 0 48 (by rfl) 35 (sunC hs ts) (0, 0) _ (fun _ h => below_row h H1.out) Tryz.underlying35 rfl info_sun (sun_fits _ _ Hh.out Ht.out) (sunC hs ts) (sun_all _ _ Hh.out Ht.out)) hHeld ?_
    simp only [List.setIfInBounds_toArray, List.set_cons_zero, List.set_cons_succ]
    refine take_op (i := 2) (d := 17) (v := .agg (i16s ps)) rfl rfl (by kernel_rfl) (by kernel_rfl) (by kernel_rfl) (fun _ _ _ h => h) (yields_row (by rfl) 37 (.tmp 9) (by rfl) b2 0 24 (by rfl) 37 (i16s ps) (0, 0) _ (fun _ h => below_row h H2.out) Tryz.underlying37 rfl info_plan (by rw [i16s_size, Hp.out]; decide) (i16s ps) (i16s_all _ 24 Hp.out)) hHeld ?_
    simp only [List.setIfInBounds_toArray, List.set_cons_zero, List.set_cons_succ]
    refine take_op (i := 3) (d := 18) (v := ?_) rfl rfl (by kernel_rfl) (by kernel_rfl) (by kernel_rfl) (fun _ _ _ h => h) (Or.inl ⟨by rfl, ?hy3u108⟩) hHeld ?rest3u108
    case hy3u108 =>
      intro w' hS'
      go_simp
      try with_reducible rfl
    simp only [List.setIfInBounds_toArray, List.set_cons_zero, List.set_cons_succ]
    refine wpAnyH_ready (rs := [4]) (by kernel_rfl) (by simp) ?_
    refine AllReadyH.cons rfl (fun K hK => ?_) AllReadyH.nil
    go_simp
    refine (isFacing_is fc true HF.out _).mono ?_
    rintro e w' ⟨rfl, rfl⟩
    refine hK.out _ _ (hHeld) (fun hHeld2 => ?_)
    clear hK K
    replace hHeld := hHeld2
    clear hHeld2
    refine take_op (i := 5) (d := 20) (v := ?_) rfl rfl (by kernel_rfl) (by kernel_rfl) (by kernel_rfl) (fun _ _ _ h => h) (Or.inl ⟨by rfl, ?hy5u109⟩) hHeld ?rest5u109
    case hy5u109 =>
      intro w' hS'
      go_simp
      try with_reducible rfl
    simp only [List.setIfInBounds_toArray, List.set_cons_zero, List.set_cons_succ]
    refine take_op (i := 6) (d := 21) (v := ?_) rfl rfl (by kernel_rfl) (by kernel_rfl) (by kernel_rfl) (fun _ _ _ h => h) (Or.inl ⟨by rfl, ?hy6u110⟩) hHeld ?rest6u110
    case hy6u110 =>
      intro w' hS'
      go_simp
      try with_reducible rfl
    simp only [List.setIfInBounds_toArray, List.set_cons_zero, List.set_cons_succ]
    refine wpAnyH_ready (rs := [7]) (by kernel_rfl) (by simp) ?_
    refine AllReadyH.cons rfl (fun K hK => ?_) AllReadyH.nil
    go_simp
    refine (isPart_is lo true HLo.out _).mono ?_
    rintro e w' ⟨rfl, rfl⟩
    refine hK.out _ _ (hHeld) (fun hHeld2 => ?_)
    clear hK K
    replace hHeld := hHeld2
    clear hHeld2
    refine take_op (i := 8) (d := 23) (v := ?_) rfl rfl (by kernel_rfl) (by kernel_rfl) (by kernel_rfl) (fun _ _ _ h => h) (Or.inl ⟨by rfl, ?hy8u111⟩) hHeld ?rest8u111
    case hy8u111 =>
      intro w' hS'
      go_simp
      try with_reducible rfl
    simp only [List.setIfInBounds_toArray, List.set_cons_zero, List.set_cons_succ]
    refine take_op (i := 9) (d := 24) (v := ?_) rfl rfl (by kernel_rfl) (by kernel_rfl) (by kernel_rfl) (fun _ _ _ h => h) (Or.inl ⟨by rfl, ?hy9u112⟩) hHeld ?rest9u112
    case hy9u112 =>
      intro w' hS'
      go_simp
      try with_reducible rfl
    simp only [List.setIfInBounds_toArray, List.set_cons_zero, List.set_cons_succ]
    refine take_op (i := 10) (d := 25) (v := ?_) rfl rfl (by kernel_rfl) (by kernel_rfl) (by kernel_rfl) (fun _ _ _ h => h) (Or.inl ⟨by rfl, ?hy10u113⟩) hHeld ?rest10u113
    case hy10u113 =>
      intro w' hS'
      go_simp
      try with_reducible rfl
    simp only [List.setIfInBounds_toArray, List.set_cons_zero, List.set_cons_succ]
    refine wpAnyH_ready (rs := [11]) (by kernel_rfl) (by simp) ?_
    refine AllReadyH.cons rfl (fun K hK => ?_) AllReadyH.nil
    go_simp
    refine (isPart_is hi true HHi.out _).mono ?_
    rintro e w' ⟨rfl, rfl⟩
    refine hK.out _ _ (hHeld) (fun hHeld2 => ?_)
    clear hK K
    replace hHeld := hHeld2
    clear hHeld2
    refine take_op (i := 12) (d := 27) (v := ?_) rfl rfl (by kernel_rfl) (by kernel_rfl) (by kernel_rfl) (fun _ _ _ h => h) (Or.inl ⟨by rfl, ?hy12u114⟩) hHeld ?rest12u114
    case hy12u114 =>
      intro w' hS'
      go_simp
      try with_reducible rfl
    simp only [List.setIfInBounds_toArray, List.set_cons_zero, List.set_cons_succ]
    refine wpAnyH_ready (rs := [13]) (by kernel_rfl) (by simp) ?_
    refine AllReadyH.cons rfl (fun K hK => ?_) AllReadyH.nil
    go_simp
    refine (HC.out _).mono ?_
    rintro e W1 ⟨rfl, hb1⟩
    refine hK.out _ _ (hHeld.trans (hb1.mono hHeld.size)) (fun hHeld2 => ?_)
    clear hK K
    replace hHeld := hHeld2
    clear hHeld2
    clear hb1
    refine take_op (i := 14) (d := 14) (v := ?_) rfl rfl (by kernel_rfl) (by kernel_rfl) (by kernel_rfl) (fun _ _ _ h => h) (Or.inl ⟨by rfl, ?hy14u115⟩) hHeld ?rest14u115
    case hy14u115 =>
      intro w' hS'
      go_simp
      try with_reducible rfl
    simp only [List.setIfInBounds_toArray, List.set_cons_zero, List.set_cons_succ]
    refine wpAnyH_done (by kernel_rfl) ?_ _
    replace H0 := Lib.hid (below_row hHeld H0.out)
    replace H1 := Lib.hid (below_row hHeld H1.out)
    replace H2 := Lib.hid (below_row hHeld H2.out)
    replace HE := Lib.hid (errT_below HE.out hHeld)
    replace hb := hb.trans (hHeld.mono hb.size)
    clear hHeld
    go_upto_region 4 with (fail)
    refine wp_region_held_drew (S := (fun V => Below W1.heap.size W1 V)) (by kernel_rfl) (Below.refl _ _).drew (fun hHeld => ?_)
    refine take_op (i := 0) (d := 33) (v := .agg (blindC n wd gp t sh)) rfl rfl (by kernel_rfl) (by kernel_rfl) (by kernel_rfl) (fun _ _ _ h => h) (yields_row (by rfl) 33 (.tmp 6) (by rfl) w.heap.size 0 5 (by rfl) 33 (blindC n wd gp t sh) (0, 0) _ (fun _ h => below_row h H0.out) Tryz.underlying33 rfl info_blind (blind_fits _ _ _ _ _) (blindC n wd gp t sh) (blind_all _ _ _ _ _)) hHeld ?_
    simp only [List.setIfInBounds_toArray, List.set_cons_zero, List.set_cons_succ]
    refine take_op (i := 1) (d := 34) (v := .agg (sunC hs ts)) rfl rfl (by kernel_rfl) (by kernel_rfl) (by kernel_rfl) (fun _ _ _ h => h) (yields_row (by rfl) 35 (.tmp 7) (by rfl) b1 0 48 (by rfl) 35 (sunC hs ts) (0, 0) _ (fun _ h => below_row h H1.out) Tryz.underlying35 rfl info_sun (sun_fits _ _ Hh.out Ht.out) (sunC hs ts) (sun_all _ _ Hh.out Ht.out)) hHeld ?_
    simp only [List.setIfInBounds_toArray, List.set_cons_zero, List.set_cons_succ]
    refine take_op (i := 2) (d := 35) (v := ?_) rfl rfl (by kernel_rfl) (by kernel_rfl) (by kernel_rfl) (fun _ _ _ h => h) (Or.inl ⟨by rfl, ?hy2u101⟩) hHeld ?rest2u101
    case hy2u101 =>
      intro w' hS'
      go_simp
      try with_reducible rfl
    simp only [List.setIfInBounds_toArray, List.set_cons_zero, List.set_cons_succ]
    refine take_op (i := 3) (d := 36) (v := ?_) rfl rfl (by kernel_rfl) (by kernel_rfl) (by kernel_rfl) (fun _ _ _ h => h) (Or.inl ⟨by rfl, ?hy3u102⟩) hHeld ?rest3u102
    case hy3u102 =>
      intro w' hS'
      go_simp
      try with_reducible rfl
    simp only [List.setIfInBounds_toArray, List.set_cons_zero, List.set_cons_succ]
    refine take_op (i := 4) (d := 37) (v := ?_) rfl rfl (by kernel_rfl) (by kernel_rfl) (by kernel_rfl) (fun _ _ _ h => h) (Or.inl ⟨by rfl, ?hy4u103⟩) hHeld ?rest4u103
    case hy4u103 =>
      intro w' hS'
      go_simp
      try with_reducible rfl
    simp only [List.setIfInBounds_toArray, List.set_cons_zero, List.set_cons_succ]
    refine take_op (i := 5) (d := 38) (v := ?_) rfl rfl (by kernel_rfl) (by kernel_rfl) (by kernel_rfl) (fun _ _ _ h => h) (Or.inl ⟨by rfl, ?hy5u104⟩) hHeld ?rest5u104
    case hy5u104 =>
      intro w' hS'
      go_simp
      try with_reducible rfl
    simp only [List.setIfInBounds_toArray, List.set_cons_zero, List.set_cons_succ]
    refine take_op (i := 7) (d := 40) (v := .agg (i16s ps)) rfl rfl (by kernel_rfl) (by kernel_rfl) (by kernel_rfl) (fun _ _ _ h => h) (yields_row (by rfl) 37 (.tmp 9) (by rfl) b2 0 24 (by rfl) 37 (i16s ps) (0, 0) _ (fun _ h => below_row h H2.out) Tryz.underlying37 rfl info_plan (by rw [i16s_size, Hp.out]; decide) (i16s ps) (i16s_all _ 24 Hp.out)) hHeld ?_
    simp only [List.setIfInBounds_toArray, List.set_cons_zero, List.set_cons_succ]
    refine wpAnyH_ready (rs := [6]) (by kernel_rfl) (by simp) ?_
    refine AllReadyH.cons rfl (fun K hK => ?_) AllReadyH.nil
    go_simp
    refine (HDO.out _).mono ?_
    rintro e W5 ⟨rfl, hb1⟩
    refine hK.out _ _ (hHeld.trans (hb1.mono hHeld.size)) (fun hHeld2 => ?_)
    clear hK K
    replace hHeld := hHeld2
    clear hHeld2
    clear hb1
    refine wpAnyH_ready (rs := [8]) (by kernel_rfl) (by simp) ?_
    refine AllReadyH.cons rfl (fun K hK => ?_) AllReadyH.nil
    go_simp
    refine (HOU2.out _).mono ?_
    rintro e W6 ⟨rfl, hb1⟩
    refine hK.out _ _ (hHeld.trans (hb1.mono hHeld.size)) (fun hHeld2 => ?_)
    clear hK K
    replace hHeld := hHeld2
    clear hHeld2
    clear hb1
    refine take_op (i := 9) (d := 42) (v := ?_) rfl rfl (by kernel_rfl) (by kernel_rfl) (by kernel_rfl) (fun _ _ _ h => h) (Or.inl ⟨by rfl, ?hy9u105⟩) hHeld ?rest9u105
    case hy9u105 =>
      intro w' hS'
      go_simp
      try with_reducible rfl
    simp only [List.setIfInBounds_toArray, List.set_cons_zero, List.set_cons_succ]
    refine take_op (i := 10) (d := 12) (v := ?_) rfl rfl (by kernel_rfl) (by kernel_rfl) (by kernel_rfl) (fun _ _ _ h => h) (Or.inl ⟨by rfl, ?hy10u106⟩) hHeld ?rest10u106
    case hy10u106 =>
      intro w' hS'
      go_simp
      try with_reducible rfl
    simp only [List.setIfInBounds_toArray, List.set_cons_zero, List.set_cons_succ]
    refine take_op (i := 11) (d := 13) (v := ?_) rfl rfl (by kernel_rfl) (by kernel_rfl) (by kernel_rfl) (fun _ _ _ h => h) (Or.inl ⟨by rfl, ?hy11u107⟩) hHeld ?rest11u107
    case hy11u107 =>
      intro w' hS'
      go_simp
      try with_reducible rfl
    simp only [List.setIfInBounds_toArray, List.set_cons_zero, List.set_cons_succ]
    refine wpAnyH_done (by kernel_rfl) ?_ _
    replace hb := hb.trans (hHeld.mono hb.size)
    clear hHeld H0 H1 H2 HE
    go_wp2
    go_ret2
    exact ⟨rfl, hb⟩
  | some k =>
    have hn2 := fun w => run_eql_held_nil (P := Tryz.prog) (w := w) 61 78 (.agg #[.int .i64 (k : Int)]) (by kernel_rfl)
    have HOU2 : Hid (∀ w, Calls Tryz.prog 37 #[.agg (dayC hs ts fc lo hi n wd gp t sh), .agg (i16s ps)] w fun e w' => e = .returned (.iface 78 (.agg #[.int .i64 (k : Int)])) ∧ Below w.heap.size w w') := HOU.out
    clear HOU
    go_enter Tryz.func16, Tryz.ntmps16
    go_upto_region 1 with (fail)
    refine abs_code (fun W => W.heap[w.heap.size]? = some (.cells (blindC n wd gp t sh) 33 (0, 0)) ∧ W.heap[w.heap.size + 1]? = some (.cells (sunC hs ts) 35 (0, 0)) ∧ W.heap[w.heap.size + 1 + 1]? = some (.cells (i16s ps) 37 (0, 0)) ∧ Below w.heap.size w W) ⟨(three_new _ _ _ _).1, (three_new _ _ _ _).2.1, (three_new _ _ _ _).2.2.1, (three_new _ _ _ _).2.2.2⟩ ?_
    rintro W ⟨h0, h1, h2, hb⟩
    generalize w.heap.size + 1 + 1 = b2 at *
    generalize w.heap.size + 1 = b1 at *
    have H0 := Lib.hid h0
    have H1 := Lib.hid h1
    have H2 := Lib.hid h2
    clear h0 h1 h2
    have HE := Lib.hid (errT_below HE0.out hb)
    refine wp_region_held_drew (S := (fun V => Below W.heap.size W V)) (by kernel_rfl) (Below.refl _ _).drew (fun hHeld => ?_)
    refine take_op (i := 0) (d := 15) (v := .agg (blindC n wd gp t sh)) rfl rfl (by kernel_rfl) (by kernel_rfl) (by kernel_rfl) (fun _ _ _ h => h) (yields_row (by rfl) 33 (.tmp 6) (by rfl) w.heap.size 0 5 (by rfl) 33 (blindC n wd gp t sh) (0, 0) _ (fun _ h => below_row h H0.out) Tryz.underlying33 rfl info_blind (blind_fits _ _ _ _ _) (blindC n wd gp t sh) (blind_all _ _ _ _ _)) hHeld ?_
    simp only [List.setIfInBounds_toArray, List.set_cons_zero, List.set_cons_succ]
    refine take_op (i := 1) (d := 16) (v := .agg (sunC hs ts)) rfl rfl (by kernel_rfl) (by kernel_rfl) (by kernel_rfl) (fun _ _ _ h => h) (yields_row (by rfl) 35 (.tmp 7) (by rfl) b1 0 48 (by rfl) 35 (sunC hs ts) (0, 0) _ (fun _ h => below_row h H1.out) Tryz.underlying35 rfl info_sun (sun_fits _ _ Hh.out Ht.out) (sunC hs ts) (sun_all _ _ Hh.out Ht.out)) hHeld ?_
    simp only [List.setIfInBounds_toArray, List.set_cons_zero, List.set_cons_succ]
    refine take_op (i := 2) (d := 17) (v := .agg (i16s ps)) rfl rfl (by kernel_rfl) (by kernel_rfl) (by kernel_rfl) (fun _ _ _ h => h) (yields_row (by rfl) 37 (.tmp 9) (by rfl) b2 0 24 (by rfl) 37 (i16s ps) (0, 0) _ (fun _ h => below_row h H2.out) Tryz.underlying37 rfl info_plan (by rw [i16s_size, Hp.out]; decide) (i16s ps) (i16s_all _ 24 Hp.out)) hHeld ?_
    simp only [List.setIfInBounds_toArray, List.set_cons_zero, List.set_cons_succ]
    refine take_op (i := 3) (d := 18) (v := ?_) rfl rfl (by kernel_rfl) (by kernel_rfl) (by kernel_rfl) (fun _ _ _ h => h) (Or.inl ⟨by rfl, ?hy3u123⟩) hHeld ?rest3u123
    case hy3u123 =>
      intro w' hS'
      go_simp
      try with_reducible rfl
    simp only [List.setIfInBounds_toArray, List.set_cons_zero, List.set_cons_succ]
    refine wpAnyH_ready (rs := [4]) (by kernel_rfl) (by simp) ?_
    refine AllReadyH.cons rfl (fun K hK => ?_) AllReadyH.nil
    go_simp
    refine (isFacing_is fc true HF.out _).mono ?_
    rintro e w' ⟨rfl, rfl⟩
    refine hK.out _ _ (hHeld) (fun hHeld2 => ?_)
    clear hK K
    replace hHeld := hHeld2
    clear hHeld2
    refine take_op (i := 5) (d := 20) (v := ?_) rfl rfl (by kernel_rfl) (by kernel_rfl) (by kernel_rfl) (fun _ _ _ h => h) (Or.inl ⟨by rfl, ?hy5u124⟩) hHeld ?rest5u124
    case hy5u124 =>
      intro w' hS'
      go_simp
      try with_reducible rfl
    simp only [List.setIfInBounds_toArray, List.set_cons_zero, List.set_cons_succ]
    refine take_op (i := 6) (d := 21) (v := ?_) rfl rfl (by kernel_rfl) (by kernel_rfl) (by kernel_rfl) (fun _ _ _ h => h) (Or.inl ⟨by rfl, ?hy6u125⟩) hHeld ?rest6u125
    case hy6u125 =>
      intro w' hS'
      go_simp
      try with_reducible rfl
    simp only [List.setIfInBounds_toArray, List.set_cons_zero, List.set_cons_succ]
    refine wpAnyH_ready (rs := [7]) (by kernel_rfl) (by simp) ?_
    refine AllReadyH.cons rfl (fun K hK => ?_) AllReadyH.nil
    go_simp
    refine (isPart_is lo true HLo.out _).mono ?_
    rintro e w' ⟨rfl, rfl⟩
    refine hK.out _ _ (hHeld) (fun hHeld2 => ?_)
    clear hK K
    replace hHeld := hHeld2
    clear hHeld2
    refine take_op (i := 8) (d := 23) (v := ?_) rfl rfl (by kernel_rfl) (by kernel_rfl) (by kernel_rfl) (fun _ _ _ h => h) (Or.inl ⟨by rfl, ?hy8u126⟩) hHeld ?rest8u126
    case hy8u126 =>
      intro w' hS'
      go_simp
      try with_reducible rfl
    simp only [List.setIfInBounds_toArray, List.set_cons_zero, List.set_cons_succ]
    refine take_op (i := 9) (d := 24) (v := ?_) rfl rfl (by kernel_rfl) (by kernel_rfl) (by kernel_rfl) (fun _ _ _ h => h) (Or.inl ⟨by rfl, ?hy9u127⟩) hHeld ?rest9u127
    case hy9u127 =>
      intro w' hS'
      go_simp
      try with_reducible rfl
    simp only [List.setIfInBounds_toArray, List.set_cons_zero, List.set_cons_succ]
    refine take_op (i := 10) (d := 25) (v := ?_) rfl rfl (by kernel_rfl) (by kernel_rfl) (by kernel_rfl) (fun _ _ _ h => h) (Or.inl ⟨by rfl, ?hy10u128⟩) hHeld ?rest10u128
    case hy10u128 =>
      intro w' hS'
      go_simp
      try with_reducible rfl
    simp only [List.setIfInBounds_toArray, List.set_cons_zero, List.set_cons_succ]
    refine wpAnyH_ready (rs := [11]) (by kernel_rfl) (by simp) ?_
    refine AllReadyH.cons rfl (fun K hK => ?_) AllReadyH.nil
    go_simp
    refine (isPart_is hi true HHi.out _).mono ?_
    rintro e w' ⟨rfl, rfl⟩
    refine hK.out _ _ (hHeld) (fun hHeld2 => ?_)
    clear hK K
    replace hHeld := hHeld2
    clear hHeld2
    refine take_op (i := 12) (d := 27) (v := ?_) rfl rfl (by kernel_rfl) (by kernel_rfl) (by kernel_rfl) (fun _ _ _ h => h) (Or.inl ⟨by rfl, ?hy12u129⟩) hHeld ?rest12u129
    case hy12u129 =>
      intro w' hS'
      go_simp
      try with_reducible rfl
    simp only [List.setIfInBounds_toArray, List.set_cons_zero, List.set_cons_succ]
    refine wpAnyH_ready (rs := [13]) (by kernel_rfl) (by simp) ?_
    refine AllReadyH.cons rfl (fun K hK => ?_) AllReadyH.nil
    go_simp
    refine (HC.out _).mono ?_
    rintro e W1 ⟨rfl, hb1⟩
    refine hK.out _ _ (hHeld.trans (hb1.mono hHeld.size)) (fun hHeld2 => ?_)
    clear hK K
    replace hHeld := hHeld2
    clear hHeld2
    clear hb1
    refine take_op (i := 14) (d := 14) (v := ?_) rfl rfl (by kernel_rfl) (by kernel_rfl) (by kernel_rfl) (fun _ _ _ h => h) (Or.inl ⟨by rfl, ?hy14u130⟩) hHeld ?rest14u130
    case hy14u130 =>
      intro w' hS'
      go_simp
      try with_reducible rfl
    simp only [List.setIfInBounds_toArray, List.set_cons_zero, List.set_cons_succ]
    refine wpAnyH_done (by kernel_rfl) ?_ _
    replace H0 := Lib.hid (below_row hHeld H0.out)
    replace H1 := Lib.hid (below_row hHeld H1.out)
    replace H2 := Lib.hid (below_row hHeld H2.out)
    replace HE := Lib.hid (errT_below HE.out hHeld)
    replace hb := hb.trans (hHeld.mono hb.size)
    clear hHeld
    go_upto_region 4 with (fail)
    refine wp_region_held_drew (S := (fun V => Below W1.heap.size W1 V)) (by kernel_rfl) (Below.refl _ _).drew (fun hHeld => ?_)
    refine take_op (i := 0) (d := 33) (v := .agg (blindC n wd gp t sh)) rfl rfl (by kernel_rfl) (by kernel_rfl) (by kernel_rfl) (fun _ _ _ h => h) (yields_row (by rfl) 33 (.tmp 6) (by rfl) w.heap.size 0 5 (by rfl) 33 (blindC n wd gp t sh) (0, 0) _ (fun _ h => below_row h H0.out) Tryz.underlying33 rfl info_blind (blind_fits _ _ _ _ _) (blindC n wd gp t sh) (blind_all _ _ _ _ _)) hHeld ?_
    simp only [List.setIfInBounds_toArray, List.set_cons_zero, List.set_cons_succ]
    refine take_op (i := 1) (d := 34) (v := .agg (sunC hs ts)) rfl rfl (by kernel_rfl) (by kernel_rfl) (by kernel_rfl) (fun _ _ _ h => h) (yields_row (by rfl) 35 (.tmp 7) (by rfl) b1 0 48 (by rfl) 35 (sunC hs ts) (0, 0) _ (fun _ h => below_row h H1.out) Tryz.underlying35 rfl info_sun (sun_fits _ _ Hh.out Ht.out) (sunC hs ts) (sun_all _ _ Hh.out Ht.out)) hHeld ?_
    simp only [List.setIfInBounds_toArray, List.set_cons_zero, List.set_cons_succ]
    refine take_op (i := 2) (d := 35) (v := ?_) rfl rfl (by kernel_rfl) (by kernel_rfl) (by kernel_rfl) (fun _ _ _ h => h) (Or.inl ⟨by rfl, ?hy2u116⟩) hHeld ?rest2u116
    case hy2u116 =>
      intro w' hS'
      go_simp
      try with_reducible rfl
    simp only [List.setIfInBounds_toArray, List.set_cons_zero, List.set_cons_succ]
    refine take_op (i := 3) (d := 36) (v := ?_) rfl rfl (by kernel_rfl) (by kernel_rfl) (by kernel_rfl) (fun _ _ _ h => h) (Or.inl ⟨by rfl, ?hy3u117⟩) hHeld ?rest3u117
    case hy3u117 =>
      intro w' hS'
      go_simp
      try with_reducible rfl
    simp only [List.setIfInBounds_toArray, List.set_cons_zero, List.set_cons_succ]
    refine take_op (i := 4) (d := 37) (v := ?_) rfl rfl (by kernel_rfl) (by kernel_rfl) (by kernel_rfl) (fun _ _ _ h => h) (Or.inl ⟨by rfl, ?hy4u118⟩) hHeld ?rest4u118
    case hy4u118 =>
      intro w' hS'
      go_simp
      try with_reducible rfl
    simp only [List.setIfInBounds_toArray, List.set_cons_zero, List.set_cons_succ]
    refine take_op (i := 5) (d := 38) (v := ?_) rfl rfl (by kernel_rfl) (by kernel_rfl) (by kernel_rfl) (fun _ _ _ h => h) (Or.inl ⟨by rfl, ?hy5u119⟩) hHeld ?rest5u119
    case hy5u119 =>
      intro w' hS'
      go_simp
      try with_reducible rfl
    simp only [List.setIfInBounds_toArray, List.set_cons_zero, List.set_cons_succ]
    refine take_op (i := 7) (d := 40) (v := .agg (i16s ps)) rfl rfl (by kernel_rfl) (by kernel_rfl) (by kernel_rfl) (fun _ _ _ h => h) (yields_row (by rfl) 37 (.tmp 9) (by rfl) b2 0 24 (by rfl) 37 (i16s ps) (0, 0) _ (fun _ h => below_row h H2.out) Tryz.underlying37 rfl info_plan (by rw [i16s_size, Hp.out]; decide) (i16s ps) (i16s_all _ 24 Hp.out)) hHeld ?_
    simp only [List.setIfInBounds_toArray, List.set_cons_zero, List.set_cons_succ]
    refine wpAnyH_ready (rs := [6]) (by kernel_rfl) (by simp) ?_
    refine AllReadyH.cons rfl (fun K hK => ?_) AllReadyH.nil
    go_simp
    refine (HDO.out _).mono ?_
    rintro e W5 ⟨rfl, hb1⟩
    refine hK.out _ _ (hHeld.trans (hb1.mono hHeld.size)) (fun hHeld2 => ?_)
    clear hK K
    replace hHeld := hHeld2
    clear hHeld2
    clear hb1
    refine wpAnyH_ready (rs := [8]) (by kernel_rfl) (by simp) ?_
    refine AllReadyH.cons rfl (fun K hK => ?_) AllReadyH.nil
    go_simp
    refine (HOU2.out _).mono ?_
    rintro e W6 ⟨rfl, hb1⟩
    refine hK.out _ _ (hHeld.trans (hb1.mono hHeld.size)) (fun hHeld2 => ?_)
    clear hK K
    replace hHeld := hHeld2
    clear hHeld2
    clear hb1
    refine take_op (i := 9) (d := 42) (v := ?_) rfl rfl (by kernel_rfl) (by kernel_rfl) (by kernel_rfl) (fun _ _ _ h => h) (Or.inl ⟨by rfl, ?hy9u120⟩) hHeld ?rest9u120
    case hy9u120 =>
      intro w' hS'
      go_simp
      try with_reducible rfl
    simp only [List.setIfInBounds_toArray, List.set_cons_zero, List.set_cons_succ]
    refine take_op (i := 10) (d := 12) (v := ?_) rfl rfl (by kernel_rfl) (by kernel_rfl) (by kernel_rfl) (fun _ _ _ h => h) (Or.inl ⟨by rfl, ?hy10u121⟩) hHeld ?rest10u121
    case hy10u121 =>
      intro w' hS'
      go_simp
      try with_reducible rfl
    simp only [List.setIfInBounds_toArray, List.set_cons_zero, List.set_cons_succ]
    refine take_op (i := 11) (d := 13) (v := ?_) rfl rfl (by kernel_rfl) (by kernel_rfl) (by kernel_rfl) (fun _ _ _ h => h) (Or.inl ⟨by rfl, ?hy11u122⟩) hHeld ?rest11u122
    case hy11u122 =>
      intro w' hS'
      go_simp
      try with_reducible rfl
    simp only [List.setIfInBounds_toArray, List.set_cons_zero, List.set_cons_succ]
    refine wpAnyH_done (by kernel_rfl) ?_ _
    replace hb := hb.trans (hHeld.mono hb.size)
    clear hHeld H0 H1 H2 HE
    go_wp2
    go_ret2
    exact ⟨rfl, hb⟩

theorem heap_alloc_oldD {W : World} {g : Nat} {o p : Obj} (h : W.heap[g]? = some o) : (W.alloc p).heap[g]? = some o := by
  rw [heap_alloc, if_neg (by have := row_lt h; omega)]
  exact h

def outV : Option Nat → Int
  | none => 0
  | some k => (k : Int)

def outC : Option Nat → Int
  | none => 6
  | some _ => 0

set_option maxRecDepth 100000 in
set_option maxHeartbeats 4000000 in
theorem iFirstOutside_yes (n : Int) (wd gp : Nat) (t : Int) (sh : Nat) (hs ts : List Int) (hh : hs.length = 24) (ht : ts.length = 24) (fc : Int) (ps : List Int) (hp : ps.length = 24) (lo hi : Nat) (bw : BlWf n wd gp t sh) (T0 : -32768 ≤ t) (T1 : t ≤ 32767) (hf : inF fc = true) (hlo : partB lo = true) (hhi : partB hi = true) (hc : cdP (okP ps) (okBl n wd gp t sh) (okB hs ts) true = 0) (w : World) (hE : ErrT w) :
    Calls Tryz.prog 18 #[.agg (blindC n wd gp t sh), .agg (sunC hs ts), .int .i64 fc, .agg (i16s ps), .float .f32 lo, .float .f32 hi] w fun e w' => e = .returned (.tuple #[.int .i64 (outV (firstNo (kpAt hs ts fc lo hi wd gp sh ps) 0 24)), .int .i64 (outC (firstNo (kpAt hs ts fc lo hi wd gp sh ps) 0 24))]) ∧ Below w.heap.size w w' := by
  have HC := Lib.hid (fun w => checkPlanned_ok n wd gp t sh hs ts hh ht ps hp T0 T1 true hc w)
  obtain ⟨ho, hk, hos, _⟩ := cdP_yes hc
  have OK := blok_of bw hk
  have dh : DyHr hs ts fc := ⟨fun k hk => hrok_of hh ht hos (by omega) (by omega) hf⟩
  have HDO := Lib.hid (fun w => dayOf_any hs ts hh ht fc lo hi n wd gp t sh w)
  have HOU := Lib.hid (fun w => outside_any hs ts hh ht fc lo hi n wd gp t sh OK dh ps hp ho w)
  obtain ⟨hgh, hgt⟩ : ∃ b : Bool, b = true := ⟨true, rfl⟩
  have HF := Lib.hid hf
  have HLo := Lib.hid hlo
  have HHi : Hid (partB hi = hgh) := by rw [hgt]; exact hhi
  have Hh := Lib.hid hh
  have Ht := Lib.hid ht
  have Hp := Lib.hid hp
  have hn := fun w => run_neq_nil_nil (P := Tryz.prog) (w := w) 61 (by kernel_rfl)
  have hbt : Tryz.prog.built 67 [(0, .float .f32 lo), (1, .float .f32 hi)] = some (bnC lo hi) := by kernel_rfl
  have HE0 := Lib.hid hE
  subst hgt
  generalize firstNo (kpAt hs ts fc lo hi wd gp sh ps) 0 24 = fo at *
  clear hh ht hp hc hE hf hlo hhi OK dh bw
  cases fo with
  | none =>
    have HOU2 : Hid (∀ w, Calls Tryz.prog 37 #[.agg (dayC hs ts fc lo hi n wd gp t sh), .agg (i16s ps)] w fun e w' => e = .returned .nilIface ∧ Below w.heap.size w w') := HOU.out
    clear HOU
    go_enter Tryz.func18, Tryz.ntmps18
    go_upto_region 1 with (fail)
    refine abs_code (fun W => W.heap[w.heap.size]? = some (.cells (blindC n wd gp t sh) 33 (0, 0)) ∧ W.heap[w.heap.size + 1]? = some (.cells (sunC hs ts) 35 (0, 0)) ∧ W.heap[w.heap.size + 1 + 1]? = some (.cells (i16s ps) 37 (0, 0)) ∧ Below w.heap.size w W) ⟨(three_new _ _ _ _).1, (three_new _ _ _ _).2.1, (three_new _ _ _ _).2.2.1, (three_new _ _ _ _).2.2.2⟩ ?_
    rintro W ⟨h0, h1, h2, hb⟩
    generalize w.heap.size + 1 + 1 = b2 at *
    generalize w.heap.size + 1 = b1 at *
    have H0 := Lib.hid h0
    have H1 := Lib.hid h1
    have H2 := Lib.hid h2
    clear h0 h1 h2
    have HE := Lib.hid (errT_below HE0.out hb)
    refine wp_region_held_drew (S := (fun V => Below W.heap.size W V)) (by kernel_rfl) (Below.refl _ _).drew (fun hHeld => ?_)
    refine take_op (i := 0) (d := 16) (v := .agg (blindC n wd gp t sh)) rfl rfl (by kernel_rfl) (by kernel_rfl) (by kernel_rfl) (fun _ _ _ h => h) (yields_row (by rfl) 33 (.tmp 6) (by rfl) w.heap.size 0 5 (by rfl) 33 (blindC n wd gp t sh) (0, 0) _ (fun _ h => below_row h H0.out) Tryz.underlying33 rfl info_blind (blind_fits _ _ _ _ _) (blindC n wd gp t sh) (blind_all _ _ _ _ _)) hHeld ?_
    simp only [List.setIfInBounds_toArray, List.set_cons_zero, List.set_cons_succ]
    refine take_op (i := 1) (d := 17) (v := .agg (sunC hs ts)) rfl rfl (by kernel_rfl) (by kernel_rfl) (by kernel_rfl) (fun _ _ _ h => h) (yields_row (by rfl) 35 (.tmp 7) (by rfl) b1 0 48 (by rfl) 35 (sunC hs ts) (0, 0) _ (fun _ h => below_row h H1.out) Tryz.underlying35 rfl info_sun (sun_fits _ _ Hh.out Ht.out) (sunC hs ts) (sun_all _ _ Hh.out Ht.out)) hHeld ?_
    simp only [List.setIfInBounds_toArray, List.set_cons_zero, List.set_cons_succ]
    refine take_op (i := 2) (d := 18) (v := .agg (i16s ps)) rfl rfl (by kernel_rfl) (by kernel_rfl) (by kernel_rfl) (fun _ _ _ h => h) (yields_row (by rfl) 37 (.tmp 9) (by rfl) b2 0 24 (by rfl) 37 (i16s ps) (0, 0) _ (fun _ h => below_row h H2.out) Tryz.underlying37 rfl info_plan (by rw [i16s_size, Hp.out]; decide) (i16s ps) (i16s_all _ 24 Hp.out)) hHeld ?_
    simp only [List.setIfInBounds_toArray, List.set_cons_zero, List.set_cons_succ]
    refine take_op (i := 3) (d := 19) (v := ?_) rfl rfl (by kernel_rfl) (by kernel_rfl) (by kernel_rfl) (fun _ _ _ h => h) (Or.inl ⟨by rfl, ?hy3u131⟩) hHeld ?rest3u131
    case hy3u131 =>
      intro w' hS'
      go_simp
      try with_reducible rfl
    simp only [List.setIfInBounds_toArray, List.set_cons_zero, List.set_cons_succ]
    refine wpAnyH_ready (rs := [4]) (by kernel_rfl) (by simp) ?_
    refine AllReadyH.cons rfl (fun K hK => ?_) AllReadyH.nil
    go_simp
    refine (isFacing_is fc true HF.out _).mono ?_
    rintro e w' ⟨rfl, rfl⟩
    refine hK.out _ _ (hHeld) (fun hHeld2 => ?_)
    clear hK K
    replace hHeld := hHeld2
    clear hHeld2
    refine take_op (i := 5) (d := 21) (v := ?_) rfl rfl (by kernel_rfl) (by kernel_rfl) (by kernel_rfl) (fun _ _ _ h => h) (Or.inl ⟨by rfl, ?hy5u132⟩) hHeld ?rest5u132
    case hy5u132 =>
      intro w' hS'
      go_simp
      try with_reducible rfl
    simp only [List.setIfInBounds_toArray, List.set_cons_zero, List.set_cons_succ]
    refine take_op (i := 6) (d := 22) (v := ?_) rfl rfl (by kernel_rfl) (by kernel_rfl) (by kernel_rfl) (fun _ _ _ h => h) (Or.inl ⟨by rfl, ?hy6u133⟩) hHeld ?rest6u133
    case hy6u133 =>
      intro w' hS'
      go_simp
      try with_reducible rfl
    simp only [List.setIfInBounds_toArray, List.set_cons_zero, List.set_cons_succ]
    refine wpAnyH_ready (rs := [7]) (by kernel_rfl) (by simp) ?_
    refine AllReadyH.cons rfl (fun K hK => ?_) AllReadyH.nil
    go_simp
    refine (isPart_is lo true HLo.out _).mono ?_
    rintro e w' ⟨rfl, rfl⟩
    refine hK.out _ _ (hHeld) (fun hHeld2 => ?_)
    clear hK K
    replace hHeld := hHeld2
    clear hHeld2
    refine take_op (i := 8) (d := 24) (v := ?_) rfl rfl (by kernel_rfl) (by kernel_rfl) (by kernel_rfl) (fun _ _ _ h => h) (Or.inl ⟨by rfl, ?hy8u134⟩) hHeld ?rest8u134
    case hy8u134 =>
      intro w' hS'
      go_simp
      try with_reducible rfl
    simp only [List.setIfInBounds_toArray, List.set_cons_zero, List.set_cons_succ]
    refine take_op (i := 9) (d := 25) (v := ?_) rfl rfl (by kernel_rfl) (by kernel_rfl) (by kernel_rfl) (fun _ _ _ h => h) (Or.inl ⟨by rfl, ?hy9u135⟩) hHeld ?rest9u135
    case hy9u135 =>
      intro w' hS'
      go_simp
      try with_reducible rfl
    simp only [List.setIfInBounds_toArray, List.set_cons_zero, List.set_cons_succ]
    refine take_op (i := 10) (d := 26) (v := ?_) rfl rfl (by kernel_rfl) (by kernel_rfl) (by kernel_rfl) (fun _ _ _ h => h) (Or.inl ⟨by rfl, ?hy10u136⟩) hHeld ?rest10u136
    case hy10u136 =>
      intro w' hS'
      go_simp
      try with_reducible rfl
    simp only [List.setIfInBounds_toArray, List.set_cons_zero, List.set_cons_succ]
    refine wpAnyH_ready (rs := [11]) (by kernel_rfl) (by simp) ?_
    refine AllReadyH.cons rfl (fun K hK => ?_) AllReadyH.nil
    go_simp
    refine (isPart_is hi true HHi.out _).mono ?_
    rintro e w' ⟨rfl, rfl⟩
    refine hK.out _ _ (hHeld) (fun hHeld2 => ?_)
    clear hK K
    replace hHeld := hHeld2
    clear hHeld2
    refine take_op (i := 12) (d := 28) (v := ?_) rfl rfl (by kernel_rfl) (by kernel_rfl) (by kernel_rfl) (fun _ _ _ h => h) (Or.inl ⟨by rfl, ?hy12u137⟩) hHeld ?rest12u137
    case hy12u137 =>
      intro w' hS'
      go_simp
      try with_reducible rfl
    simp only [List.setIfInBounds_toArray, List.set_cons_zero, List.set_cons_succ]
    refine wpAnyH_ready (rs := [13]) (by kernel_rfl) (by simp) ?_
    refine AllReadyH.cons rfl (fun K hK => ?_) AllReadyH.nil
    go_simp
    refine (HC.out _).mono ?_
    rintro e W1 ⟨rfl, hb1⟩
    refine hK.out _ _ (hHeld.trans (hb1.mono hHeld.size)) (fun hHeld2 => ?_)
    clear hK K
    replace hHeld := hHeld2
    clear hHeld2
    clear hb1
    refine take_op (i := 14) (d := 14) (v := ?_) rfl rfl (by kernel_rfl) (by kernel_rfl) (by kernel_rfl) (fun _ _ _ h => h) (Or.inl ⟨by rfl, ?hy14u138⟩) hHeld ?rest14u138
    case hy14u138 =>
      intro w' hS'
      go_simp
      try with_reducible rfl
    simp only [List.setIfInBounds_toArray, List.set_cons_zero, List.set_cons_succ]
    refine wpAnyH_done (by kernel_rfl) ?_ _
    replace H0 := Lib.hid (below_row hHeld H0.out)
    replace H1 := Lib.hid (below_row hHeld H1.out)
    replace H2 := Lib.hid (below_row hHeld H2.out)
    replace HE := Lib.hid (errT_below HE.out hHeld)
    replace hb := hb.trans (hHeld.mono hb.size)
    clear hHeld
    go_upto_region 5 with (fail)
    have l0 := row_lt H0.out
    have l1 := row_lt H1.out
    have l2 := row_lt H2.out
    refine abs_code (fun V => V.heap[w.heap.size]? = some (.cells (blindC n wd gp t sh) 33 (0, 0)) ∧ V.heap[b1]? = some (.cells (sunC hs ts) 35 (0, 0)) ∧ V.heap[b2]? = some (.cells (i16s ps) 37 (0, 0)) ∧ V.heap[W1.heap.size]? = some (.cells #[.int .i64 0] 78 (0, 0)) ∧ Below w.heap.size w V) ⟨heap_alloc_oldD H0.out, heap_alloc_oldD H1.out, heap_alloc_oldD H2.out, heap_alloc_new _ _, hb.alloc hb.size _⟩ ?_
    have hgs := hb.size
    clear H0 H1 H2 HE hb
    generalize W1.heap.size = g at *
    rintro V0 ⟨d0, d1, d2, d3, hbd⟩
    refine wp_region_held_drew (S := (fun V => V.heap[w.heap.size]? = some (.cells (blindC n wd gp t sh) 33 (0, 0)) ∧ V.heap[b1]? = some (.cells (sunC hs ts) 35 (0, 0)) ∧ V.heap[b2]? = some (.cells (i16s ps) 37 (0, 0)) ∧ (∃ zs : Array Value, zs.size = 1 ∧ V.heap[g]? = some (.cells zs 78 (0, 0))) ∧ Below w.heap.size w V)) (by kernel_rfl) ⟨d0, d1, d2, ⟨_, rfl, d3⟩, hbd.drew⟩ (fun hHeld => ?_)
    refine take_op (i := 0) (d := 34) (v := .agg (blindC n wd gp t sh)) rfl rfl (by kernel_rfl) (by kernel_rfl) (by kernel_rfl) (fun _ _ _ h => h) (yields_row (by rfl) 33 (.tmp 6) (by rfl) w.heap.size 0 5 (by rfl) 33 (blindC n wd gp t sh) (0, 0) _ (fun _ h => h.1) Tryz.underlying33 rfl info_blind (blind_fits _ _ _ _ _) (blindC n wd gp t sh) (blind_all _ _ _ _ _)) hHeld ?_
    simp only [List.setIfInBounds_toArray, List.set_cons_zero, List.set_cons_succ]
    refine take_op (i := 1) (d := 35) (v := .agg (sunC hs ts)) rfl rfl (by kernel_rfl) (by kernel_rfl) (by kernel_rfl) (fun _ _ _ h => h) (yields_row (by rfl) 35 (.tmp 7) (by rfl) b1 0 48 (by rfl) 35 (sunC hs ts) (0, 0) _ (fun _ h => h.2.1) Tryz.underlying35 rfl info_sun (sun_fits _ _ Hh.out Ht.out) (sunC hs ts) (sun_all _ _ Hh.out Ht.out)) hHeld ?_
    simp only [List.setIfInBounds_toArray, List.set_cons_zero, List.set_cons_succ]
    refine take_op (i := 2) (d := 36) (v := ?_) rfl rfl (by kernel_rfl) (by kernel_rfl) (by kernel_rfl) (fun _ _ _ h => h) (Or.inl ⟨by rfl, ?hy2u139⟩) hHeld ?rest2u139
    case hy2u139 =>
      intro w' hS'
      go_simp
      try with_reducible rfl
    simp only [List.setIfInBounds_toArray, List.set_cons_zero, List.set_cons_succ]
    refine take_op (i := 3) (d := 37) (v := ?_) rfl rfl (by kernel_rfl) (by kernel_rfl) (by kernel_rfl) (fun _ _ _ h => h) (Or.inl ⟨by rfl, ?hy3u140⟩) hHeld ?rest3u140
    case hy3u140 =>
      intro w' hS'
      go_simp
      try with_reducible rfl
    simp only [List.setIfInBounds_toArray, List.set_cons_zero, List.set_cons_succ]
    refine take_op (i := 4) (d := 38) (v := ?_) rfl rfl (by kernel_rfl) (by kernel_rfl) (by kernel_rfl) (fun _ _ _ h => h) (Or.inl ⟨by rfl, ?hy4u141⟩) hHeld ?rest4u141
    case hy4u141 =>
      intro w' hS'
      go_simp
      try with_reducible rfl
    simp only [List.setIfInBounds_toArray, List.set_cons_zero, List.set_cons_succ]
    refine take_op (i := 5) (d := 39) (v := ?_) rfl rfl (by kernel_rfl) (by kernel_rfl) (by kernel_rfl) (fun _ _ _ h => h) (Or.inl ⟨by rfl, ?hy5u142⟩) hHeld ?rest5u142
    case hy5u142 =>
      intro w' hS'
      go_simp
      try with_reducible rfl
    simp only [List.setIfInBounds_toArray, List.set_cons_zero, List.set_cons_succ]
    refine take_op (i := 7) (d := 41) (v := .agg (i16s ps)) rfl rfl (by kernel_rfl) (by kernel_rfl) (by kernel_rfl) (fun _ _ _ h => h) (yields_row (by rfl) 37 (.tmp 9) (by rfl) b2 0 24 (by rfl) 37 (i16s ps) (0, 0) _ (fun _ h => h.2.2.1) Tryz.underlying37 rfl info_plan (by rw [i16s_size, Hp.out]; decide) (i16s ps) (i16s_all _ 24 Hp.out)) hHeld ?_
    simp only [List.setIfInBounds_toArray, List.set_cons_zero, List.set_cons_succ]
    refine take_op (i := 9) (d := 43) (v := ?_) rfl rfl (by kernel_rfl) (by kernel_rfl) (by kernel_rfl) (fun _ _ _ h => h) (Or.inl ⟨by rfl, ?hy9u143⟩) hHeld ?rest9u143
    case hy9u143 =>
      intro w' hS'
      go_simp
      try with_reducible rfl
    simp only [List.setIfInBounds_toArray, List.set_cons_zero, List.set_cons_succ]
    refine wpAnyH_ready (rs := [6]) (by kernel_rfl) (by simp) ?_
    refine AllReadyH.cons rfl (fun K hK => ?_) AllReadyH.nil
    go_simp
    refine (HDO.out _).mono ?_
    rintro e W5 ⟨rfl, hb1⟩
    refine hK.out _ _ (⟨below_row hb1 hHeld.1, below_row hb1 hHeld.2.1, below_row hb1 hHeld.2.2.1, ⟨_, hHeld.2.2.2.1.choose_spec.1, below_row hb1 hHeld.2.2.2.1.choose_spec.2⟩, hHeld.2.2.2.2.trans (hb1.mono hHeld.2.2.2.2.size)⟩) (fun hHeld2 => ?_)
    clear hK K
    replace hHeld := hHeld2
    clear hHeld2
    clear hb1
    refine wpAnyH_ready (rs := [8]) (by kernel_rfl) (by simp) ?_
    refine AllReadyH.cons rfl (fun K hK => ?_) AllReadyH.nil
    go_simp
    refine (HOU2.out _).mono ?_
    rintro e W6 ⟨rfl, hb1⟩
    refine hK.out _ _ (⟨below_row hb1 hHeld.1, below_row hb1 hHeld.2.1, below_row hb1 hHeld.2.2.1, ⟨_, hHeld.2.2.2.1.choose_spec.1, below_row hb1 hHeld.2.2.2.1.choose_spec.2⟩, hHeld.2.2.2.2.trans (hb1.mono hHeld.2.2.2.2.size)⟩) (fun hHeld2 => ?_)
    clear hK K
    replace hHeld := hHeld2
    clear hHeld2
    clear hb1
    refine wpAnyH_ready (rs := [10]) (by kernel_rfl) (by simp) ?_
    refine AllReadyH.cons rfl (fun K hK => ?_) AllReadyH.nil
    go_simp
    refine (as_nil _ _).mono ?_
    rintro e w' ⟨rfl, rfl⟩
    refine hK.out _ _ (hHeld) (fun hHeld2 => ?_)
    clear hK K
    replace hHeld := hHeld2
    clear hHeld2
    refine take_op (i := 11) (d := 45) (v := ?_) rfl rfl (by kernel_rfl) (by kernel_rfl) (by kernel_rfl) (fun _ _ _ h => h) (Or.inl ⟨by rfl, ?hy11u144⟩) hHeld ?rest11u144
    case hy11u144 =>
      intro w' hS'
      go_simp
      try with_reducible rfl
    simp only [List.setIfInBounds_toArray, List.set_cons_zero, List.set_cons_succ]
    refine wpAnyH_done (by kernel_rfl) ?_ _
    have hbx := hHeld.2.2.2.2
    clear hHeld d0 d1 d2 d3 hbd
    go_wp2
    go_ret2
    exact ⟨rfl, hbx⟩
  | some k =>
    have HOU2 : Hid (∀ w, Calls Tryz.prog 37 #[.agg (dayC hs ts fc lo hi n wd gp t sh), .agg (i16s ps)] w fun e w' => e = .returned (.iface 78 (.agg #[.int .i64 (k : Int)])) ∧ Below w.heap.size w w') := HOU.out
    clear HOU
    go_enter Tryz.func18, Tryz.ntmps18
    go_upto_region 1 with (fail)
    refine abs_code (fun W => W.heap[w.heap.size]? = some (.cells (blindC n wd gp t sh) 33 (0, 0)) ∧ W.heap[w.heap.size + 1]? = some (.cells (sunC hs ts) 35 (0, 0)) ∧ W.heap[w.heap.size + 1 + 1]? = some (.cells (i16s ps) 37 (0, 0)) ∧ Below w.heap.size w W) ⟨(three_new _ _ _ _).1, (three_new _ _ _ _).2.1, (three_new _ _ _ _).2.2.1, (three_new _ _ _ _).2.2.2⟩ ?_
    rintro W ⟨h0, h1, h2, hb⟩
    generalize w.heap.size + 1 + 1 = b2 at *
    generalize w.heap.size + 1 = b1 at *
    have H0 := Lib.hid h0
    have H1 := Lib.hid h1
    have H2 := Lib.hid h2
    clear h0 h1 h2
    have HE := Lib.hid (errT_below HE0.out hb)
    refine wp_region_held_drew (S := (fun V => Below W.heap.size W V)) (by kernel_rfl) (Below.refl _ _).drew (fun hHeld => ?_)
    refine take_op (i := 0) (d := 16) (v := .agg (blindC n wd gp t sh)) rfl rfl (by kernel_rfl) (by kernel_rfl) (by kernel_rfl) (fun _ _ _ h => h) (yields_row (by rfl) 33 (.tmp 6) (by rfl) w.heap.size 0 5 (by rfl) 33 (blindC n wd gp t sh) (0, 0) _ (fun _ h => below_row h H0.out) Tryz.underlying33 rfl info_blind (blind_fits _ _ _ _ _) (blindC n wd gp t sh) (blind_all _ _ _ _ _)) hHeld ?_
    simp only [List.setIfInBounds_toArray, List.set_cons_zero, List.set_cons_succ]
    refine take_op (i := 1) (d := 17) (v := .agg (sunC hs ts)) rfl rfl (by kernel_rfl) (by kernel_rfl) (by kernel_rfl) (fun _ _ _ h => h) (yields_row (by rfl) 35 (.tmp 7) (by rfl) b1 0 48 (by rfl) 35 (sunC hs ts) (0, 0) _ (fun _ h => below_row h H1.out) Tryz.underlying35 rfl info_sun (sun_fits _ _ Hh.out Ht.out) (sunC hs ts) (sun_all _ _ Hh.out Ht.out)) hHeld ?_
    simp only [List.setIfInBounds_toArray, List.set_cons_zero, List.set_cons_succ]
    refine take_op (i := 2) (d := 18) (v := .agg (i16s ps)) rfl rfl (by kernel_rfl) (by kernel_rfl) (by kernel_rfl) (fun _ _ _ h => h) (yields_row (by rfl) 37 (.tmp 9) (by rfl) b2 0 24 (by rfl) 37 (i16s ps) (0, 0) _ (fun _ h => below_row h H2.out) Tryz.underlying37 rfl info_plan (by rw [i16s_size, Hp.out]; decide) (i16s ps) (i16s_all _ 24 Hp.out)) hHeld ?_
    simp only [List.setIfInBounds_toArray, List.set_cons_zero, List.set_cons_succ]
    refine take_op (i := 3) (d := 19) (v := ?_) rfl rfl (by kernel_rfl) (by kernel_rfl) (by kernel_rfl) (fun _ _ _ h => h) (Or.inl ⟨by rfl, ?hy3u145⟩) hHeld ?rest3u145
    case hy3u145 =>
      intro w' hS'
      go_simp
      try with_reducible rfl
    simp only [List.setIfInBounds_toArray, List.set_cons_zero, List.set_cons_succ]
    refine wpAnyH_ready (rs := [4]) (by kernel_rfl) (by simp) ?_
    refine AllReadyH.cons rfl (fun K hK => ?_) AllReadyH.nil
    go_simp
    refine (isFacing_is fc true HF.out _).mono ?_
    rintro e w' ⟨rfl, rfl⟩
    refine hK.out _ _ (hHeld) (fun hHeld2 => ?_)
    clear hK K
    replace hHeld := hHeld2
    clear hHeld2
    refine take_op (i := 5) (d := 21) (v := ?_) rfl rfl (by kernel_rfl) (by kernel_rfl) (by kernel_rfl) (fun _ _ _ h => h) (Or.inl ⟨by rfl, ?hy5u146⟩) hHeld ?rest5u146
    case hy5u146 =>
      intro w' hS'
      go_simp
      try with_reducible rfl
    simp only [List.setIfInBounds_toArray, List.set_cons_zero, List.set_cons_succ]
    refine take_op (i := 6) (d := 22) (v := ?_) rfl rfl (by kernel_rfl) (by kernel_rfl) (by kernel_rfl) (fun _ _ _ h => h) (Or.inl ⟨by rfl, ?hy6u147⟩) hHeld ?rest6u147
    case hy6u147 =>
      intro w' hS'
      go_simp
      try with_reducible rfl
    simp only [List.setIfInBounds_toArray, List.set_cons_zero, List.set_cons_succ]
    refine wpAnyH_ready (rs := [7]) (by kernel_rfl) (by simp) ?_
    refine AllReadyH.cons rfl (fun K hK => ?_) AllReadyH.nil
    go_simp
    refine (isPart_is lo true HLo.out _).mono ?_
    rintro e w' ⟨rfl, rfl⟩
    refine hK.out _ _ (hHeld) (fun hHeld2 => ?_)
    clear hK K
    replace hHeld := hHeld2
    clear hHeld2
    refine take_op (i := 8) (d := 24) (v := ?_) rfl rfl (by kernel_rfl) (by kernel_rfl) (by kernel_rfl) (fun _ _ _ h => h) (Or.inl ⟨by rfl, ?hy8u148⟩) hHeld ?rest8u148
    case hy8u148 =>
      intro w' hS'
      go_simp
      try with_reducible rfl
    simp only [List.setIfInBounds_toArray, List.set_cons_zero, List.set_cons_succ]
    refine take_op (i := 9) (d := 25) (v := ?_) rfl rfl (by kernel_rfl) (by kernel_rfl) (by kernel_rfl) (fun _ _ _ h => h) (Or.inl ⟨by rfl, ?hy9u149⟩) hHeld ?rest9u149
    case hy9u149 =>
      intro w' hS'
      go_simp
      try with_reducible rfl
    simp only [List.setIfInBounds_toArray, List.set_cons_zero, List.set_cons_succ]
    refine take_op (i := 10) (d := 26) (v := ?_) rfl rfl (by kernel_rfl) (by kernel_rfl) (by kernel_rfl) (fun _ _ _ h => h) (Or.inl ⟨by rfl, ?hy10u150⟩) hHeld ?rest10u150
    case hy10u150 =>
      intro w' hS'
      go_simp
      try with_reducible rfl
    simp only [List.setIfInBounds_toArray, List.set_cons_zero, List.set_cons_succ]
    refine wpAnyH_ready (rs := [11]) (by kernel_rfl) (by simp) ?_
    refine AllReadyH.cons rfl (fun K hK => ?_) AllReadyH.nil
    go_simp
    refine (isPart_is hi true HHi.out _).mono ?_
    rintro e w' ⟨rfl, rfl⟩
    refine hK.out _ _ (hHeld) (fun hHeld2 => ?_)
    clear hK K
    replace hHeld := hHeld2
    clear hHeld2
    refine take_op (i := 12) (d := 28) (v := ?_) rfl rfl (by kernel_rfl) (by kernel_rfl) (by kernel_rfl) (fun _ _ _ h => h) (Or.inl ⟨by rfl, ?hy12u151⟩) hHeld ?rest12u151
    case hy12u151 =>
      intro w' hS'
      go_simp
      try with_reducible rfl
    simp only [List.setIfInBounds_toArray, List.set_cons_zero, List.set_cons_succ]
    refine wpAnyH_ready (rs := [13]) (by kernel_rfl) (by simp) ?_
    refine AllReadyH.cons rfl (fun K hK => ?_) AllReadyH.nil
    go_simp
    refine (HC.out _).mono ?_
    rintro e W1 ⟨rfl, hb1⟩
    refine hK.out _ _ (hHeld.trans (hb1.mono hHeld.size)) (fun hHeld2 => ?_)
    clear hK K
    replace hHeld := hHeld2
    clear hHeld2
    clear hb1
    refine take_op (i := 14) (d := 14) (v := ?_) rfl rfl (by kernel_rfl) (by kernel_rfl) (by kernel_rfl) (fun _ _ _ h => h) (Or.inl ⟨by rfl, ?hy14u152⟩) hHeld ?rest14u152
    case hy14u152 =>
      intro w' hS'
      go_simp
      try with_reducible rfl
    simp only [List.setIfInBounds_toArray, List.set_cons_zero, List.set_cons_succ]
    refine wpAnyH_done (by kernel_rfl) ?_ _
    replace H0 := Lib.hid (below_row hHeld H0.out)
    replace H1 := Lib.hid (below_row hHeld H1.out)
    replace H2 := Lib.hid (below_row hHeld H2.out)
    replace HE := Lib.hid (errT_below HE.out hHeld)
    replace hb := hb.trans (hHeld.mono hb.size)
    clear hHeld
    go_upto_region 5 with (fail)
    have l0 := row_lt H0.out
    have l1 := row_lt H1.out
    have l2 := row_lt H2.out
    refine abs_code (fun V => V.heap[w.heap.size]? = some (.cells (blindC n wd gp t sh) 33 (0, 0)) ∧ V.heap[b1]? = some (.cells (sunC hs ts) 35 (0, 0)) ∧ V.heap[b2]? = some (.cells (i16s ps) 37 (0, 0)) ∧ V.heap[W1.heap.size]? = some (.cells #[.int .i64 0] 78 (0, 0)) ∧ Below w.heap.size w V) ⟨heap_alloc_oldD H0.out, heap_alloc_oldD H1.out, heap_alloc_oldD H2.out, heap_alloc_new _ _, hb.alloc hb.size _⟩ ?_
    have hgs := hb.size
    clear H0 H1 H2 HE hb
    generalize W1.heap.size = g at *
    rintro V0 ⟨d0, d1, d2, d3, hbd⟩
    refine wp_region_held_drew (S := (fun V => V.heap[w.heap.size]? = some (.cells (blindC n wd gp t sh) 33 (0, 0)) ∧ V.heap[b1]? = some (.cells (sunC hs ts) 35 (0, 0)) ∧ V.heap[b2]? = some (.cells (i16s ps) 37 (0, 0)) ∧ (∃ zs : Array Value, zs.size = 1 ∧ V.heap[g]? = some (.cells zs 78 (0, 0))) ∧ Below w.heap.size w V)) (by kernel_rfl) ⟨d0, d1, d2, ⟨_, rfl, d3⟩, hbd.drew⟩ (fun hHeld => ?_)
    refine take_op (i := 0) (d := 34) (v := .agg (blindC n wd gp t sh)) rfl rfl (by kernel_rfl) (by kernel_rfl) (by kernel_rfl) (fun _ _ _ h => h) (yields_row (by rfl) 33 (.tmp 6) (by rfl) w.heap.size 0 5 (by rfl) 33 (blindC n wd gp t sh) (0, 0) _ (fun _ h => h.1) Tryz.underlying33 rfl info_blind (blind_fits _ _ _ _ _) (blindC n wd gp t sh) (blind_all _ _ _ _ _)) hHeld ?_
    simp only [List.setIfInBounds_toArray, List.set_cons_zero, List.set_cons_succ]
    refine take_op (i := 1) (d := 35) (v := .agg (sunC hs ts)) rfl rfl (by kernel_rfl) (by kernel_rfl) (by kernel_rfl) (fun _ _ _ h => h) (yields_row (by rfl) 35 (.tmp 7) (by rfl) b1 0 48 (by rfl) 35 (sunC hs ts) (0, 0) _ (fun _ h => h.2.1) Tryz.underlying35 rfl info_sun (sun_fits _ _ Hh.out Ht.out) (sunC hs ts) (sun_all _ _ Hh.out Ht.out)) hHeld ?_
    simp only [List.setIfInBounds_toArray, List.set_cons_zero, List.set_cons_succ]
    refine take_op (i := 2) (d := 36) (v := ?_) rfl rfl (by kernel_rfl) (by kernel_rfl) (by kernel_rfl) (fun _ _ _ h => h) (Or.inl ⟨by rfl, ?hy2u153⟩) hHeld ?rest2u153
    case hy2u153 =>
      intro w' hS'
      go_simp
      try with_reducible rfl
    simp only [List.setIfInBounds_toArray, List.set_cons_zero, List.set_cons_succ]
    refine take_op (i := 3) (d := 37) (v := ?_) rfl rfl (by kernel_rfl) (by kernel_rfl) (by kernel_rfl) (fun _ _ _ h => h) (Or.inl ⟨by rfl, ?hy3u154⟩) hHeld ?rest3u154
    case hy3u154 =>
      intro w' hS'
      go_simp
      try with_reducible rfl
    simp only [List.setIfInBounds_toArray, List.set_cons_zero, List.set_cons_succ]
    refine take_op (i := 4) (d := 38) (v := ?_) rfl rfl (by kernel_rfl) (by kernel_rfl) (by kernel_rfl) (fun _ _ _ h => h) (Or.inl ⟨by rfl, ?hy4u155⟩) hHeld ?rest4u155
    case hy4u155 =>
      intro w' hS'
      go_simp
      try with_reducible rfl
    simp only [List.setIfInBounds_toArray, List.set_cons_zero, List.set_cons_succ]
    refine take_op (i := 5) (d := 39) (v := ?_) rfl rfl (by kernel_rfl) (by kernel_rfl) (by kernel_rfl) (fun _ _ _ h => h) (Or.inl ⟨by rfl, ?hy5u156⟩) hHeld ?rest5u156
    case hy5u156 =>
      intro w' hS'
      go_simp
      try with_reducible rfl
    simp only [List.setIfInBounds_toArray, List.set_cons_zero, List.set_cons_succ]
    refine take_op (i := 7) (d := 41) (v := .agg (i16s ps)) rfl rfl (by kernel_rfl) (by kernel_rfl) (by kernel_rfl) (fun _ _ _ h => h) (yields_row (by rfl) 37 (.tmp 9) (by rfl) b2 0 24 (by rfl) 37 (i16s ps) (0, 0) _ (fun _ h => h.2.2.1) Tryz.underlying37 rfl info_plan (by rw [i16s_size, Hp.out]; decide) (i16s ps) (i16s_all _ 24 Hp.out)) hHeld ?_
    simp only [List.setIfInBounds_toArray, List.set_cons_zero, List.set_cons_succ]
    refine take_op (i := 9) (d := 43) (v := ?_) rfl rfl (by kernel_rfl) (by kernel_rfl) (by kernel_rfl) (fun _ _ _ h => h) (Or.inl ⟨by rfl, ?hy9u157⟩) hHeld ?rest9u157
    case hy9u157 =>
      intro w' hS'
      go_simp
      try with_reducible rfl
    simp only [List.setIfInBounds_toArray, List.set_cons_zero, List.set_cons_succ]
    refine wpAnyH_ready (rs := [6]) (by kernel_rfl) (by simp) ?_
    refine AllReadyH.cons rfl (fun K hK => ?_) AllReadyH.nil
    go_simp
    refine (HDO.out _).mono ?_
    rintro e W5 ⟨rfl, hb1⟩
    refine hK.out _ _ (⟨below_row hb1 hHeld.1, below_row hb1 hHeld.2.1, below_row hb1 hHeld.2.2.1, ⟨_, hHeld.2.2.2.1.choose_spec.1, below_row hb1 hHeld.2.2.2.1.choose_spec.2⟩, hHeld.2.2.2.2.trans (hb1.mono hHeld.2.2.2.2.size)⟩) (fun hHeld2 => ?_)
    clear hK K
    replace hHeld := hHeld2
    clear hHeld2
    clear hb1
    refine wpAnyH_ready (rs := [8]) (by kernel_rfl) (by simp) ?_
    refine AllReadyH.cons rfl (fun K hK => ?_) AllReadyH.nil
    go_simp
    refine (HOU2.out _).mono ?_
    rintro e W6 ⟨rfl, hb1⟩
    refine hK.out _ _ (⟨below_row hb1 hHeld.1, below_row hb1 hHeld.2.1, below_row hb1 hHeld.2.2.1, ⟨_, hHeld.2.2.2.1.choose_spec.1, below_row hb1 hHeld.2.2.2.1.choose_spec.2⟩, hHeld.2.2.2.2.trans (hb1.mono hHeld.2.2.2.2.size)⟩) (fun hHeld2 => ?_)
    clear hK K
    replace hHeld := hHeld2
    clear hHeld2
    clear hb1
    obtain ⟨zs, hzs, hzr⟩ := hHeld.2.2.2.1
    refine wpAnyH_ready (rs := [10]) (by kernel_rfl) (by simp) ?_
    refine AllReadyH.cons rfl (fun K hK => ?_) AllReadyH.nil
    go_simp
    refine (as_Hour_Hour g _ zs _ (errT_below HE0.out hHeld.2.2.2.2) hzr rfl hzs (one_i64 _)).mono ?_
    rintro e W8 ⟨rfl, U, hU, hrow, rfl⟩
    refine hK.out _ _ (⟨(setRow_other _ _ _ _ (by omega)).trans (below_row hU hHeld.1), (setRow_other _ _ _ _ (by omega)).trans (below_row hU hHeld.2.1), (setRow_other _ _ _ _ (by omega)).trans (below_row hU hHeld.2.2.1), ⟨_, rfl, setRow_heap _ _ _ _ _ _ hrow⟩, below_setRow (hHeld.2.2.2.2.trans (hU.mono hHeld.2.2.2.2.size)) hgs _⟩) (fun hHeld2 => ?_)
    clear hK K
    replace hHeld := hHeld2
    clear hHeld2
    refine take_op (i := 11) (d := 45) (v := ?_) rfl rfl (by kernel_rfl) (by kernel_rfl) (by kernel_rfl) (fun _ _ _ h => h) (Or.inl ⟨by rfl, ?hy11u158⟩) hHeld ?rest11u158
    case hy11u158 =>
      intro w' hS'
      go_simp
      try with_reducible rfl
    simp only [List.setIfInBounds_toArray, List.set_cons_zero, List.set_cons_succ]
    refine wpAnyH_done (by kernel_rfl) ?_ _
    have q : (U.setRow g #[.int .i64 (k : Int)]).cell? ⟨g, 0, none⟩ = some (.int .i64 (k : Int)) := by rw [cell_of_row _ _ _ _ _ _ (setRow_heap _ _ _ _ _ _ hrow)]; rfl
    have hbx := hHeld.2.2.2.2
    clear hHeld d0 d1 d2 d3 hbd
    go_wp2
    go_ret2
    exact ⟨rfl, hbx⟩

set_option maxRecDepth 100000 in
set_option maxHeartbeats 4000000 in
theorem sKeepsWithin_F (n : Int) (wd gp : Nat) (t : Int) (sh : Nat) (hs ts : List Int) (hh : hs.length = 24) (ht : ts.length = 24) (fc : Int) (ps : List Int) (hp : ps.length = 24) (lo hi : Nat) (T0 : -32768 ≤ t) (T1 : t ≤ 32767) (N0 : -128 ≤ n) (N1 : n ≤ 127) (rb : ∀ x ∈ hs ++ ts, -32768 ≤ x ∧ x ≤ 32767) (pb : ∀ x ∈ ps, -32768 ≤ x ∧ x ≤ 32767) (hf : inF fc = false) (c : Int) (hc : cdP (okP ps) (okBl n wd gp t sh) (okB hs ts) false = c) (hne : c ≠ 0) (w : World) :
    Calls Tryz.prog 15 #[.agg (blindC n wd gp t sh), .agg (sunC hs ts), .int .i64 fc, .agg (i16s ps), .float .f32 lo, .float .f32 hi] w fun e w' => e = .returned (.tuple #[.bool false, .int .i64 c]) ∧ Below w.heap.size w w' := by
  have HA := Lib.hid (fun g1 g2 g3 w q1 q2 q3 => l07Asked_is n wd gp t sh hs ts hh ht ps hp T0 T1 N0 N1 rb pb false c hc g1 g2 g3 w q1 q2 q3)
  have HF := Lib.hid hf
  clear hh ht hp hc hf T0 T1 N0 N1 rb pb
  go_enter Tryz.func15, Tryz.ntmps15
  go_upto_region 1 with (fail)
  refine abs_code (fun W => W.heap[w.heap.size]? = some (.cells (blindC n wd gp t sh) 33 (0, 0)) ∧ W.heap[w.heap.size + 1]? = some (.cells (sunC hs ts) 35 (0, 0)) ∧ W.heap[w.heap.size + 1 + 1]? = some (.cells (i16s ps) 37 (0, 0)) ∧ Below w.heap.size w W) ⟨(three_new _ _ _ _).1, (three_new _ _ _ _).2.1, (three_new _ _ _ _).2.2.1, (three_new _ _ _ _).2.2.2⟩ ?_
  rintro W ⟨h0, h1, h2, hb⟩
  generalize w.heap.size + 1 + 1 = b2 at *
  generalize w.heap.size + 1 = b1 at *
  have H0 := Lib.hid h0
  have H1 := Lib.hid h1
  have H2 := Lib.hid h2
  clear h0 h1 h2
  go_wp2_with (first | (go_at_call 25; refine (l01Faced_is fc false HF.out _).mono ?_; rintro e w' ⟨rfl, rfl⟩) | (go_at_call 24; refine (HA.out _ _ _ _ H0.out H1.out H2.out).mono ?_; rintro e w' ⟨rfl, rfl⟩))
  go_ret2
  exact ⟨rfl, hb⟩

set_option maxRecDepth 100000 in
set_option maxHeartbeats 4000000 in
theorem sKeepsWithin_T (n : Int) (wd gp : Nat) (t : Int) (sh : Nat) (hs ts : List Int) (hh : hs.length = 24) (ht : ts.length = 24) (fc : Int) (ps : List Int) (hp : ps.length = 24) (lo hi : Nat) (T0 : -32768 ≤ t) (T1 : t ≤ 32767) (N0 : -128 ≤ n) (N1 : n ≤ 127) (rb : ∀ x ∈ hs ++ ts, -32768 ≤ x ∧ x ≤ 32767) (pb : ∀ x ∈ ps, -32768 ≤ x ∧ x ≤ 32767) (hf : inF fc = true) (hlo : partB lo = false) (c : Int) (hc : cdP (okP ps) (okBl n wd gp t sh) (okB hs ts) false = c) (hne : c ≠ 0) (w : World) :
    Calls Tryz.prog 15 #[.agg (blindC n wd gp t sh), .agg (sunC hs ts), .int .i64 fc, .agg (i16s ps), .float .f32 lo, .float .f32 hi] w fun e w' => e = .returned (.tuple #[.bool false, .int .i64 c]) ∧ Below w.heap.size w w' := by
  have HA := Lib.hid (fun g1 g2 g3 w q1 q2 q3 => l07Asked_is n wd gp t sh hs ts hh ht ps hp T0 T1 N0 N1 rb pb false c hc g1 g2 g3 w q1 q2 q3)
  have HF := Lib.hid hf
  have HLo := Lib.hid (fun w => l01Part_is lo false hlo w)
  clear hh ht hp hc hf hlo T0 T1 N0 N1 rb pb
  go_enter Tryz.func15, Tryz.ntmps15
  go_upto_region 1 with (fail)
  refine abs_code (fun W => W.heap[w.heap.size]? = some (.cells (blindC n wd gp t sh) 33 (0, 0)) ∧ W.heap[w.heap.size + 1]? = some (.cells (sunC hs ts) 35 (0, 0)) ∧ W.heap[w.heap.size + 1 + 1]? = some (.cells (i16s ps) 37 (0, 0)) ∧ Below w.heap.size w W) ⟨(three_new _ _ _ _).1, (three_new _ _ _ _).2.1, (three_new _ _ _ _).2.2.1, (three_new _ _ _ _).2.2.2⟩ ?_
  rintro W ⟨h0, h1, h2, hb⟩
  generalize w.heap.size + 1 + 1 = b2 at *
  generalize w.heap.size + 1 = b1 at *
  have H0 := Lib.hid h0
  have H1 := Lib.hid h1
  have H2 := Lib.hid h2
  clear h0 h1 h2
  go_wp2_with (first | (go_at_call 25; refine (l01Faced_is fc true HF.out _).mono ?_; rintro e w' ⟨rfl, rfl⟩) | (go_at_call 34; refine (HLo.out _).mono ?_; rintro e w' ⟨rfl, rfl⟩) | (go_at_call 24; refine (HA.out _ _ _ _ H0.out H1.out H2.out).mono ?_; rintro e w' ⟨rfl, rfl⟩))
  go_ret2
  exact ⟨rfl, hb⟩

set_option maxRecDepth 100000 in
set_option maxHeartbeats 4000000 in
theorem sKeepsWithin_TT (n : Int) (wd gp : Nat) (t : Int) (sh : Nat) (hs ts : List Int) (hh : hs.length = 24) (ht : ts.length = 24) (fc : Int) (ps : List Int) (hp : ps.length = 24) (lo hi : Nat) (T0 : -32768 ≤ t) (T1 : t ≤ 32767) (N0 : -128 ≤ n) (N1 : n ≤ 127) (rb : ∀ x ∈ hs ++ ts, -32768 ≤ x ∧ x ≤ 32767) (pb : ∀ x ∈ ps, -32768 ≤ x ∧ x ≤ 32767) (hf : inF fc = true) (hlo : partB lo = true) (hgh : Bool) (hhi : partB hi = hgh) (c : Int) (hc : cdP (okP ps) (okBl n wd gp t sh) (okB hs ts) hgh = c) (hne : c ≠ 0) (w : World) :
    Calls Tryz.prog 15 #[.agg (blindC n wd gp t sh), .agg (sunC hs ts), .int .i64 fc, .agg (i16s ps), .float .f32 lo, .float .f32 hi] w fun e w' => e = .returned (.tuple #[.bool false, .int .i64 c]) ∧ Below w.heap.size w w' := by
  have HA := Lib.hid (fun g1 g2 g3 w q1 q2 q3 => l07Asked_is n wd gp t sh hs ts hh ht ps hp T0 T1 N0 N1 rb pb hgh c hc g1 g2 g3 w q1 q2 q3)
  have HF := Lib.hid hf
  have HLo := Lib.hid (fun w => l01Part_is lo true hlo w)
  have HHi := Lib.hid (fun w => l01Part_is hi hgh hhi w)
  clear hh ht hp hc hf hlo hhi T0 T1 N0 N1 rb pb
  go_enter Tryz.func15, Tryz.ntmps15
  go_upto_region 1 with (fail)
  refine abs_code (fun W => W.heap[w.heap.size]? = some (.cells (blindC n wd gp t sh) 33 (0, 0)) ∧ W.heap[w.heap.size + 1]? = some (.cells (sunC hs ts) 35 (0, 0)) ∧ W.heap[w.heap.size + 1 + 1]? = some (.cells (i16s ps) 37 (0, 0)) ∧ Below w.heap.size w W) ⟨(three_new _ _ _ _).1, (three_new _ _ _ _).2.1, (three_new _ _ _ _).2.2.1, (three_new _ _ _ _).2.2.2⟩ ?_
  rintro W ⟨h0, h1, h2, hb⟩
  generalize w.heap.size + 1 + 1 = b2 at *
  generalize w.heap.size + 1 = b1 at *
  have H0 := Lib.hid h0
  have H1 := Lib.hid h1
  have H2 := Lib.hid h2
  clear h0 h1 h2
  go_wp2_with (first | (go_at_call 25; refine (l01Faced_is fc true HF.out _).mono ?_; rintro e w' ⟨rfl, rfl⟩) | (go_at_call 34; (first | (with_reducible refine (HLo.out _).mono ?_) | (with_reducible refine (HHi.out _).mono ?_)); rintro e w' ⟨rfl, rfl⟩) | (go_at_call 24; refine (HA.out _ _ _ _ H0.out H1.out H2.out).mono ?_; rintro e w' ⟨rfl, rfl⟩))
  go_ret2
  exact ⟨rfl, hb⟩

set_option maxRecDepth 100000 in
set_option maxHeartbeats 4000000 in
theorem sFirstOutside_F (n : Int) (wd gp : Nat) (t : Int) (sh : Nat) (hs ts : List Int) (hh : hs.length = 24) (ht : ts.length = 24) (fc : Int) (ps : List Int) (hp : ps.length = 24) (lo hi : Nat) (T0 : -32768 ≤ t) (T1 : t ≤ 32767) (N0 : -128 ≤ n) (N1 : n ≤ 127) (rb : ∀ x ∈ hs ++ ts, -32768 ≤ x ∧ x ≤ 32767) (pb : ∀ x ∈ ps, -32768 ≤ x ∧ x ≤ 32767) (hf : inF fc = false) (c : Int) (hc : cdP (okP ps) (okBl n wd gp t sh) (okB hs ts) false = c) (hne : c ≠ 0) (w : World) :
    Calls Tryz.prog 17 #[.agg (blindC n wd gp t sh), .agg (sunC hs ts), .int .i64 fc, .agg (i16s ps), .float .f32 lo, .float .f32 hi] w fun e w' => e = .returned (.tuple #[.int .i64 0, .int .i64 c]) ∧ Below w.heap.size w w' := by
  have HA := Lib.hid (fun g1 g2 g3 w q1 q2 q3 => l07Asked_is n wd gp t sh hs ts hh ht ps hp T0 T1 N0 N1 rb pb false c hc g1 g2 g3 w q1 q2 q3)
  have HF := Lib.hid hf
  clear hh ht hp hc hf T0 T1 N0 N1 rb pb
  go_enter Tryz.func17, Tryz.ntmps17
  go_upto_region 1 with (fail)
  refine abs_code (fun W => W.heap[w.heap.size]? = some (.cells (blindC n wd gp t sh) 33 (0, 0)) ∧ W.heap[w.heap.size + 1]? = some (.cells (sunC hs ts) 35 (0, 0)) ∧ W.heap[w.heap.size + 1 + 1]? = some (.cells (i16s ps) 37 (0, 0)) ∧ Below w.heap.size w W) ⟨(three_new _ _ _ _).1, (three_new _ _ _ _).2.1, (three_new _ _ _ _).2.2.1, (three_new _ _ _ _).2.2.2⟩ ?_
  rintro W ⟨h0, h1, h2, hb⟩
  generalize w.heap.size + 1 + 1 = b2 at *
  generalize w.heap.size + 1 = b1 at *
  have H0 := Lib.hid h0
  have H1 := Lib.hid h1
  have H2 := Lib.hid h2
  clear h0 h1 h2
  go_wp2_with (first | (go_at_call 25; refine (l01Faced_is fc false HF.out _).mono ?_; rintro e w' ⟨rfl, rfl⟩) | (go_at_call 24; refine (HA.out _ _ _ _ H0.out H1.out H2.out).mono ?_; rintro e w' ⟨rfl, rfl⟩))
  go_ret2
  exact ⟨rfl, hb⟩

set_option maxRecDepth 100000 in
set_option maxHeartbeats 4000000 in
theorem sFirstOutside_T (n : Int) (wd gp : Nat) (t : Int) (sh : Nat) (hs ts : List Int) (hh : hs.length = 24) (ht : ts.length = 24) (fc : Int) (ps : List Int) (hp : ps.length = 24) (lo hi : Nat) (T0 : -32768 ≤ t) (T1 : t ≤ 32767) (N0 : -128 ≤ n) (N1 : n ≤ 127) (rb : ∀ x ∈ hs ++ ts, -32768 ≤ x ∧ x ≤ 32767) (pb : ∀ x ∈ ps, -32768 ≤ x ∧ x ≤ 32767) (hf : inF fc = true) (hlo : partB lo = false) (c : Int) (hc : cdP (okP ps) (okBl n wd gp t sh) (okB hs ts) false = c) (hne : c ≠ 0) (w : World) :
    Calls Tryz.prog 17 #[.agg (blindC n wd gp t sh), .agg (sunC hs ts), .int .i64 fc, .agg (i16s ps), .float .f32 lo, .float .f32 hi] w fun e w' => e = .returned (.tuple #[.int .i64 0, .int .i64 c]) ∧ Below w.heap.size w w' := by
  have HA := Lib.hid (fun g1 g2 g3 w q1 q2 q3 => l07Asked_is n wd gp t sh hs ts hh ht ps hp T0 T1 N0 N1 rb pb false c hc g1 g2 g3 w q1 q2 q3)
  have HF := Lib.hid hf
  have HLo := Lib.hid (fun w => l01Part_is lo false hlo w)
  clear hh ht hp hc hf hlo T0 T1 N0 N1 rb pb
  go_enter Tryz.func17, Tryz.ntmps17
  go_upto_region 1 with (fail)
  refine abs_code (fun W => W.heap[w.heap.size]? = some (.cells (blindC n wd gp t sh) 33 (0, 0)) ∧ W.heap[w.heap.size + 1]? = some (.cells (sunC hs ts) 35 (0, 0)) ∧ W.heap[w.heap.size + 1 + 1]? = some (.cells (i16s ps) 37 (0, 0)) ∧ Below w.heap.size w W) ⟨(three_new _ _ _ _).1, (three_new _ _ _ _).2.1, (three_new _ _ _ _).2.2.1, (three_new _ _ _ _).2.2.2⟩ ?_
  rintro W ⟨h0, h1, h2, hb⟩
  generalize w.heap.size + 1 + 1 = b2 at *
  generalize w.heap.size + 1 = b1 at *
  have H0 := Lib.hid h0
  have H1 := Lib.hid h1
  have H2 := Lib.hid h2
  clear h0 h1 h2
  go_wp2_with (first | (go_at_call 25; refine (l01Faced_is fc true HF.out _).mono ?_; rintro e w' ⟨rfl, rfl⟩) | (go_at_call 34; refine (HLo.out _).mono ?_; rintro e w' ⟨rfl, rfl⟩) | (go_at_call 24; refine (HA.out _ _ _ _ H0.out H1.out H2.out).mono ?_; rintro e w' ⟨rfl, rfl⟩))
  go_ret2
  exact ⟨rfl, hb⟩

set_option maxRecDepth 100000 in
set_option maxHeartbeats 4000000 in
theorem sFirstOutside_TT (n : Int) (wd gp : Nat) (t : Int) (sh : Nat) (hs ts : List Int) (hh : hs.length = 24) (ht : ts.length = 24) (fc : Int) (ps : List Int) (hp : ps.length = 24) (lo hi : Nat) (T0 : -32768 ≤ t) (T1 : t ≤ 32767) (N0 : -128 ≤ n) (N1 : n ≤ 127) (rb : ∀ x ∈ hs ++ ts, -32768 ≤ x ∧ x ≤ 32767) (pb : ∀ x ∈ ps, -32768 ≤ x ∧ x ≤ 32767) (hf : inF fc = true) (hlo : partB lo = true) (hgh : Bool) (hhi : partB hi = hgh) (c : Int) (hc : cdP (okP ps) (okBl n wd gp t sh) (okB hs ts) hgh = c) (hne : c ≠ 0) (w : World) :
    Calls Tryz.prog 17 #[.agg (blindC n wd gp t sh), .agg (sunC hs ts), .int .i64 fc, .agg (i16s ps), .float .f32 lo, .float .f32 hi] w fun e w' => e = .returned (.tuple #[.int .i64 0, .int .i64 c]) ∧ Below w.heap.size w w' := by
  have HA := Lib.hid (fun g1 g2 g3 w q1 q2 q3 => l07Asked_is n wd gp t sh hs ts hh ht ps hp T0 T1 N0 N1 rb pb hgh c hc g1 g2 g3 w q1 q2 q3)
  have HF := Lib.hid hf
  have HLo := Lib.hid (fun w => l01Part_is lo true hlo w)
  have HHi := Lib.hid (fun w => l01Part_is hi hgh hhi w)
  clear hh ht hp hc hf hlo hhi T0 T1 N0 N1 rb pb
  go_enter Tryz.func17, Tryz.ntmps17
  go_upto_region 1 with (fail)
  refine abs_code (fun W => W.heap[w.heap.size]? = some (.cells (blindC n wd gp t sh) 33 (0, 0)) ∧ W.heap[w.heap.size + 1]? = some (.cells (sunC hs ts) 35 (0, 0)) ∧ W.heap[w.heap.size + 1 + 1]? = some (.cells (i16s ps) 37 (0, 0)) ∧ Below w.heap.size w W) ⟨(three_new _ _ _ _).1, (three_new _ _ _ _).2.1, (three_new _ _ _ _).2.2.1, (three_new _ _ _ _).2.2.2⟩ ?_
  rintro W ⟨h0, h1, h2, hb⟩
  generalize w.heap.size + 1 + 1 = b2 at *
  generalize w.heap.size + 1 = b1 at *
  have H0 := Lib.hid h0
  have H1 := Lib.hid h1
  have H2 := Lib.hid h2
  clear h0 h1 h2
  go_wp2_with (first | (go_at_call 25; refine (l01Faced_is fc true HF.out _).mono ?_; rintro e w' ⟨rfl, rfl⟩) | (go_at_call 34; (first | (with_reducible refine (HLo.out _).mono ?_) | (with_reducible refine (HHi.out _).mono ?_)); rintro e w' ⟨rfl, rfl⟩) | (go_at_call 24; refine (HA.out _ _ _ _ H0.out H1.out H2.out).mono ?_; rintro e w' ⟨rfl, rfl⟩))
  go_ret2
  exact ⟨rfl, hb⟩

set_option maxRecDepth 100000 in
set_option maxHeartbeats 4000000 in
theorem sKeepsWithin_yes (n : Int) (wd gp : Nat) (t : Int) (sh : Nat) (hs ts : List Int) (hh : hs.length = 24) (ht : ts.length = 24) (fc : Int) (ps : List Int) (hp : ps.length = 24) (lo hi : Nat) (bw : BlWf n wd gp t sh) (T0 : -32768 ≤ t) (T1 : t ≤ 32767) (N0 : -128 ≤ n) (N1 : n ≤ 127) (rb : ∀ x ∈ hs ++ ts, -32768 ≤ x ∧ x ≤ 32767) (pb : ∀ x ∈ ps, -32768 ≤ x ∧ x ≤ 32767) (hf : inF fc = true) (hlo : partB lo = true) (hhi : partB hi = true) (wlo : (Lit.float .f32 lo).wf = true) (whi : (Lit.float .f32 hi).wf = true) (hc : cdP (okP ps) (okBl n wd gp t sh) (okB hs ts) true = 0) (w : World) :
    Calls Tryz.prog 15 #[.agg (blindC n wd gp t sh), .agg (sunC hs ts), .int .i64 fc, .agg (i16s ps), .float .f32 lo, .float .f32 hi] w fun e w' => e = .returned (.tuple #[.bool (firstNo (kpAt hs ts fc lo hi wd gp sh ps) 0 24).isNone, .int .i64 0]) ∧ Below w.heap.size w w' := by
  have HA := Lib.hid (fun g1 g2 g3 w q1 q2 q3 => l07Asked_is n wd gp t sh hs ts hh ht ps hp T0 T1 N0 N1 rb pb true 0 hc g1 g2 g3 w q1 q2 q3)
  obtain ⟨ho, hk, hos, _⟩ := cdP_yes hc
  have OK := blok_of bw hk
  have dh : DyHr hs ts fc := ⟨fun k hk => hrok_of hh ht hos (by omega) (by omega) hf⟩
  have HOU := Lib.hid (fun g1 g2 g3 w q1 q2 q3 => l07Outside_any n wd gp t sh hs ts hh ht OK fc dh lo hi (part_fin wlo hlo) (part_fin whi hhi) ps hp ho g1 g2 g3 w q1 q2 q3)
  have HF := Lib.hid hf
  have HLo := Lib.hid (fun w => l01Part_is lo true hlo w)
  have HHi := Lib.hid (fun w => l01Part_is hi true hhi w)
  generalize firstNo (kpAt hs ts fc lo hi wd gp sh ps) 0 24 = fo at *
  clear hh ht hp hc hf hlo hhi OK dh bw T0 T1 N0 N1 rb pb wlo whi ho
  cases fo with
  | none =>
    unfold idxV at HOU
    go_enter Tryz.func15, Tryz.ntmps15
    go_upto_region 1 with (fail)
    refine abs_code (fun W => W.heap[w.heap.size]? = some (.cells (blindC n wd gp t sh) 33 (0, 0)) ∧ W.heap[w.heap.size + 1]? = some (.cells (sunC hs ts) 35 (0, 0)) ∧ W.heap[w.heap.size + 1 + 1]? = some (.cells (i16s ps) 37 (0, 0)) ∧ Below w.heap.size w W) ⟨(three_new _ _ _ _).1, (three_new _ _ _ _).2.1, (three_new _ _ _ _).2.2.1, (three_new _ _ _ _).2.2.2⟩ ?_
    rintro W ⟨h0, h1, h2, hb⟩
    generalize w.heap.size + 1 + 1 = b2 at *
    generalize w.heap.size + 1 = b1 at *
    have H0 := Lib.hid h0
    have H1 := Lib.hid h1
    have H2 := Lib.hid h2
    clear h0 h1 h2
    go_wp2_with (first | (go_at_call 25; refine (l01Faced_is fc true HF.out _).mono ?_; rintro e w' ⟨rfl, rfl⟩) | (go_at_call 34; (first | (with_reducible refine (HLo.out _).mono ?_) | (with_reducible refine (HHi.out _).mono ?_)); rintro e w' ⟨rfl, rfl⟩) | (go_at_call 24; refine (HA.out _ _ _ _ H0.out H1.out H2.out).mono ?_; rintro e w' ⟨rfl, rfl⟩) | (go_at_call 35; refine (HOU.out _ _ _ _ H0.out H1.out H2.out).mono ?_; rintro e W1 ⟨rfl, hb1⟩; replace hb := hb.trans (hb1.mono hb.size); clear hb1))
    go_ret2
    exact ⟨rfl, hb⟩
  | some k =>
    unfold idxV at HOU
    have z2 : ¬ (k : Int) < 0 := by omega
    go_enter Tryz.func15, Tryz.ntmps15
    go_upto_region 1 with (fail)
    refine abs_code (fun W => W.heap[w.heap.size]? = some (.cells (blindC n wd gp t sh) 33 (0, 0)) ∧ W.heap[w.heap.size + 1]? = some (.cells (sunC hs ts) 35 (0, 0)) ∧ W.heap[w.heap.size + 1 + 1]? = some (.cells (i16s ps) 37 (0, 0)) ∧ Below w.heap.size w W) ⟨(three_new _ _ _ _).1, (three_new _ _ _ _).2.1, (three_new _ _ _ _).2.2.1, (three_new _ _ _ _).2.2.2⟩ ?_
    rintro W ⟨h0, h1, h2, hb⟩
    generalize w.heap.size + 1 + 1 = b2 at *
    generalize w.heap.size + 1 = b1 at *
    have H0 := Lib.hid h0
    have H1 := Lib.hid h1
    have H2 := Lib.hid h2
    clear h0 h1 h2
    go_wp2_with (first | (go_at_call 25; refine (l01Faced_is fc true HF.out _).mono ?_; rintro e w' ⟨rfl, rfl⟩) | (go_at_call 34; (first | (with_reducible refine (HLo.out _).mono ?_) | (with_reducible refine (HHi.out _).mono ?_)); rintro e w' ⟨rfl, rfl⟩) | (go_at_call 24; refine (HA.out _ _ _ _ H0.out H1.out H2.out).mono ?_; rintro e w' ⟨rfl, rfl⟩) | (go_at_call 35; refine (HOU.out _ _ _ _ H0.out H1.out H2.out).mono ?_; rintro e W1 ⟨rfl, hb1⟩; replace hb := hb.trans (hb1.mono hb.size); clear hb1))
    go_ret2
    exact ⟨rfl, hb⟩

set_option maxRecDepth 100000 in
set_option maxHeartbeats 4000000 in
theorem sFirstOutside_yes (n : Int) (wd gp : Nat) (t : Int) (sh : Nat) (hs ts : List Int) (hh : hs.length = 24) (ht : ts.length = 24) (fc : Int) (ps : List Int) (hp : ps.length = 24) (lo hi : Nat) (bw : BlWf n wd gp t sh) (T0 : -32768 ≤ t) (T1 : t ≤ 32767) (N0 : -128 ≤ n) (N1 : n ≤ 127) (rb : ∀ x ∈ hs ++ ts, -32768 ≤ x ∧ x ≤ 32767) (pb : ∀ x ∈ ps, -32768 ≤ x ∧ x ≤ 32767) (hf : inF fc = true) (hlo : partB lo = true) (hhi : partB hi = true) (wlo : (Lit.float .f32 lo).wf = true) (whi : (Lit.float .f32 hi).wf = true) (hc : cdP (okP ps) (okBl n wd gp t sh) (okB hs ts) true = 0) (w : World) :
    Calls Tryz.prog 17 #[.agg (blindC n wd gp t sh), .agg (sunC hs ts), .int .i64 fc, .agg (i16s ps), .float .f32 lo, .float .f32 hi] w fun e w' => e = .returned (.tuple #[.int .i64 (outV (firstNo (kpAt hs ts fc lo hi wd gp sh ps) 0 24)), .int .i64 (outC (firstNo (kpAt hs ts fc lo hi wd gp sh ps) 0 24))]) ∧ Below w.heap.size w w' := by
  have HA := Lib.hid (fun g1 g2 g3 w q1 q2 q3 => l07Asked_is n wd gp t sh hs ts hh ht ps hp T0 T1 N0 N1 rb pb true 0 hc g1 g2 g3 w q1 q2 q3)
  obtain ⟨ho, hk, hos, _⟩ := cdP_yes hc
  have OK := blok_of bw hk
  have dh : DyHr hs ts fc := ⟨fun k hk => hrok_of hh ht hos (by omega) (by omega) hf⟩
  have HOU := Lib.hid (fun g1 g2 g3 w q1 q2 q3 => l07Outside_any n wd gp t sh hs ts hh ht OK fc dh lo hi (part_fin wlo hlo) (part_fin whi hhi) ps hp ho g1 g2 g3 w q1 q2 q3)
  have HF := Lib.hid hf
  have HLo := Lib.hid (fun w => l01Part_is lo true hlo w)
  have HHi := Lib.hid (fun w => l01Part_is hi true hhi w)
  generalize firstNo (kpAt hs ts fc lo hi wd gp sh ps) 0 24 = fo at *
  clear hh ht hp hc hf hlo hhi OK dh bw T0 T1 N0 N1 rb pb wlo whi ho
  cases fo with
  | none =>
    unfold idxV at HOU
    go_enter Tryz.func17, Tryz.ntmps17
    go_upto_region 1 with (fail)
    refine abs_code (fun W => W.heap[w.heap.size]? = some (.cells (blindC n wd gp t sh) 33 (0, 0)) ∧ W.heap[w.heap.size + 1]? = some (.cells (sunC hs ts) 35 (0, 0)) ∧ W.heap[w.heap.size + 1 + 1]? = some (.cells (i16s ps) 37 (0, 0)) ∧ Below w.heap.size w W) ⟨(three_new _ _ _ _).1, (three_new _ _ _ _).2.1, (three_new _ _ _ _).2.2.1, (three_new _ _ _ _).2.2.2⟩ ?_
    rintro W ⟨h0, h1, h2, hb⟩
    generalize w.heap.size + 1 + 1 = b2 at *
    generalize w.heap.size + 1 = b1 at *
    have H0 := Lib.hid h0
    have H1 := Lib.hid h1
    have H2 := Lib.hid h2
    clear h0 h1 h2
    go_wp2_with (first | (go_at_call 25; refine (l01Faced_is fc true HF.out _).mono ?_; rintro e w' ⟨rfl, rfl⟩) | (go_at_call 34; (first | (with_reducible refine (HLo.out _).mono ?_) | (with_reducible refine (HHi.out _).mono ?_)); rintro e w' ⟨rfl, rfl⟩) | (go_at_call 24; refine (HA.out _ _ _ _ H0.out H1.out H2.out).mono ?_; rintro e w' ⟨rfl, rfl⟩) | (go_at_call 35; refine (HOU.out _ _ _ _ H0.out H1.out H2.out).mono ?_; rintro e W1 ⟨rfl, hb1⟩; replace hb := hb.trans (hb1.mono hb.size); clear hb1))
    go_ret2
    exact ⟨rfl, hb⟩
  | some k =>
    unfold idxV at HOU
    have z2 : ¬ (k : Int) < 0 := by omega
    go_enter Tryz.func17, Tryz.ntmps17
    go_upto_region 1 with (fail)
    refine abs_code (fun W => W.heap[w.heap.size]? = some (.cells (blindC n wd gp t sh) 33 (0, 0)) ∧ W.heap[w.heap.size + 1]? = some (.cells (sunC hs ts) 35 (0, 0)) ∧ W.heap[w.heap.size + 1 + 1]? = some (.cells (i16s ps) 37 (0, 0)) ∧ Below w.heap.size w W) ⟨(three_new _ _ _ _).1, (three_new _ _ _ _).2.1, (three_new _ _ _ _).2.2.1, (three_new _ _ _ _).2.2.2⟩ ?_
    rintro W ⟨h0, h1, h2, hb⟩
    generalize w.heap.size + 1 + 1 = b2 at *
    generalize w.heap.size + 1 = b1 at *
    have H0 := Lib.hid h0
    have H1 := Lib.hid h1
    have H2 := Lib.hid h2
    clear h0 h1 h2
    go_wp2_with (first | (go_at_call 25; refine (l01Faced_is fc true HF.out _).mono ?_; rintro e w' ⟨rfl, rfl⟩) | (go_at_call 34; (first | (with_reducible refine (HLo.out _).mono ?_) | (with_reducible refine (HHi.out _).mono ?_)); rintro e w' ⟨rfl, rfl⟩) | (go_at_call 24; refine (HA.out _ _ _ _ H0.out H1.out H2.out).mono ?_; rintro e w' ⟨rfl, rfl⟩) | (go_at_call 35; refine (HOU.out _ _ _ _ H0.out H1.out H2.out).mono ?_; rintro e W1 ⟨rfl, hb1⟩; replace hb := hb.trans (hb1.mono hb.size); clear hb1))
    go_ret2
    exact ⟨rfl, hb⟩

end Go.Proofs.YtdbleddcnknmiaaGreatDoor
