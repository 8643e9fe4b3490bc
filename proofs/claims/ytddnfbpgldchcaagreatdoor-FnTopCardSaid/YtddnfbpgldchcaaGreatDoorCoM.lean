/-
  A tick of a controller: how a window meets it.

-/
import Derived.Test.YtddnfbpgldchcaaGreatDoorCoB
import Derived.Test.YtddnfbpgldchcaaGreatDoorPasser
import Derived.Test.YtddnfbpgldchcaaGreatDoorTilted
import Derived.IntWalk

namespace Go.Proofs.YtddnfbpgldchcaaGreatDoor

open Go.ChangeShapes Go.WideShapes Go.ChangeAt Go.RowKit Go.Deep Go.Joins

attribute [local go_sem] run_store_f

theorem yields_build {P : Program} {ops : Array Oper} {S : World → Prop} {o : Oper} {a : Act} (hw : Region.wanted o (yielded ops a.tmps) = true) (t : TypeId) (parts : Array (Nat × Operand)) (ho : o.op = .build t parts)
    (l : List (Nat × Value)) (hp : parts.toList.map (fun x => (x.1, a.eval x.2)) = l) (cells : Array Value) (hf : P.built t l = some cells) : YieldsIf P ops S o (.agg cells) a :=
  .inl ⟨hw, fun w _ => by
    have e : P.built t (parts.map fun (i, x) => (i, a.eval x)).toList = some cells := by rw [Array.toList_map, ← hf, ← hp]
    unfold execOp
    simp only [ho, Sem.run_bind, run_build w t _ cells e, Result.andThen_ok]
    rfl⟩

set_option maxRecDepth 100000 in
theorem built_con (lo : Nat) (hi : Nat) (wi : Nat) (st : Int) (de : Int) (ca : Int) (n : Int) (wd gp : Nat) (t : Int) (sh : Nat) : Tryz.prog.built 101 [(0, .agg #[.float .f32 lo, .float .f32 hi]), (1, .agg (ctC lo hi wi st de ca)), (2, .agg (blindC n wd gp t sh))] = some (conC lo hi wi st de ca n wd gp t sh) := by kernel_rfl

set_option maxRecDepth 100000 in
set_option maxHeartbeats 1000000 in
theorem controllerOf_any (lo : Nat) (hi : Nat) (wi : Nat) (st : Int) (de : Int) (ca : Int) (n : Int) (wd gp : Nat) (t : Int) (sh : Nat) (w : World) :
    Calls Tryz.prog 60 #[.agg (ctC lo hi wi st de ca), .agg (blindC n wd gp t sh)] w fun e w' => e = .returned (.agg (conC lo hi wi st de ca n wd gp t sh)) ∧ Below w.heap.size w w' := by
  go_enter Tryz.func60, Tryz.ntmps60
  go_upto_region 1 with (fail)
  refine abs_world (fun W => W.heap[w.heap.size]? = some (.cells (ctC lo hi wi st de ca) 40 (0, 0)) ∧ W.heap[w.heap.size + 1]? = some (.cells (blindC n wd gp t sh) 32 (0, 0)) ∧ W.heap[w.heap.size + 1 + 1]? = some (.cells (conC 0 0 0 0 0 0 0 0 0 0 0) 101 (0, 0)) ∧ Below w.heap.size w W) (box3 w (.cells (ctC lo hi wi st de ca) 40) (.cells (blindC n wd gp t sh) 32) (.cells (conC 0 0 0 0 0 0 0 0 0 0 0) 101)) ?_
  rintro W ⟨h0, h1, h2, hb⟩
  have hl1 : w.heap.size < w.heap.size + 1 := by omega
  have hl2 : w.heap.size + 1 < w.heap.size + 1 + 1 := by omega
  generalize w.heap.size + 1 + 1 = b2 at *
  generalize w.heap.size + 1 = b1 at *
  have H0 := Lib.hid h0
  have H1 := Lib.hid h1
  have H2 := Lib.hid h2
  clear h0 h1 h2
  refine wp_region_held_drew (S := (fun V => V.heap[w.heap.size]? = some (.cells (ctC lo hi wi st de ca) 40 (0, 0)) ∧ V.heap[b1]? = some (.cells (blindC n wd gp t sh) 32 (0, 0)) ∧ (∃ old : Array Value, V.heap[b2]? = some (.cells old 101 (0, 0)) ∧ old.size = 13) ∧ Below w.heap.size w V)) (by kernel_rfl) ⟨H0.out, H1.out, ⟨_, H2.out, rfl⟩, hb.drew⟩ (fun hHeld => ?_)
  refine take_op (i := 0) (d := 5) (v := .agg (ctC lo hi wi st de ca)) rfl rfl (by kernel_rfl) (by kernel_rfl) (by kernel_rfl) (fun _ _ _ h => h) (yields_row (by rfl) 40 (.tmp 2) (by rfl) w.heap.size 0 6 (by rfl) 40 (ctC lo hi wi st de ca) (0, 0) _ (fun _ h => h.1) Tryz.underlying40 rfl info_ct (ct_fits _ _ _ _ _ _) (ctC lo hi wi st de ca) (ct_all _ _ _ _ _ _)) hHeld ?_
  simp only [List.setIfInBounds_toArray, List.set_cons_zero, List.set_cons_succ]
  refine take_op (i := 2) (d := 7) (v := .agg (ctC lo hi wi st de ca)) rfl rfl (by kernel_rfl) (by kernel_rfl) (by kernel_rfl) (fun _ _ _ h => h) (yields_row (by rfl) 40 (.tmp 2) (by rfl) w.heap.size 0 6 (by rfl) 40 (ctC lo hi wi st de ca) (0, 0) _ (fun _ h => h.1) Tryz.underlying40 rfl info_ct (ct_fits _ _ _ _ _ _) (ctC lo hi wi st de ca) (ct_all _ _ _ _ _ _)) hHeld ?_
  simp only [List.setIfInBounds_toArray, List.set_cons_zero, List.set_cons_succ]
  refine take_op (i := 3) (d := 8) (v := .agg (blindC n wd gp t sh)) rfl rfl (by kernel_rfl) (by kernel_rfl) (by kernel_rfl) (fun _ _ _ h => h) (yields_row (by rfl) 32 (.tmp 3) (by rfl) b1 0 5 (by rfl) 32 (blindC n wd gp t sh) (0, 0) _ (fun _ h => h.2.1) Tryz.underlying32 rfl info_blind (blind_fits _ _ _ _ _) (blindC n wd gp t sh) (blind_all _ _ _ _ _)) hHeld ?_
  simp only [List.setIfInBounds_toArray, List.set_cons_zero, List.set_cons_succ]
  refine wpAnyH_ready (rs := [1]) (by kernel_rfl) (by simp) ?_
  refine AllReadyH.cons rfl (fun K hK => ?_) AllReadyH.nil
  go_simp
  refine (boundsOf_any lo hi wi st de ca _).mono ?_
  rintro e W1 ⟨rfl, hb1⟩
  refine hK.out _ _ (⟨below_row hb1 hHeld.1, below_row hb1 hHeld.2.1, hHeld.2.2.1.elim fun old hq => ⟨old, below_row hb1 hq.1, hq.2⟩, hHeld.2.2.2.trans (hb1.mono hHeld.2.2.2.size)⟩) (fun hHeld2 => ?_)
  clear hK K
  replace hHeld := hHeld2
  clear hHeld2
  clear hb1
  refine take_op (i := 4) (d := 9) (v := .agg (conC lo hi wi st de ca n wd gp t sh)) rfl rfl (by kernel_rfl) (by kernel_rfl) (by kernel_rfl) (fun _ _ _ h => h) (yields_build (by rfl) 101 _ (by rfl) [(0, .agg #[.float .f32 lo, .float .f32 hi]), (1, .agg (ctC lo hi wi st de ca)), (2, .agg (blindC n wd gp t sh))] (by rfl) (conC lo hi wi st de ca n wd gp t sh) (built_con lo hi wi st de ca n wd gp t sh)) hHeld ?_
  simp only [List.setIfInBounds_toArray, List.set_cons_zero, List.set_cons_succ]
  obtain ⟨old, hold, hos⟩ := hHeld.2.2.1
  have hst := run_store_row5 (P := Tryz.prog) _ b2 101 (conC lo hi wi st de ca n wd gp t sh) _ hold (hos.trans rfl) (con_one _ _ _ _ _ _ _ _ _ _ _)
  refine wpAnyH_ready (rs := [5]) (by kernel_rfl) (by simp) ?_
  refine AllReadyH.cons rfl (fun K hK => ?_) AllReadyH.nil
  go_simp
  refine hK.out _ _ (⟨(setRow_other _ _ _ _ (by omega)).trans hHeld.1, (setRow_other _ _ _ _ (by omega)).trans hHeld.2.1, ⟨_, setRow_heap _ _ _ _ _ _ hold, rfl⟩, below_setRow hHeld.2.2.2 (by omega) _⟩) (fun hHeld2 => ?_)
  clear hK K hst
  refine wpAnyH_done (by kernel_rfl) ?_ _
  go_wp2
  exact bodyPost_ret (v := .agg (conC lo hi wi st de ca n wd gp t sh)) (results_cell_row rfl _ _ _ _ _ _ _ rfl (setRow_heap _ _ _ _ _ _ hold) Tryz.underlying101 rfl info_con) rfl ⟨rfl, hHeld2.2.2.2⟩

theorem isRaised_is (ti : Int) (wt : Int) (sm : Int) (r : Bool) (h : decide (0 < sm) = r) (w : World) :
    Calls Tryz.prog 160 #[.agg (saC ti wt sm)] w fun e w' => e = .returned (.bool r) ∧ Below w.heap.size w w' := by
  subst h; exact isRaised_any ti wt sm w

set_option maxRecDepth 100000 in
theorem built_ra (lg : Nat) (gu : Nat) (hg : Int) : Tryz.prog.built 180 [(0, .agg (tkC lg gu hg))] = some (tkC lg gu hg) := by kernel_rfl

set_option maxRecDepth 100000 in
theorem built_lo (lg : Nat) (gu : Nat) (hg : Int) (p : Nat) : Tryz.prog.built 182 [(0, .agg (tkC lg gu hg)), (1, .float .f32 p)] = some #[.float .f32 lg, .float .f32 gu, .int .i8 hg, .float .f32 p] := by kernel_rfl

theorem wpList_buildTo5 {P : Program} {ops : Array Oper} {rest : List Oper} {o : Oper} {a : Act} {w : World} {Q : Exit → Act → World → Prop} (hg : o.guard = none) (t : TypeId) (parts : Array (Nat × Operand)) (ho : o.op = .build t parts)
    (d : Option Tmp) (hd : o.dst = d) (l : List (Nat × Value)) (hp : parts.toList.map (fun x => (x.1, a.eval x.2)) = l) (cells : Array Value) (hf : P.built t l = some cells)
    (h : wpList P ops Q rest (a.put d (.agg cells)) w) : wpList P ops Q (o :: rest) a w := by
  refine wpList_buildTo hg t parts ho d hd cells ?_ h
  rw [Array.toList_map, ← hf, ← hp]

set_option maxRecDepth 100000 in
set_option maxHeartbeats 1000000 in
theorem meet_up (lo : Nat) (hi : Nat) (wi : Nat) (st : Int) (de : Int) (ca : Int) (n : Int) (wd gp : Nat) (t : Int) (sh : Nat) (ti : Int) (wt : Int) (sm : Int) (lg : Nat) (gu : Nat) (hg : Int) (hs : 0 < sm) (w : World) :
    Calls Tryz.prog 124 #[.agg (conC lo hi wi st de ca n wd gp t sh), .agg (saC ti wt sm), .agg (tkC lg gu hg)] w fun e w' => e = .returned (.iface 180 (.agg (tkC lg gu hg))) ∧ Below w.heap.size w w' := by
  have HR := Lib.hid (fun w => isRaised_is ti wt sm true (decide_eq_true hs) w)
  go_enter Tryz.func124, Tryz.ntmps124
  go_upto_region 1 with (fail)
  refine abs_world (fun W => W.heap[w.heap.size]? = some (.cells (conC lo hi wi st de ca n wd gp t sh) 101 (0, 0)) ∧ W.heap[w.heap.size + 1]? = some (.cells (saC ti wt sm) 43 (0, 0)) ∧ W.heap[w.heap.size + 1 + 1]? = some (.cells (tkC lg gu hg) 47 (0, 0)) ∧ Below w.heap.size w W) (box3 w (.cells (conC lo hi wi st de ca n wd gp t sh) 101) (.cells (saC ti wt sm) 43) (.cells (tkC lg gu hg) 47)) ?_
  rintro W ⟨h0, h1, h2, hb⟩
  have hl1 : w.heap.size < w.heap.size + 1 := by omega
  have hl2 : w.heap.size + 1 < w.heap.size + 1 + 1 := by omega
  generalize w.heap.size + 1 + 1 = b2 at *
  generalize w.heap.size + 1 = b1 at *
  have H0 := Lib.hid h0
  have H1 := Lib.hid h1
  have H2 := Lib.hid h2
  clear h0 h1 h2
  go_wp2_with (first | (first | (refine wpList_load_part rfl 101 _ rfl w.heap.size 0 13 rfl 101 (conC lo hi wi st de ca n wd gp t sh) (0, 0) _ H0.out Tryz.underlying101 rfl info_con (con_fits _ _ _ _ _ _ _ _ _ _ _) _ (con_all _ _ _ _ _ _ _ _ _ _ _) ?_) | (refine wpList_load_part rfl 99 _ rfl w.heap.size 0 2 rfl 101 (conC lo hi wi st de ca n wd gp t sh) (0, 0) _ H0.out Tryz.underlying99 rfl info_bd (con_fits2 _ _ _ _ _ _ _ _ _ _ _) _ (con_bd _ _ _ _ _ _ _ _ _ _ _) ?_) | (refine wpList_load_part rfl 32 _ rfl w.heap.size 8 5 rfl 101 (conC lo hi wi st de ca n wd gp t sh) (0, 0) _ H0.out Tryz.underlying32 rfl info_blind (con_fits8 _ _ _ _ _ _ _ _ _ _ _) _ (con_bl _ _ _ _ _ _ _ _ _ _ _) ?_) | (refine wpList_load_part rfl 43 _ rfl b1 0 3 rfl 43 (saC ti wt sm) (0, 0) _ H1.out Tryz.underlying43 rfl info_sa (sa_fits _ _ _) _ (sa_all _ _ _) ?_) | (refine wpList_load_part rfl 47 _ rfl b2 0 3 rfl 47 (tkC lg gu hg) (0, 0) _ H2.out Tryz.underlying47 rfl info_tk (tk_fits _ _ _) _ (tk_all _ _ _) ?_) | (go_at_call 160; refine (HR.out _).mono ?_; rintro e W1 ⟨rfl, hb1⟩; replace H0 := Lib.hid (below_row hb1 H0.out); replace H1 := Lib.hid (below_row hb1 H1.out); replace H2 := Lib.hid (below_row hb1 H2.out); replace hb := hb.trans (hb1.mono hb.size); clear hb1)) | (refine wpList_buildTo5 rfl 180 _ rfl _ rfl [(0, .agg (tkC lg gu hg))] rfl (tkC lg gu hg) (built_ra lg gu hg) ?_))
  go_ret
  exact ⟨rfl, hb⟩

set_option maxRecDepth 100000 in
set_option maxHeartbeats 1000000 in
theorem meet_down (lo : Nat) (hi : Nat) (wi : Nat) (st : Int) (de : Int) (ca : Int) (n : Int) (wd gp : Nat) (t : Int) (sh : Nat) (ok : BlOk n wd gp t sh) (ti : Int) (wt : Int) (sm : Int) (so : SaOk ti wt sm) (lg : Nat) (gu : Nat) (hg : Int) (ko : TkOk lg gu hg) (hs : ¬ 0 < sm) (w : World) :
    Calls Tryz.prog 124 #[.agg (conC lo hi wi st de ca n wd gp t sh), .agg (saC ti wt sm), .agg (tkC lg gu hg)] w fun e w' => e = .returned (.iface 182 (.agg #[.float .f32 lg, .float .f32 gu, .int .i8 hg, .float .f32 (pasB wd gp ti sh hg)])) ∧ Below w.heap.size w w' := by
  have HR := Lib.hid (fun w => isRaised_is ti wt sm false (decide_eq_false hs) w)
  have T0 := so.t0
  have T1 := so.t1
  have G0 := ko.h0
  have G1 := ko.h1
  have OK : BlOk n wd gp ti sh := ⟨ok.1, ok.2.1, ok.2.2.1, ok.2.2.2.1, ok.2.2.2.2.1, ok.2.2.2.2.2.1, T0, T1, ok.2.2.2.2.2.2.2.2⟩
  have HT := Lib.hid (fun w => tilted_any2 n wd gp t sh ti T0 T1 w)
  have HP := Lib.hid (And.intro (fun w => passer_any n wd gp ti sh OK w) (fun g1 g2 w c1 c2 => passes_call n wd gp ti sh OK g1 g2 hg G0 G1 w c1 c2))
  clear ok OK so ko hs
  go_enter Tryz.func124, Tryz.ntmps124
  go_upto_region 1 with (fail)
  refine abs_world (fun W => W.heap[w.heap.size]? = some (.cells (conC lo hi wi st de ca n wd gp t sh) 101 (0, 0)) ∧ W.heap[w.heap.size + 1]? = some (.cells (saC ti wt sm) 43 (0, 0)) ∧ W.heap[w.heap.size + 1 + 1]? = some (.cells (tkC lg gu hg) 47 (0, 0)) ∧ Below w.heap.size w W) (box3 w (.cells (conC lo hi wi st de ca n wd gp t sh) 101) (.cells (saC ti wt sm) 43) (.cells (tkC lg gu hg) 47)) ?_
  rintro W ⟨h0, h1, h2, hb⟩
  have hl1 : w.heap.size < w.heap.size + 1 := by omega
  have hl2 : w.heap.size + 1 < w.heap.size + 1 + 1 := by omega
  generalize w.heap.size + 1 + 1 = b2 at *
  generalize w.heap.size + 1 = b1 at *
  have H0 := Lib.hid h0
  have H1 := Lib.hid h1
  have H2 := Lib.hid h2
  clear h0 h1 h2
  obtain ⟨s0, _, _⟩ := sa_cells H1.out
  go_upto_region 4 with (first | (refine wpList_load_part rfl 101 _ rfl w.heap.size 0 13 rfl 101 (conC lo hi wi st de ca n wd gp t sh) (0, 0) _ H0.out Tryz.underlying101 rfl info_con (con_fits _ _ _ _ _ _ _ _ _ _ _) _ (con_all _ _ _ _ _ _ _ _ _ _ _) ?_) | (refine wpList_load_part rfl 99 _ rfl w.heap.size 0 2 rfl 101 (conC lo hi wi st de ca n wd gp t sh) (0, 0) _ H0.out Tryz.underlying99 rfl info_bd (con_fits2 _ _ _ _ _ _ _ _ _ _ _) _ (con_bd _ _ _ _ _ _ _ _ _ _ _) ?_) | (refine wpList_load_part rfl 32 _ rfl w.heap.size 8 5 rfl 101 (conC lo hi wi st de ca n wd gp t sh) (0, 0) _ H0.out Tryz.underlying32 rfl info_blind (con_fits8 _ _ _ _ _ _ _ _ _ _ _) _ (con_bl _ _ _ _ _ _ _ _ _ _ _) ?_) | (refine wpList_load_part rfl 43 _ rfl b1 0 3 rfl 43 (saC ti wt sm) (0, 0) _ H1.out Tryz.underlying43 rfl info_sa (sa_fits _ _ _) _ (sa_all _ _ _) ?_) | (refine wpList_load_part rfl 47 _ rfl b2 0 3 rfl 47 (tkC lg gu hg) (0, 0) _ H2.out Tryz.underlying47 rfl info_tk (tk_fits _ _ _) _ (tk_all _ _ _) ?_) | (go_at_call 160; refine (HR.out _).mono ?_; rintro e W1 ⟨rfl, hb1⟩; replace H0 := Lib.hid (below_row hb1 H0.out); replace H1 := Lib.hid (below_row hb1 H1.out); replace H2 := Lib.hid (below_row hb1 H2.out); replace s0 := cell_belowB hb1 s0; replace hb := hb.trans (hb1.mono hb.size); clear hb1) | (go_at_call 140; refine (HT.out _).mono ?_; rintro e W2 ⟨rfl, hb2⟩; replace H0 := Lib.hid (below_row hb2 H0.out); replace H1 := Lib.hid (below_row hb2 H1.out); replace H2 := Lib.hid (below_row hb2 H2.out); replace s0 := cell_belowB hb2 s0; replace hb := hb.trans (hb2.mono hb.size); clear hb2) | (go_at_call 52; refine (HP.out.1 _).mono ?_; rintro e W3 ⟨⟨v, rfl, g1, g2, rfl, c1, c2⟩, hb3⟩; have C1 := Lib.hid c1; have C2 := Lib.hid c2; clear c1 c2; replace H0 := Lib.hid (below_row hb3 H0.out); replace H1 := Lib.hid (below_row hb3 H1.out); replace H2 := Lib.hid (below_row hb3 H2.out); replace s0 := cell_belowB hb3 s0; replace hb := hb.trans (hb3.mono hb.size); clear hb3))
  clear H0 H1 s0 HR HT
  have hwr : IntKind.i64.wrap hg = hg := IntWalk.i64_in _ (by omega)
  obtain ⟨_, _, k2⟩ := tk_cells H2.out
  refine wp_region_held_drew (S := (fun V => Below W3.heap.size W3 V)) (by kernel_rfl) ((Below.refl _ _).drew) (fun hHeld => ?_)
  refine take_op (i := 0) (d := 20) (v := .agg (tkC lg gu hg)) rfl rfl (by kernel_rfl) (by kernel_rfl) (by kernel_rfl) (fun _ _ _ h => h) (yields_row (by rfl) 47 (.tmp 5) (by rfl) b2 0 3 (by rfl) 47 (tkC lg gu hg) (0, 0) _ (fun _ h => below_row h H2.out) Tryz.underlying47 rfl info_tk (tk_fits _ _ _) (tkC lg gu hg) (tk_all _ _ _)) hHeld ?_
  simp only [List.setIfInBounds_toArray, List.set_cons_zero, List.set_cons_succ]
  refine take_op (i := 1) (d := 21) (v := ?_) rfl rfl (by kernel_rfl) (by kernel_rfl) (by kernel_rfl) (fun _ _ _ h => h) (Or.inl ⟨by rfl, ?hy1u1⟩) hHeld ?rest1u1
  case hy1u1 =>
    intro w' hS'
    go_simp
    try with_reducible rfl
  simp only [List.setIfInBounds_toArray, List.set_cons_zero, List.set_cons_succ]
  refine take_op (i := 2) (d := 22) (v := ?_) rfl rfl (by kernel_rfl) (by kernel_rfl) (by kernel_rfl) (fun _ _ _ h => h) (Or.inl ⟨by rfl, ?hy2u2⟩) hHeld ?rest2u2
  case hy2u2 =>
    intro w' hS'
    go_simp
    try with_reducible rfl
  simp only [List.setIfInBounds_toArray, List.set_cons_zero, List.set_cons_succ]
  refine take_op (i := 3) (d := 23) (v := ?_) rfl rfl (by kernel_rfl) (by kernel_rfl) (by kernel_rfl) (fun _ _ _ h => h) (Or.inl ⟨by rfl, ?hy3u3⟩) hHeld ?rest3u3
  case hy3u3 =>
    intro w' hS'
    have k2 := cell_belowB hS' k2
    go_simp
    try with_reducible rfl
  simp only [List.setIfInBounds_toArray, List.set_cons_zero, List.set_cons_succ]
  refine take_op (i := 4) (d := 24) (v := ?_) rfl rfl (by kernel_rfl) (by kernel_rfl) (by kernel_rfl) (fun _ _ _ h => h) (Or.inl ⟨by rfl, ?hy4u4⟩) hHeld ?rest4u4
  case hy4u4 =>
    intro w' hS'
    go_simp
    try with_reducible rfl
  simp only [List.setIfInBounds_toArray, List.set_cons_zero, List.set_cons_succ]
  refine wpAnyH_ready (rs := [5]) (by kernel_rfl) (by simp) ?_
  refine AllReadyH.cons rfl (fun K hK => ?_) AllReadyH.nil
  go_simp
  refine (HP.out.2 g1 g2 _ (below_row hHeld C1.out) (below_row hHeld C2.out)).mono ?_
  rintro e W4 ⟨rfl, hb4⟩
  refine hK.out _ _ (hHeld.trans (hb4.mono hHeld.size)) (fun hHeld2 => ?_)
  clear hK K
  replace hHeld := hHeld2
  clear hHeld2
  clear hb4
  refine take_op (i := 6) (d := 26) (v := .agg (#[.float .f32 lg, .float .f32 gu, .int .i8 hg, .float .f32 (pasB wd gp ti sh hg)])) rfl rfl (by kernel_rfl) (by kernel_rfl) (by kernel_rfl) (fun _ _ _ h => h) (yields_build (by rfl) 182 _ (by rfl) [(0, .agg (tkC lg gu hg)), (1, .float .f32 (pasB wd gp ti sh hg))] (by rfl) (#[.float .f32 lg, .float .f32 gu, .int .i8 hg, .float .f32 (pasB wd gp ti sh hg)]) (built_lo lg gu hg _)) hHeld ?_
  simp only [List.setIfInBounds_toArray, List.set_cons_zero, List.set_cons_succ]
  refine take_op (i := 7) (d := 27) (v := ?_) rfl rfl (by kernel_rfl) (by kernel_rfl) (by kernel_rfl) (fun _ _ _ h => h) (Or.inl ⟨by rfl, ?hy7u5⟩) hHeld ?rest7u5
  case hy7u5 =>
    intro w' hS'
    go_simp
    try with_reducible rfl
  simp only [List.setIfInBounds_toArray, List.set_cons_zero, List.set_cons_succ]
  refine take_op (i := 8) (d := 6) (v := ?_) rfl rfl (by kernel_rfl) (by kernel_rfl) (by kernel_rfl) (fun _ _ _ h => h) (Or.inl ⟨by rfl, ?hy8u6⟩) hHeld ?rest8u6
  case hy8u6 =>
    intro w' hS'
    go_simp
    try with_reducible rfl
  simp only [List.setIfInBounds_toArray, List.set_cons_zero, List.set_cons_succ]
  refine wpAnyH_done (by kernel_rfl) ?_ _
  replace H2 := Lib.hid (below_row hHeld H2.out)
  replace C1 := Lib.hid (below_row hHeld C1.out)
  replace C2 := Lib.hid (below_row hHeld C2.out)
  replace k2 := cell_belowB hHeld k2
  replace hb := hb.trans (hHeld.mono hb.size)
  clear hHeld
  go_wp2
  go_ret
  exact ⟨rfl, hb⟩

end Go.Proofs.YtddnfbpgldchcaaGreatDoor
