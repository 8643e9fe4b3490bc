/-
  ShadedHours: the program.
-/
import Derived.Test.YtnienahjfocalaaDoorShH
import Derived.Test.YtnienahjfocalaaDoorShC
import Derived.Test.YtnienahjfocalaaDoorPart
namespace Go.Proofs.YtnienahjfocalaaDoor
open Go.ChangeShapes Go.WideShapes Go.ChangeAt Go.RowKit Go.Shelf Go.Deep Go.Joins

attribute [local go_sem] Oper.semAt_some run_store_float

theorem isPart_is (x : Nat) (fine : Bool) (hx : partB x = fine) (w : World) : Calls Tryd.prog 80 #[.float .f32 x] w fun e w' => e = .returned (.bool fine) ∧ w = w' := by
  rw [← hx]; exact isPart_any x w

set_option maxRecDepth 100000 in
set_option maxHeartbeats 1000000 in
theorem shh_no0 (o dr gp tl : Nat) (hs ts : List Int) (hh : hs.length = 24) (ht : ts.length = 24) (fc : Int) (le : Nat) (a0 : inF fc = false) (e0 e1 e2 e3 : Addr) (n : Nat) (hn : refN (okAw o dr gp tl && okB hs ts) false true = n) (hne : (codeE n != 0) = true) (w : World) (hE : ErrsAt w e0 e1 e2 e3) :
    Calls Tryd.prog 29 #[.agg (awC o dr gp tl), .agg (sunC hs ts), .int .i64 fc, .float .f32 le] w fun e w' => e = .returned (.tuple #[.slice none 0 0, .int .i64 (codeE n)]) ∧ Below w.heap.size w w' := by
  have A0 := Lib.hid a0
  have HN := Lib.hid hn
  have Hh := Lib.hid hh
  have Ht := Lib.hid ht
  clear hh ht
  have HX := Lib.hid hE
  clear hE
  clear hn a0
  go_enter Tryd.func29, Tryd.ntmps29
  go_upto_region 1 with (fail)
  refine abs_world (fun W => W.heap[w.heap.size]? = some (.cells (awC o dr gp tl) 27 (0, 0)) ∧ W.heap[w.heap.size + 1]? = some (.cells (sunC hs ts) 37 (0, 0)) ∧ W.heap[w.heap.size + 1 + 1]? = some (.cells (#[.float .f32 le]) 22 (0, 0)) ∧ Below w.heap.size w W) (box3 w (.cells (awC o dr gp tl) 27) (.cells (sunC hs ts) 37) (.cells (#[.float .f32 le]) 22)) ?_
  rintro W ⟨h0, h1, h2, hb⟩
  generalize w.heap.size + 1 + 1 = b2 at *
  generalize w.heap.size + 1 = b1 at *
  have H0 := Lib.hid h0
  have H1 := Lib.hid h1
  have H2 := Lib.hid h2
  clear h0 h1 h2
  replace HX := Lib.hid (errs_below HX.out hb)
  refine wp_region_held_drew (S := (fun V => Below W.heap.size W V)) (by kernel_rfl) ((Below.refl _ _).drew) (fun hHeld => ?_)
  refine take_op (i := 0) (d := 14) (v := .agg (awC o dr gp tl)) rfl rfl (by kernel_rfl) (by kernel_rfl) (by kernel_rfl) (fun _ _ _ h => h) (yields_row (by rfl) 27 (.tmp 4) (by rfl) w.heap.size 0 4 (by rfl) 27 (awC o dr gp tl) (0, 0) _ (fun _ h => below_row h H0.out) Tryd.underlying27 rfl info_aw (aw_fits _ _ _ _) (awC o dr gp tl) (aw_all _ _ _ _)) hHeld ?_
  simp only [List.setIfInBounds_toArray, List.set_cons_zero, List.set_cons_succ]
  refine take_op (i := 1) (d := 15) (v := .agg (sunC hs ts)) rfl rfl (by kernel_rfl) (by kernel_rfl) (by kernel_rfl) (fun _ _ _ h => h) (yields_row (by rfl) 37 (.tmp 5) (by rfl) b1 0 48 (by rfl) 37 (sunC hs ts) (0, 0) _ (fun _ h => below_row h H1.out) Tryd.underlying37 rfl info_sun (sun_fits _ _ Hh.out Ht.out) (sunC hs ts) (sun_all _ _ Hh.out Ht.out)) hHeld ?_
  simp only [List.setIfInBounds_toArray, List.set_cons_zero, List.set_cons_succ]
  refine take_op (i := 2) (d := 16) (v := ?_) rfl rfl (by kernel_rfl) (by kernel_rfl) (by kernel_rfl) (fun _ _ _ h => h) (Or.inl ⟨by rfl, ?hy2u1⟩) hHeld ?rest2u1
  case hy2u1 =>
    intro w' hS'
    go_simp
    try with_reducible rfl
  simp only [List.setIfInBounds_toArray, List.set_cons_zero, List.set_cons_succ]
  refine wpAnyH_ready (rs := [3]) (by kernel_rfl) (by simp) ?_
  refine AllReadyH.cons rfl (fun K hK => ?_) AllReadyH.nil
  go_simp
  refine (isFacing_is fc false A0.out _).mono ?_
  rintro e w1 ⟨rfl, rfl⟩
  refine hK.out _ _ (hHeld) (fun hHeld2 => ?_)
  clear hK K
  replace hHeld := hHeld2
  clear hHeld2
  refine take_op (i := 4) (d := 18) (v := ?_) rfl rfl (by kernel_rfl) (by kernel_rfl) (by kernel_rfl) (fun _ _ _ h => h) (Or.inl ⟨by rfl, ?hy4u2⟩) hHeld ?rest4u2
  case hy4u2 =>
    intro w' hS'
    go_simp
    try with_reducible rfl
  simp only [List.setIfInBounds_toArray, List.set_cons_zero, List.set_cons_succ]
  refine take_op (i := 5) (d := 19) rfl rfl (by kernel_rfl) (by kernel_rfl) (by kernel_rfl) (fun _ _ _ h => h) (Or.inr ⟨by rfl, rfl⟩) hHeld ?_
  simp only [List.setIfInBounds_toArray, List.set_cons_zero, List.set_cons_succ]
  refine take_op (i := 6) (d := 20) rfl rfl (by kernel_rfl) (by kernel_rfl) (by kernel_rfl) (fun _ _ _ h => h) (Or.inr ⟨by rfl, rfl⟩) hHeld ?_
  simp only [List.setIfInBounds_toArray, List.set_cons_zero, List.set_cons_succ]
  refine take_op (i := 7) (d := 21) (v := ?_) rfl rfl (by kernel_rfl) (by kernel_rfl) (by kernel_rfl) (fun _ _ _ h => h) (Or.inl ⟨by rfl, ?hy7u3⟩) hHeld ?rest7u3
  case hy7u3 =>
    intro w' hS'
    go_simp
    try with_reducible rfl
  simp only [List.setIfInBounds_toArray, List.set_cons_zero, List.set_cons_succ]
  refine wpAnyH_ready (rs := [8]) (by kernel_rfl) (by simp) ?_
  refine AllReadyH.cons rfl (fun K hK => ?_) AllReadyH.nil
  go_simp
  refine (checkAwning_is o dr gp tl hs ts Hh.out Ht.out false e0 e1 e2 e3 n HN.out _ (errs_below HX.out hHeld)).mono ?_
  rintro e W2 ⟨rfl, hb2⟩
  refine hK.out _ _ (hHeld.trans (hb2.mono hHeld.size)) (fun hHeld2 => ?_)
  clear hK K
  replace hHeld := hHeld2
  clear hHeld2
  clear hb2
  refine take_op (i := 9) (d := 10) (v := ?_) rfl rfl (by kernel_rfl) (by kernel_rfl) (by kernel_rfl) (fun _ _ _ h => h) (Or.inl ⟨by rfl, ?hy9u4⟩) hHeld ?rest9u4
  case hy9u4 =>
    intro w' hS'
    go_simp
    try with_reducible rfl
  simp only [List.setIfInBounds_toArray, List.set_cons_zero, List.set_cons_succ]
  refine wpAnyH_done (by kernel_rfl) ?_ _
  replace H0 := Lib.hid (below_row hHeld H0.out)
  replace H1 := Lib.hid (below_row hHeld H1.out)
  replace H2 := Lib.hid (below_row hHeld H2.out)
  replace HX := Lib.hid (errs_below HX.out hHeld)
  replace hb := hb.trans (hHeld.mono hb.size)
  clear hHeld
  go_wp2
  go_ret2
  exact ⟨rfl, hb⟩

set_option maxRecDepth 100000 in
set_option maxHeartbeats 1000000 in
theorem shh_no1 (o dr gp tl : Nat) (hs ts : List Int) (hh : hs.length = 24) (ht : ts.length = 24) (fc : Int) (le : Nat) (z : Bool) (a0 : inF fc = true) (a1 : partB le = z) (e0 e1 e2 e3 : Addr) (n : Nat) (hn : refN (okAw o dr gp tl && okB hs ts) z true = n) (hne : (codeE n != 0) = true) (w : World) (hE : ErrsAt w e0 e1 e2 e3) :
    Calls Tryd.prog 29 #[.agg (awC o dr gp tl), .agg (sunC hs ts), .int .i64 fc, .float .f32 le] w fun e w' => e = .returned (.tuple #[.slice none 0 0, .int .i64 (codeE n)]) ∧ Below w.heap.size w w' := by
  have A0 := Lib.hid a0
  have A1 := Lib.hid a1
  have HN := Lib.hid hn
  have Hh := Lib.hid hh
  have Ht := Lib.hid ht
  clear hh ht
  have HX := Lib.hid hE
  clear hE
  clear hn a0 a1
  go_enter Tryd.func29, Tryd.ntmps29
  go_upto_region 1 with (fail)
  refine abs_world (fun W => W.heap[w.heap.size]? = some (.cells (awC o dr gp tl) 27 (0, 0)) ∧ W.heap[w.heap.size + 1]? = some (.cells (sunC hs ts) 37 (0, 0)) ∧ W.heap[w.heap.size + 1 + 1]? = some (.cells (#[.float .f32 le]) 22 (0, 0)) ∧ Below w.heap.size w W) (box3 w (.cells (awC o dr gp tl) 27) (.cells (sunC hs ts) 37) (.cells (#[.float .f32 le]) 22)) ?_
  rintro W ⟨h0, h1, h2, hb⟩
  generalize w.heap.size + 1 + 1 = b2 at *
  generalize w.heap.size + 1 = b1 at *
  have H0 := Lib.hid h0
  have H1 := Lib.hid h1
  have H2 := Lib.hid h2
  clear h0 h1 h2
  replace HX := Lib.hid (errs_below HX.out hb)
  refine wp_region_held_drew (S := (fun V => Below W.heap.size W V)) (by kernel_rfl) ((Below.refl _ _).drew) (fun hHeld => ?_)
  refine take_op (i := 0) (d := 14) (v := .agg (awC o dr gp tl)) rfl rfl (by kernel_rfl) (by kernel_rfl) (by kernel_rfl) (fun _ _ _ h => h) (yields_row (by rfl) 27 (.tmp 4) (by rfl) w.heap.size 0 4 (by rfl) 27 (awC o dr gp tl) (0, 0) _ (fun _ h => below_row h H0.out) Tryd.underlying27 rfl info_aw (aw_fits _ _ _ _) (awC o dr gp tl) (aw_all _ _ _ _)) hHeld ?_
  simp only [List.setIfInBounds_toArray, List.set_cons_zero, List.set_cons_succ]
  refine take_op (i := 1) (d := 15) (v := .agg (sunC hs ts)) rfl rfl (by kernel_rfl) (by kernel_rfl) (by kernel_rfl) (fun _ _ _ h => h) (yields_row (by rfl) 37 (.tmp 5) (by rfl) b1 0 48 (by rfl) 37 (sunC hs ts) (0, 0) _ (fun _ h => below_row h H1.out) Tryd.underlying37 rfl info_sun (sun_fits _ _ Hh.out Ht.out) (sunC hs ts) (sun_all _ _ Hh.out Ht.out)) hHeld ?_
  simp only [List.setIfInBounds_toArray, List.set_cons_zero, List.set_cons_succ]
  refine take_op (i := 2) (d := 16) (v := ?_) rfl rfl (by kernel_rfl) (by kernel_rfl) (by kernel_rfl) (fun _ _ _ h => h) (Or.inl ⟨by rfl, ?hy2u5⟩) hHeld ?rest2u5
  case hy2u5 =>
    intro w' hS'
    go_simp
    try with_reducible rfl
  simp only [List.setIfInBounds_toArray, List.set_cons_zero, List.set_cons_succ]
  refine wpAnyH_ready (rs := [3]) (by kernel_rfl) (by simp) ?_
  refine AllReadyH.cons rfl (fun K hK => ?_) AllReadyH.nil
  go_simp
  refine (isFacing_is fc true A0.out _).mono ?_
  rintro e w1 ⟨rfl, rfl⟩
  refine hK.out _ _ (hHeld) (fun hHeld2 => ?_)
  clear hK K
  replace hHeld := hHeld2
  clear hHeld2
  refine take_op (i := 4) (d := 18) (v := ?_) rfl rfl (by kernel_rfl) (by kernel_rfl) (by kernel_rfl) (fun _ _ _ h => h) (Or.inl ⟨by rfl, ?hy4u6⟩) hHeld ?rest4u6
  case hy4u6 =>
    intro w' hS'
    go_simp
    try with_reducible rfl
  simp only [List.setIfInBounds_toArray, List.set_cons_zero, List.set_cons_succ]
  refine take_op (i := 5) (d := 19) (v := ?_) rfl rfl (by kernel_rfl) (by kernel_rfl) (by kernel_rfl) (fun _ _ _ h => h) (Or.inl ⟨by rfl, ?hy5u7⟩) hHeld ?rest5u7
  case hy5u7 =>
    intro w' hS'
    (have q3 : w'.cell? ⟨b2, 0, none⟩ = some (.float .f32 le) := by (rw [cell_of_row w' _ _ _ _ _ (below_row hS' H2.out)]; rfl)); go_simp
    try with_reducible rfl
  simp only [List.setIfInBounds_toArray, List.set_cons_zero, List.set_cons_succ]
  refine wpAnyH_ready (rs := [6]) (by kernel_rfl) (by simp) ?_
  refine AllReadyH.cons rfl (fun K hK => ?_) AllReadyH.nil
  go_simp
  refine (isPart_is le z A1.out _).mono ?_
  rintro e w2 ⟨rfl, rfl⟩
  refine hK.out _ _ (hHeld) (fun hHeld2 => ?_)
  clear hK K
  replace hHeld := hHeld2
  clear hHeld2
  refine take_op (i := 7) (d := 21) (v := ?_) rfl rfl (by kernel_rfl) (by kernel_rfl) (by kernel_rfl) (fun _ _ _ h => h) (Or.inl ⟨by rfl, ?hy7u8⟩) hHeld ?rest7u8
  case hy7u8 =>
    intro w' hS'
    go_simp
    try with_reducible rfl
  simp only [List.setIfInBounds_toArray, List.set_cons_zero, List.set_cons_succ]
  refine wpAnyH_ready (rs := [8]) (by kernel_rfl) (by simp) ?_
  refine AllReadyH.cons rfl (fun K hK => ?_) AllReadyH.nil
  go_simp
  refine (checkAwning_is o dr gp tl hs ts Hh.out Ht.out z e0 e1 e2 e3 n HN.out _ (errs_below HX.out hHeld)).mono ?_
  rintro e W3 ⟨rfl, hb3⟩
  refine hK.out _ _ (hHeld.trans (hb3.mono hHeld.size)) (fun hHeld2 => ?_)
  clear hK K
  replace hHeld := hHeld2
  clear hHeld2
  clear hb3
  refine take_op (i := 9) (d := 10) (v := ?_) rfl rfl (by kernel_rfl) (by kernel_rfl) (by kernel_rfl) (fun _ _ _ h => h) (Or.inl ⟨by rfl, ?hy9u9⟩) hHeld ?rest9u9
  case hy9u9 =>
    intro w' hS'
    go_simp
    try with_reducible rfl
  simp only [List.setIfInBounds_toArray, List.set_cons_zero, List.set_cons_succ]
  refine wpAnyH_done (by kernel_rfl) ?_ _
  replace H0 := Lib.hid (below_row hHeld H0.out)
  replace H1 := Lib.hid (below_row hHeld H1.out)
  replace H2 := Lib.hid (below_row hHeld H2.out)
  replace HX := Lib.hid (errs_below HX.out hHeld)
  replace hb := hb.trans (hHeld.mono hb.size)
  clear hHeld
  go_wp2
  go_ret2
  exact ⟨rfl, hb⟩

set_option maxRecDepth 100000 in
set_option maxHeartbeats 2000000 in
theorem shh_yes {o dr gp tl : Nat} (aw : AwOk o dr gp tl) (hs ts : List Int) (hh : hs.length = 24) (ht : ts.length = 24) (fc : Int) (le : Nat) (hle : fin32 le = true) (q : ∀ k : Nat, k < 24 → HrOk hs ts (k : Int) fc) (h1 : okAw o dr gp tl = true) (h2 : okB hs ts = true) (a0 : inF fc = true) (a1 : partB le = true) (e0 e1 e2 e3 : Addr) (w : World) (hE : ErrsAt w e0 e1 e2 e3) :
    Calls Tryd.prog 29 #[.agg (awC o dr gp tl), .agg (sunC hs ts), .int .i64 fc, .float .f32 le] w (fun e w' => (∃ v, e = .returned (.tuple #[v, .int .i64 0]) ∧ Own w' w.heap.size 2 (Value.int .i64) v (wantH (enoA o dr gp tl hs ts fc le) (hrs 24))) ∧ Below w.heap.size w w') := by
  refine (callsIn_wide (n := 4)).1 ?_
  obtain ⟨i0, hi, hz0, hz1, hz2⟩ := info_parts infoW
  have HF := Lib.hid (fun (k : Nat) (hk : k < 24) w => fall_any hs ts hh ht fc (k : Int) (q k hk) w)
  have HP := Lib.hid (fun (k : Nat) (hk : k < 24) w => part_any aw hs ts hh ht fc (k : Int) (q k hk) w)
  have HO := Lib.hid (fun (k : Nat) (hk : k < 24) => sh_split aw hle (k : Int) (q k hk))
  have A0 := Lib.hid a0
  have A1 := Lib.hid a1
  have HN : Hid (refN (okAw o dr gp tl && okB hs ts) true true = 0) := by rw [h1, h2]; rfl
  have Hh := Lib.hid hh
  have Ht := Lib.hid ht
  clear hh ht
  have HX := Lib.hid hE
  clear hE
  clear a0 a1 h1 h2 q aw hle
  refine callsIn_of_wp_marks Tryd.func29 rfl trivial ?_ rfl
  simp only [Tryd.ntmps29, List.size_toArray, List.length_cons, List.length_nil, Nat.reduceAdd, Nat.reduceSub, Array.replicate_succ, Array.replicate_zero, List.push_toArray, List.append_toArray, List.nil_append, List.cons_append]
  refine wpIn_wide.2 ?_
  go_upto_region 1 with (fail)
  refine abs_world (fun W => W.heap[w.heap.size]? = some (.cells (awC o dr gp tl) 27 (0, 0)) ∧ W.heap[w.heap.size + 1]? = some (.cells (sunC hs ts) 37 (0, 0)) ∧ W.heap[w.heap.size + 1 + 1]? = some (.cells (#[.float .f32 le]) 22 (0, 0)) ∧ Below w.heap.size w W) (box3 w (.cells (awC o dr gp tl) 27) (.cells (sunC hs ts) 37) (.cells (#[.float .f32 le]) 22)) ?_
  rintro W ⟨h0, h1, h2, hb⟩
  generalize w.heap.size + 1 + 1 = b2 at *
  generalize w.heap.size + 1 = b1 at *
  have H0 := Lib.hid h0
  have H1 := Lib.hid h1
  have H2 := Lib.hid h2
  clear h0 h1 h2
  replace HX := Lib.hid (errs_below HX.out hb)
  refine wp_onlyS ?_
  refine wp_region_held_drew (S := (fun V => Below W.heap.size W V)) (by kernel_rfl) ((Below.refl _ _).drew) (fun hHeld => ?_)
  refine take_op (i := 0) (d := 14) (v := .agg (awC o dr gp tl)) rfl rfl (by kernel_rfl) (by kernel_rfl) (by kernel_rfl) (fun _ _ _ h => h) (yields_row (by rfl) 27 (.tmp 4) (by rfl) w.heap.size 0 4 (by rfl) 27 (awC o dr gp tl) (0, 0) _ (fun _ h => below_row h H0.out) Tryd.underlying27 rfl info_aw (aw_fits _ _ _ _) (awC o dr gp tl) (aw_all _ _ _ _)) hHeld ?_
  simp only [List.setIfInBounds_toArray, List.set_cons_zero, List.set_cons_succ]
  refine take_op (i := 1) (d := 15) (v := .agg (sunC hs ts)) rfl rfl (by kernel_rfl) (by kernel_rfl) (by kernel_rfl) (fun _ _ _ h => h) (yields_row (by rfl) 37 (.tmp 5) (by rfl) b1 0 48 (by rfl) 37 (sunC hs ts) (0, 0) _ (fun _ h => below_row h H1.out) Tryd.underlying37 rfl info_sun (sun_fits _ _ Hh.out Ht.out) (sunC hs ts) (sun_all _ _ Hh.out Ht.out)) hHeld ?_
  simp only [List.setIfInBounds_toArray, List.set_cons_zero, List.set_cons_succ]
  refine take_op (i := 2) (d := 16) (v := ?_) rfl rfl (by kernel_rfl) (by kernel_rfl) (by kernel_rfl) (fun _ _ _ h => h) (Or.inl ⟨by rfl, ?hy2u10⟩) hHeld ?rest2u10
  case hy2u10 =>
    intro w' hS'
    go_simp
    try with_reducible rfl
  simp only [List.setIfInBounds_toArray, List.set_cons_zero, List.set_cons_succ]
  refine wpAnyH_ready (rs := [3]) (by kernel_rfl) (by simp) ?_
  refine AllReadyH.cons rfl (fun K hK => ?_) AllReadyH.nil
  go_simp
  refine (isFacing_is fc true A0.out _).mono ?_
  rintro e w1 ⟨rfl, rfl⟩
  refine hK.out _ _ (hHeld) (fun hHeld2 => ?_)
  clear hK K
  replace hHeld := hHeld2
  clear hHeld2
  refine take_op (i := 4) (d := 18) (v := ?_) rfl rfl (by kernel_rfl) (by kernel_rfl) (by kernel_rfl) (fun _ _ _ h => h) (Or.inl ⟨by rfl, ?hy4u11⟩) hHeld ?rest4u11
  case hy4u11 =>
    intro w' hS'
    go_simp
    try with_reducible rfl
  simp only [List.setIfInBounds_toArray, List.set_cons_zero, List.set_cons_succ]
  refine take_op (i := 5) (d := 19) (v := ?_) rfl rfl (by kernel_rfl) (by kernel_rfl) (by kernel_rfl) (fun _ _ _ h => h) (Or.inl ⟨by rfl, ?hy5u12⟩) hHeld ?rest5u12
  case hy5u12 =>
    intro w' hS'
    (have q3 : w'.cell? ⟨b2, 0, none⟩ = some (.float .f32 le) := by (rw [cell_of_row w' _ _ _ _ _ (below_row hS' H2.out)]; rfl)); go_simp
    try with_reducible rfl
  simp only [List.setIfInBounds_toArray, List.set_cons_zero, List.set_cons_succ]
  refine wpAnyH_ready (rs := [6]) (by kernel_rfl) (by simp) ?_
  refine AllReadyH.cons rfl (fun K hK => ?_) AllReadyH.nil
  go_simp
  refine (isPart_is le true A1.out _).mono ?_
  rintro e w2 ⟨rfl, rfl⟩
  refine hK.out _ _ (hHeld) (fun hHeld2 => ?_)
  clear hK K
  replace hHeld := hHeld2
  clear hHeld2
  refine take_op (i := 7) (d := 21) (v := ?_) rfl rfl (by kernel_rfl) (by kernel_rfl) (by kernel_rfl) (fun _ _ _ h => h) (Or.inl ⟨by rfl, ?hy7u13⟩) hHeld ?rest7u13
  case hy7u13 =>
    intro w' hS'
    go_simp
    try with_reducible rfl
  simp only [List.setIfInBounds_toArray, List.set_cons_zero, List.set_cons_succ]
  refine wpAnyH_ready (rs := [8]) (by kernel_rfl) (by simp) ?_
  refine AllReadyH.cons rfl (fun K hK => ?_) AllReadyH.nil
  go_simp
  refine (checkAwning_is o dr gp tl hs ts Hh.out Ht.out true e0 e1 e2 e3 0 HN.out _ (errs_below HX.out hHeld)).mono ?_
  rintro e W3 ⟨rfl, hb3⟩
  refine hK.out _ _ (hHeld.trans (hb3.mono hHeld.size)) (fun hHeld2 => ?_)
  clear hK K
  replace hHeld := hHeld2
  clear hHeld2
  clear hb3
  refine take_op (i := 9) (d := 10) (v := ?_) rfl rfl (by kernel_rfl) (by kernel_rfl) (by kernel_rfl) (fun _ _ _ h => h) (Or.inl ⟨by rfl, ?hy9u14⟩) hHeld ?rest9u14
  case hy9u14 =>
    intro w' hS'
    go_simp
    try with_reducible rfl
  simp only [List.setIfInBounds_toArray, List.set_cons_zero, List.set_cons_succ]
  refine wpAnyH_done (by kernel_rfl) ?_ _
  replace H0 := Lib.hid (below_row hHeld H0.out)
  replace H1 := Lib.hid (below_row hHeld H1.out)
  replace H2 := Lib.hid (below_row hHeld H2.out)
  replace HX := Lib.hid (errs_below HX.out hHeld)
  replace hb := hb.trans (hHeld.mono hb.size)
  clear hHeld
  clear HX
  have HS := Lib.hid (shC_size hs ts fc o dr gp tl Hh.out Ht.out)
  go_upto_region 5 with (first | (first | (refine wpList_load_partG 27 _ rfl w.heap.size 0 4 rfl rfl 27 (awC o dr gp tl) (0, 0) _ H0.out Tryd.underlying27 rfl info_aw (aw_fits _ _ _ _) _ (aw_all _ _ _ _) ?_) | (refine wpList_load_partG 37 _ rfl b1 0 48 rfl rfl 37 (sunC hs ts) (0, 0) _ H1.out Tryd.underlying37 rfl info_sun (sun_fits _ _ Hh.out Ht.out) _ (sun_all _ _ Hh.out Ht.out) ?_) | (go_at_call 69; refine (isFacing_is fc true A0.out _).mono ?_; rintro e w4 ⟨rfl, rfl⟩) | (go_at_call 80; refine (isPart_is le true A1.out _).mono ?_; rintro e w5 ⟨rfl, rfl⟩) | (go_at_call 67; refine (checkAwning_is o dr gp tl hs ts Hh.out Ht.out true e0 e1 e2 e3 0 HN.out _ {HX}).mono ?_; rintro e W6 ⟨rfl, hb6⟩; replace H0 := Lib.hid (below_row hb6 H0.out); replace H1 := Lib.hid (below_row hb6 H1.out); replace H2 := Lib.hid (below_row hb6 H2.out); replace hb := hb.trans (hb6.mono hb.size); clear hb6) | (go_at_call 70; refine (shadeOf_any o dr gp tl hs ts Hh.out Ht.out fc _).mono ?_; rintro e W7 ⟨rfl, hb7⟩; replace H0 := Lib.hid (below_row hb7 H0.out); replace H1 := Lib.hid (below_row hb7 H1.out); replace H2 := Lib.hid (below_row hb7 H2.out); replace hb := hb.trans (hb7.mono hb.size); clear hb7)) | (refine wpList_store_part rfl 113 _ _ rfl _ 0 (shC hs ts fc o dr gp tl) rfl rfl 113 _ (heap_alloc_new _ _) (by rw [HS.out]; exact info_sh) (by rw [HS.out]; decide) (sh_one _ _ _ _ _ _ _) ?_; rw [laid_all _ _ (by rw [HS.out]; rfl)]))
  refine abs_world (fun V => Below w.heap.size w V ∧ V.heap[W7.heap.size]? = some (.cells (shC hs ts fc o dr gp tl) 113 (0, 0)) ∧ V.heap[b2]? = some (.cells #[.float .f32 le] 22 (0, 0))) ⟨below_setRow (hb.alloc hb.size _) hb.size _, setRow_heap _ _ _ _ _ _ (heap_alloc_new _ _), (setRow_other _ _ _ _ (Nat.ne_of_lt (row_lt H2.out))).trans (below_row ((Below.refl _ _).alloc (Nat.le_refl _) _) H2.out)⟩ ?_
  clear H0 H1 H2 hb
  rintro W0 ⟨hb, h1, h2⟩
  generalize W7.heap.size = b3 at *
  have hle : w.heap.size ≤ W0.heap.size := hb.size
  have H1 := Lib.hid h1
  have H2 := Lib.hid h2
  have HB := Lib.hid hb
  clear h1 h2 hb
  go_wp2
  refine (wpIn_wide (n := 4)).1 ?_
  refine wpIn_rangeFunc_ownF rfl (by decide) (gf := 81) (lb := #[]) rfl trivial (enters_of Tryd.func81 (by kernel_rfl) rfl)
    (eachHour_stops Fence.wide _ trivial rfl (by decide) w.heap.size _) belowK_t (belowK_b (by simp; omega)) (Below.refl _ _) (fun _ => rfl)
    (HourI W0 (enoA o dr gp tl hs ts fc le)) (fun _ _ _ => False) (hourI_own W0 _ _ (by first | (simp; done) | (simp; omega))) (fun _ _ _ _ _ hs _ _ => hs) ?h0
    (fun x => { tmps := #[.agg (awC o dr gp tl), .agg (sunC hs ts), .int .i64 fc, .float .f32 le, .pointer (some ⟨w.heap.size, 0, none⟩), .pointer (some ⟨b1, 0, none⟩), undef, .pointer (some ⟨b2, 0, none⟩), .slice none 0 0, .int .i64 0, .int .i64 0, .pointer (some ⟨b3, 0, none⟩), .pointer (some ⟨W0.heap.size, 0, none⟩), .int .i64 x.1, .agg (awC o dr gp tl), .agg (sunC hs ts), .int .i64 fc, .bool true, .bool true, .float .f32 le, .bool true, .bool true, .int .i64 0, .int .i64 0, .bool false, undef, .agg (awC o dr gp tl), .agg (sunC hs ts), .int .i64 fc, .agg (shC hs ts fc o dr gp tl), .int .i64 x.1, undef, undef, undef, undef, undef, undef, undef, undef, undef, undef, undef, undef, undef, undef, undef, undef, undef], defers := [] }) ?assign ?body ?done ?stop
  case h0 => exact ⟨⟨.slice none 0 0, heap_alloc_new _ _, ⟨by simp [wantH], .inl ⟨rfl, by simp [wantH]⟩⟩, trivial⟩, (Below.refl _ _).alloc (Nat.le_refl _) _⟩
  case assign =>
    intro l x W K hK
    gi_wp2
    exact hK
  case body =>
    rintro l pre ⟨x, hx0, hx1⟩ W ⟨⟨v, hv, hrow, -⟩, hbw⟩ hl
    obtain ⟨k, rfl⟩ := Int.eq_ofNat_of_zero_le hx0
    have hk : k < 24 := by omega
    have HF1 := Lib.hid (HF.out k hk)
    have HP1 := Lib.hid (HP.out k hk)
    have HO1 := HO.out k hk
    have hwW : w.heap.size ≤ W.heap.size := Nat.le_trans hle hbw.size
    have HV := Lib.hid hv
    have HR := Lib.hid hrow
    have HE : Hid ((enoA o dr gp tl hs ts fc le) (k : Int) = (FloatKind.f32.format.order (fallOf hs ts (k : Int) fc) 0 == some .gt && (FloatKind.f32.format.order (shB o dr gp tl (atH hs (k : Int)) (fallOf hs ts (k : Int) fc)) le == some .gt || FloatKind.f32.format.order (shB o dr gp tl (atH hs (k : Int)) (fallOf hs ts (k : Int) fc)) le == some .eq))) := rfl
    clear hv hrow
    generalize shB o dr gp tl (atH hs (k : Int)) (fallOf hs ts (k : Int) fc) = sh at *
    generalize fallOf hs ts (k : Int) fc = fl at *
    have H1W : Hid (W.drew.heap[b3]? = W.drew.heap[b3]?) := rfl
    clear H1W
    have hwl := wantH_len (enoA o dr gp tl hs ts fc le) pre
    rcases HO1 with ho | ⟨ho, c, hc⟩
    · rw [ho] at HE
      replace HE : Hid ((enoA o dr gp tl hs ts fc le) (k : Int) = false) := HE.out
      gi_wp2
      refine region_round (S := (fun W' => Below W0.heap.size W0 W')) arrU (no_defer (by rfl)) (fun ⟨_, _, h⟩ => h) hbw.drew (fun hHeld => ?_)
      refine take_op (i := 0) (d := 31) (v := ?_) rfl rfl (by kernel_rfl) (by kernel_rfl) (by kernel_rfl) (fun _ _ _ h => h) (Or.inl ⟨by rfl, ?hy0u15⟩) hHeld ?rest0u15
      case hy0u15 =>
        intro w' hS'
        go_simp
        try with_reducible rfl
      simp only [List.setIfInBounds_toArray, List.set_cons_zero, List.set_cons_succ]
      refine take_op (i := 1) (d := 32) (v := .agg (fsC hs ts fc)) rfl rfl (by kernel_rfl) (by kernel_rfl) (by kernel_rfl) (fun _ _ _ h => h) (yields_row (by rfl) 111 (.tmp 31) (by rfl) b3 0 49 (by rfl) 113 (shC hs ts fc o dr gp tl) (0, 0) _ (fun _ h => below_row h H1.out) Tryd.underlying111 rfl info_fs (sh_fits49 _ _ _ _ _ _ _ Hh.out Ht.out) (fsC hs ts fc) (sh_fs _ _ _ _ _ _ _ Hh.out Ht.out)) hHeld ?_
      simp only [List.setIfInBounds_toArray, List.set_cons_zero, List.set_cons_succ]
      refine take_op (i := 2) (d := 33) (v := ?_) rfl rfl (by kernel_rfl) (by kernel_rfl) (by kernel_rfl) (fun _ _ _ h => h) (Or.inl ⟨by rfl, ?hy2u16⟩) hHeld ?rest2u16
      case hy2u16 =>
        intro w' hS'
        go_simp
        try with_reducible rfl
      simp only [List.setIfInBounds_toArray, List.set_cons_zero, List.set_cons_succ]
      refine wpAnyH_ready (rs := [3]) (by kernel_rfl) (by simp) ?_
      refine AllReadyH.cons rfl (fun K hK => ?_) AllReadyH.nil
      go_simp
      refine (HF1.out _).mono ?_
      rintro e W3 ⟨rfl, hb1⟩
      refine hK.out _ _ (hHeld.trans (hb1.mono hHeld.size)) (fun hHeld2 => ?_)
      clear hK K
      replace hHeld := hHeld2
      clear hHeld2
      refine take_op (i := 4) (d := 35) (v := ?_) rfl rfl (by kernel_rfl) (by kernel_rfl) (by kernel_rfl) (fun _ _ _ h => h) (Or.inl ⟨by rfl, ?hy4u17⟩) hHeld ?rest4u17
      case hy4u17 =>
        intro w' hS'
        go_simp
        try with_reducible rfl
      simp only [List.setIfInBounds_toArray, List.set_cons_zero, List.set_cons_succ]
      refine take_op (i := 5) (d := 36) (v := ?_) rfl rfl (by kernel_rfl) (by kernel_rfl) (by kernel_rfl) (fun _ _ _ h => h) (Or.inl ⟨by rfl, ?hy5u18⟩) hHeld ?rest5u18
      case hy5u18 =>
        intro w' hS'
        go_simp
        try with_reducible rfl
      simp only [List.setIfInBounds_toArray, List.set_cons_zero, List.set_cons_succ]
      refine take_op (i := 6) (d := 37) rfl rfl (by kernel_rfl) (by kernel_rfl) (by kernel_rfl) (fun _ _ _ h => h) (Or.inr ⟨by rfl, rfl⟩) hHeld ?_
      simp only [List.setIfInBounds_toArray, List.set_cons_zero, List.set_cons_succ]
      refine take_op (i := 7) (d := 38) rfl rfl (by kernel_rfl) (by kernel_rfl) (by kernel_rfl) (fun _ _ _ h => h) (Or.inr ⟨by rfl, rfl⟩) hHeld ?_
      simp only [List.setIfInBounds_toArray, List.set_cons_zero, List.set_cons_succ]
      refine take_op (i := 8) (d := 39) rfl rfl (by kernel_rfl) (by kernel_rfl) (by kernel_rfl) (fun _ _ _ h => h) (Or.inr ⟨by rfl, rfl⟩) hHeld ?_
      simp only [List.setIfInBounds_toArray, List.set_cons_zero, List.set_cons_succ]
      refine take_op (i := 9) (d := 40) rfl rfl (by kernel_rfl) (by kernel_rfl) (by kernel_rfl) (fun _ _ _ h => h) (Or.inr ⟨by rfl, rfl⟩) hHeld ?_
      simp only [List.setIfInBounds_toArray, List.set_cons_zero, List.set_cons_succ]
      refine take_op (i := 10) (d := 41) rfl rfl (by kernel_rfl) (by kernel_rfl) (by kernel_rfl) (fun _ _ _ h => h) (Or.inr ⟨by rfl, rfl⟩) hHeld ?_
      simp only [List.setIfInBounds_toArray, List.set_cons_zero, List.set_cons_succ]
      refine take_op (i := 11) (d := 42) (v := ?_) rfl rfl (by kernel_rfl) (by kernel_rfl) (by kernel_rfl) (fun _ _ _ h => h) (Or.inl ⟨by rfl, ?hy11u19⟩) hHeld ?rest11u19
      case hy11u19 =>
        intro w' hS'
        go_simp
        try with_reducible rfl
      simp only [List.setIfInBounds_toArray, List.set_cons_zero, List.set_cons_succ]
      refine wpAnyH_done (by kernel_rfl) ?_ _
      have hbz : Below W.drew.heap.size W.drew W3 := hb1
      have hv3 : Boxed W3 W0.heap.size 45 v := below_row hbz HV.out
      have hrow3 : W3.ownsRow W0.heap.size 2 1 v (wantH (enoA o dr gp tl hs ts fc le) pre).length ((wantH (enoA o dr gp tl hs ts fc le) pre).map (Value.int .i64)) := owns_below (W := W.drew) HR.out hbz
      have hB2 : Hid (Below w.heap.size W W3) := (Below.drew (Below.refl w.heap.size W)).trans (hbz.mono hwW)
      have hK1 : Hid (KeepsOthers W W3) := (KeepsOthers.drew W).trans (keeps_of_below hbz)
      have hcv := hv3.cell
      have hsz3 : W0.heap.size ≤ W3.heap.size := hHeld.size
      clear HV HR
      have HX : Hid (wantH (enoA o dr gp tl hs ts fc le) (pre ++ [⟨(k : Int), hx0, hx1⟩]) = wantH (enoA o dr gp tl hs ts fc le) pre) := wantH_miss _ pre ⟨(k : Int), hx0, hx1⟩ HE.out
      gi_wp2
      exact ⟨hK1.out, hB2.out, ⟨v, hv3, by rw [HX.out]; exact hrow3, trivial⟩, hHeld⟩
    · rw [ho, hc] at HE
      cases c
      · replace HE : Hid ((enoA o dr gp tl hs ts fc le) (k : Int) = false) := HE.out
        gi_wp2
        refine region_round (S := (fun W' => Below W0.heap.size W0 W')) arrU (no_defer (by rfl)) (fun ⟨_, _, h⟩ => h) hbw.drew (fun hHeld => ?_)
        refine take_op (i := 0) (d := 31) (v := ?_) rfl rfl (by kernel_rfl) (by kernel_rfl) (by kernel_rfl) (fun _ _ _ h => h) (Or.inl ⟨by rfl, ?hy0u20⟩) hHeld ?rest0u20
        case hy0u20 =>
          intro w' hS'
          go_simp
          try with_reducible rfl
        simp only [List.setIfInBounds_toArray, List.set_cons_zero, List.set_cons_succ]
        refine take_op (i := 1) (d := 32) (v := .agg (fsC hs ts fc)) rfl rfl (by kernel_rfl) (by kernel_rfl) (by kernel_rfl) (fun _ _ _ h => h) (yields_row (by rfl) 111 (.tmp 31) (by rfl) b3 0 49 (by rfl) 113 (shC hs ts fc o dr gp tl) (0, 0) _ (fun _ h => below_row h H1.out) Tryd.underlying111 rfl info_fs (sh_fits49 _ _ _ _ _ _ _ Hh.out Ht.out) (fsC hs ts fc) (sh_fs _ _ _ _ _ _ _ Hh.out Ht.out)) hHeld ?_
        simp only [List.setIfInBounds_toArray, List.set_cons_zero, List.set_cons_succ]
        refine take_op (i := 2) (d := 33) (v := ?_) rfl rfl (by kernel_rfl) (by kernel_rfl) (by kernel_rfl) (fun _ _ _ h => h) (Or.inl ⟨by rfl, ?hy2u21⟩) hHeld ?rest2u21
        case hy2u21 =>
          intro w' hS'
          go_simp
          try with_reducible rfl
        simp only [List.setIfInBounds_toArray, List.set_cons_zero, List.set_cons_succ]
        refine wpAnyH_ready (rs := [3]) (by kernel_rfl) (by simp) ?_
        refine AllReadyH.cons rfl (fun K hK => ?_) AllReadyH.nil
        go_simp
        refine (HF1.out _).mono ?_
        rintro e W3 ⟨rfl, hb1⟩
        refine hK.out _ _ (hHeld.trans (hb1.mono hHeld.size)) (fun hHeld2 => ?_)
        clear hK K
        replace hHeld := hHeld2
        clear hHeld2
        refine take_op (i := 4) (d := 35) (v := ?_) rfl rfl (by kernel_rfl) (by kernel_rfl) (by kernel_rfl) (fun _ _ _ h => h) (Or.inl ⟨by rfl, ?hy4u22⟩) hHeld ?rest4u22
        case hy4u22 =>
          intro w' hS'
          go_simp
          try with_reducible rfl
        simp only [List.setIfInBounds_toArray, List.set_cons_zero, List.set_cons_succ]
        refine take_op (i := 5) (d := 36) (v := ?_) rfl rfl (by kernel_rfl) (by kernel_rfl) (by kernel_rfl) (fun _ _ _ h => h) (Or.inl ⟨by rfl, ?hy5u23⟩) hHeld ?rest5u23
        case hy5u23 =>
          intro w' hS'
          go_simp
          try with_reducible rfl
        simp only [List.setIfInBounds_toArray, List.set_cons_zero, List.set_cons_succ]
        refine take_op (i := 6) (d := 37) (v := .agg (shC hs ts fc o dr gp tl)) rfl rfl (by kernel_rfl) (by kernel_rfl) (by kernel_rfl) (fun _ _ _ h => h) (yields_row (by rfl) 113 (.tmp 11) (by rfl) b3 0 53 (by rfl) 113 (shC hs ts fc o dr gp tl) (0, 0) _ (fun _ h => below_row h H1.out) Tryd.underlying113 rfl info_sh (sh_fits _ _ _ _ _ _ _ Hh.out Ht.out) (shC hs ts fc o dr gp tl) (sh_all _ _ _ _ _ _ _ Hh.out Ht.out)) hHeld ?_
        simp only [List.setIfInBounds_toArray, List.set_cons_zero, List.set_cons_succ]
        refine take_op (i := 7) (d := 38) (v := ?_) rfl rfl (by kernel_rfl) (by kernel_rfl) (by kernel_rfl) (fun _ _ _ h => h) (Or.inl ⟨by rfl, ?hy7u24⟩) hHeld ?rest7u24
        case hy7u24 =>
          intro w' hS'
          go_simp
          try with_reducible rfl
        simp only [List.setIfInBounds_toArray, List.set_cons_zero, List.set_cons_succ]
        refine take_op (i := 9) (d := 40) (v := ?_) rfl rfl (by kernel_rfl) (by kernel_rfl) (by kernel_rfl) (fun _ _ _ h => h) (Or.inl ⟨by rfl, ?hy9u25⟩) hHeld ?rest9u25
        case hy9u25 =>
          intro w' hS'
          have q3 : w'.cell? ⟨b2, 0, none⟩ = some (.float .f32 le) := by rw [cell_of_row w' _ _ _ _ _ (below_row hS' H2.out)]; rfl
          go_simp
          try with_reducible rfl
        simp only [List.setIfInBounds_toArray, List.set_cons_zero, List.set_cons_succ]
        refine wpAnyH_ready (rs := [8]) (by kernel_rfl) (by simp) ?_
        refine AllReadyH.cons rfl (fun K hK => ?_) AllReadyH.nil
        go_simp
        refine (HP1.out _).mono ?_
        rintro e W4 ⟨rfl, hb2⟩
        refine hK.out _ _ (hHeld.trans (hb2.mono hHeld.size)) (fun hHeld2 => ?_)
        clear hK K
        replace hHeld := hHeld2
        clear hHeld2
        refine take_op (i := 10) (d := 41) (v := ?_) rfl rfl (by kernel_rfl) (by kernel_rfl) (by kernel_rfl) (fun _ _ _ h => h) (Or.inl ⟨by rfl, ?hy10u26⟩) hHeld ?rest10u26
        case hy10u26 =>
          intro w' hS'
          go_simp
          try with_reducible rfl
        simp only [List.setIfInBounds_toArray, List.set_cons_zero, List.set_cons_succ]
        refine take_op (i := 11) (d := 42) (v := ?_) rfl rfl (by kernel_rfl) (by kernel_rfl) (by kernel_rfl) (fun _ _ _ h => h) (Or.inl ⟨by rfl, ?hy11u27⟩) hHeld ?rest11u27
        case hy11u27 =>
          intro w' hS'
          go_simp
          try with_reducible rfl
        simp only [List.setIfInBounds_toArray, List.set_cons_zero, List.set_cons_succ]
        refine wpAnyH_done (by kernel_rfl) ?_ _
        have hbz : Below W.drew.heap.size W.drew W4 := (hb1.trans (hb2.mono hb1.size))
        have hv3 : Boxed W4 W0.heap.size 45 v := below_row hbz HV.out
        have hrow3 : W4.ownsRow W0.heap.size 2 1 v (wantH (enoA o dr gp tl hs ts fc le) pre).length ((wantH (enoA o dr gp tl hs ts fc le) pre).map (Value.int .i64)) := owns_below (W := W.drew) HR.out hbz
        have hB2 : Hid (Below w.heap.size W W4) := (Below.drew (Below.refl w.heap.size W)).trans (hbz.mono hwW)
        have hK1 : Hid (KeepsOthers W W4) := (KeepsOthers.drew W).trans (keeps_of_below hbz)
        have hcv := hv3.cell
        have hsz3 : W0.heap.size ≤ W4.heap.size := hHeld.size
        clear HV HR
        have HX : Hid (wantH (enoA o dr gp tl hs ts fc le) (pre ++ [⟨(k : Int), hx0, hx1⟩]) = wantH (enoA o dr gp tl hs ts fc le) pre) := wantH_miss _ pre ⟨(k : Int), hx0, hx1⟩ HE.out
        gi_wp2
        exact ⟨hK1.out, hB2.out, ⟨v, hv3, by rw [HX.out]; exact hrow3, trivial⟩, hHeld⟩
      · replace HE : Hid ((enoA o dr gp tl hs ts fc le) (k : Int) = true) := HE.out
        gi_wp2
        refine region_round (S := (fun W' => Below W0.heap.size W0 W')) arrU (no_defer (by rfl)) (fun ⟨_, _, h⟩ => h) hbw.drew (fun hHeld => ?_)
        refine take_op (i := 0) (d := 31) (v := ?_) rfl rfl (by kernel_rfl) (by kernel_rfl) (by kernel_rfl) (fun _ _ _ h => h) (Or.inl ⟨by rfl, ?hy0u28⟩) hHeld ?rest0u28
        case hy0u28 =>
          intro w' hS'
          go_simp
          try with_reducible rfl
        simp only [List.setIfInBounds_toArray, List.set_cons_zero, List.set_cons_succ]
        refine take_op (i := 1) (d := 32) (v := .agg (fsC hs ts fc)) rfl rfl (by kernel_rfl) (by kernel_rfl) (by kernel_rfl) (fun _ _ _ h => h) (yields_row (by rfl) 111 (.tmp 31) (by rfl) b3 0 49 (by rfl) 113 (shC hs ts fc o dr gp tl) (0, 0) _ (fun _ h => below_row h H1.out) Tryd.underlying111 rfl info_fs (sh_fits49 _ _ _ _ _ _ _ Hh.out Ht.out) (fsC hs ts fc) (sh_fs _ _ _ _ _ _ _ Hh.out Ht.out)) hHeld ?_
        simp only [List.setIfInBounds_toArray, List.set_cons_zero, List.set_cons_succ]
        refine take_op (i := 2) (d := 33) (v := ?_) rfl rfl (by kernel_rfl) (by kernel_rfl) (by kernel_rfl) (fun _ _ _ h => h) (Or.inl ⟨by rfl, ?hy2u29⟩) hHeld ?rest2u29
        case hy2u29 =>
          intro w' hS'
          go_simp
          try with_reducible rfl
        simp only [List.setIfInBounds_toArray, List.set_cons_zero, List.set_cons_succ]
        refine wpAnyH_ready (rs := [3]) (by kernel_rfl) (by simp) ?_
        refine AllReadyH.cons rfl (fun K hK => ?_) AllReadyH.nil
        go_simp
        refine (HF1.out _).mono ?_
        rintro e W3 ⟨rfl, hb1⟩
        refine hK.out _ _ (hHeld.trans (hb1.mono hHeld.size)) (fun hHeld2 => ?_)
        clear hK K
        replace hHeld := hHeld2
        clear hHeld2
        refine take_op (i := 4) (d := 35) (v := ?_) rfl rfl (by kernel_rfl) (by kernel_rfl) (by kernel_rfl) (fun _ _ _ h => h) (Or.inl ⟨by rfl, ?hy4u30⟩) hHeld ?rest4u30
        case hy4u30 =>
          intro w' hS'
          go_simp
          try with_reducible rfl
        simp only [List.setIfInBounds_toArray, List.set_cons_zero, List.set_cons_succ]
        refine take_op (i := 5) (d := 36) (v := ?_) rfl rfl (by kernel_rfl) (by kernel_rfl) (by kernel_rfl) (fun _ _ _ h => h) (Or.inl ⟨by rfl, ?hy5u31⟩) hHeld ?rest5u31
        case hy5u31 =>
          intro w' hS'
          go_simp
          try with_reducible rfl
        simp only [List.setIfInBounds_toArray, List.set_cons_zero, List.set_cons_succ]
        refine take_op (i := 6) (d := 37) (v := .agg (shC hs ts fc o dr gp tl)) rfl rfl (by kernel_rfl) (by kernel_rfl) (by kernel_rfl) (fun _ _ _ h => h) (yields_row (by rfl) 113 (.tmp 11) (by rfl) b3 0 53 (by rfl) 113 (shC hs ts fc o dr gp tl) (0, 0) _ (fun _ h => below_row h H1.out) Tryd.underlying113 rfl info_sh (sh_fits _ _ _ _ _ _ _ Hh.out Ht.out) (shC hs ts fc o dr gp tl) (sh_all _ _ _ _ _ _ _ Hh.out Ht.out)) hHeld ?_
        simp only [List.setIfInBounds_toArray, List.set_cons_zero, List.set_cons_succ]
        refine take_op (i := 7) (d := 38) (v := ?_) rfl rfl (by kernel_rfl) (by kernel_rfl) (by kernel_rfl) (fun _ _ _ h => h) (Or.inl ⟨by rfl, ?hy7u32⟩) hHeld ?rest7u32
        case hy7u32 =>
          intro w' hS'
          go_simp
          try with_reducible rfl
        simp only [List.setIfInBounds_toArray, List.set_cons_zero, List.set_cons_succ]
        refine take_op (i := 9) (d := 40) (v := ?_) rfl rfl (by kernel_rfl) (by kernel_rfl) (by kernel_rfl) (fun _ _ _ h => h) (Or.inl ⟨by rfl, ?hy9u33⟩) hHeld ?rest9u33
        case hy9u33 =>
          intro w' hS'
          have q3 : w'.cell? ⟨b2, 0, none⟩ = some (.float .f32 le) := by rw [cell_of_row w' _ _ _ _ _ (below_row hS' H2.out)]; rfl
          go_simp
          try with_reducible rfl
        simp only [List.setIfInBounds_toArray, List.set_cons_zero, List.set_cons_succ]
        refine wpAnyH_ready (rs := [8]) (by kernel_rfl) (by simp) ?_
        refine AllReadyH.cons rfl (fun K hK => ?_) AllReadyH.nil
        go_simp
        refine (HP1.out _).mono ?_
        rintro e W4 ⟨rfl, hb2⟩
        refine hK.out _ _ (hHeld.trans (hb2.mono hHeld.size)) (fun hHeld2 => ?_)
        clear hK K
        replace hHeld := hHeld2
        clear hHeld2
        refine take_op (i := 10) (d := 41) (v := ?_) rfl rfl (by kernel_rfl) (by kernel_rfl) (by kernel_rfl) (fun _ _ _ h => h) (Or.inl ⟨by rfl, ?hy10u34⟩) hHeld ?rest10u34
        case hy10u34 =>
          intro w' hS'
          go_simp
          try with_reducible rfl
        simp only [List.setIfInBounds_toArray, List.set_cons_zero, List.set_cons_succ]
        refine take_op (i := 11) (d := 42) (v := ?_) rfl rfl (by kernel_rfl) (by kernel_rfl) (by kernel_rfl) (fun _ _ _ h => h) (Or.inl ⟨by rfl, ?hy11u35⟩) hHeld ?rest11u35
        case hy11u35 =>
          intro w' hS'
          go_simp
          try with_reducible rfl
        simp only [List.setIfInBounds_toArray, List.set_cons_zero, List.set_cons_succ]
        refine wpAnyH_done (by kernel_rfl) ?_ _
        have hbz : Below W.drew.heap.size W.drew W4 := (hb1.trans (hb2.mono hb1.size))
        have hv3 : Boxed W4 W0.heap.size 45 v := below_row hbz HV.out
        have hrow3 : W4.ownsRow W0.heap.size 2 1 v (wantH (enoA o dr gp tl hs ts fc le) pre).length ((wantH (enoA o dr gp tl hs ts fc le) pre).map (Value.int .i64)) := owns_below (W := W.drew) HR.out hbz
        have hB2 : Hid (Below w.heap.size W W4) := (Below.drew (Below.refl w.heap.size W)).trans (hbz.mono hwW)
        have hK1 : Hid (KeepsOthers W W4) := (KeepsOthers.drew W).trans (keeps_of_below hbz)
        have hcv := hv3.cell
        have hsz3 : W0.heap.size ≤ W4.heap.size := hHeld.size
        clear HV HR
        have HX : Hid (wantH (enoA o dr gp tl hs ts fc le) (pre ++ [⟨(k : Int), hx0, hx1⟩]) = wantH (enoA o dr gp tl hs ts fc le) pre ++ [(k : Int)]) := wantH_hit _ pre ⟨(k : Int), hx0, hx1⟩ HE.out
        gi_wp2_with (gi_at_builtin; refine wpListIn_append_own _ rfl _ _ 45 rfl W0.heap.size 2 i0 (.int .i64 0) 1 8 Tryd.underlying45 hi hz0 hz1 hz2 rfl (by decide) _ _ _ rfl (hrow3.alloc _) ⟨W4.heap.size, 0, none⟩ 1 1 [.int .i64 (k : Int)] rfl rfl (cell_one_new _ _ _) (by simp [Value.oneCell']) (by unfold maxLen; omega) (by omega) (by simp; omega) ?_; intro v' w1 hown' hgrow _; obtain ⟨g', cap', rfl⟩ := ownsRow_succ hown'; obtain ⟨hv1, hv2, hr2, hk2, hbA⟩ := hv3.appended (by decide) hrow3 hsz3 (by omega) hown' hgrow; have hc1 := hv1.cell; have hf1 := hv1.frozen)
        exact ⟨hK1.out.trans hk2, hB2.out.trans (hbA.mono hle), ⟨_, hv2, by rw [HX.out]; simpa using hr2, trivial⟩, hHeld.trans hbA⟩
      · replace HE : Hid ((enoA o dr gp tl hs ts fc le) (k : Int) = true) := HE.out
        gi_wp2
        refine region_round (S := (fun W' => Below W0.heap.size W0 W')) arrU (no_defer (by rfl)) (fun ⟨_, _, h⟩ => h) hbw.drew (fun hHeld => ?_)
        refine take_op (i := 0) (d := 31) (v := ?_) rfl rfl (by kernel_rfl) (by kernel_rfl) (by kernel_rfl) (fun _ _ _ h => h) (Or.inl ⟨by rfl, ?hy0u36⟩) hHeld ?rest0u36
        case hy0u36 =>
          intro w' hS'
          go_simp
          try with_reducible rfl
        simp only [List.setIfInBounds_toArray, List.set_cons_zero, List.set_cons_succ]
        refine take_op (i := 1) (d := 32) (v := .agg (fsC hs ts fc)) rfl rfl (by kernel_rfl) (by kernel_rfl) (by kernel_rfl) (fun _ _ _ h => h) (yields_row (by rfl) 111 (.tmp 31) (by rfl) b3 0 49 (by rfl) 113 (shC hs ts fc o dr gp tl) (0, 0) _ (fun _ h => below_row h H1.out) Tryd.underlying111 rfl info_fs (sh_fits49 _ _ _ _ _ _ _ Hh.out Ht.out) (fsC hs ts fc) (sh_fs _ _ _ _ _ _ _ Hh.out Ht.out)) hHeld ?_
        simp only [List.setIfInBounds_toArray, List.set_cons_zero, List.set_cons_succ]
        refine take_op (i := 2) (d := 33) (v := ?_) rfl rfl (by kernel_rfl) (by kernel_rfl) (by kernel_rfl) (fun _ _ _ h => h) (Or.inl ⟨by rfl, ?hy2u37⟩) hHeld ?rest2u37
        case hy2u37 =>
          intro w' hS'
          go_simp
          try with_reducible rfl
        simp only [List.setIfInBounds_toArray, List.set_cons_zero, List.set_cons_succ]
        refine wpAnyH_ready (rs := [3]) (by kernel_rfl) (by simp) ?_
        refine AllReadyH.cons rfl (fun K hK => ?_) AllReadyH.nil
        go_simp
        refine (HF1.out _).mono ?_
        rintro e W3 ⟨rfl, hb1⟩
        refine hK.out _ _ (hHeld.trans (hb1.mono hHeld.size)) (fun hHeld2 => ?_)
        clear hK K
        replace hHeld := hHeld2
        clear hHeld2
        refine take_op (i := 4) (d := 35) (v := ?_) rfl rfl (by kernel_rfl) (by kernel_rfl) (by kernel_rfl) (fun _ _ _ h => h) (Or.inl ⟨by rfl, ?hy4u38⟩) hHeld ?rest4u38
        case hy4u38 =>
          intro w' hS'
          go_simp
          try with_reducible rfl
        simp only [List.setIfInBounds_toArray, List.set_cons_zero, List.set_cons_succ]
        refine take_op (i := 5) (d := 36) (v := ?_) rfl rfl (by kernel_rfl) (by kernel_rfl) (by kernel_rfl) (fun _ _ _ h => h) (Or.inl ⟨by rfl, ?hy5u39⟩) hHeld ?rest5u39
        case hy5u39 =>
          intro w' hS'
          go_simp
          try with_reducible rfl
        simp only [List.setIfInBounds_toArray, List.set_cons_zero, List.set_cons_succ]
        refine take_op (i := 6) (d := 37) (v := .agg (shC hs ts fc o dr gp tl)) rfl rfl (by kernel_rfl) (by kernel_rfl) (by kernel_rfl) (fun _ _ _ h => h) (yields_row (by rfl) 113 (.tmp 11) (by rfl) b3 0 53 (by rfl) 113 (shC hs ts fc o dr gp tl) (0, 0) _ (fun _ h => below_row h H1.out) Tryd.underlying113 rfl info_sh (sh_fits _ _ _ _ _ _ _ Hh.out Ht.out) (shC hs ts fc o dr gp tl) (sh_all _ _ _ _ _ _ _ Hh.out Ht.out)) hHeld ?_
        simp only [List.setIfInBounds_toArray, List.set_cons_zero, List.set_cons_succ]
        refine take_op (i := 7) (d := 38) (v := ?_) rfl rfl (by kernel_rfl) (by kernel_rfl) (by kernel_rfl) (fun _ _ _ h => h) (Or.inl ⟨by rfl, ?hy7u40⟩) hHeld ?rest7u40
        case hy7u40 =>
          intro w' hS'
          go_simp
          try with_reducible rfl
        simp only [List.setIfInBounds_toArray, List.set_cons_zero, List.set_cons_succ]
        refine take_op (i := 9) (d := 40) (v := ?_) rfl rfl (by kernel_rfl) (by kernel_rfl) (by kernel_rfl) (fun _ _ _ h => h) (Or.inl ⟨by rfl, ?hy9u41⟩) hHeld ?rest9u41
        case hy9u41 =>
          intro w' hS'
          have q3 : w'.cell? ⟨b2, 0, none⟩ = some (.float .f32 le) := by rw [cell_of_row w' _ _ _ _ _ (below_row hS' H2.out)]; rfl
          go_simp
          try with_reducible rfl
        simp only [List.setIfInBounds_toArray, List.set_cons_zero, List.set_cons_succ]
        refine wpAnyH_ready (rs := [8]) (by kernel_rfl) (by simp) ?_
        refine AllReadyH.cons rfl (fun K hK => ?_) AllReadyH.nil
        go_simp
        refine (HP1.out _).mono ?_
        rintro e W4 ⟨rfl, hb2⟩
        refine hK.out _ _ (hHeld.trans (hb2.mono hHeld.size)) (fun hHeld2 => ?_)
        clear hK K
        replace hHeld := hHeld2
        clear hHeld2
        refine take_op (i := 10) (d := 41) (v := ?_) rfl rfl (by kernel_rfl) (by kernel_rfl) (by kernel_rfl) (fun _ _ _ h => h) (Or.inl ⟨by rfl, ?hy10u42⟩) hHeld ?rest10u42
        case hy10u42 =>
          intro w' hS'
          go_simp
          try with_reducible rfl
        simp only [List.setIfInBounds_toArray, List.set_cons_zero, List.set_cons_succ]
        refine take_op (i := 11) (d := 42) (v := ?_) rfl rfl (by kernel_rfl) (by kernel_rfl) (by kernel_rfl) (fun _ _ _ h => h) (Or.inl ⟨by rfl, ?hy11u43⟩) hHeld ?rest11u43
        case hy11u43 =>
          intro w' hS'
          go_simp
          try with_reducible rfl
        simp only [List.setIfInBounds_toArray, List.set_cons_zero, List.set_cons_succ]
        refine wpAnyH_done (by kernel_rfl) ?_ _
        have hbz : Below W.drew.heap.size W.drew W4 := (hb1.trans (hb2.mono hb1.size))
        have hv3 : Boxed W4 W0.heap.size 45 v := below_row hbz HV.out
        have hrow3 : W4.ownsRow W0.heap.size 2 1 v (wantH (enoA o dr gp tl hs ts fc le) pre).length ((wantH (enoA o dr gp tl hs ts fc le) pre).map (Value.int .i64)) := owns_below (W := W.drew) HR.out hbz
        have hB2 : Hid (Below w.heap.size W W4) := (Below.drew (Below.refl w.heap.size W)).trans (hbz.mono hwW)
        have hK1 : Hid (KeepsOthers W W4) := (KeepsOthers.drew W).trans (keeps_of_below hbz)
        have hcv := hv3.cell
        have hsz3 : W0.heap.size ≤ W4.heap.size := hHeld.size
        clear HV HR
        have HX : Hid (wantH (enoA o dr gp tl hs ts fc le) (pre ++ [⟨(k : Int), hx0, hx1⟩]) = wantH (enoA o dr gp tl hs ts fc le) pre ++ [(k : Int)]) := wantH_hit _ pre ⟨(k : Int), hx0, hx1⟩ HE.out
        gi_wp2_with (gi_at_builtin; refine wpListIn_append_own _ rfl _ _ 45 rfl W0.heap.size 2 i0 (.int .i64 0) 1 8 Tryd.underlying45 hi hz0 hz1 hz2 rfl (by decide) _ _ _ rfl (hrow3.alloc _) ⟨W4.heap.size, 0, none⟩ 1 1 [.int .i64 (k : Int)] rfl rfl (cell_one_new _ _ _) (by simp [Value.oneCell']) (by unfold maxLen; omega) (by omega) (by simp; omega) ?_; intro v' w1 hown' hgrow _; obtain ⟨g', cap', rfl⟩ := ownsRow_succ hown'; obtain ⟨hv1, hv2, hr2, hk2, hbA⟩ := hv3.appended (by decide) hrow3 hsz3 (by omega) hown' hgrow; have hc1 := hv1.cell; have hf1 := hv1.frozen)
        exact ⟨hK1.out.trans hk2, hB2.out.trans (hbA.mono hle), ⟨_, hv2, by rw [HX.out]; simpa using hr2, trivial⟩, hHeld.trans hbA⟩
  case done =>
    rintro D zs W hD rfl ⟨⟨v, hv, hrow, -⟩, hbw⟩ hK
    rename_i K hcont
    have hcv := hv.cell
    have hD' : w.heap.size ≤ D := by simp at hD; omega
    have hwl := wantH_len (enoA o dr gp tl hs ts fc le) (hrs 24)
    rw [hrs_length] at hwl
    have HK := Lib.hid hK
    have hby := HB.out.trans (hbw.mono hle)
    have HO2 : Hid (Own W w.heap.size 2 (Value.int .i64) v (wantH (enoA o dr gp tl hs ts fc le) (hrs 24))) := own_base (own_of_row hrow (by unfold maxLen; omega)) hle
    have HKB := Lib.hid (fun o' => belowK_b (w := w) (Nat.le_refl _) W D _ o' hD' HK.out rfl rfl)
    clear hv hrow hbw hD hK
    refine hcont _ _ ?_
    go_wp2
    refine ⟨by simp, .inl ⟨_, _, rfl, run_takeDeferred HK.out, ?_⟩⟩
    refine ⟨.tuple #[v, .int .i64 0], ?_, ⟨_, rfl, ?_⟩, hby.trans (HKB.out _)⟩
    · exact results_tmp2 (fn := Tryd.f29) rfl _ _ _
    · exact own_put HO2.out HK.out rfl
  case stop =>
    rintro D c pre W _ _ h _
    exact h.elim

end Go.Proofs.YtnienahjfocalaaDoor
