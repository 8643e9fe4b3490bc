/-
  The light that passes into a window at an hour: the program's and the model's.
-/
import Derived.Test.YtmniodfdoidffaaDoorWinN
namespace Go.Proofs.YtmniodfdoidffaaDoor
open Go.RowKit

attribute [local go_sem] run_store_f

set_option maxRecDepth 100000 in
set_option maxHeartbeats 1000000 in
theorem windowAt_up (n : Int) (wd gp : Nat) (t : Int) (sh : Nat) (hs ts : List Int) (hh : hs.length = 24) (ht : ts.length = 24) (ok : BlOk n wd gp t sh) (hour facing : Int) (hr0 : 0 ≤ hour) (hr1 : hour < 24) (hf0 : 0 ≤ facing) (hf1 : facing ≤ 255) (hx1 : atH hs hour ≤ 64) (hy0 : 0 ≤ atH ts hour) (hy1 : atH ts hour ≤ 255) (hpos : 0 < atH hs hour) (p1 p2 : Nat) (w : World) (c1 : w.heap[p1]? = some (.cells (blindC n wd gp t sh) 59 (0, 0))) (c2 : w.heap[p2]? = some (.cells #[.float .f32 (opnB wd gp t 1)] 25 (0, 0))) :
    Calls Tryd.prog 195 #[.func (.func 192) #[] #[.pointer (some ⟨p1, 0, none⟩), .pointer (some ⟨p2, 0, none⟩)], .agg (sunC hs ts), .int .i64 hour, .int .i64 facing] w fun e w' => e = .returned (.float .f32 (fmul (fallOf hs ts hour facing) (pasB wd gp t sh (atH hs hour)))) ∧ Below w.heap.size w w' := by
  have Hh := Lib.hid hh
  have Ht := Lib.hid ht
  have Hup := Lib.hid (upAt_any hs ts hh hour hr0 hr1)
  have HF := Lib.hid (fallAt_any hs ts hh ht hour facing hr0 hr1 hf0 hf1 hx1 hy0 hy1)
  have HP := Lib.hid (fun w c1 c2 => passes_call n wd gp t sh ok p1 p2 (atH hs hour) (by omega) hx1 w c1 c2)
  have hm : floatBits .mul .f32 (fallOf hs ts hour facing) (pasB wd gp t sh (atH hs hour)) = some (fmul (fallOf hs ts hour facing) (pasB wd gp t sh (atH hs hour))) := (win_ok wd gp t ok.2.2.2.2.2.2.2.2 _ _ hpos hx1).1
  have r : ∀ T w, (binOp .mul T (.float .f32 (fallOf hs ts hour facing)) (.float .f32 (pasB wd gp t sh (atH hs hour)))).run Tryd.prog w = .ok (.float .f32 (fmul (fallOf hs ts hour facing) (pasB wd gp t sh (atH hs hour)))) w := fun T w => run_float_arith w .mul T .f32 _ _ _ hm
  have C1 := Lib.hid c1
  have C2 := Lib.hid c2
  have hw64 : IntKind.i64.wrap (atH hs hour) = atH hs hour := i64_small _ (by omega) (by omega)
  have hd : decide (0 < atH hs hour) = true := decide_eq_true hpos
  rw [hd] at Hup
  clear ok hh ht hm hd c1 c2
  generalize fallOf hs ts hour facing = F at *
  obtain ⟨k, rfl⟩ := Int.eq_ofNat_of_zero_le hr0
  have hk : k < 24 := by omega
  have ea : hs[k]?.getD 0 = atH hs (k : Int) := by unfold atH; rw [Int.toNat_natCast]
  generalize pasB wd gp t sh (atH hs (k : Int)) = P at *
  generalize atH hs (k : Int) = x at *
  have Hx := Lib.hid ea
  clear ea
  go_enter Tryd.func195, Tryd.ntmps195
  go_upto_region 1 with (fail)
  refine abs_world (fun W => W.heap[w.heap.size]? = some (.cells (sunC hs ts) 126 (0, 0)) ∧ W.heap[p1]? = some (.cells (blindC n wd gp t sh) 59 (0, 0)) ∧ W.heap[p2]? = some (.cells #[.float .f32 (opnB wd gp t 1)] 25 (0, 0)) ∧ Below w.heap.size w W) ⟨heap_alloc_new _ _, below_row ((Below.refl _ _).alloc (Nat.le_refl _) _) C1.out, below_row ((Below.refl _ _).alloc (Nat.le_refl _) _) C2.out, (Below.refl _ _).alloc (Nat.le_refl _) _⟩ ?_
  clear C1 C2
  rintro W ⟨h0, h1, h2, hb⟩
  have H0 := Lib.hid h0
  have C1 := Lib.hid h1
  have C2 := Lib.hid h2
  clear h0 h1 h2
  go_upto_region 3 with (first | (refine wpList_load_part rfl 126 _ rfl w.heap.size 0 48 rfl 126 (sunC hs ts) (0, 0) _ H0.out Tryd.underlying126 rfl info_sun (sun_fits _ _ Hh.out Ht.out) (sunC hs ts) (sun_all _ _ Hh.out Ht.out) ?_) | (go_at_call 212; refine (Hup.out _).mono ?_; rintro e W1 ⟨rfl, hb1⟩; replace H0 := Lib.hid (below_row hb1 H0.out); replace C1 := Lib.hid (below_row hb1 C1.out); replace C2 := Lib.hid (below_row hb1 C2.out); replace hb := hb.trans (hb1.mono hb.size); clear hb1))
  have d0 := H0.out
  have d1 := C1.out
  have d2 := C2.out
  clear H0 C1 C2
  refine wp_region_held_drew (S := (fun W => W.heap[w.heap.size]? = some (.cells (sunC hs ts) 126 (0, 0)) ∧ W.heap[p1]? = some (.cells (blindC n wd gp t sh) 59 (0, 0)) ∧ W.heap[p2]? = some (.cells #[.float .f32 (opnB wd gp t 1)] 25 (0, 0)) ∧ Below w.heap.size w W)) (by kernel_rfl) ⟨d0, d1, d2, hb.drew⟩ (fun hHeld => ?_)
  refine take_op (i := 0) (d := 13) (v := .agg (sunC hs ts)) rfl rfl (by kernel_rfl) (by kernel_rfl) (by kernel_rfl) (fun _ _ _ h => h) (yields_row (by rfl) 126 (.tmp 5) (by rfl) w.heap.size 0 48 (by rfl) 126 (sunC hs ts) (0, 0) _ (fun _ h => h.1) Tryd.underlying126 rfl info_sun (sun_fits _ _ Hh.out Ht.out) (sunC hs ts) (sun_all _ _ Hh.out Ht.out)) hHeld ?_
  simp only [List.setIfInBounds_toArray, List.set_cons_zero, List.set_cons_succ]
  refine take_op (i := 1) (d := 14) (v := ?_) rfl rfl (by kernel_rfl) (by kernel_rfl) (by kernel_rfl) (fun _ _ _ h => h) (Or.inl ⟨by rfl, ?hy1u1⟩) hHeld ?rest1u1
  case hy1u1 =>
    intro w' hS'
    go_simp
    try with_reducible rfl
  simp only [List.setIfInBounds_toArray, List.set_cons_zero, List.set_cons_succ]
  refine take_op (i := 2) (d := 15) (v := ?_) rfl rfl (by kernel_rfl) (by kernel_rfl) (by kernel_rfl) (fun _ _ _ h => h) (Or.inl ⟨by rfl, ?hy2u2⟩) hHeld ?rest2u2
  case hy2u2 =>
    intro w' hS'
    go_simp
    try with_reducible rfl
  simp only [List.setIfInBounds_toArray, List.set_cons_zero, List.set_cons_succ]
  refine take_op (i := 4) (d := 17) (v := ?_) rfl rfl (by kernel_rfl) (by kernel_rfl) (by kernel_rfl) (fun _ _ _ h => h) (Or.inl ⟨by rfl, ?hy4u3⟩) hHeld ?rest4u3
  case hy4u3 =>
    intro w' hS'
    go_simp
    try with_reducible rfl
  simp only [List.setIfInBounds_toArray, List.set_cons_zero, List.set_cons_succ]
  refine take_op (i := 5) (d := 18) (v := ?_) rfl rfl (by kernel_rfl) (by kernel_rfl) (by kernel_rfl) (fun _ _ _ h => h) (Or.inl ⟨by rfl, ?hy5u4⟩) hHeld ?rest5u4
  case hy5u4 =>
    intro w' hS'
    go_simp
    try with_reducible rfl
  simp only [List.setIfInBounds_toArray, List.set_cons_zero, List.set_cons_succ]
  refine take_op (i := 6) (d := 19) (v := ?_) rfl rfl (by kernel_rfl) (by kernel_rfl) (by kernel_rfl) (fun _ _ _ h => h) (Or.inl ⟨by rfl, ?hy6u5⟩) hHeld ?rest6u5
  case hy6u5 =>
    intro w' hS'
    go_simp
    try with_reducible rfl
  simp only [List.setIfInBounds_toArray, List.set_cons_zero, List.set_cons_succ]
  refine take_op (i := 7) (d := 20) (v := ?_) rfl rfl (by kernel_rfl) (by kernel_rfl) (by kernel_rfl) (fun _ _ _ h => h) (Or.inl ⟨by rfl, ?hy7u6⟩) hHeld ?rest7u6
  case hy7u6 =>
    intro w' hS'
    go_simp
    try with_reducible rfl
  simp only [List.setIfInBounds_toArray, List.set_cons_zero, List.set_cons_succ]
  refine take_op (i := 8) (d := 21) (v := ?_) rfl rfl (by kernel_rfl) (by kernel_rfl) (by kernel_rfl) (fun _ _ _ h => h) (Or.inl ⟨by rfl, ?hy8u7⟩) hHeld ?rest8u7
  case hy8u7 =>
    intro w' hS'
    obtain ⟨s1, _⟩ := hS'
    have qk := cell_sun_h s1 Hh.out k hk
    rw [Hx.out] at qk
    clear s1
    go_simp
    try with_reducible rfl
  simp only [List.setIfInBounds_toArray, List.set_cons_zero, List.set_cons_succ]
  refine take_op (i := 9) (d := 22) (v := ?_) rfl rfl (by kernel_rfl) (by kernel_rfl) (by kernel_rfl) (fun _ _ _ h => h) (Or.inl ⟨by rfl, ?hy9u8⟩) hHeld ?rest9u8
  case hy9u8 =>
    intro w' hS'
    go_simp
    try with_reducible rfl
  simp only [List.setIfInBounds_toArray, List.set_cons_zero, List.set_cons_succ]
  refine wpAnyH_ready (rs := [3]) (by kernel_rfl) (by simp) ?_
  refine AllReadyH.cons rfl (fun K hK => ?_) AllReadyH.nil
  go_simp
  refine (HF.out _).mono ?_
  rintro e W1 ⟨rfl, hb1⟩
  refine hK.out _ _ (⟨below_row hb1 hHeld.1, below_row hb1 hHeld.2.1, below_row hb1 hHeld.2.2.1, hHeld.2.2.2.trans (hb1.mono hHeld.2.2.2.size)⟩) (fun hHeld2 => ?_)
  clear hK K
  replace hHeld := hHeld2
  clear hHeld2
  refine wpAnyH_ready (rs := [10]) (by kernel_rfl) (by simp) ?_
  refine AllReadyH.cons rfl (fun K hK => ?_) AllReadyH.nil
  go_simp
  refine (HP.out _ hHeld.2.1 hHeld.2.2.1).mono ?_
  rintro e W3 ⟨rfl, hb3⟩
  refine hK.out _ _ (⟨below_row hb3 hHeld.1, below_row hb3 hHeld.2.1, below_row hb3 hHeld.2.2.1, hHeld.2.2.2.trans (hb3.mono hHeld.2.2.2.size)⟩) (fun hHeld2 => ?_)
  clear hK K
  replace hHeld := hHeld2
  clear hHeld2
  refine take_op (i := 11) (d := 24) (v := ?_) rfl rfl (by kernel_rfl) (by kernel_rfl) (by kernel_rfl) (fun _ _ _ h => h) (Or.inl ⟨by rfl, ?hy11u9⟩) hHeld ?rest11u9
  case hy11u9 =>
    intro w' hS'
    go_simp
    try with_reducible rfl
  simp only [List.setIfInBounds_toArray, List.set_cons_zero, List.set_cons_succ]
  refine take_op (i := 12) (d := 8) (v := ?_) rfl rfl (by kernel_rfl) (by kernel_rfl) (by kernel_rfl) (fun _ _ _ h => h) (Or.inl ⟨by rfl, ?hy12u10⟩) hHeld ?rest12u10
  case hy12u10 =>
    intro w' hS'
    go_simp
    try with_reducible rfl
  simp only [List.setIfInBounds_toArray, List.set_cons_zero, List.set_cons_succ]
  refine wpAnyH_done (by kernel_rfl) ?_ _
  have hbx := hHeld.2.2.2
  clear hHeld d0 d1 d2 hb
  go_wp2
  go_ret
  exact ⟨rfl, hbx⟩

set_option maxRecDepth 100000 in
set_option maxHeartbeats 1000000 in
theorem windowAt_no (n : Int) (wd gp : Nat) (t : Int) (sh : Nat) (hs ts : List Int) (hh : hs.length = 24) (ht : ts.length = 24) (hour facing : Int) (hr0 : 0 ≤ hour) (hr1 : hour < 24) (hpos : ¬ 0 < atH hs hour) (p1 p2 : Nat) (w : World) (c1 : w.heap[p1]? = some (.cells (blindC n wd gp t sh) 59 (0, 0))) (c2 : w.heap[p2]? = some (.cells #[.float .f32 (opnB wd gp t 1)] 25 (0, 0))) :
    Calls Tryd.prog 195 #[.func (.func 192) #[] #[.pointer (some ⟨p1, 0, none⟩), .pointer (some ⟨p2, 0, none⟩)], .agg (sunC hs ts), .int .i64 hour, .int .i64 facing] w fun e w' => e = .returned (.float .f32 0) ∧ Below w.heap.size w w' := by
  have Hh := Lib.hid hh
  have Ht := Lib.hid ht
  have Hup := Lib.hid (upAt_any hs ts hh hour hr0 hr1)
  have C1 := Lib.hid c1
  have C2 := Lib.hid c2
  have hd : decide (0 < atH hs hour) = false := decide_eq_false hpos
  rw [hd] at Hup
  clear hh ht hd c1 c2
  go_enter Tryd.func195, Tryd.ntmps195
  go_upto_region 1 with (fail)
  refine abs_world (fun W => W.heap[w.heap.size]? = some (.cells (sunC hs ts) 126 (0, 0)) ∧ W.heap[p1]? = some (.cells (blindC n wd gp t sh) 59 (0, 0)) ∧ W.heap[p2]? = some (.cells #[.float .f32 (opnB wd gp t 1)] 25 (0, 0)) ∧ Below w.heap.size w W) ⟨heap_alloc_new _ _, below_row ((Below.refl _ _).alloc (Nat.le_refl _) _) C1.out, below_row ((Below.refl _ _).alloc (Nat.le_refl _) _) C2.out, (Below.refl _ _).alloc (Nat.le_refl _) _⟩ ?_
  clear C1 C2
  rintro W ⟨h0, h1, h2, hb⟩
  have H0 := Lib.hid h0
  have C1 := Lib.hid h1
  have C2 := Lib.hid h2
  clear h0 h1 h2
  go_wp2_with (first | (refine wpList_load_part rfl 126 _ rfl w.heap.size 0 48 rfl 126 (sunC hs ts) (0, 0) _ H0.out Tryd.underlying126 rfl info_sun (sun_fits _ _ Hh.out Ht.out) (sunC hs ts) (sun_all _ _ Hh.out Ht.out) ?_) | (go_at_call 212; refine (Hup.out _).mono ?_; rintro e W1 ⟨rfl, hb1⟩; replace H0 := Lib.hid (below_row hb1 H0.out); replace C1 := Lib.hid (below_row hb1 C1.out); replace C2 := Lib.hid (below_row hb1 C2.out); replace hb := hb.trans (hb1.mono hb.size); clear hb1))
  go_ret
  exact ⟨rfl, hb⟩

theorem windowAt_any (n : Int) (wd gp : Nat) (t : Int) (sh : Nat) (hs ts : List Int) (hh : hs.length = 24) (ht : ts.length = 24) (ok : BlOk n wd gp t sh) (hour facing : Int) (hr0 : 0 ≤ hour) (hr1 : hour < 24) (hf0 : 0 ≤ facing) (hf1 : facing ≤ 255) (hx1 : atH hs hour ≤ 64) (hy0 : 0 ≤ atH ts hour) (hy1 : atH ts hour ≤ 255) (p1 p2 : Nat) (w : World) (c1 : w.heap[p1]? = some (.cells (blindC n wd gp t sh) 59 (0, 0))) (c2 : w.heap[p2]? = some (.cells #[.float .f32 (opnB wd gp t 1)] 25 (0, 0))) :
    Calls Tryd.prog 195 #[.func (.func 192) #[] #[.pointer (some ⟨p1, 0, none⟩), .pointer (some ⟨p2, 0, none⟩)], .agg (sunC hs ts), .int .i64 hour, .int .i64 facing] w fun e w' => e = .returned (.float .f32 (winB wd gp t sh hs ts hour facing)) ∧ Below w.heap.size w w' := by
  unfold winB
  by_cases hpos : 0 < atH hs hour
  · rw [if_pos hpos]; exact windowAt_up n wd gp t sh hs ts hh ht ok hour facing hr0 hr1 hf0 hf1 hx1 hy0 hy1 hpos p1 p2 w c1 c2
  · rw [if_neg hpos]; exact windowAt_no n wd gp t sh hs ts hh ht hour facing hr0 hr1 hpos p1 p2 w c1 c2

set_option maxRecDepth 100000 in
set_option maxHeartbeats 1000000 in
theorem l02Window_up (n : Int) (wd gp : Nat) (t : Int) (sh : Nat) (hs ts : List Int) (hh : hs.length = 24) (ht : ts.length = 24) (ok : BlOk n wd gp t sh) (hour facing : Int) (hr0 : 0 ≤ hour) (hr1 : hour < 24) (hf0 : 0 ≤ facing) (hf1 : facing ≤ 255) (hx1 : atH hs hour ≤ 64) (hy0 : 0 ≤ atH ts hour) (hy1 : atH ts hour ≤ 255) (hpos : 0 < atH hs hour) (g1 g2 : Nat) (w : World) (c1 : w.heap[g1]? = some (.cells (blindC n wd gp t sh) 59 (0, 0))) (c2 : w.heap[g2]? = some (.cells (sunC hs ts) 126 (0, 0))) :
    Calls Tryd.prog 141 #[.pointer (some ⟨g1, 0, none⟩), .pointer (some ⟨g2, 0, none⟩), .int .i64 hour, .int .i64 facing] w fun e w' => e = .returned (.float .f32 (fmul (fallOf hs ts hour facing) (pasB wd gp t sh (atH hs hour)))) ∧ Below w.heap.size w w' := by
  have Hh := Lib.hid hh
  have Ht := Lib.hid ht
  have HF := Lib.hid (fun w hg => l01Fall_any g2 hs ts hh ht hour facing hr0 hr1 hf0 hf1 hx1 hy0 hy1 126 (0, 0) w hg)
  have HP := Lib.hid (fun w hg => l02Pass_any n wd gp t sh ok (atH hs hour) (by omega) hx1 g1 59 (0, 0) w hg)
  have hm : floatBits .mul .f32 (fallOf hs ts hour facing) (pasB wd gp t sh (atH hs hour)) = some (fmul (fallOf hs ts hour facing) (pasB wd gp t sh (atH hs hour))) := (win_ok wd gp t ok.2.2.2.2.2.2.2.2 _ _ hpos hx1).1
  have r : ∀ T w, (binOp .mul T (.float .f32 (fallOf hs ts hour facing)) (.float .f32 (pasB wd gp t sh (atH hs hour)))).run Tryd.prog w = .ok (.float .f32 (fmul (fallOf hs ts hour facing) (pasB wd gp t sh (atH hs hour)))) w := fun T w => run_float_arith w .mul T .f32 _ _ _ hm
  have hw64 : IntKind.i64.wrap (atH hs hour) = atH hs hour := i64_small _ (by omega) (by omega)
  clear hm
  generalize fallOf hs ts hour facing = F at *
  clear ok hh ht
  obtain ⟨k, rfl⟩ := Int.eq_ofNat_of_zero_le hr0
  have hk : k < 24 := by omega
  have ea : hs[k]?.getD 0 = atH hs (k : Int) := by unfold atH; rw [Int.toNat_natCast]
  have q0 := cell_sun_h c2 Hh.out k hk
  rw [ea] at q0
  have hd : decide (atH hs (k : Int) ≤ 0) = false := decide_eq_false (by omega)
  generalize pasB wd gp t sh (atH hs (k : Int)) = P at *
  generalize atH hs (k : Int) = x at *
  have Hx := Lib.hid ea
  clear ea
  have C1 := Lib.hid c1
  have C2 := Lib.hid c2
  clear c1 c2
  go_enter Tryd.func141, Tryd.ntmps141
  go_upto_region 3 with (fail)
  have d0 := C1.out
  have d1 := C2.out
  clear C1 C2 q0
  refine wp_region_held_drew (S := (fun W => W.heap[g1]? = some (.cells (blindC n wd gp t sh) 59 (0, 0)) ∧ W.heap[g2]? = some (.cells (sunC hs ts) 126 (0, 0)) ∧ Below w.heap.size w W)) (by kernel_rfl) ⟨d0, d1, (Below.refl w.heap.size w).drew⟩ (fun hHeld => ?_)
  refine take_op (i := 0) (d := 16) (v := ?_) rfl rfl (by kernel_rfl) (by kernel_rfl) (by kernel_rfl) (fun _ _ _ h => h) (Or.inl ⟨by rfl, ?hy0u11⟩) hHeld ?rest0u11
  case hy0u11 =>
    intro w' hS'
    go_simp
    try with_reducible rfl
  simp only [List.setIfInBounds_toArray, List.set_cons_zero, List.set_cons_succ]
  refine take_op (i := 1) (d := 17) (v := ?_) rfl rfl (by kernel_rfl) (by kernel_rfl) (by kernel_rfl) (fun _ _ _ h => h) (Or.inl ⟨by rfl, ?hy1u12⟩) hHeld ?rest1u12
  case hy1u12 =>
    intro w' hS'
    go_simp
    try with_reducible rfl
  simp only [List.setIfInBounds_toArray, List.set_cons_zero, List.set_cons_succ]
  refine take_op (i := 2) (d := 18) (v := ?_) rfl rfl (by kernel_rfl) (by kernel_rfl) (by kernel_rfl) (fun _ _ _ h => h) (Or.inl ⟨by rfl, ?hy2u13⟩) hHeld ?rest2u13
  case hy2u13 =>
    intro w' hS'
    go_simp
    try with_reducible rfl
  simp only [List.setIfInBounds_toArray, List.set_cons_zero, List.set_cons_succ]
  refine take_op (i := 4) (d := 20) (v := ?_) rfl rfl (by kernel_rfl) (by kernel_rfl) (by kernel_rfl) (fun _ _ _ h => h) (Or.inl ⟨by rfl, ?hy4u14⟩) hHeld ?rest4u14
  case hy4u14 =>
    intro w' hS'
    go_simp
    try with_reducible rfl
  simp only [List.setIfInBounds_toArray, List.set_cons_zero, List.set_cons_succ]
  refine take_op (i := 5) (d := 21) (v := ?_) rfl rfl (by kernel_rfl) (by kernel_rfl) (by kernel_rfl) (fun _ _ _ h => h) (Or.inl ⟨by rfl, ?hy5u15⟩) hHeld ?rest5u15
  case hy5u15 =>
    intro w' hS'
    go_simp
    try with_reducible rfl
  simp only [List.setIfInBounds_toArray, List.set_cons_zero, List.set_cons_succ]
  refine take_op (i := 6) (d := 22) (v := ?_) rfl rfl (by kernel_rfl) (by kernel_rfl) (by kernel_rfl) (fun _ _ _ h => h) (Or.inl ⟨by rfl, ?hy6u16⟩) hHeld ?rest6u16
  case hy6u16 =>
    intro w' hS'
    go_simp
    try with_reducible rfl
  simp only [List.setIfInBounds_toArray, List.set_cons_zero, List.set_cons_succ]
  refine take_op (i := 7) (d := 23) (v := ?_) rfl rfl (by kernel_rfl) (by kernel_rfl) (by kernel_rfl) (fun _ _ _ h => h) (Or.inl ⟨by rfl, ?hy7u17⟩) hHeld ?rest7u17
  case hy7u17 =>
    intro w' hS'
    go_simp
    try with_reducible rfl
  simp only [List.setIfInBounds_toArray, List.set_cons_zero, List.set_cons_succ]
  refine take_op (i := 8) (d := 24) (v := ?_) rfl rfl (by kernel_rfl) (by kernel_rfl) (by kernel_rfl) (fun _ _ _ h => h) (Or.inl ⟨by rfl, ?hy8u18⟩) hHeld ?rest8u18
  case hy8u18 =>
    intro w' hS'
    go_simp
    try with_reducible rfl
  simp only [List.setIfInBounds_toArray, List.set_cons_zero, List.set_cons_succ]
  refine take_op (i := 9) (d := 25) (v := ?_) rfl rfl (by kernel_rfl) (by kernel_rfl) (by kernel_rfl) (fun _ _ _ h => h) (Or.inl ⟨by rfl, ?hy9u19⟩) hHeld ?rest9u19
  case hy9u19 =>
    intro w' hS'
    go_simp
    try with_reducible rfl
  simp only [List.setIfInBounds_toArray, List.set_cons_zero, List.set_cons_succ]
  refine take_op (i := 10) (d := 26) (v := ?_) rfl rfl (by kernel_rfl) (by kernel_rfl) (by kernel_rfl) (fun _ _ _ h => h) (Or.inl ⟨by rfl, ?hy10u20⟩) hHeld ?rest10u20
  case hy10u20 =>
    intro w' hS'
    obtain ⟨_, s1, _⟩ := hS'
    have qk := cell_sun_h s1 Hh.out k hk
    rw [Hx.out] at qk
    clear s1
    go_simp
    try with_reducible rfl
  simp only [List.setIfInBounds_toArray, List.set_cons_zero, List.set_cons_succ]
  refine take_op (i := 11) (d := 27) (v := ?_) rfl rfl (by kernel_rfl) (by kernel_rfl) (by kernel_rfl) (fun _ _ _ h => h) (Or.inl ⟨by rfl, ?hy11u21⟩) hHeld ?rest11u21
  case hy11u21 =>
    intro w' hS'
    go_simp
    try with_reducible rfl
  simp only [List.setIfInBounds_toArray, List.set_cons_zero, List.set_cons_succ]
  refine wpAnyH_ready (rs := [3]) (by kernel_rfl) (by simp) ?_
  refine AllReadyH.cons rfl (fun K hK => ?_) AllReadyH.nil
  go_simp
  refine (HF.out _ hHeld.2.1).mono ?_
  rintro e W1 ⟨rfl, hb1⟩
  refine hK.out _ _ (⟨below_row hb1 hHeld.1, below_row hb1 hHeld.2.1, hHeld.2.2.trans (hb1.mono hHeld.2.2.size)⟩) (fun hHeld2 => ?_)
  clear hK K
  replace hHeld := hHeld2
  clear hHeld2
  refine wpAnyH_ready (rs := [12]) (by kernel_rfl) (by simp) ?_
  refine AllReadyH.cons rfl (fun K hK => ?_) AllReadyH.nil
  go_simp
  refine (HP.out _ hHeld.1).mono ?_
  rintro e W3 ⟨rfl, hb3⟩
  refine hK.out _ _ (⟨below_row hb3 hHeld.1, below_row hb3 hHeld.2.1, hHeld.2.2.trans (hb3.mono hHeld.2.2.size)⟩) (fun hHeld2 => ?_)
  clear hK K
  replace hHeld := hHeld2
  clear hHeld2
  refine take_op (i := 13) (d := 29) (v := ?_) rfl rfl (by kernel_rfl) (by kernel_rfl) (by kernel_rfl) (fun _ _ _ h => h) (Or.inl ⟨by rfl, ?hy13u22⟩) hHeld ?rest13u22
  case hy13u22 =>
    intro w' hS'
    go_simp
    try with_reducible rfl
  simp only [List.setIfInBounds_toArray, List.set_cons_zero, List.set_cons_succ]
  refine take_op (i := 14) (d := 8) (v := ?_) rfl rfl (by kernel_rfl) (by kernel_rfl) (by kernel_rfl) (fun _ _ _ h => h) (Or.inl ⟨by rfl, ?hy14u23⟩) hHeld ?rest14u23
  case hy14u23 =>
    intro w' hS'
    go_simp
    try with_reducible rfl
  simp only [List.setIfInBounds_toArray, List.set_cons_zero, List.set_cons_succ]
  refine wpAnyH_done (by kernel_rfl) ?_ _
  have hbx := hHeld.2.2
  clear hHeld d0 d1
  go_wp2
  go_ret
  exact ⟨rfl, hbx⟩

set_option maxRecDepth 100000 in
set_option maxHeartbeats 1000000 in
theorem l02Window_no (n : Int) (wd gp : Nat) (t : Int) (sh : Nat) (hs ts : List Int) (hh : hs.length = 24) (ht : ts.length = 24) (hour facing : Int) (hr0 : 0 ≤ hour) (hr1 : hour < 24) (hx1 : atH hs hour ≤ 64) (hy0 : 0 ≤ atH ts hour) (hy1 : atH ts hour ≤ 255) (hpos : ¬ 0 < atH hs hour) (g1 g2 : Nat) (w : World) (c1 : w.heap[g1]? = some (.cells (blindC n wd gp t sh) 59 (0, 0))) (c2 : w.heap[g2]? = some (.cells (sunC hs ts) 126 (0, 0))) :
    Calls Tryd.prog 141 #[.pointer (some ⟨g1, 0, none⟩), .pointer (some ⟨g2, 0, none⟩), .int .i64 hour, .int .i64 facing] w fun e w' => e = .returned (.float .f32 (0)) ∧ Below w.heap.size w w' := by
  have Hh := Lib.hid hh
  have Ht := Lib.hid ht
  clear hh ht
  obtain ⟨k, rfl⟩ := Int.eq_ofNat_of_zero_le hr0
  have hk : k < 24 := by omega
  have ea : hs[k]?.getD 0 = atH hs (k : Int) := by unfold atH; rw [Int.toNat_natCast]
  have q0 := cell_sun_h c2 Hh.out k hk
  rw [ea] at q0
  have hd : decide (atH hs (k : Int) ≤ 0) = true := decide_eq_true (by omega)
  generalize atH hs (k : Int) = x at *
  have Hx := Lib.hid ea
  clear ea
  have C1 := Lib.hid c1
  have C2 := Lib.hid c2
  clear c1 c2
  go_enter Tryd.func141, Tryd.ntmps141
  go_wp2
  go_ret
  exact ⟨rfl, Below.refl _ _⟩

theorem l02Window_any (n : Int) (wd gp : Nat) (t : Int) (sh : Nat) (hs ts : List Int) (hh : hs.length = 24) (ht : ts.length = 24) (ok : BlOk n wd gp t sh) (hour facing : Int) (hr0 : 0 ≤ hour) (hr1 : hour < 24) (hf0 : 0 ≤ facing) (hf1 : facing ≤ 255) (hx1 : atH hs hour ≤ 64) (hy0 : 0 ≤ atH ts hour) (hy1 : atH ts hour ≤ 255) (g1 g2 : Nat) (w : World) (c1 : w.heap[g1]? = some (.cells (blindC n wd gp t sh) 59 (0, 0))) (c2 : w.heap[g2]? = some (.cells (sunC hs ts) 126 (0, 0))) :
    Calls Tryd.prog 141 #[.pointer (some ⟨g1, 0, none⟩), .pointer (some ⟨g2, 0, none⟩), .int .i64 hour, .int .i64 facing] w fun e w' => e = .returned (.float .f32 (winB wd gp t sh hs ts hour facing)) ∧ Below w.heap.size w w' := by
  unfold winB
  by_cases hpos : 0 < atH hs hour
  · rw [if_pos hpos]; exact l02Window_up n wd gp t sh hs ts hh ht ok hour facing hr0 hr1 hf0 hf1 hx1 hy0 hy1 hpos g1 g2 w c1 c2
  · rw [if_neg hpos]; exact l02Window_no n wd gp t sh hs ts hh ht hour facing hr0 hr1 hx1 hy0 hy1 hpos g1 g2 w c1 c2

end Go.Proofs.YtmniodfdoidffaaDoor
