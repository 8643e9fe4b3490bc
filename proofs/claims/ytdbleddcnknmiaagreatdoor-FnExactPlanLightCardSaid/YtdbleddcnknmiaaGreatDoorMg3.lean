/-
  Fall, FallOn, AwOk, ShF, BlkRun, Bfn, DyA, Bhd, Passer, WinN, Win, Tilted.
-/
import Derived.Test.YtdbleddcnknmiaaGreatDoorMg2
import Derived.Test.YtdbleddcnknmiaaGreatDoorMg1
import Derived.Test.YtdbleddcnknmiaaGreatDoorLaw

namespace Go.Proofs.YtdbleddcnknmiaaGreatDoor
open Go.ChangeShapes Go.WideShapes Go.ChangeAt Go.RowKit

/-- The light of an hour on a window. -/
def fallOf (hs ts : List Int) (hour facing : Int) : Nat := fallB (atH hs hour) (atH ts hour - facing)

theorem i64_small (n : Int) (h0 : -100000 ≤ n) (h1 : n ≤ 100000) : IntKind.i64.wrap n = n := by
  simp [IntKind.wrap, IntKind.signed, IntKind.bits]
  omega

theorem litB_gt {l : Nat} (h : FloatKind.f32.format.order l 0 = some .gt) : litB l = l := if_pos h

theorem litB_no {l : Nat} {o : Ordering} (h : FloatKind.f32.format.order l 0 = some o) (ho : o ≠ .gt) : litB l = 0 := by
  unfold litB
  rw [h, if_neg (fun e => ho (by injection e))]

set_option maxRecDepth 100000 in
set_option maxHeartbeats 1000000 in
theorem fallAt_up (hs ts : List Int) (hh : hs.length = 24) (ht : ts.length = 24) (hour facing : Int) (hr0 : 0 ≤ hour) (hr1 : hour < 24) (hf0 : 0 ≤ facing) (hf1 : facing ≤ 255) (hx1 : atH hs hour ≤ 64) (hy0 : 0 ≤ atH ts hour) (hy1 : atH ts hour ≤ 255) (hpos : 0 < atH hs hour) (l : Nat) (hl : fmul (cosB (atH hs hour)) (cosB (angB (atH ts hour - facing))) = l) (o : Ordering) (ho : FloatKind.f32.format.order l 0 = some o) (w : World) :
    Calls Tryz.prog 86 #[.agg (sunC hs ts), .int .i64 hour, .int .i64 facing] w fun e w' => e = .returned (.float .f32 (litB l)) ∧ Below w.heap.size w w' := by
  have Hh := Lib.hid hh
  have Ht := Lib.hid ht
  have Hup := Lib.hid (upAt_any hs ts hh hour hr0 hr1)
  have hm := (mul_ok (cosB_num (atH hs hour)) (cosB_num (angB (atH ts hour - facing)))).1
  rw [hl] at hm
  have r : ∀ t w, (binOp .mul t (.float .f32 (cosB (atH hs hour))) (.float .f32 (cosB (angB (atH ts hour - facing))))).run Tryz.prog w = .ok (.float .f32 l) w := fun t w => run_float_arith w .mul t .f32 _ _ _ hm
  have hal := angB_lo (atH ts hour - facing)
  have hah := angB_hi (atH ts hour - facing)
  clear hh ht hm hl
  obtain ⟨k, rfl⟩ := Int.eq_ofNat_of_zero_le hr0
  have hk : k < 24 := by omega
  have ea : hs[k]?.getD 0 = atH hs (k : Int) := by unfold atH; rw [Int.toNat_natCast]
  have eb : ts[k]?.getD 0 = atH ts (k : Int) := by unfold atH; rw [Int.toNat_natCast]
  generalize atH hs (k : Int) = x at *
  generalize atH ts (k : Int) = y at *
  have Hx := Lib.hid ea
  have Hy := Lib.hid eb
  have hd : decide (0 < x) = true := decide_eq_true hpos
  rw [hd] at Hup
  clear hd ea eb
  cases o
  · have HL := Lib.hid (litB_no ho (by decide))
    go_enter Tryz.func86, Tryz.ntmps86
    go_upto_region 1 with (fail)
    refine abs_code (fun W => Below w.heap.size w W ∧ W.heap[w.heap.size]? = some (.cells (sunC hs ts) 35 (0, 0))) ⟨(Below.refl _ _).alloc (Nat.le_refl _) _, heap_alloc_new _ _⟩ ?_
    rintro W ⟨hb, h0⟩
    have H0 := Lib.hid h0
    clear h0
    go_wp2_with (first | (refine wpList_load_part rfl 35 _ rfl w.heap.size 0 48 rfl 35 (sunC hs ts) (0, 0) _ H0.out Tryz.underlying35 rfl info_sun (sun_fits _ _ Hh.out Ht.out) (sunC hs ts) (sun_all _ _ Hh.out Ht.out) ?_) | (go_at_call 85; refine (Hup.out _).mono ?_; rintro e W1 ⟨rfl, hb1⟩; replace H0 := Lib.hid (below_row hb1 H0.out); replace hb := hb.trans (hb1.mono hb.size); clear hb1; have hc1 := cell_sun_h H0.out Hh.out k hk; rw [Hx.out] at hc1; have hc2 := cell_sun_t H0.out Hh.out Ht.out k hk; rw [Hy.out] at hc2) | (go_at_call 98; refine (angleOf_any _ _).mono ?_; rintro e w' ⟨rfl, rfl⟩) | (go_at_call 99; refine (cosine_any _ (by omega) (by omega) _).mono ?_; rintro e W1 ⟨rfl, hb1⟩; replace H0 := Lib.hid (below_row hb1 H0.out); replace hb := hb.trans (hb1.mono hb.size); clear hb1))
    go_ret
    exact ⟨ret_f32 HL.out.symm, hb⟩
  · have HL := Lib.hid (litB_no ho (by decide))
    go_enter Tryz.func86, Tryz.ntmps86
    go_upto_region 1 with (fail)
    refine abs_code (fun W => Below w.heap.size w W ∧ W.heap[w.heap.size]? = some (.cells (sunC hs ts) 35 (0, 0))) ⟨(Below.refl _ _).alloc (Nat.le_refl _) _, heap_alloc_new _ _⟩ ?_
    rintro W ⟨hb, h0⟩
    have H0 := Lib.hid h0
    clear h0
    go_wp2_with (first | (refine wpList_load_part rfl 35 _ rfl w.heap.size 0 48 rfl 35 (sunC hs ts) (0, 0) _ H0.out Tryz.underlying35 rfl info_sun (sun_fits _ _ Hh.out Ht.out) (sunC hs ts) (sun_all _ _ Hh.out Ht.out) ?_) | (go_at_call 85; refine (Hup.out _).mono ?_; rintro e W1 ⟨rfl, hb1⟩; replace H0 := Lib.hid (below_row hb1 H0.out); replace hb := hb.trans (hb1.mono hb.size); clear hb1; have hc1 := cell_sun_h H0.out Hh.out k hk; rw [Hx.out] at hc1; have hc2 := cell_sun_t H0.out Hh.out Ht.out k hk; rw [Hy.out] at hc2) | (go_at_call 98; refine (angleOf_any _ _).mono ?_; rintro e w' ⟨rfl, rfl⟩) | (go_at_call 99; refine (cosine_any _ (by omega) (by omega) _).mono ?_; rintro e W1 ⟨rfl, hb1⟩; replace H0 := Lib.hid (below_row hb1 H0.out); replace hb := hb.trans (hb1.mono hb.size); clear hb1))
    go_ret
    exact ⟨ret_f32 HL.out.symm, hb⟩
  · have HL := Lib.hid (litB_gt ho)
    go_enter Tryz.func86, Tryz.ntmps86
    go_upto_region 1 with (fail)
    refine abs_code (fun W => Below w.heap.size w W ∧ W.heap[w.heap.size]? = some (.cells (sunC hs ts) 35 (0, 0))) ⟨(Below.refl _ _).alloc (Nat.le_refl _) _, heap_alloc_new _ _⟩ ?_
    rintro W ⟨hb, h0⟩
    have H0 := Lib.hid h0
    clear h0
    go_wp2_with (first | (refine wpList_load_part rfl 35 _ rfl w.heap.size 0 48 rfl 35 (sunC hs ts) (0, 0) _ H0.out Tryz.underlying35 rfl info_sun (sun_fits _ _ Hh.out Ht.out) (sunC hs ts) (sun_all _ _ Hh.out Ht.out) ?_) | (go_at_call 85; refine (Hup.out _).mono ?_; rintro e W1 ⟨rfl, hb1⟩; replace H0 := Lib.hid (below_row hb1 H0.out); replace hb := hb.trans (hb1.mono hb.size); clear hb1; have hc1 := cell_sun_h H0.out Hh.out k hk; rw [Hx.out] at hc1; have hc2 := cell_sun_t H0.out Hh.out Ht.out k hk; rw [Hy.out] at hc2) | (go_at_call 98; refine (angleOf_any _ _).mono ?_; rintro e w' ⟨rfl, rfl⟩) | (go_at_call 99; refine (cosine_any _ (by omega) (by omega) _).mono ?_; rintro e W1 ⟨rfl, hb1⟩; replace H0 := Lib.hid (below_row hb1 H0.out); replace hb := hb.trans (hb1.mono hb.size); clear hb1))
    go_ret
    exact ⟨ret_f32 HL.out.symm, hb⟩

set_option maxRecDepth 100000 in
set_option maxHeartbeats 1000000 in
theorem fallAt_any (hs ts : List Int) (hh : hs.length = 24) (ht : ts.length = 24) (hour facing : Int) (hr0 : 0 ≤ hour) (hr1 : hour < 24) (hf0 : 0 ≤ facing) (hf1 : facing ≤ 255) (hx1 : atH hs hour ≤ 64) (hy0 : 0 ≤ atH ts hour) (hy1 : atH ts hour ≤ 255) (w : World) :
    Calls Tryz.prog 86 #[.agg (sunC hs ts), .int .i64 hour, .int .i64 facing] w fun e w' => e = .returned (.float .f32 (fallOf hs ts hour facing)) ∧ Below w.heap.size w w' := by
  by_cases hpos : 0 < atH hs hour
  · obtain ⟨o, ho⟩ := order_some (mul_ok (cosB_num (atH hs hour)) (cosB_num (angB (atH ts hour - facing)))).2 zero_fin
    have e : fallOf hs ts hour facing = litB (fmul (cosB (atH hs hour)) (cosB (angB (atH ts hour - facing)))) := by
      unfold fallOf fallB
      rw [if_pos hpos, cosB_ang]
    rw [e]
    exact fallAt_up hs ts hh ht hour facing hr0 hr1 hf0 hf1 hx1 hy0 hy1 hpos _ rfl o ho w
  · have HR : Hid (fallOf hs ts hour facing = 0) := if_neg hpos
    have Hh := Lib.hid hh
    have Ht := Lib.hid ht
    have Hup := Lib.hid (upAt_any hs ts hh hour hr0 hr1)
    have hd : decide (0 < atH hs hour) = false := decide_eq_false hpos
    rw [hd] at Hup
    clear hh ht hd hpos hx1 hy0 hy1
    go_enter Tryz.func86, Tryz.ntmps86
    go_upto_region 1 with (fail)
    refine abs_code (fun W => Below w.heap.size w W ∧ W.heap[w.heap.size]? = some (.cells (sunC hs ts) 35 (0, 0))) ⟨(Below.refl _ _).alloc (Nat.le_refl _) _, heap_alloc_new _ _⟩ ?_
    rintro W ⟨hb, h0⟩
    have H0 := Lib.hid h0
    clear h0
    go_wp2_with (first | (refine wpList_load_part rfl 35 _ rfl w.heap.size 0 48 rfl 35 (sunC hs ts) (0, 0) _ H0.out Tryz.underlying35 rfl info_sun (sun_fits _ _ Hh.out Ht.out) (sunC hs ts) (sun_all _ _ Hh.out Ht.out) ?_) | (go_at_call 85; refine (Hup.out _).mono ?_; rintro e W1 ⟨rfl, hb1⟩; replace H0 := Lib.hid (below_row hb1 H0.out); replace hb := hb.trans (hb1.mono hb.size); clear hb1))
    go_ret
    exact ⟨ret_f32 HR.out.symm, hb⟩

set_option maxRecDepth 100000 in
set_option maxHeartbeats 1000000 in
theorem l01Fall_up (b : Nat) (hs ts : List Int) (hh : hs.length = 24) (ht : ts.length = 24) (hour facing : Int) (hr0 : 0 ≤ hour) (hr1 : hour < 24) (hf0 : 0 ≤ facing) (hf1 : facing ≤ 255) (hx1 : atH hs hour ≤ 64) (hy0 : 0 ≤ atH ts hour) (hy1 : atH ts hour ≤ 255) (t : TypeId) (fr : Nat × Nat) (hpos : 0 < atH hs hour) (l : Nat) (hl : fmul (cosB (atH hs hour)) (cosB (atH ts hour - facing)) = l) (o : Ordering) (ho : FloatKind.f32.format.order l 0 = some o) (w : World) (hg : w.heap[b]? = some (.cells (sunC hs ts) t fr)) :
    Calls Tryz.prog 65 #[.pointer (some ⟨b, 0, none⟩), .int .i64 hour, .int .i64 facing] w fun e w' => e = .returned (.float .f32 (litB l)) ∧ Below w.heap.size w w' := by
  have hm := (mul_ok (cosB_num (atH hs hour)) (cosB_num (atH ts hour - facing))).1
  rw [hl] at hm
  have r : ∀ t w, (binOp .mul t (.float .f32 (cosB (atH hs hour))) (.float .f32 (cosB (atH ts hour - facing)))).run Tryz.prog w = .ok (.float .f32 l) w := fun t w => run_float_arith w .mul t .f32 _ _ _ hm
  clear hm hl
  obtain ⟨k, rfl⟩ := Int.eq_ofNat_of_zero_le hr0
  have hk : k < 24 := by omega
  have ea : hs[k]?.getD 0 = atH hs (k : Int) := by unfold atH; rw [Int.toNat_natCast]
  have eb : ts[k]?.getD 0 = atH ts (k : Int) := by unfold atH; rw [Int.toNat_natCast]
  generalize atH hs (k : Int) = x at *
  generalize atH ts (k : Int) = y at *
  have Hx := Lib.hid ea
  have Hy := Lib.hid eb
  have hc1 := cell_sun_h hg hh k hk
  have hc2 := cell_sun_t hg hh ht k hk
  rw [Hx.out] at hc1
  rw [Hy.out] at hc2
  clear hg hh ht ea eb
  have HO := Lib.hid ho
  clear ho
  have q1 := i64_small x (by omega) (by omega)
  have q2 := i64_small y (by omega) (by omega)
  have q3 := i64_small (y - facing) (by omega) (by omega)
  go_enter Tryz.func65, Tryz.ntmps65
  go_wp2
  refine wp_region_held_drew (S := (fun W => W.cell? ⟨b, k, none⟩ = some (.int .i16 x) ∧ W.cell? ⟨b, 24 + k, none⟩ = some (.int .i16 y) ∧ Below w.heap.size w W)) (by kernel_rfl) ⟨by simpa using hc1, by simpa using hc2, (Below.refl _ _).drew⟩ (fun hHeld => ?_)
  refine take_at (i := 0) (d := 15) (v := ?_) rfl rfl (by kernel_rfl) (by kernel_rfl) (by kernel_rfl) (fun _ _ _ h => h) (Or.inl ⟨by rfl, ?hy0u5⟩) hHeld ?rest0u5
  case hy0u5 =>
    intro w' hS'
    obtain ⟨s1, s2, _⟩ := hS'
    go_simp
    try with_reducible rfl
  simp only [List.setIfInBounds_toArray, List.set_cons_zero, List.set_cons_succ]
  refine take_at (i := 1) (d := 16) (v := ?_) rfl rfl (by kernel_rfl) (by kernel_rfl) (by kernel_rfl) (fun _ _ _ h => h) (Or.inl ⟨by rfl, ?hy1u6⟩) hHeld ?rest1u6
  case hy1u6 =>
    intro w' hS'
    obtain ⟨s1, s2, _⟩ := hS'
    go_simp
    try with_reducible rfl
  simp only [List.setIfInBounds_toArray, List.set_cons_zero, List.set_cons_succ]
  refine take_at (i := 2) (d := 17) (v := ?_) rfl rfl (by kernel_rfl) (by kernel_rfl) (by kernel_rfl) (fun _ _ _ h => h) (Or.inl ⟨by rfl, ?hy2u7⟩) hHeld ?rest2u7
  case hy2u7 =>
    intro w' hS'
    obtain ⟨s1, s2, _⟩ := hS'
    go_simp
    try with_reducible rfl
  simp only [List.setIfInBounds_toArray, List.set_cons_zero, List.set_cons_succ]
  refine take_at (i := 3) (d := 18) (v := ?_) rfl rfl (by kernel_rfl) (by kernel_rfl) (by kernel_rfl) (fun _ _ _ h => h) (Or.inl ⟨by rfl, ?hy3u8⟩) hHeld ?rest3u8
  case hy3u8 =>
    intro w' hS'
    obtain ⟨s1, s2, _⟩ := hS'
    go_simp
    try with_reducible rfl
  simp only [List.setIfInBounds_toArray, List.set_cons_zero, List.set_cons_succ]
  refine take_at (i := 4) (d := 19) (v := ?_) rfl rfl (by kernel_rfl) (by kernel_rfl) (by kernel_rfl) (fun _ _ _ h => h) (Or.inl ⟨by rfl, ?hy4u9⟩) hHeld ?rest4u9
  case hy4u9 =>
    intro w' hS'
    obtain ⟨s1, s2, _⟩ := hS'
    go_simp
    try with_reducible rfl
  simp only [List.setIfInBounds_toArray, List.set_cons_zero, List.set_cons_succ]
  refine take_at (i := 5) (d := 20) (v := ?_) rfl rfl (by kernel_rfl) (by kernel_rfl) (by kernel_rfl) (fun _ _ _ h => h) (Or.inl ⟨by rfl, ?hy5u10⟩) hHeld ?rest5u10
  case hy5u10 =>
    intro w' hS'
    obtain ⟨s1, s2, _⟩ := hS'
    go_simp
    try with_reducible rfl
  simp only [List.setIfInBounds_toArray, List.set_cons_zero, List.set_cons_succ]
  refine take_at (i := 6) (d := 21) (v := ?_) rfl rfl (by kernel_rfl) (by kernel_rfl) (by kernel_rfl) (fun _ _ _ h => h) (Or.inl ⟨by rfl, ?hy6u11⟩) hHeld ?rest6u11
  case hy6u11 =>
    intro w' hS'
    obtain ⟨s1, s2, _⟩ := hS'
    go_simp
    try with_reducible rfl
  simp only [List.setIfInBounds_toArray, List.set_cons_zero, List.set_cons_succ]
  refine take_at (i := 8) (d := 23) (v := ?_) rfl rfl (by kernel_rfl) (by kernel_rfl) (by kernel_rfl) (fun _ _ _ h => h) (Or.inl ⟨by rfl, ?hy8u12⟩) hHeld ?rest8u12
  case hy8u12 =>
    intro w' hS'
    obtain ⟨s1, s2, _⟩ := hS'
    go_simp
    try with_reducible rfl
  simp only [List.setIfInBounds_toArray, List.set_cons_zero, List.set_cons_succ]
  refine take_at (i := 9) (d := 24) (v := ?_) rfl rfl (by kernel_rfl) (by kernel_rfl) (by kernel_rfl) (fun _ _ _ h => h) (Or.inl ⟨by rfl, ?hy9u13⟩) hHeld ?rest9u13
  case hy9u13 =>
    intro w' hS'
    obtain ⟨s1, s2, _⟩ := hS'
    go_simp
    try with_reducible rfl
  simp only [List.setIfInBounds_toArray, List.set_cons_zero, List.set_cons_succ]
  refine take_at (i := 10) (d := 25) (v := ?_) rfl rfl (by kernel_rfl) (by kernel_rfl) (by kernel_rfl) (fun _ _ _ h => h) (Or.inl ⟨by rfl, ?hy10u14⟩) hHeld ?rest10u14
  case hy10u14 =>
    intro w' hS'
    obtain ⟨s1, s2, _⟩ := hS'
    go_simp
    try with_reducible rfl
  simp only [List.setIfInBounds_toArray, List.set_cons_zero, List.set_cons_succ]
  refine take_at (i := 11) (d := 26) (v := ?_) rfl rfl (by kernel_rfl) (by kernel_rfl) (by kernel_rfl) (fun _ _ _ h => h) (Or.inl ⟨by rfl, ?hy11u15⟩) hHeld ?rest11u15
  case hy11u15 =>
    intro w' hS'
    obtain ⟨s1, s2, _⟩ := hS'
    go_simp
    try with_reducible rfl
  simp only [List.setIfInBounds_toArray, List.set_cons_zero, List.set_cons_succ]
  refine take_at (i := 12) (d := 27) (v := ?_) rfl rfl (by kernel_rfl) (by kernel_rfl) (by kernel_rfl) (fun _ _ _ h => h) (Or.inl ⟨by rfl, ?hy12u16⟩) hHeld ?rest12u16
  case hy12u16 =>
    intro w' hS'
    obtain ⟨s1, s2, _⟩ := hS'
    go_simp
    try with_reducible rfl
  simp only [List.setIfInBounds_toArray, List.set_cons_zero, List.set_cons_succ]
  refine take_at (i := 13) (d := 28) (v := ?_) rfl rfl (by kernel_rfl) (by kernel_rfl) (by kernel_rfl) (fun _ _ _ h => h) (Or.inl ⟨by rfl, ?hy13u17⟩) hHeld ?rest13u17
  case hy13u17 =>
    intro w' hS'
    obtain ⟨s1, s2, _⟩ := hS'
    go_simp
    try with_reducible rfl
  simp only [List.setIfInBounds_toArray, List.set_cons_zero, List.set_cons_succ]
  refine take_at (i := 14) (d := 29) (v := ?_) rfl rfl (by kernel_rfl) (by kernel_rfl) (by kernel_rfl) (fun _ _ _ h => h) (Or.inl ⟨by rfl, ?hy14u18⟩) hHeld ?rest14u18
  case hy14u18 =>
    intro w' hS'
    obtain ⟨s1, s2, _⟩ := hS'
    go_simp
    try with_reducible rfl
  simp only [List.setIfInBounds_toArray, List.set_cons_zero, List.set_cons_succ]
  refine take_at (i := 15) (d := 30) (v := ?_) rfl rfl (by kernel_rfl) (by kernel_rfl) (by kernel_rfl) (fun _ _ _ h => h) (Or.inl ⟨by rfl, ?hy15u19⟩) hHeld ?rest15u19
  case hy15u19 =>
    intro w' hS'
    obtain ⟨s1, s2, _⟩ := hS'
    go_simp
    try with_reducible rfl
  simp only [List.setIfInBounds_toArray, List.set_cons_zero, List.set_cons_succ]
  refine take_at (i := 16) (d := 31) (v := ?_) rfl rfl (by kernel_rfl) (by kernel_rfl) (by kernel_rfl) (fun _ _ _ h => h) (Or.inl ⟨by rfl, ?hy16u20⟩) hHeld ?rest16u20
  case hy16u20 =>
    intro w' hS'
    obtain ⟨s1, s2, _⟩ := hS'
    go_simp
    try with_reducible rfl
  simp only [List.setIfInBounds_toArray, List.set_cons_zero, List.set_cons_succ]
  refine wpAnyH_ready (rs := [7]) (by kernel_rfl) (by simp) ?_
  refine AllReadyH.cons rfl (fun K hK => ?_) AllReadyH.nil
  go_simp
  refine (l01Cosine_any _ _).mono ?_
  rintro e w' ⟨rfl, rfl⟩
  refine hK.out _ _ (hHeld) (fun hHeld2 => ?_)
  clear hK K
  replace hHeld := hHeld2
  clear hHeld2
  refine wpAnyH_ready (rs := [17]) (by kernel_rfl) (by simp) ?_
  refine AllReadyH.cons rfl (fun K hK => ?_) AllReadyH.nil
  go_simp
  refine (l01Cosine_any _ _).mono ?_
  rintro e w' ⟨rfl, rfl⟩
  refine hK.out _ _ (hHeld) (fun hHeld2 => ?_)
  clear hK K
  replace hHeld := hHeld2
  clear hHeld2
  refine take_at (i := 18) (d := 33) (v := ?_) rfl rfl (by kernel_rfl) (by kernel_rfl) (by kernel_rfl) (fun _ _ _ h => h) (Or.inl ⟨by rfl, ?hy18u21⟩) hHeld ?rest18u21
  case hy18u21 =>
    intro w' hS'
    obtain ⟨s1, s2, _⟩ := hS'
    go_simp
    try with_reducible rfl
  simp only [List.setIfInBounds_toArray, List.set_cons_zero, List.set_cons_succ]
  refine take_at (i := 19) (d := 7) (v := ?_) rfl rfl (by kernel_rfl) (by kernel_rfl) (by kernel_rfl) (fun _ _ _ h => h) (Or.inl ⟨by rfl, ?hy19u22⟩) hHeld ?rest19u22
  case hy19u22 =>
    intro w' hS'
    obtain ⟨s1, s2, _⟩ := hS'
    go_simp
    try with_reducible rfl
  simp only [List.setIfInBounds_toArray, List.set_cons_zero, List.set_cons_succ]
  refine wpAnyH_done (by kernel_rfl) ?_ _
  clear q1 q2 q3
  have ho := HO.out
  cases o
  · have HL := Lib.hid (litB_no ho (by decide))
    go_wp2
    go_ret
    exact ⟨ret_f32 HL.out.symm, hHeld.2.2⟩
  · have HL := Lib.hid (litB_no ho (by decide))
    go_wp2
    go_ret
    exact ⟨ret_f32 HL.out.symm, hHeld.2.2⟩
  · have HL := Lib.hid (litB_gt ho)
    go_wp2
    go_ret
    exact ⟨ret_f32 HL.out.symm, hHeld.2.2⟩

set_option maxRecDepth 100000 in
set_option maxHeartbeats 1000000 in
theorem l01Fall_any (b : Nat) (hs ts : List Int) (hh : hs.length = 24) (ht : ts.length = 24) (hour facing : Int) (hr0 : 0 ≤ hour) (hr1 : hour < 24) (hf0 : 0 ≤ facing) (hf1 : facing ≤ 255) (hx1 : atH hs hour ≤ 64) (hy0 : 0 ≤ atH ts hour) (hy1 : atH ts hour ≤ 255) (t : TypeId) (fr : Nat × Nat) (w : World) (hg : w.heap[b]? = some (.cells (sunC hs ts) t fr)) :
    Calls Tryz.prog 65 #[.pointer (some ⟨b, 0, none⟩), .int .i64 hour, .int .i64 facing] w fun e w' => e = .returned (.float .f32 (fallOf hs ts hour facing)) ∧ Below w.heap.size w w' := by
  by_cases hpos : 0 < atH hs hour
  · obtain ⟨o, ho⟩ := order_some (mul_ok (cosB_num (atH hs hour)) (cosB_num (atH ts hour - facing))).2 zero_fin
    have e : fallOf hs ts hour facing = litB (fmul (cosB (atH hs hour)) (cosB (atH ts hour - facing))) := by
      unfold fallOf fallB
      rw [if_pos hpos]
    rw [e]
    exact l01Fall_up b hs ts hh ht hour facing hr0 hr1 hf0 hf1 hx1 hy0 hy1 t fr hpos _ rfl o ho w hg
  · have HR : Hid (fallOf hs ts hour facing = 0) := if_neg hpos
    obtain ⟨k, rfl⟩ := Int.eq_ofNat_of_zero_le hr0
    have hk : k < 24 := by omega
    have ea : hs[k]?.getD 0 = atH hs (k : Int) := by unfold atH; rw [Int.toNat_natCast]
    have eb : ts[k]?.getD 0 = atH ts (k : Int) := by unfold atH; rw [Int.toNat_natCast]
    generalize atH hs (k : Int) = x at *
    generalize atH ts (k : Int) = y at *
    have Hx := Lib.hid ea
    have Hy := Lib.hid eb
    have hc1 := cell_sun_h hg hh k hk
    rw [Hx.out] at hc1
    clear hg hh ht ea eb
    go_enter Tryz.func65, Tryz.ntmps65
    go_wp2
    go_ret
    exact ⟨ret_f32 HR.out.symm, Below.refl _ _⟩

end Go.Proofs.YtdbleddcnknmiaaGreatDoor

namespace Go.Proofs.YtdbleddcnknmiaaGreatDoor
open Go.ChangeShapes Go.WideShapes Go.ChangeAt Go.RowKit

theorem isFacing_is (n : Int) (b : Bool) (h : inF n = b) (w : World) : Calls Tryz.prog 29 #[.int .i64 n] w fun e w' => e = .returned (.bool b) ∧ w = w' := by
  subst h; exact isFacing_any n w

theorem l01Faced_is (n : Int) (b : Bool) (h : inF n = b) (w : World) : Calls Tryz.prog 25 #[.int .i64 n] w fun e w' => e = .returned (.bool b) ∧ w = w' := by
  subst h; exact l01Faced_any n w

theorem inF_bd {n : Int} (h : inF n = true) : 0 ≤ n ∧ n ≤ 255 := inB_true h

end Go.Proofs.YtdbleddcnknmiaaGreatDoor

namespace Go.Proofs.YtdbleddcnknmiaaGreatDoor
open Go.ChangeShapes Go.WideShapes Go.ChangeAt Go.RowKit Go.Deep Go.Joins

attribute [local go_sem] run_store_f

def okAw (o dr gp tl : Nat) : Bool := betw o 0 1090519040 && betw dr 0 1073741824 && betw gp 0 1073741824 && betw tl 1040187392 1082130432

/-- The bounds of an awning that is valid. -/
structure AwOk (o dr gp tl : Nat) : Prop where
  o : o ≤ 1090519040 ∨ o = 2147483648
  d : dr ≤ 1073741824 ∨ dr = 2147483648
  g : gp ≤ 1073741824 ∨ gp = 2147483648
  t0 : 1040187392 ≤ tl
  t1 : tl ≤ 1082130432
theorem awok_of {o dr gp tl : Nat} (aw : AwWf o dr gp tl) (h : okAw o dr gp tl = true) : AwOk o dr gp tl := by
  simp only [okAw, Bool.and_eq_true] at h
  obtain ⟨⟨⟨h1, h2⟩, h3⟩, h4⟩ := h
  obtain ⟨a1, a2⟩ := betw_above aw.2.2.2 (by decide) (by decide) (by decide) h4
  exact ⟨betw_zero aw.1 (by decide) h1, betw_zero aw.2.1 (by decide) h2, betw_zero aw.2.2.1 (by decide) h3, a1, a2⟩

theorem ret_boolA {a b : Bool} (h : a = b) : Ending.returned (.bool a) = .returned (.bool b) := by rw [h]
/-- A comparison that has no answer yet, as a truth value. -/
theorem bin_geq (t : TypeId) (x y : Nat) (w : World) : (binOp .geq t (.float .f32 x) (.float .f32 y)).run Tryz.prog w = .ok (.bool (ge0 (FloatKind.f32.format.order x y))) w := by
  rcases h0 : FloatKind.f32.format.order x y with _ | (_ | _ | _) <;> simp [binOp, go_sem, Op.floatCmp, h0, ge0]
theorem bin_leq (t : TypeId) (x y : Nat) (w : World) : (binOp .leq t (.float .f32 x) (.float .f32 y)).run Tryz.prog w = .ok (.bool (le0 (FloatKind.f32.format.order x y))) w := by
  rcases h0 : FloatKind.f32.format.order x y with _ | (_ | _ | _) <;> simp [binOp, go_sem, Op.floatCmp, h0, le0]

end Go.Proofs.YtdbleddcnknmiaaGreatDoor

namespace Go.Proofs.YtdbleddcnknmiaaGreatDoor
open Go.ChangeShapes Go.WideShapes Go.ChangeAt Go.RowKit Go.Deep Go.Joins

/-- An hour and a facing that are in their ranges, and what a valid sun tells of the hour. -/
structure HrOk (hs ts : List Int) (hour fc : Int) : Prop where
  h0 : 0 ≤ hour
  h1 : hour < 24
  f0 : 0 ≤ fc
  f1 : fc ≤ 255
  x0 : -64 ≤ atH hs hour
  x1 : atH hs hour ≤ 64
  y0 : 0 ≤ atH ts hour
  y1 : atH ts hour ≤ 255

theorem hrok_of {hs ts : List Int} (hh : hs.length = 24) (ht : ts.length = 24) (ho : okB hs ts = true) {hour fc : Int} (h0 : 0 ≤ hour) (h1 : hour < 24) (hf : inF fc = true) : HrOk hs ts hour fc :=
  ⟨h0, h1, (inF_bd hf).1, (inF_bd hf).2, (okB_h hh ht ho hour h0 h1).1, (okB_h hh ht ho hour h0 h1).2, (okB_t hh ht ho hour h0 h1).1, (okB_t hh ht ho hour h0 h1).2⟩

set_option maxRecDepth 100000 in
set_option maxHeartbeats 1000000 in
theorem fall_any (hs ts : List Int) (hh : hs.length = 24) (ht : ts.length = 24) (fc hour : Int) (k : HrOk hs ts hour fc) (w : World) :
    Calls Tryz.prog 74 #[.agg (fsC hs ts fc), .int .i64 hour] w fun e w' => e = .returned (.float .f32 (fallOf hs ts hour fc)) ∧ Below w.heap.size w w' := by
  have HF := Lib.hid (fun w => fallAt_any hs ts hh ht hour fc k.h0 k.h1 k.f0 k.f1 k.x1 k.y0 k.y1 w)
  have Hh := Lib.hid hh
  have Ht := Lib.hid ht
  clear hh ht
  clear k
  go_enter Tryz.func74, Tryz.ntmps74
  go_upto_region 1 with (fail)
  refine abs_world (fun W => W.heap[w.heap.size]? = some (.cells (fsC hs ts fc) 65 (0, 0)) ∧ Below w.heap.size w W) (⟨heap_alloc_new _ _, (Below.refl _ _).alloc (Nat.le_refl _) _⟩) ?_
  rintro W ⟨h0, hb⟩
  have H0 := Lib.hid h0
  have c48 := fs_cell Hh.out Ht.out h0
  clear h0
  go_wp2_with (first | (refine wpList_load_partG 35 _ rfl w.heap.size 0 48 rfl rfl 65 (fsC hs ts fc) (0, 0) _ H0.out Tryz.underlying35 rfl info_sun (fs_fits48 _ _ _ Hh.out Ht.out) _ (fs_sun _ _ _ Hh.out Ht.out) ?_) | (refine wpList_load_partG 65 _ rfl w.heap.size 0 49 rfl rfl 65 (fsC hs ts fc) (0, 0) _ H0.out Tryz.underlying65 rfl info_fs (fs_fits _ _ _ Hh.out Ht.out) _ (fs_all _ _ _ Hh.out Ht.out) ?_) | (go_at_call 86; refine (HF.out _).mono ?_; rintro e W1 ⟨rfl, hb1⟩; replace H0 := Lib.hid (below_row hb1 H0.out); replace hb := hb.trans (hb1.mono hb.size); clear hb1))
  go_ret
  exact ⟨rfl, hb⟩

theorem fall_gt {f : Nat} (f0 : 975015322 ≤ f) (f1 : f ≤ 1065353216) : FloatKind.f32.format.order f 0 = some .gt := by
  rw [order_pos (by omega) (by decide), Nat.compare_eq_gt.2 (by omega)]

theorem fall_eq : FloatKind.f32.format.order 0 0 = some .eq := by decide +kernel

theorem eq_one {q : Nat} (hq : q < 4294967296) (h : FloatKind.f32.format.order q 1065353216 = some .eq) : q = 1065353216 := by
  rcases word_cases q hq with c | c | c | c
  · rw [order_num c (.inl (by decide))] at h
    injection h with h
    have k := Int.compare_eq_eq.1 h
    rw [sv_pos (x := 1065353216) (by decide)] at k
    have p := rv_pos (r := 1065353216) (by decide)
    rcases c with c | ⟨c0, c1⟩
    · rw [sv_pos (x := q) (by omega)] at k
      exact rv_inj (by omega)
    · obtain ⟨r, rfl⟩ : ∃ r, q = 2147483648 + r := ⟨q - 2147483648, by omega⟩
      have := sv_neg_le r
      omega
  · subst c
    rw [(inf_order 1065353216 (.inl (by decide))).1] at h; cases h
  · subst c
    rw [(inf_order 1065353216 (.inl (by decide))).2] at h; cases h
  · rw [nan_order c] at h; cases h

theorem run_minq (q : Nat) (hq : q < 4294967296) (hf : fin32 q = true) (h0 : FloatKind.f32.format.order q 0 = some .gt) (ts : Array TypeId) (T : TypeId) (w : World) : (Builtin.min_ ts T #[.float .f32 q, .float .f32 1065353216]).run Tryz.prog w = .ok (.float .f32 (cutB q)) w := by
  obtain ⟨o, ho⟩ := order_some hf (num_fin (num_of_isNum (x := 1065353216) (.inl (by decide))))
  unfold cutB
  rw [if_pos h0]
  simp only [Builtin.min_, List.foldlM_cons, List.foldlM_nil, Builtin.min2, ho]
  cases o
  · rfl
  · have e := eq_one hq ho
    subst e; rfl
  · rfl

theorem cut_le0 {q : Nat} (h0 : FloatKind.f32.format.order q 0 = some .lt ∨ FloatKind.f32.format.order q 0 = some .eq) : cutB q = 0 := by
  unfold cutB
  rcases h0 with h0 | h0 <;> rw [h0] <;> rfl

theorem shB_zero (o dr gp tl : Nat) (x : Int) : shB o dr gp tl x 0 = 0 := rfl

theorem shB_pos {o dr gp tl : Nat} {x : Int} {f : Nat} (h : 975015322 ≤ f) : shB o dr gp tl x f = cutB (quoA o dr gp tl x f) := if_neg (by omega)

theorem run_qf (op : BinOp) (x y r : Nat) (h : floatBits op .f32 x y = some r) : ∀ t w, (binOp op t (.float .f32 x) (.float .f32 y)).run Tryz.prog w = .ok (.float .f32 r) w := fun t w => run_float_arith w op t .f32 x y r h



theorem fall_le {hs ts : List Int} {hour fc : Int} (k : HrOk hs ts hour fc) : fallOf hs ts hour fc ≤ 1065353216 := by
  by_cases x0 : 0 < atH hs hour
  · rcases fall_rng (atH hs hour) (atH ts hour - fc) x0 k.x1 with h | ⟨_, f1⟩
    · rw [show fallOf hs ts hour fc = 0 from h]; decide
    · exact f1
  · rw [show fallOf hs ts hour fc = 0 from if_neg x0]; decide

theorem shB_le {o dr gp tl : Nat} (aw : AwOk o dr gp tl) {hs ts : List Int} {hour fc : Int} (k : HrOk hs ts hour fc) : shB o dr gp tl (atH hs hour) (fallOf hs ts hour fc) ≤ 1065353216 := by
  by_cases x0 : 0 < atH hs hour
  · rcases fall_rng (atH hs hour) (atH ts hour - fc) x0 k.x1 with h | ⟨f0, f1⟩
    · rw [show fallOf hs ts hour fc = 0 from h, shB_zero]; decide
    · rw [shB_pos (f := fallOf hs ts hour fc) f0]
      obtain ⟨_, _, _, _, r5, _⟩ := shade_facts aw.o aw.d aw.g aw.t0 aw.t1 x0 k.x1 f0 f1
      exact cutB_le (quoA_lt r5)
  · rw [show fallOf hs ts hour fc = 0 from if_neg x0, shB_zero]; decide

/-- The light behind an awning at an hour. -/
def behOf (o dr gp tl : Nat) (hs ts : List Int) (hour fc : Int) : Nat := behB (fallOf hs ts hour fc) (shB o dr gp tl (atH hs hour) (fallOf hs ts hour fc))

theorem beh_le {o dr gp tl : Nat} (aw : AwOk o dr gp tl) {hs ts : List Int} {hour fc : Int} (k : HrOk hs ts hour fc) : behOf o dr gp tl hs ts hour fc ≤ 1065353216 := Nat.le_trans (beh_facts (fall_le k) (shB_le aw k)).2.2 (fall_le k)

end Go.Proofs.YtdbleddcnknmiaaGreatDoor

namespace Go.Proofs.YtdbleddcnknmiaaGreatDoor
open Go.ChangeShapes Go.WideShapes Go.ChangeAt Go.RowKit Go.Deep Go.Joins

attribute [local go_sem] run_store_f

set_option maxHeartbeats 1000000 in
theorem sizeOf_any (x : Nat) (h : isNum x) (w : World) :
    Calls Tryz.prog 101 #[.float .f32 x] w fun e w' => e = .returned (.float .f32 (sizeB x)) ∧ w = w' := by
  rcases size_cases h with ⟨r, h0, h1, rfl, ho⟩ | ⟨hx, ho | ho⟩
  · rw [sizeB_neg h0]
    have r1 : ∀ t w, (binOp .sub t (.float .f32 0) (.float .f32 (2147483648 + r))).run Tryz.prog w = .ok (.float .f32 r) w := fun t w => run_float_arith w .sub t .f32 _ _ _ (sub_neg h1)
    go_enter Tryz.func101, Tryz.ntmps101
    go_wp2
    go_ret
    exact ⟨rfl, rfl⟩
  · rw [sizeB_pos hx]
    go_enter Tryz.func101, Tryz.ntmps101
    go_wp2
    go_ret
    exact ⟨rfl, rfl⟩
  · rw [sizeB_pos hx]
    go_enter Tryz.func101, Tryz.ntmps101
    go_wp2
    go_ret
    exact ⟨rfl, rfl⟩

set_option maxHeartbeats 1000000 in
theorem l01Size_any (x : Nat) (h : isNum x) (w : World) :
    Calls Tryz.prog 96 #[.float .f32 x] w fun e w' => e = .returned (.float .f32 (sizeB x)) ∧ w = w' := by
  rcases size_cases h with ⟨r, h0, h1, rfl, ho⟩ | ⟨hx, ho | ho⟩
  · rw [sizeB_neg h0]
    have ru : ∀ w, (Op.unary .neg (.float .f32 (2147483648 + r))).run Tryz.prog w = .ok (.float .f32 r) w := fun w => by simp [Op.unary, neg_neg (r := r) (by omega)]
    go_enter Tryz.func96, Tryz.ntmps96
    go_wp2
    go_ret
    exact ⟨rfl, rfl⟩
  · rw [sizeB_pos hx]
    go_enter Tryz.func96, Tryz.ntmps96
    go_wp2
    go_ret
    exact ⟨rfl, rfl⟩
  · rw [sizeB_pos hx]
    go_enter Tryz.func96, Tryz.ntmps96
    go_wp2
    go_ret
    exact ⟨rfl, rfl⟩

/-- The lengths of a blind, as words. -/
theorem len_get {a : Nat} (hw : (Lit.float .f32 a).wf = true) (h : lenB a = true) : 1031798784 ≤ a ∧ a ≤ 1115684864 := betw_above hw (by decide) (by decide) (by decide) h

theorem part_get {a : Nat} (hw : (Lit.float .f32 a).wf = true) (h : partB a = true) : a ≤ 1065353216 ∨ a = 2147483648 := betw_zero hw (by decide) h

theorem cos_gt (h : Int) (h0 : 1 ≤ h) (h1 : h < 64) : FloatKind.f32.format.order (cosB h) 0 = some .gt := by
  obtain ⟨c0, c1⟩ := cos_high h h0 h1
  rw [order_pos (by omega) (by decide), Nat.compare_eq_gt.2 (by omega)]

theorem cos_eq : FloatKind.f32.format.order (cosB 64) 0 = some .eq := by rw [cos_top]; decide +kernel

theorem run_min1 (ts : Array TypeId) (T : TypeId) (q : Nat) (h : q < 2139095040) (w : World) : (Builtin.min_ ts T #[.float .f32 q, .float .f32 1065353216]).run Tryz.prog w = .ok (.float .f32 (min1 q)) w := by
  have ho := order_pos h (y := 1065353216) (by decide)
  simp only [Builtin.min_, List.foldlM_cons, List.foldlM_nil, Builtin.min2, ho]
  rcases Nat.lt_trichotomy q 1065353216 with c | c | c
  · have e : min1 q = q := if_neg (by omega)
    rw [Nat.compare_eq_lt.2 c, e]; rfl
  · subst c; rfl
  · have e : min1 q = 1065353216 := if_pos c
    rw [Nat.compare_eq_gt.2 c, e]; rfl

set_option maxRecDepth 100000 in
set_option maxHeartbeats 1000000 in
theorem blockedAt_any (n : Int) (wd gp : Nat) (t : Int) (sh : Nat) (w0 : 1031798784 ≤ wd) (w1 : wd ≤ 1115684864) (g0 : 1031798784 ≤ gp) (g1 : gp ≤ 1115684864) (t0 : -64 ≤ t) (t1 : t ≤ 64) (h : Int) (h0 : 1 ≤ h) (h1 : h ≤ 64) (w : World) :
    Calls Tryz.prog 89 #[.agg (blindC n wd gp t sh), .int .i64 h] w fun e w' => e = .returned (.float .f32 (blkB wd gp t h)) ∧ Below w.heap.size w w' := by
  by_cases hh : h < 64
  · obtain ⟨f1, f2, f3, f4, _, _⟩ := blk_facts (t := t) w0 w1 g0 g1 h0 hh
    have hc := cos_gt h h0 hh
    have HN := Lib.hid (sine_isNum (h + t))
    have hB : blkB wd gp t h = min1 (quoB wd gp t h) := if_neg (by omega)
    rw [hB]
    clear hB
    have r1 : ∀ T w, (binOp .mul T (.float .f32 wd) (.float .f32 (sizeB (sineB (angB (h + t)))))).run Tryz.prog w = .ok (.float .f32 (fmul wd (sizeB (sineB (angB (h + t)))))) w := fun T w => run_float_arith w .mul T .f32 _ _ _ f1
    have r2 : ∀ T w, (binOp .mul T (.float .f32 gp) (.float .f32 (cosB h))).run Tryz.prog w = .ok (.float .f32 (fmul gp (cosB h))) w := fun T w => run_float_arith w .mul T .f32 _ _ _ f2
    have r3 : ∀ T w, (binOp .quo T (.float .f32 (fmul wd (sizeB (sineB (angB (h + t)))))) (.float .f32 (fmul gp (cosB h)))).run Tryz.prog w = .ok (.float .f32 (quoB wd gp t h)) w := fun T w => run_float_arith w .quo T .f32 _ _ _ f3
    have r4 : ∀ ts T w, (Builtin.min_ ts T #[.float .f32 (quoB wd gp t h), .float .f32 1065353216]).run Tryz.prog w = .ok (.float .f32 (min1 (quoB wd gp t h))) w := fun ts T w => run_min1 ts T _ f4 w
    clear f1 f2 f3 f4
    generalize fmul wd (sizeB (sineB (angB (h + t)))) = x1 at *
    generalize fmul gp (cosB h) = x2 at *
    go_enter Tryz.func89, Tryz.ntmps89
    go_upto_region 1 with (fail)
    refine abs_world (fun W => Below w.heap.size w W ∧ W.heap[w.heap.size]? = some (.cells (blindC n wd gp t sh) 33 (0, 0))) ⟨(Below.refl _ _).alloc (Nat.le_refl _) _, heap_alloc_new _ _⟩ ?_
    rintro W ⟨hb, hc0⟩
    have H0 := Lib.hid hc0
    obtain ⟨k0, k1, k2, k3, k4⟩ := blind_cells hc0
    clear hc0
    go_wp2_with (first | (go_at_call 100; refine (CosineOf_any _ _).mono ?_; rintro e W1 ⟨rfl, hb1⟩; replace H0 := Lib.hid (below_row hb1 H0.out); replace hb := hb.trans (hb1.mono hb.size); clear hb1; clear k0 k1 k2 k3 k4; obtain ⟨k0, k1, k2, k3, k4⟩ := blind_cells H0.out) | (go_at_call 102; refine (SineOf_any _ _).mono ?_; rintro e W1 ⟨rfl, hb1⟩; replace H0 := Lib.hid (below_row hb1 H0.out); replace hb := hb.trans (hb1.mono hb.size); clear hb1; clear k0 k1 k2 k3 k4; obtain ⟨k0, k1, k2, k3, k4⟩ := blind_cells H0.out) | (go_at_call 101; refine (sizeOf_any _ HN.out _).mono ?_; rintro e w' ⟨rfl, rfl⟩))
    go_ret
    exact ⟨rfl, hb⟩
  · obtain rfl : h = 64 := by omega
    have hc := cos_eq
    have hB : blkB wd gp t 64 = 1065353216 := rfl
    rw [hB]
    clear hB
    go_enter Tryz.func89, Tryz.ntmps89
    go_wp2_with (go_at_call 100; refine (CosineOf_any _ _).mono ?_; rintro e W1 ⟨rfl, hb1⟩)
    go_ret
    exact ⟨rfl, (Below.alloc (Below.refl _ _) (Nat.le_refl _) _).trans (hb1.mono (by simp))⟩

end Go.Proofs.YtdbleddcnknmiaaGreatDoor

namespace Go.Proofs.YtdbleddcnknmiaaGreatDoor
open Go.ChangeShapes Go.WideShapes Go.ChangeAt Go.RowKit Go.Deep Go.Joins

attribute [local go_sem] run_store_f

def codeC (ok fine : Bool) : Int := if !ok then 1 else if !fine then 2 else 0

theorem codeC_ne {ok fine : Bool} (h : ¬ (ok = true ∧ fine = true)) : codeC ok fine ≠ 0 := by
  cases ok <;> cases fine <;> simp_all [codeC]

theorem codeC_ok : codeC true true = 0 := rfl

/-- The bounds of a blind that is valid. -/
def BlOk (n : Int) (wd gp : Nat) (t : Int) (sh : Nat) : Prop := 1 ≤ n ∧ n ≤ 60 ∧ 1031798784 ≤ wd ∧ wd ≤ 1115684864 ∧ 1031798784 ≤ gp ∧ gp ≤ 1115684864 ∧ -64 ≤ t ∧ t ≤ 64 ∧ (sh ≤ 1065353216 ∨ sh = 2147483648)

theorem blok_of {n : Int} {wd gp : Nat} {t : Int} {sh : Nat} (bw : BlWf n wd gp t sh) (h : okBl n wd gp t sh = true) : BlOk n wd gp t sh := by
  simp only [okBl, Bool.and_eq_true] at h
  obtain ⟨⟨⟨⟨h1, h2⟩, h3⟩, h4⟩, h5⟩ := h
  obtain ⟨a1, a2⟩ := inI_get h1
  obtain ⟨b1, b2⟩ := len_get bw.2.1 h2
  obtain ⟨c1, c2⟩ := len_get bw.2.2.1 h3
  obtain ⟨d1, d2⟩ := inI_get h4
  exact ⟨a1, a2, b1, b2, c1, c2, d1, d2, part_get bw.2.2.2.2 h5⟩

set_option maxRecDepth 100000 in
set_option maxHeartbeats 1000000 in
theorem openAt_any (n : Int) (wd gp : Nat) (t : Int) (sh : Nat) (ok : BlOk n wd gp t sh) (h : Int) (h0 : 1 ≤ h) (h1 : h ≤ 64) (w : World) :
    Calls Tryz.prog 87 #[.agg (blindC n wd gp t sh), .int .i64 h] w fun e w' => e = .returned (.float .f32 (opnB wd gp t h)) ∧ Below w.heap.size w w' := by
  obtain ⟨_, _, w0, w1, g0, g1, t0, t1, _⟩ := ok
  have HB := Lib.hid (fun w => blockedAt_any n wd gp t sh w0 w1 g0 g1 t0 t1 h h0 h1 w)
  have f1 := (opn_facts wd gp t h).1
  have r1 : ∀ T w, (binOp .sub T (.float .f32 1065353216) (.float .f32 (blkB wd gp t h))).run Tryz.prog w = .ok (.float .f32 (opnB wd gp t h)) w := fun T w => run_float_arith w .sub T .f32 _ _ _ f1
  clear f1 w0 w1 g0 g1 t0 t1 h0 h1
  go_enter Tryz.func87, Tryz.ntmps87
  go_upto_region 1 with (fail)
  refine abs_world (fun W => Below w.heap.size w W ∧ W.heap[w.heap.size]? = some (.cells (blindC n wd gp t sh) 33 (0, 0))) ⟨(Below.refl _ _).alloc (Nat.le_refl _) _, heap_alloc_new _ _⟩ ?_
  rintro W ⟨hb, h0⟩
  have H0 := Lib.hid h0
  clear h0
  go_wp2_with (first | (refine wpList_load_part rfl 33 _ rfl w.heap.size 0 5 rfl 33 (blindC n wd gp t sh) (0, 0) _ H0.out Tryz.underlying33 rfl info_blind (blind_fits _ _ _ _ _) _ (blind_all _ _ _ _ _) ?_) | (go_at_call 89; refine (HB.out _).mono ?_; rintro e W1 ⟨rfl, hb1⟩; replace H0 := Lib.hid (below_row hb1 H0.out); replace hb := hb.trans (hb1.mono hb.size); clear hb1))
  go_ret
  exact ⟨rfl, hb⟩

/-! ### The model's -/
set_option maxRecDepth 100000 in
set_option maxHeartbeats 1000000 in
theorem l02Blocked_any (n : Int) (wd gp : Nat) (t : Int) (sh : Nat) (ok : BlOk n wd gp t sh) (h : Int) (h0 : 1 ≤ h) (h1 : h ≤ 64) (g : Nat) (T : TypeId) (fr : Nat × Nat) (w : World) (hg : w.heap[g]? = some (.cells (blindC n wd gp t sh) T fr)) :
    Calls Tryz.prog 83 #[.pointer (some ⟨g, 0, none⟩), .int .i64 h] w fun e w' => e = .returned (.float .f32 (blkB wd gp t h)) ∧ Below w.heap.size w w' := by
  obtain ⟨_, _, w0, w1, g0, g1, t0, t1, _⟩ := ok
  obtain ⟨k0, k1, k2, k3, k4⟩ := blind_cells hg
  have HG := Lib.hid hg
  clear hg
  have HN := Lib.hid (sine_isNum (h + t))
  by_cases hh : h < 64
  · obtain ⟨f1, f2, f3, f4, _, _⟩ := blk_facts (t := t) w0 w1 g0 g1 h0 hh
    have hc := cos_gt h h0 hh
    have hB : blkB wd gp t h = min1 (quoB wd gp t h) := if_neg (by omega)
    rw [hB]
    clear hB w0 w1 g0 g1
    have ho := order_pos f4 (y := 1065353216) (by decide)
    have r1 : ∀ T w, (binOp .mul T (.float .f32 wd) (.float .f32 (sizeB (sineB (angB (h + t)))))).run Tryz.prog w = .ok (.float .f32 (fmul wd (sizeB (sineB (angB (h + t)))))) w := fun T w => run_float_arith w .mul T .f32 _ _ _ f1
    have r2 : ∀ T w, (binOp .mul T (.float .f32 gp) (.float .f32 (cosB h))).run Tryz.prog w = .ok (.float .f32 (fmul gp (cosB h))) w := fun T w => run_float_arith w .mul T .f32 _ _ _ f2
    have r3 : ∀ T w, (binOp .quo T (.float .f32 (fmul wd (sizeB (sineB (angB (h + t)))))) (.float .f32 (fmul gp (cosB h)))).run Tryz.prog w = .ok (.float .f32 (quoB wd gp t h)) w := fun T w => run_float_arith w .quo T .f32 _ _ _ f3
    clear f1 f2 f3 f4
    generalize fmul wd (sizeB (sineB (angB (h + t)))) = x1 at *
    generalize fmul gp (cosB h) = x2 at *
    generalize quoB wd gp t h = q at *
    by_cases c : 1065353216 < q
    · rw [Nat.compare_eq_gt.2 c] at ho
      have e : min1 q = 1065353216 := if_pos c
      rw [e]
      clear e c
      go_enter Tryz.func83, Tryz.ntmps83
      go_wp2_with (first | (go_at_call 81; refine (l01Cosine_any _ _).mono ?_; rintro e w' ⟨rfl, rfl⟩) | (go_at_call 94; refine (l01Sine_any _ _).mono ?_; rintro e w' ⟨rfl, rfl⟩) | (go_at_call 96; refine (l01Size_any _ HN.out _).mono ?_; rintro e w' ⟨rfl, rfl⟩))
      refine wp_region_held_drew (S := (fun W => W.heap[g]? = some (.cells (blindC n wd gp t sh) T fr) ∧ Below w.heap.size w W)) (by kernel_rfl) ⟨HG.out, (Below.refl _ _).drew⟩ (fun hHeld => ?_)
      refine take_op (i := 0) (d := 21) (v := ?_) rfl rfl (by kernel_rfl) (by kernel_rfl) (by kernel_rfl) (fun _ _ _ h => h) (Or.inl ⟨by rfl, ?hy0u1⟩) hHeld ?rest0u1
      case hy0u1 =>
        intro w' hS'
        obtain ⟨s1, _⟩ := hS'
        obtain ⟨k0, k1, k2, k3, k4⟩ := blind_cells s1
        clear s1
        go_simp
        try with_reducible rfl
      simp only [List.setIfInBounds_toArray, List.set_cons_zero, List.set_cons_succ]
      refine take_op (i := 1) (d := 22) (v := ?_) rfl rfl (by kernel_rfl) (by kernel_rfl) (by kernel_rfl) (fun _ _ _ h => h) (Or.inl ⟨by rfl, ?hy1u2⟩) hHeld ?rest1u2
      case hy1u2 =>
        intro w' hS'
        obtain ⟨s1, _⟩ := hS'
        obtain ⟨k0, k1, k2, k3, k4⟩ := blind_cells s1
        clear s1
        go_simp
        try with_reducible rfl
      simp only [List.setIfInBounds_toArray, List.set_cons_zero, List.set_cons_succ]
      refine take_op (i := 2) (d := 23) (v := ?_) rfl rfl (by kernel_rfl) (by kernel_rfl) (by kernel_rfl) (fun _ _ _ h => h) (Or.inl ⟨by rfl, ?hy2u3⟩) hHeld ?rest2u3
      case hy2u3 =>
        intro w' hS'
        obtain ⟨s1, _⟩ := hS'
        obtain ⟨k0, k1, k2, k3, k4⟩ := blind_cells s1
        clear s1
        go_simp
        try with_reducible rfl
      simp only [List.setIfInBounds_toArray, List.set_cons_zero, List.set_cons_succ]
      refine take_op (i := 3) (d := 24) (v := ?_) rfl rfl (by kernel_rfl) (by kernel_rfl) (by kernel_rfl) (fun _ _ _ h => h) (Or.inl ⟨by rfl, ?hy3u4⟩) hHeld ?rest3u4
      case hy3u4 =>
        intro w' hS'
        obtain ⟨s1, _⟩ := hS'
        obtain ⟨k0, k1, k2, k3, k4⟩ := blind_cells s1
        clear s1
        go_simp
        try with_reducible rfl
      simp only [List.setIfInBounds_toArray, List.set_cons_zero, List.set_cons_succ]
      refine take_op (i := 4) (d := 25) (v := ?_) rfl rfl (by kernel_rfl) (by kernel_rfl) (by kernel_rfl) (fun _ _ _ h => h) (Or.inl ⟨by rfl, ?hy4u5⟩) hHeld ?rest4u5
      case hy4u5 =>
        intro w' hS'
        obtain ⟨s1, _⟩ := hS'
        obtain ⟨k0, k1, k2, k3, k4⟩ := blind_cells s1
        clear s1
        go_simp
        try with_reducible rfl
      simp only [List.setIfInBounds_toArray, List.set_cons_zero, List.set_cons_succ]
      refine take_op (i := 5) (d := 26) (v := ?_) rfl rfl (by kernel_rfl) (by kernel_rfl) (by kernel_rfl) (fun _ _ _ h => h) (Or.inl ⟨by rfl, ?hy5u6⟩) hHeld ?rest5u6
      case hy5u6 =>
        intro w' hS'
        obtain ⟨s1, _⟩ := hS'
        obtain ⟨k0, k1, k2, k3, k4⟩ := blind_cells s1
        clear s1
        go_simp
        try with_reducible rfl
      simp only [List.setIfInBounds_toArray, List.set_cons_zero, List.set_cons_succ]
      refine take_op (i := 6) (d := 27) (v := ?_) rfl rfl (by kernel_rfl) (by kernel_rfl) (by kernel_rfl) (fun _ _ _ h => h) (Or.inl ⟨by rfl, ?hy6u7⟩) hHeld ?rest6u7
      case hy6u7 =>
        intro w' hS'
        obtain ⟨s1, _⟩ := hS'
        obtain ⟨k0, k1, k2, k3, k4⟩ := blind_cells s1
        clear s1
        go_simp
        try with_reducible rfl
      simp only [List.setIfInBounds_toArray, List.set_cons_zero, List.set_cons_succ]
      refine take_op (i := 7) (d := 28) (v := ?_) rfl rfl (by kernel_rfl) (by kernel_rfl) (by kernel_rfl) (fun _ _ _ h => h) (Or.inl ⟨by rfl, ?hy7u8⟩) hHeld ?rest7u8
      case hy7u8 =>
        intro w' hS'
        obtain ⟨s1, _⟩ := hS'
        obtain ⟨k0, k1, k2, k3, k4⟩ := blind_cells s1
        clear s1
        go_simp
        try with_reducible rfl
      simp only [List.setIfInBounds_toArray, List.set_cons_zero, List.set_cons_succ]
      refine take_op (i := 8) (d := 29) (v := ?_) rfl rfl (by kernel_rfl) (by kernel_rfl) (by kernel_rfl) (fun _ _ _ h => h) (Or.inl ⟨by rfl, ?hy8u9⟩) hHeld ?rest8u9
      case hy8u9 =>
        intro w' hS'
        obtain ⟨s1, _⟩ := hS'
        obtain ⟨k0, k1, k2, k3, k4⟩ := blind_cells s1
        clear s1
        go_simp
        try with_reducible rfl
      simp only [List.setIfInBounds_toArray, List.set_cons_zero, List.set_cons_succ]
      refine take_op (i := 9) (d := 30) (v := ?_) rfl rfl (by kernel_rfl) (by kernel_rfl) (by kernel_rfl) (fun _ _ _ h => h) (Or.inl ⟨by rfl, ?hy9u10⟩) hHeld ?rest9u10
      case hy9u10 =>
        intro w' hS'
        obtain ⟨s1, _⟩ := hS'
        obtain ⟨k0, k1, k2, k3, k4⟩ := blind_cells s1
        clear s1
        go_simp
        try with_reducible rfl
      simp only [List.setIfInBounds_toArray, List.set_cons_zero, List.set_cons_succ]
      refine take_op (i := 10) (d := 31) (v := ?_) rfl rfl (by kernel_rfl) (by kernel_rfl) (by kernel_rfl) (fun _ _ _ h => h) (Or.inl ⟨by rfl, ?hy10u11⟩) hHeld ?rest10u11
      case hy10u11 =>
        intro w' hS'
        obtain ⟨s1, _⟩ := hS'
        obtain ⟨k0, k1, k2, k3, k4⟩ := blind_cells s1
        clear s1
        go_simp
        try with_reducible rfl
      simp only [List.setIfInBounds_toArray, List.set_cons_zero, List.set_cons_succ]
      refine take_op (i := 11) (d := 32) (v := ?_) rfl rfl (by kernel_rfl) (by kernel_rfl) (by kernel_rfl) (fun _ _ _ h => h) (Or.inl ⟨by rfl, ?hy11u12⟩) hHeld ?rest11u12
      case hy11u12 =>
        intro w' hS'
        obtain ⟨s1, _⟩ := hS'
        obtain ⟨k0, k1, k2, k3, k4⟩ := blind_cells s1
        clear s1
        go_simp
        try with_reducible rfl
      simp only [List.setIfInBounds_toArray, List.set_cons_zero, List.set_cons_succ]
      refine take_op (i := 12) (d := 33) (v := ?_) rfl rfl (by kernel_rfl) (by kernel_rfl) (by kernel_rfl) (fun _ _ _ h => h) (Or.inl ⟨by rfl, ?hy12u13⟩) hHeld ?rest12u13
      case hy12u13 =>
        intro w' hS'
        obtain ⟨s1, _⟩ := hS'
        obtain ⟨k0, k1, k2, k3, k4⟩ := blind_cells s1
        clear s1
        go_simp
        try with_reducible rfl
      simp only [List.setIfInBounds_toArray, List.set_cons_zero, List.set_cons_succ]
      refine take_op (i := 13) (d := 7) (v := ?_) rfl rfl (by kernel_rfl) (by kernel_rfl) (by kernel_rfl) (fun _ _ _ h => h) (Or.inl ⟨by rfl, ?hy13u14⟩) hHeld ?rest13u14
      case hy13u14 =>
        intro w' hS'
        obtain ⟨s1, _⟩ := hS'
        obtain ⟨k0, k1, k2, k3, k4⟩ := blind_cells s1
        clear s1
        go_simp
        try with_reducible rfl
      simp only [List.setIfInBounds_toArray, List.set_cons_zero, List.set_cons_succ]
      refine wpAnyH_done (by kernel_rfl) ?_ _
      go_wp2
      go_ret
      exact ⟨rfl, hHeld.2⟩
    · have e : min1 q = q := if_neg c
      rw [e]
      have ho2 : FloatKind.f32.format.order q 1065353216 = some .lt ∨ FloatKind.f32.format.order q 1065353216 = some .eq := by
        rw [ho]
        rcases Nat.lt_or_eq_of_le (Nat.le_of_not_lt c) with c | c
        · rw [Nat.compare_eq_lt.2 c]; exact .inl rfl
        · rw [Nat.compare_eq_eq.2 c]; exact .inr rfl
      clear e c ho
      rcases ho2 with ho | ho
      · skip
        go_enter Tryz.func83, Tryz.ntmps83
        go_wp2_with (first | (go_at_call 81; refine (l01Cosine_any _ _).mono ?_; rintro e w' ⟨rfl, rfl⟩) | (go_at_call 94; refine (l01Sine_any _ _).mono ?_; rintro e w' ⟨rfl, rfl⟩) | (go_at_call 96; refine (l01Size_any _ HN.out _).mono ?_; rintro e w' ⟨rfl, rfl⟩))
        refine wp_region_held_drew (S := (fun W => W.heap[g]? = some (.cells (blindC n wd gp t sh) T fr) ∧ Below w.heap.size w W)) (by kernel_rfl) ⟨HG.out, (Below.refl _ _).drew⟩ (fun hHeld => ?_)
        refine take_op (i := 0) (d := 21) (v := ?_) rfl rfl (by kernel_rfl) (by kernel_rfl) (by kernel_rfl) (fun _ _ _ h => h) (Or.inl ⟨by rfl, ?hy0u15⟩) hHeld ?rest0u15
        case hy0u15 =>
          intro w' hS'
          obtain ⟨s1, _⟩ := hS'
          obtain ⟨k0, k1, k2, k3, k4⟩ := blind_cells s1
          clear s1
          go_simp
          try with_reducible rfl
        simp only [List.setIfInBounds_toArray, List.set_cons_zero, List.set_cons_succ]
        refine take_op (i := 1) (d := 22) (v := ?_) rfl rfl (by kernel_rfl) (by kernel_rfl) (by kernel_rfl) (fun _ _ _ h => h) (Or.inl ⟨by rfl, ?hy1u16⟩) hHeld ?rest1u16
        case hy1u16 =>
          intro w' hS'
          obtain ⟨s1, _⟩ := hS'
          obtain ⟨k0, k1, k2, k3, k4⟩ := blind_cells s1
          clear s1
          go_simp
          try with_reducible rfl
        simp only [List.setIfInBounds_toArray, List.set_cons_zero, List.set_cons_succ]
        refine take_op (i := 2) (d := 23) (v := ?_) rfl rfl (by kernel_rfl) (by kernel_rfl) (by kernel_rfl) (fun _ _ _ h => h) (Or.inl ⟨by rfl, ?hy2u17⟩) hHeld ?rest2u17
        case hy2u17 =>
          intro w' hS'
          obtain ⟨s1, _⟩ := hS'
          obtain ⟨k0, k1, k2, k3, k4⟩ := blind_cells s1
          clear s1
          go_simp
          try with_reducible rfl
        simp only [List.setIfInBounds_toArray, List.set_cons_zero, List.set_cons_succ]
        refine take_op (i := 3) (d := 24) (v := ?_) rfl rfl (by kernel_rfl) (by kernel_rfl) (by kernel_rfl) (fun _ _ _ h => h) (Or.inl ⟨by rfl, ?hy3u18⟩) hHeld ?rest3u18
        case hy3u18 =>
          intro w' hS'
          obtain ⟨s1, _⟩ := hS'
          obtain ⟨k0, k1, k2, k3, k4⟩ := blind_cells s1
          clear s1
          go_simp
          try with_reducible rfl
        simp only [List.setIfInBounds_toArray, List.set_cons_zero, List.set_cons_succ]
        refine take_op (i := 4) (d := 25) (v := ?_) rfl rfl (by kernel_rfl) (by kernel_rfl) (by kernel_rfl) (fun _ _ _ h => h) (Or.inl ⟨by rfl, ?hy4u19⟩) hHeld ?rest4u19
        case hy4u19 =>
          intro w' hS'
          obtain ⟨s1, _⟩ := hS'
          obtain ⟨k0, k1, k2, k3, k4⟩ := blind_cells s1
          clear s1
          go_simp
          try with_reducible rfl
        simp only [List.setIfInBounds_toArray, List.set_cons_zero, List.set_cons_succ]
        refine take_op (i := 5) (d := 26) (v := ?_) rfl rfl (by kernel_rfl) (by kernel_rfl) (by kernel_rfl) (fun _ _ _ h => h) (Or.inl ⟨by rfl, ?hy5u20⟩) hHeld ?rest5u20
        case hy5u20 =>
          intro w' hS'
          obtain ⟨s1, _⟩ := hS'
          obtain ⟨k0, k1, k2, k3, k4⟩ := blind_cells s1
          clear s1
          go_simp
          try with_reducible rfl
        simp only [List.setIfInBounds_toArray, List.set_cons_zero, List.set_cons_succ]
        refine take_op (i := 6) (d := 27) (v := ?_) rfl rfl (by kernel_rfl) (by kernel_rfl) (by kernel_rfl) (fun _ _ _ h => h) (Or.inl ⟨by rfl, ?hy6u21⟩) hHeld ?rest6u21
        case hy6u21 =>
          intro w' hS'
          obtain ⟨s1, _⟩ := hS'
          obtain ⟨k0, k1, k2, k3, k4⟩ := blind_cells s1
          clear s1
          go_simp
          try with_reducible rfl
        simp only [List.setIfInBounds_toArray, List.set_cons_zero, List.set_cons_succ]
        refine take_op (i := 7) (d := 28) (v := ?_) rfl rfl (by kernel_rfl) (by kernel_rfl) (by kernel_rfl) (fun _ _ _ h => h) (Or.inl ⟨by rfl, ?hy7u22⟩) hHeld ?rest7u22
        case hy7u22 =>
          intro w' hS'
          obtain ⟨s1, _⟩ := hS'
          obtain ⟨k0, k1, k2, k3, k4⟩ := blind_cells s1
          clear s1
          go_simp
          try with_reducible rfl
        simp only [List.setIfInBounds_toArray, List.set_cons_zero, List.set_cons_succ]
        refine take_op (i := 8) (d := 29) (v := ?_) rfl rfl (by kernel_rfl) (by kernel_rfl) (by kernel_rfl) (fun _ _ _ h => h) (Or.inl ⟨by rfl, ?hy8u23⟩) hHeld ?rest8u23
        case hy8u23 =>
          intro w' hS'
          obtain ⟨s1, _⟩ := hS'
          obtain ⟨k0, k1, k2, k3, k4⟩ := blind_cells s1
          clear s1
          go_simp
          try with_reducible rfl
        simp only [List.setIfInBounds_toArray, List.set_cons_zero, List.set_cons_succ]
        refine take_op (i := 9) (d := 30) (v := ?_) rfl rfl (by kernel_rfl) (by kernel_rfl) (by kernel_rfl) (fun _ _ _ h => h) (Or.inl ⟨by rfl, ?hy9u24⟩) hHeld ?rest9u24
        case hy9u24 =>
          intro w' hS'
          obtain ⟨s1, _⟩ := hS'
          obtain ⟨k0, k1, k2, k3, k4⟩ := blind_cells s1
          clear s1
          go_simp
          try with_reducible rfl
        simp only [List.setIfInBounds_toArray, List.set_cons_zero, List.set_cons_succ]
        refine take_op (i := 10) (d := 31) (v := ?_) rfl rfl (by kernel_rfl) (by kernel_rfl) (by kernel_rfl) (fun _ _ _ h => h) (Or.inl ⟨by rfl, ?hy10u25⟩) hHeld ?rest10u25
        case hy10u25 =>
          intro w' hS'
          obtain ⟨s1, _⟩ := hS'
          obtain ⟨k0, k1, k2, k3, k4⟩ := blind_cells s1
          clear s1
          go_simp
          try with_reducible rfl
        simp only [List.setIfInBounds_toArray, List.set_cons_zero, List.set_cons_succ]
        refine take_op (i := 11) (d := 32) (v := ?_) rfl rfl (by kernel_rfl) (by kernel_rfl) (by kernel_rfl) (fun _ _ _ h => h) (Or.inl ⟨by rfl, ?hy11u26⟩) hHeld ?rest11u26
        case hy11u26 =>
          intro w' hS'
          obtain ⟨s1, _⟩ := hS'
          obtain ⟨k0, k1, k2, k3, k4⟩ := blind_cells s1
          clear s1
          go_simp
          try with_reducible rfl
        simp only [List.setIfInBounds_toArray, List.set_cons_zero, List.set_cons_succ]
        refine take_op (i := 12) (d := 33) (v := ?_) rfl rfl (by kernel_rfl) (by kernel_rfl) (by kernel_rfl) (fun _ _ _ h => h) (Or.inl ⟨by rfl, ?hy12u27⟩) hHeld ?rest12u27
        case hy12u27 =>
          intro w' hS'
          obtain ⟨s1, _⟩ := hS'
          obtain ⟨k0, k1, k2, k3, k4⟩ := blind_cells s1
          clear s1
          go_simp
          try with_reducible rfl
        simp only [List.setIfInBounds_toArray, List.set_cons_zero, List.set_cons_succ]
        refine take_op (i := 13) (d := 7) (v := ?_) rfl rfl (by kernel_rfl) (by kernel_rfl) (by kernel_rfl) (fun _ _ _ h => h) (Or.inl ⟨by rfl, ?hy13u28⟩) hHeld ?rest13u28
        case hy13u28 =>
          intro w' hS'
          obtain ⟨s1, _⟩ := hS'
          obtain ⟨k0, k1, k2, k3, k4⟩ := blind_cells s1
          clear s1
          go_simp
          try with_reducible rfl
        simp only [List.setIfInBounds_toArray, List.set_cons_zero, List.set_cons_succ]
        refine wpAnyH_done (by kernel_rfl) ?_ _
        go_wp2
        go_ret
        exact ⟨rfl, hHeld.2⟩
      · skip
        go_enter Tryz.func83, Tryz.ntmps83
        go_wp2_with (first | (go_at_call 81; refine (l01Cosine_any _ _).mono ?_; rintro e w' ⟨rfl, rfl⟩) | (go_at_call 94; refine (l01Sine_any _ _).mono ?_; rintro e w' ⟨rfl, rfl⟩) | (go_at_call 96; refine (l01Size_any _ HN.out _).mono ?_; rintro e w' ⟨rfl, rfl⟩))
        refine wp_region_held_drew (S := (fun W => W.heap[g]? = some (.cells (blindC n wd gp t sh) T fr) ∧ Below w.heap.size w W)) (by kernel_rfl) ⟨HG.out, (Below.refl _ _).drew⟩ (fun hHeld => ?_)
        refine take_op (i := 0) (d := 21) (v := ?_) rfl rfl (by kernel_rfl) (by kernel_rfl) (by kernel_rfl) (fun _ _ _ h => h) (Or.inl ⟨by rfl, ?hy0u29⟩) hHeld ?rest0u29
        case hy0u29 =>
          intro w' hS'
          obtain ⟨s1, _⟩ := hS'
          obtain ⟨k0, k1, k2, k3, k4⟩ := blind_cells s1
          clear s1
          go_simp
          try with_reducible rfl
        simp only [List.setIfInBounds_toArray, List.set_cons_zero, List.set_cons_succ]
        refine take_op (i := 1) (d := 22) (v := ?_) rfl rfl (by kernel_rfl) (by kernel_rfl) (by kernel_rfl) (fun _ _ _ h => h) (Or.inl ⟨by rfl, ?hy1u30⟩) hHeld ?rest1u30
        case hy1u30 =>
          intro w' hS'
          obtain ⟨s1, _⟩ := hS'
          obtain ⟨k0, k1, k2, k3, k4⟩ := blind_cells s1
          clear s1
          go_simp
          try with_reducible rfl
        simp only [List.setIfInBounds_toArray, List.set_cons_zero, List.set_cons_succ]
        refine take_op (i := 2) (d := 23) (v := ?_) rfl rfl (by kernel_rfl) (by kernel_rfl) (by kernel_rfl) (fun _ _ _ h => h) (Or.inl ⟨by rfl, ?hy2u31⟩) hHeld ?rest2u31
        case hy2u31 =>
          intro w' hS'
          obtain ⟨s1, _⟩ := hS'
          obtain ⟨k0, k1, k2, k3, k4⟩ := blind_cells s1
          clear s1
          go_simp
          try with_reducible rfl
        simp only [List.setIfInBounds_toArray, List.set_cons_zero, List.set_cons_succ]
        refine take_op (i := 3) (d := 24) (v := ?_) rfl rfl (by kernel_rfl) (by kernel_rfl) (by kernel_rfl) (fun _ _ _ h => h) (Or.inl ⟨by rfl, ?hy3u32⟩) hHeld ?rest3u32
        case hy3u32 =>
          intro w' hS'
          obtain ⟨s1, _⟩ := hS'
          obtain ⟨k0, k1, k2, k3, k4⟩ := blind_cells s1
          clear s1
          go_simp
          try with_reducible rfl
        simp only [List.setIfInBounds_toArray, List.set_cons_zero, List.set_cons_succ]
        refine take_op (i := 4) (d := 25) (v := ?_) rfl rfl (by kernel_rfl) (by kernel_rfl) (by kernel_rfl) (fun _ _ _ h => h) (Or.inl ⟨by rfl, ?hy4u33⟩) hHeld ?rest4u33
        case hy4u33 =>
          intro w' hS'
          obtain ⟨s1, _⟩ := hS'
          obtain ⟨k0, k1, k2, k3, k4⟩ := blind_cells s1
          clear s1
          go_simp
          try with_reducible rfl
        simp only [List.setIfInBounds_toArray, List.set_cons_zero, List.set_cons_succ]
        refine take_op (i := 5) (d := 26) (v := ?_) rfl rfl (by kernel_rfl) (by kernel_rfl) (by kernel_rfl) (fun _ _ _ h => h) (Or.inl ⟨by rfl, ?hy5u34⟩) hHeld ?rest5u34
        case hy5u34 =>
          intro w' hS'
          obtain ⟨s1, _⟩ := hS'
          obtain ⟨k0, k1, k2, k3, k4⟩ := blind_cells s1
          clear s1
          go_simp
          try with_reducible rfl
        simp only [List.setIfInBounds_toArray, List.set_cons_zero, List.set_cons_succ]
        refine take_op (i := 6) (d := 27) (v := ?_) rfl rfl (by kernel_rfl) (by kernel_rfl) (by kernel_rfl) (fun _ _ _ h => h) (Or.inl ⟨by rfl, ?hy6u35⟩) hHeld ?rest6u35
        case hy6u35 =>
          intro w' hS'
          obtain ⟨s1, _⟩ := hS'
          obtain ⟨k0, k1, k2, k3, k4⟩ := blind_cells s1
          clear s1
          go_simp
          try with_reducible rfl
        simp only [List.setIfInBounds_toArray, List.set_cons_zero, List.set_cons_succ]
        refine take_op (i := 7) (d := 28) (v := ?_) rfl rfl (by kernel_rfl) (by kernel_rfl) (by kernel_rfl) (fun _ _ _ h => h) (Or.inl ⟨by rfl, ?hy7u36⟩) hHeld ?rest7u36
        case hy7u36 =>
          intro w' hS'
          obtain ⟨s1, _⟩ := hS'
          obtain ⟨k0, k1, k2, k3, k4⟩ := blind_cells s1
          clear s1
          go_simp
          try with_reducible rfl
        simp only [List.setIfInBounds_toArray, List.set_cons_zero, List.set_cons_succ]
        refine take_op (i := 8) (d := 29) (v := ?_) rfl rfl (by kernel_rfl) (by kernel_rfl) (by kernel_rfl) (fun _ _ _ h => h) (Or.inl ⟨by rfl, ?hy8u37⟩) hHeld ?rest8u37
        case hy8u37 =>
          intro w' hS'
          obtain ⟨s1, _⟩ := hS'
          obtain ⟨k0, k1, k2, k3, k4⟩ := blind_cells s1
          clear s1
          go_simp
          try with_reducible rfl
        simp only [List.setIfInBounds_toArray, List.set_cons_zero, List.set_cons_succ]
        refine take_op (i := 9) (d := 30) (v := ?_) rfl rfl (by kernel_rfl) (by kernel_rfl) (by kernel_rfl) (fun _ _ _ h => h) (Or.inl ⟨by rfl, ?hy9u38⟩) hHeld ?rest9u38
        case hy9u38 =>
          intro w' hS'
          obtain ⟨s1, _⟩ := hS'
          obtain ⟨k0, k1, k2, k3, k4⟩ := blind_cells s1
          clear s1
          go_simp
          try with_reducible rfl
        simp only [List.setIfInBounds_toArray, List.set_cons_zero, List.set_cons_succ]
        refine take_op (i := 10) (d := 31) (v := ?_) rfl rfl (by kernel_rfl) (by kernel_rfl) (by kernel_rfl) (fun _ _ _ h => h) (Or.inl ⟨by rfl, ?hy10u39⟩) hHeld ?rest10u39
        case hy10u39 =>
          intro w' hS'
          obtain ⟨s1, _⟩ := hS'
          obtain ⟨k0, k1, k2, k3, k4⟩ := blind_cells s1
          clear s1
          go_simp
          try with_reducible rfl
        simp only [List.setIfInBounds_toArray, List.set_cons_zero, List.set_cons_succ]
        refine take_op (i := 11) (d := 32) (v := ?_) rfl rfl (by kernel_rfl) (by kernel_rfl) (by kernel_rfl) (fun _ _ _ h => h) (Or.inl ⟨by rfl, ?hy11u40⟩) hHeld ?rest11u40
        case hy11u40 =>
          intro w' hS'
          obtain ⟨s1, _⟩ := hS'
          obtain ⟨k0, k1, k2, k3, k4⟩ := blind_cells s1
          clear s1
          go_simp
          try with_reducible rfl
        simp only [List.setIfInBounds_toArray, List.set_cons_zero, List.set_cons_succ]
        refine take_op (i := 12) (d := 33) (v := ?_) rfl rfl (by kernel_rfl) (by kernel_rfl) (by kernel_rfl) (fun _ _ _ h => h) (Or.inl ⟨by rfl, ?hy12u41⟩) hHeld ?rest12u41
        case hy12u41 =>
          intro w' hS'
          obtain ⟨s1, _⟩ := hS'
          obtain ⟨k0, k1, k2, k3, k4⟩ := blind_cells s1
          clear s1
          go_simp
          try with_reducible rfl
        simp only [List.setIfInBounds_toArray, List.set_cons_zero, List.set_cons_succ]
        refine take_op (i := 13) (d := 7) (v := ?_) rfl rfl (by kernel_rfl) (by kernel_rfl) (by kernel_rfl) (fun _ _ _ h => h) (Or.inl ⟨by rfl, ?hy13u42⟩) hHeld ?rest13u42
        case hy13u42 =>
          intro w' hS'
          obtain ⟨s1, _⟩ := hS'
          obtain ⟨k0, k1, k2, k3, k4⟩ := blind_cells s1
          clear s1
          go_simp
          try with_reducible rfl
        simp only [List.setIfInBounds_toArray, List.set_cons_zero, List.set_cons_succ]
        refine wpAnyH_done (by kernel_rfl) ?_ _
        go_wp2
        go_ret
        exact ⟨rfl, hHeld.2⟩
  · obtain rfl : h = 64 := by omega
    have hc := cos_eq
    have hB : blkB wd gp t 64 = 1065353216 := rfl
    rw [hB]
    clear hB w0 w1 g0 g1
    go_enter Tryz.func83, Tryz.ntmps83
    go_wp2_with (first | (go_at_call 81; refine (l01Cosine_any _ _).mono ?_; rintro e w' ⟨rfl, rfl⟩) | (go_at_call 94; refine (l01Sine_any _ _).mono ?_; rintro e w' ⟨rfl, rfl⟩) | (go_at_call 96; refine (l01Size_any _ HN.out _).mono ?_; rintro e w' ⟨rfl, rfl⟩))
    go_ret
    exact ⟨rfl, Below.refl _ _⟩

set_option maxRecDepth 100000 in
set_option maxHeartbeats 1000000 in
theorem l02Open_any (n : Int) (wd gp : Nat) (t : Int) (sh : Nat) (ok : BlOk n wd gp t sh) (h : Int) (h0 : 1 ≤ h) (h1 : h ≤ 64) (g : Nat) (T : TypeId) (fr : Nat × Nat) (w : World) (hg : w.heap[g]? = some (.cells (blindC n wd gp t sh) T fr)) :
    Calls Tryz.prog 82 #[.pointer (some ⟨g, 0, none⟩), .int .i64 h] w fun e w' => e = .returned (.float .f32 (opnB wd gp t h)) ∧ Below w.heap.size w w' := by
  have HB := Lib.hid (l02Blocked_any n wd gp t sh ok h h0 h1 g T fr w hg)
  have f1 := (opn_facts wd gp t h).1
  have r1 : ∀ T w, (binOp .sub T (.float .f32 1065353216) (.float .f32 (blkB wd gp t h))).run Tryz.prog w = .ok (.float .f32 (opnB wd gp t h)) w := fun T w => run_float_arith w .sub T .f32 _ _ _ f1
  clear f1 ok h0 h1 hg
  go_enter Tryz.func82, Tryz.ntmps82
  go_wp2_with (go_at_call 83; refine (HB.out).mono ?_; rintro e W1 ⟨rfl, hb1⟩)
  go_ret
  exact ⟨rfl, hb1⟩

set_option maxRecDepth 100000 in
set_option maxHeartbeats 1000000 in
theorem l02Pass_any (n : Int) (wd gp : Nat) (t : Int) (sh : Nat) (ok : BlOk n wd gp t sh) (h : Int) (h0 : 1 ≤ h) (h1 : h ≤ 64) (g : Nat) (T : TypeId) (fr : Nat × Nat) (w : World) (hg : w.heap[g]? = some (.cells (blindC n wd gp t sh) T fr)) :
    Calls Tryz.prog 66 #[.pointer (some ⟨g, 0, none⟩), .int .i64 h] w fun e w' => e = .returned (.float .f32 (pasB wd gp t sh h)) ∧ Below w.heap.size w w' := by
  obtain ⟨f1, f2, f3, f4, _⟩ := pas_facts wd gp t ok.2.2.2.2.2.2.2.2 h
  have HB := Lib.hid (fun W hg => l02Blocked_any n wd gp t sh ok h h0 h1 g T fr W hg)
  have HO := Lib.hid (fun W hg => l02Open_any n wd gp t sh ok h h0 h1 g T fr W hg)
  have HV := Lib.hid (fun W hg => l02Open_any n wd gp t sh ok 1 (by decide) (by decide) g T fr W hg)
  have HG := Lib.hid hg
  have r1 : ∀ T w, (binOp .mul T (.float .f32 (blkB wd gp t h)) (.float .f32 sh)).run Tryz.prog w = .ok (.float .f32 (fmul (blkB wd gp t h) sh)) w := fun T w => run_float_arith w .mul T .f32 _ _ _ f1
  have r2 : ∀ T w, (binOp .mul T (.float .f32 (fmul (blkB wd gp t h) sh)) (.float .f32 (opnB wd gp t 1))).run Tryz.prog w = .ok (.float .f32 (fmul (fmul (blkB wd gp t h) sh) (opnB wd gp t 1))) w := fun T w => run_float_arith w .mul T .f32 _ _ _ f2
  have r3 : ∀ T w, (binOp .quo T (.float .f32 (fmul (fmul (blkB wd gp t h) sh) (opnB wd gp t 1))) (.float .f32 1073741824)).run Tryz.prog w = .ok (.float .f32 (bncB wd gp t sh h)) w := fun T w => run_float_arith w .quo T .f32 _ _ _ f3
  have r4 : ∀ T w, (binOp .add T (.float .f32 (opnB wd gp t h)) (.float .f32 (bncB wd gp t sh h))).run Tryz.prog w = .ok (.float .f32 (pasB wd gp t sh h)) w := fun T w => run_float_arith w .add T .f32 _ _ _ f4
  clear f1 f2 f3 f4 ok h0 h1 hg
  generalize fmul (fmul (blkB wd gp t h) sh) (opnB wd gp t 1) = x2 at *
  generalize fmul (blkB wd gp t h) sh = x1 at *
  go_enter Tryz.func66, Tryz.ntmps66
  go_wp2_with (go_at_call 82; refine (HV.out _ HG.out).mono ?_; rintro e W1 ⟨rfl, hb1⟩)
  have HG1 := Lib.hid (below_row hb1 HG.out)
  refine wp_region_held_drew (S := (fun W => W.heap[g]? = some (.cells (blindC n wd gp t sh) T fr) ∧ Below w.heap.size w W)) (by kernel_rfl) ⟨HG1.out, hb1.drew⟩ (fun hHeld => ?_)
  refine take_op (i := 0) (d := 9) (v := ?_) rfl rfl (by kernel_rfl) (by kernel_rfl) (by kernel_rfl) (fun _ _ _ h => h) (Or.inl ⟨by rfl, ?hy0u43⟩) hHeld ?rest0u43
  case hy0u43 =>
    intro w' hS'
    obtain ⟨s1, _⟩ := hS'
    obtain ⟨k0, k1, k2, k3, k4⟩ := blind_cells s1
    clear s1
    go_simp
    try with_reducible rfl
  simp only [List.setIfInBounds_toArray, List.set_cons_zero, List.set_cons_succ]
  refine take_op (i := 1) (d := 10) (v := ?_) rfl rfl (by kernel_rfl) (by kernel_rfl) (by kernel_rfl) (fun _ _ _ h => h) (Or.inl ⟨by rfl, ?hy1u44⟩) hHeld ?rest1u44
  case hy1u44 =>
    intro w' hS'
    obtain ⟨s1, _⟩ := hS'
    obtain ⟨k0, k1, k2, k3, k4⟩ := blind_cells s1
    clear s1
    go_simp
    try with_reducible rfl
  simp only [List.setIfInBounds_toArray, List.set_cons_zero, List.set_cons_succ]
  refine take_op (i := 3) (d := 12) (v := ?_) rfl rfl (by kernel_rfl) (by kernel_rfl) (by kernel_rfl) (fun _ _ _ h => h) (Or.inl ⟨by rfl, ?hy3u45⟩) hHeld ?rest3u45
  case hy3u45 =>
    intro w' hS'
    obtain ⟨s1, _⟩ := hS'
    obtain ⟨k0, k1, k2, k3, k4⟩ := blind_cells s1
    clear s1
    go_simp
    try with_reducible rfl
  simp only [List.setIfInBounds_toArray, List.set_cons_zero, List.set_cons_succ]
  refine take_op (i := 4) (d := 13) (v := ?_) rfl rfl (by kernel_rfl) (by kernel_rfl) (by kernel_rfl) (fun _ _ _ h => h) (Or.inl ⟨by rfl, ?hy4u46⟩) hHeld ?rest4u46
  case hy4u46 =>
    intro w' hS'
    obtain ⟨s1, _⟩ := hS'
    obtain ⟨k0, k1, k2, k3, k4⟩ := blind_cells s1
    clear s1
    go_simp
    try with_reducible rfl
  simp only [List.setIfInBounds_toArray, List.set_cons_zero, List.set_cons_succ]
  refine take_op (i := 5) (d := 14) (v := ?_) rfl rfl (by kernel_rfl) (by kernel_rfl) (by kernel_rfl) (fun _ _ _ h => h) (Or.inl ⟨by rfl, ?hy5u47⟩) hHeld ?rest5u47
  case hy5u47 =>
    intro w' hS'
    obtain ⟨s1, _⟩ := hS'
    obtain ⟨k0, k1, k2, k3, k4⟩ := blind_cells s1
    clear s1
    go_simp
    try with_reducible rfl
  simp only [List.setIfInBounds_toArray, List.set_cons_zero, List.set_cons_succ]
  refine take_op (i := 6) (d := 15) (v := ?_) rfl rfl (by kernel_rfl) (by kernel_rfl) (by kernel_rfl) (fun _ _ _ h => h) (Or.inl ⟨by rfl, ?hy6u48⟩) hHeld ?rest6u48
  case hy6u48 =>
    intro w' hS'
    obtain ⟨s1, _⟩ := hS'
    obtain ⟨k0, k1, k2, k3, k4⟩ := blind_cells s1
    clear s1
    go_simp
    try with_reducible rfl
  simp only [List.setIfInBounds_toArray, List.set_cons_zero, List.set_cons_succ]
  refine take_op (i := 8) (d := 17) (v := ?_) rfl rfl (by kernel_rfl) (by kernel_rfl) (by kernel_rfl) (fun _ _ _ h => h) (Or.inl ⟨by rfl, ?hy8u49⟩) hHeld ?rest8u49
  case hy8u49 =>
    intro w' hS'
    obtain ⟨s1, _⟩ := hS'
    obtain ⟨k0, k1, k2, k3, k4⟩ := blind_cells s1
    clear s1
    go_simp
    try with_reducible rfl
  simp only [List.setIfInBounds_toArray, List.set_cons_zero, List.set_cons_succ]
  refine wpAnyH_ready (rs := [2]) (by kernel_rfl) (by simp) ?_
  refine AllReadyH.cons rfl (fun K hK => ?_) AllReadyH.nil
  go_simp
  refine (HB.out _ hHeld.1).mono ?_
  rintro e W1 ⟨rfl, hb1⟩
  refine hK.out _ _ (⟨below_row hb1 hHeld.1, hHeld.2.trans (hb1.mono hHeld.2.size)⟩) (fun hHeld2 => ?_)
  clear hK K
  replace hHeld := hHeld2
  clear hHeld2
  refine take_op (i := 7) (d := 16) (v := ?_) rfl rfl (by kernel_rfl) (by kernel_rfl) (by kernel_rfl) (fun _ _ _ h => h) (Or.inl ⟨by rfl, ?hy7u50⟩) hHeld ?rest7u50
  case hy7u50 =>
    intro w' hS'
    go_simp
    try with_reducible rfl
  simp only [List.setIfInBounds_toArray, List.set_cons_zero, List.set_cons_succ]
  refine take_op (i := 9) (d := 18) (v := ?_) rfl rfl (by kernel_rfl) (by kernel_rfl) (by kernel_rfl) (fun _ _ _ h => h) (Or.inl ⟨by rfl, ?hy9u51⟩) hHeld ?rest9u51
  case hy9u51 =>
    intro w' hS'
    go_simp
    try with_reducible rfl
  simp only [List.setIfInBounds_toArray, List.set_cons_zero, List.set_cons_succ]
  refine take_op (i := 10) (d := 19) (v := ?_) rfl rfl (by kernel_rfl) (by kernel_rfl) (by kernel_rfl) (fun _ _ _ h => h) (Or.inl ⟨by rfl, ?hy10u52⟩) hHeld ?rest10u52
  case hy10u52 =>
    intro w' hS'
    go_simp
    try with_reducible rfl
  simp only [List.setIfInBounds_toArray, List.set_cons_zero, List.set_cons_succ]
  refine take_op (i := 11) (d := 6) (v := ?_) rfl rfl (by kernel_rfl) (by kernel_rfl) (by kernel_rfl) (fun _ _ _ h => h) (Or.inl ⟨by rfl, ?hy11u53⟩) hHeld ?rest11u53
  case hy11u53 =>
    intro w' hS'
    go_simp
    try with_reducible rfl
  simp only [List.setIfInBounds_toArray, List.set_cons_zero, List.set_cons_succ]
  refine wpAnyH_done (by kernel_rfl) ?_ _
  obtain ⟨hgx, hbx⟩ := hHeld
  go_wp2_with (go_at_call 82; refine (HO.out _ hgx).mono ?_; rintro e W2 ⟨rfl, hb2⟩)
  go_ret
  exact ⟨rfl, hbx.trans (hb2.mono hbx.size)⟩

end Go.Proofs.YtdbleddcnknmiaaGreatDoor

namespace Go.Proofs.YtdbleddcnknmiaaGreatDoor
open Go.ChangeShapes Go.WideShapes Go.ChangeAt Go.RowKit Go.Deep Go.Joins

attribute [local go_sem] run_store_f

def bnC (lo hi : Nat) : Array Value := #[.float .f32 lo, .float .f32 hi]

def dayC (hs ts : List Int) (fc : Int) (lo hi : Nat) (n : Int) (wd gp : Nat) (t : Int) (sh : Nat) : Array Value := fsC hs ts fc ++ (bnC lo hi ++ blindC n wd gp t sh)

theorem dayC_size (hs ts : List Int) (hh : hs.length = 24) (ht : ts.length = 24) (fc : Int) (lo hi : Nat) (n : Int) (wd gp : Nat) (t : Int) (sh : Nat) : (dayC hs ts fc lo hi n wd gp t sh).size = 56 := by simp [dayC, fsC_size _ _ fc hh ht, bnC, blindC]

theorem dy_fits (m : Nat) (hm : m ≤ 56) (hs ts : List Int) (hh : hs.length = 24) (ht : ts.length = 24) (fc : Int) (lo hi : Nat) (n : Int) (wd gp : Nat) (t : Int) (sh : Nat) : m ≤ (dayC hs ts fc lo hi n wd gp t sh).size := by rw [dayC_size hs ts hh ht fc lo hi n wd gp t sh]; exact hm

theorem dy_all (hs ts : List Int) (hh : hs.length = 24) (ht : ts.length = 24) (fc : Int) (lo hi : Nat) (n : Int) (wd gp : Nat) (t : Int) (sh : Nat) : (dayC hs ts fc lo hi n wd gp t sh).extract 0 (0 + 56) = dayC hs ts fc lo hi n wd gp t sh := by
  rw [Nat.zero_add, ← dayC_size hs ts hh ht fc lo hi n wd gp t sh, Array.extract_size]

theorem dy_fs (hs ts : List Int) (hh : hs.length = 24) (ht : ts.length = 24) (fc : Int) (lo hi : Nat) (n : Int) (wd gp : Nat) (t : Int) (sh : Nat) : (dayC hs ts fc lo hi n wd gp t sh).extract 0 (0 + 49) = fsC hs ts fc := extract_left _ _ _ (fsC_size _ _ _ hh ht)

theorem extract_mid (a b c : Array Value) (n m : Nat) (h : a.size = n) (h2 : b.size = m) : (a ++ (b ++ c)).extract n (n + m) = b := by
  subst h h2
  apply Array.ext'
  simp

theorem extract_end (a b c : Array Value) (n m : Nat) (h : (a ++ b).size = n) (h2 : c.size = m) : (a ++ (b ++ c)).extract n (n + m) = c := by
  rw [← Array.append_assoc]
  generalize a ++ b = x at h ⊢
  subst h h2
  apply Array.ext'
  simp

theorem dy_sun (hs ts : List Int) (hh : hs.length = 24) (ht : ts.length = 24) (fc : Int) (lo hi : Nat) (n : Int) (wd gp : Nat) (t : Int) (sh : Nat) : (dayC hs ts fc lo hi n wd gp t sh).extract 0 (0 + 48) = sunC hs ts := by
  have e : dayC hs ts fc lo hi n wd gp t sh = sunC hs ts ++ (#[.int .i64 fc] ++ (bnC lo hi ++ blindC n wd gp t sh)) := by simp [dayC, fsC]
  rw [e]
  exact extract_left _ _ _ (sunC_size _ _ hh ht)

theorem dy_bn (hs ts : List Int) (hh : hs.length = 24) (ht : ts.length = 24) (fc : Int) (lo hi : Nat) (n : Int) (wd gp : Nat) (t : Int) (sh : Nat) : (dayC hs ts fc lo hi n wd gp t sh).extract 49 (49 + 2) = bnC lo hi := extract_mid _ _ _ _ _ (fsC_size _ _ _ hh ht) rfl

theorem dy_bl (hs ts : List Int) (hh : hs.length = 24) (ht : ts.length = 24) (fc : Int) (lo hi : Nat) (n : Int) (wd gp : Nat) (t : Int) (sh : Nat) : (dayC hs ts fc lo hi n wd gp t sh).extract 51 (51 + 5) = blindC n wd gp t sh := extract_end _ _ _ _ _ (by simp [fsC_size _ _ fc hh ht, bnC]) rfl

theorem dy_one (hs ts : List Int) (fc : Int) (lo hi : Nat) (n : Int) (wd gp : Nat) (t : Int) (sh : Nat) : ∀ v ∈ dayC hs ts fc lo hi n wd gp t sh, v.oneCell' = true := by
  intro v hv
  rcases Array.mem_append.1 hv with h | h
  · exact fs_one _ _ _ v h
  · simp only [bnC, blindC, List.append_toArray, List.cons_append, List.nil_append, List.mem_toArray, List.mem_cons, List.not_mem_nil, or_false] at h
    rcases h with rfl | rfl | rfl | rfl | rfl | rfl | rfl <;> rfl

theorem dy_cell (hs ts : List Int) (hh : hs.length = 24) (ht : ts.length = 24) (fc : Int) (lo hi : Nat) (n : Int) (wd gp : Nat) (t : Int) (sh : Nat) {W : World} {b : Nat} {T : TypeId} {fr : Nat × Nat} (hg : W.heap[b]? = some (.cells (dayC hs ts fc lo hi n wd gp t sh) T fr)) : W.cell? ⟨b, 48, none⟩ = some (.int .i64 fc) := by
  rw [cell_of_row W _ _ _ _ _ hg]
  have e : (fsC hs ts fc).size = 49 := fsC_size _ _ _ hh ht
  unfold dayC
  rw [Array.getElem?_append_left (by omega), fs_48 _ _ _ hh ht]

set_option maxRecDepth 100000 in
theorem info_dy : (Tryz.prog.info? 69).map (·.size) = some 56 := by kernel_rfl

set_option maxRecDepth 100000 in
theorem info_bn : (Tryz.prog.info? 67).map (·.size) = some 2 := by kernel_rfl

set_option maxRecDepth 100000 in
theorem built_dy (hs ts : List Int) (hh : hs.length = 24) (ht : ts.length = 24) (fc : Int) (lo hi : Nat) (n : Int) (wd gp : Nat) (t : Int) (sh : Nat) : Tryz.prog.built 69 [(0, .agg (fsC hs ts fc)), (1, .agg (bnC lo hi)), (2, .agg (blindC n wd gp t sh))] = some (dayC hs ts fc lo hi n wd gp t sh) := by
  obtain ⟨a0, a1, a2, a3, a4, a5, a6, a7, a8, a9, b0, b1, b2, b3, b4, b5, b6, b7, b8, b9, c0, c1, c2, c3, rfl⟩ := len24 hh
  obtain ⟨d0, d1, d2, d3, d4, d5, d6, d7, d8, d9, e0, e1, e2, e3, e4, e5, e6, e7, e8, e9, f0, f1, f2, f3, rfl⟩ := len24 ht
  kernel_rfl

def gtO (x y : Nat) : Bool := FloatKind.f32.format.order x y == some .gt

def ltO (x y : Nat) : Bool := FloatKind.f32.format.order x y == some .lt

set_option maxRecDepth 100000 in
set_option maxHeartbeats 1000000 in
theorem dyBright_is (lo hi x : Nat) (r : Bool) (h : gtO x hi = r) (w : World) :
    Calls Tryz.prog 72 #[.agg (bnC lo hi), .float .f32 x] w fun e w' => e = .returned (.bool r) ∧ Below w.heap.size w w' := by
  subst h
  unfold gtO bnC
  go_enter Tryz.func72, Tryz.ntmps72
  go_wp2
  go_ret
  exact ⟨rfl, (Below.refl _ _).alloc (Nat.le_refl _) _⟩

set_option maxRecDepth 100000 in
set_option maxHeartbeats 1000000 in
theorem dyDark_is (lo hi x : Nat) (r : Bool) (h : ltO x lo = r) (w : World) :
    Calls Tryz.prog 73 #[.agg (bnC lo hi), .float .f32 x] w fun e w' => e = .returned (.bool r) ∧ Below w.heap.size w w' := by
  subst h
  unfold ltO bnC
  go_enter Tryz.func73, Tryz.ntmps73
  go_wp2
  go_ret
  exact ⟨rfl, (Below.refl _ _).alloc (Nat.le_refl _) _⟩

set_option maxRecDepth 100000 in
set_option maxHeartbeats 2000000 in
theorem dayOf_any (hs ts : List Int) (hh : hs.length = 24) (ht : ts.length = 24) (fc : Int) (lo hi : Nat) (n : Int) (wd gp : Nat) (t : Int) (sh : Nat) (w : World) :
    Calls Tryz.prog 31 #[.agg (blindC n wd gp t sh), .agg (sunC hs ts), .int .i64 fc, .agg (bnC lo hi)] w fun e w' => e = .returned (.agg (dayC hs ts fc lo hi n wd gp t sh)) ∧ Below w.heap.size w w' := by
  have Hh := Lib.hid hh
  have Ht := Lib.hid ht
  have HD := Lib.hid (dayC_size hs ts hh ht fc lo hi n wd gp t sh)
  have HO := Lib.hid (dy_one hs ts fc lo hi n wd gp t sh)
  have HB1 := Lib.hid (built_fs hs ts fc hh ht)
  have HB2 := Lib.hid (built_dy hs ts hh ht fc lo hi n wd gp t sh)
  clear hh ht
  go_enter Tryz.func31, Tryz.ntmps31
  go_upto_region 1 with (fail)
  refine abs_code (fun W => W.heap[w.heap.size]? = some (.cells (blindC n wd gp t sh) 33 (0, 0)) ∧ W.heap[w.heap.size + 1]? = some (.cells (sunC hs ts) 35 (0, 0)) ∧ W.heap[w.heap.size + 1 + 1]? = some (.cells (bnC lo hi) 67 (0, 0)) ∧ (∃ zs : Array Value, zs.size = 56 ∧ W.heap[w.heap.size + 1 + 1 + 1]? = some (.cells zs 69 (0, 0))) ∧ Below w.heap.size w W) ⟨(box4 w _ _ _ _).1, (box4 w _ _ _ _).2.1, (box4 w _ _ _ _).2.2.1, ⟨_, rfl, (box4 w _ _ _ _).2.2.2.1⟩, (box4 w _ _ _ _).2.2.2.2⟩ ?_
  rintro W ⟨h0, h1, h2, ⟨zs, hzs, h3⟩, hb⟩
  have HZ := Lib.hid hzs
  clear hzs
  have hs3 : w.heap.size ≤ w.heap.size + 1 + 1 + 1 := by omega
  generalize w.heap.size + 1 + 1 + 1 = b3 at *
  generalize w.heap.size + 1 + 1 = b2 at *
  generalize w.heap.size + 1 = b1 at *
  have H0 := Lib.hid h0
  have H1 := Lib.hid h1
  have H2 := Lib.hid h2
  have H3 := Lib.hid h3
  clear h0 h1 h2 h3
  go_wp2_with (first | (refine wpList_load_part rfl 33 _ rfl w.heap.size 0 5 rfl 33 (blindC n wd gp t sh) (0, 0) _ H0.out Tryz.underlying33 rfl info_blind (blind_fits _ _ _ _ _) _ (blind_all _ _ _ _ _) ?_) | (refine wpList_load_part rfl 35 _ rfl b1 0 48 rfl 35 (sunC hs ts) (0, 0) _ H1.out Tryz.underlying35 rfl info_sun (sun_fits _ _ Hh.out Ht.out) (sunC hs ts) (sun_all _ _ Hh.out Ht.out) ?_) | (refine wpList_load_part rfl 67 _ rfl b2 0 2 rfl 67 (bnC lo hi) (0, 0) _ H2.out Tryz.underlying67 rfl info_bn (Nat.le_refl _) (bnC lo hi) rfl ?_) | (refine wpList_buildL rfl 65 _ rfl _ rfl [(0, .agg (sunC hs ts)), (1, .int .i64 fc)] rfl (fsC hs ts fc) HB1.out ?_) | (refine wpList_buildL rfl 69 _ rfl _ rfl [(0, .agg (fsC hs ts fc)), (1, .agg (bnC lo hi)), (2, .agg (blindC n wd gp t sh))] rfl (dayC hs ts fc lo hi n wd gp t sh) HB2.out ?_) | (refine wpList_store_part rfl 69 _ _ rfl b3 0 (dayC hs ts fc lo hi n wd gp t sh) rfl rfl 69 _ H3.out (by rw [HD.out]; exact info_dy) (by rw [HD.out, HZ.out]; exact Nat.le_refl _) HO.out ?_; rw [laid_all _ _ (by rw [HD.out, HZ.out])]))
  exact bodyPost_ret (v := .agg (dayC hs ts fc lo hi n wd gp t sh)) (results_cell_row rfl _ _ _ _ _ _ _ rfl (setRow_heap _ _ _ _ _ _ H3.out) Tryz.underlying69 rfl (by rw [HD.out]; exact info_dy)) rfl ⟨rfl, below_setRow hb hs3 _⟩

end Go.Proofs.YtdbleddcnknmiaaGreatDoor

namespace Go.Proofs.YtdbleddcnknmiaaGreatDoor
open Go.ChangeShapes Go.WideShapes Go.ChangeAt Go.RowKit Go.Deep Go.Joins

end Go.Proofs.YtdbleddcnknmiaaGreatDoor

namespace Go.Proofs.YtdbleddcnknmiaaGreatDoor
open Go.ChangeShapes Go.WideShapes Go.ChangeAt Go.RowKit Go.Deep Go.Joins

attribute [local go_sem] run_store_f

/-- A value that tells what passes through a blind: it holds the blind, and what is open for the first height. -/
def Passes (n : Int) (wd gp : Nat) (t : Int) (sh : Nat) (v : Value) (W : World) : Prop :=
  ∃ g1 g2 : Nat, v = .func (.func 88) #[] #[.pointer (some ⟨g1, 0, none⟩), .pointer (some ⟨g2, 0, none⟩)] ∧ W.heap[g1]? = some (.cells (blindC n wd gp t sh) 33 (0, 0)) ∧ W.heap[g2]? = some (.cells #[.float .f32 (opnB wd gp t 1)] 23 (0, 0))

def RetPasses (n : Int) (wd gp : Nat) (t : Int) (sh : Nat) (w : World) (e : Ending) (w' : World) : Prop := (∃ v, e = .returned v ∧ Passes n wd gp t sh v w') ∧ Below w.heap.size w w'

set_option maxRecDepth 100000 in
set_option maxHeartbeats 1000000 in
theorem passer_any (n : Int) (wd gp : Nat) (t : Int) (sh : Nat) (ok : BlOk n wd gp t sh) (w : World) :
    Calls Tryz.prog 70 #[.agg (blindC n wd gp t sh)] w (RetPasses n wd gp t sh w) := by
  have HO := Lib.hid (fun w => openAt_any n wd gp t sh ok 1 (by decide) (by decide) w)
  clear ok
  go_enter Tryz.func70, Tryz.ntmps70
  go_upto_region 1 with (fail)
  refine abs_world (fun W => Below w.heap.size w W ∧ W.heap[w.heap.size]? = some (.cells (blindC n wd gp t sh) 33 (0, 0)) ∧ w.heap.size < W.heap.size) ⟨(Below.refl _ _).alloc (Nat.le_refl _) _, heap_alloc_new _ _, by simp⟩ ?_
  rintro W ⟨hb, h0, hs⟩
  have H0 := Lib.hid h0
  clear h0
  go_wp2_with (first | (refine wpList_load_part rfl 33 _ rfl w.heap.size 0 5 rfl 33 (blindC n wd gp t sh) (0, 0) _ H0.out Tryz.underlying33 rfl info_blind (blind_fits _ _ _ _ _) _ (blind_all _ _ _ _ _) ?_) | (go_at_call 87; refine (HO.out _).mono ?_; rintro e W1 ⟨rfl, hb1⟩; replace H0 := Lib.hid (below_row hb1 H0.out); replace hb := hb.trans (hb1.mono hb.size); replace hs := Nat.lt_of_lt_of_le hs hb1.size; clear hb1))
  go_ret
  exact ⟨⟨_, rfl, w.heap.size, W1.heap.size, rfl, below_row ((Below.refl W1.heap.size W1).alloc (Nat.le_refl _) _) H0.out, heap_alloc_new _ _⟩, hb.alloc (Nat.le_of_lt hs) _⟩

set_option maxRecDepth 100000 in
set_option maxHeartbeats 1000000 in
theorem passes_call (n : Int) (wd gp : Nat) (t : Int) (sh : Nat) (ok : BlOk n wd gp t sh) (g1 g2 : Nat) (h : Int) (h0 : 1 ≤ h) (h1 : h ≤ 64) (w : World) (c1 : w.heap[g1]? = some (.cells (blindC n wd gp t sh) 33 (0, 0))) (c2 : w.heap[g2]? = some (.cells #[.float .f32 (opnB wd gp t 1)] 23 (0, 0))) :
    Calls Tryz.prog 88 #[.int .i64 h, .pointer (some ⟨g1, 0, none⟩), .pointer (some ⟨g2, 0, none⟩)] w fun e w' => e = .returned (.float .f32 (pasB wd gp t sh h)) ∧ Below w.heap.size w w' := by
  obtain ⟨f1, f2, f3, f4, _⟩ := pas_facts wd gp t ok.2.2.2.2.2.2.2.2 h
  have HB := Lib.hid (fun w => blockedAt_any n wd gp t sh ok.2.2.1 ok.2.2.2.1 ok.2.2.2.2.1 ok.2.2.2.2.2.1 ok.2.2.2.2.2.2.1 ok.2.2.2.2.2.2.2.1 h h0 h1 w)
  obtain ⟨k0, k1, k2, k3, k4⟩ := blind_cells c1
  have k5 : w.cell? ⟨g2, 0, none⟩ = some (.float .f32 (opnB wd gp t 1)) := by rw [cell_of_row w _ _ _ _ _ c2]; rfl
  have f0 := (opn_facts wd gp t h).1
  have r0 : ∀ T w, (binOp .sub T (.float .f32 1065353216) (.float .f32 (blkB wd gp t h))).run Tryz.prog w = .ok (.float .f32 (opnB wd gp t h)) w := fun T w => run_float_arith w .sub T .f32 _ _ _ f0
  have r1 : ∀ T w, (binOp .mul T (.float .f32 (blkB wd gp t h)) (.float .f32 sh)).run Tryz.prog w = .ok (.float .f32 (fmul (blkB wd gp t h) sh)) w := fun T w => run_float_arith w .mul T .f32 _ _ _ f1
  have r2 : ∀ T w, (binOp .mul T (.float .f32 (fmul (blkB wd gp t h) sh)) (.float .f32 (opnB wd gp t 1))).run Tryz.prog w = .ok (.float .f32 (fmul (fmul (blkB wd gp t h) sh) (opnB wd gp t 1))) w := fun T w => run_float_arith w .mul T .f32 _ _ _ f2
  have r3 : ∀ T w, (binOp .quo T (.float .f32 (fmul (fmul (blkB wd gp t h) sh) (opnB wd gp t 1))) (.float .f32 1073741824)).run Tryz.prog w = .ok (.float .f32 (bncB wd gp t sh h)) w := fun T w => run_float_arith w .quo T .f32 _ _ _ f3
  have r4 : ∀ T w, (binOp .add T (.float .f32 (opnB wd gp t h)) (.float .f32 (bncB wd gp t sh h))).run Tryz.prog w = .ok (.float .f32 (pasB wd gp t sh h)) w := fun T w => run_float_arith w .add T .f32 _ _ _ f4
  have H0 := Lib.hid c1
  have H1 := Lib.hid c2
  have hb : Below w.heap.size w w := Below.refl _ _
  clear f0 f1 f2 f3 f4 ok h0 h1 c1 c2
  generalize fmul (fmul (blkB wd gp t h) sh) (opnB wd gp t 1) = x2 at *
  generalize fmul (blkB wd gp t h) sh = x1 at *
  go_enter Tryz.func88, Tryz.ntmps88
  go_wp2_with (first | (refine wpList_load_part rfl 33 _ rfl g1 0 5 rfl 33 (blindC n wd gp t sh) (0, 0) _ H0.out Tryz.underlying33 rfl info_blind (blind_fits _ _ _ _ _) _ (blind_all _ _ _ _ _) ?_) | (go_at_call 89; refine (HB.out _).mono ?_; rintro e W1 ⟨rfl, hb1⟩; replace H0 := Lib.hid (below_row hb1 H0.out); replace H1 := Lib.hid (below_row hb1 H1.out); replace hb := hb.trans (hb1.mono hb.size); clear hb1 k0 k1 k2 k3 k4 k5; obtain ⟨k0, k1, k2, k3, k4⟩ := blind_cells H0.out; have k5 : W1.cell? ⟨g2, 0, none⟩ = some (.float .f32 (opnB wd gp t 1)) := by rw [cell_of_row W1 _ _ _ _ _ H1.out]; rfl))
  go_ret
  exact ⟨rfl, hb⟩

end Go.Proofs.YtdbleddcnknmiaaGreatDoor

namespace Go.Proofs.YtdbleddcnknmiaaGreatDoor
open Go.RowKit

/-- The light into a window. -/
def winB (wd gp : Nat) (t : Int) (sh : Nat) (hs ts : List Int) (hour facing : Int) : Nat := if 0 < atH hs hour then fmul (fallOf hs ts hour facing) (pasB wd gp t sh (atH hs hour)) else 0

theorem win_ok (wd gp : Nat) (t : Int) {sh : Nat} (hs : sh ≤ 1065353216 ∨ sh = 2147483648) (x d : Int) (h0 : 0 < x) (h1 : x ≤ 64) :
    floatBits .mul .f32 (fallB x d) (pasB wd gp t sh x) = some (fmul (fallB x d) (pasB wd gp t sh x)) ∧ pos32 (fmul (fallB x d) (pasB wd gp t sh x)) = true := by
  have hn := fall_num x d h0 h1
  have hp := fallB_pos x d
  have hq := (pas_facts wd gp t hs x).2.2.2.2
  generalize fallB x d = F at *
  generalize pasB wd gp t sh x = P at *
  obtain ⟨k, j, hk, _⟩ := read_pos (x := P) hq
  obtain ⟨s, m, e, hr⟩ := num32_get hn
  have hs : s = false := by
    unfold pos32 at hp
    rw [hr] at hp
    simpa using hp
  subst hs
  have h : Ieee.single.mul F P = some (Ieee.single.write (.number (false ^^ false) (m * k) (e + (-149 + (j : Int))))) := by
    unfold Ieee.Format.mul
    rw [hr, hk]; rfl
  have e1 : fmul F P = Ieee.single.write (.number (false ^^ false) (m * k) (e + (-149 + (j : Int)))) := by unfold fmul; rw [h]; rfl
  rw [e1]
  exact ⟨h, pos_nearest _ _⟩
theorem winB_pos (wd gp : Nat) (t : Int) {sh : Nat} (hsh : sh ≤ 1065353216 ∨ sh = 2147483648) (hs ts : List Int) (hour facing : Int) (h1 : atH hs hour ≤ 64) : pos32 (winB wd gp t sh hs ts hour facing) = true := by
  unfold winB
  split
  · rename_i h0
    exact (win_ok wd gp t hsh _ _ h0 h1).2
  · decide

end Go.Proofs.YtdbleddcnknmiaaGreatDoor

namespace Go.Proofs.YtdbleddcnknmiaaGreatDoor
open Go.RowKit

attribute [local go_sem] run_store_f

set_option maxRecDepth 100000 in
set_option maxHeartbeats 1000000 in
theorem windowAt_up (n : Int) (wd gp : Nat) (t : Int) (sh : Nat) (hs ts : List Int) (hh : hs.length = 24) (ht : ts.length = 24) (ok : BlOk n wd gp t sh) (hour facing : Int) (hr0 : 0 ≤ hour) (hr1 : hour < 24) (hf0 : 0 ≤ facing) (hf1 : facing ≤ 255) (hx1 : atH hs hour ≤ 64) (hy0 : 0 ≤ atH ts hour) (hy1 : atH ts hour ≤ 255) (hpos : 0 < atH hs hour) (p1 p2 : Nat) (w : World) (c1 : w.heap[p1]? = some (.cells (blindC n wd gp t sh) 33 (0, 0))) (c2 : w.heap[p2]? = some (.cells #[.float .f32 (opnB wd gp t 1)] 23 (0, 0))) :
    Calls Tryz.prog 69 #[.func (.func 88) #[] #[.pointer (some ⟨p1, 0, none⟩), .pointer (some ⟨p2, 0, none⟩)], .agg (sunC hs ts), .int .i64 hour, .int .i64 facing] w fun e w' => e = .returned (.float .f32 (fmul (fallOf hs ts hour facing) (pasB wd gp t sh (atH hs hour)))) ∧ Below w.heap.size w w' := by
  have Hh := Lib.hid hh
  have Ht := Lib.hid ht
  have Hup := Lib.hid (upAt_any hs ts hh hour hr0 hr1)
  have HF := Lib.hid (fallAt_any hs ts hh ht hour facing hr0 hr1 hf0 hf1 hx1 hy0 hy1)
  have HP := Lib.hid (fun w c1 c2 => passes_call n wd gp t sh ok p1 p2 (atH hs hour) (by omega) hx1 w c1 c2)
  have hm : floatBits .mul .f32 (fallOf hs ts hour facing) (pasB wd gp t sh (atH hs hour)) = some (fmul (fallOf hs ts hour facing) (pasB wd gp t sh (atH hs hour))) := (win_ok wd gp t ok.2.2.2.2.2.2.2.2 _ _ hpos hx1).1
  have r : ∀ T w, (binOp .mul T (.float .f32 (fallOf hs ts hour facing)) (.float .f32 (pasB wd gp t sh (atH hs hour)))).run Tryz.prog w = .ok (.float .f32 (fmul (fallOf hs ts hour facing) (pasB wd gp t sh (atH hs hour)))) w := fun T w => run_float_arith w .mul T .f32 _ _ _ hm
  have C1 := Lib.hid c1
  have C2 := Lib.hid c2
  have hw64 : IntKind.i64.wrap (atH hs hour) = atH hs hour := i64_small _ (by omega) (by omega)
  have hd : decide (0 < atH hs hour) = true := decide_eq_true hpos
  rw [hd] at Hup
  clear ok hh ht hm hd c1 c2
  generalize fallOf hs ts hour facing = F at *
  obtain ⟨k, rfl⟩ := Int.eq_ofNat_of_zero_le hr0
  have hk : k < 24 := by omega
  have ea : hs[k]?.getD 0 = atH hs (k : Int) := by unfold atH; rw [Int.toNat_natCast]
  generalize pasB wd gp t sh (atH hs (k : Int)) = P at *
  generalize atH hs (k : Int) = x at *
  have Hx := Lib.hid ea
  clear ea
  go_enter Tryz.func69, Tryz.ntmps69
  go_upto_region 1 with (fail)
  refine abs_world (fun W => W.heap[w.heap.size]? = some (.cells (sunC hs ts) 35 (0, 0)) ∧ W.heap[p1]? = some (.cells (blindC n wd gp t sh) 33 (0, 0)) ∧ W.heap[p2]? = some (.cells #[.float .f32 (opnB wd gp t 1)] 23 (0, 0)) ∧ Below w.heap.size w W) ⟨heap_alloc_new _ _, below_row ((Below.refl _ _).alloc (Nat.le_refl _) _) C1.out, below_row ((Below.refl _ _).alloc (Nat.le_refl _) _) C2.out, (Below.refl _ _).alloc (Nat.le_refl _) _⟩ ?_
  clear C1 C2
  rintro W ⟨h0, h1, h2, hb⟩
  have H0 := Lib.hid h0
  have C1 := Lib.hid h1
  have C2 := Lib.hid h2
  clear h0 h1 h2
  go_upto_region 3 with (first | (refine wpList_load_part rfl 35 _ rfl w.heap.size 0 48 rfl 35 (sunC hs ts) (0, 0) _ H0.out Tryz.underlying35 rfl info_sun (sun_fits _ _ Hh.out Ht.out) (sunC hs ts) (sun_all _ _ Hh.out Ht.out) ?_) | (go_at_call 85; refine (Hup.out _).mono ?_; rintro e W1 ⟨rfl, hb1⟩; replace H0 := Lib.hid (below_row hb1 H0.out); replace C1 := Lib.hid (below_row hb1 C1.out); replace C2 := Lib.hid (below_row hb1 C2.out); replace hb := hb.trans (hb1.mono hb.size); clear hb1))
  have d0 := H0.out
  have d1 := C1.out
  have d2 := C2.out
  clear H0 C1 C2
  refine wp_region_held_drew (S := (fun W => W.heap[w.heap.size]? = some (.cells (sunC hs ts) 35 (0, 0)) ∧ W.heap[p1]? = some (.cells (blindC n wd gp t sh) 33 (0, 0)) ∧ W.heap[p2]? = some (.cells #[.float .f32 (opnB wd gp t 1)] 23 (0, 0)) ∧ Below w.heap.size w W)) (by kernel_rfl) ⟨d0, d1, d2, hb.drew⟩ (fun hHeld => ?_)
  refine take_op (i := 0) (d := 13) (v := .agg (sunC hs ts)) rfl rfl (by kernel_rfl) (by kernel_rfl) (by kernel_rfl) (fun _ _ _ h => h) (yields_row (by rfl) 35 (.tmp 5) (by rfl) w.heap.size 0 48 (by rfl) 35 (sunC hs ts) (0, 0) _ (fun _ h => h.1) Tryz.underlying35 rfl info_sun (sun_fits _ _ Hh.out Ht.out) (sunC hs ts) (sun_all _ _ Hh.out Ht.out)) hHeld ?_
  simp only [List.setIfInBounds_toArray, List.set_cons_zero, List.set_cons_succ]
  refine take_op (i := 1) (d := 14) (v := ?_) rfl rfl (by kernel_rfl) (by kernel_rfl) (by kernel_rfl) (fun _ _ _ h => h) (Or.inl ⟨by rfl, ?hy1u1⟩) hHeld ?rest1u1
  case hy1u1 =>
    intro w' hS'
    go_simp
    try with_reducible rfl
  simp only [List.setIfInBounds_toArray, List.set_cons_zero, List.set_cons_succ]
  refine take_op (i := 2) (d := 15) (v := ?_) rfl rfl (by kernel_rfl) (by kernel_rfl) (by kernel_rfl) (fun _ _ _ h => h) (Or.inl ⟨by rfl, ?hy2u2⟩) hHeld ?rest2u2
  case hy2u2 =>
    intro w' hS'
    go_simp
    try with_reducible rfl
  simp only [List.setIfInBounds_toArray, List.set_cons_zero, List.set_cons_succ]
  refine take_op (i := 4) (d := 17) (v := ?_) rfl rfl (by kernel_rfl) (by kernel_rfl) (by kernel_rfl) (fun _ _ _ h => h) (Or.inl ⟨by rfl, ?hy4u3⟩) hHeld ?rest4u3
  case hy4u3 =>
    intro w' hS'
    go_simp
    try with_reducible rfl
  simp only [List.setIfInBounds_toArray, List.set_cons_zero, List.set_cons_succ]
  refine take_op (i := 5) (d := 18) (v := ?_) rfl rfl (by kernel_rfl) (by kernel_rfl) (by kernel_rfl) (fun _ _ _ h => h) (Or.inl ⟨by rfl, ?hy5u4⟩) hHeld ?rest5u4
  case hy5u4 =>
    intro w' hS'
    go_simp
    try with_reducible rfl
  simp only [List.setIfInBounds_toArray, List.set_cons_zero, List.set_cons_succ]
  refine take_op (i := 6) (d := 19) (v := ?_) rfl rfl (by kernel_rfl) (by kernel_rfl) (by kernel_rfl) (fun _ _ _ h => h) (Or.inl ⟨by rfl, ?hy6u5⟩) hHeld ?rest6u5
  case hy6u5 =>
    intro w' hS'
    go_simp
    try with_reducible rfl
  simp only [List.setIfInBounds_toArray, List.set_cons_zero, List.set_cons_succ]
  refine take_op (i := 7) (d := 20) (v := ?_) rfl rfl (by kernel_rfl) (by kernel_rfl) (by kernel_rfl) (fun _ _ _ h => h) (Or.inl ⟨by rfl, ?hy7u6⟩) hHeld ?rest7u6
  case hy7u6 =>
    intro w' hS'
    go_simp
    try with_reducible rfl
  simp only [List.setIfInBounds_toArray, List.set_cons_zero, List.set_cons_succ]
  refine take_op (i := 8) (d := 21) (v := ?_) rfl rfl (by kernel_rfl) (by kernel_rfl) (by kernel_rfl) (fun _ _ _ h => h) (Or.inl ⟨by rfl, ?hy8u7⟩) hHeld ?rest8u7
  case hy8u7 =>
    intro w' hS'
    obtain ⟨s1, _⟩ := hS'
    have qk := cell_sun_h s1 Hh.out k hk
    rw [Hx.out] at qk
    clear s1
    go_simp
    try with_reducible rfl
  simp only [List.setIfInBounds_toArray, List.set_cons_zero, List.set_cons_succ]
  refine take_op (i := 9) (d := 22) (v := ?_) rfl rfl (by kernel_rfl) (by kernel_rfl) (by kernel_rfl) (fun _ _ _ h => h) (Or.inl ⟨by rfl, ?hy9u8⟩) hHeld ?rest9u8
  case hy9u8 =>
    intro w' hS'
    go_simp
    try with_reducible rfl
  simp only [List.setIfInBounds_toArray, List.set_cons_zero, List.set_cons_succ]
  refine wpAnyH_ready (rs := [3]) (by kernel_rfl) (by simp) ?_
  refine AllReadyH.cons rfl (fun K hK => ?_) AllReadyH.nil
  go_simp
  refine (HF.out _).mono ?_
  rintro e W1 ⟨rfl, hb1⟩
  refine hK.out _ _ (⟨below_row hb1 hHeld.1, below_row hb1 hHeld.2.1, below_row hb1 hHeld.2.2.1, hHeld.2.2.2.trans (hb1.mono hHeld.2.2.2.size)⟩) (fun hHeld2 => ?_)
  clear hK K
  replace hHeld := hHeld2
  clear hHeld2
  refine wpAnyH_ready (rs := [10]) (by kernel_rfl) (by simp) ?_
  refine AllReadyH.cons rfl (fun K hK => ?_) AllReadyH.nil
  go_simp
  refine (HP.out _ hHeld.2.1 hHeld.2.2.1).mono ?_
  rintro e W3 ⟨rfl, hb3⟩
  refine hK.out _ _ (⟨below_row hb3 hHeld.1, below_row hb3 hHeld.2.1, below_row hb3 hHeld.2.2.1, hHeld.2.2.2.trans (hb3.mono hHeld.2.2.2.size)⟩) (fun hHeld2 => ?_)
  clear hK K
  replace hHeld := hHeld2
  clear hHeld2
  refine take_op (i := 11) (d := 24) (v := ?_) rfl rfl (by kernel_rfl) (by kernel_rfl) (by kernel_rfl) (fun _ _ _ h => h) (Or.inl ⟨by rfl, ?hy11u9⟩) hHeld ?rest11u9
  case hy11u9 =>
    intro w' hS'
    go_simp
    try with_reducible rfl
  simp only [List.setIfInBounds_toArray, List.set_cons_zero, List.set_cons_succ]
  refine take_op (i := 12) (d := 8) (v := ?_) rfl rfl (by kernel_rfl) (by kernel_rfl) (by kernel_rfl) (fun _ _ _ h => h) (Or.inl ⟨by rfl, ?hy12u10⟩) hHeld ?rest12u10
  case hy12u10 =>
    intro w' hS'
    go_simp
    try with_reducible rfl
  simp only [List.setIfInBounds_toArray, List.set_cons_zero, List.set_cons_succ]
  refine wpAnyH_done (by kernel_rfl) ?_ _
  have hbx := hHeld.2.2.2
  clear hHeld d0 d1 d2 hb
  go_wp2
  go_ret
  exact ⟨rfl, hbx⟩

set_option maxRecDepth 100000 in
set_option maxHeartbeats 1000000 in
theorem windowAt_no (n : Int) (wd gp : Nat) (t : Int) (sh : Nat) (hs ts : List Int) (hh : hs.length = 24) (ht : ts.length = 24) (hour facing : Int) (hr0 : 0 ≤ hour) (hr1 : hour < 24) (hpos : ¬ 0 < atH hs hour) (p1 p2 : Nat) (w : World) (c1 : w.heap[p1]? = some (.cells (blindC n wd gp t sh) 33 (0, 0))) (c2 : w.heap[p2]? = some (.cells #[.float .f32 (opnB wd gp t 1)] 23 (0, 0))) :
    Calls Tryz.prog 69 #[.func (.func 88) #[] #[.pointer (some ⟨p1, 0, none⟩), .pointer (some ⟨p2, 0, none⟩)], .agg (sunC hs ts), .int .i64 hour, .int .i64 facing] w fun e w' => e = .returned (.float .f32 0) ∧ Below w.heap.size w w' := by
  have Hh := Lib.hid hh
  have Ht := Lib.hid ht
  have Hup := Lib.hid (upAt_any hs ts hh hour hr0 hr1)
  have C1 := Lib.hid c1
  have C2 := Lib.hid c2
  have hd : decide (0 < atH hs hour) = false := decide_eq_false hpos
  rw [hd] at Hup
  clear hh ht hd c1 c2
  go_enter Tryz.func69, Tryz.ntmps69
  go_upto_region 1 with (fail)
  refine abs_world (fun W => W.heap[w.heap.size]? = some (.cells (sunC hs ts) 35 (0, 0)) ∧ W.heap[p1]? = some (.cells (blindC n wd gp t sh) 33 (0, 0)) ∧ W.heap[p2]? = some (.cells #[.float .f32 (opnB wd gp t 1)] 23 (0, 0)) ∧ Below w.heap.size w W) ⟨heap_alloc_new _ _, below_row ((Below.refl _ _).alloc (Nat.le_refl _) _) C1.out, below_row ((Below.refl _ _).alloc (Nat.le_refl _) _) C2.out, (Below.refl _ _).alloc (Nat.le_refl _) _⟩ ?_
  clear C1 C2
  rintro W ⟨h0, h1, h2, hb⟩
  have H0 := Lib.hid h0
  have C1 := Lib.hid h1
  have C2 := Lib.hid h2
  clear h0 h1 h2
  go_wp2_with (first | (refine wpList_load_part rfl 35 _ rfl w.heap.size 0 48 rfl 35 (sunC hs ts) (0, 0) _ H0.out Tryz.underlying35 rfl info_sun (sun_fits _ _ Hh.out Ht.out) (sunC hs ts) (sun_all _ _ Hh.out Ht.out) ?_) | (go_at_call 85; refine (Hup.out _).mono ?_; rintro e W1 ⟨rfl, hb1⟩; replace H0 := Lib.hid (below_row hb1 H0.out); replace C1 := Lib.hid (below_row hb1 C1.out); replace C2 := Lib.hid (below_row hb1 C2.out); replace hb := hb.trans (hb1.mono hb.size); clear hb1))
  go_ret
  exact ⟨rfl, hb⟩

theorem windowAt_any (n : Int) (wd gp : Nat) (t : Int) (sh : Nat) (hs ts : List Int) (hh : hs.length = 24) (ht : ts.length = 24) (ok : BlOk n wd gp t sh) (hour facing : Int) (hr0 : 0 ≤ hour) (hr1 : hour < 24) (hf0 : 0 ≤ facing) (hf1 : facing ≤ 255) (hx1 : atH hs hour ≤ 64) (hy0 : 0 ≤ atH ts hour) (hy1 : atH ts hour ≤ 255) (p1 p2 : Nat) (w : World) (c1 : w.heap[p1]? = some (.cells (blindC n wd gp t sh) 33 (0, 0))) (c2 : w.heap[p2]? = some (.cells #[.float .f32 (opnB wd gp t 1)] 23 (0, 0))) :
    Calls Tryz.prog 69 #[.func (.func 88) #[] #[.pointer (some ⟨p1, 0, none⟩), .pointer (some ⟨p2, 0, none⟩)], .agg (sunC hs ts), .int .i64 hour, .int .i64 facing] w fun e w' => e = .returned (.float .f32 (winB wd gp t sh hs ts hour facing)) ∧ Below w.heap.size w w' := by
  unfold winB
  by_cases hpos : 0 < atH hs hour
  · rw [if_pos hpos]; exact windowAt_up n wd gp t sh hs ts hh ht ok hour facing hr0 hr1 hf0 hf1 hx1 hy0 hy1 hpos p1 p2 w c1 c2
  · rw [if_neg hpos]; exact windowAt_no n wd gp t sh hs ts hh ht hour facing hr0 hr1 hpos p1 p2 w c1 c2

set_option maxRecDepth 100000 in
set_option maxHeartbeats 1000000 in
theorem l02Window_up (n : Int) (wd gp : Nat) (t : Int) (sh : Nat) (hs ts : List Int) (hh : hs.length = 24) (ht : ts.length = 24) (ok : BlOk n wd gp t sh) (hour facing : Int) (hr0 : 0 ≤ hour) (hr1 : hour < 24) (hf0 : 0 ≤ facing) (hf1 : facing ≤ 255) (hx1 : atH hs hour ≤ 64) (hy0 : 0 ≤ atH ts hour) (hy1 : atH ts hour ≤ 255) (hpos : 0 < atH hs hour) (g1 g2 : Nat) (w : World) (c1 : w.heap[g1]? = some (.cells (blindC n wd gp t sh) 33 (0, 0))) (c2 : w.heap[g2]? = some (.cells (sunC hs ts) 35 (0, 0))) :
    Calls Tryz.prog 48 #[.pointer (some ⟨g1, 0, none⟩), .pointer (some ⟨g2, 0, none⟩), .int .i64 hour, .int .i64 facing] w fun e w' => e = .returned (.float .f32 (fmul (fallOf hs ts hour facing) (pasB wd gp t sh (atH hs hour)))) ∧ Below w.heap.size w w' := by
  have Hh := Lib.hid hh
  have Ht := Lib.hid ht
  have HF := Lib.hid (fun w hg => l01Fall_any g2 hs ts hh ht hour facing hr0 hr1 hf0 hf1 hx1 hy0 hy1 35 (0, 0) w hg)
  have HP := Lib.hid (fun w hg => l02Pass_any n wd gp t sh ok (atH hs hour) (by omega) hx1 g1 33 (0, 0) w hg)
  have hm : floatBits .mul .f32 (fallOf hs ts hour facing) (pasB wd gp t sh (atH hs hour)) = some (fmul (fallOf hs ts hour facing) (pasB wd gp t sh (atH hs hour))) := (win_ok wd gp t ok.2.2.2.2.2.2.2.2 _ _ hpos hx1).1
  have r : ∀ T w, (binOp .mul T (.float .f32 (fallOf hs ts hour facing)) (.float .f32 (pasB wd gp t sh (atH hs hour)))).run Tryz.prog w = .ok (.float .f32 (fmul (fallOf hs ts hour facing) (pasB wd gp t sh (atH hs hour)))) w := fun T w => run_float_arith w .mul T .f32 _ _ _ hm
  have hw64 : IntKind.i64.wrap (atH hs hour) = atH hs hour := i64_small _ (by omega) (by omega)
  clear hm
  generalize fallOf hs ts hour facing = F at *
  clear ok hh ht
  obtain ⟨k, rfl⟩ := Int.eq_ofNat_of_zero_le hr0
  have hk : k < 24 := by omega
  have ea : hs[k]?.getD 0 = atH hs (k : Int) := by unfold atH; rw [Int.toNat_natCast]
  have q0 := cell_sun_h c2 Hh.out k hk
  rw [ea] at q0
  have hd : decide (atH hs (k : Int) ≤ 0) = false := decide_eq_false (by omega)
  generalize pasB wd gp t sh (atH hs (k : Int)) = P at *
  generalize atH hs (k : Int) = x at *
  have Hx := Lib.hid ea
  clear ea
  have C1 := Lib.hid c1
  have C2 := Lib.hid c2
  clear c1 c2
  go_enter Tryz.func48, Tryz.ntmps48
  go_upto_region 3 with (fail)
  have d0 := C1.out
  have d1 := C2.out
  clear C1 C2 q0
  refine wp_region_held_drew (S := (fun W => W.heap[g1]? = some (.cells (blindC n wd gp t sh) 33 (0, 0)) ∧ W.heap[g2]? = some (.cells (sunC hs ts) 35 (0, 0)) ∧ Below w.heap.size w W)) (by kernel_rfl) ⟨d0, d1, (Below.refl w.heap.size w).drew⟩ (fun hHeld => ?_)
  refine take_op (i := 0) (d := 16) (v := ?_) rfl rfl (by kernel_rfl) (by kernel_rfl) (by kernel_rfl) (fun _ _ _ h => h) (Or.inl ⟨by rfl, ?hy0u11⟩) hHeld ?rest0u11
  case hy0u11 =>
    intro w' hS'
    go_simp
    try with_reducible rfl
  simp only [List.setIfInBounds_toArray, List.set_cons_zero, List.set_cons_succ]
  refine take_op (i := 1) (d := 17) (v := ?_) rfl rfl (by kernel_rfl) (by kernel_rfl) (by kernel_rfl) (fun _ _ _ h => h) (Or.inl ⟨by rfl, ?hy1u12⟩) hHeld ?rest1u12
  case hy1u12 =>
    intro w' hS'
    go_simp
    try with_reducible rfl
  simp only [List.setIfInBounds_toArray, List.set_cons_zero, List.set_cons_succ]
  refine take_op (i := 2) (d := 18) (v := ?_) rfl rfl (by kernel_rfl) (by kernel_rfl) (by kernel_rfl) (fun _ _ _ h => h) (Or.inl ⟨by rfl, ?hy2u13⟩) hHeld ?rest2u13
  case hy2u13 =>
    intro w' hS'
    go_simp
    try with_reducible rfl
  simp only [List.setIfInBounds_toArray, List.set_cons_zero, List.set_cons_succ]
  refine take_op (i := 4) (d := 20) (v := ?_) rfl rfl (by kernel_rfl) (by kernel_rfl) (by kernel_rfl) (fun _ _ _ h => h) (Or.inl ⟨by rfl, ?hy4u14⟩) hHeld ?rest4u14
  case hy4u14 =>
    intro w' hS'
    go_simp
    try with_reducible rfl
  simp only [List.setIfInBounds_toArray, List.set_cons_zero, List.set_cons_succ]
  refine take_op (i := 5) (d := 21) (v := ?_) rfl rfl (by kernel_rfl) (by kernel_rfl) (by kernel_rfl) (fun _ _ _ h => h) (Or.inl ⟨by rfl, ?hy5u15⟩) hHeld ?rest5u15
  case hy5u15 =>
    intro w' hS'
    go_simp
    try with_reducible rfl
  simp only [List.setIfInBounds_toArray, List.set_cons_zero, List.set_cons_succ]
  refine take_op (i := 6) (d := 22) (v := ?_) rfl rfl (by kernel_rfl) (by kernel_rfl) (by kernel_rfl) (fun _ _ _ h => h) (Or.inl ⟨by rfl, ?hy6u16⟩) hHeld ?rest6u16
  case hy6u16 =>
    intro w' hS'
    go_simp
    try with_reducible rfl
  simp only [List.setIfInBounds_toArray, List.set_cons_zero, List.set_cons_succ]
  refine take_op (i := 7) (d := 23) (v := ?_) rfl rfl (by kernel_rfl) (by kernel_rfl) (by kernel_rfl) (fun _ _ _ h => h) (Or.inl ⟨by rfl, ?hy7u17⟩) hHeld ?rest7u17
  case hy7u17 =>
    intro w' hS'
    go_simp
    try with_reducible rfl
  simp only [List.setIfInBounds_toArray, List.set_cons_zero, List.set_cons_succ]
  refine take_op (i := 8) (d := 24) (v := ?_) rfl rfl (by kernel_rfl) (by kernel_rfl) (by kernel_rfl) (fun _ _ _ h => h) (Or.inl ⟨by rfl, ?hy8u18⟩) hHeld ?rest8u18
  case hy8u18 =>
    intro w' hS'
    go_simp
    try with_reducible rfl
  simp only [List.setIfInBounds_toArray, List.set_cons_zero, List.set_cons_succ]
  refine take_op (i := 9) (d := 25) (v := ?_) rfl rfl (by kernel_rfl) (by kernel_rfl) (by kernel_rfl) (fun _ _ _ h => h) (Or.inl ⟨by rfl, ?hy9u19⟩) hHeld ?rest9u19
  case hy9u19 =>
    intro w' hS'
    go_simp
    try with_reducible rfl
  simp only [List.setIfInBounds_toArray, List.set_cons_zero, List.set_cons_succ]
  refine take_op (i := 10) (d := 26) (v := ?_) rfl rfl (by kernel_rfl) (by kernel_rfl) (by kernel_rfl) (fun _ _ _ h => h) (Or.inl ⟨by rfl, ?hy10u20⟩) hHeld ?rest10u20
  case hy10u20 =>
    intro w' hS'
    obtain ⟨_, s1, _⟩ := hS'
    have qk := cell_sun_h s1 Hh.out k hk
    rw [Hx.out] at qk
    clear s1
    go_simp
    try with_reducible rfl
  simp only [List.setIfInBounds_toArray, List.set_cons_zero, List.set_cons_succ]
  refine take_op (i := 11) (d := 27) (v := ?_) rfl rfl (by kernel_rfl) (by kernel_rfl) (by kernel_rfl) (fun _ _ _ h => h) (Or.inl ⟨by rfl, ?hy11u21⟩) hHeld ?rest11u21
  case hy11u21 =>
    intro w' hS'
    go_simp
    try with_reducible rfl
  simp only [List.setIfInBounds_toArray, List.set_cons_zero, List.set_cons_succ]
  refine wpAnyH_ready (rs := [3]) (by kernel_rfl) (by simp) ?_
  refine AllReadyH.cons rfl (fun K hK => ?_) AllReadyH.nil
  go_simp
  refine (HF.out _ hHeld.2.1).mono ?_
  rintro e W1 ⟨rfl, hb1⟩
  refine hK.out _ _ (⟨below_row hb1 hHeld.1, below_row hb1 hHeld.2.1, hHeld.2.2.trans (hb1.mono hHeld.2.2.size)⟩) (fun hHeld2 => ?_)
  clear hK K
  replace hHeld := hHeld2
  clear hHeld2
  refine wpAnyH_ready (rs := [12]) (by kernel_rfl) (by simp) ?_
  refine AllReadyH.cons rfl (fun K hK => ?_) AllReadyH.nil
  go_simp
  refine (HP.out _ hHeld.1).mono ?_
  rintro e W3 ⟨rfl, hb3⟩
  refine hK.out _ _ (⟨below_row hb3 hHeld.1, below_row hb3 hHeld.2.1, hHeld.2.2.trans (hb3.mono hHeld.2.2.size)⟩) (fun hHeld2 => ?_)
  clear hK K
  replace hHeld := hHeld2
  clear hHeld2
  refine take_op (i := 13) (d := 29) (v := ?_) rfl rfl (by kernel_rfl) (by kernel_rfl) (by kernel_rfl) (fun _ _ _ h => h) (Or.inl ⟨by rfl, ?hy13u22⟩) hHeld ?rest13u22
  case hy13u22 =>
    intro w' hS'
    go_simp
    try with_reducible rfl
  simp only [List.setIfInBounds_toArray, List.set_cons_zero, List.set_cons_succ]
  refine take_op (i := 14) (d := 8) (v := ?_) rfl rfl (by kernel_rfl) (by kernel_rfl) (by kernel_rfl) (fun _ _ _ h => h) (Or.inl ⟨by rfl, ?hy14u23⟩) hHeld ?rest14u23
  case hy14u23 =>
    intro w' hS'
    go_simp
    try with_reducible rfl
  simp only [List.setIfInBounds_toArray, List.set_cons_zero, List.set_cons_succ]
  refine wpAnyH_done (by kernel_rfl) ?_ _
  have hbx := hHeld.2.2
  clear hHeld d0 d1
  go_wp2
  go_ret
  exact ⟨rfl, hbx⟩

set_option maxRecDepth 100000 in
set_option maxHeartbeats 1000000 in
theorem l02Window_no (n : Int) (wd gp : Nat) (t : Int) (sh : Nat) (hs ts : List Int) (hh : hs.length = 24) (ht : ts.length = 24) (hour facing : Int) (hr0 : 0 ≤ hour) (hr1 : hour < 24) (hx1 : atH hs hour ≤ 64) (hy0 : 0 ≤ atH ts hour) (hy1 : atH ts hour ≤ 255) (hpos : ¬ 0 < atH hs hour) (g1 g2 : Nat) (w : World) (c1 : w.heap[g1]? = some (.cells (blindC n wd gp t sh) 33 (0, 0))) (c2 : w.heap[g2]? = some (.cells (sunC hs ts) 35 (0, 0))) :
    Calls Tryz.prog 48 #[.pointer (some ⟨g1, 0, none⟩), .pointer (some ⟨g2, 0, none⟩), .int .i64 hour, .int .i64 facing] w fun e w' => e = .returned (.float .f32 (0)) ∧ Below w.heap.size w w' := by
  have Hh := Lib.hid hh
  have Ht := Lib.hid ht
  clear hh ht
  obtain ⟨k, rfl⟩ := Int.eq_ofNat_of_zero_le hr0
  have hk : k < 24 := by omega
  have ea : hs[k]?.getD 0 = atH hs (k : Int) := by unfold atH; rw [Int.toNat_natCast]
  have q0 := cell_sun_h c2 Hh.out k hk
  rw [ea] at q0
  have hd : decide (atH hs (k : Int) ≤ 0) = true := decide_eq_true (by omega)
  generalize atH hs (k : Int) = x at *
  have Hx := Lib.hid ea
  clear ea
  have C1 := Lib.hid c1
  have C2 := Lib.hid c2
  clear c1 c2
  go_enter Tryz.func48, Tryz.ntmps48
  go_wp2
  go_ret
  exact ⟨rfl, Below.refl _ _⟩

theorem l02Window_any (n : Int) (wd gp : Nat) (t : Int) (sh : Nat) (hs ts : List Int) (hh : hs.length = 24) (ht : ts.length = 24) (ok : BlOk n wd gp t sh) (hour facing : Int) (hr0 : 0 ≤ hour) (hr1 : hour < 24) (hf0 : 0 ≤ facing) (hf1 : facing ≤ 255) (hx1 : atH hs hour ≤ 64) (hy0 : 0 ≤ atH ts hour) (hy1 : atH ts hour ≤ 255) (g1 g2 : Nat) (w : World) (c1 : w.heap[g1]? = some (.cells (blindC n wd gp t sh) 33 (0, 0))) (c2 : w.heap[g2]? = some (.cells (sunC hs ts) 35 (0, 0))) :
    Calls Tryz.prog 48 #[.pointer (some ⟨g1, 0, none⟩), .pointer (some ⟨g2, 0, none⟩), .int .i64 hour, .int .i64 facing] w fun e w' => e = .returned (.float .f32 (winB wd gp t sh hs ts hour facing)) ∧ Below w.heap.size w w' := by
  unfold winB
  by_cases hpos : 0 < atH hs hour
  · rw [if_pos hpos]; exact l02Window_up n wd gp t sh hs ts hh ht ok hour facing hr0 hr1 hf0 hf1 hx1 hy0 hy1 hpos g1 g2 w c1 c2
  · rw [if_neg hpos]; exact l02Window_no n wd gp t sh hs ts hh ht hour facing hr0 hr1 hx1 hy0 hy1 hpos g1 g2 w c1 c2

end Go.Proofs.YtdbleddcnknmiaaGreatDoor

namespace Go.Proofs.YtdbleddcnknmiaaGreatDoor
open Go.ChangeShapes Go.WideShapes Go.ChangeAt Go.RowKit Go.Deep Go.Joins

attribute [local go_sem] run_store_f

set_option maxRecDepth 100000 in
set_option maxHeartbeats 1000000 in
theorem tilted_any2 (n : Int) (wd gp : Nat) (t : Int) (sh : Nat) (x : Int) (x0 : -64 ≤ x) (x1 : x ≤ 64) (w : World) :
    Calls Tryz.prog 71 #[.agg (blindC n wd gp t sh), .int .i64 x] w fun e w' => e = .returned (.agg (blindC n wd gp x sh)) ∧ Below w.heap.size w w' := by
  unfold blindC
  go_enter Tryz.func71, Tryz.ntmps71
  go_wp2
  refine bodyPost_ret (v := .agg #[.int .i8 n, .float .f32 wd, .float .f32 gp, .int .i16 x, .float .f32 sh]) (by simp [results, Tryz.results71, go_sem]) rfl ⟨rfl, ?_⟩
  (repeat' first | exact Below.refl _ _ | assumption | refine Below.alloc ?_ (by first | omega | (simp; done) | (simp; omega)) _ | refine Below.setCell ?_ (by first | omega | (simp; done) | (simp; omega)) _ | refine Below.drew ?_)

end Go.Proofs.YtdbleddcnknmiaaGreatDoor
