/-
  Fall, FallOn, AwOk, ShF, RyA, RxA, RwM, RyM.
-/
import Derived.Test.YtpcmcopfdghdgaaDoorMh2
import Derived.Test.YtpcmcopfdghdgaaDoorSgn
import Derived.Test.YtpcmcopfdghdgaaDoorTake
import Derived.Test.YtpcmcopfdghdgaaDoorMh1
import Derived.Test.YtpcmcopfdghdgaaDoorMul
import Derived.Test.YtpcmcopfdghdgaaDoorLit

namespace Go.Proofs.YtpcmcopfdghdgaaDoor
open Go.ChangeShapes Go.WideShapes Go.ChangeAt Go.RowKit

/-- The light of an hour on a window. -/
def fallOf (hs ts : List Int) (hour facing : Int) : Nat := fallB (atH hs hour) (atH ts hour - facing)

theorem i64_small (n : Int) (h0 : -100000 ≤ n) (h1 : n ≤ 100000) : IntKind.i64.wrap n = n := by
  simp [IntKind.wrap, IntKind.signed, IntKind.bits]
  omega

theorem litB_gt {l : Nat} (h : FloatKind.f32.format.order l 0 = some .gt) : litB l = l := if_pos h

theorem litB_no {l : Nat} {o : Ordering} (h : FloatKind.f32.format.order l 0 = some o) (ho : o ≠ .gt) : litB l = 0 := by
  unfold litB
  rw [h, if_neg (fun e => ho (by injection e))]

set_option maxRecDepth 100000 in
set_option maxHeartbeats 1000000 in
theorem fallAt_up (hs ts : List Int) (hh : hs.length = 24) (ht : ts.length = 24) (hour facing : Int) (hr0 : 0 ≤ hour) (hr1 : hour < 24) (hf0 : 0 ≤ facing) (hf1 : facing ≤ 255) (hx1 : atH hs hour ≤ 64) (hy0 : 0 ≤ atH ts hour) (hy1 : atH ts hour ≤ 255) (hpos : 0 < atH hs hour) (l : Nat) (hl : fmul (cosB (atH hs hour)) (cosB (angB (atH ts hour - facing))) = l) (o : Ordering) (ho : FloatKind.f32.format.order l 0 = some o) (w : World) :
    Calls Tryd.prog 43 #[.agg (sunC hs ts), .int .i64 hour, .int .i64 facing] w fun e w' => e = .returned (.float .f32 (litB l)) ∧ Below w.heap.size w w' := by
  have Hh := Lib.hid hh
  have Ht := Lib.hid ht
  have Hup := Lib.hid (upAt_any hs ts hh hour hr0 hr1)
  have hm := (mul_ok (cosB_num (atH hs hour)) (cosB_num (angB (atH ts hour - facing)))).1
  rw [hl] at hm
  have r : ∀ t w, (binOp .mul t (.float .f32 (cosB (atH hs hour))) (.float .f32 (cosB (angB (atH ts hour - facing))))).run Tryd.prog w = .ok (.float .f32 l) w := fun t w => run_float_arith w .mul t .f32 _ _ _ hm
  have hal := angB_lo (atH ts hour - facing)
  have hah := angB_hi (atH ts hour - facing)
  clear hh ht hm hl
  obtain ⟨k, rfl⟩ := Int.eq_ofNat_of_zero_le hr0
  have hk : k < 24 := by omega
  have ea : hs[k]?.getD 0 = atH hs (k : Int) := by unfold atH; rw [Int.toNat_natCast]
  have eb : ts[k]?.getD 0 = atH ts (k : Int) := by unfold atH; rw [Int.toNat_natCast]
  generalize atH hs (k : Int) = x at *
  generalize atH ts (k : Int) = y at *
  have Hx := Lib.hid ea
  have Hy := Lib.hid eb
  have hd : decide (0 < x) = true := decide_eq_true hpos
  rw [hd] at Hup
  clear hd ea eb
  cases o
  · have HL := Lib.hid (litB_no ho (by decide))
    go_enter Tryd.func43, Tryd.ntmps43
    go_upto_region 1 with (fail)
    refine abs_code (fun W => Below w.heap.size w W ∧ W.heap[w.heap.size]? = some (.cells (sunC hs ts) 37 (0, 0))) ⟨(Below.refl _ _).alloc (Nat.le_refl _) _, heap_alloc_new _ _⟩ ?_
    rintro W ⟨hb, h0⟩
    have H0 := Lib.hid h0
    clear h0
    go_wp2_with (first | (refine wpList_load_part rfl 37 _ rfl w.heap.size 0 48 rfl 37 (sunC hs ts) (0, 0) _ H0.out Tryd.underlying37 rfl info_sun (sun_fits _ _ Hh.out Ht.out) (sunC hs ts) (sun_all _ _ Hh.out Ht.out) ?_) | (go_at_call 65; refine (Hup.out _).mono ?_; rintro e W1 ⟨rfl, hb1⟩; replace H0 := Lib.hid (below_row hb1 H0.out); replace hb := hb.trans (hb1.mono hb.size); clear hb1; have hc1 := cell_sun_h H0.out Hh.out k hk; rw [Hx.out] at hc1; have hc2 := cell_sun_t H0.out Hh.out Ht.out k hk; rw [Hy.out] at hc2) | (go_at_call 66; refine (angleOf_any _ _).mono ?_; rintro e w' ⟨rfl, rfl⟩) | (go_at_call 67; refine (cosine_any _ (by omega) (by omega) _).mono ?_; rintro e W1 ⟨rfl, hb1⟩; replace H0 := Lib.hid (below_row hb1 H0.out); replace hb := hb.trans (hb1.mono hb.size); clear hb1))
    go_ret
    exact ⟨ret_f32 HL.out.symm, hb⟩
  · have HL := Lib.hid (litB_no ho (by decide))
    go_enter Tryd.func43, Tryd.ntmps43
    go_upto_region 1 with (fail)
    refine abs_code (fun W => Below w.heap.size w W ∧ W.heap[w.heap.size]? = some (.cells (sunC hs ts) 37 (0, 0))) ⟨(Below.refl _ _).alloc (Nat.le_refl _) _, heap_alloc_new _ _⟩ ?_
    rintro W ⟨hb, h0⟩
    have H0 := Lib.hid h0
    clear h0
    go_wp2_with (first | (refine wpList_load_part rfl 37 _ rfl w.heap.size 0 48 rfl 37 (sunC hs ts) (0, 0) _ H0.out Tryd.underlying37 rfl info_sun (sun_fits _ _ Hh.out Ht.out) (sunC hs ts) (sun_all _ _ Hh.out Ht.out) ?_) | (go_at_call 65; refine (Hup.out _).mono ?_; rintro e W1 ⟨rfl, hb1⟩; replace H0 := Lib.hid (below_row hb1 H0.out); replace hb := hb.trans (hb1.mono hb.size); clear hb1; have hc1 := cell_sun_h H0.out Hh.out k hk; rw [Hx.out] at hc1; have hc2 := cell_sun_t H0.out Hh.out Ht.out k hk; rw [Hy.out] at hc2) | (go_at_call 66; refine (angleOf_any _ _).mono ?_; rintro e w' ⟨rfl, rfl⟩) | (go_at_call 67; refine (cosine_any _ (by omega) (by omega) _).mono ?_; rintro e W1 ⟨rfl, hb1⟩; replace H0 := Lib.hid (below_row hb1 H0.out); replace hb := hb.trans (hb1.mono hb.size); clear hb1))
    go_ret
    exact ⟨ret_f32 HL.out.symm, hb⟩
  · have HL := Lib.hid (litB_gt ho)
    go_enter Tryd.func43, Tryd.ntmps43
    go_upto_region 1 with (fail)
    refine abs_code (fun W => Below w.heap.size w W ∧ W.heap[w.heap.size]? = some (.cells (sunC hs ts) 37 (0, 0))) ⟨(Below.refl _ _).alloc (Nat.le_refl _) _, heap_alloc_new _ _⟩ ?_
    rintro W ⟨hb, h0⟩
    have H0 := Lib.hid h0
    clear h0
    go_wp2_with (first | (refine wpList_load_part rfl 37 _ rfl w.heap.size 0 48 rfl 37 (sunC hs ts) (0, 0) _ H0.out Tryd.underlying37 rfl info_sun (sun_fits _ _ Hh.out Ht.out) (sunC hs ts) (sun_all _ _ Hh.out Ht.out) ?_) | (go_at_call 65; refine (Hup.out _).mono ?_; rintro e W1 ⟨rfl, hb1⟩; replace H0 := Lib.hid (below_row hb1 H0.out); replace hb := hb.trans (hb1.mono hb.size); clear hb1; have hc1 := cell_sun_h H0.out Hh.out k hk; rw [Hx.out] at hc1; have hc2 := cell_sun_t H0.out Hh.out Ht.out k hk; rw [Hy.out] at hc2) | (go_at_call 66; refine (angleOf_any _ _).mono ?_; rintro e w' ⟨rfl, rfl⟩) | (go_at_call 67; refine (cosine_any _ (by omega) (by omega) _).mono ?_; rintro e W1 ⟨rfl, hb1⟩; replace H0 := Lib.hid (below_row hb1 H0.out); replace hb := hb.trans (hb1.mono hb.size); clear hb1))
    go_ret
    exact ⟨ret_f32 HL.out.symm, hb⟩

set_option maxRecDepth 100000 in
set_option maxHeartbeats 1000000 in
theorem fallAt_any (hs ts : List Int) (hh : hs.length = 24) (ht : ts.length = 24) (hour facing : Int) (hr0 : 0 ≤ hour) (hr1 : hour < 24) (hf0 : 0 ≤ facing) (hf1 : facing ≤ 255) (hx1 : atH hs hour ≤ 64) (hy0 : 0 ≤ atH ts hour) (hy1 : atH ts hour ≤ 255) (w : World) :
    Calls Tryd.prog 43 #[.agg (sunC hs ts), .int .i64 hour, .int .i64 facing] w fun e w' => e = .returned (.float .f32 (fallOf hs ts hour facing)) ∧ Below w.heap.size w w' := by
  by_cases hpos : 0 < atH hs hour
  · obtain ⟨o, ho⟩ := order_some (mul_ok (cosB_num (atH hs hour)) (cosB_num (angB (atH ts hour - facing)))).2 zero_fin
    have e : fallOf hs ts hour facing = litB (fmul (cosB (atH hs hour)) (cosB (angB (atH ts hour - facing)))) := by
      unfold fallOf fallB
      rw [if_pos hpos, cosB_ang]
    rw [e]
    exact fallAt_up hs ts hh ht hour facing hr0 hr1 hf0 hf1 hx1 hy0 hy1 hpos _ rfl o ho w
  · have HR : Hid (fallOf hs ts hour facing = 0) := if_neg hpos
    have Hh := Lib.hid hh
    have Ht := Lib.hid ht
    have Hup := Lib.hid (upAt_any hs ts hh hour hr0 hr1)
    have hd : decide (0 < atH hs hour) = false := decide_eq_false hpos
    rw [hd] at Hup
    clear hh ht hd hpos hx1 hy0 hy1
    go_enter Tryd.func43, Tryd.ntmps43
    go_upto_region 1 with (fail)
    refine abs_code (fun W => Below w.heap.size w W ∧ W.heap[w.heap.size]? = some (.cells (sunC hs ts) 37 (0, 0))) ⟨(Below.refl _ _).alloc (Nat.le_refl _) _, heap_alloc_new _ _⟩ ?_
    rintro W ⟨hb, h0⟩
    have H0 := Lib.hid h0
    clear h0
    go_wp2_with (first | (refine wpList_load_part rfl 37 _ rfl w.heap.size 0 48 rfl 37 (sunC hs ts) (0, 0) _ H0.out Tryd.underlying37 rfl info_sun (sun_fits _ _ Hh.out Ht.out) (sunC hs ts) (sun_all _ _ Hh.out Ht.out) ?_) | (go_at_call 65; refine (Hup.out _).mono ?_; rintro e W1 ⟨rfl, hb1⟩; replace H0 := Lib.hid (below_row hb1 H0.out); replace hb := hb.trans (hb1.mono hb.size); clear hb1))
    go_ret
    exact ⟨ret_f32 HR.out.symm, hb⟩

set_option maxRecDepth 100000 in
set_option maxHeartbeats 1000000 in
theorem l01Fall_up (b : Nat) (hs ts : List Int) (hh : hs.length = 24) (ht : ts.length = 24) (hour facing : Int) (hr0 : 0 ≤ hour) (hr1 : hour < 24) (hf0 : 0 ≤ facing) (hf1 : facing ≤ 255) (hx1 : atH hs hour ≤ 64) (hy0 : 0 ≤ atH ts hour) (hy1 : atH ts hour ≤ 255) (t : TypeId) (fr : Nat × Nat) (hpos : 0 < atH hs hour) (l : Nat) (hl : fmul (cosB (atH hs hour)) (cosB (atH ts hour - facing)) = l) (o : Ordering) (ho : FloatKind.f32.format.order l 0 = some o) (w : World) (hg : w.heap[b]? = some (.cells (sunC hs ts) t fr)) :
    Calls Tryd.prog 31 #[.pointer (some ⟨b, 0, none⟩), .int .i64 hour, .int .i64 facing] w fun e w' => e = .returned (.float .f32 (litB l)) ∧ Below w.heap.size w w' := by
  have hm := (mul_ok (cosB_num (atH hs hour)) (cosB_num (atH ts hour - facing))).1
  rw [hl] at hm
  have r : ∀ t w, (binOp .mul t (.float .f32 (cosB (atH hs hour))) (.float .f32 (cosB (atH ts hour - facing)))).run Tryd.prog w = .ok (.float .f32 l) w := fun t w => run_float_arith w .mul t .f32 _ _ _ hm
  clear hm hl
  obtain ⟨k, rfl⟩ := Int.eq_ofNat_of_zero_le hr0
  have hk : k < 24 := by omega
  have ea : hs[k]?.getD 0 = atH hs (k : Int) := by unfold atH; rw [Int.toNat_natCast]
  have eb : ts[k]?.getD 0 = atH ts (k : Int) := by unfold atH; rw [Int.toNat_natCast]
  generalize atH hs (k : Int) = x at *
  generalize atH ts (k : Int) = y at *
  have Hx := Lib.hid ea
  have Hy := Lib.hid eb
  have hc1 := cell_sun_h hg hh k hk
  have hc2 := cell_sun_t hg hh ht k hk
  rw [Hx.out] at hc1
  rw [Hy.out] at hc2
  clear hg hh ht ea eb
  have HO := Lib.hid ho
  clear ho
  have q1 := i64_small x (by omega) (by omega)
  have q2 := i64_small y (by omega) (by omega)
  have q3 := i64_small (y - facing) (by omega) (by omega)
  go_enter Tryd.func31, Tryd.ntmps31
  go_wp2
  refine wp_region_held_drew (S := (fun W => W.cell? ⟨b, k, none⟩ = some (.int .i16 x) ∧ W.cell? ⟨b, 24 + k, none⟩ = some (.int .i16 y) ∧ Below w.heap.size w W)) (by kernel_rfl) ⟨by simpa using hc1, by simpa using hc2, (Below.refl _ _).drew⟩ (fun hHeld => ?_)
  refine take_at (i := 0) (d := 15) (v := ?_) rfl rfl (by kernel_rfl) (by kernel_rfl) (by kernel_rfl) (fun _ _ _ h => h) (Or.inl ⟨by rfl, ?hy0u5⟩) hHeld ?rest0u5
  case hy0u5 =>
    intro w' hS'
    obtain ⟨s1, s2, _⟩ := hS'
    go_simp
    try with_reducible rfl
  simp only [List.setIfInBounds_toArray, List.set_cons_zero, List.set_cons_succ]
  refine take_at (i := 1) (d := 16) (v := ?_) rfl rfl (by kernel_rfl) (by kernel_rfl) (by kernel_rfl) (fun _ _ _ h => h) (Or.inl ⟨by rfl, ?hy1u6⟩) hHeld ?rest1u6
  case hy1u6 =>
    intro w' hS'
    obtain ⟨s1, s2, _⟩ := hS'
    go_simp
    try with_reducible rfl
  simp only [List.setIfInBounds_toArray, List.set_cons_zero, List.set_cons_succ]
  refine take_at (i := 2) (d := 17) (v := ?_) rfl rfl (by kernel_rfl) (by kernel_rfl) (by kernel_rfl) (fun _ _ _ h => h) (Or.inl ⟨by rfl, ?hy2u7⟩) hHeld ?rest2u7
  case hy2u7 =>
    intro w' hS'
    obtain ⟨s1, s2, _⟩ := hS'
    go_simp
    try with_reducible rfl
  simp only [List.setIfInBounds_toArray, List.set_cons_zero, List.set_cons_succ]
  refine take_at (i := 3) (d := 18) (v := ?_) rfl rfl (by kernel_rfl) (by kernel_rfl) (by kernel_rfl) (fun _ _ _ h => h) (Or.inl ⟨by rfl, ?hy3u8⟩) hHeld ?rest3u8
  case hy3u8 =>
    intro w' hS'
    obtain ⟨s1, s2, _⟩ := hS'
    go_simp
    try with_reducible rfl
  simp only [List.setIfInBounds_toArray, List.set_cons_zero, List.set_cons_succ]
  refine take_at (i := 4) (d := 19) (v := ?_) rfl rfl (by kernel_rfl) (by kernel_rfl) (by kernel_rfl) (fun _ _ _ h => h) (Or.inl ⟨by rfl, ?hy4u9⟩) hHeld ?rest4u9
  case hy4u9 =>
    intro w' hS'
    obtain ⟨s1, s2, _⟩ := hS'
    go_simp
    try with_reducible rfl
  simp only [List.setIfInBounds_toArray, List.set_cons_zero, List.set_cons_succ]
  refine take_at (i := 5) (d := 20) (v := ?_) rfl rfl (by kernel_rfl) (by kernel_rfl) (by kernel_rfl) (fun _ _ _ h => h) (Or.inl ⟨by rfl, ?hy5u10⟩) hHeld ?rest5u10
  case hy5u10 =>
    intro w' hS'
    obtain ⟨s1, s2, _⟩ := hS'
    go_simp
    try with_reducible rfl
  simp only [List.setIfInBounds_toArray, List.set_cons_zero, List.set_cons_succ]
  refine take_at (i := 6) (d := 21) (v := ?_) rfl rfl (by kernel_rfl) (by kernel_rfl) (by kernel_rfl) (fun _ _ _ h => h) (Or.inl ⟨by rfl, ?hy6u11⟩) hHeld ?rest6u11
  case hy6u11 =>
    intro w' hS'
    obtain ⟨s1, s2, _⟩ := hS'
    go_simp
    try with_reducible rfl
  simp only [List.setIfInBounds_toArray, List.set_cons_zero, List.set_cons_succ]
  refine take_at (i := 8) (d := 23) (v := ?_) rfl rfl (by kernel_rfl) (by kernel_rfl) (by kernel_rfl) (fun _ _ _ h => h) (Or.inl ⟨by rfl, ?hy8u12⟩) hHeld ?rest8u12
  case hy8u12 =>
    intro w' hS'
    obtain ⟨s1, s2, _⟩ := hS'
    go_simp
    try with_reducible rfl
  simp only [List.setIfInBounds_toArray, List.set_cons_zero, List.set_cons_succ]
  refine take_at (i := 9) (d := 24) (v := ?_) rfl rfl (by kernel_rfl) (by kernel_rfl) (by kernel_rfl) (fun _ _ _ h => h) (Or.inl ⟨by rfl, ?hy9u13⟩) hHeld ?rest9u13
  case hy9u13 =>
    intro w' hS'
    obtain ⟨s1, s2, _⟩ := hS'
    go_simp
    try with_reducible rfl
  simp only [List.setIfInBounds_toArray, List.set_cons_zero, List.set_cons_succ]
  refine take_at (i := 10) (d := 25) (v := ?_) rfl rfl (by kernel_rfl) (by kernel_rfl) (by kernel_rfl) (fun _ _ _ h => h) (Or.inl ⟨by rfl, ?hy10u14⟩) hHeld ?rest10u14
  case hy10u14 =>
    intro w' hS'
    obtain ⟨s1, s2, _⟩ := hS'
    go_simp
    try with_reducible rfl
  simp only [List.setIfInBounds_toArray, List.set_cons_zero, List.set_cons_succ]
  refine take_at (i := 11) (d := 26) (v := ?_) rfl rfl (by kernel_rfl) (by kernel_rfl) (by kernel_rfl) (fun _ _ _ h => h) (Or.inl ⟨by rfl, ?hy11u15⟩) hHeld ?rest11u15
  case hy11u15 =>
    intro w' hS'
    obtain ⟨s1, s2, _⟩ := hS'
    go_simp
    try with_reducible rfl
  simp only [List.setIfInBounds_toArray, List.set_cons_zero, List.set_cons_succ]
  refine take_at (i := 12) (d := 27) (v := ?_) rfl rfl (by kernel_rfl) (by kernel_rfl) (by kernel_rfl) (fun _ _ _ h => h) (Or.inl ⟨by rfl, ?hy12u16⟩) hHeld ?rest12u16
  case hy12u16 =>
    intro w' hS'
    obtain ⟨s1, s2, _⟩ := hS'
    go_simp
    try with_reducible rfl
  simp only [List.setIfInBounds_toArray, List.set_cons_zero, List.set_cons_succ]
  refine take_at (i := 13) (d := 28) (v := ?_) rfl rfl (by kernel_rfl) (by kernel_rfl) (by kernel_rfl) (fun _ _ _ h => h) (Or.inl ⟨by rfl, ?hy13u17⟩) hHeld ?rest13u17
  case hy13u17 =>
    intro w' hS'
    obtain ⟨s1, s2, _⟩ := hS'
    go_simp
    try with_reducible rfl
  simp only [List.setIfInBounds_toArray, List.set_cons_zero, List.set_cons_succ]
  refine take_at (i := 14) (d := 29) (v := ?_) rfl rfl (by kernel_rfl) (by kernel_rfl) (by kernel_rfl) (fun _ _ _ h => h) (Or.inl ⟨by rfl, ?hy14u18⟩) hHeld ?rest14u18
  case hy14u18 =>
    intro w' hS'
    obtain ⟨s1, s2, _⟩ := hS'
    go_simp
    try with_reducible rfl
  simp only [List.setIfInBounds_toArray, List.set_cons_zero, List.set_cons_succ]
  refine take_at (i := 15) (d := 30) (v := ?_) rfl rfl (by kernel_rfl) (by kernel_rfl) (by kernel_rfl) (fun _ _ _ h => h) (Or.inl ⟨by rfl, ?hy15u19⟩) hHeld ?rest15u19
  case hy15u19 =>
    intro w' hS'
    obtain ⟨s1, s2, _⟩ := hS'
    go_simp
    try with_reducible rfl
  simp only [List.setIfInBounds_toArray, List.set_cons_zero, List.set_cons_succ]
  refine take_at (i := 16) (d := 31) (v := ?_) rfl rfl (by kernel_rfl) (by kernel_rfl) (by kernel_rfl) (fun _ _ _ h => h) (Or.inl ⟨by rfl, ?hy16u20⟩) hHeld ?rest16u20
  case hy16u20 =>
    intro w' hS'
    obtain ⟨s1, s2, _⟩ := hS'
    go_simp
    try with_reducible rfl
  simp only [List.setIfInBounds_toArray, List.set_cons_zero, List.set_cons_succ]
  refine wpAnyH_ready (rs := [7]) (by kernel_rfl) (by simp) ?_
  refine AllReadyH.cons rfl (fun K hK => ?_) AllReadyH.nil
  go_simp
  refine (l01Cosine_any _ _).mono ?_
  rintro e w' ⟨rfl, rfl⟩
  refine hK.out _ _ (hHeld) (fun hHeld2 => ?_)
  clear hK K
  replace hHeld := hHeld2
  clear hHeld2
  refine wpAnyH_ready (rs := [17]) (by kernel_rfl) (by simp) ?_
  refine AllReadyH.cons rfl (fun K hK => ?_) AllReadyH.nil
  go_simp
  refine (l01Cosine_any _ _).mono ?_
  rintro e w' ⟨rfl, rfl⟩
  refine hK.out _ _ (hHeld) (fun hHeld2 => ?_)
  clear hK K
  replace hHeld := hHeld2
  clear hHeld2
  refine take_at (i := 18) (d := 33) (v := ?_) rfl rfl (by kernel_rfl) (by kernel_rfl) (by kernel_rfl) (fun _ _ _ h => h) (Or.inl ⟨by rfl, ?hy18u21⟩) hHeld ?rest18u21
  case hy18u21 =>
    intro w' hS'
    obtain ⟨s1, s2, _⟩ := hS'
    go_simp
    try with_reducible rfl
  simp only [List.setIfInBounds_toArray, List.set_cons_zero, List.set_cons_succ]
  refine take_at (i := 19) (d := 7) (v := ?_) rfl rfl (by kernel_rfl) (by kernel_rfl) (by kernel_rfl) (fun _ _ _ h => h) (Or.inl ⟨by rfl, ?hy19u22⟩) hHeld ?rest19u22
  case hy19u22 =>
    intro w' hS'
    obtain ⟨s1, s2, _⟩ := hS'
    go_simp
    try with_reducible rfl
  simp only [List.setIfInBounds_toArray, List.set_cons_zero, List.set_cons_succ]
  refine wpAnyH_done (by kernel_rfl) ?_ _
  clear q1 q2 q3
  have ho := HO.out
  cases o
  · have HL := Lib.hid (litB_no ho (by decide))
    go_wp2
    go_ret
    exact ⟨ret_f32 HL.out.symm, hHeld.2.2⟩
  · have HL := Lib.hid (litB_no ho (by decide))
    go_wp2
    go_ret
    exact ⟨ret_f32 HL.out.symm, hHeld.2.2⟩
  · have HL := Lib.hid (litB_gt ho)
    go_wp2
    go_ret
    exact ⟨ret_f32 HL.out.symm, hHeld.2.2⟩

set_option maxRecDepth 100000 in
set_option maxHeartbeats 1000000 in
theorem l01Fall_any (b : Nat) (hs ts : List Int) (hh : hs.length = 24) (ht : ts.length = 24) (hour facing : Int) (hr0 : 0 ≤ hour) (hr1 : hour < 24) (hf0 : 0 ≤ facing) (hf1 : facing ≤ 255) (hx1 : atH hs hour ≤ 64) (hy0 : 0 ≤ atH ts hour) (hy1 : atH ts hour ≤ 255) (t : TypeId) (fr : Nat × Nat) (w : World) (hg : w.heap[b]? = some (.cells (sunC hs ts) t fr)) :
    Calls Tryd.prog 31 #[.pointer (some ⟨b, 0, none⟩), .int .i64 hour, .int .i64 facing] w fun e w' => e = .returned (.float .f32 (fallOf hs ts hour facing)) ∧ Below w.heap.size w w' := by
  by_cases hpos : 0 < atH hs hour
  · obtain ⟨o, ho⟩ := order_some (mul_ok (cosB_num (atH hs hour)) (cosB_num (atH ts hour - facing))).2 zero_fin
    have e : fallOf hs ts hour facing = litB (fmul (cosB (atH hs hour)) (cosB (atH ts hour - facing))) := by
      unfold fallOf fallB
      rw [if_pos hpos]
    rw [e]
    exact l01Fall_up b hs ts hh ht hour facing hr0 hr1 hf0 hf1 hx1 hy0 hy1 t fr hpos _ rfl o ho w hg
  · have HR : Hid (fallOf hs ts hour facing = 0) := if_neg hpos
    obtain ⟨k, rfl⟩ := Int.eq_ofNat_of_zero_le hr0
    have hk : k < 24 := by omega
    have ea : hs[k]?.getD 0 = atH hs (k : Int) := by unfold atH; rw [Int.toNat_natCast]
    have eb : ts[k]?.getD 0 = atH ts (k : Int) := by unfold atH; rw [Int.toNat_natCast]
    generalize atH hs (k : Int) = x at *
    generalize atH ts (k : Int) = y at *
    have Hx := Lib.hid ea
    have Hy := Lib.hid eb
    have hc1 := cell_sun_h hg hh k hk
    rw [Hx.out] at hc1
    clear hg hh ht ea eb
    go_enter Tryd.func31, Tryd.ntmps31
    go_wp2
    go_ret
    exact ⟨ret_f32 HR.out.symm, Below.refl _ _⟩

end Go.Proofs.YtpcmcopfdghdgaaDoor

namespace Go.Proofs.YtpcmcopfdghdgaaDoor
open Go.ChangeShapes Go.WideShapes Go.ChangeAt Go.RowKit

theorem isFacing_is (n : Int) (b : Bool) (h : inF n = b) (w : World) : Calls Tryd.prog 39 #[.int .i64 n] w fun e w' => e = .returned (.bool b) ∧ w = w' := by
  subst h; exact isFacing_any n w

theorem l01Faced_is (n : Int) (b : Bool) (h : inF n = b) (w : World) : Calls Tryd.prog 29 #[.int .i64 n] w fun e w' => e = .returned (.bool b) ∧ w = w' := by
  subst h; exact l01Faced_any n w

theorem inF_bd {n : Int} (h : inF n = true) : 0 ≤ n ∧ n ≤ 255 := inB_true h

end Go.Proofs.YtpcmcopfdghdgaaDoor

namespace Go.Proofs.YtpcmcopfdghdgaaDoor
open Go.ChangeShapes Go.WideShapes Go.ChangeAt Go.RowKit Go.Deep Go.Joins

attribute [local go_sem] run_store_f

def okAw (o dr gp tl : Nat) : Bool := betw o 0 1090519040 && betw dr 0 1073741824 && betw gp 0 1073741824 && betw tl 1040187392 1082130432

/-- The bounds of an awning that is valid. -/
structure AwOk (o dr gp tl : Nat) : Prop where
  o : o ≤ 1090519040 ∨ o = 2147483648
  d : dr ≤ 1073741824 ∨ dr = 2147483648
  g : gp ≤ 1073741824 ∨ gp = 2147483648
  t0 : 1040187392 ≤ tl
  t1 : tl ≤ 1082130432
theorem awok_of {o dr gp tl : Nat} (aw : AwWf o dr gp tl) (h : okAw o dr gp tl = true) : AwOk o dr gp tl := by
  simp only [okAw, Bool.and_eq_true] at h
  obtain ⟨⟨⟨h1, h2⟩, h3⟩, h4⟩ := h
  obtain ⟨a1, a2⟩ := betw_above aw.2.2.2 (by decide) (by decide) (by decide) h4
  exact ⟨betw_zero aw.1 (by decide) h1, betw_zero aw.2.1 (by decide) h2, betw_zero aw.2.2.1 (by decide) h3, a1, a2⟩

theorem ret_boolA {a b : Bool} (h : a = b) : Ending.returned (.bool a) = .returned (.bool b) := by rw [h]
/-- A comparison that has no answer yet, as a truth value. -/
theorem bin_geq (t : TypeId) (x y : Nat) (w : World) : (binOp .geq t (.float .f32 x) (.float .f32 y)).run Tryd.prog w = .ok (.bool (ge0 (FloatKind.f32.format.order x y))) w := by
  rcases h0 : FloatKind.f32.format.order x y with _ | (_ | _ | _) <;> simp [binOp, go_sem, Op.floatCmp, h0, ge0]
theorem bin_leq (t : TypeId) (x y : Nat) (w : World) : (binOp .leq t (.float .f32 x) (.float .f32 y)).run Tryd.prog w = .ok (.bool (le0 (FloatKind.f32.format.order x y))) w := by
  rcases h0 : FloatKind.f32.format.order x y with _ | (_ | _ | _) <;> simp [binOp, go_sem, Op.floatCmp, h0, le0]

end Go.Proofs.YtpcmcopfdghdgaaDoor

namespace Go.Proofs.YtpcmcopfdghdgaaDoor
open Go.ChangeShapes Go.WideShapes Go.ChangeAt Go.RowKit Go.Deep Go.Joins

/-- An hour and a facing that are in their ranges, and what a valid sun tells of the hour. -/
structure HrOk (hs ts : List Int) (hour fc : Int) : Prop where
  h0 : 0 ≤ hour
  h1 : hour < 24
  f0 : 0 ≤ fc
  f1 : fc ≤ 255
  x0 : -64 ≤ atH hs hour
  x1 : atH hs hour ≤ 64
  y0 : 0 ≤ atH ts hour
  y1 : atH ts hour ≤ 255

theorem hrok_of {hs ts : List Int} (hh : hs.length = 24) (ht : ts.length = 24) (ho : okB hs ts = true) {hour fc : Int} (h0 : 0 ≤ hour) (h1 : hour < 24) (hf : inF fc = true) : HrOk hs ts hour fc :=
  ⟨h0, h1, (inF_bd hf).1, (inF_bd hf).2, (okB_h hh ht ho hour h0 h1).1, (okB_h hh ht ho hour h0 h1).2, (okB_t hh ht ho hour h0 h1).1, (okB_t hh ht ho hour h0 h1).2⟩

theorem fall_gt {f : Nat} (f0 : 975015322 ≤ f) (f1 : f ≤ 1065353216) : FloatKind.f32.format.order f 0 = some .gt := by
  rw [order_pos (by omega) (by decide), Nat.compare_eq_gt.2 (by omega)]

theorem fall_eq : FloatKind.f32.format.order 0 0 = some .eq := by decide +kernel

theorem eq_one {q : Nat} (hq : q < 4294967296) (h : FloatKind.f32.format.order q 1065353216 = some .eq) : q = 1065353216 := by
  rcases word_cases q hq with c | c | c | c
  · rw [order_num c (.inl (by decide))] at h
    injection h with h
    have k := Int.compare_eq_eq.1 h
    rw [sv_pos (x := 1065353216) (by decide)] at k
    have p := rv_pos (r := 1065353216) (by decide)
    rcases c with c | ⟨c0, c1⟩
    · rw [sv_pos (x := q) (by omega)] at k
      exact rv_inj (by omega)
    · obtain ⟨r, rfl⟩ : ∃ r, q = 2147483648 + r := ⟨q - 2147483648, by omega⟩
      have := sv_neg_le r
      omega
  · subst c
    rw [(inf_order 1065353216 (.inl (by decide))).1] at h; cases h
  · subst c
    rw [(inf_order 1065353216 (.inl (by decide))).2] at h; cases h
  · rw [nan_order c] at h; cases h

theorem run_minq (q : Nat) (hq : q < 4294967296) (hf : fin32 q = true) (h0 : FloatKind.f32.format.order q 0 = some .gt) (ts : Array TypeId) (T : TypeId) (w : World) : (Builtin.min_ ts T #[.float .f32 q, .float .f32 1065353216]).run Tryd.prog w = .ok (.float .f32 (cutB q)) w := by
  obtain ⟨o, ho⟩ := order_some hf (num_fin (num_of_isNum (x := 1065353216) (.inl (by decide))))
  unfold cutB
  rw [if_pos h0]
  simp only [Builtin.min_, List.foldlM_cons, List.foldlM_nil, Builtin.min2, ho]
  cases o
  · rfl
  · have e := eq_one hq ho
    subst e; rfl
  · rfl

theorem cut_le0 {q : Nat} (h0 : FloatKind.f32.format.order q 0 = some .lt ∨ FloatKind.f32.format.order q 0 = some .eq) : cutB q = 0 := by
  unfold cutB
  rcases h0 with h0 | h0 <;> rw [h0] <;> rfl

theorem shB_zero (o dr gp tl : Nat) (x : Int) : shB o dr gp tl x 0 = 0 := rfl

theorem shB_pos {o dr gp tl : Nat} {x : Int} {f : Nat} (h : 975015322 ≤ f) : shB o dr gp tl x f = cutB (quoA o dr gp tl x f) := if_neg (by omega)

theorem run_qf (op : BinOp) (x y r : Nat) (h : floatBits op .f32 x y = some r) : ∀ t w, (binOp op t (.float .f32 x) (.float .f32 y)).run Tryd.prog w = .ok (.float .f32 r) w := fun t w => run_float_arith w op t .f32 x y r h



theorem fall_le {hs ts : List Int} {hour fc : Int} (k : HrOk hs ts hour fc) : fallOf hs ts hour fc ≤ 1065353216 := by
  by_cases x0 : 0 < atH hs hour
  · rcases fall_rng (atH hs hour) (atH ts hour - fc) x0 k.x1 with h | ⟨_, f1⟩
    · rw [show fallOf hs ts hour fc = 0 from h]; decide
    · exact f1
  · rw [show fallOf hs ts hour fc = 0 from if_neg x0]; decide

theorem shB_le {o dr gp tl : Nat} (aw : AwOk o dr gp tl) {hs ts : List Int} {hour fc : Int} (k : HrOk hs ts hour fc) : shB o dr gp tl (atH hs hour) (fallOf hs ts hour fc) ≤ 1065353216 := by
  by_cases x0 : 0 < atH hs hour
  · rcases fall_rng (atH hs hour) (atH ts hour - fc) x0 k.x1 with h | ⟨f0, f1⟩
    · rw [show fallOf hs ts hour fc = 0 from h, shB_zero]; decide
    · rw [shB_pos (f := fallOf hs ts hour fc) f0]
      obtain ⟨_, _, _, _, r5, _⟩ := shade_facts aw.o aw.d aw.g aw.t0 aw.t1 x0 k.x1 f0 f1
      exact cutB_le (quoA_lt r5)
  · rw [show fallOf hs ts hour fc = 0 from if_neg x0, shB_zero]; decide

/-- The light behind an awning at an hour. -/
def behOf (o dr gp tl : Nat) (hs ts : List Int) (hour fc : Int) : Nat := behB (fallOf hs ts hour fc) (shB o dr gp tl (atH hs hour) (fallOf hs ts hour fc))

theorem beh_le {o dr gp tl : Nat} (aw : AwOk o dr gp tl) {hs ts : List Int} {hour fc : Int} (k : HrOk hs ts hour fc) : behOf o dr gp tl hs ts hour fc ≤ 1065353216 := Nat.le_trans (beh_facts (fall_le k) (shB_le aw k)).2.2 (fall_le k)

end Go.Proofs.YtpcmcopfdghdgaaDoor

namespace Go.Proofs.YtpcmcopfdghdgaaDoor
open Go.RowKit

attribute [local go_sem] run_store_f run_store_flR

/-- A window in the light of a sun. -/
def litS (hs ts : List Int) (hour north : Int) (x : Wn) : Wn := (x.1, x.2.1, fallOf hs ts hour (angB (north + 64 * x.1)))

theorem run_minF (f : Nat) (hf : f ≤ 1065353216) (ts : Array TypeId) (T : TypeId) (w : World) : (Builtin.min_ ts T #[.float .f32 f, .float .f32 1065353216]).run Tryd.prog w = .ok (.float .f32 f) w := by
  have hn : fin32 f = true := num_fin (num_of_isNum (.inl (by omega)))
  obtain ⟨o, ho⟩ := order_some hn (num_fin (num_of_isNum (x := 1065353216) (.inl (by decide))))
  have hc := order_num (x := f) (y := 1065353216) (.inl (by omega)) (.inl (by decide))
  simp only [Builtin.min_, List.foldlM_cons, List.foldlM_nil, Builtin.min2, ho]
  cases o
  · rfl
  · have e := eq_one (by omega) ho
    subst e; rfl
  · exfalso
    rw [ho] at hc
    have h1 := Option.some.inj hc
    rw [sv_pos (by omega), sv_pos (by decide)] at h1
    have h2 : rv f ≤ rv 1065353216 := rv_le hf
    have h3 := Int.compare_eq_gt.1 h1.symm
    omega

theorem row_i64 {V : World} {b : Nat} {z : Int} (h : V.heap[b]? = some (.cells #[.int .i64 z] 2 (0, 0))) : V.cell? ⟨b, 0, none⟩ = some (.int .i64 z) := by rw [cell_of_row V _ _ _ _ _ h]; rfl

set_option maxRecDepth 100000 in
set_option maxHeartbeats 4000000 in
theorem litF_any (hs ts : List Int) (hh : hs.length = 24) (ht : ts.length = 24) (hour north : Int) (q : ∀ fc, 0 ≤ fc → fc ≤ 255 → HrOk hs ts hour fc) (n0 : 0 ≤ north) (n1 : north ≤ 255) (x : Wn) (x0 : 0 ≤ x.1) (x1 : x.1 ≤ 3) (b5 b6 b7 : Nat) (w : World) (h5 : w.heap[b5]? = some (.cells (sunC hs ts) 37 (0, 0))) (h6 : w.heap[b6]? = some (.cells #[.int .i64 hour] 2 (0, 0))) (h7 : w.heap[b7]? = some (.cells #[.int .i64 north] 2 (0, 0))) :
    Calls Tryd.prog 42 #[.agg (winC x), .pointer (some ⟨b7, 0, none⟩), .pointer (some ⟨b5, 0, none⟩), .pointer (some ⟨b6, 0, none⟩)] w fun e w' => e = .returned (.agg (winC (litS hs ts hour north x))) ∧ Below w.heap.size w w' := by
  have hk := q _ (angB_lo (north + 64 * x.1)) (angB_hi (north + 64 * x.1))
  have HFA := Lib.hid (fun V => fallAt_any hs ts hh ht hour (angB (north + 64 * x.1)) hk.h0 hk.h1 hk.f0 hk.f1 hk.x1 hk.y0 hk.y1 V)
  have hmin := run_minF _ (fall_le hk)
  obtain ⟨y, hy⟩ : ∃ y, y = litS hs ts hour north x := ⟨_, rfl⟩
  have HY : Hid (y = (x.1, x.2.1, fallOf hs ts hour (angB (north + 64 * x.1)))) := Lib.hid hy
  rw [← hy]
  have hw1 : IntKind.i64.wrap (64 * x.1) = 64 * x.1 := by rw [IntWalk.i64_in _ (by omega)]
  have hw2 : IntKind.i64.wrap (north + 64 * x.1) = north + 64 * x.1 := by rw [IntWalk.i64_in _ (by omega)]
  have hw0 : IntKind.i64.wrap x.1 = x.1 := by rw [IntWalk.i64_in _ (by omega)]
  have hm : (north + 64 * x.1).tmod 256 = angB (north + 64 * x.1) := by unfold angB; rw [Int.tmod_eq_emod_of_nonneg (by omega)]
  have hwa : IntKind.i64.wrap (angB (north + 64 * x.1)) = angB (north + 64 * x.1) := by rw [IntWalk.i64_in _ (by have := angB_lo (north + 64 * x.1); have := angB_hi (north + 64 * x.1); omega)]
  generalize fallOf hs ts hour (angB (north + 64 * x.1)) = fv at *
  generalize hag : angB (north + 64 * x.1) = ag at *
  have Hh := Lib.hid hh
  have Ht := Lib.hid ht
  have H5 := Lib.hid h5
  have H6 := Lib.hid h6
  have H7 := Lib.hid h7
  have hl5 := row_lt h5
  clear q hy hk h5 h6 h7 hag hh ht
  go_enter Tryd.func42, Tryd.ntmps42
  go_upto_region 1 with (fail)
  refine abs_world (fun W => W.heap[b5]? = some (.cells (sunC hs ts) 37 (0, 0)) ∧ W.heap[b6]? = some (.cells #[.int .i64 hour] 2 (0, 0)) ∧ W.heap[b7]? = some (.cells #[.int .i64 north] 2 (0, 0)) ∧ W.heap[w.heap.size]? = some (.cells (winC x) 68 (0, 0)) ∧ W.heap[w.heap.size + 1]? = some (.cells (winC (0, 0, 0)) 68 (0, 0)) ∧ Below w.heap.size w W) ⟨below_row (two_at w (.cells (winC x) 68) (.cells (winC (0, 0, 0)) 68)).2.2 H5.out, below_row (two_at w (.cells (winC x) 68) (.cells (winC (0, 0, 0)) 68)).2.2 H6.out, below_row (two_at w (.cells (winC x) 68) (.cells (winC (0, 0, 0)) 68)).2.2 H7.out, (two_at w (.cells (winC x) 68) (.cells (winC (0, 0, 0)) 68)).1, (two_at w (.cells (winC x) 68) (.cells (winC (0, 0, 0)) 68)).2.1, (two_at w (.cells (winC x) 68) (.cells (winC (0, 0, 0)) 68)).2.2⟩ ?_
  rintro W ⟨h5, h6, h7, h2, h3, hb⟩
  have n23 : w.heap.size < w.heap.size + 1 := by omega
  generalize w.heap.size + 1 = b3 at *
  have c7 := row_i64 h7
  have c6 := row_i64 h6
  obtain ⟨c0, -, -⟩ := win_cells h2
  replace H5 := Lib.hid h5
  have H2 := Lib.hid h2
  have H3 := Lib.hid h3
  clear h5 h6 h7 h2 h3 H6 H7
  go_upto_region 2 with (fail)
  clear c0 c7
  have HB2 := Lib.hid hb
  generalize hb2 : w.heap.size = b2 at *
  have c2 := fun (V : World) (h : V.heap[b2]? = some (.cells (winC x) 68 (0, 0))) => (win_cells h).2.2
  go_upto_region 3 with (first | (refine wpList_load_part rfl 37 _ rfl b5 0 48 rfl 37 (sunC hs ts) (0, 0) _ H5.out Tryd.underlying37 rfl info_sun (sun_fits _ _ Hh.out Ht.out) _ (sun_all _ _ Hh.out Ht.out) ?_) | (go_at_call 43; refine (HFA.out _).mono ?_; rintro e W1 ⟨rfl, hb1⟩; replace H2 := Lib.hid (below_row hb1 H2.out); replace H3 := Lib.hid (below_row hb1 H3.out); replace hb := hb.trans (hb1.mono (by have := hb.size; omega)); have c2v := (win_cells H2.out).2.2; have f2v := frozen_of_row W1 b2 2 _ _ H2.out; clear hb1))
  refine abs_world (fun X => X.heap[b2]? = some (.cells (winC y) 68 (0, 0)) ∧ X.heap[b3]? = some (.cells (winC (0, 0, 0)) 68 (0, 0)) ∧ Below b2 w X) ⟨by rw [heap_setCell_same _ _ _ _ _ _ H2.out, HY.out]; rfl, (heap_setCell_other _ _ _ _ (by simp; omega)).trans H3.out, hb.setCell (p := ⟨b2, 2, none⟩) (Nat.le_refl _) _⟩ ?_
  clear H2 H3 hb c2v f2v c2
  rintro X ⟨h2, h3, hb⟩
  have H2 := Lib.hid h2
  have H3 := Lib.hid h3
  clear h2 h3
  go_wp2_with (first | (refine wpList_load_part rfl 68 _ rfl b2 0 3 rfl 68 (winC y) (0, 0) _ H2.out Tryd.underlying68 rfl info_win (win_fits _) _ (win_all _) ?_) | (refine wpList_store_part rfl 68 _ _ rfl b3 0 (winC y) rfl rfl 68 (winC (0, 0, 0)) H3.out (by kernel_rfl) (Nat.le_refl _) (win_one _) ?_; rw [laid_allr _ _ (by rfl)]))
  exact bodyPost_ret (v := .agg (winC y)) (results_cell_row rfl _ _ _ _ _ _ _ rfl (setRow_heap _ _ _ _ _ _ H3.out) Tryd.underlying68 rfl info_win) rfl ⟨rfl, by rw [hb2]; exact below_setRow hb (by omega) _⟩

set_option maxRecDepth 100000 in
theorem enterLit (args : Array Value) (w : World) : (callFunc 42 args).run Tryd.prog w = .ok (.enter 42 args) w := by
  first | kernel_rfl | rfl | simp [callFunc]

end Go.Proofs.YtpcmcopfdghdgaaDoor

namespace Go.Proofs.YtpcmcopfdghdgaaDoor
open Go.RowKit

attribute [local go_sem] run_store_f

theorem part_num {x : Nat} (h : PartOk x) : num32 x = true := num_of_isNum (by
  rcases h with h | h
  · exact .inl (by omega)
  · exact .inr ⟨by omega, by omega⟩)

theorem part_mul {x y : Nat} (hx : PartOk x) (hy : PartOk y) : floatBits .mul .f32 x y = some (fmul x y) := (mul_ok (part_num hx) (part_num hy)).1

/-- The windows with the light of one of them dimmed. -/
def dimL (ws : List Wn) (k : Nat) (p : Nat) : List Wn :=
  match ws[k]? with
  | some x => ws.set k (x.1, x.2.1, fmul x.2.2 p)
  | none => ws

theorem dimL_len (ws : List Wn) (k p : Nat) : (dimL ws k p).length = ws.length := by
  unfold dimL
  split
  · rw [List.length_set]
  · rfl

theorem ext_there {cur : Array Value} {i j : Nat} {v : Value} (h : i < j ∨ j + 3 ≤ i) : (cur.setIfInBounds i v).extract j (j + 3) = cur.extract j (j + 3) := by
  apply Array.ext_getElem?
  intro m
  rw [Array.getElem?_extract, Array.getElem?_extract, Array.size_setIfInBounds]
  split
  · exact sgo (by omega)
  · rfl

theorem ext_here {cur : Array Value} {k : Nat} {x : Wn} {z : Nat} (hs : k + 3 ≤ cur.size) (h : cur.extract k (k + 3) = winC x) : (cur.setIfInBounds (k + 2) (.float .f32 z)).extract k (k + 3) = winC (x.1, x.2.1, z) := by
  have g : ∀ m : Nat, (cur.extract k (k + 3))[m]? = (winC x)[m]? := fun m => by rw [h]
  apply Array.ext_getElem?
  intro m
  have gm := g m
  rw [Array.getElem?_extract] at gm ⊢
  rw [Array.size_setIfInBounds]
  match m with
  | 0 => rw [if_pos (by omega)] at gm ⊢; rw [sgo (by omega)]; exact gm
  | 1 => rw [if_pos (by omega)] at gm ⊢; rw [sgo (by omega)]; exact gm
  | 2 => rw [if_pos (by omega), sgs (by omega)]; rfl
  | m + 3 => rw [if_neg (by omega)]; rfl

/-- A row with one light changed holds the windows with that light changed. -/
theorem dim_row {cur : Array Value} {ws : List Wn} {k p : Nat} {x : Wn} (hs : ws.length * 3 ≤ cur.size) (hx : ws[k]? = some x) (h : ∀ j y, ws[j]? = some y → cur.extract (j * 3) (j * 3 + 3) = winC y) :
    ∀ j y, (dimL ws k p)[j]? = some y → (cur.setIfInBounds (k * 3 + 2) (.float .f32 (fmul x.2.2 p))).extract (j * 3) (j * 3 + 3) = winC y := by
  intro j y hy
  have hk := (List.getElem?_eq_some_iff.1 hx).1
  unfold dimL at hy
  rw [hx] at hy
  simp only [List.getElem?_set] at hy
  by_cases e : k = j
  · subst e
    rw [if_pos rfl, if_pos hk] at hy
    obtain rfl := Option.some.inj hy
    exact ext_here (by omega) (h k x hx)
  · rw [if_neg e] at hy
    rw [ext_there (by omega)]
    exact h j y hy

theorem light_at {cur : Array Value} {k : Nat} {x : Wn} (h : cur.extract (k * 3) (k * 3 + 3) = winC x) : cur[k * 3 + 2]? = some (.float .f32 x.2.2) := by
  have g : (cur.extract (k * 3) (k * 3 + 3))[2]? = some (.float .f32 x.2.2) := by rw [h]; rfl
  rw [Array.getElem?_extract] at g
  split at g
  · exact g
  · cases g

end Go.Proofs.YtpcmcopfdghdgaaDoor

namespace Go.Proofs.YtpcmcopfdghdgaaDoor
open Go.RowKit

attribute [local go_sem] run_store_f

theorem laid_after (cs vs : Array Value) (off j n : Nat) (h : off + vs.size ≤ cs.size) (hj : off + vs.size ≤ j) : (laid cs vs off).extract j (j + n) = cs.extract j (j + n) := by
  apply Array.ext'
  rw [Array.toList_extract, Array.toList_extract, List.extract_eq_take_drop, List.extract_eq_take_drop, Nat.add_sub_cancel_left]
  unfold laid
  have hl : (cs.toList.take off ++ vs.toList).length = off + vs.size := by simp; omega
  apply List.ext_getElem?
  intro i
  simp only [List.getElem?_take, List.getElem?_drop]
  by_cases hi : i < n
  · simp only [hi, if_true]
    rw [List.getElem?_append_right (by rw [hl]; omega), hl, List.getElem?_drop]
    congr 1
    omega
  · simp [hi]

end Go.Proofs.YtpcmcopfdghdgaaDoor

namespace Go.Proofs.YtpcmcopfdghdgaaDoor
open Go.RowKit

attribute [local go_sem] run_store_f run_store_flR

set_option maxRecDepth 100000 in
set_option maxHeartbeats 4000000 in
theorem sLb_f (wd hg : Int) (iw : I8 wd) (ih : I8 hg) (sv : Value) (ws : List Wn) (hwf : ∀ x ∈ ws, WnWf x) (hs ts : List Int) (hh : hs.length = 24) (ht : ts.length = 24) (rb : ∀ x ∈ hs ++ ts, -32768 ≤ x ∧ x ≤ 32767) (hour north : Int) (w : World) (hws : WinsAt w sv ws) (hv : okRm wd hg ws = false) :
    Calls Tryd.prog 8 #[.agg (roomC wd hg sv), .agg (sunC hs ts), .int .i64 hour, .int .i64 north] w fun e w' => e = .returned (.tuple #[.agg (roomC 0 0 (.slice none 0 0)), .int .i64 1]) ∧ Below w.heap.size w w' := by
  have HOK : Hid (∀ V, V.heap[w.heap.size]? = some (.cells (roomC wd hg sv) 33 (0, 0)) → WinsAt V sv ws → Calls Tryd.prog 26 #[.pointer (some ⟨w.heap.size, 0, none⟩)] V fun e w' => e = .returned (.bool false) ∧ Below V.heap.size V w') := Lib.hid (fun V h0 h => by have := l03Ok_any wd hg iw ih sv ws hwf w.heap.size 33 (0, 0) V h0 h; rw [hv] at this; exact this)
  have HW := Lib.hid hws
  clear hws hv hwf iw ih hh ht rb
  go_enter Tryd.func8, Tryd.ntmps8
  go_upto_region 1 with (fail)
  refine abs_world (fun W => W.heap[w.heap.size]? = some (.cells (roomC wd hg sv) 33 (0, 0)) ∧ W.heap[w.heap.size + 1]? = some (.cells (sunC hs ts) 37 (0, 0)) ∧ W.heap[w.heap.size + 1 + 1]? = some (.cells (roomC 0 0 (.slice none 0 0)) 33 (0, 0)) ∧ Below w.heap.size w W) (box3 w (.cells (roomC wd hg sv) 33) (.cells (sunC hs ts) 37) (.cells (roomC 0 0 (.slice none 0 0)) 33)) ?_
  rintro W ⟨h0, h5, h8, hbz⟩
  generalize hb8 : w.heap.size + 1 + 1 = b1 at *
  generalize hb5 : w.heap.size + 1 = b5 at *
  have n01 : w.heap.size < b1 := by omega
  have n05 : w.heap.size < b5 := by omega
  have n51 : b5 < b1 := by omega
  clear hb5 hb8
  have R0 := Lib.hid h0
  have R5 := Lib.hid h5
  have H1 := Lib.hid h8
  have HV := Lib.hid (wins_below HW.out hbz)
  clear h0 h5 h8
  go_wp2_with (first | (go_at_call 26; refine (HOK.out _ R0.out HV.out).mono ?_; rintro e W1 ⟨rfl, hb1⟩; replace R0 := Lib.hid (below_row hb1 R0.out); replace R5 := Lib.hid (below_row hb1 R5.out); replace H1 := Lib.hid (below_row hb1 H1.out); replace HV := Lib.hid (wins_below HV.out hb1); replace hbz := hbz.trans (hb1.mono hbz.size); clear hb1) | (refine wpList_buildRR rfl 33 _ rfl _ rfl [] rfl (roomC 0 0 (.slice none 0 0)) built_room0 ?_) | (refine wpList_store_part rfl 33 _ _ rfl b1 0 (roomC 0 0 (.slice none 0 0)) rfl rfl 33 _ H1.out info_room (Nat.le_refl _) (room_oneN _ _) ?_; rw [laid_allr _ _ (by rfl)]))
  refine bodyPost_ret (results_rm rfl _ _ b1 0 0 (.slice none 0 0) rfl (setRow_heap _ _ _ _ _ _ H1.out)) rfl ?_
  exact ⟨rfl, below_setRow hbz (by omega) _⟩

set_option maxRecDepth 100000 in
set_option maxHeartbeats 4000000 in
theorem sLb_tf (wd hg : Int) (iw : I8 wd) (ih : I8 hg) (sv : Value) (ws : List Wn) (hwf : ∀ x ∈ ws, WnWf x) (hs ts : List Int) (hh : hs.length = 24) (ht : ts.length = 24) (rb : ∀ x ∈ hs ++ ts, -32768 ≤ x ∧ x ≤ 32767) (hour north : Int) (w : World) (hws : WinsAt w sv ws) (hv : okRm wd hg ws = true) (hs2 : okB hs ts = false) :
    Calls Tryd.prog 8 #[.agg (roomC wd hg sv), .agg (sunC hs ts), .int .i64 hour, .int .i64 north] w fun e w' => e = .returned (.tuple #[.agg (roomC 0 0 (.slice none 0 0)), .int .i64 1]) ∧ Below w.heap.size w w' := by
  have HOK : Hid (∀ V, V.heap[w.heap.size]? = some (.cells (roomC wd hg sv) 33 (0, 0)) → WinsAt V sv ws → Calls Tryd.prog 26 #[.pointer (some ⟨w.heap.size, 0, none⟩)] V fun e w' => e = .returned (.bool true) ∧ Below V.heap.size V w') := Lib.hid (fun V h0 h => by have := l03Ok_any wd hg iw ih sv ws hwf w.heap.size 33 (0, 0) V h0 h; rw [hv] at this; exact this)
  have HSO : Hid (∀ (b5 : Nat) V, V.heap[b5]? = some (.cells (sunC hs ts) 37 (0, 0)) → Calls Tryd.prog 27 #[.pointer (some ⟨b5, 0, none⟩)] V fun e w' => e = .returned (.bool false) ∧ V = w') := Lib.hid (fun b5 V h => by have := l01Ok_any b5 hs ts hh ht rb 37 (0, 0) V h; rw [hs2] at this; exact this)
  have HW := Lib.hid hws
  clear hws hv hwf iw ih hh ht rb hs2
  go_enter Tryd.func8, Tryd.ntmps8
  go_upto_region 1 with (fail)
  refine abs_world (fun W => W.heap[w.heap.size]? = some (.cells (roomC wd hg sv) 33 (0, 0)) ∧ W.heap[w.heap.size + 1]? = some (.cells (sunC hs ts) 37 (0, 0)) ∧ W.heap[w.heap.size + 1 + 1]? = some (.cells (roomC 0 0 (.slice none 0 0)) 33 (0, 0)) ∧ Below w.heap.size w W) (box3 w (.cells (roomC wd hg sv) 33) (.cells (sunC hs ts) 37) (.cells (roomC 0 0 (.slice none 0 0)) 33)) ?_
  rintro W ⟨h0, h5, h8, hbz⟩
  generalize hb8 : w.heap.size + 1 + 1 = b1 at *
  generalize hb5 : w.heap.size + 1 = b5 at *
  have n01 : w.heap.size < b1 := by omega
  have n05 : w.heap.size < b5 := by omega
  have n51 : b5 < b1 := by omega
  clear hb5 hb8
  have R0 := Lib.hid h0
  have R5 := Lib.hid h5
  have H1 := Lib.hid h8
  have HV := Lib.hid (wins_below HW.out hbz)
  clear h0 h5 h8
  go_wp2_with (first | (go_at_call 26; refine (HOK.out _ R0.out HV.out).mono ?_; rintro e W1 ⟨rfl, hb1⟩; replace R0 := Lib.hid (below_row hb1 R0.out); replace R5 := Lib.hid (below_row hb1 R5.out); replace H1 := Lib.hid (below_row hb1 H1.out); replace HV := Lib.hid (wins_below HV.out hb1); replace hbz := hbz.trans (hb1.mono hbz.size); clear hb1) | (go_at_call 27; refine (HSO.out _ _ R5.out).mono ?_; rintro e w8 ⟨rfl, rfl⟩) | (refine wpList_buildRR rfl 33 _ rfl _ rfl [] rfl (roomC 0 0 (.slice none 0 0)) built_room0 ?_) | (refine wpList_store_part rfl 33 _ _ rfl b1 0 (roomC 0 0 (.slice none 0 0)) rfl rfl 33 _ H1.out info_room (Nat.le_refl _) (room_oneN _ _) ?_; rw [laid_allr _ _ (by rfl)]))
  refine bodyPost_ret (results_rm rfl _ _ b1 0 0 (.slice none 0 0) rfl (setRow_heap _ _ _ _ _ _ H1.out)) rfl ?_
  exact ⟨rfl, below_setRow hbz (by omega) _⟩

set_option maxRecDepth 100000 in
set_option maxHeartbeats 4000000 in
theorem sLb_ttf (wd hg : Int) (iw : I8 wd) (ih : I8 hg) (sv : Value) (ws : List Wn) (hwf : ∀ x ∈ ws, WnWf x) (hs ts : List Int) (hh : hs.length = 24) (ht : ts.length = 24) (rb : ∀ x ∈ hs ++ ts, -32768 ≤ x ∧ x ≤ 32767) (hour north : Int) (w : World) (hws : WinsAt w sv ws) (hv : okRm wd hg ws = true) (hs2 : okB hs ts = true) (hih : inH hour = false) :
    Calls Tryd.prog 8 #[.agg (roomC wd hg sv), .agg (sunC hs ts), .int .i64 hour, .int .i64 north] w fun e w' => e = .returned (.tuple #[.agg (roomC 0 0 (.slice none 0 0)), .int .i64 2]) ∧ Below w.heap.size w w' := by
  have HOK : Hid (∀ V, V.heap[w.heap.size]? = some (.cells (roomC wd hg sv) 33 (0, 0)) → WinsAt V sv ws → Calls Tryd.prog 26 #[.pointer (some ⟨w.heap.size, 0, none⟩)] V fun e w' => e = .returned (.bool true) ∧ Below V.heap.size V w') := Lib.hid (fun V h0 h => by have := l03Ok_any wd hg iw ih sv ws hwf w.heap.size 33 (0, 0) V h0 h; rw [hv] at this; exact this)
  have HSO : Hid (∀ (b5 : Nat) V, V.heap[b5]? = some (.cells (sunC hs ts) 37 (0, 0)) → Calls Tryd.prog 27 #[.pointer (some ⟨b5, 0, none⟩)] V fun e w' => e = .returned (.bool true) ∧ V = w') := Lib.hid (fun b5 V h => by have := l01Ok_any b5 hs ts hh ht rb 37 (0, 0) V h; rw [hs2] at this; exact this)
  have HIH := Lib.hid (fun V => l01Hour_is hour false hih V)
  have HW := Lib.hid hws
  clear hws hv hwf iw ih hh ht rb hs2 hih
  go_enter Tryd.func8, Tryd.ntmps8
  go_upto_region 1 with (fail)
  refine abs_world (fun W => W.heap[w.heap.size]? = some (.cells (roomC wd hg sv) 33 (0, 0)) ∧ W.heap[w.heap.size + 1]? = some (.cells (sunC hs ts) 37 (0, 0)) ∧ W.heap[w.heap.size + 1 + 1]? = some (.cells (roomC 0 0 (.slice none 0 0)) 33 (0, 0)) ∧ Below w.heap.size w W) (box3 w (.cells (roomC wd hg sv) 33) (.cells (sunC hs ts) 37) (.cells (roomC 0 0 (.slice none 0 0)) 33)) ?_
  rintro W ⟨h0, h5, h8, hbz⟩
  generalize hb8 : w.heap.size + 1 + 1 = b1 at *
  generalize hb5 : w.heap.size + 1 = b5 at *
  have n01 : w.heap.size < b1 := by omega
  have n05 : w.heap.size < b5 := by omega
  have n51 : b5 < b1 := by omega
  clear hb5 hb8
  have R0 := Lib.hid h0
  have R5 := Lib.hid h5
  have H1 := Lib.hid h8
  have HV := Lib.hid (wins_below HW.out hbz)
  clear h0 h5 h8
  go_wp2_with (first | (go_at_call 26; refine (HOK.out _ R0.out HV.out).mono ?_; rintro e W1 ⟨rfl, hb1⟩; replace R0 := Lib.hid (below_row hb1 R0.out); replace R5 := Lib.hid (below_row hb1 R5.out); replace H1 := Lib.hid (below_row hb1 H1.out); replace HV := Lib.hid (wins_below HV.out hb1); replace hbz := hbz.trans (hb1.mono hbz.size); clear hb1) | (go_at_call 27; refine (HSO.out _ _ R5.out).mono ?_; rintro e w8 ⟨rfl, rfl⟩) | (go_at_call 28; refine (HIH.out _).mono ?_; rintro e w8 ⟨rfl, rfl⟩) | (refine wpList_buildRR rfl 33 _ rfl _ rfl [] rfl (roomC 0 0 (.slice none 0 0)) built_room0 ?_) | (refine wpList_store_part rfl 33 _ _ rfl b1 0 (roomC 0 0 (.slice none 0 0)) rfl rfl 33 _ H1.out info_room (Nat.le_refl _) (room_oneN _ _) ?_; rw [laid_allr _ _ (by rfl)]))
  refine bodyPost_ret (results_rm rfl _ _ b1 0 0 (.slice none 0 0) rfl (setRow_heap _ _ _ _ _ _ H1.out)) rfl ?_
  exact ⟨rfl, below_setRow hbz (by omega) _⟩

set_option maxRecDepth 100000 in
set_option maxHeartbeats 4000000 in
theorem sLb_tttf (wd hg : Int) (iw : I8 wd) (ih : I8 hg) (sv : Value) (ws : List Wn) (hwf : ∀ x ∈ ws, WnWf x) (hs ts : List Int) (hh : hs.length = 24) (ht : ts.length = 24) (rb : ∀ x ∈ hs ++ ts, -32768 ≤ x ∧ x ≤ 32767) (hour north : Int) (w : World) (hws : WinsAt w sv ws) (hv : okRm wd hg ws = true) (hs2 : okB hs ts = true) (hih : inH hour = true) (hif : inF north = false) :
    Calls Tryd.prog 8 #[.agg (roomC wd hg sv), .agg (sunC hs ts), .int .i64 hour, .int .i64 north] w fun e w' => e = .returned (.tuple #[.agg (roomC 0 0 (.slice none 0 0)), .int .i64 2]) ∧ Below w.heap.size w w' := by
  have HOK : Hid (∀ V, V.heap[w.heap.size]? = some (.cells (roomC wd hg sv) 33 (0, 0)) → WinsAt V sv ws → Calls Tryd.prog 26 #[.pointer (some ⟨w.heap.size, 0, none⟩)] V fun e w' => e = .returned (.bool true) ∧ Below V.heap.size V w') := Lib.hid (fun V h0 h => by have := l03Ok_any wd hg iw ih sv ws hwf w.heap.size 33 (0, 0) V h0 h; rw [hv] at this; exact this)
  have HSO : Hid (∀ (b5 : Nat) V, V.heap[b5]? = some (.cells (sunC hs ts) 37 (0, 0)) → Calls Tryd.prog 27 #[.pointer (some ⟨b5, 0, none⟩)] V fun e w' => e = .returned (.bool true) ∧ V = w') := Lib.hid (fun b5 V h => by have := l01Ok_any b5 hs ts hh ht rb 37 (0, 0) V h; rw [hs2] at this; exact this)
  have HIH := Lib.hid (fun V => l01Hour_is hour true hih V)
  have HIF := Lib.hid (fun V => l01Faced_is north false hif V)
  have HW := Lib.hid hws
  clear hws hv hwf iw ih hh ht rb hs2 hih hif
  go_enter Tryd.func8, Tryd.ntmps8
  go_upto_region 1 with (fail)
  refine abs_world (fun W => W.heap[w.heap.size]? = some (.cells (roomC wd hg sv) 33 (0, 0)) ∧ W.heap[w.heap.size + 1]? = some (.cells (sunC hs ts) 37 (0, 0)) ∧ W.heap[w.heap.size + 1 + 1]? = some (.cells (roomC 0 0 (.slice none 0 0)) 33 (0, 0)) ∧ Below w.heap.size w W) (box3 w (.cells (roomC wd hg sv) 33) (.cells (sunC hs ts) 37) (.cells (roomC 0 0 (.slice none 0 0)) 33)) ?_
  rintro W ⟨h0, h5, h8, hbz⟩
  generalize hb8 : w.heap.size + 1 + 1 = b1 at *
  generalize hb5 : w.heap.size + 1 = b5 at *
  have n01 : w.heap.size < b1 := by omega
  have n05 : w.heap.size < b5 := by omega
  have n51 : b5 < b1 := by omega
  clear hb5 hb8
  have R0 := Lib.hid h0
  have R5 := Lib.hid h5
  have H1 := Lib.hid h8
  have HV := Lib.hid (wins_below HW.out hbz)
  clear h0 h5 h8
  go_wp2_with (first | (go_at_call 26; refine (HOK.out _ R0.out HV.out).mono ?_; rintro e W1 ⟨rfl, hb1⟩; replace R0 := Lib.hid (below_row hb1 R0.out); replace R5 := Lib.hid (below_row hb1 R5.out); replace H1 := Lib.hid (below_row hb1 H1.out); replace HV := Lib.hid (wins_below HV.out hb1); replace hbz := hbz.trans (hb1.mono hbz.size); clear hb1) | (go_at_call 27; refine (HSO.out _ _ R5.out).mono ?_; rintro e w8 ⟨rfl, rfl⟩) | (go_at_call 28; refine (HIH.out _).mono ?_; rintro e w8 ⟨rfl, rfl⟩) | (go_at_call 29; refine (HIF.out _).mono ?_; rintro e w8 ⟨rfl, rfl⟩) | (refine wpList_buildRR rfl 33 _ rfl _ rfl [] rfl (roomC 0 0 (.slice none 0 0)) built_room0 ?_) | (refine wpList_store_part rfl 33 _ _ rfl b1 0 (roomC 0 0 (.slice none 0 0)) rfl rfl 33 _ H1.out info_room (Nat.le_refl _) (room_oneN _ _) ?_; rw [laid_allr _ _ (by rfl)]))
  refine bodyPost_ret (results_rm rfl _ _ b1 0 0 (.slice none 0 0) rfl (setRow_heap _ _ _ _ _ _ H1.out)) rfl ?_
  exact ⟨rfl, below_setRow hbz (by omega) _⟩

theorem not_gt1 {f : Nat} (hf : f ≤ 1065353216) : (FloatKind.f32.format.order f 1065353216 == some .gt) = false := by
  have hc := order_num (x := f) (y := 1065353216) (.inl (by omega)) (.inl (by decide))
  rw [hc, sv_pos (by omega), sv_pos (by decide)]
  have h2 : rv f ≤ rv 1065353216 := rv_le hf
  cases h : compare ((rv f : Nat) : Int) ((rv 1065353216 : Nat) : Int) with
  | gt => have h3 := Int.compare_eq_gt.1 h; omega
  | lt => rfl
  | eq => rfl

theorem wall_at {cur : Array Value} {k : Nat} {x : Wn} (h : cur.extract (k * 3) (k * 3 + 3) = winC x) : cur[k * 3]? = some (.int .i8 x.1) := by
  have g : (cur.extract (k * 3) (k * 3 + 3))[0]? = some (.int .i8 x.1) := by rw [h]; rfl
  rw [Array.getElem?_extract] at g
  split at g
  · exact g
  · cases g

set_option maxRecDepth 100000 in
set_option maxHeartbeats 8000000 in
theorem sLb_y (wd hg : Int) (iw : I8 wd) (ih : I8 hg) (sv : Value) (ws : List Wn) (hwf : ∀ x ∈ ws, WnWf x) (hs ts : List Int) (hh : hs.length = 24) (ht : ts.length = 24) (rb : ∀ x ∈ hs ++ ts, -32768 ≤ x ∧ x ≤ 32767) (hour north : Int) (ok : RmOk wd hg ws) (q : ∀ fc, 0 ≤ fc → fc ≤ 255 → HrOk hs ts hour fc) (n0 : 0 ≤ north) (n1 : north ≤ 255) (lo : Nat) (w : World) (hws : OwnW w lo sv ws) (hv : okRm wd hg ws = true) (hs2 : okB hs ts = true) (hih : inH hour = true) (hif : inF north = true) :
    Calls Tryd.prog 8 #[.agg (roomC wd hg sv), .agg (sunC hs ts), .int .i64 hour, .int .i64 north] w fun e w' => (∃ v, e = .returned (.tuple #[.agg (roomC wd hg v), .int .i64 0]) ∧ OwnQ w' w.heap.size v (ws.map (litS hs ts hour north))) ∧ Below w.heap.size w w' := by
  have HOK : Hid (∀ V, V.heap[w.heap.size]? = some (.cells (roomC wd hg sv) 33 (0, 0)) → WinsAt V sv ws → Calls Tryd.prog 26 #[.pointer (some ⟨w.heap.size, 0, none⟩)] V fun e w' => e = .returned (.bool true) ∧ Below V.heap.size V w') := Lib.hid (fun V h0 h => by have := l03Ok_any wd hg iw ih sv ws hwf w.heap.size 33 (0, 0) V h0 h; rw [hv] at this; exact this)
  have HSO : Hid (∀ (b5 : Nat) V, V.heap[b5]? = some (.cells (sunC hs ts) 37 (0, 0)) → Calls Tryd.prog 27 #[.pointer (some ⟨b5, 0, none⟩)] V fun e w' => e = .returned (.bool true) ∧ V = w') := Lib.hid (fun b5 V h => by have := l01Ok_any b5 hs ts hh ht rb 37 (0, 0) V h; rw [hs2] at this; exact this)
  have HIH := Lib.hid (fun V => l01Hour_is hour true hih V)
  have HIF := Lib.hid (fun V => l01Faced_is north true hif V)
  have HOW : Hid (∀ V, V.heap[w.heap.size]? = some (.cells (roomC wd hg sv) 33 (0, 0)) → OwnW V lo sv ws → Calls Tryd.prog 30 #[.pointer (some ⟨w.heap.size, 0, none⟩)] V fun e w' => (∃ v, e = .returned (.agg (roomC wd hg v)) ∧ OwnV w' V.heap.size v ws) ∧ Below V.heap.size V w') := Lib.hid (fun V h0 h => l03Own_any wd hg sv ws lo w.heap.size V h h0)
  have HFT := Lib.hid (fun (x : Wn) (hx : x ∈ ws) => fit_get (hwf x hx) (ok.all x hx))
  have HFF : Hid (∀ (b5 : Nat) (a : Int) V, V.heap[b5]? = some (.cells (sunC hs ts) 37 (0, 0)) → Calls Tryd.prog 31 #[.pointer (some ⟨b5, 0, none⟩), .int .i64 hour, .int .i64 (angB a)] V fun e w' => e = .returned (.float .f32 (fallOf hs ts hour (angB a))) ∧ Below V.heap.size V w') := Lib.hid (fun b5 a V h => by
    have hk := q _ (angB_lo a) (angB_hi a)
    exact l01Fall_any b5 hs ts hh ht hour (angB a) hk.h0 hk.h1 hk.f0 hk.f1 hk.x1 hk.y0 hk.y1 37 (0, 0) V h)
  have HLE := Lib.hid (fun a => fall_le (q _ (angB_lo a) (angB_hi a)))
  have hn12 := ok.len
  have HWO := Lib.hid hws
  have HW := Lib.hid (ownW_at hws)
  clear hws hv hwf iw ih ok q hh ht rb hs2 hih hif
  go_enter Tryd.func8, Tryd.ntmps8
  go_upto_region 1 with (fail)
  refine abs_world (fun W => W.heap[w.heap.size]? = some (.cells (roomC wd hg sv) 33 (0, 0)) ∧ W.heap[w.heap.size + 1]? = some (.cells (sunC hs ts) 37 (0, 0)) ∧ W.heap[w.heap.size + 1 + 1]? = some (.cells (roomC 0 0 (.slice none 0 0)) 33 (0, 0)) ∧ Below w.heap.size w W) (box3 w (.cells (roomC wd hg sv) 33) (.cells (sunC hs ts) 37) (.cells (roomC 0 0 (.slice none 0 0)) 33)) ?_
  rintro W ⟨h0, h5, h8, hbz⟩
  generalize hb8 : w.heap.size + 1 + 1 = b1 at *
  generalize hb5 : w.heap.size + 1 = b5 at *
  have n01 : w.heap.size < b1 := by omega
  have n05 : w.heap.size < b5 := by omega
  have n51 : b5 < b1 := by omega
  clear hb5 hb8
  have R0 := Lib.hid h0
  have R5 := Lib.hid h5
  have H1 := Lib.hid h8
  have HV := Lib.hid (wins_below HW.out hbz)
  clear h0 h5 h8
  have HO := Lib.hid (ownW_below HWO.out hbz (Nat.le_refl _))
  go_upto_region 6 with (first | (go_at_call 26; refine (HOK.out _ R0.out HV.out).mono ?_; rintro e W1 ⟨rfl, hb1⟩; replace R0 := Lib.hid (below_row hb1 R0.out); replace R5 := Lib.hid (below_row hb1 R5.out); replace H1 := Lib.hid (below_row hb1 H1.out); replace HV := Lib.hid (wins_below HV.out hb1); replace hbz := hbz.trans (hb1.mono hbz.size); replace HO := Lib.hid (ownW_below HO.out hb1 (Nat.le_refl _)); clear hb1) | (go_at_call 27; refine (HSO.out _ _ R5.out).mono ?_; rintro e w8 ⟨rfl, rfl⟩) | (go_at_call 28; refine (HIH.out _).mono ?_; rintro e w8 ⟨rfl, rfl⟩) | (go_at_call 29; refine (HIF.out _).mono ?_; rintro e w8 ⟨rfl, rfl⟩) | (go_at_call 30; have hlc := row_lt H1.out; have hlz := hbz.size; refine (HOW.out _ R0.out HO.out).mono ?_; rintro e W2 ⟨⟨v4, rfl, hv4⟩, hb2⟩; have HV4 := Lib.hid hv4; clear hv4; replace R0 := Lib.hid (below_row hb2 R0.out); replace R5 := Lib.hid (below_row hb2 R5.out); replace H1 := Lib.hid (below_row hb2 H1.out); replace HV := Lib.hid (wins_below HV.out hb2); replace hbz := hbz.trans (hb2.mono hbz.size); clear hb2) | (refine wpList_store_part rfl 33 _ _ rfl _ 0 (roomC wd hg v4) rfl rfl 33 _ (heap_alloc_new _ _) info_room (Nat.le_refl _) (room_oneQ _ _ (.inr HV4.out)) ?_; rw [laid_allr _ _ (by rfl)]))
  obtain ⟨g, cap, cur, rfl, k1, k2, k3, k4, k5, k6⟩ := HV4.out
  have hgl := row_lt k2
  refine abs_world (fun X => X.heap[w.heap.size]? = some (.cells (roomC wd hg sv) 33 (0, 0)) ∧ X.heap[b5]? = some (.cells (sunC hs ts) 37 (0, 0)) ∧ X.heap[b1]? = some (.cells (roomC 0 0 (.slice none 0 0)) 33 (0, 0)) ∧ X.heap[W2.heap.size]? = some (.cells (roomC wd hg (.slice (some ⟨g, 0, none⟩) ws.length cap)) 33 (0, 0)) ∧ X.heap[g]? = some (.cells cur 68 (0, 0)) ∧ Below w.heap.size w X) ⟨below_row (rwZ _ _ _) R0.out, below_row (rwZ _ _ _) R5.out, below_row (rwZ _ _ _) H1.out, setRow_heap _ _ _ _ _ _ (heap_alloc_new _ _), below_row (rwZ _ _ _) k2, hbz.trans ((rwZ _ _ _).mono hbz.size)⟩ ?_
  have HK6 := Lib.hid k6
  clear R0 R5 H1 HV HO HV4 hbz k2 k6 HOK HOW HWO HW HSO HIH HIF
  generalize W2.heap.size = b4 at *
  generalize hnn : ws.length = n at *
  have HN := Lib.hid hnn
  clear hnn
  rintro Y ⟨h0, h5, h1, h4, hgr, hbz⟩
  have R0 := Lib.hid h0
  have R5 := Lib.hid h5
  have H1 := Lib.hid h1
  have H4 := Lib.hid h4
  have HG := Lib.hid hgr
  clear h0 h5 h1 h4 hgr
  go_wp2
  go_loopw [11] (fun i wr => ∃ k : Nat, k ≤ n ∧ i = .int .i64 (k : Int) ∧ wr.heap[w.heap.size]? = some (.cells (roomC wd hg sv) 33 (0, 0)) ∧ wr.heap[b5]? = some (.cells (sunC hs ts) 37 (0, 0)) ∧ wr.heap[b1]? = some (.cells (roomC 0 0 (.slice none 0 0)) 33 (0, 0)) ∧ wr.heap[b4]? = some (.cells (roomC wd hg (.slice (some ⟨g, 0, none⟩) n cap)) 33 (0, 0)) ∧ Below w.heap.size w wr ∧ ∃ cur : Array Value, wr.heap[g]? = some (.cells cur 68 (0, 0)) ∧ n * 3 ≤ cur.size ∧ ∀ j x, ws[j]? = some x → cur.extract (j * 3) (j * 3 + 3) = winC (if j < k then litS hs ts hour north x else x)) (fun i _ => n - (intOf i).toNat)
  case atStart => exact ⟨0, Nat.zero_le _, rfl, R0.out, R5.out, H1.out, H4.out, hbz, cur, HG.out, k5, fun j x hx => by rw [if_neg (by omega)]; exact HK6.out j x hx⟩
  case round =>
    clear R0 R5 H1 H4 HG hbz HK6 k5 cur
    obtain ⟨k, hk, rfl, h0, h5, h1, h4, hbz, cur, hgr, hs0, hp⟩ := hrel
    have R0 := Lib.hid h0
    have R5 := Lib.hid h5
    have H1 := Lib.hid h1
    have H4 := Lib.hid h4
    have HG := Lib.hid hgr
    have HP := Lib.hid hp
    have hl4 := row_lt h4
    have r2 := (room_cells h4).2.2
    clear h0 h5 h1 h4 hp
    by_cases hlt : k < n
    · have hx : ws[k]? = some (ws[k]'(by rw [HN.out]; exact hlt)) := List.getElem?_eq_getElem _
      have hft := HFT.out _ (List.mem_of_getElem? hx)
      generalize (ws[k]'(by rw [HN.out]; exact hlt)) = x at *
      have hex : cur.extract (k * 3) (k * 3 + 3) = winC x := by have := HP.out k x hx; rw [if_neg (by omega)] at this; exact this
      have HEX := Lib.hid hex
      have q0 := cell_kR hgr (wall_at hex)
      have HXX := Lib.hid hx
      have hks : k * 3 + 3 ≤ cur.size := by omega
      have z1 : (k : Int) < (n : Int) := by omega
      have z2 : (0 : Int) ≤ (k : Int) := by omega
      have x0 := hft.l0
      have x3 := hft.l1
      have hw0 : IntKind.i64.wrap x.1 = x.1 := by rw [IntWalk.i64_in _ (by omega)]
      have hw1 : IntKind.i64.wrap (64 * x.1) = 64 * x.1 := by rw [IntWalk.i64_in _ (by omega)]
      have hw2 : IntKind.i64.wrap (north + 64 * x.1) = north + 64 * x.1 := by rw [IntWalk.i64_in _ (by omega)]
      have HFL := Lib.hid (fun V h => HFF.out b5 (north + 64 * x.1) V h)
      have zgt := not_gt1 (HLE.out (north + 64 * x.1))
      have HLS : Hid (litS hs ts hour north x = (x.1, x.2.1, fallOf hs ts hour (angB (north + 64 * x.1)))) := Lib.hid rfl
      generalize fallOf hs ts hour (angB (north + 64 * x.1)) = fv at *
      clear hx hft hgr hex
      go_upto_region 10 with (first | (go_at_call 32; refine (l01Angle_any _ _).mono ?_; rintro e w8 ⟨rfl, rfl⟩) | (go_at_call 31; refine (HFL.out _ R5.out).mono ?_; rintro e W6 ⟨rfl, hb1⟩; replace R0 := Lib.hid (below_row hb1 R0.out); replace R5 := Lib.hid (below_row hb1 R5.out); replace H1 := Lib.hid (below_row hb1 H1.out); replace H4 := Lib.hid (below_row hb1 H4.out); replace HG := Lib.hid (below_row hb1 HG.out); replace hbz := hbz.trans (hb1.mono hbz.size); have r2 := (room_cells H4.out).2.2; clear hb1))
      have q1 := cell_kR HG.out (light_at HEX.out)
      have q2 := frozen_of_row W6 g (k * 3 + 2) _ _ HG.out
      go_wp2
      go_roundw
      case rel =>
        refine ⟨k + 1, by omega, by go_num, (heap_setCell_other _ _ _ _ (by simp; omega)).trans R0.out, (heap_setCell_other _ _ _ _ (by simp; omega)).trans R5.out, (heap_setCell_other _ _ _ _ (by simp; omega)).trans H1.out, (heap_setCell_other _ _ _ _ (by simp; omega)).trans H4.out, hbz.setCell (p := ⟨g, k * 3 + 2, none⟩) (show w.heap.size ≤ g by omega) _, _, heap_setCell_same _ _ _ _ _ _ HG.out, by simp; omega, fun j z hz => ?_⟩
        by_cases e : k = j
        · subst e
          rw [HXX.out] at hz
          obtain rfl := Option.some.inj hz
          rw [if_pos (by omega), HLS.out]
          exact ext_here hks HEX.out
        · rw [ext_there (by omega), HP.out j z hz]
          by_cases e2 : j < k
          · rw [if_pos e2, if_pos (by omega)]
          · rw [if_neg e2, if_neg (by omega)]
      case measure => simp [intOf]; omega
    · obtain rfl : k = n := by omega
      have hlg := row_lt HG.out
      clear hgr
      have HRES : Hid (∀ U : World, U.heap[g]? = some (.cells cur 68 (0, 0)) → OwnQ U w.heap.size (.slice (some ⟨g, 0, none⟩) k cap) (ws.map (litS hs ts hour north))) := Lib.hid (fun U hu => .inr ⟨g, cap, cur, by rw [List.length_map, HN.out], by omega, hu, by rw [List.length_map, HN.out]; exact k3, k4, by rw [List.length_map, HN.out]; exact hs0, fun j z hz => by
        rw [List.getElem?_map] at hz
        cases hq : ws[j]? with
        | none => rw [hq] at hz; cases hz
        | some z0 =>
          rw [hq] at hz
          obtain rfl := Option.some.inj hz
          have hj := (List.getElem?_eq_some_iff.1 hq).1
          have := HP.out j z0 hq
          rw [if_pos (by have := HN.out; omega)] at this
          exact this⟩)
      go_wp2_with (first | (refine wpList_load_part rfl 33 _ rfl b4 0 3 rfl 33 (roomC wd hg (.slice (some ⟨g, 0, none⟩) k cap)) (0, 0) _ H4.out Tryd.underlying33 rfl info_room (room_fits _ _ _) _ (room_all _ _ _) ?_) | (refine wpList_store_part rfl 33 _ _ rfl b1 0 (roomC wd hg (.slice (some ⟨g, 0, none⟩) k cap)) rfl rfl 33 _ H1.out info_room (Nat.le_refl _) (room_oneS _ _ _ _ _) ?_; rw [laid_allr _ _ (by rfl)]))
      refine bodyPost_ret (results_rm rfl _ _ b1 wd hg (.slice (some ⟨g, 0, none⟩) k cap) rfl (setRow_heap _ _ _ _ _ _ H1.out)) rfl ?_
      exact ⟨⟨_, rfl, HRES.out _ ((setRow_other _ _ _ _ (by omega)).trans HG.out)⟩, below_setRow hbz (by omega) _⟩

end Go.Proofs.YtpcmcopfdghdgaaDoor
