/-
  Bfn, DyA, Bhd, Passer, WinN, Win, Tilted, DyL.
-/
import Derived.Test.YtmniodfdoidffaaGreatDoorMz1
import Derived.Test.YtmniodfdoidffaaGreatDoorBlind
import Derived.Test.YtmniodfdoidffaaGreatDoorLaw

namespace Go.Proofs.YtmniodfdoidffaaGreatDoor
open Go.ChangeShapes Go.WideShapes Go.ChangeAt Go.RowKit Go.Deep Go.Joins

attribute [local go_sem] run_store_f

def codeC (ok fine : Bool) : Int := if !ok then 1 else if !fine then 2 else 0

theorem codeC_ne {ok fine : Bool} (h : ¬ (ok = true ∧ fine = true)) : codeC ok fine ≠ 0 := by
  cases ok <;> cases fine <;> simp_all [codeC]

theorem codeC_ok : codeC true true = 0 := rfl

/-- The bounds of a blind that is valid. -/
def BlOk (n : Int) (wd gp : Nat) (t : Int) (sh : Nat) : Prop := 1 ≤ n ∧ n ≤ 60 ∧ 1031798784 ≤ wd ∧ wd ≤ 1115684864 ∧ 1031798784 ≤ gp ∧ gp ≤ 1115684864 ∧ -64 ≤ t ∧ t ≤ 64 ∧ (sh ≤ 1065353216 ∨ sh = 2147483648)

theorem blok_of {n : Int} {wd gp : Nat} {t : Int} {sh : Nat} (bw : BlWf n wd gp t sh) (h : okBl n wd gp t sh = true) : BlOk n wd gp t sh := by
  simp only [okBl, Bool.and_eq_true] at h
  obtain ⟨⟨⟨⟨h1, h2⟩, h3⟩, h4⟩, h5⟩ := h
  obtain ⟨a1, a2⟩ := inI_get h1
  obtain ⟨b1, b2⟩ := len_get bw.2.1 h2
  obtain ⟨c1, c2⟩ := len_get bw.2.2.1 h3
  obtain ⟨d1, d2⟩ := inI_get h4
  exact ⟨a1, a2, b1, b2, c1, c2, d1, d2, part_get bw.2.2.2.2 h5⟩

set_option maxRecDepth 100000 in
set_option maxHeartbeats 1000000 in
theorem openAt_any (n : Int) (wd gp : Nat) (t : Int) (sh : Nat) (ok : BlOk n wd gp t sh) (h : Int) (h0 : 1 ≤ h) (h1 : h ≤ 64) (w : World) :
    Calls Tryz.prog 82 #[.agg (blindC n wd gp t sh), .int .i64 h] w fun e w' => e = .returned (.float .f32 (opnB wd gp t h)) ∧ Below w.heap.size w w' := by
  obtain ⟨_, _, w0, w1, g0, g1, t0, t1, _⟩ := ok
  have HB := Lib.hid (fun w => blockedAt_any n wd gp t sh w0 w1 g0 g1 t0 t1 h h0 h1 w)
  have f1 := (opn_facts wd gp t h).1
  have r1 : ∀ T w, (binOp .sub T (.float .f32 1065353216) (.float .f32 (blkB wd gp t h))).run Tryz.prog w = .ok (.float .f32 (opnB wd gp t h)) w := fun T w => run_float_arith w .sub T .f32 _ _ _ f1
  clear f1 w0 w1 g0 g1 t0 t1 h0 h1
  go_enter Tryz.func82, Tryz.ntmps82
  go_upto_region 1 with (fail)
  refine abs_world (fun W => Below w.heap.size w W ∧ W.heap[w.heap.size]? = some (.cells (blindC n wd gp t sh) 33 (0, 0))) ⟨(Below.refl _ _).alloc (Nat.le_refl _) _, heap_alloc_new _ _⟩ ?_
  rintro W ⟨hb, h0⟩
  have H0 := Lib.hid h0
  clear h0
  go_wp2_with (first | (refine wpList_load_part rfl 33 _ rfl w.heap.size 0 5 rfl 33 (blindC n wd gp t sh) (0, 0) _ H0.out Tryz.underlying33 rfl info_blind (blind_fits _ _ _ _ _) _ (blind_all _ _ _ _ _) ?_) | (go_at_call 84; refine (HB.out _).mono ?_; rintro e W1 ⟨rfl, hb1⟩; replace H0 := Lib.hid (below_row hb1 H0.out); replace hb := hb.trans (hb1.mono hb.size); clear hb1))
  go_ret
  exact ⟨rfl, hb⟩

/-! ### The model's -/
set_option maxRecDepth 100000 in
set_option maxHeartbeats 1000000 in
theorem l02Blocked_any (n : Int) (wd gp : Nat) (t : Int) (sh : Nat) (ok : BlOk n wd gp t sh) (h : Int) (h0 : 1 ≤ h) (h1 : h ≤ 64) (g : Nat) (T : TypeId) (fr : Nat × Nat) (w : World) (hg : w.heap[g]? = some (.cells (blindC n wd gp t sh) T fr)) :
    Calls Tryz.prog 79 #[.pointer (some ⟨g, 0, none⟩), .int .i64 h] w fun e w' => e = .returned (.float .f32 (blkB wd gp t h)) ∧ Below w.heap.size w w' := by
  obtain ⟨_, _, w0, w1, g0, g1, t0, t1, _⟩ := ok
  obtain ⟨k0, k1, k2, k3, k4⟩ := blind_cells hg
  have HG := Lib.hid hg
  clear hg
  have HN := Lib.hid (sine_isNum (h + t))
  by_cases hh : h < 64
  · obtain ⟨f1, f2, f3, f4, _, _⟩ := blk_facts (t := t) w0 w1 g0 g1 h0 hh
    have hc := cos_gt h h0 hh
    have hB : blkB wd gp t h = min1 (quoB wd gp t h) := if_neg (by omega)
    rw [hB]
    clear hB w0 w1 g0 g1
    have ho := order_pos f4 (y := 1065353216) (by decide)
    have r1 : ∀ T w, (binOp .mul T (.float .f32 wd) (.float .f32 (sizeB (sineB (angB (h + t)))))).run Tryz.prog w = .ok (.float .f32 (fmul wd (sizeB (sineB (angB (h + t)))))) w := fun T w => run_float_arith w .mul T .f32 _ _ _ f1
    have r2 : ∀ T w, (binOp .mul T (.float .f32 gp) (.float .f32 (cosB h))).run Tryz.prog w = .ok (.float .f32 (fmul gp (cosB h))) w := fun T w => run_float_arith w .mul T .f32 _ _ _ f2
    have r3 : ∀ T w, (binOp .quo T (.float .f32 (fmul wd (sizeB (sineB (angB (h + t)))))) (.float .f32 (fmul gp (cosB h)))).run Tryz.prog w = .ok (.float .f32 (quoB wd gp t h)) w := fun T w => run_float_arith w .quo T .f32 _ _ _ f3
    clear f1 f2 f3 f4
    generalize fmul wd (sizeB (sineB (angB (h + t)))) = x1 at *
    generalize fmul gp (cosB h) = x2 at *
    generalize quoB wd gp t h = q at *
    by_cases c : 1065353216 < q
    · rw [Nat.compare_eq_gt.2 c] at ho
      have e : min1 q = 1065353216 := if_pos c
      rw [e]
      clear e c
      go_enter Tryz.func79, Tryz.ntmps79
      go_wp2_with (first | (go_at_call 66; refine (l01Cosine_any _ _).mono ?_; rintro e w' ⟨rfl, rfl⟩) | (go_at_call 85; refine (l01Sine_any _ _).mono ?_; rintro e w' ⟨rfl, rfl⟩) | (go_at_call 90; refine (l01Size_any _ HN.out _).mono ?_; rintro e w' ⟨rfl, rfl⟩))
      refine wp_region_held_drew (S := (fun W => W.heap[g]? = some (.cells (blindC n wd gp t sh) T fr) ∧ Below w.heap.size w W)) (by kernel_rfl) ⟨HG.out, (Below.refl _ _).drew⟩ (fun hHeld => ?_)
      refine take_op (i := 0) (d := 21) (v := ?_) rfl rfl (by kernel_rfl) (by kernel_rfl) (by kernel_rfl) (fun _ _ _ h => h) (Or.inl ⟨by rfl, ?hy0u1⟩) hHeld ?rest0u1
      case hy0u1 =>
        intro w' hS'
        obtain ⟨s1, _⟩ := hS'
        obtain ⟨k0, k1, k2, k3, k4⟩ := blind_cells s1
        clear s1
        go_simp
        try with_reducible rfl
      simp only [List.setIfInBounds_toArray, List.set_cons_zero, List.set_cons_succ]
      refine take_op (i := 1) (d := 22) (v := ?_) rfl rfl (by kernel_rfl) (by kernel_rfl) (by kernel_rfl) (fun _ _ _ h => h) (Or.inl ⟨by rfl, ?hy1u2⟩) hHeld ?rest1u2
      case hy1u2 =>
        intro w' hS'
        obtain ⟨s1, _⟩ := hS'
        obtain ⟨k0, k1, k2, k3, k4⟩ := blind_cells s1
        clear s1
        go_simp
        try with_reducible rfl
      simp only [List.setIfInBounds_toArray, List.set_cons_zero, List.set_cons_succ]
      refine take_op (i := 2) (d := 23) (v := ?_) rfl rfl (by kernel_rfl) (by kernel_rfl) (by kernel_rfl) (fun _ _ _ h => h) (Or.inl ⟨by rfl, ?hy2u3⟩) hHeld ?rest2u3
      case hy2u3 =>
        intro w' hS'
        obtain ⟨s1, _⟩ := hS'
        obtain ⟨k0, k1, k2, k3, k4⟩ := blind_cells s1
        clear s1
        go_simp
        try with_reducible rfl
      simp only [List.setIfInBounds_toArray, List.set_cons_zero, List.set_cons_succ]
      refine take_op (i := 3) (d := 24) (v := ?_) rfl rfl (by kernel_rfl) (by kernel_rfl) (by kernel_rfl) (fun _ _ _ h => h) (Or.inl ⟨by rfl, ?hy3u4⟩) hHeld ?rest3u4
      case hy3u4 =>
        intro w' hS'
        obtain ⟨s1, _⟩ := hS'
        obtain ⟨k0, k1, k2, k3, k4⟩ := blind_cells s1
        clear s1
        go_simp
        try with_reducible rfl
      simp only [List.setIfInBounds_toArray, List.set_cons_zero, List.set_cons_succ]
      refine take_op (i := 4) (d := 25) (v := ?_) rfl rfl (by kernel_rfl) (by kernel_rfl) (by kernel_rfl) (fun _ _ _ h => h) (Or.inl ⟨by rfl, ?hy4u5⟩) hHeld ?rest4u5
      case hy4u5 =>
        intro w' hS'
        obtain ⟨s1, _⟩ := hS'
        obtain ⟨k0, k1, k2, k3, k4⟩ := blind_cells s1
        clear s1
        go_simp
        try with_reducible rfl
      simp only [List.setIfInBounds_toArray, List.set_cons_zero, List.set_cons_succ]
      refine take_op (i := 5) (d := 26) (v := ?_) rfl rfl (by kernel_rfl) (by kernel_rfl) (by kernel_rfl) (fun _ _ _ h => h) (Or.inl ⟨by rfl, ?hy5u6⟩) hHeld ?rest5u6
      case hy5u6 =>
        intro w' hS'
        obtain ⟨s1, _⟩ := hS'
        obtain ⟨k0, k1, k2, k3, k4⟩ := blind_cells s1
        clear s1
        go_simp
        try with_reducible rfl
      simp only [List.setIfInBounds_toArray, List.set_cons_zero, List.set_cons_succ]
      refine take_op (i := 6) (d := 27) (v := ?_) rfl rfl (by kernel_rfl) (by kernel_rfl) (by kernel_rfl) (fun _ _ _ h => h) (Or.inl ⟨by rfl, ?hy6u7⟩) hHeld ?rest6u7
      case hy6u7 =>
        intro w' hS'
        obtain ⟨s1, _⟩ := hS'
        obtain ⟨k0, k1, k2, k3, k4⟩ := blind_cells s1
        clear s1
        go_simp
        try with_reducible rfl
      simp only [List.setIfInBounds_toArray, List.set_cons_zero, List.set_cons_succ]
      refine take_op (i := 7) (d := 28) (v := ?_) rfl rfl (by kernel_rfl) (by kernel_rfl) (by kernel_rfl) (fun _ _ _ h => h) (Or.inl ⟨by rfl, ?hy7u8⟩) hHeld ?rest7u8
      case hy7u8 =>
        intro w' hS'
        obtain ⟨s1, _⟩ := hS'
        obtain ⟨k0, k1, k2, k3, k4⟩ := blind_cells s1
        clear s1
        go_simp
        try with_reducible rfl
      simp only [List.setIfInBounds_toArray, List.set_cons_zero, List.set_cons_succ]
      refine take_op (i := 8) (d := 29) (v := ?_) rfl rfl (by kernel_rfl) (by kernel_rfl) (by kernel_rfl) (fun _ _ _ h => h) (Or.inl ⟨by rfl, ?hy8u9⟩) hHeld ?rest8u9
      case hy8u9 =>
        intro w' hS'
        obtain ⟨s1, _⟩ := hS'
        obtain ⟨k0, k1, k2, k3, k4⟩ := blind_cells s1
        clear s1
        go_simp
        try with_reducible rfl
      simp only [List.setIfInBounds_toArray, List.set_cons_zero, List.set_cons_succ]
      refine take_op (i := 9) (d := 30) (v := ?_) rfl rfl (by kernel_rfl) (by kernel_rfl) (by kernel_rfl) (fun _ _ _ h => h) (Or.inl ⟨by rfl, ?hy9u10⟩) hHeld ?rest9u10
      case hy9u10 =>
        intro w' hS'
        obtain ⟨s1, _⟩ := hS'
        obtain ⟨k0, k1, k2, k3, k4⟩ := blind_cells s1
        clear s1
        go_simp
        try with_reducible rfl
      simp only [List.setIfInBounds_toArray, List.set_cons_zero, List.set_cons_succ]
      refine take_op (i := 10) (d := 31) (v := ?_) rfl rfl (by kernel_rfl) (by kernel_rfl) (by kernel_rfl) (fun _ _ _ h => h) (Or.inl ⟨by rfl, ?hy10u11⟩) hHeld ?rest10u11
      case hy10u11 =>
        intro w' hS'
        obtain ⟨s1, _⟩ := hS'
        obtain ⟨k0, k1, k2, k3, k4⟩ := blind_cells s1
        clear s1
        go_simp
        try with_reducible rfl
      simp only [List.setIfInBounds_toArray, List.set_cons_zero, List.set_cons_succ]
      refine take_op (i := 11) (d := 32) (v := ?_) rfl rfl (by kernel_rfl) (by kernel_rfl) (by kernel_rfl) (fun _ _ _ h => h) (Or.inl ⟨by rfl, ?hy11u12⟩) hHeld ?rest11u12
      case hy11u12 =>
        intro w' hS'
        obtain ⟨s1, _⟩ := hS'
        obtain ⟨k0, k1, k2, k3, k4⟩ := blind_cells s1
        clear s1
        go_simp
        try with_reducible rfl
      simp only [List.setIfInBounds_toArray, List.set_cons_zero, List.set_cons_succ]
      refine take_op (i := 12) (d := 33) (v := ?_) rfl rfl (by kernel_rfl) (by kernel_rfl) (by kernel_rfl) (fun _ _ _ h => h) (Or.inl ⟨by rfl, ?hy12u13⟩) hHeld ?rest12u13
      case hy12u13 =>
        intro w' hS'
        obtain ⟨s1, _⟩ := hS'
        obtain ⟨k0, k1, k2, k3, k4⟩ := blind_cells s1
        clear s1
        go_simp
        try with_reducible rfl
      simp only [List.setIfInBounds_toArray, List.set_cons_zero, List.set_cons_succ]
      refine take_op (i := 13) (d := 7) (v := ?_) rfl rfl (by kernel_rfl) (by kernel_rfl) (by kernel_rfl) (fun _ _ _ h => h) (Or.inl ⟨by rfl, ?hy13u14⟩) hHeld ?rest13u14
      case hy13u14 =>
        intro w' hS'
        obtain ⟨s1, _⟩ := hS'
        obtain ⟨k0, k1, k2, k3, k4⟩ := blind_cells s1
        clear s1
        go_simp
        try with_reducible rfl
      simp only [List.setIfInBounds_toArray, List.set_cons_zero, List.set_cons_succ]
      refine wpAnyH_done (by kernel_rfl) ?_ _
      go_wp2
      go_ret
      exact ⟨rfl, hHeld.2⟩
    · have e : min1 q = q := if_neg c
      rw [e]
      have ho2 : FloatKind.f32.format.order q 1065353216 = some .lt ∨ FloatKind.f32.format.order q 1065353216 = some .eq := by
        rw [ho]
        rcases Nat.lt_or_eq_of_le (Nat.le_of_not_lt c) with c | c
        · rw [Nat.compare_eq_lt.2 c]; exact .inl rfl
        · rw [Nat.compare_eq_eq.2 c]; exact .inr rfl
      clear e c ho
      rcases ho2 with ho | ho
      · skip
        go_enter Tryz.func79, Tryz.ntmps79
        go_wp2_with (first | (go_at_call 66; refine (l01Cosine_any _ _).mono ?_; rintro e w' ⟨rfl, rfl⟩) | (go_at_call 85; refine (l01Sine_any _ _).mono ?_; rintro e w' ⟨rfl, rfl⟩) | (go_at_call 90; refine (l01Size_any _ HN.out _).mono ?_; rintro e w' ⟨rfl, rfl⟩))
        refine wp_region_held_drew (S := (fun W => W.heap[g]? = some (.cells (blindC n wd gp t sh) T fr) ∧ Below w.heap.size w W)) (by kernel_rfl) ⟨HG.out, (Below.refl _ _).drew⟩ (fun hHeld => ?_)
        refine take_op (i := 0) (d := 21) (v := ?_) rfl rfl (by kernel_rfl) (by kernel_rfl) (by kernel_rfl) (fun _ _ _ h => h) (Or.inl ⟨by rfl, ?hy0u15⟩) hHeld ?rest0u15
        case hy0u15 =>
          intro w' hS'
          obtain ⟨s1, _⟩ := hS'
          obtain ⟨k0, k1, k2, k3, k4⟩ := blind_cells s1
          clear s1
          go_simp
          try with_reducible rfl
        simp only [List.setIfInBounds_toArray, List.set_cons_zero, List.set_cons_succ]
        refine take_op (i := 1) (d := 22) (v := ?_) rfl rfl (by kernel_rfl) (by kernel_rfl) (by kernel_rfl) (fun _ _ _ h => h) (Or.inl ⟨by rfl, ?hy1u16⟩) hHeld ?rest1u16
        case hy1u16 =>
          intro w' hS'
          obtain ⟨s1, _⟩ := hS'
          obtain ⟨k0, k1, k2, k3, k4⟩ := blind_cells s1
          clear s1
          go_simp
          try with_reducible rfl
        simp only [List.setIfInBounds_toArray, List.set_cons_zero, List.set_cons_succ]
        refine take_op (i := 2) (d := 23) (v := ?_) rfl rfl (by kernel_rfl) (by kernel_rfl) (by kernel_rfl) (fun _ _ _ h => h) (Or.inl ⟨by rfl, ?hy2u17⟩) hHeld ?rest2u17
        case hy2u17 =>
          intro w' hS'
          obtain ⟨s1, _⟩ := hS'
          obtain ⟨k0, k1, k2, k3, k4⟩ := blind_cells s1
          clear s1
          go_simp
          try with_reducible rfl
        simp only [List.setIfInBounds_toArray, List.set_cons_zero, List.set_cons_succ]
        refine take_op (i := 3) (d := 24) (v := ?_) rfl rfl (by kernel_rfl) (by kernel_rfl) (by kernel_rfl) (fun _ _ _ h => h) (Or.inl ⟨by rfl, ?hy3u18⟩) hHeld ?rest3u18
        case hy3u18 =>
          intro w' hS'
          obtain ⟨s1, _⟩ := hS'
          obtain ⟨k0, k1, k2, k3, k4⟩ := blind_cells s1
          clear s1
          go_simp
          try with_reducible rfl
        simp only [List.setIfInBounds_toArray, List.set_cons_zero, List.set_cons_succ]
        refine take_op (i := 4) (d := 25) (v := ?_) rfl rfl (by kernel_rfl) (by kernel_rfl) (by kernel_rfl) (fun _ _ _ h => h) (Or.inl ⟨by rfl, ?hy4u19⟩) hHeld ?rest4u19
        case hy4u19 =>
          intro w' hS'
          obtain ⟨s1, _⟩ := hS'
          obtain ⟨k0, k1, k2, k3, k4⟩ := blind_cells s1
          clear s1
          go_simp
          try with_reducible rfl
        simp only [List.setIfInBounds_toArray, List.set_cons_zero, List.set_cons_succ]
        refine take_op (i := 5) (d := 26) (v := ?_) rfl rfl (by kernel_rfl) (by kernel_rfl) (by kernel_rfl) (fun _ _ _ h => h) (Or.inl ⟨by rfl, ?hy5u20⟩) hHeld ?rest5u20
        case hy5u20 =>
          intro w' hS'
          obtain ⟨s1, _⟩ := hS'
          obtain ⟨k0, k1, k2, k3, k4⟩ := blind_cells s1
          clear s1
          go_simp
          try with_reducible rfl
        simp only [List.setIfInBounds_toArray, List.set_cons_zero, List.set_cons_succ]
        refine take_op (i := 6) (d := 27) (v := ?_) rfl rfl (by kernel_rfl) (by kernel_rfl) (by kernel_rfl) (fun _ _ _ h => h) (Or.inl ⟨by rfl, ?hy6u21⟩) hHeld ?rest6u21
        case hy6u21 =>
          intro w' hS'
          obtain ⟨s1, _⟩ := hS'
          obtain ⟨k0, k1, k2, k3, k4⟩ := blind_cells s1
          clear s1
          go_simp
          try with_reducible rfl
        simp only [List.setIfInBounds_toArray, List.set_cons_zero, List.set_cons_succ]
        refine take_op (i := 7) (d := 28) (v := ?_) rfl rfl (by kernel_rfl) (by kernel_rfl) (by kernel_rfl) (fun _ _ _ h => h) (Or.inl ⟨by rfl, ?hy7u22⟩) hHeld ?rest7u22
        case hy7u22 =>
          intro w' hS'
          obtain ⟨s1, _⟩ := hS'
          obtain ⟨k0, k1, k2, k3, k4⟩ := blind_cells s1
          clear s1
          go_simp
          try with_reducible rfl
        simp only [List.setIfInBounds_toArray, List.set_cons_zero, List.set_cons_succ]
        refine take_op (i := 8) (d := 29) (v := ?_) rfl rfl (by kernel_rfl) (by kernel_rfl) (by kernel_rfl) (fun _ _ _ h => h) (Or.inl ⟨by rfl, ?hy8u23⟩) hHeld ?rest8u23
        case hy8u23 =>
          intro w' hS'
          obtain ⟨s1, _⟩ := hS'
          obtain ⟨k0, k1, k2, k3, k4⟩ := blind_cells s1
          clear s1
          go_simp
          try with_reducible rfl
        simp only [List.setIfInBounds_toArray, List.set_cons_zero, List.set_cons_succ]
        refine take_op (i := 9) (d := 30) (v := ?_) rfl rfl (by kernel_rfl) (by kernel_rfl) (by kernel_rfl) (fun _ _ _ h => h) (Or.inl ⟨by rfl, ?hy9u24⟩) hHeld ?rest9u24
        case hy9u24 =>
          intro w' hS'
          obtain ⟨s1, _⟩ := hS'
          obtain ⟨k0, k1, k2, k3, k4⟩ := blind_cells s1
          clear s1
          go_simp
          try with_reducible rfl
        simp only [List.setIfInBounds_toArray, List.set_cons_zero, List.set_cons_succ]
        refine take_op (i := 10) (d := 31) (v := ?_) rfl rfl (by kernel_rfl) (by kernel_rfl) (by kernel_rfl) (fun _ _ _ h => h) (Or.inl ⟨by rfl, ?hy10u25⟩) hHeld ?rest10u25
        case hy10u25 =>
          intro w' hS'
          obtain ⟨s1, _⟩ := hS'
          obtain ⟨k0, k1, k2, k3, k4⟩ := blind_cells s1
          clear s1
          go_simp
          try with_reducible rfl
        simp only [List.setIfInBounds_toArray, List.set_cons_zero, List.set_cons_succ]
        refine take_op (i := 11) (d := 32) (v := ?_) rfl rfl (by kernel_rfl) (by kernel_rfl) (by kernel_rfl) (fun _ _ _ h => h) (Or.inl ⟨by rfl, ?hy11u26⟩) hHeld ?rest11u26
        case hy11u26 =>
          intro w' hS'
          obtain ⟨s1, _⟩ := hS'
          obtain ⟨k0, k1, k2, k3, k4⟩ := blind_cells s1
          clear s1
          go_simp
          try with_reducible rfl
        simp only [List.setIfInBounds_toArray, List.set_cons_zero, List.set_cons_succ]
        refine take_op (i := 12) (d := 33) (v := ?_) rfl rfl (by kernel_rfl) (by kernel_rfl) (by kernel_rfl) (fun _ _ _ h => h) (Or.inl ⟨by rfl, ?hy12u27⟩) hHeld ?rest12u27
        case hy12u27 =>
          intro w' hS'
          obtain ⟨s1, _⟩ := hS'
          obtain ⟨k0, k1, k2, k3, k4⟩ := blind_cells s1
          clear s1
          go_simp
          try with_reducible rfl
        simp only [List.setIfInBounds_toArray, List.set_cons_zero, List.set_cons_succ]
        refine take_op (i := 13) (d := 7) (v := ?_) rfl rfl (by kernel_rfl) (by kernel_rfl) (by kernel_rfl) (fun _ _ _ h => h) (Or.inl ⟨by rfl, ?hy13u28⟩) hHeld ?rest13u28
        case hy13u28 =>
          intro w' hS'
          obtain ⟨s1, _⟩ := hS'
          obtain ⟨k0, k1, k2, k3, k4⟩ := blind_cells s1
          clear s1
          go_simp
          try with_reducible rfl
        simp only [List.setIfInBounds_toArray, List.set_cons_zero, List.set_cons_succ]
        refine wpAnyH_done (by kernel_rfl) ?_ _
        go_wp2
        go_ret
        exact ⟨rfl, hHeld.2⟩
      · skip
        go_enter Tryz.func79, Tryz.ntmps79
        go_wp2_with (first | (go_at_call 66; refine (l01Cosine_any _ _).mono ?_; rintro e w' ⟨rfl, rfl⟩) | (go_at_call 85; refine (l01Sine_any _ _).mono ?_; rintro e w' ⟨rfl, rfl⟩) | (go_at_call 90; refine (l01Size_any _ HN.out _).mono ?_; rintro e w' ⟨rfl, rfl⟩))
        refine wp_region_held_drew (S := (fun W => W.heap[g]? = some (.cells (blindC n wd gp t sh) T fr) ∧ Below w.heap.size w W)) (by kernel_rfl) ⟨HG.out, (Below.refl _ _).drew⟩ (fun hHeld => ?_)
        refine take_op (i := 0) (d := 21) (v := ?_) rfl rfl (by kernel_rfl) (by kernel_rfl) (by kernel_rfl) (fun _ _ _ h => h) (Or.inl ⟨by rfl, ?hy0u29⟩) hHeld ?rest0u29
        case hy0u29 =>
          intro w' hS'
          obtain ⟨s1, _⟩ := hS'
          obtain ⟨k0, k1, k2, k3, k4⟩ := blind_cells s1
          clear s1
          go_simp
          try with_reducible rfl
        simp only [List.setIfInBounds_toArray, List.set_cons_zero, List.set_cons_succ]
        refine take_op (i := 1) (d := 22) (v := ?_) rfl rfl (by kernel_rfl) (by kernel_rfl) (by kernel_rfl) (fun _ _ _ h => h) (Or.inl ⟨by rfl, ?hy1u30⟩) hHeld ?rest1u30
        case hy1u30 =>
          intro w' hS'
          obtain ⟨s1, _⟩ := hS'
          obtain ⟨k0, k1, k2, k3, k4⟩ := blind_cells s1
          clear s1
          go_simp
          try with_reducible rfl
        simp only [List.setIfInBounds_toArray, List.set_cons_zero, List.set_cons_succ]
        refine take_op (i := 2) (d := 23) (v := ?_) rfl rfl (by kernel_rfl) (by kernel_rfl) (by kernel_rfl) (fun _ _ _ h => h) (Or.inl ⟨by rfl, ?hy2u31⟩) hHeld ?rest2u31
        case hy2u31 =>
          intro w' hS'
          obtain ⟨s1, _⟩ := hS'
          obtain ⟨k0, k1, k2, k3, k4⟩ := blind_cells s1
          clear s1
          go_simp
          try with_reducible rfl
        simp only [List.setIfInBounds_toArray, List.set_cons_zero, List.set_cons_succ]
        refine take_op (i := 3) (d := 24) (v := ?_) rfl rfl (by kernel_rfl) (by kernel_rfl) (by kernel_rfl) (fun _ _ _ h => h) (Or.inl ⟨by rfl, ?hy3u32⟩) hHeld ?rest3u32
        case hy3u32 =>
          intro w' hS'
          obtain ⟨s1, _⟩ := hS'
          obtain ⟨k0, k1, k2, k3, k4⟩ := blind_cells s1
          clear s1
          go_simp
          try with_reducible rfl
        simp only [List.setIfInBounds_toArray, List.set_cons_zero, List.set_cons_succ]
        refine take_op (i := 4) (d := 25) (v := ?_) rfl rfl (by kernel_rfl) (by kernel_rfl) (by kernel_rfl) (fun _ _ _ h => h) (Or.inl ⟨by rfl, ?hy4u33⟩) hHeld ?rest4u33
        case hy4u33 =>
          intro w' hS'
          obtain ⟨s1, _⟩ := hS'
          obtain ⟨k0, k1, k2, k3, k4⟩ := blind_cells s1
          clear s1
          go_simp
          try with_reducible rfl
        simp only [List.setIfInBounds_toArray, List.set_cons_zero, List.set_cons_succ]
        refine take_op (i := 5) (d := 26) (v := ?_) rfl rfl (by kernel_rfl) (by kernel_rfl) (by kernel_rfl) (fun _ _ _ h => h) (Or.inl ⟨by rfl, ?hy5u34⟩) hHeld ?rest5u34
        case hy5u34 =>
          intro w' hS'
          obtain ⟨s1, _⟩ := hS'
          obtain ⟨k0, k1, k2, k3, k4⟩ := blind_cells s1
          clear s1
          go_simp
          try with_reducible rfl
        simp only [List.setIfInBounds_toArray, List.set_cons_zero, List.set_cons_succ]
        refine take_op (i := 6) (d := 27) (v := ?_) rfl rfl (by kernel_rfl) (by kernel_rfl) (by kernel_rfl) (fun _ _ _ h => h) (Or.inl ⟨by rfl, ?hy6u35⟩) hHeld ?rest6u35
        case hy6u35 =>
          intro w' hS'
          obtain ⟨s1, _⟩ := hS'
          obtain ⟨k0, k1, k2, k3, k4⟩ := blind_cells s1
          clear s1
          go_simp
          try with_reducible rfl
        simp only [List.setIfInBounds_toArray, List.set_cons_zero, List.set_cons_succ]
        refine take_op (i := 7) (d := 28) (v := ?_) rfl rfl (by kernel_rfl) (by kernel_rfl) (by kernel_rfl) (fun _ _ _ h => h) (Or.inl ⟨by rfl, ?hy7u36⟩) hHeld ?rest7u36
        case hy7u36 =>
          intro w' hS'
          obtain ⟨s1, _⟩ := hS'
          obtain ⟨k0, k1, k2, k3, k4⟩ := blind_cells s1
          clear s1
          go_simp
          try with_reducible rfl
        simp only [List.setIfInBounds_toArray, List.set_cons_zero, List.set_cons_succ]
        refine take_op (i := 8) (d := 29) (v := ?_) rfl rfl (by kernel_rfl) (by kernel_rfl) (by kernel_rfl) (fun _ _ _ h => h) (Or.inl ⟨by rfl, ?hy8u37⟩) hHeld ?rest8u37
        case hy8u37 =>
          intro w' hS'
          obtain ⟨s1, _⟩ := hS'
          obtain ⟨k0, k1, k2, k3, k4⟩ := blind_cells s1
          clear s1
          go_simp
          try with_reducible rfl
        simp only [List.setIfInBounds_toArray, List.set_cons_zero, List.set_cons_succ]
        refine take_op (i := 9) (d := 30) (v := ?_) rfl rfl (by kernel_rfl) (by kernel_rfl) (by kernel_rfl) (fun _ _ _ h => h) (Or.inl ⟨by rfl, ?hy9u38⟩) hHeld ?rest9u38
        case hy9u38 =>
          intro w' hS'
          obtain ⟨s1, _⟩ := hS'
          obtain ⟨k0, k1, k2, k3, k4⟩ := blind_cells s1
          clear s1
          go_simp
          try with_reducible rfl
        simp only [List.setIfInBounds_toArray, List.set_cons_zero, List.set_cons_succ]
        refine take_op (i := 10) (d := 31) (v := ?_) rfl rfl (by kernel_rfl) (by kernel_rfl) (by kernel_rfl) (fun _ _ _ h => h) (Or.inl ⟨by rfl, ?hy10u39⟩) hHeld ?rest10u39
        case hy10u39 =>
          intro w' hS'
          obtain ⟨s1, _⟩ := hS'
          obtain ⟨k0, k1, k2, k3, k4⟩ := blind_cells s1
          clear s1
          go_simp
          try with_reducible rfl
        simp only [List.setIfInBounds_toArray, List.set_cons_zero, List.set_cons_succ]
        refine take_op (i := 11) (d := 32) (v := ?_) rfl rfl (by kernel_rfl) (by kernel_rfl) (by kernel_rfl) (fun _ _ _ h => h) (Or.inl ⟨by rfl, ?hy11u40⟩) hHeld ?rest11u40
        case hy11u40 =>
          intro w' hS'
          obtain ⟨s1, _⟩ := hS'
          obtain ⟨k0, k1, k2, k3, k4⟩ := blind_cells s1
          clear s1
          go_simp
          try with_reducible rfl
        simp only [List.setIfInBounds_toArray, List.set_cons_zero, List.set_cons_succ]
        refine take_op (i := 12) (d := 33) (v := ?_) rfl rfl (by kernel_rfl) (by kernel_rfl) (by kernel_rfl) (fun _ _ _ h => h) (Or.inl ⟨by rfl, ?hy12u41⟩) hHeld ?rest12u41
        case hy12u41 =>
          intro w' hS'
          obtain ⟨s1, _⟩ := hS'
          obtain ⟨k0, k1, k2, k3, k4⟩ := blind_cells s1
          clear s1
          go_simp
          try with_reducible rfl
        simp only [List.setIfInBounds_toArray, List.set_cons_zero, List.set_cons_succ]
        refine take_op (i := 13) (d := 7) (v := ?_) rfl rfl (by kernel_rfl) (by kernel_rfl) (by kernel_rfl) (fun _ _ _ h => h) (Or.inl ⟨by rfl, ?hy13u42⟩) hHeld ?rest13u42
        case hy13u42 =>
          intro w' hS'
          obtain ⟨s1, _⟩ := hS'
          obtain ⟨k0, k1, k2, k3, k4⟩ := blind_cells s1
          clear s1
          go_simp
          try with_reducible rfl
        simp only [List.setIfInBounds_toArray, List.set_cons_zero, List.set_cons_succ]
        refine wpAnyH_done (by kernel_rfl) ?_ _
        go_wp2
        go_ret
        exact ⟨rfl, hHeld.2⟩
  · obtain rfl : h = 64 := by omega
    have hc := cos_eq
    have hB : blkB wd gp t 64 = 1065353216 := rfl
    rw [hB]
    clear hB w0 w1 g0 g1
    go_enter Tryz.func79, Tryz.ntmps79
    go_wp2_with (first | (go_at_call 66; refine (l01Cosine_any _ _).mono ?_; rintro e w' ⟨rfl, rfl⟩) | (go_at_call 85; refine (l01Sine_any _ _).mono ?_; rintro e w' ⟨rfl, rfl⟩) | (go_at_call 90; refine (l01Size_any _ HN.out _).mono ?_; rintro e w' ⟨rfl, rfl⟩))
    go_ret
    exact ⟨rfl, Below.refl _ _⟩

set_option maxRecDepth 100000 in
set_option maxHeartbeats 1000000 in
theorem l02Open_any (n : Int) (wd gp : Nat) (t : Int) (sh : Nat) (ok : BlOk n wd gp t sh) (h : Int) (h0 : 1 ≤ h) (h1 : h ≤ 64) (g : Nat) (T : TypeId) (fr : Nat × Nat) (w : World) (hg : w.heap[g]? = some (.cells (blindC n wd gp t sh) T fr)) :
    Calls Tryz.prog 78 #[.pointer (some ⟨g, 0, none⟩), .int .i64 h] w fun e w' => e = .returned (.float .f32 (opnB wd gp t h)) ∧ Below w.heap.size w w' := by
  have HB := Lib.hid (l02Blocked_any n wd gp t sh ok h h0 h1 g T fr w hg)
  have f1 := (opn_facts wd gp t h).1
  have r1 : ∀ T w, (binOp .sub T (.float .f32 1065353216) (.float .f32 (blkB wd gp t h))).run Tryz.prog w = .ok (.float .f32 (opnB wd gp t h)) w := fun T w => run_float_arith w .sub T .f32 _ _ _ f1
  clear f1 ok h0 h1 hg
  go_enter Tryz.func78, Tryz.ntmps78
  go_wp2_with (go_at_call 79; refine (HB.out).mono ?_; rintro e W1 ⟨rfl, hb1⟩)
  go_ret
  exact ⟨rfl, hb1⟩

set_option maxRecDepth 100000 in
set_option maxHeartbeats 1000000 in
theorem l02Pass_any (n : Int) (wd gp : Nat) (t : Int) (sh : Nat) (ok : BlOk n wd gp t sh) (h : Int) (h0 : 1 ≤ h) (h1 : h ≤ 64) (g : Nat) (T : TypeId) (fr : Nat × Nat) (w : World) (hg : w.heap[g]? = some (.cells (blindC n wd gp t sh) T fr)) :
    Calls Tryz.prog 62 #[.pointer (some ⟨g, 0, none⟩), .int .i64 h] w fun e w' => e = .returned (.float .f32 (pasB wd gp t sh h)) ∧ Below w.heap.size w w' := by
  obtain ⟨f1, f2, f3, f4, _⟩ := pas_facts wd gp t ok.2.2.2.2.2.2.2.2 h
  have HB := Lib.hid (fun W hg => l02Blocked_any n wd gp t sh ok h h0 h1 g T fr W hg)
  have HO := Lib.hid (fun W hg => l02Open_any n wd gp t sh ok h h0 h1 g T fr W hg)
  have HV := Lib.hid (fun W hg => l02Open_any n wd gp t sh ok 1 (by decide) (by decide) g T fr W hg)
  have HG := Lib.hid hg
  have r1 : ∀ T w, (binOp .mul T (.float .f32 (blkB wd gp t h)) (.float .f32 sh)).run Tryz.prog w = .ok (.float .f32 (fmul (blkB wd gp t h) sh)) w := fun T w => run_float_arith w .mul T .f32 _ _ _ f1
  have r2 : ∀ T w, (binOp .mul T (.float .f32 (fmul (blkB wd gp t h) sh)) (.float .f32 (opnB wd gp t 1))).run Tryz.prog w = .ok (.float .f32 (fmul (fmul (blkB wd gp t h) sh) (opnB wd gp t 1))) w := fun T w => run_float_arith w .mul T .f32 _ _ _ f2
  have r3 : ∀ T w, (binOp .quo T (.float .f32 (fmul (fmul (blkB wd gp t h) sh) (opnB wd gp t 1))) (.float .f32 1073741824)).run Tryz.prog w = .ok (.float .f32 (bncB wd gp t sh h)) w := fun T w => run_float_arith w .quo T .f32 _ _ _ f3
  have r4 : ∀ T w, (binOp .add T (.float .f32 (opnB wd gp t h)) (.float .f32 (bncB wd gp t sh h))).run Tryz.prog w = .ok (.float .f32 (pasB wd gp t sh h)) w := fun T w => run_float_arith w .add T .f32 _ _ _ f4
  clear f1 f2 f3 f4 ok h0 h1 hg
  generalize fmul (fmul (blkB wd gp t h) sh) (opnB wd gp t 1) = x2 at *
  generalize fmul (blkB wd gp t h) sh = x1 at *
  go_enter Tryz.func62, Tryz.ntmps62
  go_wp2_with (go_at_call 78; refine (HV.out _ HG.out).mono ?_; rintro e W1 ⟨rfl, hb1⟩)
  have HG1 := Lib.hid (below_row hb1 HG.out)
  refine wp_region_held_drew (S := (fun W => W.heap[g]? = some (.cells (blindC n wd gp t sh) T fr) ∧ Below w.heap.size w W)) (by kernel_rfl) ⟨HG1.out, hb1.drew⟩ (fun hHeld => ?_)
  refine take_op (i := 0) (d := 9) (v := ?_) rfl rfl (by kernel_rfl) (by kernel_rfl) (by kernel_rfl) (fun _ _ _ h => h) (Or.inl ⟨by rfl, ?hy0u43⟩) hHeld ?rest0u43
  case hy0u43 =>
    intro w' hS'
    obtain ⟨s1, _⟩ := hS'
    obtain ⟨k0, k1, k2, k3, k4⟩ := blind_cells s1
    clear s1
    go_simp
    try with_reducible rfl
  simp only [List.setIfInBounds_toArray, List.set_cons_zero, List.set_cons_succ]
  refine take_op (i := 1) (d := 10) (v := ?_) rfl rfl (by kernel_rfl) (by kernel_rfl) (by kernel_rfl) (fun _ _ _ h => h) (Or.inl ⟨by rfl, ?hy1u44⟩) hHeld ?rest1u44
  case hy1u44 =>
    intro w' hS'
    obtain ⟨s1, _⟩ := hS'
    obtain ⟨k0, k1, k2, k3, k4⟩ := blind_cells s1
    clear s1
    go_simp
    try with_reducible rfl
  simp only [List.setIfInBounds_toArray, List.set_cons_zero, List.set_cons_succ]
  refine take_op (i := 3) (d := 12) (v := ?_) rfl rfl (by kernel_rfl) (by kernel_rfl) (by kernel_rfl) (fun _ _ _ h => h) (Or.inl ⟨by rfl, ?hy3u45⟩) hHeld ?rest3u45
  case hy3u45 =>
    intro w' hS'
    obtain ⟨s1, _⟩ := hS'
    obtain ⟨k0, k1, k2, k3, k4⟩ := blind_cells s1
    clear s1
    go_simp
    try with_reducible rfl
  simp only [List.setIfInBounds_toArray, List.set_cons_zero, List.set_cons_succ]
  refine take_op (i := 4) (d := 13) (v := ?_) rfl rfl (by kernel_rfl) (by kernel_rfl) (by kernel_rfl) (fun _ _ _ h => h) (Or.inl ⟨by rfl, ?hy4u46⟩) hHeld ?rest4u46
  case hy4u46 =>
    intro w' hS'
    obtain ⟨s1, _⟩ := hS'
    obtain ⟨k0, k1, k2, k3, k4⟩ := blind_cells s1
    clear s1
    go_simp
    try with_reducible rfl
  simp only [List.setIfInBounds_toArray, List.set_cons_zero, List.set_cons_succ]
  refine take_op (i := 5) (d := 14) (v := ?_) rfl rfl (by kernel_rfl) (by kernel_rfl) (by kernel_rfl) (fun _ _ _ h => h) (Or.inl ⟨by rfl, ?hy5u47⟩) hHeld ?rest5u47
  case hy5u47 =>
    intro w' hS'
    obtain ⟨s1, _⟩ := hS'
    obtain ⟨k0, k1, k2, k3, k4⟩ := blind_cells s1
    clear s1
    go_simp
    try with_reducible rfl
  simp only [List.setIfInBounds_toArray, List.set_cons_zero, List.set_cons_succ]
  refine take_op (i := 6) (d := 15) (v := ?_) rfl rfl (by kernel_rfl) (by kernel_rfl) (by kernel_rfl) (fun _ _ _ h => h) (Or.inl ⟨by rfl, ?hy6u48⟩) hHeld ?rest6u48
  case hy6u48 =>
    intro w' hS'
    obtain ⟨s1, _⟩ := hS'
    obtain ⟨k0, k1, k2, k3, k4⟩ := blind_cells s1
    clear s1
    go_simp
    try with_reducible rfl
  simp only [List.setIfInBounds_toArray, List.set_cons_zero, List.set_cons_succ]
  refine take_op (i := 8) (d := 17) (v := ?_) rfl rfl (by kernel_rfl) (by kernel_rfl) (by kernel_rfl) (fun _ _ _ h => h) (Or.inl ⟨by rfl, ?hy8u49⟩) hHeld ?rest8u49
  case hy8u49 =>
    intro w' hS'
    obtain ⟨s1, _⟩ := hS'
    obtain ⟨k0, k1, k2, k3, k4⟩ := blind_cells s1
    clear s1
    go_simp
    try with_reducible rfl
  simp only [List.setIfInBounds_toArray, List.set_cons_zero, List.set_cons_succ]
  refine wpAnyH_ready (rs := [2]) (by kernel_rfl) (by simp) ?_
  refine AllReadyH.cons rfl (fun K hK => ?_) AllReadyH.nil
  go_simp
  refine (HB.out _ hHeld.1).mono ?_
  rintro e W1 ⟨rfl, hb1⟩
  refine hK.out _ _ (⟨below_row hb1 hHeld.1, hHeld.2.trans (hb1.mono hHeld.2.size)⟩) (fun hHeld2 => ?_)
  clear hK K
  replace hHeld := hHeld2
  clear hHeld2
  refine take_op (i := 7) (d := 16) (v := ?_) rfl rfl (by kernel_rfl) (by kernel_rfl) (by kernel_rfl) (fun _ _ _ h => h) (Or.inl ⟨by rfl, ?hy7u50⟩) hHeld ?rest7u50
  case hy7u50 =>
    intro w' hS'
    go_simp
    try with_reducible rfl
  simp only [List.setIfInBounds_toArray, List.set_cons_zero, List.set_cons_succ]
  refine take_op (i := 9) (d := 18) (v := ?_) rfl rfl (by kernel_rfl) (by kernel_rfl) (by kernel_rfl) (fun _ _ _ h => h) (Or.inl ⟨by rfl, ?hy9u51⟩) hHeld ?rest9u51
  case hy9u51 =>
    intro w' hS'
    go_simp
    try with_reducible rfl
  simp only [List.setIfInBounds_toArray, List.set_cons_zero, List.set_cons_succ]
  refine take_op (i := 10) (d := 19) (v := ?_) rfl rfl (by kernel_rfl) (by kernel_rfl) (by kernel_rfl) (fun _ _ _ h => h) (Or.inl ⟨by rfl, ?hy10u52⟩) hHeld ?rest10u52
  case hy10u52 =>
    intro w' hS'
    go_simp
    try with_reducible rfl
  simp only [List.setIfInBounds_toArray, List.set_cons_zero, List.set_cons_succ]
  refine take_op (i := 11) (d := 6) (v := ?_) rfl rfl (by kernel_rfl) (by kernel_rfl) (by kernel_rfl) (fun _ _ _ h => h) (Or.inl ⟨by rfl, ?hy11u53⟩) hHeld ?rest11u53
  case hy11u53 =>
    intro w' hS'
    go_simp
    try with_reducible rfl
  simp only [List.setIfInBounds_toArray, List.set_cons_zero, List.set_cons_succ]
  refine wpAnyH_done (by kernel_rfl) ?_ _
  obtain ⟨hgx, hbx⟩ := hHeld
  go_wp2_with (go_at_call 78; refine (HO.out _ hgx).mono ?_; rintro e W2 ⟨rfl, hb2⟩)
  go_ret
  exact ⟨rfl, hbx.trans (hb2.mono hbx.size)⟩

end Go.Proofs.YtmniodfdoidffaaGreatDoor

namespace Go.Proofs.YtmniodfdoidffaaGreatDoor
open Go.ChangeShapes Go.WideShapes Go.ChangeAt Go.RowKit Go.Deep Go.Joins

attribute [local go_sem] run_store_f

def bnC (lo hi : Nat) : Array Value := #[.float .f32 lo, .float .f32 hi]

def dayC (hs ts : List Int) (fc : Int) (lo hi : Nat) (n : Int) (wd gp : Nat) (t : Int) (sh : Nat) : Array Value := fsC hs ts fc ++ (bnC lo hi ++ blindC n wd gp t sh)

theorem dayC_size (hs ts : List Int) (hh : hs.length = 24) (ht : ts.length = 24) (fc : Int) (lo hi : Nat) (n : Int) (wd gp : Nat) (t : Int) (sh : Nat) : (dayC hs ts fc lo hi n wd gp t sh).size = 56 := by simp [dayC, fsC_size _ _ fc hh ht, bnC, blindC]

theorem dy_fits (m : Nat) (hm : m ≤ 56) (hs ts : List Int) (hh : hs.length = 24) (ht : ts.length = 24) (fc : Int) (lo hi : Nat) (n : Int) (wd gp : Nat) (t : Int) (sh : Nat) : m ≤ (dayC hs ts fc lo hi n wd gp t sh).size := by rw [dayC_size hs ts hh ht fc lo hi n wd gp t sh]; exact hm

theorem dy_all (hs ts : List Int) (hh : hs.length = 24) (ht : ts.length = 24) (fc : Int) (lo hi : Nat) (n : Int) (wd gp : Nat) (t : Int) (sh : Nat) : (dayC hs ts fc lo hi n wd gp t sh).extract 0 (0 + 56) = dayC hs ts fc lo hi n wd gp t sh := by
  rw [Nat.zero_add, ← dayC_size hs ts hh ht fc lo hi n wd gp t sh, Array.extract_size]

theorem dy_fs (hs ts : List Int) (hh : hs.length = 24) (ht : ts.length = 24) (fc : Int) (lo hi : Nat) (n : Int) (wd gp : Nat) (t : Int) (sh : Nat) : (dayC hs ts fc lo hi n wd gp t sh).extract 0 (0 + 49) = fsC hs ts fc := extract_left _ _ _ (fsC_size _ _ _ hh ht)

theorem extract_mid (a b c : Array Value) (n m : Nat) (h : a.size = n) (h2 : b.size = m) : (a ++ (b ++ c)).extract n (n + m) = b := by
  subst h h2
  apply Array.ext'
  simp

theorem extract_end (a b c : Array Value) (n m : Nat) (h : (a ++ b).size = n) (h2 : c.size = m) : (a ++ (b ++ c)).extract n (n + m) = c := by
  rw [← Array.append_assoc]
  generalize a ++ b = x at h ⊢
  subst h h2
  apply Array.ext'
  simp

theorem dy_sun (hs ts : List Int) (hh : hs.length = 24) (ht : ts.length = 24) (fc : Int) (lo hi : Nat) (n : Int) (wd gp : Nat) (t : Int) (sh : Nat) : (dayC hs ts fc lo hi n wd gp t sh).extract 0 (0 + 48) = sunC hs ts := by
  have e : dayC hs ts fc lo hi n wd gp t sh = sunC hs ts ++ (#[.int .i64 fc] ++ (bnC lo hi ++ blindC n wd gp t sh)) := by simp [dayC, fsC]
  rw [e]
  exact extract_left _ _ _ (sunC_size _ _ hh ht)

theorem dy_bn (hs ts : List Int) (hh : hs.length = 24) (ht : ts.length = 24) (fc : Int) (lo hi : Nat) (n : Int) (wd gp : Nat) (t : Int) (sh : Nat) : (dayC hs ts fc lo hi n wd gp t sh).extract 49 (49 + 2) = bnC lo hi := extract_mid _ _ _ _ _ (fsC_size _ _ _ hh ht) rfl

theorem dy_bl (hs ts : List Int) (hh : hs.length = 24) (ht : ts.length = 24) (fc : Int) (lo hi : Nat) (n : Int) (wd gp : Nat) (t : Int) (sh : Nat) : (dayC hs ts fc lo hi n wd gp t sh).extract 51 (51 + 5) = blindC n wd gp t sh := extract_end _ _ _ _ _ (by simp [fsC_size _ _ fc hh ht, bnC]) rfl

theorem dy_one (hs ts : List Int) (fc : Int) (lo hi : Nat) (n : Int) (wd gp : Nat) (t : Int) (sh : Nat) : ∀ v ∈ dayC hs ts fc lo hi n wd gp t sh, v.oneCell' = true := by
  intro v hv
  rcases Array.mem_append.1 hv with h | h
  · exact fs_one _ _ _ v h
  · simp only [bnC, blindC, List.append_toArray, List.cons_append, List.nil_append, List.mem_toArray, List.mem_cons, List.not_mem_nil, or_false] at h
    rcases h with rfl | rfl | rfl | rfl | rfl | rfl | rfl <;> rfl

theorem dy_cell (hs ts : List Int) (hh : hs.length = 24) (ht : ts.length = 24) (fc : Int) (lo hi : Nat) (n : Int) (wd gp : Nat) (t : Int) (sh : Nat) {W : World} {b : Nat} {T : TypeId} {fr : Nat × Nat} (hg : W.heap[b]? = some (.cells (dayC hs ts fc lo hi n wd gp t sh) T fr)) : W.cell? ⟨b, 48, none⟩ = some (.int .i64 fc) := by
  rw [cell_of_row W _ _ _ _ _ hg]
  have e : (fsC hs ts fc).size = 49 := fsC_size _ _ _ hh ht
  unfold dayC
  rw [Array.getElem?_append_left (by omega), fs_48 _ _ _ hh ht]

set_option maxRecDepth 100000 in
theorem info_dy : (Tryz.prog.info? 66).map (·.size) = some 56 := by kernel_rfl

set_option maxRecDepth 100000 in
theorem info_bn : (Tryz.prog.info? 64).map (·.size) = some 2 := by kernel_rfl

set_option maxRecDepth 100000 in
theorem built_dy (hs ts : List Int) (hh : hs.length = 24) (ht : ts.length = 24) (fc : Int) (lo hi : Nat) (n : Int) (wd gp : Nat) (t : Int) (sh : Nat) : Tryz.prog.built 66 [(0, .agg (fsC hs ts fc)), (1, .agg (bnC lo hi)), (2, .agg (blindC n wd gp t sh))] = some (dayC hs ts fc lo hi n wd gp t sh) := by
  obtain ⟨a0, a1, a2, a3, a4, a5, a6, a7, a8, a9, b0, b1, b2, b3, b4, b5, b6, b7, b8, b9, c0, c1, c2, c3, rfl⟩ := len24 hh
  obtain ⟨d0, d1, d2, d3, d4, d5, d6, d7, d8, d9, e0, e1, e2, e3, e4, e5, e6, e7, e8, e9, f0, f1, f2, f3, rfl⟩ := len24 ht
  kernel_rfl

def gtO (x y : Nat) : Bool := FloatKind.f32.format.order x y == some .gt

def ltO (x y : Nat) : Bool := FloatKind.f32.format.order x y == some .lt

set_option maxRecDepth 100000 in
set_option maxHeartbeats 1000000 in
theorem dyBright_is (lo hi x : Nat) (r : Bool) (h : gtO x hi = r) (w : World) :
    Calls Tryz.prog 74 #[.agg (bnC lo hi), .float .f32 x] w fun e w' => e = .returned (.bool r) ∧ Below w.heap.size w w' := by
  subst h
  unfold gtO bnC
  go_enter Tryz.func74, Tryz.ntmps74
  go_wp2
  go_ret
  exact ⟨rfl, (Below.refl _ _).alloc (Nat.le_refl _) _⟩

set_option maxRecDepth 100000 in
set_option maxHeartbeats 1000000 in
theorem dyDark_is (lo hi x : Nat) (r : Bool) (h : ltO x lo = r) (w : World) :
    Calls Tryz.prog 75 #[.agg (bnC lo hi), .float .f32 x] w fun e w' => e = .returned (.bool r) ∧ Below w.heap.size w w' := by
  subst h
  unfold ltO bnC
  go_enter Tryz.func75, Tryz.ntmps75
  go_wp2
  go_ret
  exact ⟨rfl, (Below.refl _ _).alloc (Nat.le_refl _) _⟩

set_option maxRecDepth 100000 in
set_option maxHeartbeats 2000000 in
theorem dayOf_any (hs ts : List Int) (hh : hs.length = 24) (ht : ts.length = 24) (fc : Int) (lo hi : Nat) (n : Int) (wd gp : Nat) (t : Int) (sh : Nat) (w : World) :
    Calls Tryz.prog 24 #[.agg (blindC n wd gp t sh), .agg (sunC hs ts), .int .i64 fc, .agg (bnC lo hi)] w fun e w' => e = .returned (.agg (dayC hs ts fc lo hi n wd gp t sh)) ∧ Below w.heap.size w w' := by
  have Hh := Lib.hid hh
  have Ht := Lib.hid ht
  have HD := Lib.hid (dayC_size hs ts hh ht fc lo hi n wd gp t sh)
  have HO := Lib.hid (dy_one hs ts fc lo hi n wd gp t sh)
  have HB1 := Lib.hid (built_fs hs ts fc hh ht)
  have HB2 := Lib.hid (built_dy hs ts hh ht fc lo hi n wd gp t sh)
  clear hh ht
  go_enter Tryz.func24, Tryz.ntmps24
  go_upto_region 1 with (fail)
  refine abs_code (fun W => W.heap[w.heap.size]? = some (.cells (blindC n wd gp t sh) 33 (0, 0)) ∧ W.heap[w.heap.size + 1]? = some (.cells (sunC hs ts) 35 (0, 0)) ∧ W.heap[w.heap.size + 1 + 1]? = some (.cells (bnC lo hi) 64 (0, 0)) ∧ (∃ zs : Array Value, zs.size = 56 ∧ W.heap[w.heap.size + 1 + 1 + 1]? = some (.cells zs 66 (0, 0))) ∧ Below w.heap.size w W) ⟨(box4 w _ _ _ _).1, (box4 w _ _ _ _).2.1, (box4 w _ _ _ _).2.2.1, ⟨_, rfl, (box4 w _ _ _ _).2.2.2.1⟩, (box4 w _ _ _ _).2.2.2.2⟩ ?_
  rintro W ⟨h0, h1, h2, ⟨zs, hzs, h3⟩, hb⟩
  have HZ := Lib.hid hzs
  clear hzs
  have hs3 : w.heap.size ≤ w.heap.size + 1 + 1 + 1 := by omega
  generalize w.heap.size + 1 + 1 + 1 = b3 at *
  generalize w.heap.size + 1 + 1 = b2 at *
  generalize w.heap.size + 1 = b1 at *
  have H0 := Lib.hid h0
  have H1 := Lib.hid h1
  have H2 := Lib.hid h2
  have H3 := Lib.hid h3
  clear h0 h1 h2 h3
  go_wp2_with (first | (refine wpList_load_part rfl 33 _ rfl w.heap.size 0 5 rfl 33 (blindC n wd gp t sh) (0, 0) _ H0.out Tryz.underlying33 rfl info_blind (blind_fits _ _ _ _ _) _ (blind_all _ _ _ _ _) ?_) | (refine wpList_load_part rfl 35 _ rfl b1 0 48 rfl 35 (sunC hs ts) (0, 0) _ H1.out Tryz.underlying35 rfl info_sun (sun_fits _ _ Hh.out Ht.out) (sunC hs ts) (sun_all _ _ Hh.out Ht.out) ?_) | (refine wpList_load_part rfl 64 _ rfl b2 0 2 rfl 64 (bnC lo hi) (0, 0) _ H2.out Tryz.underlying64 rfl info_bn (Nat.le_refl _) (bnC lo hi) rfl ?_) | (refine wpList_buildL rfl 62 _ rfl _ rfl [(0, .agg (sunC hs ts)), (1, .int .i64 fc)] rfl (fsC hs ts fc) HB1.out ?_) | (refine wpList_buildL rfl 66 _ rfl _ rfl [(0, .agg (fsC hs ts fc)), (1, .agg (bnC lo hi)), (2, .agg (blindC n wd gp t sh))] rfl (dayC hs ts fc lo hi n wd gp t sh) HB2.out ?_) | (refine wpList_store_part rfl 66 _ _ rfl b3 0 (dayC hs ts fc lo hi n wd gp t sh) rfl rfl 66 _ H3.out (by rw [HD.out]; exact info_dy) (by rw [HD.out, HZ.out]; exact Nat.le_refl _) HO.out ?_; rw [laid_all _ _ (by rw [HD.out, HZ.out])]))
  exact bodyPost_ret (v := .agg (dayC hs ts fc lo hi n wd gp t sh)) (results_cell_row rfl _ _ _ _ _ _ _ rfl (setRow_heap _ _ _ _ _ _ H3.out) Tryz.underlying66 rfl (by rw [HD.out]; exact info_dy)) rfl ⟨rfl, below_setRow hb hs3 _⟩

end Go.Proofs.YtmniodfdoidffaaGreatDoor

namespace Go.Proofs.YtmniodfdoidffaaGreatDoor
open Go.ChangeShapes Go.WideShapes Go.ChangeAt Go.RowKit Go.Deep Go.Joins

end Go.Proofs.YtmniodfdoidffaaGreatDoor

namespace Go.Proofs.YtmniodfdoidffaaGreatDoor
open Go.ChangeShapes Go.WideShapes Go.ChangeAt Go.RowKit Go.Deep Go.Joins

attribute [local go_sem] run_store_f

/-- A value that tells what passes through a blind: it holds the blind, and what is open for the first height. -/
def Passes (n : Int) (wd gp : Nat) (t : Int) (sh : Nat) (v : Value) (W : World) : Prop :=
  ∃ g1 g2 : Nat, v = .func (.func 83) #[] #[.pointer (some ⟨g1, 0, none⟩), .pointer (some ⟨g2, 0, none⟩)] ∧ W.heap[g1]? = some (.cells (blindC n wd gp t sh) 33 (0, 0)) ∧ W.heap[g2]? = some (.cells #[.float .f32 (opnB wd gp t 1)] 23 (0, 0))

def RetPasses (n : Int) (wd gp : Nat) (t : Int) (sh : Nat) (w : World) (e : Ending) (w' : World) : Prop := (∃ v, e = .returned v ∧ Passes n wd gp t sh v w') ∧ Below w.heap.size w w'

set_option maxRecDepth 100000 in
set_option maxHeartbeats 1000000 in
theorem passer_any (n : Int) (wd gp : Nat) (t : Int) (sh : Nat) (ok : BlOk n wd gp t sh) (w : World) :
    Calls Tryz.prog 64 #[.agg (blindC n wd gp t sh)] w (RetPasses n wd gp t sh w) := by
  have HO := Lib.hid (fun w => openAt_any n wd gp t sh ok 1 (by decide) (by decide) w)
  clear ok
  go_enter Tryz.func64, Tryz.ntmps64
  go_upto_region 1 with (fail)
  refine abs_world (fun W => Below w.heap.size w W ∧ W.heap[w.heap.size]? = some (.cells (blindC n wd gp t sh) 33 (0, 0)) ∧ w.heap.size < W.heap.size) ⟨(Below.refl _ _).alloc (Nat.le_refl _) _, heap_alloc_new _ _, by simp⟩ ?_
  rintro W ⟨hb, h0, hs⟩
  have H0 := Lib.hid h0
  clear h0
  go_wp2_with (first | (refine wpList_load_part rfl 33 _ rfl w.heap.size 0 5 rfl 33 (blindC n wd gp t sh) (0, 0) _ H0.out Tryz.underlying33 rfl info_blind (blind_fits _ _ _ _ _) _ (blind_all _ _ _ _ _) ?_) | (go_at_call 82; refine (HO.out _).mono ?_; rintro e W1 ⟨rfl, hb1⟩; replace H0 := Lib.hid (below_row hb1 H0.out); replace hb := hb.trans (hb1.mono hb.size); replace hs := Nat.lt_of_lt_of_le hs hb1.size; clear hb1))
  go_ret
  exact ⟨⟨_, rfl, w.heap.size, W1.heap.size, rfl, below_row ((Below.refl W1.heap.size W1).alloc (Nat.le_refl _) _) H0.out, heap_alloc_new _ _⟩, hb.alloc (Nat.le_of_lt hs) _⟩

set_option maxRecDepth 100000 in
set_option maxHeartbeats 1000000 in
theorem passes_call (n : Int) (wd gp : Nat) (t : Int) (sh : Nat) (ok : BlOk n wd gp t sh) (g1 g2 : Nat) (h : Int) (h0 : 1 ≤ h) (h1 : h ≤ 64) (w : World) (c1 : w.heap[g1]? = some (.cells (blindC n wd gp t sh) 33 (0, 0))) (c2 : w.heap[g2]? = some (.cells #[.float .f32 (opnB wd gp t 1)] 23 (0, 0))) :
    Calls Tryz.prog 83 #[.int .i64 h, .pointer (some ⟨g1, 0, none⟩), .pointer (some ⟨g2, 0, none⟩)] w fun e w' => e = .returned (.float .f32 (pasB wd gp t sh h)) ∧ Below w.heap.size w w' := by
  obtain ⟨f1, f2, f3, f4, _⟩ := pas_facts wd gp t ok.2.2.2.2.2.2.2.2 h
  have HB := Lib.hid (fun w => blockedAt_any n wd gp t sh ok.2.2.1 ok.2.2.2.1 ok.2.2.2.2.1 ok.2.2.2.2.2.1 ok.2.2.2.2.2.2.1 ok.2.2.2.2.2.2.2.1 h h0 h1 w)
  obtain ⟨k0, k1, k2, k3, k4⟩ := blind_cells c1
  have k5 : w.cell? ⟨g2, 0, none⟩ = some (.float .f32 (opnB wd gp t 1)) := by rw [cell_of_row w _ _ _ _ _ c2]; rfl
  have f0 := (opn_facts wd gp t h).1
  have r0 : ∀ T w, (binOp .sub T (.float .f32 1065353216) (.float .f32 (blkB wd gp t h))).run Tryz.prog w = .ok (.float .f32 (opnB wd gp t h)) w := fun T w => run_float_arith w .sub T .f32 _ _ _ f0
  have r1 : ∀ T w, (binOp .mul T (.float .f32 (blkB wd gp t h)) (.float .f32 sh)).run Tryz.prog w = .ok (.float .f32 (fmul (blkB wd gp t h) sh)) w := fun T w => run_float_arith w .mul T .f32 _ _ _ f1
  have r2 : ∀ T w, (binOp .mul T (.float .f32 (fmul (blkB wd gp t h) sh)) (.float .f32 (opnB wd gp t 1))).run Tryz.prog w = .ok (.float .f32 (fmul (fmul (blkB wd gp t h) sh) (opnB wd gp t 1))) w := fun T w => run_float_arith w .mul T .f32 _ _ _ f2
  have r3 : ∀ T w, (binOp .quo T (.float .f32 (fmul (fmul (blkB wd gp t h) sh) (opnB wd gp t 1))) (.float .f32 1073741824)).run Tryz.prog w = .ok (.float .f32 (bncB wd gp t sh h)) w := fun T w => run_float_arith w .quo T .f32 _ _ _ f3
  have r4 : ∀ T w, (binOp .add T (.float .f32 (opnB wd gp t h)) (.float .f32 (bncB wd gp t sh h))).run Tryz.prog w = .ok (.float .f32 (pasB wd gp t sh h)) w := fun T w => run_float_arith w .add T .f32 _ _ _ f4
  have H0 := Lib.hid c1
  have H1 := Lib.hid c2
  have hb : Below w.heap.size w w := Below.refl _ _
  clear f0 f1 f2 f3 f4 ok h0 h1 c1 c2
  generalize fmul (fmul (blkB wd gp t h) sh) (opnB wd gp t 1) = x2 at *
  generalize fmul (blkB wd gp t h) sh = x1 at *
  go_enter Tryz.func83, Tryz.ntmps83
  go_wp2_with (first | (refine wpList_load_part rfl 33 _ rfl g1 0 5 rfl 33 (blindC n wd gp t sh) (0, 0) _ H0.out Tryz.underlying33 rfl info_blind (blind_fits _ _ _ _ _) _ (blind_all _ _ _ _ _) ?_) | (go_at_call 84; refine (HB.out _).mono ?_; rintro e W1 ⟨rfl, hb1⟩; replace H0 := Lib.hid (below_row hb1 H0.out); replace H1 := Lib.hid (below_row hb1 H1.out); replace hb := hb.trans (hb1.mono hb.size); clear hb1 k0 k1 k2 k3 k4 k5; obtain ⟨k0, k1, k2, k3, k4⟩ := blind_cells H0.out; have k5 : W1.cell? ⟨g2, 0, none⟩ = some (.float .f32 (opnB wd gp t 1)) := by rw [cell_of_row W1 _ _ _ _ _ H1.out]; rfl))
  go_ret
  exact ⟨rfl, hb⟩

end Go.Proofs.YtmniodfdoidffaaGreatDoor

namespace Go.Proofs.YtmniodfdoidffaaGreatDoor
open Go.RowKit

/-- The light into a window. -/
def winB (wd gp : Nat) (t : Int) (sh : Nat) (hs ts : List Int) (hour facing : Int) : Nat := if 0 < atH hs hour then fmul (fallOf hs ts hour facing) (pasB wd gp t sh (atH hs hour)) else 0

theorem win_ok (wd gp : Nat) (t : Int) {sh : Nat} (hs : sh ≤ 1065353216 ∨ sh = 2147483648) (x d : Int) (h0 : 0 < x) (h1 : x ≤ 64) :
    floatBits .mul .f32 (fallB x d) (pasB wd gp t sh x) = some (fmul (fallB x d) (pasB wd gp t sh x)) ∧ pos32 (fmul (fallB x d) (pasB wd gp t sh x)) = true := by
  have hn := fall_num x d h0 h1
  have hp := fallB_pos x d
  have hq := (pas_facts wd gp t hs x).2.2.2.2
  generalize fallB x d = F at *
  generalize pasB wd gp t sh x = P at *
  obtain ⟨k, j, hk, _⟩ := read_pos (x := P) hq
  obtain ⟨s, m, e, hr⟩ := num32_get hn
  have hs : s = false := by
    unfold pos32 at hp
    rw [hr] at hp
    simpa using hp
  subst hs
  have h : Ieee.single.mul F P = some (Ieee.single.write (.number (false ^^ false) (m * k) (e + (-149 + (j : Int))))) := by
    unfold Ieee.Format.mul
    rw [hr, hk]; rfl
  have e1 : fmul F P = Ieee.single.write (.number (false ^^ false) (m * k) (e + (-149 + (j : Int)))) := by unfold fmul; rw [h]; rfl
  rw [e1]
  exact ⟨h, pos_nearest _ _⟩
theorem winB_pos (wd gp : Nat) (t : Int) {sh : Nat} (hsh : sh ≤ 1065353216 ∨ sh = 2147483648) (hs ts : List Int) (hour facing : Int) (h1 : atH hs hour ≤ 64) : pos32 (winB wd gp t sh hs ts hour facing) = true := by
  unfold winB
  split
  · rename_i h0
    exact (win_ok wd gp t hsh _ _ h0 h1).2
  · decide

end Go.Proofs.YtmniodfdoidffaaGreatDoor

namespace Go.Proofs.YtmniodfdoidffaaGreatDoor
open Go.RowKit

attribute [local go_sem] run_store_f

set_option maxRecDepth 100000 in
set_option maxHeartbeats 1000000 in
theorem windowAt_up (n : Int) (wd gp : Nat) (t : Int) (sh : Nat) (hs ts : List Int) (hh : hs.length = 24) (ht : ts.length = 24) (ok : BlOk n wd gp t sh) (hour facing : Int) (hr0 : 0 ≤ hour) (hr1 : hour < 24) (hf0 : 0 ≤ facing) (hf1 : facing ≤ 255) (hx1 : atH hs hour ≤ 64) (hy0 : 0 ≤ atH ts hour) (hy1 : atH ts hour ≤ 255) (hpos : 0 < atH hs hour) (p1 p2 : Nat) (w : World) (c1 : w.heap[p1]? = some (.cells (blindC n wd gp t sh) 33 (0, 0))) (c2 : w.heap[p2]? = some (.cells #[.float .f32 (opnB wd gp t 1)] 23 (0, 0))) :
    Calls Tryz.prog 63 #[.func (.func 83) #[] #[.pointer (some ⟨p1, 0, none⟩), .pointer (some ⟨p2, 0, none⟩)], .agg (sunC hs ts), .int .i64 hour, .int .i64 facing] w fun e w' => e = .returned (.float .f32 (fmul (fallOf hs ts hour facing) (pasB wd gp t sh (atH hs hour)))) ∧ Below w.heap.size w w' := by
  have Hh := Lib.hid hh
  have Ht := Lib.hid ht
  have Hup := Lib.hid (upAt_any hs ts hh hour hr0 hr1)
  have HF := Lib.hid (fallAt_any hs ts hh ht hour facing hr0 hr1 hf0 hf1 hx1 hy0 hy1)
  have HP := Lib.hid (fun w c1 c2 => passes_call n wd gp t sh ok p1 p2 (atH hs hour) (by omega) hx1 w c1 c2)
  have hm : floatBits .mul .f32 (fallOf hs ts hour facing) (pasB wd gp t sh (atH hs hour)) = some (fmul (fallOf hs ts hour facing) (pasB wd gp t sh (atH hs hour))) := (win_ok wd gp t ok.2.2.2.2.2.2.2.2 _ _ hpos hx1).1
  have r : ∀ T w, (binOp .mul T (.float .f32 (fallOf hs ts hour facing)) (.float .f32 (pasB wd gp t sh (atH hs hour)))).run Tryz.prog w = .ok (.float .f32 (fmul (fallOf hs ts hour facing) (pasB wd gp t sh (atH hs hour)))) w := fun T w => run_float_arith w .mul T .f32 _ _ _ hm
  have C1 := Lib.hid c1
  have C2 := Lib.hid c2
  have hw64 : IntKind.i64.wrap (atH hs hour) = atH hs hour := i64_small _ (by omega) (by omega)
  have hd : decide (0 < atH hs hour) = true := decide_eq_true hpos
  rw [hd] at Hup
  clear ok hh ht hm hd c1 c2
  generalize fallOf hs ts hour facing = F at *
  obtain ⟨k, rfl⟩ := Int.eq_ofNat_of_zero_le hr0
  have hk : k < 24 := by omega
  have ea : hs[k]?.getD 0 = atH hs (k : Int) := by unfold atH; rw [Int.toNat_natCast]
  generalize pasB wd gp t sh (atH hs (k : Int)) = P at *
  generalize atH hs (k : Int) = x at *
  have Hx := Lib.hid ea
  clear ea
  go_enter Tryz.func63, Tryz.ntmps63
  go_upto_region 1 with (fail)
  refine abs_world (fun W => W.heap[w.heap.size]? = some (.cells (sunC hs ts) 35 (0, 0)) ∧ W.heap[p1]? = some (.cells (blindC n wd gp t sh) 33 (0, 0)) ∧ W.heap[p2]? = some (.cells #[.float .f32 (opnB wd gp t 1)] 23 (0, 0)) ∧ Below w.heap.size w W) ⟨heap_alloc_new _ _, below_row ((Below.refl _ _).alloc (Nat.le_refl _) _) C1.out, below_row ((Below.refl _ _).alloc (Nat.le_refl _) _) C2.out, (Below.refl _ _).alloc (Nat.le_refl _) _⟩ ?_
  clear C1 C2
  rintro W ⟨h0, h1, h2, hb⟩
  have H0 := Lib.hid h0
  have C1 := Lib.hid h1
  have C2 := Lib.hid h2
  clear h0 h1 h2
  go_upto_region 3 with (first | (refine wpList_load_part rfl 35 _ rfl w.heap.size 0 48 rfl 35 (sunC hs ts) (0, 0) _ H0.out Tryz.underlying35 rfl info_sun (sun_fits _ _ Hh.out Ht.out) (sunC hs ts) (sun_all _ _ Hh.out Ht.out) ?_) | (go_at_call 80; refine (Hup.out _).mono ?_; rintro e W1 ⟨rfl, hb1⟩; replace H0 := Lib.hid (below_row hb1 H0.out); replace C1 := Lib.hid (below_row hb1 C1.out); replace C2 := Lib.hid (below_row hb1 C2.out); replace hb := hb.trans (hb1.mono hb.size); clear hb1))
  have d0 := H0.out
  have d1 := C1.out
  have d2 := C2.out
  clear H0 C1 C2
  refine wp_region_held_drew (S := (fun W => W.heap[w.heap.size]? = some (.cells (sunC hs ts) 35 (0, 0)) ∧ W.heap[p1]? = some (.cells (blindC n wd gp t sh) 33 (0, 0)) ∧ W.heap[p2]? = some (.cells #[.float .f32 (opnB wd gp t 1)] 23 (0, 0)) ∧ Below w.heap.size w W)) (by kernel_rfl) ⟨d0, d1, d2, hb.drew⟩ (fun hHeld => ?_)
  refine take_op (i := 0) (d := 13) (v := .agg (sunC hs ts)) rfl rfl (by kernel_rfl) (by kernel_rfl) (by kernel_rfl) (fun _ _ _ h => h) (yields_row (by rfl) 35 (.tmp 5) (by rfl) w.heap.size 0 48 (by rfl) 35 (sunC hs ts) (0, 0) _ (fun _ h => h.1) Tryz.underlying35 rfl info_sun (sun_fits _ _ Hh.out Ht.out) (sunC hs ts) (sun_all _ _ Hh.out Ht.out)) hHeld ?_
  simp only [List.setIfInBounds_toArray, List.set_cons_zero, List.set_cons_succ]
  refine take_op (i := 1) (d := 14) (v := ?_) rfl rfl (by kernel_rfl) (by kernel_rfl) (by kernel_rfl) (fun _ _ _ h => h) (Or.inl ⟨by rfl, ?hy1u1⟩) hHeld ?rest1u1
  case hy1u1 =>
    intro w' hS'
    go_simp
    try with_reducible rfl
  simp only [List.setIfInBounds_toArray, List.set_cons_zero, List.set_cons_succ]
  refine take_op (i := 2) (d := 15) (v := ?_) rfl rfl (by kernel_rfl) (by kernel_rfl) (by kernel_rfl) (fun _ _ _ h => h) (Or.inl ⟨by rfl, ?hy2u2⟩) hHeld ?rest2u2
  case hy2u2 =>
    intro w' hS'
    go_simp
    try with_reducible rfl
  simp only [List.setIfInBounds_toArray, List.set_cons_zero, List.set_cons_succ]
  refine take_op (i := 4) (d := 17) (v := ?_) rfl rfl (by kernel_rfl) (by kernel_rfl) (by kernel_rfl) (fun _ _ _ h => h) (Or.inl ⟨by rfl, ?hy4u3⟩) hHeld ?rest4u3
  case hy4u3 =>
    intro w' hS'
    go_simp
    try with_reducible rfl
  simp only [List.setIfInBounds_toArray, List.set_cons_zero, List.set_cons_succ]
  refine take_op (i := 5) (d := 18) (v := ?_) rfl rfl (by kernel_rfl) (by kernel_rfl) (by kernel_rfl) (fun _ _ _ h => h) (Or.inl ⟨by rfl, ?hy5u4⟩) hHeld ?rest5u4
  case hy5u4 =>
    intro w' hS'
    go_simp
    try with_reducible rfl
  simp only [List.setIfInBounds_toArray, List.set_cons_zero, List.set_cons_succ]
  refine take_op (i := 6) (d := 19) (v := ?_) rfl rfl (by kernel_rfl) (by kernel_rfl) (by kernel_rfl) (fun _ _ _ h => h) (Or.inl ⟨by rfl, ?hy6u5⟩) hHeld ?rest6u5
  case hy6u5 =>
    intro w' hS'
    go_simp
    try with_reducible rfl
  simp only [List.setIfInBounds_toArray, List.set_cons_zero, List.set_cons_succ]
  refine take_op (i := 7) (d := 20) (v := ?_) rfl rfl (by kernel_rfl) (by kernel_rfl) (by kernel_rfl) (fun _ _ _ h => h) (Or.inl ⟨by rfl, ?hy7u6⟩) hHeld ?rest7u6
  case hy7u6 =>
    intro w' hS'
    go_simp
    try with_reducible rfl
  simp only [List.setIfInBounds_toArray, List.set_cons_zero, List.set_cons_succ]
  refine take_op (i := 8) (d := 21) (v := ?_) rfl rfl (by kernel_rfl) (by kernel_rfl) (by kernel_rfl) (fun _ _ _ h => h) (Or.inl ⟨by rfl, ?hy8u7⟩) hHeld ?rest8u7
  case hy8u7 =>
    intro w' hS'
    obtain ⟨s1, _⟩ := hS'
    have qk := cell_sun_h s1 Hh.out k hk
    rw [Hx.out] at qk
    clear s1
    go_simp
    try with_reducible rfl
  simp only [List.setIfInBounds_toArray, List.set_cons_zero, List.set_cons_succ]
  refine take_op (i := 9) (d := 22) (v := ?_) rfl rfl (by kernel_rfl) (by kernel_rfl) (by kernel_rfl) (fun _ _ _ h => h) (Or.inl ⟨by rfl, ?hy9u8⟩) hHeld ?rest9u8
  case hy9u8 =>
    intro w' hS'
    go_simp
    try with_reducible rfl
  simp only [List.setIfInBounds_toArray, List.set_cons_zero, List.set_cons_succ]
  refine wpAnyH_ready (rs := [3]) (by kernel_rfl) (by simp) ?_
  refine AllReadyH.cons rfl (fun K hK => ?_) AllReadyH.nil
  go_simp
  refine (HF.out _).mono ?_
  rintro e W1 ⟨rfl, hb1⟩
  refine hK.out _ _ (⟨below_row hb1 hHeld.1, below_row hb1 hHeld.2.1, below_row hb1 hHeld.2.2.1, hHeld.2.2.2.trans (hb1.mono hHeld.2.2.2.size)⟩) (fun hHeld2 => ?_)
  clear hK K
  replace hHeld := hHeld2
  clear hHeld2
  refine wpAnyH_ready (rs := [10]) (by kernel_rfl) (by simp) ?_
  refine AllReadyH.cons rfl (fun K hK => ?_) AllReadyH.nil
  go_simp
  refine (HP.out _ hHeld.2.1 hHeld.2.2.1).mono ?_
  rintro e W3 ⟨rfl, hb3⟩
  refine hK.out _ _ (⟨below_row hb3 hHeld.1, below_row hb3 hHeld.2.1, below_row hb3 hHeld.2.2.1, hHeld.2.2.2.trans (hb3.mono hHeld.2.2.2.size)⟩) (fun hHeld2 => ?_)
  clear hK K
  replace hHeld := hHeld2
  clear hHeld2
  refine take_op (i := 11) (d := 24) (v := ?_) rfl rfl (by kernel_rfl) (by kernel_rfl) (by kernel_rfl) (fun _ _ _ h => h) (Or.inl ⟨by rfl, ?hy11u9⟩) hHeld ?rest11u9
  case hy11u9 =>
    intro w' hS'
    go_simp
    try with_reducible rfl
  simp only [List.setIfInBounds_toArray, List.set_cons_zero, List.set_cons_succ]
  refine take_op (i := 12) (d := 8) (v := ?_) rfl rfl (by kernel_rfl) (by kernel_rfl) (by kernel_rfl) (fun _ _ _ h => h) (Or.inl ⟨by rfl, ?hy12u10⟩) hHeld ?rest12u10
  case hy12u10 =>
    intro w' hS'
    go_simp
    try with_reducible rfl
  simp only [List.setIfInBounds_toArray, List.set_cons_zero, List.set_cons_succ]
  refine wpAnyH_done (by kernel_rfl) ?_ _
  have hbx := hHeld.2.2.2
  clear hHeld d0 d1 d2 hb
  go_wp2
  go_ret
  exact ⟨rfl, hbx⟩

set_option maxRecDepth 100000 in
set_option maxHeartbeats 1000000 in
theorem windowAt_no (n : Int) (wd gp : Nat) (t : Int) (sh : Nat) (hs ts : List Int) (hh : hs.length = 24) (ht : ts.length = 24) (hour facing : Int) (hr0 : 0 ≤ hour) (hr1 : hour < 24) (hpos : ¬ 0 < atH hs hour) (p1 p2 : Nat) (w : World) (c1 : w.heap[p1]? = some (.cells (blindC n wd gp t sh) 33 (0, 0))) (c2 : w.heap[p2]? = some (.cells #[.float .f32 (opnB wd gp t 1)] 23 (0, 0))) :
    Calls Tryz.prog 63 #[.func (.func 83) #[] #[.pointer (some ⟨p1, 0, none⟩), .pointer (some ⟨p2, 0, none⟩)], .agg (sunC hs ts), .int .i64 hour, .int .i64 facing] w fun e w' => e = .returned (.float .f32 0) ∧ Below w.heap.size w w' := by
  have Hh := Lib.hid hh
  have Ht := Lib.hid ht
  have Hup := Lib.hid (upAt_any hs ts hh hour hr0 hr1)
  have C1 := Lib.hid c1
  have C2 := Lib.hid c2
  have hd : decide (0 < atH hs hour) = false := decide_eq_false hpos
  rw [hd] at Hup
  clear hh ht hd c1 c2
  go_enter Tryz.func63, Tryz.ntmps63
  go_upto_region 1 with (fail)
  refine abs_world (fun W => W.heap[w.heap.size]? = some (.cells (sunC hs ts) 35 (0, 0)) ∧ W.heap[p1]? = some (.cells (blindC n wd gp t sh) 33 (0, 0)) ∧ W.heap[p2]? = some (.cells #[.float .f32 (opnB wd gp t 1)] 23 (0, 0)) ∧ Below w.heap.size w W) ⟨heap_alloc_new _ _, below_row ((Below.refl _ _).alloc (Nat.le_refl _) _) C1.out, below_row ((Below.refl _ _).alloc (Nat.le_refl _) _) C2.out, (Below.refl _ _).alloc (Nat.le_refl _) _⟩ ?_
  clear C1 C2
  rintro W ⟨h0, h1, h2, hb⟩
  have H0 := Lib.hid h0
  have C1 := Lib.hid h1
  have C2 := Lib.hid h2
  clear h0 h1 h2
  go_wp2_with (first | (refine wpList_load_part rfl 35 _ rfl w.heap.size 0 48 rfl 35 (sunC hs ts) (0, 0) _ H0.out Tryz.underlying35 rfl info_sun (sun_fits _ _ Hh.out Ht.out) (sunC hs ts) (sun_all _ _ Hh.out Ht.out) ?_) | (go_at_call 80; refine (Hup.out _).mono ?_; rintro e W1 ⟨rfl, hb1⟩; replace H0 := Lib.hid (below_row hb1 H0.out); replace C1 := Lib.hid (below_row hb1 C1.out); replace C2 := Lib.hid (below_row hb1 C2.out); replace hb := hb.trans (hb1.mono hb.size); clear hb1))
  go_ret
  exact ⟨rfl, hb⟩

theorem windowAt_any (n : Int) (wd gp : Nat) (t : Int) (sh : Nat) (hs ts : List Int) (hh : hs.length = 24) (ht : ts.length = 24) (ok : BlOk n wd gp t sh) (hour facing : Int) (hr0 : 0 ≤ hour) (hr1 : hour < 24) (hf0 : 0 ≤ facing) (hf1 : facing ≤ 255) (hx1 : atH hs hour ≤ 64) (hy0 : 0 ≤ atH ts hour) (hy1 : atH ts hour ≤ 255) (p1 p2 : Nat) (w : World) (c1 : w.heap[p1]? = some (.cells (blindC n wd gp t sh) 33 (0, 0))) (c2 : w.heap[p2]? = some (.cells #[.float .f32 (opnB wd gp t 1)] 23 (0, 0))) :
    Calls Tryz.prog 63 #[.func (.func 83) #[] #[.pointer (some ⟨p1, 0, none⟩), .pointer (some ⟨p2, 0, none⟩)], .agg (sunC hs ts), .int .i64 hour, .int .i64 facing] w fun e w' => e = .returned (.float .f32 (winB wd gp t sh hs ts hour facing)) ∧ Below w.heap.size w w' := by
  unfold winB
  by_cases hpos : 0 < atH hs hour
  · rw [if_pos hpos]; exact windowAt_up n wd gp t sh hs ts hh ht ok hour facing hr0 hr1 hf0 hf1 hx1 hy0 hy1 hpos p1 p2 w c1 c2
  · rw [if_neg hpos]; exact windowAt_no n wd gp t sh hs ts hh ht hour facing hr0 hr1 hpos p1 p2 w c1 c2

set_option maxRecDepth 100000 in
set_option maxHeartbeats 1000000 in
theorem l02Window_up (n : Int) (wd gp : Nat) (t : Int) (sh : Nat) (hs ts : List Int) (hh : hs.length = 24) (ht : ts.length = 24) (ok : BlOk n wd gp t sh) (hour facing : Int) (hr0 : 0 ≤ hour) (hr1 : hour < 24) (hf0 : 0 ≤ facing) (hf1 : facing ≤ 255) (hx1 : atH hs hour ≤ 64) (hy0 : 0 ≤ atH ts hour) (hy1 : atH ts hour ≤ 255) (hpos : 0 < atH hs hour) (g1 g2 : Nat) (w : World) (c1 : w.heap[g1]? = some (.cells (blindC n wd gp t sh) 33 (0, 0))) (c2 : w.heap[g2]? = some (.cells (sunC hs ts) 35 (0, 0))) :
    Calls Tryz.prog 45 #[.pointer (some ⟨g1, 0, none⟩), .pointer (some ⟨g2, 0, none⟩), .int .i64 hour, .int .i64 facing] w fun e w' => e = .returned (.float .f32 (fmul (fallOf hs ts hour facing) (pasB wd gp t sh (atH hs hour)))) ∧ Below w.heap.size w w' := by
  have Hh := Lib.hid hh
  have Ht := Lib.hid ht
  have HF := Lib.hid (fun w hg => l01Fall_any g2 hs ts hh ht hour facing hr0 hr1 hf0 hf1 hx1 hy0 hy1 35 (0, 0) w hg)
  have HP := Lib.hid (fun w hg => l02Pass_any n wd gp t sh ok (atH hs hour) (by omega) hx1 g1 33 (0, 0) w hg)
  have hm : floatBits .mul .f32 (fallOf hs ts hour facing) (pasB wd gp t sh (atH hs hour)) = some (fmul (fallOf hs ts hour facing) (pasB wd gp t sh (atH hs hour))) := (win_ok wd gp t ok.2.2.2.2.2.2.2.2 _ _ hpos hx1).1
  have r : ∀ T w, (binOp .mul T (.float .f32 (fallOf hs ts hour facing)) (.float .f32 (pasB wd gp t sh (atH hs hour)))).run Tryz.prog w = .ok (.float .f32 (fmul (fallOf hs ts hour facing) (pasB wd gp t sh (atH hs hour)))) w := fun T w => run_float_arith w .mul T .f32 _ _ _ hm
  have hw64 : IntKind.i64.wrap (atH hs hour) = atH hs hour := i64_small _ (by omega) (by omega)
  clear hm
  generalize fallOf hs ts hour facing = F at *
  clear ok hh ht
  obtain ⟨k, rfl⟩ := Int.eq_ofNat_of_zero_le hr0
  have hk : k < 24 := by omega
  have ea : hs[k]?.getD 0 = atH hs (k : Int) := by unfold atH; rw [Int.toNat_natCast]
  have q0 := cell_sun_h c2 Hh.out k hk
  rw [ea] at q0
  have hd : decide (atH hs (k : Int) ≤ 0) = false := decide_eq_false (by omega)
  generalize pasB wd gp t sh (atH hs (k : Int)) = P at *
  generalize atH hs (k : Int) = x at *
  have Hx := Lib.hid ea
  clear ea
  have C1 := Lib.hid c1
  have C2 := Lib.hid c2
  clear c1 c2
  go_enter Tryz.func45, Tryz.ntmps45
  go_upto_region 3 with (fail)
  have d0 := C1.out
  have d1 := C2.out
  clear C1 C2 q0
  refine wp_region_held_drew (S := (fun W => W.heap[g1]? = some (.cells (blindC n wd gp t sh) 33 (0, 0)) ∧ W.heap[g2]? = some (.cells (sunC hs ts) 35 (0, 0)) ∧ Below w.heap.size w W)) (by kernel_rfl) ⟨d0, d1, (Below.refl w.heap.size w).drew⟩ (fun hHeld => ?_)
  refine take_op (i := 0) (d := 16) (v := ?_) rfl rfl (by kernel_rfl) (by kernel_rfl) (by kernel_rfl) (fun _ _ _ h => h) (Or.inl ⟨by rfl, ?hy0u11⟩) hHeld ?rest0u11
  case hy0u11 =>
    intro w' hS'
    go_simp
    try with_reducible rfl
  simp only [List.setIfInBounds_toArray, List.set_cons_zero, List.set_cons_succ]
  refine take_op (i := 1) (d := 17) (v := ?_) rfl rfl (by kernel_rfl) (by kernel_rfl) (by kernel_rfl) (fun _ _ _ h => h) (Or.inl ⟨by rfl, ?hy1u12⟩) hHeld ?rest1u12
  case hy1u12 =>
    intro w' hS'
    go_simp
    try with_reducible rfl
  simp only [List.setIfInBounds_toArray, List.set_cons_zero, List.set_cons_succ]
  refine take_op (i := 2) (d := 18) (v := ?_) rfl rfl (by kernel_rfl) (by kernel_rfl) (by kernel_rfl) (fun _ _ _ h => h) (Or.inl ⟨by rfl, ?hy2u13⟩) hHeld ?rest2u13
  case hy2u13 =>
    intro w' hS'
    go_simp
    try with_reducible rfl
  simp only [List.setIfInBounds_toArray, List.set_cons_zero, List.set_cons_succ]
  refine take_op (i := 4) (d := 20) (v := ?_) rfl rfl (by kernel_rfl) (by kernel_rfl) (by kernel_rfl) (fun _ _ _ h => h) (Or.inl ⟨by rfl, ?hy4u14⟩) hHeld ?rest4u14
  case hy4u14 =>
    intro w' hS'
    go_simp
    try with_reducible rfl
  simp only [List.setIfInBounds_toArray, List.set_cons_zero, List.set_cons_succ]
  refine take_op (i := 5) (d := 21) (v := ?_) rfl rfl (by kernel_rfl) (by kernel_rfl) (by kernel_rfl) (fun _ _ _ h => h) (Or.inl ⟨by rfl, ?hy5u15⟩) hHeld ?rest5u15
  case hy5u15 =>
    intro w' hS'
    go_simp
    try with_reducible rfl
  simp only [List.setIfInBounds_toArray, List.set_cons_zero, List.set_cons_succ]
  refine take_op (i := 6) (d := 22) (v := ?_) rfl rfl (by kernel_rfl) (by kernel_rfl) (by kernel_rfl) (fun _ _ _ h => h) (Or.inl ⟨by rfl, ?hy6u16⟩) hHeld ?rest6u16
  case hy6u16 =>
    intro w' hS'
    go_simp
    try with_reducible rfl
  simp only [List.setIfInBounds_toArray, List.set_cons_zero, List.set_cons_succ]
  refine take_op (i := 7) (d := 23) (v := ?_) rfl rfl (by kernel_rfl) (by kernel_rfl) (by kernel_rfl) (fun _ _ _ h => h) (Or.inl ⟨by rfl, ?hy7u17⟩) hHeld ?rest7u17
  case hy7u17 =>
    intro w' hS'
    go_simp
    try with_reducible rfl
  simp only [List.setIfInBounds_toArray, List.set_cons_zero, List.set_cons_succ]
  refine take_op (i := 8) (d := 24) (v := ?_) rfl rfl (by kernel_rfl) (by kernel_rfl) (by kernel_rfl) (fun _ _ _ h => h) (Or.inl ⟨by rfl, ?hy8u18⟩) hHeld ?rest8u18
  case hy8u18 =>
    intro w' hS'
    go_simp
    try with_reducible rfl
  simp only [List.setIfInBounds_toArray, List.set_cons_zero, List.set_cons_succ]
  refine take_op (i := 9) (d := 25) (v := ?_) rfl rfl (by kernel_rfl) (by kernel_rfl) (by kernel_rfl) (fun _ _ _ h => h) (Or.inl ⟨by rfl, ?hy9u19⟩) hHeld ?rest9u19
  case hy9u19 =>
    intro w' hS'
    go_simp
    try with_reducible rfl
  simp only [List.setIfInBounds_toArray, List.set_cons_zero, List.set_cons_succ]
  refine take_op (i := 10) (d := 26) (v := ?_) rfl rfl (by kernel_rfl) (by kernel_rfl) (by kernel_rfl) (fun _ _ _ h => h) (Or.inl ⟨by rfl, ?hy10u20⟩) hHeld ?rest10u20
  case hy10u20 =>
    intro w' hS'
    obtain ⟨_, s1, _⟩ := hS'
    have qk := cell_sun_h s1 Hh.out k hk
    rw [Hx.out] at qk
    clear s1
    go_simp
    try with_reducible rfl
  simp only [List.setIfInBounds_toArray, List.set_cons_zero, List.set_cons_succ]
  refine take_op (i := 11) (d := 27) (v := ?_) rfl rfl (by kernel_rfl) (by kernel_rfl) (by kernel_rfl) (fun _ _ _ h => h) (Or.inl ⟨by rfl, ?hy11u21⟩) hHeld ?rest11u21
  case hy11u21 =>
    intro w' hS'
    go_simp
    try with_reducible rfl
  simp only [List.setIfInBounds_toArray, List.set_cons_zero, List.set_cons_succ]
  refine wpAnyH_ready (rs := [3]) (by kernel_rfl) (by simp) ?_
  refine AllReadyH.cons rfl (fun K hK => ?_) AllReadyH.nil
  go_simp
  refine (HF.out _ hHeld.2.1).mono ?_
  rintro e W1 ⟨rfl, hb1⟩
  refine hK.out _ _ (⟨below_row hb1 hHeld.1, below_row hb1 hHeld.2.1, hHeld.2.2.trans (hb1.mono hHeld.2.2.size)⟩) (fun hHeld2 => ?_)
  clear hK K
  replace hHeld := hHeld2
  clear hHeld2
  refine wpAnyH_ready (rs := [12]) (by kernel_rfl) (by simp) ?_
  refine AllReadyH.cons rfl (fun K hK => ?_) AllReadyH.nil
  go_simp
  refine (HP.out _ hHeld.1).mono ?_
  rintro e W3 ⟨rfl, hb3⟩
  refine hK.out _ _ (⟨below_row hb3 hHeld.1, below_row hb3 hHeld.2.1, hHeld.2.2.trans (hb3.mono hHeld.2.2.size)⟩) (fun hHeld2 => ?_)
  clear hK K
  replace hHeld := hHeld2
  clear hHeld2
  refine take_op (i := 13) (d := 29) (v := ?_) rfl rfl (by kernel_rfl) (by kernel_rfl) (by kernel_rfl) (fun _ _ _ h => h) (Or.inl ⟨by rfl, ?hy13u22⟩) hHeld ?rest13u22
  case hy13u22 =>
    intro w' hS'
    go_simp
    try with_reducible rfl
  simp only [List.setIfInBounds_toArray, List.set_cons_zero, List.set_cons_succ]
  refine take_op (i := 14) (d := 8) (v := ?_) rfl rfl (by kernel_rfl) (by kernel_rfl) (by kernel_rfl) (fun _ _ _ h => h) (Or.inl ⟨by rfl, ?hy14u23⟩) hHeld ?rest14u23
  case hy14u23 =>
    intro w' hS'
    go_simp
    try with_reducible rfl
  simp only [List.setIfInBounds_toArray, List.set_cons_zero, List.set_cons_succ]
  refine wpAnyH_done (by kernel_rfl) ?_ _
  have hbx := hHeld.2.2
  clear hHeld d0 d1
  go_wp2
  go_ret
  exact ⟨rfl, hbx⟩

set_option maxRecDepth 100000 in
set_option maxHeartbeats 1000000 in
theorem l02Window_no (n : Int) (wd gp : Nat) (t : Int) (sh : Nat) (hs ts : List Int) (hh : hs.length = 24) (ht : ts.length = 24) (hour facing : Int) (hr0 : 0 ≤ hour) (hr1 : hour < 24) (hx1 : atH hs hour ≤ 64) (hy0 : 0 ≤ atH ts hour) (hy1 : atH ts hour ≤ 255) (hpos : ¬ 0 < atH hs hour) (g1 g2 : Nat) (w : World) (c1 : w.heap[g1]? = some (.cells (blindC n wd gp t sh) 33 (0, 0))) (c2 : w.heap[g2]? = some (.cells (sunC hs ts) 35 (0, 0))) :
    Calls Tryz.prog 45 #[.pointer (some ⟨g1, 0, none⟩), .pointer (some ⟨g2, 0, none⟩), .int .i64 hour, .int .i64 facing] w fun e w' => e = .returned (.float .f32 (0)) ∧ Below w.heap.size w w' := by
  have Hh := Lib.hid hh
  have Ht := Lib.hid ht
  clear hh ht
  obtain ⟨k, rfl⟩ := Int.eq_ofNat_of_zero_le hr0
  have hk : k < 24 := by omega
  have ea : hs[k]?.getD 0 = atH hs (k : Int) := by unfold atH; rw [Int.toNat_natCast]
  have q0 := cell_sun_h c2 Hh.out k hk
  rw [ea] at q0
  have hd : decide (atH hs (k : Int) ≤ 0) = true := decide_eq_true (by omega)
  generalize atH hs (k : Int) = x at *
  have Hx := Lib.hid ea
  clear ea
  have C1 := Lib.hid c1
  have C2 := Lib.hid c2
  clear c1 c2
  go_enter Tryz.func45, Tryz.ntmps45
  go_wp2
  go_ret
  exact ⟨rfl, Below.refl _ _⟩

theorem l02Window_any (n : Int) (wd gp : Nat) (t : Int) (sh : Nat) (hs ts : List Int) (hh : hs.length = 24) (ht : ts.length = 24) (ok : BlOk n wd gp t sh) (hour facing : Int) (hr0 : 0 ≤ hour) (hr1 : hour < 24) (hf0 : 0 ≤ facing) (hf1 : facing ≤ 255) (hx1 : atH hs hour ≤ 64) (hy0 : 0 ≤ atH ts hour) (hy1 : atH ts hour ≤ 255) (g1 g2 : Nat) (w : World) (c1 : w.heap[g1]? = some (.cells (blindC n wd gp t sh) 33 (0, 0))) (c2 : w.heap[g2]? = some (.cells (sunC hs ts) 35 (0, 0))) :
    Calls Tryz.prog 45 #[.pointer (some ⟨g1, 0, none⟩), .pointer (some ⟨g2, 0, none⟩), .int .i64 hour, .int .i64 facing] w fun e w' => e = .returned (.float .f32 (winB wd gp t sh hs ts hour facing)) ∧ Below w.heap.size w w' := by
  unfold winB
  by_cases hpos : 0 < atH hs hour
  · rw [if_pos hpos]; exact l02Window_up n wd gp t sh hs ts hh ht ok hour facing hr0 hr1 hf0 hf1 hx1 hy0 hy1 hpos g1 g2 w c1 c2
  · rw [if_neg hpos]; exact l02Window_no n wd gp t sh hs ts hh ht hour facing hr0 hr1 hx1 hy0 hy1 hpos g1 g2 w c1 c2

end Go.Proofs.YtmniodfdoidffaaGreatDoor

namespace Go.Proofs.YtmniodfdoidffaaGreatDoor
open Go.ChangeShapes Go.WideShapes Go.ChangeAt Go.RowKit Go.Deep Go.Joins

attribute [local go_sem] run_store_f

set_option maxRecDepth 100000 in
set_option maxHeartbeats 1000000 in
theorem tilted_any2 (n : Int) (wd gp : Nat) (t : Int) (sh : Nat) (x : Int) (x0 : -64 ≤ x) (x1 : x ≤ 64) (w : World) :
    Calls Tryz.prog 65 #[.agg (blindC n wd gp t sh), .int .i64 x] w fun e w' => e = .returned (.agg (blindC n wd gp x sh)) ∧ Below w.heap.size w w' := by
  unfold blindC
  go_enter Tryz.func65, Tryz.ntmps65
  go_wp2
  refine bodyPost_ret (v := .agg #[.int .i8 n, .float .f32 wd, .float .f32 gp, .int .i16 x, .float .f32 sh]) (by simp [results, Tryz.results65, go_sem]) rfl ⟨rfl, ?_⟩
  (repeat' first | exact Below.refl _ _ | assumption | refine Below.alloc ?_ (by first | omega | (simp; done) | (simp; omega)) _ | refine Below.setCell ?_ (by first | omega | (simp; done) | (simp; omega)) _ | refine Below.drew ?_)

end Go.Proofs.YtmniodfdoidffaaGreatDoor

namespace Go.Proofs.YtmniodfdoidffaaGreatDoor
open Go.ChangeShapes Go.WideShapes Go.ChangeAt Go.RowKit Go.Deep Go.Joins

attribute [local go_sem] run_store_f

set_option maxRecDepth 100000 in
set_option maxHeartbeats 2000000 in
theorem light_any (hs ts : List Int) (hh : hs.length = 24) (ht : ts.length = 24) (fc : Int) (lo hi : Nat) (n : Int) (wd gp : Nat) (t : Int) (sh : Nat) (ok : BlOk n wd gp t sh) (hour x : Int) (k : HrOk hs ts hour fc) (x0 : -64 ≤ x) (x1 : x ≤ 64) (w : World) :
    Calls Tryz.prog 46 #[.agg (dayC hs ts fc lo hi n wd gp t sh), .int .i64 hour, .int .i64 x] w fun e w' => e = .returned (.float .f32 (winB wd gp x sh hs ts hour fc)) ∧ Below w.heap.size w w' := by
  have okx : BlOk n wd gp x sh := ⟨ok.1, ok.2.1, ok.2.2.1, ok.2.2.2.1, ok.2.2.2.2.1, ok.2.2.2.2.2.1, x0, x1, ok.2.2.2.2.2.2.2.2⟩
  have HT := Lib.hid (fun w => tilted_any2 n wd gp t sh x x0 x1 w)
  have HP := Lib.hid (fun w => passer_any n wd gp x sh okx w)
  have HW := Lib.hid (fun p1 p2 w c1 c2 => windowAt_any n wd gp x sh hs ts hh ht okx hour fc k.h0 k.h1 k.f0 k.f1 k.x1 k.y0 k.y1 p1 p2 w c1 c2)
  have Hh := Lib.hid hh
  have Ht := Lib.hid ht
  generalize winB wd gp x sh hs ts hour fc = v at *
  clear hh ht ok okx k x0 x1
  go_enter Tryz.func46, Tryz.ntmps46
  go_upto_region 1 with (fail)
  refine abs_code (fun W => W.heap[w.heap.size]? = some (.cells (dayC hs ts fc lo hi n wd gp t sh) 66 (0, 0)) ∧ Below w.heap.size w W) ⟨heap_alloc_new _ _, (Below.refl _ _).alloc (Nat.le_refl _) _⟩ ?_
  rintro W ⟨h0, hb⟩
  have H0 := Lib.hid h0
  clear h0
  refine wp_region_held_drew (S := (fun V => Below W.heap.size W V)) (by kernel_rfl) (Below.refl _ _).drew (fun hHeld => ?_)
  refine take_op (i := 0) (d := 7) (v := ?_) rfl rfl (by kernel_rfl) (by kernel_rfl) (by kernel_rfl) (fun _ _ _ h => h) (Or.inl ⟨by rfl, ?hy0u19⟩) hHeld ?rest0u19
  case hy0u19 =>
    intro w' hS'
    go_simp
    try with_reducible rfl
  simp only [List.setIfInBounds_toArray, List.set_cons_zero, List.set_cons_succ]
  refine take_op (i := 1) (d := 8) (v := .agg (blindC n wd gp t sh)) rfl rfl (by kernel_rfl) (by kernel_rfl) (by kernel_rfl) (fun _ _ _ h => h) (yields_row (by rfl) 33 (.tmp 7) (by rfl) w.heap.size 51 5 (by rfl) 66 (dayC hs ts fc lo hi n wd gp t sh) (0, 0) _ (fun _ h => below_row h H0.out) Tryz.underlying33 rfl info_blind (dy_fits 56 (by decide) hs ts Hh.out Ht.out fc lo hi n wd gp t sh) (blindC n wd gp t sh) (dy_bl hs ts Hh.out Ht.out fc lo hi n wd gp t sh)) hHeld ?_
  simp only [List.setIfInBounds_toArray, List.set_cons_zero, List.set_cons_succ]
  refine take_op (i := 2) (d := 9) (v := ?_) rfl rfl (by kernel_rfl) (by kernel_rfl) (by kernel_rfl) (fun _ _ _ h => h) (Or.inl ⟨by rfl, ?hy2u20⟩) hHeld ?rest2u20
  case hy2u20 =>
    intro w' hS'
    go_simp
    try with_reducible rfl
  simp only [List.setIfInBounds_toArray, List.set_cons_zero, List.set_cons_succ]
  refine take_op (i := 5) (d := 12) (v := ?_) rfl rfl (by kernel_rfl) (by kernel_rfl) (by kernel_rfl) (fun _ _ _ h => h) (Or.inl ⟨by rfl, ?hy5u21⟩) hHeld ?rest5u21
  case hy5u21 =>
    intro w' hS'
    go_simp
    try with_reducible rfl
  simp only [List.setIfInBounds_toArray, List.set_cons_zero, List.set_cons_succ]
  refine take_op (i := 6) (d := 13) (v := ?_) rfl rfl (by kernel_rfl) (by kernel_rfl) (by kernel_rfl) (fun _ _ _ h => h) (Or.inl ⟨by rfl, ?hy6u22⟩) hHeld ?rest6u22
  case hy6u22 =>
    intro w' hS'
    go_simp
    try with_reducible rfl
  simp only [List.setIfInBounds_toArray, List.set_cons_zero, List.set_cons_succ]
  refine take_op (i := 7) (d := 14) (v := .agg (sunC hs ts)) rfl rfl (by kernel_rfl) (by kernel_rfl) (by kernel_rfl) (fun _ _ _ h => h) (yields_row (by rfl) 35 (.tmp 13) (by rfl) w.heap.size 0 48 (by rfl) 66 (dayC hs ts fc lo hi n wd gp t sh) (0, 0) _ (fun _ h => below_row h H0.out) Tryz.underlying35 rfl info_sun (dy_fits 48 (by decide) hs ts Hh.out Ht.out fc lo hi n wd gp t sh) (sunC hs ts) (dy_sun hs ts Hh.out Ht.out fc lo hi n wd gp t sh)) hHeld ?_
  simp only [List.setIfInBounds_toArray, List.set_cons_zero, List.set_cons_succ]
  refine take_op (i := 8) (d := 15) (v := ?_) rfl rfl (by kernel_rfl) (by kernel_rfl) (by kernel_rfl) (fun _ _ _ h => h) (Or.inl ⟨by rfl, ?hy8u23⟩) hHeld ?rest8u23
  case hy8u23 =>
    intro w' hS'
    go_simp
    try with_reducible rfl
  simp only [List.setIfInBounds_toArray, List.set_cons_zero, List.set_cons_succ]
  refine take_op (i := 9) (d := 16) (v := ?_) rfl rfl (by kernel_rfl) (by kernel_rfl) (by kernel_rfl) (fun _ _ _ h => h) (Or.inl ⟨by rfl, ?hy9u24⟩) hHeld ?rest9u24
  case hy9u24 =>
    intro w' hS'
    go_simp
    try with_reducible rfl
  simp only [List.setIfInBounds_toArray, List.set_cons_zero, List.set_cons_succ]
  refine take_op (i := 10) (d := 17) (v := ?_) rfl rfl (by kernel_rfl) (by kernel_rfl) (by kernel_rfl) (fun _ _ _ h => h) (Or.inl ⟨by rfl, ?hy10u25⟩) hHeld ?rest10u25
  case hy10u25 =>
    intro w' hS'
    go_simp
    try with_reducible rfl
  simp only [List.setIfInBounds_toArray, List.set_cons_zero, List.set_cons_succ]
  refine take_op (i := 11) (d := 18) (v := ?_) rfl rfl (by kernel_rfl) (by kernel_rfl) (by kernel_rfl) (fun _ _ _ h => h) (Or.inl ⟨by rfl, ?hy11u26⟩) hHeld ?rest11u26
  case hy11u26 =>
    intro w' hS'
    have q := dy_cell hs ts Hh.out Ht.out fc lo hi n wd gp t sh (below_row hS' H0.out)
    go_simp
    try with_reducible rfl
  simp only [List.setIfInBounds_toArray, List.set_cons_zero, List.set_cons_succ]
  refine wpAnyH_ready (rs := [3]) (by kernel_rfl) (by simp) ?_
  refine AllReadyH.cons rfl (fun K hK => ?_) AllReadyH.nil
  go_simp
  refine (HT.out _).mono ?_
  rintro e W1 ⟨rfl, hb1⟩
  refine hK.out _ _ (hHeld.trans (hb1.mono hHeld.size)) (fun hHeld2 => ?_)
  clear hK K
  replace hHeld := hHeld2
  clear hHeld2
  clear hb1
  refine wpAnyH_ready (rs := [4]) (by kernel_rfl) (by simp) ?_
  refine AllReadyH.cons rfl (fun K hK => ?_) AllReadyH.nil
  go_simp
  refine (HP.out _).mono ?_
  rintro e W2 ⟨⟨v, rfl, p1, p2, rfl, c4, c5⟩, hb2⟩
  have C4 := Lib.hid c4
  have C5 := Lib.hid c5
  clear c4 c5
  refine hK.out _ _ (hHeld.trans (hb2.mono hHeld.size)) (fun hHeld2 => ?_)
  clear hK K
  replace hHeld := hHeld2
  clear hHeld2
  clear hb2
  refine wpAnyH_ready (rs := [12]) (by kernel_rfl) (by simp) ?_
  refine AllReadyH.cons rfl (fun K hK => ?_) AllReadyH.nil
  go_simp
  refine (HW.out p1 p2 _ C4.out C5.out).mono ?_
  rintro e W3 ⟨rfl, hb3⟩
  refine hK.out _ _ (hHeld.trans (hb3.mono hHeld.size)) (fun hHeld2 => ?_)
  clear hK K
  replace hHeld := hHeld2
  clear hHeld2
  clear hb3
  refine take_op (i := 13) (d := 6) (v := ?_) rfl rfl (by kernel_rfl) (by kernel_rfl) (by kernel_rfl) (fun _ _ _ h => h) (Or.inl ⟨by rfl, ?hy13u27⟩) hHeld ?rest13u27
  case hy13u27 =>
    intro w' hS'
    go_simp
    try with_reducible rfl
  simp only [List.setIfInBounds_toArray, List.set_cons_zero, List.set_cons_succ]
  refine wpAnyH_done (by kernel_rfl) ?_ _
  replace hb := hb.trans (hHeld.mono hb.size)
  clear hHeld H0 HT HP HW C4 C5
  go_wp2
  go_ret
  exact ⟨rfl, hb⟩

/-- Whether an hour keeps within bounds with a tilt. -/
def kpB (hs ts : List Int) (fc : Int) (lo hi : Nat) (wd gp sh : Nat) (hour x : Int) : Bool :=
  !gtO (winB wd gp x sh hs ts hour fc) hi && (!ltO (winB wd gp x sh hs ts hour fc) lo || ltO (fallOf hs ts hour fc) lo)

set_option maxRecDepth 100000 in
set_option maxHeartbeats 4000000 in
theorem keeps_any (hs ts : List Int) (hh : hs.length = 24) (ht : ts.length = 24) (fc : Int) (lo hi : Nat) (n : Int) (wd gp : Nat) (t : Int) (sh : Nat) (ok : BlOk n wd gp t sh) (hour x : Int) (k : HrOk hs ts hour fc) (x0 : -64 ≤ x) (x1 : x ≤ 64) (w : World) :
    Calls Tryz.prog 60 #[.agg (dayC hs ts fc lo hi n wd gp t sh), .int .i64 hour, .int .i64 x] w fun e w' => e = .returned (.bool (kpB hs ts fc lo hi wd gp sh hour x)) ∧ Below w.heap.size w w' := by
  have HL := Lib.hid (fun w => light_any hs ts hh ht fc lo hi n wd gp t sh ok hour x k x0 x1 w)
  have HF := Lib.hid (fun w => fall_any hs ts hh ht fc hour k w)
  have Hh := Lib.hid hh
  have Ht := Lib.hid ht
  unfold kpB
  generalize winB wd gp x sh hs ts hour fc = v at *
  generalize fallOf hs ts hour fc = f at *
  clear hh ht ok k x0 x1
  rcases g1 : gtO v hi with _ | _
  · rcases g2 : ltO v lo with _ | _
    · have G1 := Lib.hid g1
      have G2 := Lib.hid g2
      clear g1 g2
      go_enter Tryz.func60, Tryz.ntmps60
      go_upto_region 1 with (fail)
      refine abs_code (fun W => W.heap[w.heap.size]? = some (.cells (dayC hs ts fc lo hi n wd gp t sh) 66 (0, 0)) ∧ Below w.heap.size w W) ⟨heap_alloc_new _ _, (Below.refl _ _).alloc (Nat.le_refl _) _⟩ ?_
      rintro W0 ⟨h0, hb⟩
      have H0 := Lib.hid h0
      clear h0
      go_upto_region 2 with (first | (refine wpList_load_part rfl 66 _ rfl w.heap.size 0 56 rfl 66 (dayC hs ts fc lo hi n wd gp t sh) (0, 0) _ H0.out Tryz.underlying66 rfl info_dy (dy_fits 56 (by decide) hs ts Hh.out Ht.out fc lo hi n wd gp t sh) (dayC hs ts fc lo hi n wd gp t sh) (dy_all hs ts Hh.out Ht.out fc lo hi n wd gp t sh) ?_) | (go_at_call 46; refine (HL.out _).mono ?_; rintro e W ⟨rfl, hb1⟩; replace H0 := Lib.hid (below_row hb1 H0.out); replace hb := hb.trans (hb1.mono hb.size); clear hb1))
      refine wp_region_held_drew (S := (fun V => Below W.heap.size W V)) (by kernel_rfl) (Below.refl _ _).drew (fun hHeld => ?_)
      refine take_op (i := 0) (d := 12) (v := ?_) rfl rfl (by kernel_rfl) (by kernel_rfl) (by kernel_rfl) (fun _ _ _ h => h) (Or.inl ⟨by rfl, ?hy0u28⟩) hHeld ?rest0u28
      case hy0u28 =>
        intro w' hS'
        go_simp
        try with_reducible rfl
      simp only [List.setIfInBounds_toArray, List.set_cons_zero, List.set_cons_succ]
      refine take_op (i := 1) (d := 13) (v := .agg (bnC lo hi)) rfl rfl (by kernel_rfl) (by kernel_rfl) (by kernel_rfl) (fun _ _ _ h => h) (yields_row (by rfl) 64 (.tmp 12) (by rfl) w.heap.size 49 2 (by rfl) 66 (dayC hs ts fc lo hi n wd gp t sh) (0, 0) _ (fun _ h => below_row h H0.out) Tryz.underlying64 rfl info_bn (dy_fits 51 (by decide) hs ts Hh.out Ht.out fc lo hi n wd gp t sh) (bnC lo hi) (dy_bn hs ts Hh.out Ht.out fc lo hi n wd gp t sh)) hHeld ?_
      simp only [List.setIfInBounds_toArray, List.set_cons_zero, List.set_cons_succ]
      refine take_op (i := 2) (d := 14) (v := ?_) rfl rfl (by kernel_rfl) (by kernel_rfl) (by kernel_rfl) (fun _ _ _ h => h) (Or.inl ⟨by rfl, ?hy2u29⟩) hHeld ?rest2u29
      case hy2u29 =>
        intro w' hS'
        go_simp
        try with_reducible rfl
      simp only [List.setIfInBounds_toArray, List.set_cons_zero, List.set_cons_succ]
      refine wpAnyH_ready (rs := [3]) (by kernel_rfl) (by simp) ?_
      refine AllReadyH.cons rfl (fun K hK => ?_) AllReadyH.nil
      go_simp
      refine (dyBright_is lo hi v false G1.out _).mono ?_
      rintro e W1 ⟨rfl, hb1⟩
      refine hK.out _ _ (hHeld.trans (hb1.mono hHeld.size)) (fun hHeld2 => ?_)
      clear hK K
      replace hHeld := hHeld2
      clear hHeld2
      clear hb1
      refine take_op (i := 4) (d := 16) (v := ?_) rfl rfl (by kernel_rfl) (by kernel_rfl) (by kernel_rfl) (fun _ _ _ h => h) (Or.inl ⟨by rfl, ?hy4u30⟩) hHeld ?rest4u30
      case hy4u30 =>
        intro w' hS'
        go_simp
        try with_reducible rfl
      simp only [List.setIfInBounds_toArray, List.set_cons_zero, List.set_cons_succ]
      refine take_op (i := 5) (d := 17) (v := ?_) rfl rfl (by kernel_rfl) (by kernel_rfl) (by kernel_rfl) (fun _ _ _ h => h) (Or.inl ⟨by rfl, ?hy5u31⟩) hHeld ?rest5u31
      case hy5u31 =>
        intro w' hS'
        go_simp
        try with_reducible rfl
      simp only [List.setIfInBounds_toArray, List.set_cons_zero, List.set_cons_succ]
      refine take_op (i := 6) (d := 18) (v := ?_) rfl rfl (by kernel_rfl) (by kernel_rfl) (by kernel_rfl) (fun _ _ _ h => h) (Or.inl ⟨by rfl, ?hy6u32⟩) hHeld ?rest6u32
      case hy6u32 =>
        intro w' hS'
        go_simp
        try with_reducible rfl
      simp only [List.setIfInBounds_toArray, List.set_cons_zero, List.set_cons_succ]
      refine take_op (i := 7) (d := 19) (v := .agg (bnC lo hi)) rfl rfl (by kernel_rfl) (by kernel_rfl) (by kernel_rfl) (fun _ _ _ h => h) (yields_row (by rfl) 64 (.tmp 18) (by rfl) w.heap.size 49 2 (by rfl) 66 (dayC hs ts fc lo hi n wd gp t sh) (0, 0) _ (fun _ h => below_row h H0.out) Tryz.underlying64 rfl info_bn (dy_fits 51 (by decide) hs ts Hh.out Ht.out fc lo hi n wd gp t sh) (bnC lo hi) (dy_bn hs ts Hh.out Ht.out fc lo hi n wd gp t sh)) hHeld ?_
      simp only [List.setIfInBounds_toArray, List.set_cons_zero, List.set_cons_succ]
      refine take_op (i := 8) (d := 20) (v := ?_) rfl rfl (by kernel_rfl) (by kernel_rfl) (by kernel_rfl) (fun _ _ _ h => h) (Or.inl ⟨by rfl, ?hy8u33⟩) hHeld ?rest8u33
      case hy8u33 =>
        intro w' hS'
        go_simp
        try with_reducible rfl
      simp only [List.setIfInBounds_toArray, List.set_cons_zero, List.set_cons_succ]
      refine wpAnyH_ready (rs := [9]) (by kernel_rfl) (by simp) ?_
      refine AllReadyH.cons rfl (fun K hK => ?_) AllReadyH.nil
      go_simp
      refine (dyDark_is lo hi v false G2.out _).mono ?_
      rintro e W1 ⟨rfl, hb1⟩
      refine hK.out _ _ (hHeld.trans (hb1.mono hHeld.size)) (fun hHeld2 => ?_)
      clear hK K
      replace hHeld := hHeld2
      clear hHeld2
      clear hb1
      refine take_op (i := 10) (d := 22) (v := ?_) rfl rfl (by kernel_rfl) (by kernel_rfl) (by kernel_rfl) (fun _ _ _ h => h) (Or.inl ⟨by rfl, ?hy10u34⟩) hHeld ?rest10u34
      case hy10u34 =>
        intro w' hS'
        go_simp
        try with_reducible rfl
      simp only [List.setIfInBounds_toArray, List.set_cons_zero, List.set_cons_succ]
      refine take_op (i := 11) (d := 23) (v := ?_) rfl rfl (by kernel_rfl) (by kernel_rfl) (by kernel_rfl) (fun _ _ _ h => h) (Or.inl ⟨by rfl, ?hy11u35⟩) hHeld ?rest11u35
      case hy11u35 =>
        intro w' hS'
        go_simp
        try with_reducible rfl
      simp only [List.setIfInBounds_toArray, List.set_cons_zero, List.set_cons_succ]
      refine take_op (i := 12) (d := 24) rfl rfl (by kernel_rfl) (by kernel_rfl) (by kernel_rfl) (fun _ _ _ h => h) (Or.inr ⟨by rfl, rfl⟩) hHeld ?_
      simp only [List.setIfInBounds_toArray, List.set_cons_zero, List.set_cons_succ]
      refine take_op (i := 13) (d := 25) rfl rfl (by kernel_rfl) (by kernel_rfl) (by kernel_rfl) (fun _ _ _ h => h) (Or.inr ⟨by rfl, rfl⟩) hHeld ?_
      simp only [List.setIfInBounds_toArray, List.set_cons_zero, List.set_cons_succ]
      refine take_op (i := 14) (d := 26) rfl rfl (by kernel_rfl) (by kernel_rfl) (by kernel_rfl) (fun _ _ _ h => h) (Or.inr ⟨by rfl, rfl⟩) hHeld ?_
      simp only [List.setIfInBounds_toArray, List.set_cons_zero, List.set_cons_succ]
      refine take_op (i := 15) (d := 27) rfl rfl (by kernel_rfl) (by kernel_rfl) (by kernel_rfl) (fun _ _ _ h => h) (Or.inr ⟨by rfl, rfl⟩) hHeld ?_
      simp only [List.setIfInBounds_toArray, List.set_cons_zero, List.set_cons_succ]
      refine take_op (i := 16) (d := 28) rfl rfl (by kernel_rfl) (by kernel_rfl) (by kernel_rfl) (fun _ _ _ h => h) (Or.inr ⟨by rfl, rfl⟩) hHeld ?_
      simp only [List.setIfInBounds_toArray, List.set_cons_zero, List.set_cons_succ]
      refine take_op (i := 17) (d := 29) rfl rfl (by kernel_rfl) (by kernel_rfl) (by kernel_rfl) (fun _ _ _ h => h) (Or.inr ⟨by rfl, rfl⟩) hHeld ?_
      simp only [List.setIfInBounds_toArray, List.set_cons_zero, List.set_cons_succ]
      refine take_op (i := 18) (d := 30) rfl rfl (by kernel_rfl) (by kernel_rfl) (by kernel_rfl) (fun _ _ _ h => h) (Or.inr ⟨by rfl, rfl⟩) hHeld ?_
      simp only [List.setIfInBounds_toArray, List.set_cons_zero, List.set_cons_succ]
      refine take_op (i := 19) (d := 31) (v := ?_) rfl rfl (by kernel_rfl) (by kernel_rfl) (by kernel_rfl) (fun _ _ _ h => h) (Or.inl ⟨by rfl, ?hy19u36⟩) hHeld ?rest19u36
      case hy19u36 =>
        intro w' hS'
        go_simp
        try with_reducible rfl
      simp only [List.setIfInBounds_toArray, List.set_cons_zero, List.set_cons_succ]
      refine take_op (i := 20) (d := 32) (v := ?_) rfl rfl (by kernel_rfl) (by kernel_rfl) (by kernel_rfl) (fun _ _ _ h => h) (Or.inl ⟨by rfl, ?hy20u37⟩) hHeld ?rest20u37
      case hy20u37 =>
        intro w' hS'
        go_simp
        try with_reducible rfl
      simp only [List.setIfInBounds_toArray, List.set_cons_zero, List.set_cons_succ]
      refine take_op (i := 21) (d := 6) (v := ?_) rfl rfl (by kernel_rfl) (by kernel_rfl) (by kernel_rfl) (fun _ _ _ h => h) (Or.inl ⟨by rfl, ?hy21u38⟩) hHeld ?rest21u38
      case hy21u38 =>
        intro w' hS'
        go_simp
        try with_reducible rfl
      simp only [List.setIfInBounds_toArray, List.set_cons_zero, List.set_cons_succ]
      refine wpAnyH_done (by kernel_rfl) ?_ _
      replace hb := hb.trans (hHeld.mono hb.size)
      clear hHeld H0 HL HF
      go_wp2
      go_ret
      exact ⟨rfl, hb⟩
    · have G1 := Lib.hid g1
      have G2 := Lib.hid g2
      obtain ⟨g, g3⟩ : ∃ g, ltO f lo = g := ⟨_, rfl⟩
      have G3 := Lib.hid g3
      rw [g3]
      clear g1 g2 g3
      go_enter Tryz.func60, Tryz.ntmps60
      go_upto_region 1 with (fail)
      refine abs_code (fun W => W.heap[w.heap.size]? = some (.cells (dayC hs ts fc lo hi n wd gp t sh) 66 (0, 0)) ∧ Below w.heap.size w W) ⟨heap_alloc_new _ _, (Below.refl _ _).alloc (Nat.le_refl _) _⟩ ?_
      rintro W0 ⟨h0, hb⟩
      have H0 := Lib.hid h0
      clear h0
      go_upto_region 2 with (first | (refine wpList_load_part rfl 66 _ rfl w.heap.size 0 56 rfl 66 (dayC hs ts fc lo hi n wd gp t sh) (0, 0) _ H0.out Tryz.underlying66 rfl info_dy (dy_fits 56 (by decide) hs ts Hh.out Ht.out fc lo hi n wd gp t sh) (dayC hs ts fc lo hi n wd gp t sh) (dy_all hs ts Hh.out Ht.out fc lo hi n wd gp t sh) ?_) | (go_at_call 46; refine (HL.out _).mono ?_; rintro e W ⟨rfl, hb1⟩; replace H0 := Lib.hid (below_row hb1 H0.out); replace hb := hb.trans (hb1.mono hb.size); clear hb1))
      refine wp_region_held_drew (S := (fun V => Below W.heap.size W V)) (by kernel_rfl) (Below.refl _ _).drew (fun hHeld => ?_)
      refine take_op (i := 0) (d := 12) (v := ?_) rfl rfl (by kernel_rfl) (by kernel_rfl) (by kernel_rfl) (fun _ _ _ h => h) (Or.inl ⟨by rfl, ?hy0u39⟩) hHeld ?rest0u39
      case hy0u39 =>
        intro w' hS'
        go_simp
        try with_reducible rfl
      simp only [List.setIfInBounds_toArray, List.set_cons_zero, List.set_cons_succ]
      refine take_op (i := 1) (d := 13) (v := .agg (bnC lo hi)) rfl rfl (by kernel_rfl) (by kernel_rfl) (by kernel_rfl) (fun _ _ _ h => h) (yields_row (by rfl) 64 (.tmp 12) (by rfl) w.heap.size 49 2 (by rfl) 66 (dayC hs ts fc lo hi n wd gp t sh) (0, 0) _ (fun _ h => below_row h H0.out) Tryz.underlying64 rfl info_bn (dy_fits 51 (by decide) hs ts Hh.out Ht.out fc lo hi n wd gp t sh) (bnC lo hi) (dy_bn hs ts Hh.out Ht.out fc lo hi n wd gp t sh)) hHeld ?_
      simp only [List.setIfInBounds_toArray, List.set_cons_zero, List.set_cons_succ]
      refine take_op (i := 2) (d := 14) (v := ?_) rfl rfl (by kernel_rfl) (by kernel_rfl) (by kernel_rfl) (fun _ _ _ h => h) (Or.inl ⟨by rfl, ?hy2u40⟩) hHeld ?rest2u40
      case hy2u40 =>
        intro w' hS'
        go_simp
        try with_reducible rfl
      simp only [List.setIfInBounds_toArray, List.set_cons_zero, List.set_cons_succ]
      refine wpAnyH_ready (rs := [3]) (by kernel_rfl) (by simp) ?_
      refine AllReadyH.cons rfl (fun K hK => ?_) AllReadyH.nil
      go_simp
      refine (dyBright_is lo hi v false G1.out _).mono ?_
      rintro e W1 ⟨rfl, hb1⟩
      refine hK.out _ _ (hHeld.trans (hb1.mono hHeld.size)) (fun hHeld2 => ?_)
      clear hK K
      replace hHeld := hHeld2
      clear hHeld2
      clear hb1
      refine take_op (i := 4) (d := 16) (v := ?_) rfl rfl (by kernel_rfl) (by kernel_rfl) (by kernel_rfl) (fun _ _ _ h => h) (Or.inl ⟨by rfl, ?hy4u41⟩) hHeld ?rest4u41
      case hy4u41 =>
        intro w' hS'
        go_simp
        try with_reducible rfl
      simp only [List.setIfInBounds_toArray, List.set_cons_zero, List.set_cons_succ]
      refine take_op (i := 5) (d := 17) (v := ?_) rfl rfl (by kernel_rfl) (by kernel_rfl) (by kernel_rfl) (fun _ _ _ h => h) (Or.inl ⟨by rfl, ?hy5u42⟩) hHeld ?rest5u42
      case hy5u42 =>
        intro w' hS'
        go_simp
        try with_reducible rfl
      simp only [List.setIfInBounds_toArray, List.set_cons_zero, List.set_cons_succ]
      refine take_op (i := 6) (d := 18) (v := ?_) rfl rfl (by kernel_rfl) (by kernel_rfl) (by kernel_rfl) (fun _ _ _ h => h) (Or.inl ⟨by rfl, ?hy6u43⟩) hHeld ?rest6u43
      case hy6u43 =>
        intro w' hS'
        go_simp
        try with_reducible rfl
      simp only [List.setIfInBounds_toArray, List.set_cons_zero, List.set_cons_succ]
      refine take_op (i := 7) (d := 19) (v := .agg (bnC lo hi)) rfl rfl (by kernel_rfl) (by kernel_rfl) (by kernel_rfl) (fun _ _ _ h => h) (yields_row (by rfl) 64 (.tmp 18) (by rfl) w.heap.size 49 2 (by rfl) 66 (dayC hs ts fc lo hi n wd gp t sh) (0, 0) _ (fun _ h => below_row h H0.out) Tryz.underlying64 rfl info_bn (dy_fits 51 (by decide) hs ts Hh.out Ht.out fc lo hi n wd gp t sh) (bnC lo hi) (dy_bn hs ts Hh.out Ht.out fc lo hi n wd gp t sh)) hHeld ?_
      simp only [List.setIfInBounds_toArray, List.set_cons_zero, List.set_cons_succ]
      refine take_op (i := 8) (d := 20) (v := ?_) rfl rfl (by kernel_rfl) (by kernel_rfl) (by kernel_rfl) (fun _ _ _ h => h) (Or.inl ⟨by rfl, ?hy8u44⟩) hHeld ?rest8u44
      case hy8u44 =>
        intro w' hS'
        go_simp
        try with_reducible rfl
      simp only [List.setIfInBounds_toArray, List.set_cons_zero, List.set_cons_succ]
      refine wpAnyH_ready (rs := [9]) (by kernel_rfl) (by simp) ?_
      refine AllReadyH.cons rfl (fun K hK => ?_) AllReadyH.nil
      go_simp
      refine (dyDark_is lo hi v true G2.out _).mono ?_
      rintro e W1 ⟨rfl, hb1⟩
      refine hK.out _ _ (hHeld.trans (hb1.mono hHeld.size)) (fun hHeld2 => ?_)
      clear hK K
      replace hHeld := hHeld2
      clear hHeld2
      clear hb1
      refine take_op (i := 10) (d := 22) (v := ?_) rfl rfl (by kernel_rfl) (by kernel_rfl) (by kernel_rfl) (fun _ _ _ h => h) (Or.inl ⟨by rfl, ?hy10u45⟩) hHeld ?rest10u45
      case hy10u45 =>
        intro w' hS'
        go_simp
        try with_reducible rfl
      simp only [List.setIfInBounds_toArray, List.set_cons_zero, List.set_cons_succ]
      refine take_op (i := 11) (d := 23) (v := ?_) rfl rfl (by kernel_rfl) (by kernel_rfl) (by kernel_rfl) (fun _ _ _ h => h) (Or.inl ⟨by rfl, ?hy11u46⟩) hHeld ?rest11u46
      case hy11u46 =>
        intro w' hS'
        go_simp
        try with_reducible rfl
      simp only [List.setIfInBounds_toArray, List.set_cons_zero, List.set_cons_succ]
      refine take_op (i := 12) (d := 24) (v := ?_) rfl rfl (by kernel_rfl) (by kernel_rfl) (by kernel_rfl) (fun _ _ _ h => h) (Or.inl ⟨by rfl, ?hy12u47⟩) hHeld ?rest12u47
      case hy12u47 =>
        intro w' hS'
        go_simp
        try with_reducible rfl
      simp only [List.setIfInBounds_toArray, List.set_cons_zero, List.set_cons_succ]
      refine take_op (i := 13) (d := 25) (v := .agg (bnC lo hi)) rfl rfl (by kernel_rfl) (by kernel_rfl) (by kernel_rfl) (fun _ _ _ h => h) (yields_row (by rfl) 64 (.tmp 24) (by rfl) w.heap.size 49 2 (by rfl) 66 (dayC hs ts fc lo hi n wd gp t sh) (0, 0) _ (fun _ h => below_row h H0.out) Tryz.underlying64 rfl info_bn (dy_fits 51 (by decide) hs ts Hh.out Ht.out fc lo hi n wd gp t sh) (bnC lo hi) (dy_bn hs ts Hh.out Ht.out fc lo hi n wd gp t sh)) hHeld ?_
      simp only [List.setIfInBounds_toArray, List.set_cons_zero, List.set_cons_succ]
      refine take_op (i := 14) (d := 26) (v := ?_) rfl rfl (by kernel_rfl) (by kernel_rfl) (by kernel_rfl) (fun _ _ _ h => h) (Or.inl ⟨by rfl, ?hy14u48⟩) hHeld ?rest14u48
      case hy14u48 =>
        intro w' hS'
        go_simp
        try with_reducible rfl
      simp only [List.setIfInBounds_toArray, List.set_cons_zero, List.set_cons_succ]
      refine take_op (i := 15) (d := 27) (v := .agg (fsC hs ts fc)) rfl rfl (by kernel_rfl) (by kernel_rfl) (by kernel_rfl) (fun _ _ _ h => h) (yields_row (by rfl) 62 (.tmp 26) (by rfl) w.heap.size 0 49 (by rfl) 66 (dayC hs ts fc lo hi n wd gp t sh) (0, 0) _ (fun _ h => below_row h H0.out) Tryz.underlying62 rfl info_fs (dy_fits 49 (by decide) hs ts Hh.out Ht.out fc lo hi n wd gp t sh) (fsC hs ts fc) (dy_fs hs ts Hh.out Ht.out fc lo hi n wd gp t sh)) hHeld ?_
      simp only [List.setIfInBounds_toArray, List.set_cons_zero, List.set_cons_succ]
      refine take_op (i := 16) (d := 28) (v := ?_) rfl rfl (by kernel_rfl) (by kernel_rfl) (by kernel_rfl) (fun _ _ _ h => h) (Or.inl ⟨by rfl, ?hy16u49⟩) hHeld ?rest16u49
      case hy16u49 =>
        intro w' hS'
        go_simp
        try with_reducible rfl
      simp only [List.setIfInBounds_toArray, List.set_cons_zero, List.set_cons_succ]
      refine wpAnyH_ready (rs := [17]) (by kernel_rfl) (by simp) ?_
      refine AllReadyH.cons rfl (fun K hK => ?_) AllReadyH.nil
      go_simp
      refine (HF.out _).mono ?_
      rintro e W1 ⟨rfl, hb1⟩
      refine hK.out _ _ (hHeld.trans (hb1.mono hHeld.size)) (fun hHeld2 => ?_)
      clear hK K
      replace hHeld := hHeld2
      clear hHeld2
      clear hb1
      refine wpAnyH_ready (rs := [18]) (by kernel_rfl) (by simp) ?_
      refine AllReadyH.cons rfl (fun K hK => ?_) AllReadyH.nil
      go_simp
      refine (dyDark_is lo hi f g G3.out _).mono ?_
      rintro e W1 ⟨rfl, hb1⟩
      refine hK.out _ _ (hHeld.trans (hb1.mono hHeld.size)) (fun hHeld2 => ?_)
      clear hK K
      replace hHeld := hHeld2
      clear hHeld2
      clear hb1
      refine take_op (i := 19) (d := 31) (v := ?_) rfl rfl (by kernel_rfl) (by kernel_rfl) (by kernel_rfl) (fun _ _ _ h => h) (Or.inl ⟨by rfl, ?hy19u50⟩) hHeld ?rest19u50
      case hy19u50 =>
        intro w' hS'
        go_simp
        try with_reducible rfl
      simp only [List.setIfInBounds_toArray, List.set_cons_zero, List.set_cons_succ]
      refine take_op (i := 20) (d := 32) (v := ?_) rfl rfl (by kernel_rfl) (by kernel_rfl) (by kernel_rfl) (fun _ _ _ h => h) (Or.inl ⟨by rfl, ?hy20u51⟩) hHeld ?rest20u51
      case hy20u51 =>
        intro w' hS'
        go_simp
        try with_reducible rfl
      simp only [List.setIfInBounds_toArray, List.set_cons_zero, List.set_cons_succ]
      refine take_op (i := 21) (d := 6) (v := ?_) rfl rfl (by kernel_rfl) (by kernel_rfl) (by kernel_rfl) (fun _ _ _ h => h) (Or.inl ⟨by rfl, ?hy21u52⟩) hHeld ?rest21u52
      case hy21u52 =>
        intro w' hS'
        go_simp
        try with_reducible rfl
      simp only [List.setIfInBounds_toArray, List.set_cons_zero, List.set_cons_succ]
      refine wpAnyH_done (by kernel_rfl) ?_ _
      replace hb := hb.trans (hHeld.mono hb.size)
      clear hHeld H0 HL HF
      go_wp2
      go_ret
      exact ⟨rfl, hb⟩
  · have G1 := Lib.hid g1
    clear g1
    go_enter Tryz.func60, Tryz.ntmps60
    go_upto_region 1 with (fail)
    refine abs_code (fun W => W.heap[w.heap.size]? = some (.cells (dayC hs ts fc lo hi n wd gp t sh) 66 (0, 0)) ∧ Below w.heap.size w W) ⟨heap_alloc_new _ _, (Below.refl _ _).alloc (Nat.le_refl _) _⟩ ?_
    rintro W0 ⟨h0, hb⟩
    have H0 := Lib.hid h0
    clear h0
    go_upto_region 2 with (first | (refine wpList_load_part rfl 66 _ rfl w.heap.size 0 56 rfl 66 (dayC hs ts fc lo hi n wd gp t sh) (0, 0) _ H0.out Tryz.underlying66 rfl info_dy (dy_fits 56 (by decide) hs ts Hh.out Ht.out fc lo hi n wd gp t sh) (dayC hs ts fc lo hi n wd gp t sh) (dy_all hs ts Hh.out Ht.out fc lo hi n wd gp t sh) ?_) | (go_at_call 46; refine (HL.out _).mono ?_; rintro e W ⟨rfl, hb1⟩; replace H0 := Lib.hid (below_row hb1 H0.out); replace hb := hb.trans (hb1.mono hb.size); clear hb1))
    refine wp_region_held_drew (S := (fun V => Below W.heap.size W V)) (by kernel_rfl) (Below.refl _ _).drew (fun hHeld => ?_)
    refine take_op (i := 0) (d := 12) (v := ?_) rfl rfl (by kernel_rfl) (by kernel_rfl) (by kernel_rfl) (fun _ _ _ h => h) (Or.inl ⟨by rfl, ?hy0u53⟩) hHeld ?rest0u53
    case hy0u53 =>
      intro w' hS'
      go_simp
      try with_reducible rfl
    simp only [List.setIfInBounds_toArray, List.set_cons_zero, List.set_cons_succ]
    refine take_op (i := 1) (d := 13) (v := .agg (bnC lo hi)) rfl rfl (by kernel_rfl) (by kernel_rfl) (by kernel_rfl) (fun _ _ _ h => h) (yields_row (by rfl) 64 (.tmp 12) (by rfl) w.heap.size 49 2 (by rfl) 66 (dayC hs ts fc lo hi n wd gp t sh) (0, 0) _ (fun _ h => below_row h H0.out) Tryz.underlying64 rfl info_bn (dy_fits 51 (by decide) hs ts Hh.out Ht.out fc lo hi n wd gp t sh) (bnC lo hi) (dy_bn hs ts Hh.out Ht.out fc lo hi n wd gp t sh)) hHeld ?_
    simp only [List.setIfInBounds_toArray, List.set_cons_zero, List.set_cons_succ]
    refine take_op (i := 2) (d := 14) (v := ?_) rfl rfl (by kernel_rfl) (by kernel_rfl) (by kernel_rfl) (fun _ _ _ h => h) (Or.inl ⟨by rfl, ?hy2u54⟩) hHeld ?rest2u54
    case hy2u54 =>
      intro w' hS'
      go_simp
      try with_reducible rfl
    simp only [List.setIfInBounds_toArray, List.set_cons_zero, List.set_cons_succ]
    refine wpAnyH_ready (rs := [3]) (by kernel_rfl) (by simp) ?_
    refine AllReadyH.cons rfl (fun K hK => ?_) AllReadyH.nil
    go_simp
    refine (dyBright_is lo hi v true G1.out _).mono ?_
    rintro e W1 ⟨rfl, hb1⟩
    refine hK.out _ _ (hHeld.trans (hb1.mono hHeld.size)) (fun hHeld2 => ?_)
    clear hK K
    replace hHeld := hHeld2
    clear hHeld2
    clear hb1
    refine take_op (i := 4) (d := 16) (v := ?_) rfl rfl (by kernel_rfl) (by kernel_rfl) (by kernel_rfl) (fun _ _ _ h => h) (Or.inl ⟨by rfl, ?hy4u55⟩) hHeld ?rest4u55
    case hy4u55 =>
      intro w' hS'
      go_simp
      try with_reducible rfl
    simp only [List.setIfInBounds_toArray, List.set_cons_zero, List.set_cons_succ]
    refine take_op (i := 5) (d := 17) (v := ?_) rfl rfl (by kernel_rfl) (by kernel_rfl) (by kernel_rfl) (fun _ _ _ h => h) (Or.inl ⟨by rfl, ?hy5u56⟩) hHeld ?rest5u56
    case hy5u56 =>
      intro w' hS'
      go_simp
      try with_reducible rfl
    simp only [List.setIfInBounds_toArray, List.set_cons_zero, List.set_cons_succ]
    refine take_op (i := 6) (d := 18) rfl rfl (by kernel_rfl) (by kernel_rfl) (by kernel_rfl) (fun _ _ _ h => h) (Or.inr ⟨by rfl, rfl⟩) hHeld ?_
    simp only [List.setIfInBounds_toArray, List.set_cons_zero, List.set_cons_succ]
    refine take_op (i := 7) (d := 19) rfl rfl (by kernel_rfl) (by kernel_rfl) (by kernel_rfl) (fun _ _ _ h => h) (Or.inr ⟨by rfl, rfl⟩) hHeld ?_
    simp only [List.setIfInBounds_toArray, List.set_cons_zero, List.set_cons_succ]
    refine take_op (i := 8) (d := 20) rfl rfl (by kernel_rfl) (by kernel_rfl) (by kernel_rfl) (fun _ _ _ h => h) (Or.inr ⟨by rfl, rfl⟩) hHeld ?_
    simp only [List.setIfInBounds_toArray, List.set_cons_zero, List.set_cons_succ]
    refine take_op (i := 9) (d := 21) rfl rfl (by kernel_rfl) (by kernel_rfl) (by kernel_rfl) (fun _ _ _ h => h) (Or.inr ⟨by rfl, rfl⟩) hHeld ?_
    simp only [List.setIfInBounds_toArray, List.set_cons_zero, List.set_cons_succ]
    refine take_op (i := 10) (d := 22) rfl rfl (by kernel_rfl) (by kernel_rfl) (by kernel_rfl) (fun _ _ _ h => h) (Or.inr ⟨by rfl, rfl⟩) hHeld ?_
    simp only [List.setIfInBounds_toArray, List.set_cons_zero, List.set_cons_succ]
    refine take_op (i := 11) (d := 23) rfl rfl (by kernel_rfl) (by kernel_rfl) (by kernel_rfl) (fun _ _ _ h => h) (Or.inr ⟨by rfl, rfl⟩) hHeld ?_
    simp only [List.setIfInBounds_toArray, List.set_cons_zero, List.set_cons_succ]
    refine take_op (i := 12) (d := 24) rfl rfl (by kernel_rfl) (by kernel_rfl) (by kernel_rfl) (fun _ _ _ h => h) (Or.inr ⟨by rfl, rfl⟩) hHeld ?_
    simp only [List.setIfInBounds_toArray, List.set_cons_zero, List.set_cons_succ]
    refine take_op (i := 13) (d := 25) rfl rfl (by kernel_rfl) (by kernel_rfl) (by kernel_rfl) (fun _ _ _ h => h) (Or.inr ⟨by rfl, rfl⟩) hHeld ?_
    simp only [List.setIfInBounds_toArray, List.set_cons_zero, List.set_cons_succ]
    refine take_op (i := 14) (d := 26) rfl rfl (by kernel_rfl) (by kernel_rfl) (by kernel_rfl) (fun _ _ _ h => h) (Or.inr ⟨by rfl, rfl⟩) hHeld ?_
    simp only [List.setIfInBounds_toArray, List.set_cons_zero, List.set_cons_succ]
    refine take_op (i := 15) (d := 27) rfl rfl (by kernel_rfl) (by kernel_rfl) (by kernel_rfl) (fun _ _ _ h => h) (Or.inr ⟨by rfl, rfl⟩) hHeld ?_
    simp only [List.setIfInBounds_toArray, List.set_cons_zero, List.set_cons_succ]
    refine take_op (i := 16) (d := 28) rfl rfl (by kernel_rfl) (by kernel_rfl) (by kernel_rfl) (fun _ _ _ h => h) (Or.inr ⟨by rfl, rfl⟩) hHeld ?_
    simp only [List.setIfInBounds_toArray, List.set_cons_zero, List.set_cons_succ]
    refine take_op (i := 17) (d := 29) rfl rfl (by kernel_rfl) (by kernel_rfl) (by kernel_rfl) (fun _ _ _ h => h) (Or.inr ⟨by rfl, rfl⟩) hHeld ?_
    simp only [List.setIfInBounds_toArray, List.set_cons_zero, List.set_cons_succ]
    refine take_op (i := 18) (d := 30) rfl rfl (by kernel_rfl) (by kernel_rfl) (by kernel_rfl) (fun _ _ _ h => h) (Or.inr ⟨by rfl, rfl⟩) hHeld ?_
    simp only [List.setIfInBounds_toArray, List.set_cons_zero, List.set_cons_succ]
    refine take_op (i := 19) (d := 31) rfl rfl (by kernel_rfl) (by kernel_rfl) (by kernel_rfl) (fun _ _ _ h => h) (Or.inr ⟨by rfl, rfl⟩) hHeld ?_
    simp only [List.setIfInBounds_toArray, List.set_cons_zero, List.set_cons_succ]
    refine take_op (i := 20) (d := 32) (v := ?_) rfl rfl (by kernel_rfl) (by kernel_rfl) (by kernel_rfl) (fun _ _ _ h => h) (Or.inl ⟨by rfl, ?hy20u57⟩) hHeld ?rest20u57
    case hy20u57 =>
      intro w' hS'
      go_simp
      try with_reducible rfl
    simp only [List.setIfInBounds_toArray, List.set_cons_zero, List.set_cons_succ]
    refine take_op (i := 21) (d := 6) (v := ?_) rfl rfl (by kernel_rfl) (by kernel_rfl) (by kernel_rfl) (fun _ _ _ h => h) (Or.inl ⟨by rfl, ?hy21u58⟩) hHeld ?rest21u58
    case hy21u58 =>
      intro w' hS'
      go_simp
      try with_reducible rfl
    simp only [List.setIfInBounds_toArray, List.set_cons_zero, List.set_cons_succ]
    refine wpAnyH_done (by kernel_rfl) ?_ _
    replace hb := hb.trans (hHeld.mono hb.size)
    clear hHeld H0 HL HF
    go_wp2
    go_ret
    exact ⟨rfl, hb⟩

end Go.Proofs.YtmniodfdoidffaaGreatDoor
