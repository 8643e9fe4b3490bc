/-
  Bfn, Bhd, Tilted.
-/
import Derived.Test.YtmbgmpeiicjlaaaGreatDoorMt3
import Derived.Test.YtmbgmpeiicjlaaaGreatDoorMt1

namespace Go.Proofs.YtmbgmpeiicjlaaaGreatDoor

open Go.ChangeShapes Go.WideShapes Go.ChangeAt Go.RowKit Go.Deep Go.Joins

attribute [local go_sem] run_store_f

def codeC (ok fine : Bool) : Int := if !ok then 1 else if !fine then 2 else 0

set_option maxRecDepth 100000 in
set_option maxHeartbeats 1000000 in
theorem checkBlind_is (n : Int) (wd gp : Nat) (t : Int) (sh : Nat) (t0 : -32768 ≤ t) (t1 : t ≤ 32767) (fine : Bool) (c : Int) (hc : codeC (okBl n wd gp t sh) fine = c) (w : World) :
    Calls Tryz.prog 30 #[.agg (blindC n wd gp t sh), .bool fine] w fun e w' => e = .returned (.int .i64 c) ∧ Below w.heap.size w w' := by
  subst hc
  have HV := Lib.hid (fun w => ValidBlind_any n wd gp t sh t0 t1 w)
  clear t0 t1
  generalize okBl n wd gp t sh = ok at *
  cases ok <;> cases fine
  all_goals
    go_enter Tryz.func30, Tryz.ntmps30
    go_upto_region 1 with (fail)
    refine abs_world (fun W => Below w.heap.size w W ∧ W.heap[w.heap.size]? = some (.cells (blindC n wd gp t sh) 28 (0, 0))) ⟨(Below.refl _ _).alloc (Nat.le_refl _) _, heap_alloc_new _ _⟩ ?_
    rintro W ⟨hb, h0⟩
    have H0 := Lib.hid h0
    clear h0
    go_wp2_with (first | (refine wpList_load_part rfl 28 _ rfl w.heap.size 0 5 rfl 28 (blindC n wd gp t sh) (0, 0) _ H0.out Tryz.underlying28 rfl info_blind (blind_fits _ _ _ _ _) _ (blind_all _ _ _ _ _) ?_) | (go_at_call 61; refine (HV.out _).mono ?_; rintro e W1 ⟨rfl, hb1⟩; replace H0 := Lib.hid (below_row hb1 H0.out); replace hb := hb.trans (hb1.mono hb.size); clear hb1))
    go_ret
    exact ⟨rfl, hb⟩

set_option maxRecDepth 100000 in
set_option maxHeartbeats 1000000 in
theorem l02Asked_is (n : Int) (wd gp : Nat) (t : Int) (sh : Nat) (t0 : -32768 ≤ t) (t1 : t ≤ 32767) (n0 : -128 ≤ n) (n1 : n ≤ 127) (g : Nat) (T : TypeId) (fr : Nat × Nat) (fine : Bool) (c : Int) (hc : codeC (okBl n wd gp t sh) fine = c) (w : World) (hg : w.heap[g]? = some (.cells (blindC n wd gp t sh) T fr)) :
    Calls Tryz.prog 40 #[.pointer (some ⟨g, 0, none⟩), .bool fine] w fun e w' => e = .returned (.int .i64 c) ∧ w = w' := by
  subst hc
  have HV := Lib.hid (l02Ok_any n wd gp t sh t0 t1 n0 n1 g T fr w hg)
  clear t0 t1 n0 n1 hg
  generalize okBl n wd gp t sh = ok at *
  cases ok <;> cases fine
  all_goals
    go_enter Tryz.func40, Tryz.ntmps40
    go_wp2_with (go_at_call 34; refine (HV.out).mono ?_; rintro e w' ⟨rfl, rfl⟩)
    go_ret
    exact ⟨rfl, rfl⟩

/-- The bounds of a blind that is valid. -/
def BlOk (n : Int) (wd gp : Nat) (t : Int) (sh : Nat) : Prop := 1 ≤ n ∧ n ≤ 60 ∧ 1031798784 ≤ wd ∧ wd ≤ 1115684864 ∧ 1031798784 ≤ gp ∧ gp ≤ 1115684864 ∧ -64 ≤ t ∧ t ≤ 64 ∧ (sh ≤ 1065353216 ∨ sh = 2147483648)

theorem blok_of {n : Int} {wd gp : Nat} {t : Int} {sh : Nat} (bw : BlWf n wd gp t sh) (h : okBl n wd gp t sh = true) : BlOk n wd gp t sh := by
  simp only [okBl, Bool.and_eq_true] at h
  obtain ⟨⟨⟨⟨h1, h2⟩, h3⟩, h4⟩, h5⟩ := h
  obtain ⟨a1, a2⟩ := inI_get h1
  obtain ⟨b1, b2⟩ := len_get bw.2.1 h2
  obtain ⟨c1, c2⟩ := len_get bw.2.2.1 h3
  obtain ⟨d1, d2⟩ := inI_get h4
  exact ⟨a1, a2, b1, b2, c1, c2, d1, d2, part_get bw.2.2.2.2 h5⟩

set_option maxRecDepth 100000 in
set_option maxHeartbeats 1000000 in
theorem openAt_any (n : Int) (wd gp : Nat) (t : Int) (sh : Nat) (ok : BlOk n wd gp t sh) (h : Int) (h0 : 1 ≤ h) (h1 : h ≤ 64) (w : World) :
    Calls Tryz.prog 62 #[.agg (blindC n wd gp t sh), .int .i64 h] w fun e w' => e = .returned (.float .f32 (opnB wd gp t h)) ∧ Below w.heap.size w w' := by
  obtain ⟨_, _, w0, w1, g0, g1, t0, t1, _⟩ := ok
  have HB := Lib.hid (fun w => blockedAt_any n wd gp t sh w0 w1 g0 g1 t0 t1 h h0 h1 w)
  have f1 := (opn_facts wd gp t h).1
  have r1 : ∀ T w, (binOp .sub T (.float .f32 1065353216) (.float .f32 (blkB wd gp t h))).run Tryz.prog w = .ok (.float .f32 (opnB wd gp t h)) w := fun T w => run_float_arith w .sub T .f32 _ _ _ f1
  clear f1 w0 w1 g0 g1 t0 t1 h0 h1
  go_enter Tryz.func62, Tryz.ntmps62
  go_upto_region 1 with (fail)
  refine abs_world (fun W => Below w.heap.size w W ∧ W.heap[w.heap.size]? = some (.cells (blindC n wd gp t sh) 28 (0, 0))) ⟨(Below.refl _ _).alloc (Nat.le_refl _) _, heap_alloc_new _ _⟩ ?_
  rintro W ⟨hb, h0⟩
  have H0 := Lib.hid h0
  clear h0
  go_wp2_with (first | (refine wpList_load_part rfl 28 _ rfl w.heap.size 0 5 rfl 28 (blindC n wd gp t sh) (0, 0) _ H0.out Tryz.underlying28 rfl info_blind (blind_fits _ _ _ _ _) _ (blind_all _ _ _ _ _) ?_) | (go_at_call 82; refine (HB.out _).mono ?_; rintro e W1 ⟨rfl, hb1⟩; replace H0 := Lib.hid (below_row hb1 H0.out); replace hb := hb.trans (hb1.mono hb.size); clear hb1))
  go_ret
  exact ⟨rfl, hb⟩

/-! ### The model's -/

set_option maxRecDepth 100000 in
set_option maxHeartbeats 1000000 in
theorem l02Blocked_any (n : Int) (wd gp : Nat) (t : Int) (sh : Nat) (ok : BlOk n wd gp t sh) (h : Int) (h0 : 1 ≤ h) (h1 : h ≤ 64) (g : Nat) (T : TypeId) (fr : Nat × Nat) (w : World) (hg : w.heap[g]? = some (.cells (blindC n wd gp t sh) T fr)) :
    Calls Tryz.prog 66 #[.pointer (some ⟨g, 0, none⟩), .int .i64 h] w fun e w' => e = .returned (.float .f32 (blkB wd gp t h)) ∧ Below w.heap.size w w' := by
  obtain ⟨_, _, w0, w1, g0, g1, t0, t1, _⟩ := ok
  obtain ⟨k0, k1, k2, k3, k4⟩ := blind_cells hg
  have HG := Lib.hid hg
  clear hg
  have HN := Lib.hid (sine_isNum (h + t))
  by_cases hh : h < 64
  · obtain ⟨f1, f2, f3, f4, _, _⟩ := blk_facts (t := t) w0 w1 g0 g1 h0 hh
    have hc := cos_gt h h0 hh
    have hB : blkB wd gp t h = min1 (quoB wd gp t h) := if_neg (by omega)
    rw [hB]
    clear hB w0 w1 g0 g1
    have ho := order_pos f4 (y := 1065353216) (by decide)
    have r1 : ∀ T w, (binOp .mul T (.float .f32 wd) (.float .f32 (sizeB (sineB (angB (h + t)))))).run Tryz.prog w = .ok (.float .f32 (fmul wd (sizeB (sineB (angB (h + t)))))) w := fun T w => run_float_arith w .mul T .f32 _ _ _ f1
    have r2 : ∀ T w, (binOp .mul T (.float .f32 gp) (.float .f32 (cosB h))).run Tryz.prog w = .ok (.float .f32 (fmul gp (cosB h))) w := fun T w => run_float_arith w .mul T .f32 _ _ _ f2
    have r3 : ∀ T w, (binOp .quo T (.float .f32 (fmul wd (sizeB (sineB (angB (h + t)))))) (.float .f32 (fmul gp (cosB h)))).run Tryz.prog w = .ok (.float .f32 (quoB wd gp t h)) w := fun T w => run_float_arith w .quo T .f32 _ _ _ f3
    clear f1 f2 f3 f4
    generalize fmul wd (sizeB (sineB (angB (h + t)))) = x1 at *
    generalize fmul gp (cosB h) = x2 at *
    generalize quoB wd gp t h = q at *
    by_cases c : 1065353216 < q
    · rw [Nat.compare_eq_gt.2 c] at ho
      have e : min1 q = 1065353216 := if_pos c
      rw [e]
      clear e c
      go_enter Tryz.func66, Tryz.ntmps66
      go_wp2_with (first | (go_at_call 88; refine (l01Cosine_any _ _).mono ?_; rintro e w' ⟨rfl, rfl⟩) | (go_at_call 87; refine (l01Sine_any _ _).mono ?_; rintro e w' ⟨rfl, rfl⟩) | (go_at_call 86; refine (l01Size_any _ HN.out _).mono ?_; rintro e w' ⟨rfl, rfl⟩))
      refine wp_region_held_drew (S := (fun W => W.heap[g]? = some (.cells (blindC n wd gp t sh) T fr) ∧ Below w.heap.size w W)) (by kernel_rfl) ⟨HG.out, (Below.refl _ _).drew⟩ (fun hHeld => ?_)
      refine take_op (i := 0) (d := 21) (v := ?_) rfl rfl (by kernel_rfl) (by kernel_rfl) (by kernel_rfl) (fun _ _ _ h => h) (Or.inl ⟨by rfl, ?hy0u1⟩) hHeld ?rest0u1
      case hy0u1 =>
        intro w' hS'
        obtain ⟨s1, _⟩ := hS'
        obtain ⟨k0, k1, k2, k3, k4⟩ := blind_cells s1
        clear s1
        go_simp
        try with_reducible rfl
      simp only [List.setIfInBounds_toArray, List.set_cons_zero, List.set_cons_succ]
      refine take_op (i := 1) (d := 22) (v := ?_) rfl rfl (by kernel_rfl) (by kernel_rfl) (by kernel_rfl) (fun _ _ _ h => h) (Or.inl ⟨by rfl, ?hy1u2⟩) hHeld ?rest1u2
      case hy1u2 =>
        intro w' hS'
        obtain ⟨s1, _⟩ := hS'
        obtain ⟨k0, k1, k2, k3, k4⟩ := blind_cells s1
        clear s1
        go_simp
        try with_reducible rfl
      simp only [List.setIfInBounds_toArray, List.set_cons_zero, List.set_cons_succ]
      refine take_op (i := 2) (d := 23) (v := ?_) rfl rfl (by kernel_rfl) (by kernel_rfl) (by kernel_rfl) (fun _ _ _ h => h) (Or.inl ⟨by rfl, ?hy2u3⟩) hHeld ?rest2u3
      case hy2u3 =>
        intro w' hS'
        obtain ⟨s1, _⟩ := hS'
        obtain ⟨k0, k1, k2, k3, k4⟩ := blind_cells s1
        clear s1
        go_simp
        try with_reducible rfl
      simp only [List.setIfInBounds_toArray, List.set_cons_zero, List.set_cons_succ]
      refine take_op (i := 3) (d := 24) (v := ?_) rfl rfl (by kernel_rfl) (by kernel_rfl) (by kernel_rfl) (fun _ _ _ h => h) (Or.inl ⟨by rfl, ?hy3u4⟩) hHeld ?rest3u4
      case hy3u4 =>
        intro w' hS'
        obtain ⟨s1, _⟩ := hS'
        obtain ⟨k0, k1, k2, k3, k4⟩ := blind_cells s1
        clear s1
        go_simp
        try with_reducible rfl
      simp only [List.setIfInBounds_toArray, List.set_cons_zero, List.set_cons_succ]
      refine take_op (i := 4) (d := 25) (v := ?_) rfl rfl (by kernel_rfl) (by kernel_rfl) (by kernel_rfl) (fun _ _ _ h => h) (Or.inl ⟨by rfl, ?hy4u5⟩) hHeld ?rest4u5
      case hy4u5 =>
        intro w' hS'
        obtain ⟨s1, _⟩ := hS'
        obtain ⟨k0, k1, k2, k3, k4⟩ := blind_cells s1
        clear s1
        go_simp
        try with_reducible rfl
      simp only [List.setIfInBounds_toArray, List.set_cons_zero, List.set_cons_succ]
      refine take_op (i := 5) (d := 26) (v := ?_) rfl rfl (by kernel_rfl) (by kernel_rfl) (by kernel_rfl) (fun _ _ _ h => h) (Or.inl ⟨by rfl, ?hy5u6⟩) hHeld ?rest5u6
      case hy5u6 =>
        intro w' hS'
        obtain ⟨s1, _⟩ := hS'
        obtain ⟨k0, k1, k2, k3, k4⟩ := blind_cells s1
        clear s1
        go_simp
        try with_reducible rfl
      simp only [List.setIfInBounds_toArray, List.set_cons_zero, List.set_cons_succ]
      refine take_op (i := 6) (d := 27) (v := ?_) rfl rfl (by kernel_rfl) (by kernel_rfl) (by kernel_rfl) (fun _ _ _ h => h) (Or.inl ⟨by rfl, ?hy6u7⟩) hHeld ?rest6u7
      case hy6u7 =>
        intro w' hS'
        obtain ⟨s1, _⟩ := hS'
        obtain ⟨k0, k1, k2, k3, k4⟩ := blind_cells s1
        clear s1
        go_simp
        try with_reducible rfl
      simp only [List.setIfInBounds_toArray, List.set_cons_zero, List.set_cons_succ]
      refine take_op (i := 7) (d := 28) (v := ?_) rfl rfl (by kernel_rfl) (by kernel_rfl) (by kernel_rfl) (fun _ _ _ h => h) (Or.inl ⟨by rfl, ?hy7u8⟩) hHeld ?rest7u8
      case hy7u8 =>
        intro w' hS'
        obtain ⟨s1, _⟩ := hS'
        obtain ⟨k0, k1, k2, k3, k4⟩ := blind_cells s1
        clear s1
        go_simp
        try with_reducible rfl
      simp only [List.setIfInBounds_toArray, List.set_cons_zero, List.set_cons_succ]
      refine take_op (i := 8) (d := 29) (v := ?_) rfl rfl (by kernel_rfl) (by kernel_rfl) (by kernel_rfl) (fun _ _ _ h => h) (Or.inl ⟨by rfl, ?hy8u9⟩) hHeld ?rest8u9
      case hy8u9 =>
        intro w' hS'
        obtain ⟨s1, _⟩ := hS'
        obtain ⟨k0, k1, k2, k3, k4⟩ := blind_cells s1
        clear s1
        go_simp
        try with_reducible rfl
      simp only [List.setIfInBounds_toArray, List.set_cons_zero, List.set_cons_succ]
      refine take_op (i := 9) (d := 30) (v := ?_) rfl rfl (by kernel_rfl) (by kernel_rfl) (by kernel_rfl) (fun _ _ _ h => h) (Or.inl ⟨by rfl, ?hy9u10⟩) hHeld ?rest9u10
      case hy9u10 =>
        intro w' hS'
        obtain ⟨s1, _⟩ := hS'
        obtain ⟨k0, k1, k2, k3, k4⟩ := blind_cells s1
        clear s1
        go_simp
        try with_reducible rfl
      simp only [List.setIfInBounds_toArray, List.set_cons_zero, List.set_cons_succ]
      refine take_op (i := 10) (d := 31) (v := ?_) rfl rfl (by kernel_rfl) (by kernel_rfl) (by kernel_rfl) (fun _ _ _ h => h) (Or.inl ⟨by rfl, ?hy10u11⟩) hHeld ?rest10u11
      case hy10u11 =>
        intro w' hS'
        obtain ⟨s1, _⟩ := hS'
        obtain ⟨k0, k1, k2, k3, k4⟩ := blind_cells s1
        clear s1
        go_simp
        try with_reducible rfl
      simp only [List.setIfInBounds_toArray, List.set_cons_zero, List.set_cons_succ]
      refine take_op (i := 11) (d := 32) (v := ?_) rfl rfl (by kernel_rfl) (by kernel_rfl) (by kernel_rfl) (fun _ _ _ h => h) (Or.inl ⟨by rfl, ?hy11u12⟩) hHeld ?rest11u12
      case hy11u12 =>
        intro w' hS'
        obtain ⟨s1, _⟩ := hS'
        obtain ⟨k0, k1, k2, k3, k4⟩ := blind_cells s1
        clear s1
        go_simp
        try with_reducible rfl
      simp only [List.setIfInBounds_toArray, List.set_cons_zero, List.set_cons_succ]
      refine take_op (i := 12) (d := 33) (v := ?_) rfl rfl (by kernel_rfl) (by kernel_rfl) (by kernel_rfl) (fun _ _ _ h => h) (Or.inl ⟨by rfl, ?hy12u13⟩) hHeld ?rest12u13
      case hy12u13 =>
        intro w' hS'
        obtain ⟨s1, _⟩ := hS'
        obtain ⟨k0, k1, k2, k3, k4⟩ := blind_cells s1
        clear s1
        go_simp
        try with_reducible rfl
      simp only [List.setIfInBounds_toArray, List.set_cons_zero, List.set_cons_succ]
      refine take_op (i := 13) (d := 7) (v := ?_) rfl rfl (by kernel_rfl) (by kernel_rfl) (by kernel_rfl) (fun _ _ _ h => h) (Or.inl ⟨by rfl, ?hy13u14⟩) hHeld ?rest13u14
      case hy13u14 =>
        intro w' hS'
        obtain ⟨s1, _⟩ := hS'
        obtain ⟨k0, k1, k2, k3, k4⟩ := blind_cells s1
        clear s1
        go_simp
        try with_reducible rfl
      simp only [List.setIfInBounds_toArray, List.set_cons_zero, List.set_cons_succ]
      refine wpAnyH_done (by kernel_rfl) ?_ _
      go_wp2
      go_ret
      exact ⟨rfl, hHeld.2⟩
    · have e : min1 q = q := if_neg c
      rw [e]
      have ho2 : FloatKind.f32.format.order q 1065353216 = some .lt ∨ FloatKind.f32.format.order q 1065353216 = some .eq := by
        rw [ho]
        rcases Nat.lt_or_eq_of_le (Nat.le_of_not_lt c) with c | c
        · rw [Nat.compare_eq_lt.2 c]; exact .inl rfl
        · rw [Nat.compare_eq_eq.2 c]; exact .inr rfl
      clear e c ho
      rcases ho2 with ho | ho
      · skip
        go_enter Tryz.func66, Tryz.ntmps66
        go_wp2_with (first | (go_at_call 88; refine (l01Cosine_any _ _).mono ?_; rintro e w' ⟨rfl, rfl⟩) | (go_at_call 87; refine (l01Sine_any _ _).mono ?_; rintro e w' ⟨rfl, rfl⟩) | (go_at_call 86; refine (l01Size_any _ HN.out _).mono ?_; rintro e w' ⟨rfl, rfl⟩))
        refine wp_region_held_drew (S := (fun W => W.heap[g]? = some (.cells (blindC n wd gp t sh) T fr) ∧ Below w.heap.size w W)) (by kernel_rfl) ⟨HG.out, (Below.refl _ _).drew⟩ (fun hHeld => ?_)
        refine take_op (i := 0) (d := 21) (v := ?_) rfl rfl (by kernel_rfl) (by kernel_rfl) (by kernel_rfl) (fun _ _ _ h => h) (Or.inl ⟨by rfl, ?hy0u15⟩) hHeld ?rest0u15
        case hy0u15 =>
          intro w' hS'
          obtain ⟨s1, _⟩ := hS'
          obtain ⟨k0, k1, k2, k3, k4⟩ := blind_cells s1
          clear s1
          go_simp
          try with_reducible rfl
        simp only [List.setIfInBounds_toArray, List.set_cons_zero, List.set_cons_succ]
        refine take_op (i := 1) (d := 22) (v := ?_) rfl rfl (by kernel_rfl) (by kernel_rfl) (by kernel_rfl) (fun _ _ _ h => h) (Or.inl ⟨by rfl, ?hy1u16⟩) hHeld ?rest1u16
        case hy1u16 =>
          intro w' hS'
          obtain ⟨s1, _⟩ := hS'
          obtain ⟨k0, k1, k2, k3, k4⟩ := blind_cells s1
          clear s1
          go_simp
          try with_reducible rfl
        simp only [List.setIfInBounds_toArray, List.set_cons_zero, List.set_cons_succ]
        refine take_op (i := 2) (d := 23) (v := ?_) rfl rfl (by kernel_rfl) (by kernel_rfl) (by kernel_rfl) (fun _ _ _ h => h) (Or.inl ⟨by rfl, ?hy2u17⟩) hHeld ?rest2u17
        case hy2u17 =>
          intro w' hS'
          obtain ⟨s1, _⟩ := hS'
          obtain ⟨k0, k1, k2, k3, k4⟩ := blind_cells s1
          clear s1
          go_simp
          try with_reducible rfl
        simp only [List.setIfInBounds_toArray, List.set_cons_zero, List.set_cons_succ]
        refine take_op (i := 3) (d := 24) (v := ?_) rfl rfl (by kernel_rfl) (by kernel_rfl) (by kernel_rfl) (fun _ _ _ h => h) (Or.inl ⟨by rfl, ?hy3u18⟩) hHeld ?rest3u18
        case hy3u18 =>
          intro w' hS'
          obtain ⟨s1, _⟩ := hS'
          obtain ⟨k0, k1, k2, k3, k4⟩ := blind_cells s1
          clear s1
          go_simp
          try with_reducible rfl
        simp only [List.setIfInBounds_toArray, List.set_cons_zero, List.set_cons_succ]
        refine take_op (i := 4) (d := 25) (v := ?_) rfl rfl (by kernel_rfl) (by kernel_rfl) (by kernel_rfl) (fun _ _ _ h => h) (Or.inl ⟨by rfl, ?hy4u19⟩) hHeld ?rest4u19
        case hy4u19 =>
          intro w' hS'
          obtain ⟨s1, _⟩ := hS'
          obtain ⟨k0, k1, k2, k3, k4⟩ := blind_cells s1
          clear s1
          go_simp
          try with_reducible rfl
        simp only [List.setIfInBounds_toArray, List.set_cons_zero, List.set_cons_succ]
        refine take_op (i := 5) (d := 26) (v := ?_) rfl rfl (by kernel_rfl) (by kernel_rfl) (by kernel_rfl) (fun _ _ _ h => h) (Or.inl ⟨by rfl, ?hy5u20⟩) hHeld ?rest5u20
        case hy5u20 =>
          intro w' hS'
          obtain ⟨s1, _⟩ := hS'
          obtain ⟨k0, k1, k2, k3, k4⟩ := blind_cells s1
          clear s1
          go_simp
          try with_reducible rfl
        simp only [List.setIfInBounds_toArray, List.set_cons_zero, List.set_cons_succ]
        refine take_op (i := 6) (d := 27) (v := ?_) rfl rfl (by kernel_rfl) (by kernel_rfl) (by kernel_rfl) (fun _ _ _ h => h) (Or.inl ⟨by rfl, ?hy6u21⟩) hHeld ?rest6u21
        case hy6u21 =>
          intro w' hS'
          obtain ⟨s1, _⟩ := hS'
          obtain ⟨k0, k1, k2, k3, k4⟩ := blind_cells s1
          clear s1
          go_simp
          try with_reducible rfl
        simp only [List.setIfInBounds_toArray, List.set_cons_zero, List.set_cons_succ]
        refine take_op (i := 7) (d := 28) (v := ?_) rfl rfl (by kernel_rfl) (by kernel_rfl) (by kernel_rfl) (fun _ _ _ h => h) (Or.inl ⟨by rfl, ?hy7u22⟩) hHeld ?rest7u22
        case hy7u22 =>
          intro w' hS'
          obtain ⟨s1, _⟩ := hS'
          obtain ⟨k0, k1, k2, k3, k4⟩ := blind_cells s1
          clear s1
          go_simp
          try with_reducible rfl
        simp only [List.setIfInBounds_toArray, List.set_cons_zero, List.set_cons_succ]
        refine take_op (i := 8) (d := 29) (v := ?_) rfl rfl (by kernel_rfl) (by kernel_rfl) (by kernel_rfl) (fun _ _ _ h => h) (Or.inl ⟨by rfl, ?hy8u23⟩) hHeld ?rest8u23
        case hy8u23 =>
          intro w' hS'
          obtain ⟨s1, _⟩ := hS'
          obtain ⟨k0, k1, k2, k3, k4⟩ := blind_cells s1
          clear s1
          go_simp
          try with_reducible rfl
        simp only [List.setIfInBounds_toArray, List.set_cons_zero, List.set_cons_succ]
        refine take_op (i := 9) (d := 30) (v := ?_) rfl rfl (by kernel_rfl) (by kernel_rfl) (by kernel_rfl) (fun _ _ _ h => h) (Or.inl ⟨by rfl, ?hy9u24⟩) hHeld ?rest9u24
        case hy9u24 =>
          intro w' hS'
          obtain ⟨s1, _⟩ := hS'
          obtain ⟨k0, k1, k2, k3, k4⟩ := blind_cells s1
          clear s1
          go_simp
          try with_reducible rfl
        simp only [List.setIfInBounds_toArray, List.set_cons_zero, List.set_cons_succ]
        refine take_op (i := 10) (d := 31) (v := ?_) rfl rfl (by kernel_rfl) (by kernel_rfl) (by kernel_rfl) (fun _ _ _ h => h) (Or.inl ⟨by rfl, ?hy10u25⟩) hHeld ?rest10u25
        case hy10u25 =>
          intro w' hS'
          obtain ⟨s1, _⟩ := hS'
          obtain ⟨k0, k1, k2, k3, k4⟩ := blind_cells s1
          clear s1
          go_simp
          try with_reducible rfl
        simp only [List.setIfInBounds_toArray, List.set_cons_zero, List.set_cons_succ]
        refine take_op (i := 11) (d := 32) (v := ?_) rfl rfl (by kernel_rfl) (by kernel_rfl) (by kernel_rfl) (fun _ _ _ h => h) (Or.inl ⟨by rfl, ?hy11u26⟩) hHeld ?rest11u26
        case hy11u26 =>
          intro w' hS'
          obtain ⟨s1, _⟩ := hS'
          obtain ⟨k0, k1, k2, k3, k4⟩ := blind_cells s1
          clear s1
          go_simp
          try with_reducible rfl
        simp only [List.setIfInBounds_toArray, List.set_cons_zero, List.set_cons_succ]
        refine take_op (i := 12) (d := 33) (v := ?_) rfl rfl (by kernel_rfl) (by kernel_rfl) (by kernel_rfl) (fun _ _ _ h => h) (Or.inl ⟨by rfl, ?hy12u27⟩) hHeld ?rest12u27
        case hy12u27 =>
          intro w' hS'
          obtain ⟨s1, _⟩ := hS'
          obtain ⟨k0, k1, k2, k3, k4⟩ := blind_cells s1
          clear s1
          go_simp
          try with_reducible rfl
        simp only [List.setIfInBounds_toArray, List.set_cons_zero, List.set_cons_succ]
        refine take_op (i := 13) (d := 7) (v := ?_) rfl rfl (by kernel_rfl) (by kernel_rfl) (by kernel_rfl) (fun _ _ _ h => h) (Or.inl ⟨by rfl, ?hy13u28⟩) hHeld ?rest13u28
        case hy13u28 =>
          intro w' hS'
          obtain ⟨s1, _⟩ := hS'
          obtain ⟨k0, k1, k2, k3, k4⟩ := blind_cells s1
          clear s1
          go_simp
          try with_reducible rfl
        simp only [List.setIfInBounds_toArray, List.set_cons_zero, List.set_cons_succ]
        refine wpAnyH_done (by kernel_rfl) ?_ _
        go_wp2
        go_ret
        exact ⟨rfl, hHeld.2⟩
      · skip
        go_enter Tryz.func66, Tryz.ntmps66
        go_wp2_with (first | (go_at_call 88; refine (l01Cosine_any _ _).mono ?_; rintro e w' ⟨rfl, rfl⟩) | (go_at_call 87; refine (l01Sine_any _ _).mono ?_; rintro e w' ⟨rfl, rfl⟩) | (go_at_call 86; refine (l01Size_any _ HN.out _).mono ?_; rintro e w' ⟨rfl, rfl⟩))
        refine wp_region_held_drew (S := (fun W => W.heap[g]? = some (.cells (blindC n wd gp t sh) T fr) ∧ Below w.heap.size w W)) (by kernel_rfl) ⟨HG.out, (Below.refl _ _).drew⟩ (fun hHeld => ?_)
        refine take_op (i := 0) (d := 21) (v := ?_) rfl rfl (by kernel_rfl) (by kernel_rfl) (by kernel_rfl) (fun _ _ _ h => h) (Or.inl ⟨by rfl, ?hy0u29⟩) hHeld ?rest0u29
        case hy0u29 =>
          intro w' hS'
          obtain ⟨s1, _⟩ := hS'
          obtain ⟨k0, k1, k2, k3, k4⟩ := blind_cells s1
          clear s1
          go_simp
          try with_reducible rfl
        simp only [List.setIfInBounds_toArray, List.set_cons_zero, List.set_cons_succ]
        refine take_op (i := 1) (d := 22) (v := ?_) rfl rfl (by kernel_rfl) (by kernel_rfl) (by kernel_rfl) (fun _ _ _ h => h) (Or.inl ⟨by rfl, ?hy1u30⟩) hHeld ?rest1u30
        case hy1u30 =>
          intro w' hS'
          obtain ⟨s1, _⟩ := hS'
          obtain ⟨k0, k1, k2, k3, k4⟩ := blind_cells s1
          clear s1
          go_simp
          try with_reducible rfl
        simp only [List.setIfInBounds_toArray, List.set_cons_zero, List.set_cons_succ]
        refine take_op (i := 2) (d := 23) (v := ?_) rfl rfl (by kernel_rfl) (by kernel_rfl) (by kernel_rfl) (fun _ _ _ h => h) (Or.inl ⟨by rfl, ?hy2u31⟩) hHeld ?rest2u31
        case hy2u31 =>
          intro w' hS'
          obtain ⟨s1, _⟩ := hS'
          obtain ⟨k0, k1, k2, k3, k4⟩ := blind_cells s1
          clear s1
          go_simp
          try with_reducible rfl
        simp only [List.setIfInBounds_toArray, List.set_cons_zero, List.set_cons_succ]
        refine take_op (i := 3) (d := 24) (v := ?_) rfl rfl (by kernel_rfl) (by kernel_rfl) (by kernel_rfl) (fun _ _ _ h => h) (Or.inl ⟨by rfl, ?hy3u32⟩) hHeld ?rest3u32
        case hy3u32 =>
          intro w' hS'
          obtain ⟨s1, _⟩ := hS'
          obtain ⟨k0, k1, k2, k3, k4⟩ := blind_cells s1
          clear s1
          go_simp
          try with_reducible rfl
        simp only [List.setIfInBounds_toArray, List.set_cons_zero, List.set_cons_succ]
        refine take_op (i := 4) (d := 25) (v := ?_) rfl rfl (by kernel_rfl) (by kernel_rfl) (by kernel_rfl) (fun _ _ _ h => h) (Or.inl ⟨by rfl, ?hy4u33⟩) hHeld ?rest4u33
        case hy4u33 =>
          intro w' hS'
          obtain ⟨s1, _⟩ := hS'
          obtain ⟨k0, k1, k2, k3, k4⟩ := blind_cells s1
          clear s1
          go_simp
          try with_reducible rfl
        simp only [List.setIfInBounds_toArray, List.set_cons_zero, List.set_cons_succ]
        refine take_op (i := 5) (d := 26) (v := ?_) rfl rfl (by kernel_rfl) (by kernel_rfl) (by kernel_rfl) (fun _ _ _ h => h) (Or.inl ⟨by rfl, ?hy5u34⟩) hHeld ?rest5u34
        case hy5u34 =>
          intro w' hS'
          obtain ⟨s1, _⟩ := hS'
          obtain ⟨k0, k1, k2, k3, k4⟩ := blind_cells s1
          clear s1
          go_simp
          try with_reducible rfl
        simp only [List.setIfInBounds_toArray, List.set_cons_zero, List.set_cons_succ]
        refine take_op (i := 6) (d := 27) (v := ?_) rfl rfl (by kernel_rfl) (by kernel_rfl) (by kernel_rfl) (fun _ _ _ h => h) (Or.inl ⟨by rfl, ?hy6u35⟩) hHeld ?rest6u35
        case hy6u35 =>
          intro w' hS'
          obtain ⟨s1, _⟩ := hS'
          obtain ⟨k0, k1, k2, k3, k4⟩ := blind_cells s1
          clear s1
          go_simp
          try with_reducible rfl
        simp only [List.setIfInBounds_toArray, List.set_cons_zero, List.set_cons_succ]
        refine take_op (i := 7) (d := 28) (v := ?_) rfl rfl (by kernel_rfl) (by kernel_rfl) (by kernel_rfl) (fun _ _ _ h => h) (Or.inl ⟨by rfl, ?hy7u36⟩) hHeld ?rest7u36
        case hy7u36 =>
          intro w' hS'
          obtain ⟨s1, _⟩ := hS'
          obtain ⟨k0, k1, k2, k3, k4⟩ := blind_cells s1
          clear s1
          go_simp
          try with_reducible rfl
        simp only [List.setIfInBounds_toArray, List.set_cons_zero, List.set_cons_succ]
        refine take_op (i := 8) (d := 29) (v := ?_) rfl rfl (by kernel_rfl) (by kernel_rfl) (by kernel_rfl) (fun _ _ _ h => h) (Or.inl ⟨by rfl, ?hy8u37⟩) hHeld ?rest8u37
        case hy8u37 =>
          intro w' hS'
          obtain ⟨s1, _⟩ := hS'
          obtain ⟨k0, k1, k2, k3, k4⟩ := blind_cells s1
          clear s1
          go_simp
          try with_reducible rfl
        simp only [List.setIfInBounds_toArray, List.set_cons_zero, List.set_cons_succ]
        refine take_op (i := 9) (d := 30) (v := ?_) rfl rfl (by kernel_rfl) (by kernel_rfl) (by kernel_rfl) (fun _ _ _ h => h) (Or.inl ⟨by rfl, ?hy9u38⟩) hHeld ?rest9u38
        case hy9u38 =>
          intro w' hS'
          obtain ⟨s1, _⟩ := hS'
          obtain ⟨k0, k1, k2, k3, k4⟩ := blind_cells s1
          clear s1
          go_simp
          try with_reducible rfl
        simp only [List.setIfInBounds_toArray, List.set_cons_zero, List.set_cons_succ]
        refine take_op (i := 10) (d := 31) (v := ?_) rfl rfl (by kernel_rfl) (by kernel_rfl) (by kernel_rfl) (fun _ _ _ h => h) (Or.inl ⟨by rfl, ?hy10u39⟩) hHeld ?rest10u39
        case hy10u39 =>
          intro w' hS'
          obtain ⟨s1, _⟩ := hS'
          obtain ⟨k0, k1, k2, k3, k4⟩ := blind_cells s1
          clear s1
          go_simp
          try with_reducible rfl
        simp only [List.setIfInBounds_toArray, List.set_cons_zero, List.set_cons_succ]
        refine take_op (i := 11) (d := 32) (v := ?_) rfl rfl (by kernel_rfl) (by kernel_rfl) (by kernel_rfl) (fun _ _ _ h => h) (Or.inl ⟨by rfl, ?hy11u40⟩) hHeld ?rest11u40
        case hy11u40 =>
          intro w' hS'
          obtain ⟨s1, _⟩ := hS'
          obtain ⟨k0, k1, k2, k3, k4⟩ := blind_cells s1
          clear s1
          go_simp
          try with_reducible rfl
        simp only [List.setIfInBounds_toArray, List.set_cons_zero, List.set_cons_succ]
        refine take_op (i := 12) (d := 33) (v := ?_) rfl rfl (by kernel_rfl) (by kernel_rfl) (by kernel_rfl) (fun _ _ _ h => h) (Or.inl ⟨by rfl, ?hy12u41⟩) hHeld ?rest12u41
        case hy12u41 =>
          intro w' hS'
          obtain ⟨s1, _⟩ := hS'
          obtain ⟨k0, k1, k2, k3, k4⟩ := blind_cells s1
          clear s1
          go_simp
          try with_reducible rfl
        simp only [List.setIfInBounds_toArray, List.set_cons_zero, List.set_cons_succ]
        refine take_op (i := 13) (d := 7) (v := ?_) rfl rfl (by kernel_rfl) (by kernel_rfl) (by kernel_rfl) (fun _ _ _ h => h) (Or.inl ⟨by rfl, ?hy13u42⟩) hHeld ?rest13u42
        case hy13u42 =>
          intro w' hS'
          obtain ⟨s1, _⟩ := hS'
          obtain ⟨k0, k1, k2, k3, k4⟩ := blind_cells s1
          clear s1
          go_simp
          try with_reducible rfl
        simp only [List.setIfInBounds_toArray, List.set_cons_zero, List.set_cons_succ]
        refine wpAnyH_done (by kernel_rfl) ?_ _
        go_wp2
        go_ret
        exact ⟨rfl, hHeld.2⟩
  · obtain rfl : h = 64 := by omega
    have hc := cos_eq
    have hB : blkB wd gp t 64 = 1065353216 := rfl
    rw [hB]
    clear hB w0 w1 g0 g1
    go_enter Tryz.func66, Tryz.ntmps66
    go_wp2_with (first | (go_at_call 88; refine (l01Cosine_any _ _).mono ?_; rintro e w' ⟨rfl, rfl⟩) | (go_at_call 87; refine (l01Sine_any _ _).mono ?_; rintro e w' ⟨rfl, rfl⟩) | (go_at_call 86; refine (l01Size_any _ HN.out _).mono ?_; rintro e w' ⟨rfl, rfl⟩))
    go_ret
    exact ⟨rfl, Below.refl _ _⟩

set_option maxRecDepth 100000 in
set_option maxHeartbeats 1000000 in
theorem l02Open_any (n : Int) (wd gp : Nat) (t : Int) (sh : Nat) (ok : BlOk n wd gp t sh) (h : Int) (h0 : 1 ≤ h) (h1 : h ≤ 64) (g : Nat) (T : TypeId) (fr : Nat × Nat) (w : World) (hg : w.heap[g]? = some (.cells (blindC n wd gp t sh) T fr)) :
    Calls Tryz.prog 36 #[.pointer (some ⟨g, 0, none⟩), .int .i64 h] w fun e w' => e = .returned (.float .f32 (opnB wd gp t h)) ∧ Below w.heap.size w w' := by
  have HB := Lib.hid (l02Blocked_any n wd gp t sh ok h h0 h1 g T fr w hg)
  have f1 := (opn_facts wd gp t h).1
  have r1 : ∀ T w, (binOp .sub T (.float .f32 1065353216) (.float .f32 (blkB wd gp t h))).run Tryz.prog w = .ok (.float .f32 (opnB wd gp t h)) w := fun T w => run_float_arith w .sub T .f32 _ _ _ f1
  clear f1 ok h0 h1 hg
  go_enter Tryz.func36, Tryz.ntmps36
  go_wp2_with (go_at_call 66; refine (HB.out).mono ?_; rintro e W1 ⟨rfl, hb1⟩)
  go_ret
  exact ⟨rfl, hb1⟩

set_option maxRecDepth 100000 in
set_option maxHeartbeats 1000000 in
theorem l02Pass_any (n : Int) (wd gp : Nat) (t : Int) (sh : Nat) (ok : BlOk n wd gp t sh) (h : Int) (h0 : 1 ≤ h) (h1 : h ≤ 64) (g : Nat) (T : TypeId) (fr : Nat × Nat) (w : World) (hg : w.heap[g]? = some (.cells (blindC n wd gp t sh) T fr)) :
    Calls Tryz.prog 98 #[.pointer (some ⟨g, 0, none⟩), .int .i64 h] w fun e w' => e = .returned (.float .f32 (pasB wd gp t sh h)) ∧ Below w.heap.size w w' := by
  obtain ⟨f1, f2, f3, f4, _⟩ := pas_facts wd gp t ok.2.2.2.2.2.2.2.2 h
  have HB := Lib.hid (fun W hg => l02Blocked_any n wd gp t sh ok h h0 h1 g T fr W hg)
  have HO := Lib.hid (fun W hg => l02Open_any n wd gp t sh ok h h0 h1 g T fr W hg)
  have HV := Lib.hid (fun W hg => l02Open_any n wd gp t sh ok 1 (by decide) (by decide) g T fr W hg)
  have HG := Lib.hid hg
  have r1 : ∀ T w, (binOp .mul T (.float .f32 (blkB wd gp t h)) (.float .f32 sh)).run Tryz.prog w = .ok (.float .f32 (fmul (blkB wd gp t h) sh)) w := fun T w => run_float_arith w .mul T .f32 _ _ _ f1
  have r2 : ∀ T w, (binOp .mul T (.float .f32 (fmul (blkB wd gp t h) sh)) (.float .f32 (opnB wd gp t 1))).run Tryz.prog w = .ok (.float .f32 (fmul (fmul (blkB wd gp t h) sh) (opnB wd gp t 1))) w := fun T w => run_float_arith w .mul T .f32 _ _ _ f2
  have r3 : ∀ T w, (binOp .quo T (.float .f32 (fmul (fmul (blkB wd gp t h) sh) (opnB wd gp t 1))) (.float .f32 1073741824)).run Tryz.prog w = .ok (.float .f32 (bncB wd gp t sh h)) w := fun T w => run_float_arith w .quo T .f32 _ _ _ f3
  have r4 : ∀ T w, (binOp .add T (.float .f32 (opnB wd gp t h)) (.float .f32 (bncB wd gp t sh h))).run Tryz.prog w = .ok (.float .f32 (pasB wd gp t sh h)) w := fun T w => run_float_arith w .add T .f32 _ _ _ f4
  clear f1 f2 f3 f4 ok h0 h1 hg
  generalize fmul (fmul (blkB wd gp t h) sh) (opnB wd gp t 1) = x2 at *
  generalize fmul (blkB wd gp t h) sh = x1 at *
  go_enter Tryz.func98, Tryz.ntmps98
  go_wp2_with (go_at_call 36; refine (HV.out _ HG.out).mono ?_; rintro e W1 ⟨rfl, hb1⟩)
  have HG1 := Lib.hid (below_row hb1 HG.out)
  refine wp_region_held_drew (S := (fun W => W.heap[g]? = some (.cells (blindC n wd gp t sh) T fr) ∧ Below w.heap.size w W)) (by kernel_rfl) ⟨HG1.out, hb1.drew⟩ (fun hHeld => ?_)
  refine take_op (i := 0) (d := 9) (v := ?_) rfl rfl (by kernel_rfl) (by kernel_rfl) (by kernel_rfl) (fun _ _ _ h => h) (Or.inl ⟨by rfl, ?hy0u43⟩) hHeld ?rest0u43
  case hy0u43 =>
    intro w' hS'
    obtain ⟨s1, _⟩ := hS'
    obtain ⟨k0, k1, k2, k3, k4⟩ := blind_cells s1
    clear s1
    go_simp
    try with_reducible rfl
  simp only [List.setIfInBounds_toArray, List.set_cons_zero, List.set_cons_succ]
  refine take_op (i := 1) (d := 10) (v := ?_) rfl rfl (by kernel_rfl) (by kernel_rfl) (by kernel_rfl) (fun _ _ _ h => h) (Or.inl ⟨by rfl, ?hy1u44⟩) hHeld ?rest1u44
  case hy1u44 =>
    intro w' hS'
    obtain ⟨s1, _⟩ := hS'
    obtain ⟨k0, k1, k2, k3, k4⟩ := blind_cells s1
    clear s1
    go_simp
    try with_reducible rfl
  simp only [List.setIfInBounds_toArray, List.set_cons_zero, List.set_cons_succ]
  refine take_op (i := 3) (d := 12) (v := ?_) rfl rfl (by kernel_rfl) (by kernel_rfl) (by kernel_rfl) (fun _ _ _ h => h) (Or.inl ⟨by rfl, ?hy3u45⟩) hHeld ?rest3u45
  case hy3u45 =>
    intro w' hS'
    obtain ⟨s1, _⟩ := hS'
    obtain ⟨k0, k1, k2, k3, k4⟩ := blind_cells s1
    clear s1
    go_simp
    try with_reducible rfl
  simp only [List.setIfInBounds_toArray, List.set_cons_zero, List.set_cons_succ]
  refine take_op (i := 4) (d := 13) (v := ?_) rfl rfl (by kernel_rfl) (by kernel_rfl) (by kernel_rfl) (fun _ _ _ h => h) (Or.inl ⟨by rfl, ?hy4u46⟩) hHeld ?rest4u46
  case hy4u46 =>
    intro w' hS'
    obtain ⟨s1, _⟩ := hS'
    obtain ⟨k0, k1, k2, k3, k4⟩ := blind_cells s1
    clear s1
    go_simp
    try with_reducible rfl
  simp only [List.setIfInBounds_toArray, List.set_cons_zero, List.set_cons_succ]
  refine take_op (i := 5) (d := 14) (v := ?_) rfl rfl (by kernel_rfl) (by kernel_rfl) (by kernel_rfl) (fun _ _ _ h => h) (Or.inl ⟨by rfl, ?hy5u47⟩) hHeld ?rest5u47
  case hy5u47 =>
    intro w' hS'
    obtain ⟨s1, _⟩ := hS'
    obtain ⟨k0, k1, k2, k3, k4⟩ := blind_cells s1
    clear s1
    go_simp
    try with_reducible rfl
  simp only [List.setIfInBounds_toArray, List.set_cons_zero, List.set_cons_succ]
  refine take_op (i := 6) (d := 15) (v := ?_) rfl rfl (by kernel_rfl) (by kernel_rfl) (by kernel_rfl) (fun _ _ _ h => h) (Or.inl ⟨by rfl, ?hy6u48⟩) hHeld ?rest6u48
  case hy6u48 =>
    intro w' hS'
    obtain ⟨s1, _⟩ := hS'
    obtain ⟨k0, k1, k2, k3, k4⟩ := blind_cells s1
    clear s1
    go_simp
    try with_reducible rfl
  simp only [List.setIfInBounds_toArray, List.set_cons_zero, List.set_cons_succ]
  refine take_op (i := 8) (d := 17) (v := ?_) rfl rfl (by kernel_rfl) (by kernel_rfl) (by kernel_rfl) (fun _ _ _ h => h) (Or.inl ⟨by rfl, ?hy8u49⟩) hHeld ?rest8u49
  case hy8u49 =>
    intro w' hS'
    obtain ⟨s1, _⟩ := hS'
    obtain ⟨k0, k1, k2, k3, k4⟩ := blind_cells s1
    clear s1
    go_simp
    try with_reducible rfl
  simp only [List.setIfInBounds_toArray, List.set_cons_zero, List.set_cons_succ]
  refine wpAnyH_ready (rs := [2]) (by kernel_rfl) (by simp) ?_
  refine AllReadyH.cons rfl (fun K hK => ?_) AllReadyH.nil
  go_simp
  refine (HB.out _ hHeld.1).mono ?_
  rintro e W1 ⟨rfl, hb1⟩
  refine hK.out _ _ (⟨below_row hb1 hHeld.1, hHeld.2.trans (hb1.mono hHeld.2.size)⟩) (fun hHeld2 => ?_)
  clear hK K
  replace hHeld := hHeld2
  clear hHeld2
  refine take_op (i := 7) (d := 16) (v := ?_) rfl rfl (by kernel_rfl) (by kernel_rfl) (by kernel_rfl) (fun _ _ _ h => h) (Or.inl ⟨by rfl, ?hy7u50⟩) hHeld ?rest7u50
  case hy7u50 =>
    intro w' hS'
    go_simp
    try with_reducible rfl
  simp only [List.setIfInBounds_toArray, List.set_cons_zero, List.set_cons_succ]
  refine take_op (i := 9) (d := 18) (v := ?_) rfl rfl (by kernel_rfl) (by kernel_rfl) (by kernel_rfl) (fun _ _ _ h => h) (Or.inl ⟨by rfl, ?hy9u51⟩) hHeld ?rest9u51
  case hy9u51 =>
    intro w' hS'
    go_simp
    try with_reducible rfl
  simp only [List.setIfInBounds_toArray, List.set_cons_zero, List.set_cons_succ]
  refine take_op (i := 10) (d := 19) (v := ?_) rfl rfl (by kernel_rfl) (by kernel_rfl) (by kernel_rfl) (fun _ _ _ h => h) (Or.inl ⟨by rfl, ?hy10u52⟩) hHeld ?rest10u52
  case hy10u52 =>
    intro w' hS'
    go_simp
    try with_reducible rfl
  simp only [List.setIfInBounds_toArray, List.set_cons_zero, List.set_cons_succ]
  refine take_op (i := 11) (d := 6) (v := ?_) rfl rfl (by kernel_rfl) (by kernel_rfl) (by kernel_rfl) (fun _ _ _ h => h) (Or.inl ⟨by rfl, ?hy11u53⟩) hHeld ?rest11u53
  case hy11u53 =>
    intro w' hS'
    go_simp
    try with_reducible rfl
  simp only [List.setIfInBounds_toArray, List.set_cons_zero, List.set_cons_succ]
  refine wpAnyH_done (by kernel_rfl) ?_ _
  obtain ⟨hgx, hbx⟩ := hHeld
  go_wp2_with (go_at_call 36; refine (HO.out _ hgx).mono ?_; rintro e W2 ⟨rfl, hb2⟩)
  go_ret
  exact ⟨rfl, hbx.trans (hb2.mono hbx.size)⟩

end Go.Proofs.YtmbgmpeiicjlaaaGreatDoor

namespace Go.Proofs.YtmbgmpeiicjlaaaGreatDoor

open Go.ChangeShapes Go.WideShapes Go.ChangeAt Go.RowKit Go.Deep Go.Joins

theorem isHeight_is (h : Int) (fine : Bool) (hi : inI 1 64 h = fine) (w : World) : Calls Tryz.prog 31 #[.int .i64 h] w fun e w' => e = .returned (.bool fine) ∧ w = w' := by
  rw [← hi]; exact isHeight_any h w

theorem l02Up_is (h : Int) (fine : Bool) (hi : inI 1 64 h = fine) (w : World) : Calls Tryz.prog 35 #[.int .i64 h] w fun e w' => e = .returned (.bool fine) ∧ w = w' := by
  rw [← hi]; exact l02Up_any h w

end Go.Proofs.YtmbgmpeiicjlaaaGreatDoor

namespace Go.Proofs.YtmbgmpeiicjlaaaGreatDoor

open Go.ChangeShapes Go.WideShapes Go.ChangeAt Go.RowKit Go.Deep Go.Joins

attribute [local go_sem] run_store_f

set_option maxRecDepth 100000 in
set_option maxHeartbeats 1000000 in
theorem tilted_any2 (n : Int) (wd gp : Nat) (t : Int) (sh : Nat) (x : Int) (x0 : -64 ≤ x) (x1 : x ≤ 64) (w : World) :
    Calls Tryz.prog 63 #[.agg (blindC n wd gp t sh), .int .i64 x] w fun e w' => e = .returned (.agg (blindC n wd gp x sh)) ∧ Below w.heap.size w w' := by
  unfold blindC
  go_enter Tryz.func63, Tryz.ntmps63
  go_wp2
  refine bodyPost_ret (v := .agg #[.int .i8 n, .float .f32 wd, .float .f32 gp, .int .i16 x, .float .f32 sh]) (by simp [results, Tryz.results63, go_sem]) rfl ⟨rfl, ?_⟩
  (repeat' first | exact Below.refl _ _ | assumption | refine Below.alloc ?_ (by first | omega | (simp; done) | (simp; omega)) _ | refine Below.setCell ?_ (by first | omega | (simp; done) | (simp; omega)) _ | refine Below.drew ?_)

end Go.Proofs.YtmbgmpeiicjlaaaGreatDoor
