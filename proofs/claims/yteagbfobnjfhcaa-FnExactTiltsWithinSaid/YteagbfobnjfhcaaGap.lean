/-
  The gap that is open enough: halvings, as plain functions; the closure that asks, and the halving.
-/
import Derived.Test.YteagbfobnjfhcaaBhd
namespace Go.Proofs.Yteagbfobnjfhcaa
open Go.ChangeShapes Go.WideShapes Go.ChangeAt Go.RowKit Go.Deep Go.Joins

attribute [local go_sem] run_store_f

/-- Whether a gap is open enough. -/
def enoB (wd : Nat) (t h : Int) (want gap : Nat) : Bool := FloatKind.f32.format.order (opnB wd gap t h) want == some .gt || FloatKind.f32.format.order (opnB wd gap t h) want == some .eq
def midB (l h : Nat) : Nat := fdiv (fadd l h) 1073741824
/-- The two bounds behind so many halvings. -/
def halfs (e : Nat → Bool) : Nat → Nat × Nat
  | 0 => (1031798784, 1115684864)
  | k + 1 => if e (midB (halfs e k).1 (halfs e k).2) then ((halfs e k).1, midB (halfs e k).1 (halfs e k).2) else (midB (halfs e k).1 (halfs e k).2, (halfs e k).2)
def InLen (x : Nat) : Prop := 1031798784 ≤ x ∧ x ≤ 1115684864
theorem mid_facts {l h : Nat} (hl : InLen l) (hh : InLen h) : floatBits .add .f32 l h = some (fadd l h) ∧ floatBits .quo .f32 (fadd l h) 1073741824 = some (midB l h) ∧ InLen (midB l h) := by
  obtain ⟨l0, l1⟩ := hl
  obtain ⟨h0, h1⟩ := hh
  have a1 := add_mono (x := l) (X := 1115684864) (y := h) (Y := 1115684864) (by decide) (by decide) l1 h1
  have a2 := add_mono (x := 1031798784) (X := l) (y := 1031798784) (Y := h) (by omega) (by omega) l0 h0
  have e1 : fadd 1115684864 1115684864 = 1124073472 := by decide +kernel
  have e2 : fadd 1031798784 1031798784 = 1040187392 := by decide +kernel
  rw [e1] at a1; rw [e2] at a2
  have d1 := div_mono (x := fadd l h) (X := 1124073472) (y := 1073741824) (Y := 1073741824) (by decide) (by decide) (by decide) a1 (Nat.le_refl _)
  have d2 := div_mono (x := 1040187392) (X := fadd l h) (y := 1073741824) (Y := 1073741824) (by omega) (by decide) (by decide) a2 (Nat.le_refl _)
  have e3 : fdiv 1124073472 1073741824 = 1115684864 := by decide +kernel
  have e4 : fdiv 1040187392 1073741824 = 1031798784 := by decide +kernel
  rw [e3] at d1; rw [e4] at d2
  exact ⟨(add_rnd (by omega) (by omega)).1, (div_rnd (by omega) (by decide) (by decide)).1, d2, d1⟩
theorem halfs_in (e : Nat → Bool) : ∀ k, InLen (halfs e k).1 ∧ InLen (halfs e k).2
  | 0 => ⟨⟨Nat.le_refl 1031798784, by show (1031798784 : Nat) ≤ 1115684864; decide⟩, by show (1031798784 : Nat) ≤ 1115684864; decide, Nat.le_refl 1115684864⟩
  | k + 1 => by
    obtain ⟨h1, h2⟩ := halfs_in e k
    have h3 := (mid_facts h1 h2).2.2
    unfold halfs
    split
    · exact ⟨h1, h3⟩
    · exact ⟨h3, h2⟩
theorem halfs_yes {e : Nat → Bool} {k l h : Nat} (hk : halfs e k = (l, h)) (hm : e (midB l h) = true) : halfs e (k + 1) = (l, midB l h) := by
  rw [halfs, hk]; exact if_pos hm
theorem halfs_no {e : Nat → Bool} {k l h : Nat} (hk : halfs e k = (l, h)) (hm : e (midB l h) = false) : halfs e (k + 1) = (midB l h, h) := by
  rw [halfs, hk]; exact if_neg (by rw [hm]; decide)

theorem want_num {x : Nat} (h : x ≤ 1065353216 ∨ x = 2147483648) : isNum x := by
  rcases h with h | rfl
  · exact .inl (by omega)
  · exact .inr ⟨by decide, by decide⟩
theorem opn_order (wd gap : Nat) (t h : Int) {want : Nat} (hw : want ≤ 1065353216 ∨ want = 2147483648) : ∃ o, FloatKind.f32.format.order (opnB wd gap t h) want = some o :=
  ⟨_, order_num (.inl (Nat.lt_of_le_of_lt (opn_facts wd gap t h).2 (by decide))) (want_num hw)⟩
theorem blok_gap (n : Int) (wd gp : Nat) (t : Int) (sh : Nat) {m : Nat} (ok : BlOk n wd gp t sh) (hm : InLen m) : BlOk n wd m t sh :=
  ⟨ok.1, ok.2.1, ok.2.2.1, ok.2.2.2.1, hm.1, hm.2, ok.2.2.2.2.2.2⟩

theorem laid_allg (cs vs : Array Value) (h : cs.size = vs.size) : laid cs vs 0 = vs := by
  apply Array.ext'
  simp [laid]
  rw [← h]; simp
theorem blind_oneg (n : Int) (wd gp : Nat) (t : Int) (sh : Nat) : ∀ v ∈ blindC n wd gp t sh, v.oneCell' = true := by
  intro v hv
  simp only [blindC, List.mem_toArray, List.mem_cons, List.not_mem_nil, or_false] at hv
  rcases hv with rfl | rfl | rfl | rfl | rfl <;> rfl

set_option maxRecDepth 100000 in
set_option maxHeartbeats 1000000 in
theorem gap_call (n : Int) (wd gp : Nat) (t : Int) (sh : Nat) (ok : BlOk n wd gp t sh) (h : Int) (h0 : 1 ≤ h) (h1 : h ≤ 64) (want : Nat) (m : Nat) (hm : InLen m) (g1 g2 g3 : Nat) (w : World) (c1 : w.heap[g1]? = some (.cells (blindC n wd gp t sh) 28 (0, 0))) (c2 : w.heap[g2]? = some (.cells #[.int .i64 h] 2 (0, 0))) (c3 : w.heap[g3]? = some (.cells #[.float .f32 want] 23 (0, 0))) :
    Calls Try.prog 74 #[.float .f32 m, .pointer (some ⟨g1, 0, none⟩), .pointer (some ⟨g2, 0, none⟩), .pointer (some ⟨g3, 0, none⟩)] w fun e w' => e = .returned (.bool (enoB wd t h want m)) ∧ Below w.heap.size w w' := by
  have HO := Lib.hid (fun w => openAt_any n wd m t sh (blok_gap _ _ _ _ _ ok hm) h h0 h1 w)
  have H1 := Lib.hid c1
  have H2 := Lib.hid c2
  have H3 := Lib.hid c3
  have hb : Below w.heap.size w w := Below.refl _ _
  clear ok hm h0 h1 c1 c2 c3
  unfold enoB
  go_enter Try.func74, Try.ntmps74
  go_upto_region 2 with (first | (refine wpList_load_part rfl 28 _ rfl g1 0 5 rfl 28 (blindC n wd gp t sh) (0, 0) _ H1.out Try.underlying28 rfl info_blind (blind_fits _ _ _ _ _) _ (blind_all _ _ _ _ _) ?_) | (refine wpList_store_part rfl 28 _ _ rfl _ 0 (blindC n wd gp t sh) rfl rfl 28 _ (heap_alloc_new _ _) (by kernel_rfl) (Nat.le_refl _) (blind_oneg _ _ _ _ _) ?_; rw [laid_allg _ _ (by rfl)]))
  refine abs_world (fun W => Below w.heap.size w W ∧ W.heap[w.heap.size]? = some (.cells (blindC n wd gp t sh) 28 (0, 0)) ∧ W.heap[g2]? = some (.cells #[.int .i64 h] 2 (0, 0)) ∧ W.heap[g3]? = some (.cells #[.float .f32 want] 23 (0, 0))) ⟨below_setRow (hb.alloc hb.size _) hb.size _, setRow_heap _ _ _ _ _ _ (heap_alloc_new _ _), (setRow_other _ _ _ _ (by have := row_lt H2.out; omega)).trans (below_row ((Below.refl w.heap.size w).alloc (Nat.le_refl _) _) H2.out), (setRow_other _ _ _ _ (by have := row_lt H3.out; omega)).trans (below_row ((Below.refl w.heap.size w).alloc (Nat.le_refl _) _) H3.out)⟩ ?_
  have hl2 := row_lt H2.out
  have hl3 := row_lt H3.out
  clear hb H1 H2 H3
  rintro W ⟨hb, d1, d2, d3⟩
  have D1 := Lib.hid d1
  have D2 := Lib.hid d2
  have D3 := Lib.hid d3
  obtain ⟨k0, k1, k2, k3, k4⟩ := blind_cells d1
  have kf := frozen_of_row W w.heap.size 2 _ _ d1
  clear d1 d2 d3
  go_upto_region 3 with (fail)
  refine abs_world (fun W => Below w.heap.size w W ∧ W.heap[w.heap.size]? = some (.cells (blindC n wd m t sh) 28 (0, 0)) ∧ W.heap[g2]? = some (.cells #[.int .i64 h] 2 (0, 0)) ∧ W.heap[g3]? = some (.cells #[.float .f32 want] 23 (0, 0))) ⟨hb.setCell (p := ⟨w.heap.size, 2, none⟩) (Nat.le_refl _) _, by rw [heap_setCell_same _ _ _ _ _ _ D1.out]; rfl, by rw [heap_setCell_other _ _ _ _ (by simp; omega)]; exact D2.out, by rw [heap_setCell_other _ _ _ _ (by simp; omega)]; exact D3.out⟩ ?_
  clear hb D1 D2 D3 k0 k1 k2 k3 k4 kf
  rintro W2 ⟨hb, d1, d2, d3⟩
  refine wp_region_held_drew (S := (fun W => W.heap[w.heap.size]? = some (.cells (blindC n wd m t sh) 28 (0, 0)) ∧ W.heap[g2]? = some (.cells #[.int .i64 h] 2 (0, 0)) ∧ W.heap[g3]? = some (.cells #[.float .f32 want] 23 (0, 0)) ∧ Below w.heap.size w W)) (by kernel_rfl) ⟨d1, d2, d3, hb.drew⟩ (fun hHeld => ?_)
  refine take_op (i := 0) (d := 10) (v := .agg (blindC n wd m t sh)) rfl rfl (by kernel_rfl) (by kernel_rfl) (by kernel_rfl) (fun _ _ _ h => h) (yields_row (by rfl) 28 (.tmp 6) (by rfl) w.heap.size 0 5 (by rfl) 28 (blindC n wd m t sh) (0, 0) _ (fun _ h => h.1) Try.underlying28 rfl info_blind (blind_fits _ _ _ _ _) (blindC n wd m t sh) (blind_all _ _ _ _ _)) hHeld ?_
  simp only [List.setIfInBounds_toArray, List.set_cons_zero, List.set_cons_succ]
  refine take_op (i := 1) (d := 11) (v := ?_) rfl rfl (by kernel_rfl) (by kernel_rfl) (by kernel_rfl) (fun _ _ _ h => h) (Or.inl ⟨by rfl, ?hy1u1⟩) hHeld ?rest1u1
  case hy1u1 =>
    intro w' hS'
    obtain ⟨s1, s2, s3, s4⟩ := hS'
    have q2 : w'.cell? ⟨g2, 0, none⟩ = some (.int .i64 h) := by rw [cell_of_row w' _ _ _ _ _ s2]; rfl
    have q3 : w'.cell? ⟨g3, 0, none⟩ = some (.float .f32 want) := by rw [cell_of_row w' _ _ _ _ _ s3]; rfl
    clear s1 s2 s3 s4
    go_simp
    try with_reducible rfl
  simp only [List.setIfInBounds_toArray, List.set_cons_zero, List.set_cons_succ]
  refine take_op (i := 3) (d := 13) (v := ?_) rfl rfl (by kernel_rfl) (by kernel_rfl) (by kernel_rfl) (fun _ _ _ h => h) (Or.inl ⟨by rfl, ?hy3u2⟩) hHeld ?rest3u2
  case hy3u2 =>
    intro w' hS'
    obtain ⟨s1, s2, s3, s4⟩ := hS'
    have q2 : w'.cell? ⟨g2, 0, none⟩ = some (.int .i64 h) := by rw [cell_of_row w' _ _ _ _ _ s2]; rfl
    have q3 : w'.cell? ⟨g3, 0, none⟩ = some (.float .f32 want) := by rw [cell_of_row w' _ _ _ _ _ s3]; rfl
    clear s1 s2 s3 s4
    go_simp
    try with_reducible rfl
  simp only [List.setIfInBounds_toArray, List.set_cons_zero, List.set_cons_succ]
  refine wpAnyH_ready (rs := [2]) (by kernel_rfl) (by simp) ?_
  refine AllReadyH.cons rfl (fun K hK => ?_) AllReadyH.nil
  go_simp
  refine (HO.out _).mono ?_
  rintro e W1 ⟨rfl, hb1⟩
  refine hK.out _ _ (⟨below_row hb1 hHeld.1, below_row hb1 hHeld.2.1, below_row hb1 hHeld.2.2.1, hHeld.2.2.2.trans (hb1.mono hHeld.2.2.2.size)⟩) (fun hHeld2 => ?_)
  clear hK K
  replace hHeld := hHeld2
  clear hHeld2
  refine take_op (i := 4) (d := 14) (v := ?_) rfl rfl (by kernel_rfl) (by kernel_rfl) (by kernel_rfl) (fun _ _ _ h => h) (Or.inl ⟨by rfl, ?hy4u3⟩) hHeld ?rest4u3
  case hy4u3 =>
    intro w' hS'
    go_simp
    try with_reducible rfl
  simp only [List.setIfInBounds_toArray, List.set_cons_zero, List.set_cons_succ]
  refine take_op (i := 5) (d := 5) (v := ?_) rfl rfl (by kernel_rfl) (by kernel_rfl) (by kernel_rfl) (fun _ _ _ h => h) (Or.inl ⟨by rfl, ?hy5u4⟩) hHeld ?rest5u4
  case hy5u4 =>
    intro w' hS'
    go_simp
    try with_reducible rfl
  simp only [List.setIfInBounds_toArray, List.set_cons_zero, List.set_cons_succ]
  refine wpAnyH_done (by kernel_rfl) ?_ _
  go_wp2
  go_ret
  exact ⟨rfl, hHeld.2.2.2⟩

set_option maxRecDepth 100000 in
set_option maxHeartbeats 1000000 in
theorem halve_any (n : Int) (wd gp : Nat) (t : Int) (sh : Nat) (ok : BlOk n wd gp t sh) (h : Int) (h0 : 1 ≤ h) (h1 : h ≤ 64) (want : Nat) (g1 g2 g3 : Nat) (w : World) (c1 : w.heap[g1]? = some (.cells (blindC n wd gp t sh) 28 (0, 0))) (c2 : w.heap[g2]? = some (.cells #[.int .i64 h] 2 (0, 0))) (c3 : w.heap[g3]? = some (.cells #[.float .f32 want] 23 (0, 0))) :
    Calls Try.prog 76 #[.float .f32 1031798784, .float .f32 1115684864, .int .i64 30, .func (.func 74) #[] #[.pointer (some ⟨g1, 0, none⟩), .pointer (some ⟨g2, 0, none⟩), .pointer (some ⟨g3, 0, none⟩)]] w fun e w' => e = .returned (.float .f32 (halfs (enoB wd t h want) 30).2) ∧ Below w.heap.size w w' := by
  have HC := Lib.hid (fun m (hm : InLen m) W c1 c2 c3 => gap_call n wd gp t sh ok h h0 h1 want m hm g1 g2 g3 W c1 c2 c3)
  have C1 := Lib.hid c1
  have C2 := Lib.hid c2
  have C3 := Lib.hid c3
  clear ok h0 h1 c1 c2 c3
  go_enter Try.func76, Try.ntmps76
  go_wp2
  go_loopw [0, 1, 11] (fun l u i wr => ∃ k : Nat, k ≤ 30 ∧ i = .int .i64 k ∧ l = .float .f32 (halfs (enoB wd t h want) k).1 ∧ u = .float .f32 (halfs (enoB wd t h want) k).2 ∧ Below w.heap.size w wr ∧ wr.heap[g1]? = some (.cells (blindC n wd gp t sh) 28 (0, 0)) ∧ wr.heap[g2]? = some (.cells #[.int .i64 h] 2 (0, 0)) ∧ wr.heap[g3]? = some (.cells #[.float .f32 want] 23 (0, 0))) (fun _ _ i _ => 30 - (intOf i).toNat)
  case atStart => exact ⟨0, by decide, rfl, rfl, rfl, Below.refl _ _, C1.out, C2.out, C3.out⟩
  case round =>
    clear C1 C2 C3
    obtain ⟨k, hk, rfl, rfl, rfl, hb, c1, c2, c3⟩ := hrel
    by_cases hlt : k < 30
    · obtain ⟨i1, i2⟩ := halfs_in (enoB wd t h want) k
      generalize hbs : halfs (enoB wd t h want) k = bs at *
      obtain ⟨l, u⟩ := bs
      obtain ⟨f1, f2, f3⟩ := mid_facts i1 i2
      dsimp only at f1 f2 f3 i1 i2 ⊢
      have r1 : ∀ T w, (binOp .add T (.float .f32 l) (.float .f32 u)).run Try.prog w = .ok (.float .f32 (fadd l u)) w := fun T w => run_float_arith w .add T .f32 _ _ _ f1
      have r2 : ∀ T w, (binOp .quo T (.float .f32 (fadd l u)) (.float .f32 1073741824)).run Try.prog w = .ok (.float .f32 (midB l u)) w := fun T w => run_float_arith w .quo T .f32 _ _ _ f2
      have HM := Lib.hid (HC.out _ f3 wr c1 c2 c3)
      have D1 := Lib.hid c1
      have D2 := Lib.hid c2
      have D3 := Lib.hid c3
      have HY : Hid (enoB wd t h want (midB l u) = true → halfs (enoB wd t h want) (k + 1) = (l, midB l u)) := fun hm => halfs_yes hbs hm
      have HN : Hid (enoB wd t h want (midB l u) = false → halfs (enoB wd t h want) (k + 1) = (midB l u, u)) := fun hm => halfs_no hbs hm
      clear f1 f2 f3 i1 i2 hbs c1 c2 c3 HC
      generalize fadd l u = x1 at *
      generalize midB l u = mm at *
      cases he : enoB wd t h want mm with
      | true =>
        rw [he] at HM
        go_wp2_with (go_at_call 74; refine HM.out.mono ?_; rintro e W1 ⟨rfl, hb1⟩)
        go_roundw
        case rel => exact ⟨k + 1, by omega, by go_num, by rw [HY.out he], by rw [HY.out he], hb.trans (hb1.mono hb.size), below_row hb1 D1.out, below_row hb1 D2.out, below_row hb1 D3.out⟩
        case measure => simp [intOf]; omega
      | false =>
        rw [he] at HM
        go_wp2_with (go_at_call 74; refine HM.out.mono ?_; rintro e W1 ⟨rfl, hb1⟩)
        go_roundw
        case rel => exact ⟨k + 1, by omega, by go_num, by rw [HN.out he], by rw [HN.out he], hb.trans (hb1.mono hb.size), below_row hb1 D1.out, below_row hb1 D2.out, below_row hb1 D3.out⟩
        case measure => simp [intOf]; omega
    · obtain rfl : k = 30 := by omega
      clear c1 c2 c3 hlt hk
      go_wp2
      go_ret
      exact ⟨rfl, hb⟩

end Go.Proofs.Yteagbfobnjfhcaa
