/-
  What a window sees of the sun: the program.
-/
import Derived.Test.YtmniodfdoidffaaBfA
import Derived.Test.YtmniodfdoidffaaNew
import Derived.Test.YtmniodfdoidffaaMirrorSpec
import Derived.Test.YtmniodfdoidffaaBestRun
import Derived.Test.YtmniodfdoidffaaAngle
namespace Go.Proofs.Ytmniodfdoidffaa
open Go.RowKit Go.Shelf

attribute [local go_sem] Oper.semAt_some

theorem sees_start (hs ts : List Int) (f : Int) : Sees hs ts f zer zer 0 := by
  intro j hj
  rw [if_neg (Nat.not_lt_zero j), if_neg (Nat.not_lt_zero j)]
  have e : zer[j]?.getD 0 = 0 := by
    unfold zer
    rw [List.getElem?_replicate]
    split <;> rfl
  exact ⟨e, e⟩

theorem sees_hit {hs ts a b : List Int} {f : Int} {k : Nat} (ha : a.length = 24) (hb : b.length = 24) (hk : k < 24) (h : Sees hs ts f a b k) (hB : seeB (hs[k]?.getD 0) (ts[k]?.getD 0 - f) = true) : Sees hs ts f (a.set k (hs[k]?.getD 0)) (b.set k (angB (ts[k]?.getD 0 - f))) (k + 1) := by
  intro j hj
  rw [set_getD _ _ _ (by omega), set_getD _ _ _ (by omega)]
  by_cases e : j = k
  · subst e
    have e1 : seeH (hs[j]?.getD 0) (ts[j]?.getD 0 - f) = hs[j]?.getD 0 := by unfold seeH; rw [if_pos hB]
    have e2 : seeT (hs[j]?.getD 0) (ts[j]?.getD 0 - f) = angB (ts[j]?.getD 0 - f) := by unfold seeT; rw [if_pos hB]
    rw [if_pos rfl, if_pos rfl, if_pos (Nat.lt_succ_self j), if_pos (Nat.lt_succ_self j), e1, e2]
    exact ⟨rfl, rfl⟩
  · rw [if_neg e, if_neg e]
    have h2 := h j hj
    by_cases e2 : j < k
    · rw [if_pos e2, if_pos e2] at h2
      rw [if_pos (by omega), if_pos (by omega)]
      exact h2
    · rw [if_neg e2, if_neg e2] at h2
      rw [if_neg (by omega), if_neg (by omega)]
      exact h2

theorem sees_miss {hs ts a b : List Int} {f : Int} {k : Nat} (h : Sees hs ts f a b k) (hB : seeB (hs[k]?.getD 0) (ts[k]?.getD 0 - f) = false) : Sees hs ts f a b (k + 1) := by
  intro j hj
  have h2 := h j hj
  by_cases e : j = k
  · subst e
    rw [if_neg (Nat.lt_irrefl j), if_neg (Nat.lt_irrefl j)] at h2
    have hne : ¬ seeB (hs[j]?.getD 0) (ts[j]?.getD 0 - f) = true := by rw [hB]; exact Bool.false_ne_true
    have e1 : seeH (hs[j]?.getD 0) (ts[j]?.getD 0 - f) = 0 := by unfold seeH; rw [if_neg hne]
    have e2 : seeT (hs[j]?.getD 0) (ts[j]?.getD 0 - f) = 0 := by unfold seeT; rw [if_neg hne]
    rw [if_pos (Nat.lt_succ_self j), if_pos (Nat.lt_succ_self j), e1, e2]
    exact h2
  · by_cases e2 : j < k
    · rw [if_pos e2, if_pos e2] at h2
      rw [if_pos (by omega), if_pos (by omega)]
      exact h2
    · rw [if_neg e2, if_neg e2] at h2
      rw [if_neg (by omega), if_neg (by omega)]
      exact h2

theorem sees_all {hs ts a b : List Int} {f : Int} (ha : a.length = 24) (hb : b.length = 24) (h : Sees hs ts f a b 24) : a = seeHL hs ts f ∧ b = seeTL hs ts f :=
  ⟨list_of_getD ha (fun j hj => by have := (h j hj).1; rw [if_pos hj] at this; exact this), list_of_getD hb (fun j hj => by have := (h j hj).2; rw [if_pos hj] at this; exact this)⟩

def SeeI (w : World) (hs ts : List Int) (f : Int) (b1 b2 b3 : Nat) (pre : List Hr) (W : World) : Prop :=
  ∃ a b : List Int, a.length = 24 ∧ b.length = 24 ∧ W.heap[w.heap.size]? = some (.cells (sunC hs ts) 59 (0, 0)) ∧ W.heap[b1]? = some (.cells #[.int .i64 f] 2 (0, 0)) ∧ W.heap[b2]? = some (.cells (sunC zer zer) 59 (0, 0)) ∧ W.heap[b3]? = some (.cells (sunC a b) 59 (0, 0)) ∧ (Good pre → Sees hs ts f a b pre.length) ∧ Below w.heap.size w W

theorem seeI_own (w : World) (hs ts : List Int) (f : Int) (b1 b2 b3 : Nat) (B : Nat) (hB : w.heap.size ≤ B) : OwnFrom B (SeeI w hs ts f b1 b2 b3) := by
  intro s W W' row ⟨x, y, hx, hy, h0, h1, h2, h3, hg, hb⟩ hg' hr
  have hr2 := fun r e => (hr r e).2
  exact ⟨x, y, hx, hy, heap_kept h0 hg' hr2, heap_kept h1 hg' hr2, heap_kept h2 hg' hr2, heap_kept h3 hg' hr2, hg, ownFrom_below (β := Unit) (Nat.le_refl _) hB () W W' row hb hg' hr⟩

set_option maxRecDepth 100000 in
set_option maxHeartbeats 4000000 in
theorem seenFrom_any (hs ts : List Int) (hh : hs.length = 24) (ht : ts.length = 24) (h1 : okB hs ts = true) (f : Int) (f0 : 0 ≤ f) (f1 : f ≤ 255) (w : World) :
    Calls Try.prog 80 #[.agg (sunC hs ts), .int .i64 f] w fun e w' => e = .returned (.agg (sunC (seeHL hs ts f) (seeTL hs ts f))) ∧ Below w.heap.size w w' := by
  refine (callsIn_wide (n := 4)).1 ?_
  have HOK := Lib.hid h1
  have Hh := Lib.hid hh
  have Ht := Lib.hid ht
  clear hh ht h1
  refine callsIn_of_wp_marks Try.func80 rfl trivial ?_ rfl
  simp only [Try.ntmps80, List.size_toArray, List.length_cons, List.length_nil, Nat.reduceAdd, Nat.reduceSub, Array.replicate_succ, Array.replicate_zero, List.push_toArray, List.append_toArray, List.nil_append, List.cons_append]
  refine wpIn_wide.2 ?_
  go_upto_region 2 with (fail)
  refine abs_code (fun W => W.heap[w.heap.size]? = some (.cells (sunC hs ts) 59 (0, 0)) ∧ W.heap[w.heap.size + 1]? = some (.cells #[.int .i64 f] 2 (0, 0)) ∧ W.heap[w.heap.size + 1 + 1]? = some (.cells (sunC zer zer) 59 (0, 0)) ∧ W.heap[w.heap.size + 1 + 1 + 1]? = some (.cells (sunC zer zer) 59 (0, 0)) ∧ Below w.heap.size w W) ⟨(four_new _ _ _ _ _).1, (four_new _ _ _ _ _).2.1, (four_new _ _ _ _ _).2.2.1, (four_new _ _ _ _ _).2.2.2.1, (four_new _ _ _ _ _).2.2.2.2⟩ ?_
  rintro W0 ⟨r0, r1, r2, r3, hb⟩
  have hl3 := row_lt r3
  have n01 : w.heap.size < w.heap.size + 1 := by omega
  have n12 : w.heap.size + 1 < w.heap.size + 1 + 1 := by omega
  have n23 : w.heap.size + 1 + 1 < w.heap.size + 1 + 1 + 1 := by omega
  generalize w.heap.size + 1 + 1 + 1 = b3 at *
  generalize w.heap.size + 1 + 1 = b2 at *
  generalize w.heap.size + 1 = b1 at *
  have hle : w.heap.size ≤ W0.heap.size := hb.size
  have R0 := Lib.hid r0
  have R1 := Lib.hid r1
  have R2 := Lib.hid r2
  have R3 := Lib.hid r3
  have HB := Lib.hid hb
  clear r0 r1 r2 r3 hb
  go_wp2
  refine (wpIn_wide (n := 4)).1 ?_
  refine wpIn_rangeFunc_ownF rfl (by decide) (gf := 101) (lb := #[]) rfl trivial (enters_of Try.func101 (by kernel_rfl) rfl)
    (eachHour_stops Fence.wide _ trivial rfl (by decide) w.heap.size _) belowK_t (belowK_b hle) (Below.refl _ _) (fun _ => rfl)
    (SeeI w hs ts f b1 b2 b3) (fun _ _ _ => False) (seeI_own w hs ts f b1 b2 b3 _ (by first | (simp; done) | (simp; omega) | exact hle)) (fun _ _ _ _ _ hs _ _ => hs) ?h0
    (fun x => { tmps := #[.agg (sunC hs ts), .int .i64 f, .pointer (some ⟨w.heap.size, 0, none⟩), .pointer (some ⟨b1, 0, none⟩), .pointer (some ⟨b2, 0, none⟩), .pointer (some ⟨b3, 0, none⟩), .int .i64 x.1, undef, .int .i64 x.1, undef, undef, undef, undef, undef, undef, undef, undef, undef, undef, undef, undef, undef, undef, undef, undef, undef, undef, undef, undef, undef, undef, undef, undef, undef, undef, undef, undef, undef, undef, undef], defers := [] }) ?assign ?body ?done ?stop
  case h0 => exact ⟨zer, zer, rfl, rfl, R0.out, R1.out, R2.out, R3.out, fun _ => sees_start hs ts f, HB.out⟩
  case assign =>
    intro l x W K hK
    gi_wp2
    exact hK
  case body =>
    clear R0 R1 R2 R3 HB
    rintro l pre ⟨x, hx0, hx1⟩ W ⟨a, b, ha, hbl, h0, h1, h2, h3, hg, hbw⟩ hl
    obtain ⟨k, rfl⟩ := Int.eq_ofNat_of_zero_le hx0
    have hk : k < 24 := by omega
    have hty := ok_t Ht.out HOK.out hk
    have HU0 := fun w => upAt_any hs ts Hh.out (k : Int) hx0 hx1 w
    have eat : atH hs (k : Int) = hs[k]?.getD 0 := rfl
    rw [eat] at HU0
    clear eat
    obtain ⟨x, ex⟩ : ∃ x, hs[k]?.getD 0 = x := ⟨_, rfl⟩
    obtain ⟨y, ey⟩ : ∃ y, ts[k]?.getD 0 = y := ⟨_, rfl⟩
    rw [ex] at HU0
    rw [ey] at hty
    have EX := Lib.hid ex
    have EY := Lib.hid ey
    have H0 := Lib.hid h0
    have H1 := Lib.hid h1
    have H2 := Lib.hid h2
    have H3 := Lib.hid h3
    have HBW := Lib.hid hbw
    have a0 := angB_lo (y - f)
    have a1 := angB_hi (y - f)
    have hw1 := i64_small y (by omega) (by omega)
    have hw2 := i64_small (y - f) (by omega) (by omega)
    have z1 : (k : Int) < 24 := by omega
    have z2 : (0 : Int) ≤ (k : Int) := by omega
    have hpk : Good (pre ++ [⟨(k : Int), hx0, hx1⟩]) → Good pre ∧ k = pre.length := fun hgs => by
      obtain ⟨hgp, hxk⟩ := good_snoc hgs hl
      exact ⟨hgp, by have : (k : Int) = (pre.length : Int) := hxk; omega⟩
    clear h0 h1 h2 h3 hbw hty
    by_cases hu : 0 < x
    · have HU : Hid (∀ w, Calls Try.prog 103 #[.agg (sunC hs ts), .int .i64 (k : Int)] w fun e w' => e = .returned (.bool true) ∧ Below w.heap.size w w') := by rw [decide_eq_true hu] at HU0; exact HU0
      clear HU0
      by_cases ha1 : angB (y - f) < 64
      · have za := decide_eq_true ha1
        have hsb : seeB (hs[k]?.getD 0) (ts[k]?.getD 0 - f) = true := by rw [ex, ey]; unfold seeB; simp; omega
        have HM : Hid (Good (pre ++ [⟨(k : Int), hx0, hx1⟩]) → Sees hs ts f (a.set k x) (b.set k (angB (y - f))) (pre ++ [(⟨(k : Int), hx0, hx1⟩ : Hr)]).length) := Lib.hid (fun hgs => by
          obtain ⟨hgp, hkl⟩ := hpk hgs
          rw [List.length_append, List.length_singleton, ← hkl]
          have h := sees_hit ha hbl hk (by rw [hkl]; exact hg hgp) hsb
          rw [ex, ey] at h
          exact h)
        have HX := Lib.hid ha
        have HY := Lib.hid hbl
        clear hg hpk hsb ex ey ha hbl
        refine wpIn_block (wpIn_seq ?_)
        refine region_round (S := (fun V => V.heap[w.heap.size]? = some (.cells (sunC hs ts) 59 (0, 0)) ∧ V.heap[b1]? = some (.cells #[.int .i64 f] 2 (0, 0)))) arrU (no_defer (by rfl)) (fun ⟨_, _, h⟩ => h) ⟨H0.out, H1.out⟩ (fun hHeld => ?_)
        refine take_at (i := 0) (d := 9) (v := ?_) rfl rfl (by kernel_rfl) (by kernel_rfl) (by kernel_rfl) (fun _ _ _ h => h) (Or.inl ⟨by rfl, ?hy0b1⟩) hHeld ?rest0b1
        case hy0b1 =>
          intro w' hS'
          go_simp
          try with_reducible rfl
        simp only [List.setIfInBounds_toArray, List.set_cons_zero, List.set_cons_succ]
        refine take_at (i := 1) (d := 10) (v := ?_) rfl rfl (by kernel_rfl) (by kernel_rfl) (by kernel_rfl) (fun _ _ _ h => h) (Or.inl ⟨by rfl, ?hy1b2⟩) hHeld ?rest1b2
        case hy1b2 =>
          intro w' hS'
          go_simp
          try with_reducible rfl
        simp only [List.setIfInBounds_toArray, List.set_cons_zero, List.set_cons_succ]
        refine take_at (i := 2) (d := 11) (v := ?_) rfl rfl (by kernel_rfl) (by kernel_rfl) (by kernel_rfl) (fun _ _ _ h => h) (Or.inl ⟨by rfl, ?hy2b3⟩) hHeld ?rest2b3
        case hy2b3 =>
          intro w' hS'
          go_simp
          try with_reducible rfl
        simp only [List.setIfInBounds_toArray, List.set_cons_zero, List.set_cons_succ]
        refine take_at (i := 3) (d := 12) (v := ?_) rfl rfl (by kernel_rfl) (by kernel_rfl) (by kernel_rfl) (fun _ _ _ h => h) (Or.inl ⟨by rfl, ?hy3b4⟩) hHeld ?rest3b4
        case hy3b4 =>
          intro w' hS'
          have q := cell_sun_t hS'.1 Hh.out Ht.out k hk
          rw [EY.out] at q
          go_simp
          try with_reducible rfl
        simp only [List.setIfInBounds_toArray, List.set_cons_zero, List.set_cons_succ]
        refine take_at (i := 4) (d := 13) (v := ?_) rfl rfl (by kernel_rfl) (by kernel_rfl) (by kernel_rfl) (fun _ _ _ h => h) (Or.inl ⟨by rfl, ?hy4b5⟩) hHeld ?rest4b5
        case hy4b5 =>
          intro w' hS'
          go_simp
          try with_reducible rfl
        simp only [List.setIfInBounds_toArray, List.set_cons_zero, List.set_cons_succ]
        refine take_at (i := 5) (d := 14) (v := ?_) rfl rfl (by kernel_rfl) (by kernel_rfl) (by kernel_rfl) (fun _ _ _ h => h) (Or.inl ⟨by rfl, ?hy5b6⟩) hHeld ?rest5b6
        case hy5b6 =>
          intro w' hS'
          have q : w'.cell? ⟨b1, 0, none⟩ = some (.int .i64 f) := by rw [cell_of_row _ _ _ _ _ _ hS'.2]; rfl
          go_simp
          try with_reducible rfl
        simp only [List.setIfInBounds_toArray, List.set_cons_zero, List.set_cons_succ]
        refine take_at (i := 6) (d := 15) (v := ?_) rfl rfl (by kernel_rfl) (by kernel_rfl) (by kernel_rfl) (fun _ _ _ h => h) (Or.inl ⟨by rfl, ?hy6b7⟩) hHeld ?rest6b7
        case hy6b7 =>
          intro w' hS'
          go_simp
          try with_reducible rfl
        simp only [List.setIfInBounds_toArray, List.set_cons_zero, List.set_cons_succ]
        refine wpAnyH_ready (rs := [7]) (by kernel_rfl) (by simp) ?_
        refine AllReadyH.cons rfl (fun K hK => ?_) AllReadyH.nil
        go_simp
        refine (angleOf_any (y - f) _).mono ?_
        rintro e w' ⟨rfl, rfl⟩
        refine hK.out _ _ hHeld (fun hHeld2 => ?_)
        clear hK K
        replace hHeld := hHeld2
        clear hHeld2
        refine take_at (i := 8) (d := 7) (v := ?_) rfl rfl (by kernel_rfl) (by kernel_rfl) (by kernel_rfl) (fun _ _ _ h => h) (Or.inl ⟨by rfl, ?hy8b8⟩) hHeld ?rest8b8
        case hy8b8 =>
          intro w' hS'
          go_simp
          try with_reducible rfl
        simp only [List.setIfInBounds_toArray, List.set_cons_zero, List.set_cons_succ]
        refine wpAnyH_done (by kernel_rfl) ?_ _
        clear hHeld
        refine wpIn_seq ?_
        refine region_list_round (by rfl) (fun ⟨_, _, h⟩ => h) ?_
        go_wp2_with (first | (refine wpList_load_part rfl 59 _ rfl w.heap.size 0 48 rfl 59 (sunC hs ts) (0, 0) _ H0.out Try.underlying59 rfl info_sun (sun_fits _ _ Hh.out Ht.out) (sunC hs ts) (sun_all _ _ Hh.out Ht.out) ?_) | (go_at_call 103; refine (HU.out _).mono ?_; rintro e W1 ⟨rfl, hb1⟩))
        have HB1 : Hid (Below W.heap.size W W1) := (Below.refl W.heap.size W).drew.trans hb1
        clear hb1
        have hwW := HBW.out.size
        have r0 := below_row HB1.out H0.out
        have r1 := below_row HB1.out H1.out
        have r2 := below_row HB1.out H2.out
        have r3 := below_row HB1.out H3.out
        have c1 := cell_sun_h r0 Hh.out k hk
        rw [EX.out] at c1
        have c2 := cell_sun_h r3 HX.out k hk
        have f2 := frozen_of_row _ b3 k _ _ r3
        have s0 := (heap_setCell_other W1 ⟨b3, k, none⟩ _ (.int .i16 x) (by simp; omega)).trans r0
        have s1 := (heap_setCell_other W1 ⟨b3, k, none⟩ _ (.int .i16 x) (by simp; omega)).trans r1
        have s2 := (heap_setCell_other W1 ⟨b3, k, none⟩ _ (.int .i16 x) (by simp; omega)).trans r2
        have s3 := sun_set_h r3 k (by rw [HX.out]; exact hk) x
        have c4 := cell_sun_t s3 (by simp [HX.out]) HY.out k hk
        have f4 := frozen_of_row _ b3 (24 + k) _ _ s3
        have R0 := Lib.hid ((heap_setCell_other (W1.setCell ⟨b3, k, none⟩ (.int .i16 x)) ⟨b3, 24 + k, none⟩ _ (.int .i16 (angB (y - f))) (by simp; omega)).trans s0)
        have R1 := Lib.hid ((heap_setCell_other (W1.setCell ⟨b3, k, none⟩ (.int .i16 x)) ⟨b3, 24 + k, none⟩ _ (.int .i16 (angB (y - f))) (by simp; omega)).trans s1)
        have R2 := Lib.hid ((heap_setCell_other (W1.setCell ⟨b3, k, none⟩ (.int .i16 x)) ⟨b3, 24 + k, none⟩ _ (.int .i16 (angB (y - f))) (by simp; omega)).trans s2)
        have R3 := Lib.hid (sun_set_t s3 (by simp [HX.out]) k (angB (y - f)))
        have hle3 : w.heap.size ≤ b3 := by omega
        clear r0 r1 r2 r3 s0 s1 s2 s3
        gi_wp2
        exact ⟨((keeps_of_below HB1.out).trans (KeepsOthers.setCell _ _ _)).trans (KeepsOthers.setCell _ _ _), ((HB1.out.mono hwW).setCell (p := ⟨b3, k, none⟩) hle3 _).setCell (p := ⟨b3, 24 + k, none⟩) hle3 _, a.set k x, b.set k (angB (y - f)), by simp [HX.out], by simp [HY.out], R0.out, R1.out, R2.out, R3.out, HM.out, ((HBW.out.trans (HB1.out.mono hwW)).setCell (p := ⟨b3, k, none⟩) hle3 _).setCell (p := ⟨b3, 24 + k, none⟩) hle3 _⟩
      · have za := decide_eq_false ha1
        by_cases ha2 : 192 < angB (y - f)
        · have zb : decide (angB (y - f) > 192) = true := decide_eq_true ha2
          have hsb : seeB (hs[k]?.getD 0) (ts[k]?.getD 0 - f) = true := by rw [ex, ey]; unfold seeB; simp; omega
          have HM : Hid (Good (pre ++ [⟨(k : Int), hx0, hx1⟩]) → Sees hs ts f (a.set k x) (b.set k (angB (y - f))) (pre ++ [(⟨(k : Int), hx0, hx1⟩ : Hr)]).length) := Lib.hid (fun hgs => by
            obtain ⟨hgp, hkl⟩ := hpk hgs
            rw [List.length_append, List.length_singleton, ← hkl]
            have h := sees_hit ha hbl hk (by rw [hkl]; exact hg hgp) hsb
            rw [ex, ey] at h
            exact h)
          have HX := Lib.hid ha
          have HY := Lib.hid hbl
          clear hg hpk hsb ex ey ha hbl
          refine wpIn_block (wpIn_seq ?_)
          refine region_round (S := (fun V => V.heap[w.heap.size]? = some (.cells (sunC hs ts) 59 (0, 0)) ∧ V.heap[b1]? = some (.cells #[.int .i64 f] 2 (0, 0)))) arrU (no_defer (by rfl)) (fun ⟨_, _, h⟩ => h) ⟨H0.out, H1.out⟩ (fun hHeld => ?_)
          refine take_at (i := 0) (d := 9) (v := ?_) rfl rfl (by kernel_rfl) (by kernel_rfl) (by kernel_rfl) (fun _ _ _ h => h) (Or.inl ⟨by rfl, ?hy0b9⟩) hHeld ?rest0b9
          case hy0b9 =>
            intro w' hS'
            go_simp
            try with_reducible rfl
          simp only [List.setIfInBounds_toArray, List.set_cons_zero, List.set_cons_succ]
          refine take_at (i := 1) (d := 10) (v := ?_) rfl rfl (by kernel_rfl) (by kernel_rfl) (by kernel_rfl) (fun _ _ _ h => h) (Or.inl ⟨by rfl, ?hy1b10⟩) hHeld ?rest1b10
          case hy1b10 =>
            intro w' hS'
            go_simp
            try with_reducible rfl
          simp only [List.setIfInBounds_toArray, List.set_cons_zero, List.set_cons_succ]
          refine take_at (i := 2) (d := 11) (v := ?_) rfl rfl (by kernel_rfl) (by kernel_rfl) (by kernel_rfl) (fun _ _ _ h => h) (Or.inl ⟨by rfl, ?hy2b11⟩) hHeld ?rest2b11
          case hy2b11 =>
            intro w' hS'
            go_simp
            try with_reducible rfl
          simp only [List.setIfInBounds_toArray, List.set_cons_zero, List.set_cons_succ]
          refine take_at (i := 3) (d := 12) (v := ?_) rfl rfl (by kernel_rfl) (by kernel_rfl) (by kernel_rfl) (fun _ _ _ h => h) (Or.inl ⟨by rfl, ?hy3b12⟩) hHeld ?rest3b12
          case hy3b12 =>
            intro w' hS'
            have q := cell_sun_t hS'.1 Hh.out Ht.out k hk
            rw [EY.out] at q
            go_simp
            try with_reducible rfl
          simp only [List.setIfInBounds_toArray, List.set_cons_zero, List.set_cons_succ]
          refine take_at (i := 4) (d := 13) (v := ?_) rfl rfl (by kernel_rfl) (by kernel_rfl) (by kernel_rfl) (fun _ _ _ h => h) (Or.inl ⟨by rfl, ?hy4b13⟩) hHeld ?rest4b13
          case hy4b13 =>
            intro w' hS'
            go_simp
            try with_reducible rfl
          simp only [List.setIfInBounds_toArray, List.set_cons_zero, List.set_cons_succ]
          refine take_at (i := 5) (d := 14) (v := ?_) rfl rfl (by kernel_rfl) (by kernel_rfl) (by kernel_rfl) (fun _ _ _ h => h) (Or.inl ⟨by rfl, ?hy5b14⟩) hHeld ?rest5b14
          case hy5b14 =>
            intro w' hS'
            have q : w'.cell? ⟨b1, 0, none⟩ = some (.int .i64 f) := by rw [cell_of_row _ _ _ _ _ _ hS'.2]; rfl
            go_simp
            try with_reducible rfl
          simp only [List.setIfInBounds_toArray, List.set_cons_zero, List.set_cons_succ]
          refine take_at (i := 6) (d := 15) (v := ?_) rfl rfl (by kernel_rfl) (by kernel_rfl) (by kernel_rfl) (fun _ _ _ h => h) (Or.inl ⟨by rfl, ?hy6b15⟩) hHeld ?rest6b15
          case hy6b15 =>
            intro w' hS'
            go_simp
            try with_reducible rfl
          simp only [List.setIfInBounds_toArray, List.set_cons_zero, List.set_cons_succ]
          refine wpAnyH_ready (rs := [7]) (by kernel_rfl) (by simp) ?_
          refine AllReadyH.cons rfl (fun K hK => ?_) AllReadyH.nil
          go_simp
          refine (angleOf_any (y - f) _).mono ?_
          rintro e w' ⟨rfl, rfl⟩
          refine hK.out _ _ hHeld (fun hHeld2 => ?_)
          clear hK K
          replace hHeld := hHeld2
          clear hHeld2
          refine take_at (i := 8) (d := 7) (v := ?_) rfl rfl (by kernel_rfl) (by kernel_rfl) (by kernel_rfl) (fun _ _ _ h => h) (Or.inl ⟨by rfl, ?hy8b16⟩) hHeld ?rest8b16
          case hy8b16 =>
            intro w' hS'
            go_simp
            try with_reducible rfl
          simp only [List.setIfInBounds_toArray, List.set_cons_zero, List.set_cons_succ]
          refine wpAnyH_done (by kernel_rfl) ?_ _
          clear hHeld
          refine wpIn_seq ?_
          refine region_list_round (by rfl) (fun ⟨_, _, h⟩ => h) ?_
          go_wp2_with (first | (refine wpList_load_part rfl 59 _ rfl w.heap.size 0 48 rfl 59 (sunC hs ts) (0, 0) _ H0.out Try.underlying59 rfl info_sun (sun_fits _ _ Hh.out Ht.out) (sunC hs ts) (sun_all _ _ Hh.out Ht.out) ?_) | (go_at_call 103; refine (HU.out _).mono ?_; rintro e W1 ⟨rfl, hb1⟩))
          have HB1 : Hid (Below W.heap.size W W1) := (Below.refl W.heap.size W).drew.trans hb1
          clear hb1
          have hwW := HBW.out.size
          have r0 := below_row HB1.out H0.out
          have r1 := below_row HB1.out H1.out
          have r2 := below_row HB1.out H2.out
          have r3 := below_row HB1.out H3.out
          have c1 := cell_sun_h r0 Hh.out k hk
          rw [EX.out] at c1
          have c2 := cell_sun_h r3 HX.out k hk
          have f2 := frozen_of_row _ b3 k _ _ r3
          have s0 := (heap_setCell_other W1 ⟨b3, k, none⟩ _ (.int .i16 x) (by simp; omega)).trans r0
          have s1 := (heap_setCell_other W1 ⟨b3, k, none⟩ _ (.int .i16 x) (by simp; omega)).trans r1
          have s2 := (heap_setCell_other W1 ⟨b3, k, none⟩ _ (.int .i16 x) (by simp; omega)).trans r2
          have s3 := sun_set_h r3 k (by rw [HX.out]; exact hk) x
          have c4 := cell_sun_t s3 (by simp [HX.out]) HY.out k hk
          have f4 := frozen_of_row _ b3 (24 + k) _ _ s3
          have R0 := Lib.hid ((heap_setCell_other (W1.setCell ⟨b3, k, none⟩ (.int .i16 x)) ⟨b3, 24 + k, none⟩ _ (.int .i16 (angB (y - f))) (by simp; omega)).trans s0)
          have R1 := Lib.hid ((heap_setCell_other (W1.setCell ⟨b3, k, none⟩ (.int .i16 x)) ⟨b3, 24 + k, none⟩ _ (.int .i16 (angB (y - f))) (by simp; omega)).trans s1)
          have R2 := Lib.hid ((heap_setCell_other (W1.setCell ⟨b3, k, none⟩ (.int .i16 x)) ⟨b3, 24 + k, none⟩ _ (.int .i16 (angB (y - f))) (by simp; omega)).trans s2)
          have R3 := Lib.hid (sun_set_t s3 (by simp [HX.out]) k (angB (y - f)))
          have hle3 : w.heap.size ≤ b3 := by omega
          clear r0 r1 r2 r3 s0 s1 s2 s3
          gi_wp2
          exact ⟨((keeps_of_below HB1.out).trans (KeepsOthers.setCell _ _ _)).trans (KeepsOthers.setCell _ _ _), ((HB1.out.mono hwW).setCell (p := ⟨b3, k, none⟩) hle3 _).setCell (p := ⟨b3, 24 + k, none⟩) hle3 _, a.set k x, b.set k (angB (y - f)), by simp [HX.out], by simp [HY.out], R0.out, R1.out, R2.out, R3.out, HM.out, ((HBW.out.trans (HB1.out.mono hwW)).setCell (p := ⟨b3, k, none⟩) hle3 _).setCell (p := ⟨b3, 24 + k, none⟩) hle3 _⟩
        · have zb : decide (angB (y - f) > 192) = false := decide_eq_false ha2
          have hsb : seeB (hs[k]?.getD 0) (ts[k]?.getD 0 - f) = false := by rw [ex, ey]; unfold seeB; simp; omega
          have HM : Hid (Good (pre ++ [⟨(k : Int), hx0, hx1⟩]) → Sees hs ts f a b (pre ++ [(⟨(k : Int), hx0, hx1⟩ : Hr)]).length) := Lib.hid (fun hgs => by
            obtain ⟨hgp, hkl⟩ := hpk hgs
            rw [List.length_append, List.length_singleton, ← hkl]
            exact sees_miss (by rw [hkl]; exact hg hgp) hsb)
          have HX := Lib.hid ha
          have HY := Lib.hid hbl
          clear hg hpk hsb ex ey ha hbl
          refine wpIn_block (wpIn_seq ?_)
          refine region_round (S := (fun V => V.heap[w.heap.size]? = some (.cells (sunC hs ts) 59 (0, 0)) ∧ V.heap[b1]? = some (.cells #[.int .i64 f] 2 (0, 0)))) arrU (no_defer (by rfl)) (fun ⟨_, _, h⟩ => h) ⟨H0.out, H1.out⟩ (fun hHeld => ?_)
          refine take_at (i := 0) (d := 9) (v := ?_) rfl rfl (by kernel_rfl) (by kernel_rfl) (by kernel_rfl) (fun _ _ _ h => h) (Or.inl ⟨by rfl, ?hy0b17⟩) hHeld ?rest0b17
          case hy0b17 =>
            intro w' hS'
            go_simp
            try with_reducible rfl
          simp only [List.setIfInBounds_toArray, List.set_cons_zero, List.set_cons_succ]
          refine take_at (i := 1) (d := 10) (v := ?_) rfl rfl (by kernel_rfl) (by kernel_rfl) (by kernel_rfl) (fun _ _ _ h => h) (Or.inl ⟨by rfl, ?hy1b18⟩) hHeld ?rest1b18
          case hy1b18 =>
            intro w' hS'
            go_simp
            try with_reducible rfl
          simp only [List.setIfInBounds_toArray, List.set_cons_zero, List.set_cons_succ]
          refine take_at (i := 2) (d := 11) (v := ?_) rfl rfl (by kernel_rfl) (by kernel_rfl) (by kernel_rfl) (fun _ _ _ h => h) (Or.inl ⟨by rfl, ?hy2b19⟩) hHeld ?rest2b19
          case hy2b19 =>
            intro w' hS'
            go_simp
            try with_reducible rfl
          simp only [List.setIfInBounds_toArray, List.set_cons_zero, List.set_cons_succ]
          refine take_at (i := 3) (d := 12) (v := ?_) rfl rfl (by kernel_rfl) (by kernel_rfl) (by kernel_rfl) (fun _ _ _ h => h) (Or.inl ⟨by rfl, ?hy3b20⟩) hHeld ?rest3b20
          case hy3b20 =>
            intro w' hS'
            have q := cell_sun_t hS'.1 Hh.out Ht.out k hk
            rw [EY.out] at q
            go_simp
            try with_reducible rfl
          simp only [List.setIfInBounds_toArray, List.set_cons_zero, List.set_cons_succ]
          refine take_at (i := 4) (d := 13) (v := ?_) rfl rfl (by kernel_rfl) (by kernel_rfl) (by kernel_rfl) (fun _ _ _ h => h) (Or.inl ⟨by rfl, ?hy4b21⟩) hHeld ?rest4b21
          case hy4b21 =>
            intro w' hS'
            go_simp
            try with_reducible rfl
          simp only [List.setIfInBounds_toArray, List.set_cons_zero, List.set_cons_succ]
          refine take_at (i := 5) (d := 14) (v := ?_) rfl rfl (by kernel_rfl) (by kernel_rfl) (by kernel_rfl) (fun _ _ _ h => h) (Or.inl ⟨by rfl, ?hy5b22⟩) hHeld ?rest5b22
          case hy5b22 =>
            intro w' hS'
            have q : w'.cell? ⟨b1, 0, none⟩ = some (.int .i64 f) := by rw [cell_of_row _ _ _ _ _ _ hS'.2]; rfl
            go_simp
            try with_reducible rfl
          simp only [List.setIfInBounds_toArray, List.set_cons_zero, List.set_cons_succ]
          refine take_at (i := 6) (d := 15) (v := ?_) rfl rfl (by kernel_rfl) (by kernel_rfl) (by kernel_rfl) (fun _ _ _ h => h) (Or.inl ⟨by rfl, ?hy6b23⟩) hHeld ?rest6b23
          case hy6b23 =>
            intro w' hS'
            go_simp
            try with_reducible rfl
          simp only [List.setIfInBounds_toArray, List.set_cons_zero, List.set_cons_succ]
          refine wpAnyH_ready (rs := [7]) (by kernel_rfl) (by simp) ?_
          refine AllReadyH.cons rfl (fun K hK => ?_) AllReadyH.nil
          go_simp
          refine (angleOf_any (y - f) _).mono ?_
          rintro e w' ⟨rfl, rfl⟩
          refine hK.out _ _ hHeld (fun hHeld2 => ?_)
          clear hK K
          replace hHeld := hHeld2
          clear hHeld2
          refine take_at (i := 8) (d := 7) (v := ?_) rfl rfl (by kernel_rfl) (by kernel_rfl) (by kernel_rfl) (fun _ _ _ h => h) (Or.inl ⟨by rfl, ?hy8b24⟩) hHeld ?rest8b24
          case hy8b24 =>
            intro w' hS'
            go_simp
            try with_reducible rfl
          simp only [List.setIfInBounds_toArray, List.set_cons_zero, List.set_cons_succ]
          refine wpAnyH_done (by kernel_rfl) ?_ _
          clear hHeld
          refine wpIn_seq ?_
          refine region_list_round (by rfl) (fun ⟨_, _, h⟩ => h) ?_
          go_wp2_with (first | (refine wpList_load_part rfl 59 _ rfl w.heap.size 0 48 rfl 59 (sunC hs ts) (0, 0) _ H0.out Try.underlying59 rfl info_sun (sun_fits _ _ Hh.out Ht.out) (sunC hs ts) (sun_all _ _ Hh.out Ht.out) ?_) | (go_at_call 103; refine (HU.out _).mono ?_; rintro e W1 ⟨rfl, hb1⟩))
          have HB1 : Hid (Below W.heap.size W W1) := (Below.refl W.heap.size W).drew.trans hb1
          clear hb1
          have hwW := HBW.out.size
          have r0 := below_row HB1.out H0.out
          have r1 := below_row HB1.out H1.out
          have r2 := below_row HB1.out H2.out
          have r3 := below_row HB1.out H3.out
          have R0 := Lib.hid r0
          have R1 := Lib.hid r1
          have R2 := Lib.hid r2
          have R3 := Lib.hid r3
          clear r0 r1 r2 r3
          gi_wp2
          exact ⟨keeps_of_below HB1.out, HB1.out.mono hwW, a, b, HX.out, HY.out, R0.out, R1.out, R2.out, R3.out, HM.out, HBW.out.trans (HB1.out.mono hwW)⟩
    · have HU : Hid (∀ w, Calls Try.prog 103 #[.agg (sunC hs ts), .int .i64 (k : Int)] w fun e w' => e = .returned (.bool false) ∧ Below w.heap.size w w') := by rw [decide_eq_false hu] at HU0; exact HU0
      clear HU0
      have hsb : seeB (hs[k]?.getD 0) (ts[k]?.getD 0 - f) = false := by rw [ex, ey]; unfold seeB; simp; omega
      have HM : Hid (Good (pre ++ [⟨(k : Int), hx0, hx1⟩]) → Sees hs ts f a b (pre ++ [(⟨(k : Int), hx0, hx1⟩ : Hr)]).length) := Lib.hid (fun hgs => by
        obtain ⟨hgp, hkl⟩ := hpk hgs
        rw [List.length_append, List.length_singleton, ← hkl]
        exact sees_miss (by rw [hkl]; exact hg hgp) hsb)
      have HX := Lib.hid ha
      have HY := Lib.hid hbl
      clear hg hpk hsb ex ey ha hbl
      refine wpIn_block (wpIn_seq ?_)
      refine region_round (S := (fun V => V.heap[w.heap.size]? = some (.cells (sunC hs ts) 59 (0, 0)) ∧ V.heap[b1]? = some (.cells #[.int .i64 f] 2 (0, 0)))) arrU (no_defer (by rfl)) (fun ⟨_, _, h⟩ => h) ⟨H0.out, H1.out⟩ (fun hHeld => ?_)
      refine take_at (i := 0) (d := 9) (v := ?_) rfl rfl (by kernel_rfl) (by kernel_rfl) (by kernel_rfl) (fun _ _ _ h => h) (Or.inl ⟨by rfl, ?hy0b25⟩) hHeld ?rest0b25
      case hy0b25 =>
        intro w' hS'
        go_simp
        try with_reducible rfl
      simp only [List.setIfInBounds_toArray, List.set_cons_zero, List.set_cons_succ]
      refine take_at (i := 1) (d := 10) (v := ?_) rfl rfl (by kernel_rfl) (by kernel_rfl) (by kernel_rfl) (fun _ _ _ h => h) (Or.inl ⟨by rfl, ?hy1b26⟩) hHeld ?rest1b26
      case hy1b26 =>
        intro w' hS'
        go_simp
        try with_reducible rfl
      simp only [List.setIfInBounds_toArray, List.set_cons_zero, List.set_cons_succ]
      refine take_at (i := 2) (d := 11) (v := ?_) rfl rfl (by kernel_rfl) (by kernel_rfl) (by kernel_rfl) (fun _ _ _ h => h) (Or.inl ⟨by rfl, ?hy2b27⟩) hHeld ?rest2b27
      case hy2b27 =>
        intro w' hS'
        go_simp
        try with_reducible rfl
      simp only [List.setIfInBounds_toArray, List.set_cons_zero, List.set_cons_succ]
      refine take_at (i := 3) (d := 12) (v := ?_) rfl rfl (by kernel_rfl) (by kernel_rfl) (by kernel_rfl) (fun _ _ _ h => h) (Or.inl ⟨by rfl, ?hy3b28⟩) hHeld ?rest3b28
      case hy3b28 =>
        intro w' hS'
        have q := cell_sun_t hS'.1 Hh.out Ht.out k hk
        rw [EY.out] at q
        go_simp
        try with_reducible rfl
      simp only [List.setIfInBounds_toArray, List.set_cons_zero, List.set_cons_succ]
      refine take_at (i := 4) (d := 13) (v := ?_) rfl rfl (by kernel_rfl) (by kernel_rfl) (by kernel_rfl) (fun _ _ _ h => h) (Or.inl ⟨by rfl, ?hy4b29⟩) hHeld ?rest4b29
      case hy4b29 =>
        intro w' hS'
        go_simp
        try with_reducible rfl
      simp only [List.setIfInBounds_toArray, List.set_cons_zero, List.set_cons_succ]
      refine take_at (i := 5) (d := 14) (v := ?_) rfl rfl (by kernel_rfl) (by kernel_rfl) (by kernel_rfl) (fun _ _ _ h => h) (Or.inl ⟨by rfl, ?hy5b30⟩) hHeld ?rest5b30
      case hy5b30 =>
        intro w' hS'
        have q : w'.cell? ⟨b1, 0, none⟩ = some (.int .i64 f) := by rw [cell_of_row _ _ _ _ _ _ hS'.2]; rfl
        go_simp
        try with_reducible rfl
      simp only [List.setIfInBounds_toArray, List.set_cons_zero, List.set_cons_succ]
      refine take_at (i := 6) (d := 15) (v := ?_) rfl rfl (by kernel_rfl) (by kernel_rfl) (by kernel_rfl) (fun _ _ _ h => h) (Or.inl ⟨by rfl, ?hy6b31⟩) hHeld ?rest6b31
      case hy6b31 =>
        intro w' hS'
        go_simp
        try with_reducible rfl
      simp only [List.setIfInBounds_toArray, List.set_cons_zero, List.set_cons_succ]
      refine wpAnyH_ready (rs := [7]) (by kernel_rfl) (by simp) ?_
      refine AllReadyH.cons rfl (fun K hK => ?_) AllReadyH.nil
      go_simp
      refine (angleOf_any (y - f) _).mono ?_
      rintro e w' ⟨rfl, rfl⟩
      refine hK.out _ _ hHeld (fun hHeld2 => ?_)
      clear hK K
      replace hHeld := hHeld2
      clear hHeld2
      refine take_at (i := 8) (d := 7) (v := ?_) rfl rfl (by kernel_rfl) (by kernel_rfl) (by kernel_rfl) (fun _ _ _ h => h) (Or.inl ⟨by rfl, ?hy8b32⟩) hHeld ?rest8b32
      case hy8b32 =>
        intro w' hS'
        go_simp
        try with_reducible rfl
      simp only [List.setIfInBounds_toArray, List.set_cons_zero, List.set_cons_succ]
      refine wpAnyH_done (by kernel_rfl) ?_ _
      clear hHeld
      refine wpIn_seq ?_
      refine region_list_round (by rfl) (fun ⟨_, _, h⟩ => h) ?_
      go_wp2_with (first | (refine wpList_load_part rfl 59 _ rfl w.heap.size 0 48 rfl 59 (sunC hs ts) (0, 0) _ H0.out Try.underlying59 rfl info_sun (sun_fits _ _ Hh.out Ht.out) (sunC hs ts) (sun_all _ _ Hh.out Ht.out) ?_) | (go_at_call 103; refine (HU.out _).mono ?_; rintro e W1 ⟨rfl, hb1⟩))
      have HB1 : Hid (Below W.heap.size W W1) := (Below.refl W.heap.size W).drew.trans hb1
      clear hb1
      have hwW := HBW.out.size
      have r0 := below_row HB1.out H0.out
      have r1 := below_row HB1.out H1.out
      have r2 := below_row HB1.out H2.out
      have r3 := below_row HB1.out H3.out
      have R0 := Lib.hid r0
      have R1 := Lib.hid r1
      have R2 := Lib.hid r2
      have R3 := Lib.hid r3
      clear r0 r1 r2 r3
      gi_wp2
      exact ⟨keeps_of_below HB1.out, HB1.out.mono hwW, a, b, HX.out, HY.out, R0.out, R1.out, R2.out, R3.out, HM.out, HBW.out.trans (HB1.out.mono hwW)⟩
  case done =>
    clear R0 R1 R2 R3 HB
    rintro D zs V hD rfl ⟨a, b, ha, hbl, h0, h1, h2, h3, hg, hb⟩ hK
    rename_i K hcont
    have hD' : w.heap.size ≤ D := by first | omega | (simp at hD; omega)
    have hDb : D ≠ b2 := by first | omega | (simp at hD; omega)
    have hM := hg good_all
    rw [hrs_length] at hM
    obtain ⟨rfl, rfl⟩ := sees_all ha hbl hM
    have H2 := Lib.hid h2
    have H3 := Lib.hid h3
    have HK := Lib.hid hK
    clear hg h0 h1 h2 h3 hD hK hM ha hbl
    refine hcont _ _ ?_
    have hle2 : w.heap.size ≤ b2 := by omega
    have LA := Lib.hid (seeHL_len hs ts f)
    have LB := Lib.hid (seeTL_len hs ts f)
    go_wp2_with (first | (refine wpList_load_part rfl 59 _ rfl b3 0 48 rfl 59 (sunC (seeHL hs ts f) (seeTL hs ts f)) (0, 0) _ H3.out Try.underlying59 rfl info_sun (sun_fits _ _ LA.out LB.out) (sunC (seeHL hs ts f) (seeTL hs ts f)) (sun_all _ _ LA.out LB.out) ?_) | (refine wpList_store_part rfl 59 _ _ rfl b2 0 (sunC (seeHL hs ts f) (seeTL hs ts f)) rfl rfl 59 _ H2.out (by rw [sunC_size _ _ LA.out LB.out]; exact info_sun) (by rw [sunC_size _ _ LA.out LB.out]; decide) (i16s_one _) ?_; rw [laid_all _ _ (by rw [sunC_size _ _ LA.out LB.out]; rfl)]))
    have hK2 : (V.setRow b2 (sunC (seeHL hs ts f) (seeTL hs ts f))).heap[D]? = some (.deferred (some [])) := (setRow_other _ _ _ _ hDb).trans HK.out
    have hR := setRow_heap V b2 _ (sunC (seeHL hs ts f) (seeTL hs ts f)) _ _ H2.out
    refine ⟨by simp, .inl ⟨_, _, rfl, run_takeDeferred hK2, ?_⟩⟩
    refine ⟨.agg (sunC (seeHL hs ts f) (seeTL hs ts f)), results_cell_row (fn := Try.f80) rfl _ _ _ _ _ _ _ rfl ((World.putObj_heap_other (Ne.symm hDb)).trans hR) Try.underlying59 rfl (by rw [sunC_size _ _ LA.out LB.out]; exact info_sun), rfl, ?_⟩
    exact (below_setRow hb hle2 _).trans (belowK_b (w := w) (Nat.le_refl _) _ D _ _ hD' hK2 rfl rfl)
  case stop =>
    rintro D c pre W _ _ h _
    exact h.elim

end Go.Proofs.Ytmniodfdoidffaa
