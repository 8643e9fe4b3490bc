/-
  The light that passes into a window on a day: the program's walk over the hours.
-/
import Derived.Test.YteagbfobnjfhcabWithBS
import Derived.Test.YteagbfobnjfhcabDay
import Derived.Test.YteagbfobnjfhcabNew
namespace Go.Proofs.Yteagbfobnjfhcab
open Go.RowKit Go.Shelf

attribute [local go_sem] Oper.semAt_some run_store_float

theorem wp_onlyD {P : Program} {c : Code} {K : Act → World → Prop} {Q : Exit → Act → World → Prop} {a : Act} {w : World} (h : c.wp P (Exit.then K (fun _ _ _ => False)) a w) : c.wp P (Exit.then K Q) a w :=
  Code.wp_mono (fun e a w h => by cases e <;> first | exact h | exact h.elim) h

/-- What the walk keeps: all that lay there, and the sum so far in the next block. -/
def DayI (W0 : World) (g : Nat → Nat) (pre : List Hr) (W : World) : Prop :=
  ∃ s : Nat, pos32 s = true ∧ Below W0.heap.size W0 W ∧ W.heap[W0.heap.size]? = some (.cells #[.float .f32 s] 22 (0, 0)) ∧ (Good pre → s = sumTo g pre.length)

theorem dayI_own (W0 : World) (g : Nat → Nat) (B : Nat) (hB : W0.heap.size ≤ B) : OwnFrom B (DayI W0 g) := by
  intro s W W' row ⟨x, hx, hb, h1, hg⟩ hg' hr
  have hr2 := fun r e => (hr r e).2
  exact ⟨x, hx, ownFrom_below (β := Unit) (Nat.le_refl _) hB () W W' row hb hg' hr, heap_kept h1 hg' hr2, hg⟩

theorem day_step {W0 W W1 : World} {n0 : Nat} {g : Nat → Nat} {pre : List Hr} {k : Nat} {h01 : 0 ≤ (k : Int) ∧ (k : Int) < 24} {s : Nat} (hn : n0 ≤ W0.heap.size) (hl : pre.length < 24) (hs0 : pos32 s = true) (hg0 : pos32 (g k) = true)
    (hgood : Good pre → s = sumTo g pre.length) (hk : KeepsOthers W W1) (hbW : Below n0 W W1) (hb : Below W0.heap.size W0 W1) (hS : W1.heap[W0.heap.size]? = some (.cells #[.float .f32 s] 22 (0, 0))) :
    KeepsOthers W (W1.setCell ⟨W0.heap.size, 0, none⟩ (.float .f32 (fadd s (g k)))) ∧ Below n0 W (W1.setCell ⟨W0.heap.size, 0, none⟩ (.float .f32 (fadd s (g k)))) ∧ DayI W0 g (pre ++ [⟨k, h01⟩]) (W1.setCell ⟨W0.heap.size, 0, none⟩ (.float .f32 (fadd s (g k)))) := by
  refine ⟨hk.trans (KeepsOthers.setCell _ _ _), hbW.setCell (p := ⟨W0.heap.size, 0, none⟩) hn _, fadd s (g k), (add_ok hs0 hg0).2, hb.setCell (p := ⟨W0.heap.size, 0, none⟩) (Nat.le_refl _) _, ?_, ?_⟩
  · rw [heap_setCell_same _ _ _ _ _ _ hS]; rfl
  · intro hgs
    obtain ⟨hgp, hxk⟩ := good_snoc hgs hl
    have hkl : k = pre.length := by have : (k : Int) = (pre.length : Int) := hxk; omega
    rw [List.length_append, List.length_singleton, sumTo_succ, ← hgood hgp, hkl]

set_option maxRecDepth 100000 in
set_option maxHeartbeats 1000000 in
theorem implPassDay_yes (n : Int) (wd gp : Nat) (t : Int) (sh : Nat) (hs ts : List Int) (hh : hs.length = 24) (ht : ts.length = 24) (bw : BlWf n wd gp t sh) (facing : Int) (hk : okBl n wd gp t sh = true) (ho : okB hs ts = true) (h3 : inF facing = true) (w : World) :
    Calls Try.prog 31 #[.agg (blindC n wd gp t sh), .agg (sunC hs ts), .int .i64 facing] w fun e w' => e = .returned (.tuple #[.float .f32 (sumTo (fun h => winB wd gp t sh hs ts (h : Int) facing) 24), .int .i64 (0)]) ∧ Below w.heap.size w w' := by
  refine (callsIn_wide (n := 4)).1 ?_
  obtain ⟨T0, T1⟩ := blwf_t bw
  have OK := blok_of bw hk
  have HP := Lib.hid (fun w => passer_any n wd gp t sh OK w)
  have HW : Hid (∀ (p1 p2 : Nat) (k : Int), 0 ≤ k → k < 24 → ∀ w, w.heap[p1]? = some (.cells (blindC n wd gp t sh) 44 (0, 0)) → w.heap[p2]? = some (.cells #[.float .f32 (opnB wd gp t 1)] 22 (0, 0)) → Calls Try.prog 90 #[.func (.func 124) #[] #[.pointer (some ⟨p1, 0, none⟩), .pointer (some ⟨p2, 0, none⟩)], .agg (sunC hs ts), .int .i64 k, .int .i64 facing] w fun e w' => e = .returned (.float .f32 (winB wd gp t sh hs ts k facing)) ∧ Below w.heap.size w w') :=
    fun p1 p2 k h0 h24 w c1 c2 => windowAt_any n wd gp t sh hs ts hh ht OK k facing h0 h24 (inF_bd h3).1 (inF_bd h3).2 (okB_h hh ht ho k h0 h24).2 (okB_t hh ht ho k h0 h24).1 (okB_t hh ht ho k h0 h24).2 p1 p2 w c1 c2
  have HPOS : Hid (∀ k : Int, 0 ≤ k → k < 24 → pos32 (winB wd gp t sh hs ts k facing) = true) := fun k h0 h24 => winB_pos wd gp t OK.2.2.2.2.2.2.2.2 hs ts k facing (okB_h hh ht ho k h0 h24).2
  have Hc : Hid (codeBS (okBl n wd gp t sh) (okB hs ts) true = 0) := by rw [hk, ho]; rfl
  have Hf := Lib.hid h3
  have Hh := Lib.hid hh
  have Ht := Lib.hid ht
  clear OK hk ho h3 hh ht bw
  refine callsIn_of_wp_marks Try.func31 rfl trivial ?_ rfl
  simp only [Try.ntmps31, List.size_toArray, List.length_cons, List.length_nil, Nat.reduceAdd, Nat.reduceSub, Array.replicate_succ, Array.replicate_zero, List.push_toArray, List.append_toArray, List.nil_append, List.cons_append]
  refine wpIn_wide.2 ?_
  go_upto_region 1 with (fail)
  refine abs_world (fun W => W.heap[w.heap.size]? = some (.cells (blindC n wd gp t sh) 44 (0, 0)) ∧ W.heap[w.heap.size + 1]? = some (.cells (sunC hs ts) 51 (0, 0)) ∧ W.heap[w.heap.size + 1 + 1]? = some (.cells #[.int .i64 facing] 2 (0, 0)) ∧ Below w.heap.size w W) ⟨(three_new _ _ _ _).1, (three_new _ _ _ _).2.1, (three_new _ _ _ _).2.2.1, (three_new _ _ _ _).2.2.2⟩ ?_
  rintro W ⟨h0, h1, h2, hb⟩
  generalize w.heap.size + 1 + 1 = g3 at *
  generalize w.heap.size + 1 = g2 at *
  refine wp_onlyD ?_
  refine wp_region_held_drew (S := (fun W => W.heap[w.heap.size]? = some (.cells (blindC n wd gp t sh) 44 (0, 0)) ∧ W.heap[g2]? = some (.cells (sunC hs ts) 51 (0, 0)) ∧ W.heap[g3]? = some (.cells #[.int .i64 facing] 2 (0, 0)) ∧ Below w.heap.size w W)) (by kernel_rfl) ⟨h0, h1, h2, hb.drew⟩ (fun hHeld => ?_)
  refine take_op (i := 0) (d := 12) (v := .agg (blindC n wd gp t sh)) rfl rfl (by kernel_rfl) (by kernel_rfl) (by kernel_rfl) (fun _ _ _ h => h) (yields_row (by rfl) 44 (.tmp 3) (by rfl) w.heap.size 0 5 (by rfl) 44 (blindC n wd gp t sh) (0, 0) _ (fun _ h => h.1) Try.underlying44 rfl info_blind (blind_fits _ _ _ _ _) (blindC n wd gp t sh) (blind_all _ _ _ _ _)) hHeld ?_
  simp only [List.setIfInBounds_toArray, List.set_cons_zero, List.set_cons_succ]
  refine take_op (i := 1) (d := 13) (v := .agg (sunC hs ts)) rfl rfl (by kernel_rfl) (by kernel_rfl) (by kernel_rfl) (fun _ _ _ h => h) (yields_row (by rfl) 51 (.tmp 4) (by rfl) g2 0 48 (by rfl) 51 (sunC hs ts) (0, 0) _ (fun _ h => h.2.1) Try.underlying51 rfl info_sun (sun_fits _ _ Hh.out Ht.out) (sunC hs ts) (sun_all _ _ Hh.out Ht.out)) hHeld ?_
  simp only [List.setIfInBounds_toArray, List.set_cons_zero, List.set_cons_succ]
  refine take_op (i := 2) (d := 14) (v := ?_) rfl rfl (by kernel_rfl) (by kernel_rfl) (by kernel_rfl) (fun _ _ _ h => h) (Or.inl ⟨by rfl, ?hy2u56⟩) hHeld ?rest2u56
  case hy2u56 =>
    intro w' hS'
    obtain ⟨s1, s2, s3, s4⟩ := hS'
    have q3 : w'.cell? ⟨g3, 0, none⟩ = some (.int .i64 facing) := by rw [cell_of_row w' _ _ _ _ _ s3]; rfl
    clear s1 s2 s3 s4
    go_simp
    try with_reducible rfl
  simp only [List.setIfInBounds_toArray, List.set_cons_zero, List.set_cons_succ]
  refine wpAnyH_ready (rs := [3]) (by kernel_rfl) (by simp) ?_
  refine AllReadyH.cons rfl (fun K hK => ?_) AllReadyH.nil
  go_simp
  refine (isFacing_is facing true Hf.out _).mono ?_
  rintro e w' ⟨rfl, rfl⟩
  refine hK.out _ _ (hHeld) (fun hHeld2 => ?_)
  clear hK K
  replace hHeld := hHeld2
  clear hHeld2
  refine wpAnyH_ready (rs := [4]) (by kernel_rfl) (by simp) ?_
  refine AllReadyH.cons rfl (fun K hK => ?_) AllReadyH.nil
  go_simp
  refine (checkBS_is n wd gp t sh hs ts Hh.out Ht.out T0 T1 true 0 Hc.out _).mono ?_
  rintro e W1 ⟨rfl, hb1⟩
  refine hK.out _ _ (⟨below_row hb1 hHeld.1, below_row hb1 hHeld.2.1, below_row hb1 hHeld.2.2.1, hHeld.2.2.2.trans (hb1.mono hHeld.2.2.2.size)⟩) (fun hHeld2 => ?_)
  clear hK K
  replace hHeld := hHeld2
  clear hHeld2
  refine take_op (i := 5) (d := 8) (v := ?_) rfl rfl (by kernel_rfl) (by kernel_rfl) (by kernel_rfl) (fun _ _ _ h => h) (Or.inl ⟨by rfl, ?hy5u57⟩) hHeld ?rest5u57
  case hy5u57 =>
    intro w' hS'
    go_simp
    try with_reducible rfl
  simp only [List.setIfInBounds_toArray, List.set_cons_zero, List.set_cons_succ]
  refine wpAnyH_done (by kernel_rfl) ?_ _
  obtain ⟨h0, h1, h2, hb⟩ := hHeld
  have H0 := Lib.hid h0
  have H1 := Lib.hid h1
  have H2 := Lib.hid h2
  clear h0 h1 h2
  go_upto_region 5 with (first | (refine wpList_load_part rfl 44 _ rfl w.heap.size 0 5 rfl 44 (blindC n wd gp t sh) (0, 0) _ H0.out Try.underlying44 rfl info_blind (blind_fits _ _ _ _ _) _ (blind_all _ _ _ _ _) ?_) | (go_at_call 80; refine (HP.out _).mono ?_; rintro e W2 ⟨⟨v, rfl, p1, p2, rfl, c1, c2⟩, hb2⟩; replace H1 := Lib.hid (below_row hb2 H1.out); replace H2 := Lib.hid (below_row hb2 H2.out); replace hb := hb.trans (hb2.mono hb.size); clear hb2; have C1 := Lib.hid c1; have C2 := Lib.hid c2; clear c1 c2))
  clear H0
  refine abs_world (fun W0 => Below w.heap.size w W0 ∧ W0.heap[g2]? = some (.cells (sunC hs ts) 51 (0, 0)) ∧ W0.heap[g3]? = some (.cells #[.int .i64 facing] 2 (0, 0)) ∧ W0.heap[p1]? = some (.cells (blindC n wd gp t sh) 44 (0, 0)) ∧ W0.heap[p2]? = some (.cells #[.float .f32 (opnB wd gp t 1)] 22 (0, 0)) ∧ W0.heap[W2.heap.size]? = some (.cells #[(.func (.func 124) #[] #[.pointer (some ⟨p1, 0, none⟩), .pointer (some ⟨p2, 0, none⟩)])] 109 (0, 0))) ⟨hb.alloc hb.size _, below_row ((Below.refl W2.heap.size W2).alloc (Nat.le_refl _) _) H1.out, below_row ((Below.refl W2.heap.size W2).alloc (Nat.le_refl _) _) H2.out, below_row ((Below.refl W2.heap.size W2).alloc (Nat.le_refl _) _) C1.out, below_row ((Below.refl W2.heap.size W2).alloc (Nat.le_refl _) _) C2.out, heap_alloc_new _ _⟩ ?_
  clear H1 H2 C1 C2 hb
  generalize W2.heap.size = q at *
  rintro W0 ⟨hb, r2, r3, r4, r5, r6⟩
  have hle : w.heap.size ≤ W0.heap.size := hb.size
  have R2 := Lib.hid r2
  have R3 := Lib.hid r3
  have R4 := Lib.hid r4
  have R5 := Lib.hid r5
  have R6 := Lib.hid r6
  have HB := Lib.hid hb
  clear r2 r3 r4 r5 r6 hb
  go_wp2
  refine (wpIn_wide (n := 4)).1 ?_
  refine wpIn_rangeFunc_ownF rfl (by decide) (gf := 91) (lb := #[]) rfl trivial (enters_of Try.func91 (by kernel_rfl) rfl)
    (eachHour_stops Fence.wide _ trivial rfl (by decide) w.heap.size _) belowK_t (belowK_b (by simp; omega)) (Below.refl _ _) (fun _ => rfl)
    (DayI W0 (fun h => winB wd gp t sh hs ts (h : Int) facing)) (fun _ _ _ => False) (dayI_own W0 _ _ (by first | (simp; done) | (simp; omega))) (fun _ _ _ _ _ hs _ _ => hs) ?h0
    (fun x => { tmps := #[.agg (blindC n wd gp t sh), .agg (sunC hs ts), .int .i64 facing, .pointer (some ⟨w.heap.size, 0, none⟩), .pointer (some ⟨g2, 0, none⟩), .pointer (some ⟨g3, 0, none⟩), .float .f32 0, .int .i64 0, .int .i64 0, .pointer (some ⟨q, 0, none⟩), .pointer (some ⟨W0.heap.size, 0, none⟩), .int .i64 x.1, .agg (blindC n wd gp t sh), .agg (sunC hs ts), .int .i64 facing, .bool true, .int .i64 0, .int .i64 0, .bool false, undef, .agg (blindC n wd gp t sh), (.func (.func 124) #[] #[.pointer (some ⟨p1, 0, none⟩), .pointer (some ⟨p2, 0, none⟩)]), .int .i64 x.1, undef, undef, undef, undef, undef, undef, undef, undef], defers := [] }) ?assign ?body ?done ?stop
  case h0 => exact ⟨0, by decide, (Below.refl _ _).alloc (Nat.le_refl _) _, heap_alloc_new _ _, fun _ => rfl⟩
  case assign =>
    intro l x W K hK
    gi_wp2
    exact hK
  case body =>
    rintro l pre ⟨x, hx0, hx1⟩ W ⟨s, hs0, hbw, hS, hg⟩ hl
    obtain ⟨k, rfl⟩ := Int.eq_ofNat_of_zero_le hx0
    have hk : k < 24 := by omega
    have HG0 : Hid (pos32 ((fun h => winB wd gp t sh hs ts (h : Int) facing) k) = true) := HPOS.out (k : Int) hx0 hx1
    have HC : Hid (∀ w1, Below W0.heap.size W0 w1 → Calls Try.prog 90 #[.func (.func 124) #[] #[.pointer (some ⟨p1, 0, none⟩), .pointer (some ⟨p2, 0, none⟩)], .agg (sunC hs ts), .int .i64 (k : Int), .int .i64 facing] w1 fun e w' => e = .returned (.float .f32 (winB wd gp t sh hs ts (k : Int) facing)) ∧ Below w1.heap.size w1 w') := fun w1 hb1 => HW.out p1 p2 (k : Int) hx0 hx1 w1 (below_row hb1 R4.out) (below_row hb1 R5.out)
    have radd : ∀ T w, (binOp .add T (.float .f32 s) (.float .f32 (winB wd gp t sh hs ts (k : Int) facing))).run Try.prog w = .ok (.float .f32 (fadd s (winB wd gp t sh hs ts (k : Int) facing))) w := fun T w => run_float_arith w .add T .f32 _ _ _ (add_ok hs0 HG0.out).1
    have hc : W.cell? ⟨W0.heap.size, 0, none⟩ = some (.float .f32 s) := by rw [cell_of_row W _ _ _ _ _ hS]; rfl
    have hwW : w.heap.size ≤ W.heap.size := Nat.le_trans hle hbw.size
    have HS0 := Lib.hid hS
    have HG := Lib.hid hg
    clear hS hg
    gi_wp2
    refine region_round (S := (fun W' => Below W0.heap.size W0 W')) arrU (no_defer (by rfl)) (fun ⟨_, _, h⟩ => h) hbw.drew (fun hHeld => ?_)
    refine take_at (i := 1) (d := 24) (v := ?_) rfl rfl (by kernel_rfl) (by kernel_rfl) (by kernel_rfl) (fun _ _ _ h => h) (Or.inl ⟨by rfl, ?hy1a1⟩) hHeld ?rest1a1
    case hy1a1 =>
      intro w' hS'
      have q1 : w'.cell? ⟨q, 0, none⟩ = some (.func (.func 124) #[] #[.pointer (some ⟨p1, 0, none⟩), .pointer (some ⟨p2, 0, none⟩)]) := by rw [cell_of_row w' _ _ _ _ _ (below_row hS' R6.out)]; rfl
      go_simp
      try with_reducible rfl
    simp only [List.setIfInBounds_toArray, List.set_cons_zero, List.set_cons_succ]
    refine take_at (i := 2) (d := 25) (v := .agg (sunC hs ts)) rfl rfl (by kernel_rfl) (by kernel_rfl) (by kernel_rfl) (fun _ _ _ h => h) (yields_part (by rfl) 51 (.tmp 4) (by rfl) g2 0 48 (by rfl) 51 (sunC hs ts) (0, 0) _ (fun _ h => below_row h R2.out) Try.underlying51 rfl info_sun (sun_fits _ _ Hh.out Ht.out) (sunC hs ts) (sun_all _ _ Hh.out Ht.out)) hHeld ?_
    simp only [List.setIfInBounds_toArray, List.set_cons_zero, List.set_cons_succ]
    refine take_at (i := 3) (d := 26) (v := ?_) rfl rfl (by kernel_rfl) (by kernel_rfl) (by kernel_rfl) (fun _ _ _ h => h) (Or.inl ⟨by rfl, ?hy3a3⟩) hHeld ?rest3a3
    case hy3a3 =>
      intro w' hS'
      go_simp
      try with_reducible rfl
    simp only [List.setIfInBounds_toArray, List.set_cons_zero, List.set_cons_succ]
    refine take_at (i := 4) (d := 27) (v := ?_) rfl rfl (by kernel_rfl) (by kernel_rfl) (by kernel_rfl) (fun _ _ _ h => h) (Or.inl ⟨by rfl, ?hy4a4⟩) hHeld ?rest4a4
    case hy4a4 =>
      intro w' hS'
      have q3 : w'.cell? ⟨g3, 0, none⟩ = some (.int .i64 facing) := by rw [cell_of_row w' _ _ _ _ _ (below_row hS' R3.out)]; rfl
      go_simp
      try with_reducible rfl
    simp only [List.setIfInBounds_toArray, List.set_cons_zero, List.set_cons_succ]
    refine wpAnyH_ready (rs := [0, 5]) (by kernel_rfl) (by simp) ?_
    refine AllReadyH.cons rfl (fun K hK => ?_) (AllReadyH.cons rfl (fun K hK => ?_) AllReadyH.nil)
    · go_simp
      refine hK.out _ _ hHeld (fun hHeld2 => ?_)
      clear hK K hHeld2
      refine wpAnyH_ready (rs := [5]) (by kernel_rfl) (by simp) ?_
      refine AllReadyH.cons rfl (fun K hK => ?_) AllReadyH.nil
      go_simp
      refine (HC.out _ hHeld).mono ?_
      rintro e W3 ⟨rfl, hb1⟩
      refine hK.out _ _ (hHeld.trans (hb1.mono hHeld.size)) (fun hHeld2 => ?_)
      clear hK K
      replace hHeld := hHeld2
      clear hHeld2
      have hS1 : Hid (W3.heap[W0.heap.size]? = some (.cells #[.float .f32 s] 22 (0, 0))) := below_row hb1 HS0.out
      have hB2 : Hid (Below w.heap.size W W3) := (Below.drew (Below.refl w.heap.size W)).trans (hb1.mono hwW)
      have hK1 : Hid (KeepsOthers W W3) := (KeepsOthers.drew W).trans (keeps_of_below hb1)
      have hc1 : W3.cell? ⟨W0.heap.size, 0, none⟩ = some (.float .f32 s) := by rw [cell_of_row W3 _ _ _ _ _ hS1.out]; rfl
      have hf1 := frozen_of_row W3 W0.heap.size 0 _ _ hS1.out
      refine take_at (i := 6) (d := 29) (v := ?_) rfl rfl (by kernel_rfl) (by kernel_rfl) (by kernel_rfl) (fun _ _ _ h => h) (Or.inl ⟨by rfl, ?hy6u1⟩) hHeld ?rest6u1
      case hy6u1 =>
        intro w' hS'
        go_simp
        try with_reducible rfl
      simp only [List.setIfInBounds_toArray, List.set_cons_zero, List.set_cons_succ]
      refine wpAnyH_ready (rs := [7]) (by kernel_rfl) (by simp) ?_
      refine AllReadyH.cons rfl (fun K hK => ?_) AllReadyH.nil
      go_simp
      refine hK.out _ _ (hHeld.setCell (p := ⟨W0.heap.size, 0, none⟩) (Nat.le_refl _) _) (fun hHeld2 => ?_)
      clear hK K
      refine wpAnyH_done (by kernel_rfl) ?_ _
      gi_wp2
      exact day_step (g := (fun h => winB wd gp t sh hs ts (h : Int) facing)) hle hl hs0 HG0.out HG.out hK1.out hB2.out hHeld hS1.out
    · go_simp
      refine (HC.out _ hHeld).mono ?_
      rintro e W3 ⟨rfl, hb1⟩
      refine hK.out _ _ (hHeld.trans (hb1.mono hHeld.size)) (fun hHeld2 => ?_)
      clear hK K
      replace hHeld := hHeld2
      clear hHeld2
      have hS1 : Hid (W3.heap[W0.heap.size]? = some (.cells #[.float .f32 s] 22 (0, 0))) := below_row hb1 HS0.out
      have hB2 : Hid (Below w.heap.size W W3) := (Below.drew (Below.refl w.heap.size W)).trans (hb1.mono hwW)
      have hK1 : Hid (KeepsOthers W W3) := (KeepsOthers.drew W).trans (keeps_of_below hb1)
      have hc1 : W3.cell? ⟨W0.heap.size, 0, none⟩ = some (.float .f32 s) := by rw [cell_of_row W3 _ _ _ _ _ hS1.out]; rfl
      have hf1 := frozen_of_row W3 W0.heap.size 0 _ _ hS1.out
      refine wpAnyH_ready (rs := [0]) (by kernel_rfl) (by simp) ?_
      refine AllReadyH.cons rfl (fun K hK => ?_) AllReadyH.nil
      go_simp
      refine hK.out _ _ hHeld (fun hHeld2 => ?_)
      clear hK K hHeld2
      refine take_at (i := 6) (d := 29) (v := ?_) rfl rfl (by kernel_rfl) (by kernel_rfl) (by kernel_rfl) (fun _ _ _ h => h) (Or.inl ⟨by rfl, ?hy6u2⟩) hHeld ?rest6u2
      case hy6u2 =>
        intro w' hS'
        go_simp
        try with_reducible rfl
      simp only [List.setIfInBounds_toArray, List.set_cons_zero, List.set_cons_succ]
      refine wpAnyH_ready (rs := [7]) (by kernel_rfl) (by simp) ?_
      refine AllReadyH.cons rfl (fun K hK => ?_) AllReadyH.nil
      go_simp
      refine hK.out _ _ (hHeld.setCell (p := ⟨W0.heap.size, 0, none⟩) (Nat.le_refl _) _) (fun hHeld2 => ?_)
      clear hK K
      refine wpAnyH_done (by kernel_rfl) ?_ _
      gi_wp2
      exact day_step (g := (fun h => winB wd gp t sh hs ts (h : Int) facing)) hle hl hs0 HG0.out HG.out hK1.out hB2.out hHeld hS1.out
  case done =>
    rintro D zs W hD rfl ⟨s, hs0, hbw, hS, hg⟩ hK
    rename_i K hcont
    have hc : W.cell? ⟨W0.heap.size, 0, none⟩ = some (.float .f32 s) := by rw [cell_of_row W _ _ _ _ _ hS]; rfl
    have hD' : w.heap.size ≤ D := by simp at hD; omega
    have HSum := Lib.hid (hg good_all)
    have HK := Lib.hid hK
    have hby := HB.out.trans (hbw.mono hle)
    clear hg hS hD hK
    refine hcont _ _ ?_
    go_wp2
    refine ⟨by simp, .inl ⟨_, _, rfl, run_takeDeferred HK.out, ?_⟩⟩
    refine ⟨.tuple #[.float .f32 s, .int .i64 0], ?_, ?_, hby.trans (belowK_b (w := w) (Nat.le_refl _) W D _ _ hD' HK.out rfl rfl)⟩
    · exact results_tmp2 (fn := Try.f31) rfl _ _ _
    · rw [HSum.out, hrs_length]
  case stop =>
    rintro D c pre W _ _ h _
    exact h.elim


end Go.Proofs.Yteagbfobnjfhcab
