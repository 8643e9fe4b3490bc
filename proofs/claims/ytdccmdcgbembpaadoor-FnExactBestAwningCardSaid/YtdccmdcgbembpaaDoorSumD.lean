/-
  The light of a day, summed by a function of the hour.
-/
import Derived.Test.YtdccmdcgbembpaaDoorShF
import Derived.Test.YtdccmdcgbembpaaDoorDay
namespace Go.Proofs.YtdccmdcgbembpaaDoor
open Go.RowKit Go.Shelf

attribute [local go_sem] Oper.semAt_some run_store_float

theorem wp_onlyS {P : Program} {c : Code} {K : Act → World → Prop} {Q : Exit → Act → World → Prop} {a : Act} {w : World} (h : c.wp P (Exit.then K (fun _ _ _ => False)) a w) : c.wp P (Exit.then K Q) a w :=
  Code.wp_mono (fun e a w h => by cases e <;> first | exact h | exact h.elim) h

/-- What a sum over the hours keeps: all that lay there, and the sum so far in the next block. -/
def DayI (W0 : World) (g : Nat → Nat) (pre : List Hr) (W : World) : Prop :=
  ∃ s : Nat, pos32 s = true ∧ Below W0.heap.size W0 W ∧ W.heap[W0.heap.size]? = some (.cells #[.float .f32 s] 29 (0, 0)) ∧ (Good pre → s = sumTo g pre.length)

theorem dayI_own (W0 : World) (g : Nat → Nat) (B : Nat) (hB : W0.heap.size ≤ B) : OwnFrom B (DayI W0 g) := by
  intro s W W' row ⟨x, hx, hb, h1, hg⟩ hg' hr
  have hr2 := fun r e => (hr r e).2
  exact ⟨x, hx, ownFrom_below (β := Unit) (Nat.le_refl _) hB () W W' row hb hg' hr, heap_kept h1 hg' hr2, hg⟩

theorem day_step {W0 W W1 : World} {n0 : Nat} {g : Nat → Nat} {pre : List Hr} {k : Nat} {h01 : 0 ≤ (k : Int) ∧ (k : Int) < 24} {s : Nat} (hn : n0 ≤ W0.heap.size) (hl : pre.length < 24) (hs0 : pos32 s = true) (hg0 : pos32 (g k) = true)
    (hgood : Good pre → s = sumTo g pre.length) (hk : KeepsOthers W W1) (hbW : Below n0 W W1) (hb : Below W0.heap.size W0 W1) (hS : W1.heap[W0.heap.size]? = some (.cells #[.float .f32 s] 29 (0, 0))) :
    KeepsOthers W (W1.setCell ⟨W0.heap.size, 0, none⟩ (.float .f32 (fadd s (g k)))) ∧ Below n0 W (W1.setCell ⟨W0.heap.size, 0, none⟩ (.float .f32 (fadd s (g k)))) ∧ DayI W0 g (pre ++ [⟨k, h01⟩]) (W1.setCell ⟨W0.heap.size, 0, none⟩ (.float .f32 (fadd s (g k)))) := by
  refine ⟨hk.trans (KeepsOthers.setCell _ _ _), hbW.setCell (p := ⟨W0.heap.size, 0, none⟩) hn _, fadd s (g k), (add_ok hs0 hg0).2, hb.setCell (p := ⟨W0.heap.size, 0, none⟩) (Nat.le_refl _) _, ?_, ?_⟩
  · rw [heap_setCell_same _ _ _ _ _ _ hS]; rfl
  · intro hgs
    obtain ⟨hgp, hxk⟩ := good_snoc hgs hl
    have hkl : k = pre.length := by have : (k : Int) = (pre.length : Int) := hxk; omega
    rw [List.length_append, List.length_singleton, sumTo_succ, ← hgood hgp, hkl]

set_option maxRecDepth 100000 in
set_option maxHeartbeats 1000000 in
theorem sumBehind_any (hs ts : List Int) (fc : Int) (o dr gp tl : Nat) (g : Nat → Nat) (w : World) (hC : ∀ k : Nat, k < 24 → ∀ w1, Below w.heap.size w w1 → Calls Tryd.prog 96 #[.agg (shC hs ts fc o dr gp tl), .int .i64 (k : Int)] w1 fun e w' => e = .returned (.float .f32 (g k)) ∧ Below w1.heap.size w1 w') (hP : ∀ k : Nat, k < 24 → pos32 (g k) = true) :
    Calls Tryd.prog 94 #[.func (.func 96) #[.agg (shC hs ts fc o dr gp tl)] #[]] w fun e w' => e = .returned (.float .f32 (sumTo g 24)) ∧ Below w.heap.size w w' := by
  refine (callsIn_wide (n := 4)).1 ?_
  have HCC := Lib.hid hC
  have HPP := Lib.hid hP
  clear hC hP
  refine callsIn_of_wp_marks Tryd.func94 rfl trivial ?_ rfl
  simp only [Tryd.ntmps94, List.size_toArray, List.length_cons, List.length_nil, Nat.reduceAdd, Nat.reduceSub, Array.replicate_succ, Array.replicate_zero, List.push_toArray, List.append_toArray, List.nil_append, List.cons_append]
  refine wpIn_wide.2 ?_
  go_upto_region 1 with (fail)
  refine abs_world (fun W => W.heap[w.heap.size]? = some (.cells #[.func (.func 96) #[.agg (shC hs ts fc o dr gp tl)] #[]] 147 (0, 0)) ∧ Below w.heap.size w W) ⟨heap_alloc_new _ _, (Below.refl _ _).alloc (Nat.le_refl _) _⟩ ?_
  rintro W0 ⟨r6, hb⟩
  have hle : w.heap.size ≤ W0.heap.size := hb.size
  have R6 := Lib.hid r6
  have HB := Lib.hid hb
  clear r6 hb
  go_wp2
  refine (wpIn_wide (n := 4)).1 ?_
  refine wpIn_rangeFunc_ownF rfl (by decide) (gf := 125) (lb := #[]) rfl trivial (enters_of Tryd.func125 (by kernel_rfl) rfl)
    (eachHour_stops Fence.wide _ trivial rfl (by decide) w.heap.size _) belowK_t (belowK_b (by simp; omega)) (Below.refl _ _) (fun _ => rfl)
    (DayI W0 g) (fun _ _ _ => False) (dayI_own W0 _ _ (by first | (simp; done) | (simp; omega))) (fun _ _ _ _ _ hs _ _ => hs) ?h0
    (fun x => { tmps := #[.func (.func 96) #[.agg (shC hs ts fc o dr gp tl)] #[], .pointer (some ⟨w.heap.size, 0, none⟩), .float .f32 0, .pointer (some ⟨W0.heap.size, 0, none⟩), .int .i64 x.1, .int .i64 x.1, undef, undef, undef, undef, undef, undef], defers := [] }) ?assign ?body ?done ?stop
  case h0 => exact ⟨0, by decide, (Below.refl _ _).alloc (Nat.le_refl _) _, heap_alloc_new _ _, fun _ => rfl⟩
  case assign =>
    intro l x W K hK
    gi_wp2
    exact hK
  case body =>
    rintro l pre ⟨x, hx0, hx1⟩ W ⟨s, hs0, hbw, hS, hg⟩ hl
    obtain ⟨k, rfl⟩ := Int.eq_ofNat_of_zero_le hx0
    have hk : k < 24 := by omega
    have HG0 : Hid (pos32 (g k) = true) := HPP.out k hk
    have HC : Hid (∀ w1, Below W0.heap.size W0 w1 → Calls Tryd.prog 96 #[.agg (shC hs ts fc o dr gp tl), .int .i64 (k : Int)] w1 fun e w' => e = .returned (.float .f32 (g k)) ∧ Below w1.heap.size w1 w') := fun w1 hb1 => HCC.out k hk w1 (HB.out.trans (hb1.mono hle))
    have radd : ∀ T w, (binOp .add T (.float .f32 s) (.float .f32 (g k))).run Tryd.prog w = .ok (.float .f32 (fadd s (g k))) w := fun T w => run_float_arith w .add T .f32 _ _ _ (add_ok hs0 HG0.out).1
    have hc : W.cell? ⟨W0.heap.size, 0, none⟩ = some (.float .f32 s) := by rw [cell_of_row W _ _ _ _ _ hS]; rfl
    have hwW : w.heap.size ≤ W.heap.size := Nat.le_trans hle hbw.size
    have HS0 := Lib.hid hS
    have HG := Lib.hid hg
    clear hS hg
    gi_wp2
    refine region_round (S := (fun W' => Below W0.heap.size W0 W')) arrU (no_defer (by rfl)) (fun ⟨_, _, h⟩ => h) hbw.drew (fun hHeld => ?_)
    refine take_at (i := 1) (d := 7) (v := ?_) rfl rfl (by kernel_rfl) (by kernel_rfl) (by kernel_rfl) (fun _ _ _ h => h) (Or.inl ⟨by rfl, ?hy1a1⟩) hHeld ?rest1a1
    case hy1a1 =>
      intro w' hS'
      have q1 : w'.cell? ⟨w.heap.size, 0, none⟩ = some (.func (.func 96) #[.agg (shC hs ts fc o dr gp tl)] #[]) := by rw [cell_of_row w' _ _ _ _ _ (below_row hS' R6.out)]; rfl
      go_simp
      try with_reducible rfl
    simp only [List.setIfInBounds_toArray, List.set_cons_zero, List.set_cons_succ]
    refine take_at (i := 2) (d := 8) (v := ?_) rfl rfl (by kernel_rfl) (by kernel_rfl) (by kernel_rfl) (fun _ _ _ h => h) (Or.inl ⟨by rfl, ?hy2a2⟩) hHeld ?rest2a2
    case hy2a2 =>
      intro w' hS'
      go_simp
      try with_reducible rfl
    simp only [List.setIfInBounds_toArray, List.set_cons_zero, List.set_cons_succ]
    refine wpAnyH_ready (rs := [0, 3]) (by kernel_rfl) (by simp) ?_
    refine AllReadyH.cons rfl (fun K hK => ?_) (AllReadyH.cons rfl (fun K hK => ?_) AllReadyH.nil)
    · go_simp
      refine hK.out _ _ hHeld (fun hHeld2 => ?_)
      clear hK K hHeld2
      refine wpAnyH_ready (rs := [3]) (by kernel_rfl) (by simp) ?_
      refine AllReadyH.cons rfl (fun K hK => ?_) AllReadyH.nil
      go_simp
      refine (HC.out _ hHeld).mono ?_
      rintro e W3 ⟨rfl, hb1⟩
      refine hK.out _ _ (hHeld.trans (hb1.mono hHeld.size)) (fun hHeld2 => ?_)
      clear hK K
      replace hHeld := hHeld2
      clear hHeld2
      have hS1 : Hid (W3.heap[W0.heap.size]? = some (.cells #[.float .f32 s] 29 (0, 0))) := below_row hb1 HS0.out
      have hB2 : Hid (Below w.heap.size W W3) := (Below.drew (Below.refl w.heap.size W)).trans (hb1.mono hwW)
      have hK1 : Hid (KeepsOthers W W3) := (KeepsOthers.drew W).trans (keeps_of_below hb1)
      have hc1 : W3.cell? ⟨W0.heap.size, 0, none⟩ = some (.float .f32 s) := by rw [cell_of_row W3 _ _ _ _ _ hS1.out]; rfl
      have hf1 := frozen_of_row W3 W0.heap.size 0 _ _ hS1.out
      refine take_at (i := 4) (d := 10) (v := ?_) rfl rfl (by kernel_rfl) (by kernel_rfl) (by kernel_rfl) (fun _ _ _ h => h) (Or.inl ⟨by rfl, ?hy4u1⟩) hHeld ?rest4u1
      case hy4u1 =>
        intro w' hS'
        go_simp
        try with_reducible rfl
      simp only [List.setIfInBounds_toArray, List.set_cons_zero, List.set_cons_succ]
      refine wpAnyH_ready (rs := [5]) (by kernel_rfl) (by simp) ?_
      refine AllReadyH.cons rfl (fun K hK => ?_) AllReadyH.nil
      go_simp
      refine hK.out _ _ (hHeld.setCell (p := ⟨W0.heap.size, 0, none⟩) (Nat.le_refl _) _) (fun hHeld2 => ?_)
      clear hK K
      refine wpAnyH_done (by kernel_rfl) ?_ _
      gi_wp2
      exact day_step (g := g) hle hl hs0 HG0.out HG.out hK1.out hB2.out hHeld hS1.out
    · skip
      go_simp
      refine (HC.out _ hHeld).mono ?_
      rintro e W3 ⟨rfl, hb1⟩
      refine hK.out _ _ (hHeld.trans (hb1.mono hHeld.size)) (fun hHeld2 => ?_)
      clear hK K
      replace hHeld := hHeld2
      clear hHeld2
      have hS1 : Hid (W3.heap[W0.heap.size]? = some (.cells #[.float .f32 s] 29 (0, 0))) := below_row hb1 HS0.out
      have hB2 : Hid (Below w.heap.size W W3) := (Below.drew (Below.refl w.heap.size W)).trans (hb1.mono hwW)
      have hK1 : Hid (KeepsOthers W W3) := (KeepsOthers.drew W).trans (keeps_of_below hb1)
      have hc1 : W3.cell? ⟨W0.heap.size, 0, none⟩ = some (.float .f32 s) := by rw [cell_of_row W3 _ _ _ _ _ hS1.out]; rfl
      have hf1 := frozen_of_row W3 W0.heap.size 0 _ _ hS1.out
      refine wpAnyH_ready (rs := [0]) (by kernel_rfl) (by simp) ?_
      refine AllReadyH.cons rfl (fun K hK => ?_) AllReadyH.nil
      go_simp
      refine hK.out _ _ hHeld (fun hHeld2 => ?_)
      clear hK K hHeld2
      refine take_at (i := 4) (d := 10) (v := ?_) rfl rfl (by kernel_rfl) (by kernel_rfl) (by kernel_rfl) (fun _ _ _ h => h) (Or.inl ⟨by rfl, ?hy4u2⟩) hHeld ?rest4u2
      case hy4u2 =>
        intro w' hS'
        go_simp
        try with_reducible rfl
      simp only [List.setIfInBounds_toArray, List.set_cons_zero, List.set_cons_succ]
      refine wpAnyH_ready (rs := [5]) (by kernel_rfl) (by simp) ?_
      refine AllReadyH.cons rfl (fun K hK => ?_) AllReadyH.nil
      go_simp
      refine hK.out _ _ (hHeld.setCell (p := ⟨W0.heap.size, 0, none⟩) (Nat.le_refl _) _) (fun hHeld2 => ?_)
      clear hK K
      refine wpAnyH_done (by kernel_rfl) ?_ _
      gi_wp2
      exact day_step (g := g) hle hl hs0 HG0.out HG.out hK1.out hB2.out hHeld hS1.out
  case done =>
    rintro D zs W hD rfl ⟨s, hs0, hbw, hS, hg⟩ hK
    rename_i K hcont
    have hc : W.cell? ⟨W0.heap.size, 0, none⟩ = some (.float .f32 s) := by rw [cell_of_row W _ _ _ _ _ hS]; rfl
    have hD' : w.heap.size ≤ D := by simp at hD; omega
    have HSum := Lib.hid (hg good_all)
    have HK := Lib.hid hK
    have hby := HB.out.trans (hbw.mono hle)
    clear hg hS hD hK
    refine hcont _ _ ?_
    go_wp2
    refine ⟨by simp, .inl ⟨_, _, rfl, run_takeDeferred HK.out, ?_⟩⟩
    refine ⟨.float .f32 s, ?_, ?_, hby.trans (belowK_b (w := w) (Nat.le_refl _) W D _ _ hD' HK.out rfl rfl)⟩
    · exact results_tmp (fn := Tryd.f94) rfl _ _ _
    · rw [HSum.out, hrs_length]
  case stop =>
    rintro D c pre W _ _ h _
    exact h.elim

end Go.Proofs.YtdccmdcgbembpaaDoor
