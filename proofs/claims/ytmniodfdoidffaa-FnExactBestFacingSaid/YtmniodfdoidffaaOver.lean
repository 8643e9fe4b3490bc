/-
  The light on a window of a day: the sum over the hours of a sun that is valid.
-/
import Derived.Test.YtmniodfdoidffaaDay
namespace Go.Proofs.Ytmniodfdoidffaa
open Go.RowKit Go.Shelf

attribute [local go_sem] Oper.semAt_some run_store_float

def FallI (w : World) (hs ts : List Int) (facing : Int) (g : Nat → Nat) (pre : List Hr) (W : World) : Prop :=
  ∃ s : Nat, pos32 s = true ∧ W.heap[w.heap.size]? = some (.cells (sunC hs ts) 59 (0, 0)) ∧ W.heap[w.heap.size + 1]? = some (.cells #[.int .i64 facing] 2 (0, 0)) ∧ W.heap[w.heap.size + 1 + 1]? = some (.cells #[.float .f32 s] 25 (0, 0)) ∧ (Good pre → s = sumTo g pre.length) ∧ Below w.heap.size w W

theorem fallI_own (w : World) (hs ts : List Int) (facing : Int) (g : Nat → Nat) (B : Nat) (hB : w.heap.size ≤ B) : OwnFrom B (FallI w hs ts facing g) := by
  intro s W W' row ⟨x, hx, h0, h1, h2, hg, hb⟩ hg' hr
  have hr2 := fun r e => (hr r e).2
  exact ⟨x, hx, heap_kept h0 hg' hr2, heap_kept h1 hg' hr2, heap_kept h2 hg' hr2, hg, ownFrom_below (β := Unit) (Nat.le_refl _) hB () W W' row hb hg' hr⟩

theorem fall_step {w W W1 : World} {hs ts : List Int} {facing : Int} {g : Nat → Nat} {pre : List Hr} {k : Nat} {h01 : 0 ≤ (k : Int) ∧ (k : Int) < 24} {s : Nat} (hl : pre.length < 24) (hs0 : pos32 s = true) (hg0 : pos32 (g k) = true)
    (hgood : Good pre → s = sumTo g pre.length) (hk : KeepsOthers W W1) (hbW : Below w.heap.size W W1) (hH : W1.heap[w.heap.size]? = some (.cells (sunC hs ts) 59 (0, 0))) (hF : W1.heap[w.heap.size + 1]? = some (.cells #[.int .i64 facing] 2 (0, 0))) (hS : W1.heap[w.heap.size + 1 + 1]? = some (.cells #[.float .f32 s] 25 (0, 0))) (hb : Below w.heap.size w W1) :
    KeepsOthers W (W1.setCell ⟨w.heap.size + 1 + 1, 0, none⟩ (.float .f32 (fadd s (g k)))) ∧ Below w.heap.size W (W1.setCell ⟨w.heap.size + 1 + 1, 0, none⟩ (.float .f32 (fadd s (g k)))) ∧ FallI w hs ts facing g (pre ++ [⟨k, h01⟩]) (W1.setCell ⟨w.heap.size + 1 + 1, 0, none⟩ (.float .f32 (fadd s (g k)))) := by
  refine ⟨hk.trans (KeepsOthers.setCell _ _ _), hbW.setCell (p := ⟨w.heap.size + 1 + 1, 0, none⟩) (by simp; omega) _, fadd s (g k), (add_ok hs0 hg0).2, ?_, ?_, ?_, ?_, hb.setCell (p := ⟨w.heap.size + 1 + 1, 0, none⟩) (by simp; omega) _⟩
  · rw [heap_setCell_other _ _ _ _ (by simp; omega)]; exact hH
  · rw [heap_setCell_other _ _ _ _ (by simp)]; exact hF
  · rw [heap_setCell_same _ _ _ _ _ _ hS]; rfl
  · intro hgs
    obtain ⟨hgp, hxk⟩ := good_snoc hgs hl
    have hkl : k = pre.length := by have : (k : Int) = (pre.length : Int) := hxk; omega
    rw [List.length_append, List.length_singleton, sumTo_succ, ← hgood hgp, hkl]

set_option maxRecDepth 100000 in
set_option maxHeartbeats 1000000 in
theorem fallOver_any (hs ts : List Int) (hh : hs.length = 24) (ht : ts.length = 24) (h1 : okB hs ts = true) (facing : Int) (hf0 : 0 ≤ facing) (hf1 : facing ≤ 255) (w : World) :
    Calls Try.prog 81 #[.agg (sunC hs ts), .int .i64 facing] w fun e w' => e = .returned (.float .f32 (sumTo (fun h => fallOf hs ts (h : Int) facing) 24)) ∧ Below w.heap.size w w' := by
  refine (callsIn_wide (n := 4)).1 ?_
  have Hok := Lib.hid h1
  have Hh := Lib.hid hh
  have Ht := Lib.hid ht
  clear hh ht h1
  refine callsIn_of_wp_marks Try.func81 rfl trivial ?_ rfl
  simp only [Try.ntmps81, List.size_toArray, List.length_cons, List.length_nil, Nat.reduceAdd, Nat.reduceSub, Array.replicate_succ, Array.replicate_zero, List.push_toArray, List.append_toArray, List.nil_append, List.cons_append]
  refine wpIn_wide.2 ?_
  go_wp2
  refine (wpIn_wide (n := 4)).1 ?_
  refine wpIn_rangeFunc_ownF rfl (by decide) (gf := 101) (lb := #[]) rfl trivial (enters_of Try.func101 (by kernel_rfl) rfl)
    (eachHour_stops Fence.wide _ trivial rfl (by decide) w.heap.size _) belowK_t (belowK_b (by simp; omega)) (Below.refl _ _) (fun _ => rfl)
    (FallI w hs ts facing (fun h => fallOf hs ts (h : Int) facing)) (fun _ _ _ => False) (fallI_own w hs ts facing _ _ (by simp; omega)) (fun _ _ _ _ _ hs _ _ => hs) ?h0
    (fun x => { tmps := #[.agg (sunC hs ts), .int .i64 facing, .pointer (some ⟨w.heap.size, 0, none⟩), .pointer (some ⟨w.heap.size + 1, 0, none⟩), .float .f32 0, .pointer (some ⟨w.heap.size + 1 + 1, 0, none⟩), .int .i64 x.1, .int .i64 x.1, undef, undef, undef, undef, undef, undef, undef], defers := [] }) ?assign ?body ?done ?stop
  case h0 =>
    refine ⟨0, by decide, ?_, ?_, ?_, fun _ => rfl, (((Below.refl _ _).alloc (Nat.le_refl _) _).alloc (by simp) _).alloc (by simp; omega) _⟩
    all_goals simp only [heap_alloc, World.size_alloc]
    · rw [if_neg (by omega), if_neg (by omega), if_true]
    · rw [if_neg (by omega), if_true]
    · rw [if_true]
  case assign =>
    intro l x W K hK
    gi_wp2
    exact hK
  case body =>
    rintro l pre ⟨x, hx0, hx1⟩ W ⟨s, hs0, h0, hF, hS, hg, hbw⟩ hl
    obtain ⟨k, rfl⟩ := Int.eq_ofNat_of_zero_le hx0
    have hk : k < 24 := by omega
    have hbd := okB_h Hh.out Ht.out Hok.out (k : Int) hx0 hx1
    have hby := okB_t Hh.out Ht.out Hok.out (k : Int) hx0 hx1
    have HP : Hid (pos32 ((fun h => fallOf hs ts (h : Int) facing) k) = true) := fallB_pos _ _
    have HC := Lib.hid (fallAt_any hs ts Hh.out Ht.out (k : Int) facing hx0 hx1 hf0 hf1 hbd.2 hby.1 hby.2)
    have radd : ∀ t w, (binOp .add t (.float .f32 s) (.float .f32 (fallOf hs ts (k : Int) facing))).run Try.prog w = .ok (.float .f32 (fadd s (fallOf hs ts (k : Int) facing))) w := fun t w => run_float_arith w .add t .f32 _ _ _ (add_ok hs0 HP.out).1
    have hc : W.cell? ⟨w.heap.size + 1 + 1, 0, none⟩ = some (.float .f32 s) := by rw [cell_of_row W _ _ _ _ _ hS]; rfl
    have hcF : W.cell? ⟨w.heap.size + 1, 0, none⟩ = some (.int .i64 facing) := by rw [cell_of_row W _ _ _ _ _ hF]; rfl
    have HS0 := Lib.hid hS
    have HF0 := Lib.hid hF
    have HG := Lib.hid hg
    have HB := Lib.hid hbw
    clear hS hF hg hbw hbd hby
    gi_wp2
    refine region_round (S := (fun W' => W'.heap[w.heap.size]? = some (.cells (sunC hs ts) 59 (0, 0)) ∧ W'.cell? ⟨w.heap.size + 1, 0, none⟩ = some (.int .i64 facing))) arrU (no_defer (by rfl)) (fun ⟨_, _, h⟩ => h) ⟨h0, by simpa using hcF⟩ (fun hHeld => ?_)
    refine take_at (i := 1) (d := 9) (v := .agg (sunC hs ts)) rfl rfl (by kernel_rfl) (by kernel_rfl) (by kernel_rfl) (fun _ _ _ h => h) (yields_part (by rfl) 59 (.tmp 2) (by rfl) w.heap.size 0 48 (by rfl) 59 (sunC hs ts) (0, 0) _ (fun _ h => h.1) Try.underlying59 rfl info_sun (sun_fits _ _ Hh.out Ht.out) (sunC hs ts) (sun_all _ _ Hh.out Ht.out)) hHeld ?_
    simp only [List.setIfInBounds_toArray, List.set_cons_zero, List.set_cons_succ]
    refine take_at (i := 2) (d := 10) (v := ?_) rfl rfl (by kernel_rfl) (by kernel_rfl) (by kernel_rfl) (fun _ _ _ h => h) (Or.inl ⟨by rfl, ?hy2u3⟩) hHeld ?rest2u3
    case hy2u3 =>
      intro w' hS'
      go_simp
      try with_reducible rfl
    simp only [List.setIfInBounds_toArray, List.set_cons_zero, List.set_cons_succ]
    refine take_at (i := 3) (d := 11) (v := ?_) rfl rfl (by kernel_rfl) (by kernel_rfl) (by kernel_rfl) (fun _ _ _ h => h) (Or.inl ⟨by rfl, ?hy3u4⟩) hHeld ?rest3u4
    case hy3u4 =>
      intro w' hS'
      obtain ⟨s1, s2⟩ := hS'
      go_simp
      try with_reducible rfl
    simp only [List.setIfInBounds_toArray, List.set_cons_zero, List.set_cons_succ]
    refine wpAnyH_ready (rs := [0, 4]) (by kernel_rfl) (by simp) ?_
    refine AllReadyH.cons rfl (fun K hK => ?_) (AllReadyH.cons rfl (fun K hK => ?_) AllReadyH.nil)
    · go_simp
      refine hK.out _ _ hHeld (fun hHeld2 => ?_)
      clear hK K hHeld2
      refine wpAnyH_ready (rs := [4]) (by kernel_rfl) (by simp) ?_
      refine AllReadyH.cons rfl (fun K hK => ?_) AllReadyH.nil
      go_simp
      refine (HC.out _).mono ?_
      rintro e W2 ⟨rfl, hb1⟩
      refine hK.out _ _ ⟨below_row hb1 hHeld.1, (hb1.cell (p := ⟨w.heap.size + 1, 0, none⟩) (World.block_lt_of_cell? _ _ hHeld.2)).trans hHeld.2⟩ (fun hHeld2 => ?_)
      clear hK K
      replace hHeld := hHeld2
      clear hHeld2
      have hS1 : Hid (W2.heap[w.heap.size + 1 + 1]? = some (.cells #[.float .f32 s] 25 (0, 0))) := below_row hb1 HS0.out
      have hF1 : Hid (W2.heap[w.heap.size + 1]? = some (.cells #[.int .i64 facing] 2 (0, 0))) := below_row hb1 HF0.out
      have hB1 : Hid (Below w.heap.size w W2) := HB.out.trans ((Below.drew (Below.refl w.heap.size W)).trans (hb1.mono HB.out.size))
      have hB2 : Hid (Below w.heap.size W W2) := (Below.drew (Below.refl w.heap.size W)).trans (hb1.mono HB.out.size)
      have hK1 : Hid (KeepsOthers W W2) := (KeepsOthers.drew W).trans (keeps_of_below hb1)
      have hc1 : W2.cell? ⟨w.heap.size + 1 + 1, 0, none⟩ = some (.float .f32 s) := by rw [cell_of_row W2 _ _ _ _ _ hS1.out]; rfl
      have hf1 := frozen_of_row W2 (w.heap.size + 1 + 1) 0 _ _ hS1.out
      refine take_at (i := 5) (d := 13) (v := ?_) rfl rfl (by kernel_rfl) (by kernel_rfl) (by kernel_rfl) (fun _ _ _ h => h) (Or.inl ⟨by rfl, ?hy5u1⟩) hHeld ?rest5u1
      case hy5u1 =>
        intro w' hS'
        go_simp
        try with_reducible rfl
      simp only [List.setIfInBounds_toArray, List.set_cons_zero, List.set_cons_succ]
      refine wpAnyH_ready (rs := [6]) (by kernel_rfl) (by simp) ?_
      refine AllReadyH.cons rfl (fun K hK => ?_) AllReadyH.nil
      go_simp
      refine hK.out _ _ ⟨(heap_setCell_other _ ⟨w.heap.size + 1 + 1, 0, none⟩ _ _ (by simp; omega)).trans hHeld.1, (World.cell?_setCell_other _ ⟨w.heap.size + 1 + 1, 0, none⟩ ⟨w.heap.size + 1, 0, none⟩ _ (fun e => by injection e with e1; omega)).trans hHeld.2⟩ (fun hHeld2 => ?_)
      clear hK K
      refine wpAnyH_done (by kernel_rfl) ?_ _
      gi_wp2
      exact fall_step (g := (fun h => fallOf hs ts (h : Int) facing)) hl hs0 HP.out HG.out hK1.out hB2.out hHeld.1 hF1.out hS1.out hB1.out
    · go_simp
      refine (HC.out _).mono ?_
      rintro e W2 ⟨rfl, hb1⟩
      refine hK.out _ _ ⟨below_row hb1 hHeld.1, (hb1.cell (p := ⟨w.heap.size + 1, 0, none⟩) (World.block_lt_of_cell? _ _ hHeld.2)).trans hHeld.2⟩ (fun hHeld2 => ?_)
      clear hK K
      replace hHeld := hHeld2
      clear hHeld2
      have hS1 : Hid (W2.heap[w.heap.size + 1 + 1]? = some (.cells #[.float .f32 s] 25 (0, 0))) := below_row hb1 HS0.out
      have hF1 : Hid (W2.heap[w.heap.size + 1]? = some (.cells #[.int .i64 facing] 2 (0, 0))) := below_row hb1 HF0.out
      have hB1 : Hid (Below w.heap.size w W2) := HB.out.trans ((Below.drew (Below.refl w.heap.size W)).trans (hb1.mono HB.out.size))
      have hB2 : Hid (Below w.heap.size W W2) := (Below.drew (Below.refl w.heap.size W)).trans (hb1.mono HB.out.size)
      have hK1 : Hid (KeepsOthers W W2) := (KeepsOthers.drew W).trans (keeps_of_below hb1)
      have hc1 : W2.cell? ⟨w.heap.size + 1 + 1, 0, none⟩ = some (.float .f32 s) := by rw [cell_of_row W2 _ _ _ _ _ hS1.out]; rfl
      have hf1 := frozen_of_row W2 (w.heap.size + 1 + 1) 0 _ _ hS1.out
      refine wpAnyH_ready (rs := [0]) (by kernel_rfl) (by simp) ?_
      refine AllReadyH.cons rfl (fun K hK => ?_) AllReadyH.nil
      go_simp
      refine hK.out _ _ hHeld (fun hHeld2 => ?_)
      clear hK K hHeld2
      refine take_at (i := 5) (d := 13) (v := ?_) rfl rfl (by kernel_rfl) (by kernel_rfl) (by kernel_rfl) (fun _ _ _ h => h) (Or.inl ⟨by rfl, ?hy5u2⟩) hHeld ?rest5u2
      case hy5u2 =>
        intro w' hS'
        go_simp
        try with_reducible rfl
      simp only [List.setIfInBounds_toArray, List.set_cons_zero, List.set_cons_succ]
      refine wpAnyH_ready (rs := [6]) (by kernel_rfl) (by simp) ?_
      refine AllReadyH.cons rfl (fun K hK => ?_) AllReadyH.nil
      go_simp
      refine hK.out _ _ ⟨(heap_setCell_other _ ⟨w.heap.size + 1 + 1, 0, none⟩ _ _ (by simp; omega)).trans hHeld.1, (World.cell?_setCell_other _ ⟨w.heap.size + 1 + 1, 0, none⟩ ⟨w.heap.size + 1, 0, none⟩ _ (fun e => by injection e with e1; omega)).trans hHeld.2⟩ (fun hHeld2 => ?_)
      clear hK K
      refine wpAnyH_done (by kernel_rfl) ?_ _
      gi_wp2
      exact fall_step (g := (fun h => fallOf hs ts (h : Int) facing)) hl hs0 HP.out HG.out hK1.out hB2.out hHeld.1 hF1.out hS1.out hB1.out
  case done =>
    rintro D zs W hD rfl ⟨s, hs0, h0, hF, hS, hg, hbw⟩ hK
    rename_i K hcont
    have hc : W.cell? ⟨w.heap.size + 1 + 1, 0, none⟩ = some (.float .f32 s) := by rw [cell_of_row W _ _ _ _ _ hS]; rfl
    have hD' : w.heap.size ≤ D := by simp at hD; omega
    have HSum := Lib.hid (hg good_all)
    have HK := Lib.hid hK
    clear hg h0 hF hS hD hK
    refine hcont _ _ ?_
    go_wp2
    refine ⟨by simp, .inl ⟨_, _, rfl, run_takeDeferred HK.out, ?_⟩⟩
    refine ⟨.float .f32 s, ?_, ?_, hbw.trans (belowK_b (w := w) (Nat.le_refl _) W D _ _ hD' HK.out rfl rfl)⟩
    · exact results_tmp (fn := Try.f81) rfl _ _ _
    · rw [HSum.out, hrs_length]
  case stop =>
    rintro D c pre W _ _ h _
    exact h.elim

end Go.Proofs.Ytmniodfdoidffaa
