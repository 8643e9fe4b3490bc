/-
  The light of a day: the sums over the hours of a sun that is valid.
-/
import Derived.Test.YtadonkadkikfpaaFallOn
import Derived.Test.YtadonkadkikfpaaAdd
namespace Go.Proofs.Ytadonkadkikfpaa
open Go.RowKit Go.Shelf

theorem run_store_float (P : Program) (w : World) (a : Addr) (k : FloatKind) (b : Nat) (m : Mode) : (store a (.float k b) m).run P w = stored P w a (.float k b) m := run_store P w a _ m rfl

attribute [local go_sem] Oper.semAt_some run_store_float

/-- What a sum over the hours keeps: the sun, the sum so far, whatever lay before. -/
def SumI (w : World) (hs ts : List Int) (sb : Nat) (g : Nat → Nat) (pre : List Hr) (W : World) : Prop :=
  ∃ s : Nat, pos32 s = true ∧ W.heap[w.heap.size]? = some (.cells (sunC hs ts) 32 (0, 0)) ∧ W.heap[sb]? = some (.cells #[.float .f32 s] 22 (0, 0)) ∧ (Good pre → s = sumTo g pre.length) ∧ Below w.heap.size w W

theorem keeps_of_below {W W1 : World} (hb : Below W.heap.size W W1) : KeepsOthers W W1 := by
  exact ⟨hb.size, fun b o ho _ => (hb.block b (Array.getElem?_eq_some_iff.1 ho).1).trans ho⟩

theorem sumI_own (w : World) (hs ts : List Int) (sb : Nat) (g : Nat → Nat) (B : Nat) (hB : w.heap.size ≤ B) : OwnFrom B (SumI w hs ts sb g) := by
  intro s W W' row ⟨x, hx, h0, h1, hg, hb⟩ hg' hr
  have hr2 := fun r e => (hr r e).2
  exact ⟨x, hx, heap_kept h0 hg' hr2, heap_kept h1 hg' hr2, hg, ownFrom_below (β := Unit) (Nat.le_refl _) hB () W W' row hb hg' hr⟩

theorem sum_step {w W W1 : World} {hs ts : List Int} {sb : Nat} {g : Nat → Nat} {pre : List Hr} {k : Nat} {h01 : 0 ≤ (k : Int) ∧ (k : Int) < 24} {s : Nat} (hsb : w.heap.size < sb) (hl : pre.length < 24) (hs0 : pos32 s = true) (hg0 : pos32 (g k) = true)
    (hgood : Good pre → s = sumTo g pre.length) (hk : KeepsOthers W W1) (hbW : Below w.heap.size W W1) (hH : W1.heap[w.heap.size]? = some (.cells (sunC hs ts) 32 (0, 0))) (hS : W1.heap[sb]? = some (.cells #[.float .f32 s] 22 (0, 0))) (hb : Below w.heap.size w W1) :
    KeepsOthers W (W1.setCell ⟨sb, 0, none⟩ (.float .f32 (fadd s (g k)))) ∧ Below w.heap.size W (W1.setCell ⟨sb, 0, none⟩ (.float .f32 (fadd s (g k)))) ∧ SumI w hs ts sb g (pre ++ [⟨k, h01⟩]) (W1.setCell ⟨sb, 0, none⟩ (.float .f32 (fadd s (g k)))) := by
  refine ⟨hk.trans (KeepsOthers.setCell _ _ _), hbW.setCell (p := ⟨sb, 0, none⟩) (Nat.le_of_lt hsb) _, fadd s (g k), (add_ok hs0 hg0).2, ?_, ?_, ?_, hb.setCell (p := ⟨sb, 0, none⟩) (Nat.le_of_lt hsb) _⟩
  · rw [heap_setCell_other _ _ _ _ (Nat.ne_of_lt hsb)]; exact hH
  · rw [heap_setCell_same _ _ _ _ _ _ hS]; rfl
  · intro hgs
    obtain ⟨hgp, hxk⟩ := good_snoc hgs hl
    have hkl : k = pre.length := by have : (k : Int) = (pre.length : Int) := hxk; omega
    rw [List.length_append, List.length_singleton, sumTo_succ, ← hgood hgp, hkl]

set_option maxRecDepth 100000 in
set_option maxHeartbeats 1000000 in
theorem implGroundDay_yes (hs ts : List Int) (hh : hs.length = 24) (ht : ts.length = 24) (h1 : okB hs ts = true) (w : World) :
    Calls Try.prog 32 #[.agg (sunC hs ts)] w fun e w' => e = .returned (.tuple #[.float .f32 (sumTo (fun h => groundB (atH hs (h : Int))) 24), .int .i64 0]) ∧ Below w.heap.size w w' := by
  refine (callsIn_wide (n := 4)).1 ?_
  have Hc : Hid (codeB (okB hs ts) true = 0) := by rw [h1]; rfl
  have Hok := Lib.hid h1
  have Hh := Lib.hid hh
  have Ht := Lib.hid ht
  clear hh ht h1
  refine callsIn_of_wp_marks Try.func32 rfl trivial ?_ rfl
  simp only [Try.ntmps32, List.size_toArray, List.length_cons, List.length_nil, Nat.reduceAdd, Nat.reduceSub, Array.replicate_succ, Array.replicate_zero, List.push_toArray, List.append_toArray, List.nil_append, List.cons_append]
  refine wpIn_wide.2 ?_
  go_upto_region 1 with (fail)
  refine abs_code (fun W => Below w.heap.size w W ∧ W.heap[w.heap.size]? = some (.cells (sunC hs ts) 32 (0, 0))) ⟨(Below.refl _ _).alloc (Nat.le_refl _) _, heap_alloc_new _ _⟩ ?_
  rintro W ⟨hb, h0⟩
  have H0 := Lib.hid h0
  clear h0
  go_upto_region 4 with (first | (refine wpList_load_part rfl 32 _ rfl w.heap.size 0 48 rfl 32 (sunC hs ts) (0, 0) _ H0.out Try.underlying32 rfl info_sun (sun_fits _ _ Hh.out Ht.out) (sunC hs ts) (sun_all _ _ Hh.out Ht.out) ?_) | (go_at_call 55; refine (checkSun_is hs ts Hh.out Ht.out true 0 Hc.out _).mono ?_; rintro e W1 ⟨rfl, hb1⟩; replace H0 := Lib.hid (below_row hb1 H0.out); replace hb := hb.trans (hb1.mono hb.size); clear hb1))
  have hsb := row_lt H0.out
  go_wp2
  refine (wpIn_wide (n := 4)).1 ?_
  refine wpIn_rangeFunc_ownF rfl (by decide) (gf := 64) (lb := #[]) rfl trivial (enters_of Try.func64 (by kernel_rfl) rfl)
    (eachHour_stops Fence.wide _ trivial rfl (by decide) w.heap.size _) belowK_t (belowK_b (by simp; omega)) (Below.refl _ _) (fun _ => rfl)
    (SumI w hs ts W1.heap.size (fun h => groundB (atH hs (h : Int)))) (fun _ _ _ => False) (sumI_own w hs ts _ _ _ (by simp; omega)) (fun _ _ _ _ _ hs _ _ => hs) ?h0
    (fun x => { tmps := #[.agg (sunC hs ts), .pointer (some ⟨w.heap.size, 0, none⟩), .float .f32 0, .int .i64 0, .int .i64 0, .pointer (some ⟨W1.heap.size, 0, none⟩), .int .i64 x.1, .agg (sunC hs ts), .int .i64 0, .int .i64 0, .bool false, undef, .int .i64 x.1, undef, undef, undef, undef, undef, undef], defers := [] }) ?assign ?body ?done ?stop
  case h0 =>
    refine ⟨0, by decide, ?_, heap_alloc_new _ _, fun _ => rfl, hb.trans ((Below.refl _ W1).alloc hb.size _)⟩
    rw [heap_alloc_old _ _ _ hsb]; exact H0.out
  case assign =>
    intro l x W K hK
    gi_wp2
    exact hK
  case body =>
    rintro l pre ⟨x, hx0, hx1⟩ W ⟨s, hs0, h0, hS, hg, hbw⟩ hl
    obtain ⟨k, rfl⟩ := Int.eq_ofNat_of_zero_le hx0
    have hk : k < 24 := by omega
    have hbd := okB_h Hh.out Ht.out Hok.out (k : Int) hx0 hx1
    have hgp := groundB_pos _ hbd.2
    have HC := Lib.hid (groundAt_any hs ts Hh.out Ht.out (k : Int) hx0 hx1 hbd.2)
    have radd : ∀ t w, (binOp .add t (.float .f32 s) (.float .f32 (groundB (atH hs (k : Int))))).run Try.prog w = .ok (.float .f32 (fadd s (groundB (atH hs (k : Int))))) w := fun t w => run_float_arith w .add t .f32 _ _ _ (add_ok hs0 hgp).1
    have hc : W.cell? ⟨W1.heap.size, 0, none⟩ = some (.float .f32 s) := by rw [cell_of_row W _ _ _ _ _ hS]; rfl
    have HS0 := Lib.hid hS
    have HG := Lib.hid hg
    have HB := Lib.hid hbw
    have HP := Lib.hid hgp
    clear hS hg hbw hbd hgp
    gi_wp2
    refine region_round (S := (fun W' => W'.heap[w.heap.size]? = some (.cells (sunC hs ts) 32 (0, 0)))) arrU (no_defer (by rfl)) (fun ⟨_, _, h⟩ => h) h0 (fun hHeld => ?_)
    refine take_at (i := 1) (d := 14) (v := .agg (sunC hs ts)) rfl rfl (by kernel_rfl) (by kernel_rfl) (by kernel_rfl) (fun _ _ _ h => h) (yields_part (by rfl) 32 (.tmp 1) (by rfl) w.heap.size 0 48 (by rfl) 32 (sunC hs ts) (0, 0) _ (fun _ h => h) Try.underlying32 rfl info_sun (sun_fits _ _ Hh.out Ht.out) (sunC hs ts) (sun_all _ _ Hh.out Ht.out)) hHeld ?_
    simp only [List.setIfInBounds_toArray, List.set_cons_zero, List.set_cons_succ]
    refine take_at (i := 2) (d := 15) (v := ?_) rfl rfl (by kernel_rfl) (by kernel_rfl) (by kernel_rfl) (fun _ _ _ h => h) (Or.inl ⟨by rfl, ?hy2u3⟩) hHeld ?rest2u3
    case hy2u3 =>
      intro w' hS'
      go_simp
      try with_reducible rfl
    simp only [List.setIfInBounds_toArray, List.set_cons_zero, List.set_cons_succ]
    refine wpAnyH_ready (rs := [0, 3]) (by kernel_rfl) (by simp) ?_
    refine AllReadyH.cons rfl (fun K hK => ?_) (AllReadyH.cons rfl (fun K hK => ?_) AllReadyH.nil)
    · go_simp
      refine hK.out _ _ hHeld (fun hHeld2 => ?_)
      clear hK K hHeld2
      refine wpAnyH_ready (rs := [3]) (by kernel_rfl) (by simp) ?_
      refine AllReadyH.cons rfl (fun K hK => ?_) AllReadyH.nil
      go_simp
      refine (HC.out _).mono ?_
      rintro e W2 ⟨rfl, hb1⟩
      refine hK.out _ _ (below_row hb1 hHeld) (fun hHeld2 => ?_)
      clear hK K
      replace hHeld := hHeld2
      clear hHeld2
      have hS1 : Hid (W2.heap[W1.heap.size]? = some (.cells #[.float .f32 s] 22 (0, 0))) := below_row hb1 HS0.out
      have hB1 : Hid (Below w.heap.size w W2) := HB.out.trans ((Below.drew (Below.refl w.heap.size W)).trans (hb1.mono HB.out.size))
      have hB2 : Hid (Below w.heap.size W W2) := (Below.drew (Below.refl w.heap.size W)).trans (hb1.mono HB.out.size)
      have hK1 : Hid (KeepsOthers W W2) := (KeepsOthers.drew W).trans (keeps_of_below hb1)
      have hc1 : W2.cell? ⟨W1.heap.size, 0, none⟩ = some (.float .f32 s) := by rw [cell_of_row W2 _ _ _ _ _ hS1.out]; rfl
      have hf1 := frozen_of_row W2 W1.heap.size 0 _ _ hS1.out
      refine take_at (i := 4) (d := 17) (v := ?_) rfl rfl (by kernel_rfl) (by kernel_rfl) (by kernel_rfl) (fun _ _ _ h => h) (Or.inl ⟨by rfl, ?hy4u1⟩) hHeld ?rest4u1
      case hy4u1 =>
        intro w' hS'
        go_simp
        try with_reducible rfl
      simp only [List.setIfInBounds_toArray, List.set_cons_zero, List.set_cons_succ]
      refine wpAnyH_ready (rs := [5]) (by kernel_rfl) (by simp) ?_
      refine AllReadyH.cons rfl (fun K hK => ?_) AllReadyH.nil
      go_simp
      refine hK.out _ _ ((heap_setCell_other _ ⟨W1.heap.size, 0, none⟩ _ _ (Nat.ne_of_lt hsb)).trans hHeld) (fun hHeld2 => ?_)
      clear hK K
      refine wpAnyH_done (by kernel_rfl) ?_ _
      gi_wp2
      exact sum_step (g := (fun h => groundB (atH hs (h : Int)))) hsb hl hs0 HP.out HG.out hK1.out hB2.out hHeld hS1.out hB1.out
    · go_simp
      refine (HC.out _).mono ?_
      rintro e W2 ⟨rfl, hb1⟩
      refine hK.out _ _ (below_row hb1 hHeld) (fun hHeld2 => ?_)
      clear hK K
      replace hHeld := hHeld2
      clear hHeld2
      have hS1 : Hid (W2.heap[W1.heap.size]? = some (.cells #[.float .f32 s] 22 (0, 0))) := below_row hb1 HS0.out
      have hB1 : Hid (Below w.heap.size w W2) := HB.out.trans ((Below.drew (Below.refl w.heap.size W)).trans (hb1.mono HB.out.size))
      have hB2 : Hid (Below w.heap.size W W2) := (Below.drew (Below.refl w.heap.size W)).trans (hb1.mono HB.out.size)
      have hK1 : Hid (KeepsOthers W W2) := (KeepsOthers.drew W).trans (keeps_of_below hb1)
      have hc1 : W2.cell? ⟨W1.heap.size, 0, none⟩ = some (.float .f32 s) := by rw [cell_of_row W2 _ _ _ _ _ hS1.out]; rfl
      have hf1 := frozen_of_row W2 W1.heap.size 0 _ _ hS1.out
      refine wpAnyH_ready (rs := [0]) (by kernel_rfl) (by simp) ?_
      refine AllReadyH.cons rfl (fun K hK => ?_) AllReadyH.nil
      go_simp
      refine hK.out _ _ hHeld (fun hHeld2 => ?_)
      clear hK K hHeld2
      refine take_at (i := 4) (d := 17) (v := ?_) rfl rfl (by kernel_rfl) (by kernel_rfl) (by kernel_rfl) (fun _ _ _ h => h) (Or.inl ⟨by rfl, ?hy4u2⟩) hHeld ?rest4u2
      case hy4u2 =>
        intro w' hS'
        go_simp
        try with_reducible rfl
      simp only [List.setIfInBounds_toArray, List.set_cons_zero, List.set_cons_succ]
      refine wpAnyH_ready (rs := [5]) (by kernel_rfl) (by simp) ?_
      refine AllReadyH.cons rfl (fun K hK => ?_) AllReadyH.nil
      go_simp
      refine hK.out _ _ ((heap_setCell_other _ ⟨W1.heap.size, 0, none⟩ _ _ (Nat.ne_of_lt hsb)).trans hHeld) (fun hHeld2 => ?_)
      clear hK K
      refine wpAnyH_done (by kernel_rfl) ?_ _
      gi_wp2
      exact sum_step (g := (fun h => groundB (atH hs (h : Int)))) hsb hl hs0 HP.out HG.out hK1.out hB2.out hHeld hS1.out hB1.out
  case done =>
    rintro D zs W hD rfl ⟨s, hs0, h0, hS, hg, hbw⟩ hK
    rename_i K hcont
    have hc : W.cell? ⟨W1.heap.size, 0, none⟩ = some (.float .f32 s) := by rw [cell_of_row W _ _ _ _ _ hS]; rfl
    have hD' : w.heap.size ≤ D := by simp at hD; omega
    have HSum := Lib.hid (hg good_all)
    have HK := Lib.hid hK
    clear hg h0 hS hD hK
    refine hcont _ _ ?_
    go_wp2
    refine ⟨by simp, .inl ⟨_, _, rfl, run_takeDeferred HK.out, ?_⟩⟩
    refine ⟨.tuple #[.float .f32 s, .int .i64 0], ?_, ?_, hbw.trans (belowK_b (w := w) (Nat.le_refl _) W D _ _ hD' HK.out rfl rfl)⟩
    · exact results_tmp2 (fn := Try.f32) rfl _ _ _
    · rw [HSum.out, hrs_length]
  case stop =>
    rintro D c pre W _ _ h _
    exact h.elim

set_option maxRecDepth 100000 in
set_option maxHeartbeats 1000000 in
theorem implGroundDay_no (hs ts : List Int) (hh : hs.length = 24) (ht : ts.length = 24) (h1 : ¬ okB hs ts = true) (w : World) :
    Calls Try.prog 32 #[.agg (sunC hs ts)] w fun e w' => e = .returned (.tuple #[.float .f32 0, .int .i64 1]) ∧ Below w.heap.size w w' := by
  have hc : codeB (okB hs ts) true = 1 := by
    have : okB hs ts = false := by simpa using h1
    rw [this]; rfl
  have Hc := Lib.hid hc
  have Hh := Lib.hid hh
  have Ht := Lib.hid ht
  clear hh ht h1 hc
  go_enter Try.func32, Try.ntmps32
  go_upto_region 1 with (fail)
  refine abs_code (fun W => Below w.heap.size w W ∧ W.heap[w.heap.size]? = some (.cells (sunC hs ts) 32 (0, 0))) ⟨(Below.refl _ _).alloc (Nat.le_refl _) _, heap_alloc_new _ _⟩ ?_
  rintro W ⟨hb, h0⟩
  have H0 := Lib.hid h0
  clear h0
  go_wp2_with (first | (refine wpList_load_part rfl 32 _ rfl w.heap.size 0 48 rfl 32 (sunC hs ts) (0, 0) _ H0.out Try.underlying32 rfl info_sun (sun_fits _ _ Hh.out Ht.out) (sunC hs ts) (sun_all _ _ Hh.out Ht.out) ?_) | (go_at_call 55; refine (checkSun_is hs ts Hh.out Ht.out true 1 Hc.out _).mono ?_; rintro e W1 ⟨rfl, hb1⟩; replace H0 := Lib.hid (below_row hb1 H0.out); replace hb := hb.trans (hb1.mono hb.size); clear hb1))
  go_ret2
  exact ⟨rfl, hb⟩

set_option maxRecDepth 100000 in
set_option maxHeartbeats 1000000 in
theorem specGroundDay_yes (hs ts : List Int) (hh : hs.length = 24) (ht : ts.length = 24) (rb : ∀ x ∈ hs ++ ts, -32768 ≤ x ∧ x ≤ 32767) (h1 : okB hs ts = true) (w : World) :
    Calls Try.prog 31 #[.agg (sunC hs ts)] w fun e w' => e = .returned (.tuple #[.float .f32 (sumTo (fun h => groundB (atH hs (h : Int))) 24), .int .i64 0]) ∧ Below w.heap.size w w' := by
  have Hok := Lib.hid h1
  have Hg := Lib.hid (heap_alloc_new w (.cells (sunC hs ts) 32))
  have Hh := Lib.hid hh
  have Ht := Lib.hid ht
  have Rb := Lib.hid rb
  clear hh ht rb
  clear h1
  go_enter Try.func31, Try.ntmps31
  go_wp2_with (go_at_call 50; refine (l01Ok_any _ hs ts Hh.out Ht.out Rb.out 32 (0, 0) _ Hg.out).mono ?_; rw [Hok.out]; rintro e w' ⟨rfl, rfl⟩)
  go_loop [4, 5] (fun s i => ∃ k : Nat, k ≤ 24 ∧ i = .int .i64 k ∧ s = .float .f32 (sumTo (fun h => groundB (atH hs (h : Int))) k)) (fun _ i => 24 - (intOf i).toNat)
  case atStart => exact ⟨0, Nat.zero_le _, rfl, rfl⟩
  case round =>
    obtain ⟨k, hk, rfl, rfl⟩ := hrel
    by_cases hlt : k < 24
    · have hbd := okB_h Hh.out Ht.out Hok.out (k : Int) (by omega) (by omega)
      have hp : pos32 (sumTo (fun h => groundB (atH hs (h : Int))) k) = true := sumTo_pos _ 24 (fun j hj => groundB_pos _ (okB_h Hh.out Ht.out Hok.out (j : Int) (by omega) (by omega)).2) k hk
      have hgp := groundB_pos _ hbd.2
      have HC := Lib.hid (l01Ground_any w.heap.size hs ts Hh.out (k : Int) (by omega) (by omega) hbd.1 hbd.2 32 (0, 0) _ Hg.out)
      have hs1 := sumTo_succ (fun h => groundB (atH hs (h : Int))) k
      have hadd := (add_ok hp hgp).1
      have HS := Lib.hid hs1
      generalize sumTo (fun h => groundB (atH hs (h : Int))) k = s at *
      have radd : ∀ t w, (binOp .add t (.float .f32 s) (.float .f32 (groundB (atH hs (k : Int))))).run Try.prog w = .ok (.float .f32 (fadd s (groundB (atH hs (k : Int))))) w := fun t w => run_float_arith w .add t .f32 _ _ _ hadd
      clear hbd hp hgp hs1 hadd
      go_wp2_with (go_at_call 58; refine HC.out.mono ?_; rintro e w' ⟨rfl, rfl⟩)
      go_round
      case rel => exact ⟨k + 1, by omega, by go_num, by rw [HS.out]⟩
      case measure => simp [intOf]; omega
    · obtain rfl : k = 24 := by omega
      go_wp2
      go_ret2
      exact ⟨rfl, (Below.refl _ _).alloc (Nat.le_refl _) _⟩

set_option maxRecDepth 100000 in
set_option maxHeartbeats 1000000 in
theorem specGroundDay_no (hs ts : List Int) (hh : hs.length = 24) (ht : ts.length = 24) (rb : ∀ x ∈ hs ++ ts, -32768 ≤ x ∧ x ≤ 32767) (h1 : ¬ okB hs ts = true) (w : World) :
    Calls Try.prog 31 #[.agg (sunC hs ts)] w fun e w' => e = .returned (.tuple #[.float .f32 0, .int .i64 1]) ∧ Below w.heap.size w w' := by
  have hok : okB hs ts = false := by simpa using h1
  have Hok := Lib.hid hok
  have Hh := Lib.hid hh
  have Ht := Lib.hid ht
  have Rb := Lib.hid rb
  clear hh ht rb
  clear h1 hok
  go_enter Try.func31, Try.ntmps31
  go_wp2_with (go_at_call 50; refine (l01Ok_any _ hs ts Hh.out Ht.out Rb.out 32 (0, 0) _ (heap_alloc_new _ _)).mono ?_; rw [Hok.out]; rintro e w' ⟨rfl, rfl⟩)
  go_ret2
  exact ⟨rfl, (Below.refl _ _).alloc (Nat.le_refl _) _⟩

end Go.Proofs.Ytadonkadkikfpaa
