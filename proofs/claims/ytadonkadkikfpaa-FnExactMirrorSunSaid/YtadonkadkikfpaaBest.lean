/-
  The hour with the most light on a window: the first, the greatest of the lights, and the model's walk over the hours.
-/
import Derived.Test.YtadonkadkikfpaaFallDay
namespace Go.Proofs.Ytadonkadkikfpaa
open Go.ChangeShapes Go.WideShapes Go.ChangeAt Go.RowKit

/-- The first of the greatest, and where it is; what is not above 0 is never it. -/
def bestTo (g : Nat → Nat) : Nat → Nat × Nat
  | 0 => (0, 0)
  | k + 1 => if FloatKind.f32.format.order (g k) (bestTo g k).2 = some .gt then (k, g k) else bestTo g k

theorem bestTo_gt {g : Nat → Nat} {k : Nat} (h : FloatKind.f32.format.order (g k) (bestTo g k).2 = some .gt) : bestTo g (k + 1) = (k, g k) := if_pos h
theorem bestTo_no {g : Nat → Nat} {k : Nat} {o : Ordering} (h : FloatKind.f32.format.order (g k) (bestTo g k).2 = some o) (ho : o ≠ .gt) : bestTo g (k + 1) = bestTo g k := by
  show (if FloatKind.f32.format.order (g k) (bestTo g k).2 = some .gt then (k, g k) else bestTo g k) = bestTo g k
  exact if_neg (fun e => ho (by rw [h] at e; injection e))
theorem bestTo_pos {g : Nat → Nat} (hg : ∀ k, pos32 (g k) = true) : ∀ k, pos32 (bestTo g k).2 = true
  | 0 => by unfold bestTo; decide
  | k + 1 => by
    unfold bestTo
    split
    · exact hg k
    · exact bestTo_pos hg k
theorem bestTo_one {g : Nat → Nat} (h : g 0 = 0 ∨ FloatKind.f32.format.order (g 0) 0 = some .gt) : bestTo g 1 = (0, g 0) := by
  rcases h with h | h
  · unfold bestTo
    split
    · rfl
    · unfold bestTo; rw [h]
  · exact bestTo_gt (g := g) (k := 0) h
theorem litB_zero_or (l : Nat) : litB l = 0 ∨ FloatKind.f32.format.order (litB l) 0 = some .gt := by
  by_cases h : FloatKind.f32.format.order l 0 = some .gt
  · right; rw [litB_gt h]; exact h
  · left; exact if_neg h
theorem fallB_zero_or (x d : Int) : fallB x d = 0 ∨ FloatKind.f32.format.order (fallB x d) 0 = some .gt := by
  unfold fallB
  split
  · exact litB_zero_or _
  · exact .inl rfl
theorem best_pos (hs ts : List Int) (facing : Int) (k : Nat) : pos32 (bestTo (fun h => fallOf hs ts (h : Int) facing) k).2 = true := bestTo_pos (fun _ => fallB_pos _ _) k
theorem best_order (hs ts : List Int) (facing : Int) (k : Nat) : ∃ o, FloatKind.f32.format.order (fallOf hs ts (k : Int) facing) (bestTo (fun h => fallOf hs ts (h : Int) facing) k).2 = some o :=
  order_some (pos_fin (fallB_pos _ _)) (pos_fin (best_pos hs ts facing k))

set_option maxRecDepth 100000 in
set_option maxHeartbeats 1000000 in
theorem specBest_yes (hs ts : List Int) (hh : hs.length = 24) (ht : ts.length = 24) (rb : ∀ x ∈ hs ++ ts, -32768 ≤ x ∧ x ≤ 32767) (facing : Int) (h1 : okB hs ts = true) (h2 : inF facing = true) (w : World) :
    Calls Try.prog 35 #[.agg (sunC hs ts), .int .i64 facing] w fun e w' => e = .returned (.tuple #[.int .i64 ((bestTo (fun h => fallOf hs ts (h : Int) facing) 24).1 : Int), .float .f32 (bestTo (fun h => fallOf hs ts (h : Int) facing) 24).2, .int .i64 0]) ∧ Below w.heap.size w w' := by
  have Hc : Hid (codeB (okB hs ts) true = 0) := by rw [h1]; rfl
  have H1 : Hid (bestTo (fun h => fallOf hs ts (h : Int) facing) 1 = (0, fallOf hs ts 0 facing)) := bestTo_one (g := (fun h => fallOf hs ts (h : Int) facing)) (fallB_zero_or _ _)
  have HF : Hid (∀ (k : Int), 0 ≤ k → k < 24 → ∀ W, W.heap[w.heap.size]? = some (.cells (sunC hs ts) 32 (0, 0)) → Calls Try.prog 61 #[.pointer (some ⟨w.heap.size, 0, none⟩), .int .i64 k, .int .i64 facing] W fun e w' => e = .returned (.float .f32 (fallOf hs ts k facing)) ∧ Below W.heap.size W w') := by
    intro k h0 h24 W hg
    have hbd := okB_h hh ht h1 k h0 h24
    have hby := okB_t hh ht h1 k h0 h24
    exact l01Fall_any w.heap.size hs ts hh ht k facing h0 h24 (inF_bd h2).1 (inF_bd h2).2 hbd.2 hby.1 hby.2 32 (0, 0) W hg
  have Hi := Lib.hid h2
  have Hh := Lib.hid hh
  have Ht := Lib.hid ht
  have Rb := Lib.hid rb
  clear hh ht rb
  clear h1 h2
  go_enter Try.func35, Try.ntmps35
  go_upto_region 1 with (fail)
  refine abs_code (fun W => Below w.heap.size w W ∧ W.heap[w.heap.size]? = some (.cells (sunC hs ts) 32 (0, 0))) ⟨(Below.refl _ _).alloc (Nat.le_refl _) _, heap_alloc_new _ _⟩ ?_
  rintro W ⟨hb, h0⟩
  have H0 := Lib.hid h0
  clear h0
  go_wp2_with (first | (go_at_call 60; refine (l01Faced_is _ true Hi.out _).mono ?_; rintro e w' ⟨rfl, rfl⟩) | (go_at_call 53; refine (l01Asked_is _ hs ts Hh.out Ht.out Rb.out 32 (0, 0) true 0 Hc.out _ H0.out).mono ?_; rintro e w' ⟨rfl, rfl⟩) | (go_at_call 61; refine (HF.out 0 (by decide) (by decide) _ H0.out).mono ?_; rintro e W1 ⟨rfl, hb1⟩; replace H0 := Lib.hid (below_row hb1 H0.out); replace hb := hb.trans (hb1.mono hb.size); clear hb1))
  go_loopw [8, 9, 10] (fun b m i wr => ∃ k : Nat, 1 ≤ k ∧ k ≤ 24 ∧ i = .int .i64 k ∧ b = .int .i64 ((bestTo (fun h => fallOf hs ts (h : Int) facing) k).1 : Int) ∧ m = .float .f32 (bestTo (fun h => fallOf hs ts (h : Int) facing) k).2 ∧ Below w.heap.size w wr ∧ wr.heap[w.heap.size]? = some (.cells (sunC hs ts) 32 (0, 0))) (fun _ _ i _ => 24 - (intOf i).toNat)
  case atStart => exact ⟨1, Nat.le_refl _, by decide, rfl, by rw [H1.out]; rfl, by rw [H1.out], hb, H0.out⟩
  case round =>
    clear hb H0
    obtain ⟨k, hk0, hk, rfl, rfl, rfl, hb, h0⟩ := hrel
    have H0 := Lib.hid h0
    clear h0
    by_cases hlt : k < 24
    · have HC := Lib.hid (HF.out (k : Int) (by omega) (by omega))
      obtain ⟨o, ho⟩ := best_order hs ts facing k
      cases o
      · have HN : Hid (bestTo (fun h => fallOf hs ts (h : Int) facing) (k + 1) = bestTo (fun h => fallOf hs ts (h : Int) facing) k) := bestTo_no ho (by decide)
        generalize bestTo (fun h => fallOf hs ts (h : Int) facing) k = bs at *
        obtain ⟨b, s⟩ := bs
        go_wp2_with ((go_at_call 61; refine (HC.out _ H0.out).mono ?_; rintro e W1 ⟨rfl, hb1⟩; replace H0 := Lib.hid (below_row hb1 H0.out); replace hb := hb.trans (hb1.mono hb.size); clear hb1))
        go_roundw
        case rel => exact ⟨k + 1, by omega, by omega, by go_num, by rw [HN.out], by rw [HN.out], hb, H0.out⟩
        case measure => simp [intOf]; omega
      · have HN : Hid (bestTo (fun h => fallOf hs ts (h : Int) facing) (k + 1) = bestTo (fun h => fallOf hs ts (h : Int) facing) k) := bestTo_no ho (by decide)
        generalize bestTo (fun h => fallOf hs ts (h : Int) facing) k = bs at *
        obtain ⟨b, s⟩ := bs
        go_wp2_with ((go_at_call 61; refine (HC.out _ H0.out).mono ?_; rintro e W1 ⟨rfl, hb1⟩; replace H0 := Lib.hid (below_row hb1 H0.out); replace hb := hb.trans (hb1.mono hb.size); clear hb1))
        go_roundw
        case rel => exact ⟨k + 1, by omega, by omega, by go_num, by rw [HN.out], by rw [HN.out], hb, H0.out⟩
        case measure => simp [intOf]; omega
      · have HN : Hid (bestTo (fun h => fallOf hs ts (h : Int) facing) (k + 1) = (k, fallOf hs ts (k : Int) facing)) := bestTo_gt ho
        generalize bestTo (fun h => fallOf hs ts (h : Int) facing) k = bs at *
        obtain ⟨b, s⟩ := bs
        go_wp2_with ((go_at_call 61; refine (HC.out _ H0.out).mono ?_; rintro e W1 ⟨rfl, hb1⟩; replace H0 := Lib.hid (below_row hb1 H0.out); replace hb := hb.trans (hb1.mono hb.size); clear hb1))
        go_roundw
        case rel => exact ⟨k + 1, by omega, by omega, by go_num, by rw [HN.out], by rw [HN.out], hb, H0.out⟩
        case measure => simp [intOf]; omega
    · obtain rfl : k = 24 := by omega
      go_wp2
      go_ret3
      exact ⟨rfl, hb⟩

set_option maxRecDepth 100000 in
set_option maxHeartbeats 1000000 in
theorem specBest_no (hs ts : List Int) (hh : hs.length = 24) (ht : ts.length = 24) (rb : ∀ x ∈ hs ++ ts, -32768 ≤ x ∧ x ≤ 32767) (facing : Int) (h1 : ¬ (okB hs ts = true ∧ inF facing = true)) (w : World) :
    Calls Try.prog 35 #[.agg (sunC hs ts), .int .i64 facing] w fun e w' => e = .returned (.tuple #[.int .i64 0, .float .f32 0, .int .i64 (codeB (okB hs ts) (inF facing))]) ∧ Below w.heap.size w w' := by
  have hne := codeB_ne h1
  generalize hf : inF facing = fine at *
  generalize hc : codeB (okB hs ts) fine = c at *
  have Hc := Lib.hid hc
  have Hi := Lib.hid hf
  have hne' : (c != 0) = true := bne_iff_ne.2 hne
  have Hh := Lib.hid hh
  have Ht := Lib.hid ht
  have Rb := Lib.hid rb
  clear hh ht rb
  clear h1 hc hf hne
  go_enter Try.func35, Try.ntmps35
  go_wp2_with (first | (go_at_call 60; refine (l01Faced_is _ fine Hi.out _).mono ?_; rintro e w' ⟨rfl, rfl⟩) | (go_at_call 53; refine (l01Asked_is _ hs ts Hh.out Ht.out Rb.out 32 (0, 0) fine c Hc.out _ (heap_alloc_new _ _)).mono ?_; rintro e w' ⟨rfl, rfl⟩))
  go_ret3
  exact ⟨rfl, (Below.refl _ _).alloc (Nat.le_refl _) _⟩

set_option maxRecDepth 100000 in
set_option maxHeartbeats 1000000 in
theorem FnExactBestHour_core (hs ts : List Int) (hh : hs.length = 24) (ht : ts.length = 24) (facing : Int) (b : Int) (v : Nat) (c : Int) (hv : fin32 v = true)
    (hspec : ∀ w, Calls Try.prog 35 #[.agg (sunC hs ts), .int .i64 facing] w fun e w' => e = .returned (.tuple #[.int .i64 b, .float .f32 v, .int .i64 c]) ∧ Below w.heap.size w w')
    (himpl : ∀ w, Calls Try.prog 36 #[.agg (sunC hs ts), .int .i64 facing] w fun e w' => e = .returned (.tuple #[.int .i64 b, .float .f32 v, .int .i64 c]) ∧ Below w.heap.size w w') (w : World) :
    Calls Try.prog 12 #[.agg (sunC hs ts), .int .i64 facing] w fun e w' => e = .returned (.bool true) ∧ Below w.heap.size w w' := by
  have Hh := Lib.hid hh
  have Ht := Lib.hid ht
  have HS := Lib.hid hspec
  have HI := Lib.hid himpl
  clear hh ht hspec himpl
  have hw := run_wide _ hv
  have Hv := Lib.hid hv
  clear hv
  go_enter Try.func12, Try.ntmps12
  go_upto_region 1 with (fail)
  refine abs_code (fun W => Below w.heap.size w W ∧ W.heap[w.heap.size]? = some (.cells (sunC hs ts) 30 (0, 0))) ⟨(Below.refl _ _).alloc (Nat.le_refl _) _, heap_alloc_new _ _⟩ ?_
  rintro W ⟨hb, h0⟩
  have H0 := Lib.hid h0
  clear h0
  go_wp2_with (first | (refine wpList_load_part rfl 30 _ rfl w.heap.size 0 48 rfl 30 (sunC hs ts) (0, 0) _ H0.out Try.underlying30 rfl info_sunL (sun_fits _ _ Hh.out Ht.out) (sunC hs ts) (sun_all _ _ Hh.out Ht.out) ?_) | (go_at_call 21; refine (toSun_any hs ts Hh.out Ht.out _).mono ?_; rintro e W1 ⟨rfl, hb1⟩; replace H0 := Lib.hid (below_row hb1 H0.out); replace hb := hb.trans (hb1.mono hb.size); clear hb1) | (go_at_call 35; refine (HS.out _).mono ?_; rintro e W1 ⟨rfl, hb1⟩; replace H0 := Lib.hid (below_row hb1 H0.out); replace hb := hb.trans (hb1.mono hb.size); clear hb1) | (go_at_call 36; refine (HI.out _).mono ?_; rintro e W1 ⟨rfl, hb1⟩; replace H0 := Lib.hid (below_row hb1 H0.out); replace hb := hb.trans (hb1.mono hb.size); clear hb1) | (go_at_call 17; refine (same_wide _ Hv.out _).mono ?_; rintro e w1 ⟨rfl, rfl⟩))
  go_ret
  exact ⟨rfl, hb⟩

end Go.Proofs.Ytadonkadkikfpaa
