/-
  For every blind, valid or not, and every height: the first tilt from 0 on that shuts it is what the model says. No conditions.
-/
import Derived.Test.YteagbfobnjfhcaaShut
import Derived.Test.YteagbfobnjfhcaaLaw
namespace Go.Proofs.Yteagbfobnjfhcaa
open Go.ChangeShapes Go.WideShapes Go.ChangeAt Go.RowKit

/-- The first number from 0 on, and the code. -/
def cutX (xs : List Int) : Int := (xs.find? (fun x : Int => decide (0 ≤ x))).getD 0
def cutC (xs : List Int) : Int := if (xs.find? (fun x : Int => decide (0 ≤ x))).isSome then 0 else 6
def RetCut (xs : List Int) (w : World) (e : Ending) (w' : World) : Prop := e = .returned (.tuple #[.int .i64 (cutX xs), .int .i64 (cutC xs)]) ∧ Below w.heap.size w w'

theorem find_drop {xs : List Int} {k : Nat} {x : Int} (hx : xs[k]? = some x) : xs.drop k = x :: xs.drop (k + 1) := by
  obtain ⟨h, e⟩ := List.getElem?_eq_some_iff.1 hx
  rw [← e]
  exact List.drop_eq_getElem_cons h
theorem find_hit {xs : List Int} {k : Nat} {x : Int} (h : xs.find? (fun x : Int => decide (0 ≤ x)) = (xs.drop k).find? (fun x : Int => decide (0 ≤ x))) (hx : xs[k]? = some x) (h0 : 0 ≤ x) : cutX xs = x ∧ cutC xs = 0 := by
  have h1 : xs.find? (fun x : Int => decide (0 ≤ x)) = some x := by rw [h, find_drop hx]; simp [h0]
  unfold cutX cutC
  rw [h1]
  exact ⟨rfl, rfl⟩
theorem find_miss {xs : List Int} {k : Nat} {x : Int} (h : xs.find? (fun x : Int => decide (0 ≤ x)) = (xs.drop k).find? (fun x : Int => decide (0 ≤ x))) (hx : xs[k]? = some x) (h0 : ¬ 0 ≤ x) : xs.find? (fun x : Int => decide (0 ≤ x)) = (xs.drop (k + 1)).find? (fun x : Int => decide (0 ≤ x)) := by
  rw [h, find_drop hx]
  simp [h0]
theorem find_end {xs : List Int} (h : xs.find? (fun x : Int => decide (0 ≤ x)) = (xs.drop xs.length).find? (fun x : Int => decide (0 ≤ x))) : cutX xs = 0 ∧ cutC xs = 6 := by
  have h1 : xs.find? (fun x : Int => decide (0 ≤ x)) = none := by rw [h]; simp
  unfold cutX cutC
  rw [h1]
  exact ⟨rfl, rfl⟩

set_option maxRecDepth 100000 in
set_option maxHeartbeats 1000000 in
theorem implCutOff_yes (n : Int) (wd gp : Nat) (t : Int) (sh : Nat) (h : Int) (xs : List Int) (hn : xs.length ≤ 1000) (hI : ∀ w, Calls Try.prog 41 #[.agg (blindC n wd gp t sh), .int .i64 h] w (RetList xs 0 w)) (w : World) :
    Calls Try.prog 44 #[.agg (blindC n wd gp t sh), .int .i64 h] w (RetCut xs w) := by
  have HC := Lib.hid hI
  clear hI
  go_enter Try.func44, Try.ntmps44
  go_upto_region 1 with (fail)
  refine abs_world (fun W => Below w.heap.size w W ∧ W.heap[w.heap.size]? = some (.cells (blindC n wd gp t sh) 28 (0, 0))) ⟨(Below.refl _ _).alloc (Nat.le_refl _) _, heap_alloc_new _ _⟩ ?_
  rintro W ⟨hb, d0⟩
  have H0 := Lib.hid d0
  clear d0
  go_upto_region 4 with (first | (refine wpList_load_part rfl 28 _ rfl w.heap.size 0 5 rfl 28 (blindC n wd gp t sh) (0, 0) _ H0.out Try.underlying28 rfl info_blind (blind_fits _ _ _ _ _) _ (blind_all _ _ _ _ _) ?_) | (go_at_call 41; refine (HC.out _).mono ?_; rintro e W1 ⟨⟨v, rfl, hv⟩, hb1⟩; replace hv := own_base hv hb.size; have hW := Nat.le_trans hb.size hb1.size; replace hb := hb.trans (hb1.mono hb.size); clear hb1))
  obtain ⟨a1, c1, rfl, hm⟩ := own_len hv
  have HO1 : Hid (∀ wr, Below W1.heap.size W1 wr → Own wr w.heap.size 2 (Value.int .i64) (.slice a1 xs.length c1) xs) := fun wr hb => own_below hv hb (Nat.le_refl _)
  have hst : xs.find? (fun x : Int => decide (0 ≤ x)) = (xs.drop 0).find? (fun x : Int => decide (0 ≤ x)) := rfl
  have HB := Lib.hid (fun (wr : World) (h : Below W1.heap.size W1 wr) => hb.trans (h.mono hb.size))
  clear hv hb
  unfold maxLen at hm
  go_wp2
  go_loopw [9, 21] (fun d i wr => ∃ k : Nat, k ≤ xs.length ∧ i = .int .i64 k ∧ Hid (xs.find? (fun x : Int => decide (0 ≤ x)) = (xs.drop k).find? (fun x : Int => decide (0 ≤ x))) ∧ Below W1.heap.size W1 wr) (fun _ i _ => xs.length - (intOf i).toNat)
  case atStart => exact ⟨0, Nat.zero_le _, rfl, hst, Below.refl _ _⟩
  case round =>
    obtain ⟨k, hk, rfl, hf, hb⟩ := hrel
    by_cases hlt : k < xs.length
    · obtain ⟨g1, cur1, rfl, _, hg1, hc1, hm1, x, hx, hk1⟩ := own_get (HO1.out wr hb) k hlt
      have q1 := cell_k hg1 hk1
      unfold maxLen at hm1
      clear hg1 hk1
      have z0 : (0 : Int) ≤ (k : Int) := by omega
      have z1 : (k : Int) < (xs.length : Int) := by omega
      by_cases hx0 : 0 ≤ x
      · have HX := Lib.hid (find_hit hf.out hx hx0)
        clear hx hst
        go_wp2
        go_ret2
        exact ⟨by rw [HX.out.1, HX.out.2]; rfl, HB.out _ hb⟩
      · have HX := Lib.hid (find_miss hf.out hx hx0)
        clear hx hst
        go_wp2
        go_roundw
        case rel => exact ⟨k + 1, by omega, by simp, HX, hb⟩
        case measure => simp [intOf]; omega
    · obtain rfl : k = xs.length := by omega
      have HX := Lib.hid (find_end hf.out)
      clear hst hlt
      go_wp2
      go_ret2
      exact ⟨by rw [HX.out.1, HX.out.2]; rfl, HB.out _ hb⟩

set_option maxRecDepth 100000 in
set_option maxHeartbeats 1000000 in
theorem implCutOff_no (n : Int) (wd gp : Nat) (t : Int) (sh : Nat) (h : Int) (xs : List Int) (c : Int) (hne : (c != 0) = true) (hI : ∀ w, Calls Try.prog 41 #[.agg (blindC n wd gp t sh), .int .i64 h] w (RetList xs c w)) (w : World) :
    Calls Try.prog 44 #[.agg (blindC n wd gp t sh), .int .i64 h] w (fun e w' => e = .returned (.tuple #[.int .i64 0, .int .i64 c]) ∧ Below w.heap.size w w') := by
  have HC := Lib.hid hI
  clear hI
  go_enter Try.func44, Try.ntmps44
  go_upto_region 1 with (fail)
  refine abs_world (fun W => Below w.heap.size w W ∧ W.heap[w.heap.size]? = some (.cells (blindC n wd gp t sh) 28 (0, 0))) ⟨(Below.refl _ _).alloc (Nat.le_refl _) _, heap_alloc_new _ _⟩ ?_
  rintro W ⟨hb, d0⟩
  have H0 := Lib.hid d0
  clear d0
  go_upto_region 3 with (first | (refine wpList_load_part rfl 28 _ rfl w.heap.size 0 5 rfl 28 (blindC n wd gp t sh) (0, 0) _ H0.out Try.underlying28 rfl info_blind (blind_fits _ _ _ _ _) _ (blind_all _ _ _ _ _) ?_) | (go_at_call 41; refine (HC.out _).mono ?_; rintro e W1 ⟨⟨v, rfl, hv⟩, hb1⟩; replace hb := hb.trans (hb1.mono hb.size); clear hb1))
  clear hv
  go_wp2
  go_ret2
  exact ⟨rfl, hb⟩

set_option maxRecDepth 100000 in
set_option maxHeartbeats 1000000 in
theorem specCutOff_yes (n : Int) (wd gp : Nat) (t : Int) (sh : Nat) (bw : BlWf n wd gp t sh) (h : Int) (hk : okBl n wd gp t sh = true) (hi : inI 1 64 h = true) (w : World) :
    Calls Try.prog 43 #[.agg (blindC n wd gp t sh), .int .i64 h] w (RetCut (wantT (shutP wd gp h) (tls 129)) w) := by
  obtain ⟨T0, T1⟩ := blwf_t bw
  obtain ⟨N0, N1⟩ := blwf_n bw
  obtain ⟨h0, h1⟩ := inI_get hi
  have OK := blok_of bw hk
  have HC := Lib.hid (fun W => l02Shut_any n wd gp t sh OK h h0 h1 W)
  have Hc : Hid (codeC (okBl n wd gp t sh) true = 0) := by rw [hk]; rfl
  have Hi := Lib.hid hi
  have hn := wantT_len (shutP wd gp h) (tls 129)
  rw [tls_length] at hn
  generalize wantT (shutP wd gp h) (tls 129) = xs at *
  clear OK h0 h1 hk hi bw
  go_enter Try.func43, Try.ntmps43
  go_upto_region 1 with (fail)
  refine abs_world (fun W => Below w.heap.size w W ∧ W.heap[w.heap.size]? = some (.cells (blindC n wd gp t sh) 28 (0, 0))) ⟨(Below.refl _ _).alloc (Nat.le_refl _) _, heap_alloc_new _ _⟩ ?_
  rintro W ⟨hb, d0⟩
  have D0 := Lib.hid d0
  clear d0
  go_upto_region 5 with (first | (go_at_call 59; refine (l02Up_is h true Hi.out _).mono ?_; rintro e w' ⟨rfl, rfl⟩) | (go_at_call 58; refine (l02Asked_is n wd gp t sh T0 T1 N0 N1 w.heap.size _ _ true 0 Hc.out _ D0.out).mono ?_; rintro e w' ⟨rfl, rfl⟩) | (refine wpList_load_part rfl 28 _ rfl w.heap.size 0 5 rfl 28 (blindC n wd gp t sh) (0, 0) _ D0.out Try.underlying28 rfl info_blind (blind_fits _ _ _ _ _) _ (blind_all _ _ _ _ _) ?_) | (go_at_call 69; refine (HC.out _).mono ?_; rintro e W1 ⟨⟨v, rfl, hv⟩, hb1⟩; replace hv := own_base hv hb.size; have hW := Nat.le_trans hb.size hb1.size; replace hb := hb.trans (hb1.mono hb.size); clear hb1))
  obtain ⟨a1, c1, rfl, hm⟩ := own_len hv
  have HO1 : Hid (∀ wr, Below W1.heap.size W1 wr → Own wr w.heap.size 2 (Value.int .i64) (.slice a1 xs.length c1) xs) := fun wr hb => own_below hv hb (Nat.le_refl _)
  have hst : xs.find? (fun x : Int => decide (0 ≤ x)) = (xs.drop 0).find? (fun x : Int => decide (0 ≤ x)) := rfl
  have HB := Lib.hid (fun (wr : World) (h : Below W1.heap.size W1 wr) => hb.trans (h.mono hb.size))
  clear hv hb
  unfold maxLen at hm
  go_wp2
  go_loopw [8] (fun i wr => ∃ k : Nat, k ≤ xs.length ∧ i = .int .i64 k ∧ Hid (xs.find? (fun x : Int => decide (0 ≤ x)) = (xs.drop k).find? (fun x : Int => decide (0 ≤ x))) ∧ Below W1.heap.size W1 wr) (fun i _ => xs.length - (intOf i).toNat)
  case atStart => exact ⟨0, Nat.zero_le _, rfl, hst, Below.refl _ _⟩
  case round =>
    obtain ⟨k, hk, rfl, hf, hb⟩ := hrel
    by_cases hlt : k < xs.length
    · obtain ⟨g1, cur1, rfl, _, hg1, hc1, hm1, x, hx, hk1⟩ := own_get (HO1.out wr hb) k hlt
      have q1 := cell_k hg1 hk1
      unfold maxLen at hm1
      clear hg1 hk1
      have z0 : (0 : Int) ≤ (k : Int) := by omega
      have z1 : (k : Int) < (xs.length : Int) := by omega
      by_cases hx0 : 0 ≤ x
      · have HX := Lib.hid (find_hit hf.out hx hx0)
        clear hx hst
        go_wp2
        go_ret2
        exact ⟨by rw [HX.out.1, HX.out.2]; rfl, HB.out _ hb⟩
      · have HX := Lib.hid (find_miss hf.out hx hx0)
        clear hx hst
        go_wp2
        go_roundw
        case rel => exact ⟨k + 1, by omega, by simp, HX, hb⟩
        case measure => simp [intOf]; omega
    · obtain rfl : k = xs.length := by omega
      have HX := Lib.hid (find_end hf.out)
      clear hst hlt
      go_wp2
      go_ret2
      exact ⟨by rw [HX.out.1, HX.out.2]; rfl, HB.out _ hb⟩

set_option maxRecDepth 100000 in
set_option maxHeartbeats 1000000 in
theorem specCutOff_no (n : Int) (wd gp : Nat) (t : Int) (sh : Nat) (bw : BlWf n wd gp t sh) (h : Int) (hk : ¬ (okBl n wd gp t sh = true ∧ inI 1 64 h = true)) (w : World) :
    Calls Try.prog 43 #[.agg (blindC n wd gp t sh), .int .i64 h] w (fun e w' => e = .returned (.tuple #[.int .i64 0, .int .i64 (codeC (okBl n wd gp t sh) (inI 1 64 h))]) ∧ Below w.heap.size w w') := by
  obtain ⟨T0, T1⟩ := blwf_t bw
  obtain ⟨N0, N1⟩ := blwf_n bw
  have hne := codeC_ne hk
  generalize hf : inI 1 64 h = fine at *
  generalize hc : codeC (okBl n wd gp t sh) fine = c at *
  have Hc := Lib.hid hc
  have Hi := Lib.hid hf
  have hne' : (c != 0) = true := bne_iff_ne.2 hne
  clear hk hc hf hne bw
  go_enter Try.func43, Try.ntmps43
  go_upto_region 1 with (fail)
  refine abs_world (fun W => Below w.heap.size w W ∧ W.heap[w.heap.size]? = some (.cells (blindC n wd gp t sh) 28 (0, 0))) ⟨(Below.refl _ _).alloc (Nat.le_refl _) _, heap_alloc_new _ _⟩ ?_
  rintro W ⟨hb, d0⟩
  have D0 := Lib.hid d0
  clear d0
  go_wp2_with (first | (go_at_call 59; refine (l02Up_is h fine Hi.out _).mono ?_; rintro e w' ⟨rfl, rfl⟩) | (go_at_call 58; refine (l02Asked_is n wd gp t sh T0 T1 N0 N1 w.heap.size _ _ fine c Hc.out _ D0.out).mono ?_; rintro e w' ⟨rfl, rfl⟩))
  go_ret2
  exact ⟨rfl, hb⟩

set_option maxRecDepth 100000 in
set_option maxHeartbeats 1000000 in
theorem FnExactCutOff_core (n : Int) (wd gp : Nat) (t : Int) (sh : Nat) (h : Int) (v0 : Int) (v1 : Int) 
    (hspec : ∀ w, Calls Try.prog 43 #[.agg (blindC n wd gp t sh), .int .i64 h] w fun e w' => e = .returned (.tuple #[.int .i64 v0, .int .i64 v1]) ∧ Below w.heap.size w w')
    (himpl : ∀ w, Calls Try.prog 44 #[.agg (blindC n wd gp t sh), .int .i64 h] w fun e w' => e = .returned (.tuple #[.int .i64 v0, .int .i64 v1]) ∧ Below w.heap.size w w') (w : World) :
    Calls Try.prog 12 #[.agg (blindC n wd gp t sh), .int .i64 h] w fun e w' => e = .returned (.bool true) ∧ Below w.heap.size w w' := by
  have HS := Lib.hid hspec
  have HI := Lib.hid himpl
  clear hspec himpl
  go_enter Try.func12, Try.ntmps12
  go_upto_region 1 with (fail)
  refine abs_world (fun W => Below w.heap.size w W ∧ W.heap[w.heap.size]? = some (.cells (blindC n wd gp t sh) 26 (0, 0))) ⟨(Below.refl _ _).alloc (Nat.le_refl _) _, heap_alloc_new _ _⟩ ?_
  rintro W ⟨hb, h0⟩
  have H0 := Lib.hid h0
  clear h0
  go_wp2_with (first | (refine wpList_load_part rfl 26 _ rfl w.heap.size 0 5 rfl 26 (blindC n wd gp t sh) (0, 0) _ H0.out Try.underlying26 rfl info_blindL (blind_fits _ _ _ _ _) _ (blind_all _ _ _ _ _) ?_) | (go_at_call 16; refine (toBlind_any _ _ _ _ _ _).mono ?_; rintro e W1 ⟨rfl, hb1⟩; replace H0 := Lib.hid (below_row hb1 H0.out); replace hb := hb.trans (hb1.mono hb.size); clear hb1) | (go_at_call 43; refine (HS.out _).mono ?_; rintro e W1 ⟨rfl, hb1⟩; replace H0 := Lib.hid (below_row hb1 H0.out); replace hb := hb.trans (hb1.mono hb.size); clear hb1) | (go_at_call 44; refine (HI.out _).mono ?_; rintro e W1 ⟨rfl, hb1⟩; replace H0 := Lib.hid (below_row hb1 H0.out); replace hb := hb.trans (hb1.mono hb.size); clear hb1))
  go_ret
  exact ⟨rfl, hb⟩

theorem lawCutOff_walk (n : Int) (wd gp : Nat) (t : Int) (sh : Nat) (bw : BlWf n wd gp t sh) (h : Int) (w : World) :
    Calls Try.prog 12 #[.agg (blindC n wd gp t sh), .int .i64 h] w fun e w' => e = .returned (.bool true) ∧ Below w.heap.size w w' := by
  by_cases hk : okBl n wd gp t sh = true ∧ inI 1 64 h = true
  · have hl := wantT_len (shutP wd gp h) (tls 129)
    rw [tls_length] at hl
    exact FnExactCutOff_core n wd gp t sh h _ _ (fun w => specCutOff_yes n wd gp t sh bw h hk.1 hk.2 w) (fun w => implCutOff_yes n wd gp t sh h _ (by omega) (fun w => implShutTilts_yes n wd gp t sh bw h hk.1 hk.2 w) w) w
  · exact FnExactCutOff_core n wd gp t sh h _ _ (fun w => specCutOff_no n wd gp t sh bw h hk w) (fun w => implCutOff_no n wd gp t sh h [] _ (bne_iff_ne.2 (codeC_ne hk)) (fun w => implShutTilts_no n wd gp t sh bw h hk w) w) w

set_option maxRecDepth 100000 in
theorem FnExactCutOff_holds : Rows.FnExactCutOffSaid :=
  OpenClaim.holds_of_wide 12 Try.f12 rfl rfl rfl rfl rfl rfl rfl ⟨rfl, rfl, rfl, rfl, rfl⟩ rfl rfl rfl rfl rfl (by kernel_rfl) Try.func12 (by kernel_rfl)
    (of_decide_eq_true (by kernel_rfl)) (by unfold Func.isWrapper; first | (rw [if_pos (by decide +kernel)]; kernel_rfl) | (rw [if_neg (by decide +kernel)]; exact ⟨rfl, rfl⟩))
    (fun os started H enc _ => law_lifted 12 Try.f12 Rows.fnExactCutOffSpec Rows.fnExactCutOffRow.domain os started H enc (by kernel_rfl) Try.func12 rfl rfl
      (by rw [Try.params12]; intro t ht; simp only [List.mem_cons, List.not_mem_nil, or_false] at ht; rcases ht with rfl | rfl <;> exact ⟨by kernel_rfl, of_decide_eq_true (by kernel_rfl)⟩)
      (fun ds hl => by
        match ds, hl with
        | [d0, d1], _ => rfl)
      (ChangeSpec.witness6 (enc := enc) (C := Try.checked) false ⟨#[], #[.agg #[.int .i8 0, .float .f32 0, .float .f32 0, .int .i16 0, .float .f32 0], .int .i64 0], []⟩ 8 (by kernel_rfl) (by kernel_rfl) (by kernel_rfl) (by kernel_rfl))
      (fun W base args ds p hval hA => by
        rw [Try.params12] at hA hval
        obtain ⟨v0, vs0, d0, ds0, p0, q0, hargs, rfl, rfl, h0, r0⟩ := trodAll_cons hA
        obtain ⟨v1, vs1, d1, ds1, p1, q1, rfl, rfl, rfl, h1, r1⟩ := trodAll_cons r0
        obtain ⟨rfl, rfl, rfl⟩ := trodAll_nil r1
        obtain rfl : args = #[v0, v1] := by cases args; simp_all
        obtain ⟨n0, wd0, gp0, t0, sh0, bw0, rfl⟩ := open_blind (hval 0 26 v0 rfl rfl) h0
        obtain ⟨a1, rfl, rfl, rfl, w1⟩ := open_int Try.underlying2 (hval 1 2 v1 rfl rfl) h1
        exact lawCutOff_walk n0 wd0 gp0 t0 sh0 bw0 a1 W))
#print axioms FnExactCutOff_holds

end Go.Proofs.Yteagbfobnjfhcaa
