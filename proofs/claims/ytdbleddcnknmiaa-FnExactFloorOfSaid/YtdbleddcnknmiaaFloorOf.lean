/-
  For every blind, valid or not, every height and every set of slats: the floor and the code are what the model says. No conditions.
-/
import Derived.Test.YtdbleddcnknmiaaFlW
namespace Go.Proofs.Ytdbleddcnknmiaa
open Go.ChangeShapes Go.WideShapes Go.ChangeAt Go.RowKit Go.Deep Go.Joins

attribute [local go_sem] run_store_f

set_option maxRecDepth 100000 in
set_option maxHeartbeats 4000000 in
theorem lawFloorOf_core (n : Int) (wd gp : Nat) (t : Int) (sh : Nat) (h : Int) (br : Nat) (ys : List Nat) (hy : ys.length = 24) (hv : ∀ x ∈ ys, fin32 x = true) (c : Int)
    (hspec : ∀ w, Calls Try.prog 10 #[.agg (blindC n wd gp t sh), .int .i64 h, .int .u32 (br : Int)] w fun e w' => e = .returned (.tuple #[.agg (f32s ys), .int .i64 c]) ∧ Below w.heap.size w w')
    (himpl : ∀ w, Calls Try.prog 12 #[.agg (blindC n wd gp t sh), .int .i64 h, .int .u32 (br : Int)] w fun e w' => e = .returned (.tuple #[.agg (f32s ys), .int .i64 c]) ∧ Below w.heap.size w w') (w : World) :
    Calls Try.prog 4 #[.agg (blindC n wd gp t sh), .int .i64 h, .int .u32 (br : Int)] w fun e w' => e = .returned (.bool true) ∧ Below w.heap.size w w' := by
  have HS := Lib.hid hspec
  have HI := Lib.hid himpl
  have HL := Lib.hid hy
  have HV := Lib.hid hv
  clear hspec himpl hy hv
  go_enter Try.func4, Try.ntmps4
  go_upto_region 1 with (fail)
  refine abs_code (fun W => W.heap[w.heap.size]? = some (.cells (blindC n wd gp t sh) 31 (0, 0)) ∧ Below w.heap.size w W) ⟨heap_alloc_new _ _, (Below.refl _ _).alloc (Nat.le_refl _) _⟩ ?_
  rintro W ⟨h0, hb⟩
  have H0 := Lib.hid h0
  clear h0
  go_upto_region 2 with (first | (refine wpList_load_part rfl 31 _ rfl w.heap.size 0 5 rfl 31 (blindC n wd gp t sh) (0, 0) _ H0.out Try.underlying31 rfl info_blindL (blind_fits _ _ _ _ _) _ (blind_all _ _ _ _ _) ?_) | (go_at_call 11; refine (toBlind_any _ _ _ _ _ _).mono ?_; rintro e W1 ⟨rfl, hb1⟩; replace H0 := Lib.hid (below_row hb1 H0.out); replace hb := hb.trans (hb1.mono hb.size); clear hb1) | (go_at_call 10; refine (HS.out _).mono ?_; rintro e W2 ⟨rfl, hb1⟩; replace H0 := Lib.hid (below_row hb1 H0.out); replace hb := hb.trans (hb1.mono hb.size); clear hb1) | (refine wpList_store_part rfl 34 _ _ rfl _ 0 (f32s ys) rfl rfl 34 _ (heap_alloc_new _ _) (by rw [f32s_size, HL.out]; exact info_floor) (by rw [f32s_size, HL.out]; decide) (f32s_one _) ?_; rw [laid_all _ _ (by rw [f32s_size, HL.out]; rfl)]))
  refine abs_code (fun V => V.heap[w.heap.size]? = some (.cells (blindC n wd gp t sh) 31 (0, 0)) ∧ V.heap[W2.heap.size]? = some (.cells (f32s ys) 34 (0, 0)) ∧ Below w.heap.size w V) ⟨by rw [setRow_other _ _ _ _ (by have := row_lt H0.out; omega)]; exact heap_alloc_old H0.out, setRow_heap _ _ _ _ _ _ (heap_alloc_new _ _), below_setRow (hb.alloc hb.size _) hb.size _⟩ ?_
  clear H0 hb
  generalize W2.heap.size = g2 at *
  rintro V ⟨h0, ha, hb⟩
  have H0 := Lib.hid h0
  have HA := Lib.hid ha
  clear h0 ha
  go_upto_region 3 with (first | (refine wpList_load_part rfl 31 _ rfl w.heap.size 0 5 rfl 31 (blindC n wd gp t sh) (0, 0) _ H0.out Try.underlying31 rfl info_blindL (blind_fits _ _ _ _ _) _ (blind_all _ _ _ _ _) ?_) | (go_at_call 11; refine (toBlind_any _ _ _ _ _ _).mono ?_; rintro e W1 ⟨rfl, hb1⟩; replace H0 := Lib.hid (below_row hb1 H0.out); replace HA := Lib.hid (below_row hb1 HA.out); replace hb := hb.trans (hb1.mono hb.size); clear hb1) | (go_at_call 12; refine (HI.out _).mono ?_; rintro e W4 ⟨rfl, hb1⟩; replace H0 := Lib.hid (below_row hb1 H0.out); replace HA := Lib.hid (below_row hb1 HA.out); replace hb := hb.trans (hb1.mono hb.size); clear hb1) | (refine wpList_store_part rfl 34 _ _ rfl _ 0 (f32s ys) rfl rfl 34 _ (heap_alloc_new _ _) (by rw [f32s_size, HL.out]; exact info_floor) (by rw [f32s_size, HL.out]; decide) (f32s_one _) ?_; rw [laid_all _ _ (by rw [f32s_size, HL.out]; rfl)]))
  refine abs_code (fun V => V.heap[g2]? = some (.cells (f32s ys) 34 (0, 0)) ∧ V.heap[W4.heap.size]? = some (.cells (f32s ys) 34 (0, 0)) ∧ Below w.heap.size w V) ⟨by rw [setRow_other _ _ _ _ (by have := row_lt HA.out; omega)]; exact heap_alloc_old HA.out, setRow_heap _ _ _ _ _ _ (heap_alloc_new _ _), below_setRow (hb.alloc hb.size _) hb.size _⟩ ?_
  clear H0 HA hb
  generalize W4.heap.size = g4 at *
  rintro V2 ⟨ha, hbb, hb⟩
  have HA := Lib.hid ha
  have HB := Lib.hid hbb
  clear ha hbb
  go_wp2_with (first | (refine wpList_load_part rfl 34 _ rfl g4 0 24 rfl 34 (f32s ys) (0, 0) _ HB.out Try.underlying34 rfl info_floor (by rw [f32s_size, HL.out]; decide) (f32s ys) (f32s_all _ 24 HL.out) ?_) | (refine wpList_load_part rfl 34 _ rfl g2 0 24 rfl 34 (f32s ys) (0, 0) _ HA.out Try.underlying34 rfl info_floor (by rw [f32s_size, HL.out]; decide) (f32s ys) (f32s_all _ 24 HL.out) ?_) | (go_at_call 13; refine (eqFloor_any ys HL.out HV.out _).mono ?_; rintro e W5 ⟨rfl, hb1⟩; replace hb := hb.trans (hb1.mono hb.size); clear hb1))
  go_ret
  exact ⟨rfl, hb⟩

theorem zerF_fin : ∀ x ∈ zerF, fin32 x = true := by
  intro x hx
  have := List.eq_of_mem_replicate hx
  subst this
  exact zero_fin

theorem flB_fin (n : Int) (wd gp : Nat) (t h : Int) (br : Nat) : ∀ x ∈ flB n wd gp t h br, fin32 x = true := by
  intro x hx
  unfold flB flK at hx
  simp only [List.mem_append, List.mem_map, List.mem_range, List.mem_replicate] at hx
  rcases hx with ⟨k, _, rfl⟩ | ⟨h0, _⟩
  · exact fin_of_lt (Nat.lt_of_le_of_lt (flP_le (opn_facts wd gp t h).2 (opn_facts wd gp (hgT t) h).2 k) (by decide))
  · exact absurd rfl h0

theorem lawFloorOf_walk (n : Int) (wd gp : Nat) (t : Int) (sh : Nat) (bw : BlWf n wd gp t sh) (h : Int) (b : Int) (hb : (Lit.int .u32 b).wf = true) (w : World) :
    Calls Try.prog 4 #[.agg (blindC n wd gp t sh), .int .i64 h, .int .u32 b] w fun e w' => e = .returned (.bool true) ∧ Below w.heap.size w w' := by
  obtain ⟨T0, T1⟩ := blwf_t bw
  obtain ⟨N0, N1⟩ := blwf_n bw
  have hb' : 0 ≤ b ∧ b ≤ 4294967295 := by
    simp [Lit.wf, IntKind.min, IntKind.max, IntKind.signed, IntKind.bits] at hb
    omega
  obtain ⟨br, rfl⟩ := Int.eq_ofNat_of_zero_le hb'.1
  have hbr : br < 4294967296 := by omega
  cases hk : okBl n wd gp t sh with
  | false =>
    cases hi : inI 1 64 h with
    | true => exact lawFloorOf_core n wd gp t sh h br zerF rfl zerF_fin 1 (fun w => sFloor_bad n wd gp t sh T0 T1 N0 N1 hk h br w) (fun w => iFloor_not n wd gp t sh T0 T1 h hi br hbr _ rfl 1 (by rw [hk]; rfl) (by decide) w) w
    | false => exact lawFloorOf_core n wd gp t sh h br zerF rfl zerF_fin 1 (fun w => sFloor_bad n wd gp t sh T0 T1 N0 N1 hk h br w) (fun w => iFloor_nof n wd gp t sh T0 T1 h hi br 1 (by rw [hk]; rfl) (by decide) w) w
  | true =>
    cases hi : inI 1 64 h with
    | false => exact lawFloorOf_core n wd gp t sh h br zerF rfl zerF_fin 2 (fun w => sFloor_nof n wd gp t sh T0 T1 N0 N1 hk h hi br w) (fun w => iFloor_nof n wd gp t sh T0 T1 h hi br 2 (by rw [hk]; rfl) (by decide) w) w
    | true =>
      cases hf : fitB br n with
      | false => exact lawFloorOf_core n wd gp t sh h br zerF rfl zerF_fin 2 (fun w => sFloor_not n wd gp t sh T0 T1 N0 N1 hk h hi br hf w) (fun w => iFloor_not n wd gp t sh T0 T1 h hi br hbr _ hf 2 (by rw [hk]; rfl) (by decide) w) w
      | true => exact lawFloorOf_core n wd gp t sh h br _ (flB_len n wd gp t h br) (flB_fin n wd gp t h br) 0 (fun w => sFloor_yes n wd gp t sh T0 T1 N0 N1 (blok_of bw hk) hk h hi br hf w) (fun w => iFloor_yes n wd gp t sh T0 T1 (blok_of bw hk) hk h hi br hbr hf w) w

set_option maxRecDepth 100000 in
theorem FnExactFloorOf_holds : Rows.FnExactFloorOfSaid :=
  OpenClaim.holds_of_wide 4 Try.f4 rfl rfl rfl rfl rfl rfl rfl ⟨rfl, rfl, rfl, rfl, rfl⟩ rfl rfl rfl rfl rfl (by kernel_rfl) Try.func4 (by kernel_rfl)
    (of_decide_eq_true (by kernel_rfl)) (by unfold Func.isWrapper; first | (rw [if_pos (by decide +kernel)]; kernel_rfl) | (rw [if_neg (by decide +kernel)]; exact ⟨rfl, rfl⟩))
    (fun os started H enc _ => law_lifted 4 Try.f4 Rows.fnExactFloorOfSpec Rows.fnExactFloorOfRow.domain os started H enc (by kernel_rfl) Try.func4 rfl rfl
      (by rw [Try.params4]; intro t ht; simp only [List.mem_cons, List.not_mem_nil, or_false] at ht; rcases ht with rfl | rfl | rfl <;> exact ⟨by kernel_rfl, of_decide_eq_true (by kernel_rfl)⟩)
      (fun ds hl => by
        match ds, hl with
        | [d0, d1, d2], _ => rfl)
      (ChangeSpec.witness6 (enc := enc) (C := Try.checked) false ⟨#[], #[.agg #[.int .i8 0, .float .f32 0, .float .f32 0, .int .i16 0, .float .f32 0], .int .i64 0, .int .u32 0], []⟩ 8 (by kernel_rfl) (by kernel_rfl) (by kernel_rfl) (by kernel_rfl))
      (fun W base args ds p hval hA => by
        rw [Try.params4] at hA hval
        obtain ⟨v0, vs0, d0, ds0, p0, q0, hargs, rfl, rfl, h0, r0⟩ := trodAll_cons hA
        obtain ⟨v1, vs1, d1, ds1, p1, q1, rfl, rfl, rfl, h1, r1⟩ := trodAll_cons r0
        obtain ⟨v2, vs2, d2, ds2, p2, q2, rfl, rfl, rfl, h2, r2⟩ := trodAll_cons r1
        obtain ⟨rfl, rfl, rfl⟩ := trodAll_nil r2
        obtain rfl : args = #[v0, v1, v2] := by cases args; simp_all
        obtain ⟨n0, wd0, gp0, t0, sh0, bw0, rfl⟩ := open_blind (hval 0 31 v0 rfl rfl) h0
        obtain ⟨a1, rfl, rfl, rfl, w1⟩ := open_int Try.underlying2 (hval 1 2 v1 rfl rfl) h1
        obtain ⟨a2, rfl, rfl, rfl, w2⟩ := open_int Try.underlying32 (hval 2 32 v2 rfl rfl) h2
        exact lawFloorOf_walk n0 wd0 gp0 t0 sh0 bw0 a1 a2 w2 W ))
#print axioms FnExactFloorOf_holds

end Go.Proofs.Ytdbleddcnknmiaa
