/-
  The nearest of several numbers that are told by keys of cords.
-/
import Derived.WalkMore
import Derived.Outline
import Derived.Test.YtddnfbpgldchcaaKeys
import Derived.Test.YtddnfbpgldchcaaBlkRun
import Derived.Test.YtddnfbpgldchcaaSameBlind
import Derived.Test.YtddnfbpgldchcaaLaw
namespace Go.Proofs.Ytddnfbpgldchcaa
open Go Go.RowKit Go.ChangeMaps Go.MapKept

attribute [local go_sem] run_store_f

/-- The keys, one for each number. -/
def kCC (A B : Nat) (i : Nat) : Array Value := #[.int .u32 (A : Int), .int .u32 (B : Int), .int .i8 (i : Int)]
theorem info_kC : (Try.prog.info? 59).map (·.size) = some 3 := by kernel_rfl
theorem kC_fits (A B : Nat) (i : Nat) : 0 + 3 ≤ (kCC A B i).size := Nat.le_refl _
theorem kC_all (A B : Nat) (i : Nat) : (kCC A B i).extract 0 (0 + 3) = kCC A B i := rfl
theorem kC_one (A B : Nat) (i : Nat) : ∀ v ∈ kCC A B i, v.oneCell' = true := by
  intro v hv
  simp only [kCC, List.mem_toArray, List.mem_cons, List.not_mem_nil, or_false] at hv
  rcases hv with rfl | rfl | rfl <;> rfl
set_option maxRecDepth 100000 in
theorem kC_law : Go.Maps.Keyed Try.prog 59 := Go.Maps.Keyed.of_law (deep_law_laid law_laidOut (m := 2) (by omega) (of_decide_eq_true (by kernel_rfl)) (by kernel_rfl) (by kernel_rfl))
theorem kC_zero (w : World) : (zeroValue 24).run Try.prog w = .ok (.float .f32 0) w := by kernel_rfl
set_option maxRecDepth 100000 in
theorem kC_type : Try.prog.keyType 59 = true := by kernel_rfl
set_option maxRecDepth 100000 in
theorem kC_cells : Try.prog.cellsOf 59 = 3 := by kernel_rfl
set_option maxRecDepth 100000 in
theorem kC_formed (A B : Nat) (i : Nat) : Value.formed Try.prog 59 (.agg (kCC A B i)) = true := by
  unfold kCC
  kernel_rfl
set_option maxRecDepth 100000 in
theorem kC_keys (A B : Nat) (hA : A < 4294967296) (hB : B < 4294967296) : KeysOk Try.prog 59 101 (kCC A B) := by
  refine ⟨fun i hi => ?_, fun i j _ _ h => ?_⟩
  · have w0 : (Lit.int .u32 (A : Int)).wf = true := by simp [Lit.wf, IntKind.min, IntKind.max, IntKind.signed, IntKind.bits]; omega
    have w1 : (Lit.int .u32 (B : Int)).wf = true := by simp [Lit.wf, IntKind.min, IntKind.max, IntKind.signed, IntKind.bits]; omega
    have w2 : (Lit.int .i8 (i : Int)).wf = true := by simp [Lit.wf, IntKind.min, IntKind.max, IntKind.signed, IntKind.bits]; omega
    exact keyOf_three Try.underlying59 kC_type (kC_formed A B i) kC_cells rfl rfl rfl Try.underlying57 Try.underlying57 Try.underlying25 (by kernel_rfl) (by kernel_rfl) (by kernel_rfl) (by decide) (by decide) (by decide) w0 w1 w2 (of_decide_eq_true (by kernel_rfl))
  · simp only [kCC, Array.mk.injEq, List.cons.injEq, Value.int.injEq, true_and, and_true] at h
    omega

set_option maxRecDepth 100000 in
set_option maxHeartbeats 1000000 in
theorem nearestC_any (A B : Nat) (N n : Nat) (hn : 0 < n) (hN : n ≤ N) (hm : n ≤ 200) (val : Nat → Nat) (wanted : Nat)
    (hs : ∀ i, i < n → floatBits .sub .f32 (val i) wanted = some (fsub (val i) wanted) ∧ isNum (fsub (val i) wanted)) (hk : KeysOk Try.prog 59 N (kCC A B)) (v : Value) (b : Nat) (w : World)
    (hv : KeysAt 59 3 w v n (kCC A B)) (hb : w.heap[b]? = some (.map (ents n (kCC A B) val) n)) :
    Calls Try.prog 37 #[v, .map (some b), .float .f32 wanted] w fun e w' => e = .returned (.agg ((kCC A B) (firstMin (fun i => sizeB (fsub (val i) wanted)) (n - 1)))) ∧ Below w.heap.size w w' := by
  obtain ⟨g, cap, cur, rfl, hnc, hcm, hg, hsz, hcur⟩ := hv
  have hr : ∀ i, i < n → ∀ t w, (binOp .sub t (.float .f32 (val i)) (.float .f32 wanted)).run Try.prog w = .ok (.float .f32 (fsub (val i) wanted)) w := fun i hi t w => run_float_arith w .sub t .f32 _ _ _ (hs i hi).1
  have HR := Lib.hid hr
  have HS := Lib.hid hs
  have HK := Lib.hid hk
  have HC := Lib.hid hcur
  have hE := bestK_end (fun i => sizeB (fsub (val i) wanted)) hn
  rw [← hE]
  clear hr hs hk hcur hE
  unfold maxLen at hcm
  have hgl := row_lt hg
  have hbl := row_lt hb
  have r0 := HR.out 0 hn
  have hc0 := HC.out 0 hn
  rw [Nat.zero_mul] at hc0
  have HC0 := Lib.hid hc0
  have hs0 : 0 + 3 ≤ cur.size := by omega
  clear hc0
  go_enter Try.func37, Try.ntmps37
  go_upto_region 1 with (fail)
  refine abs_world (fun W => Below w.heap.size w W ∧ W.heap[w.heap.size]? = some (.cells #[.int .u32 0, .int .u32 0, .int .i8 0] 59 (0, 0))) ⟨(Below.refl _ _).alloc (Nat.le_refl _) _, heap_alloc_new _ _⟩ ?_
  rintro W ⟨hbw, h0⟩
  have Hg := Lib.hid (below_row hbw hg)
  have Hb := Lib.hid (below_row hbw hb)
  have z0 : (0 : Int) < (n : Int) := by omega
  have h0W := row_lt h0
  have H0 := Lib.hid h0
  clear hg hb h0
  go_step3
  go_upto_region 2 with (first | (refine wpList_load_part rfl 59 _ rfl g 0 3 rfl 59 cur (0, 0) _ Hg.out Try.underlying59 rfl info_kC hs0 _ HC0.out ?_) | (refine wpList_store_part rfl 59 _ _ rfl _ 0 ((kCC A B) 0) rfl rfl 59 _ (heap_alloc_new _ _) (by kernel_rfl) (Nat.le_refl _) (kC_one A B _) ?_; rw [laid_all2 _ _ (by rfl)]))
  refine abs_world (fun V => Below W.heap.size W V ∧ V.heap[W.heap.size]? = some (.cells ((kCC A B) 0) 59 (0, 0))) ⟨below_setRow ((Below.refl _ _).alloc (Nat.le_refl _) _) (Nat.le_refl _) _, setRow_heap _ _ _ _ _ _ (heap_alloc_new _ _)⟩ ?_
  rintro V ⟨hbv, h1⟩
  replace Hg := Lib.hid (below_row hbv Hg.out)
  replace Hb := Lib.hid (below_row hbv Hb.out)
  replace H0 := Lib.hid (below_row hbv H0.out)
  have hbw2 := hbw.trans (hbv.mono hbw.size)
  have H1 := Lib.hid h1
  clear h1
  have hwl := hbw.size
  have h0l := row_lt H0.out
  have h1l := row_lt H1.out
  have n0 := (HS.out 0 hn).2
  go_wp2_with (first | (refine wpList_load_part rfl 59 _ rfl W.heap.size 0 3 rfl 59 ((kCC A B) 0) (0, 0) _ H1.out Try.underlying59 rfl info_kC (kC_fits A B _) _ (kC_all A B _) ?_) | (refine wpList_lookup_run rfl _ _ 56 false rfl (.map (some b)) (.agg ((kCC A B) 0)) (.float .f32 (val 0)) rfl rfl (look_ents kC_law Try.underlying56 (kC_zero _) Hb.out HK.out hN 0 hn) ?_) | (go_at_call 55; refine (sizeOf_any _ n0 _).mono ?_; rintro e w' ⟨rfl, rfl⟩))
  go_step3
  go_wp2
  go_loopw [8, 23] (fun q i wr => ∃ k : Nat, k ≤ n ∧ i = .int .i64 k ∧ q = .float .f32 (sizeB (fsub (val (bestK (fun i => sizeB (fsub (val i) wanted)) k)) wanted)) ∧ Below w.heap.size w wr ∧ W.heap.size < wr.heap.size ∧ wr.heap[w.heap.size]? = some (.cells #[.int .u32 0, .int .u32 0, .int .i8 0] 59 (0, 0)) ∧ wr.heap[W.heap.size]? = some (.cells ((kCC A B) (bestK (fun i => sizeB (fsub (val i) wanted)) k)) 59 (0, 0)) ∧ wr.heap[g]? = some (.cells cur 59 (0, 0)) ∧ wr.heap[b]? = some (.map (ents n (kCC A B) val) n)) (fun _ i _ => n - (intOf i).toNat)
  case atStart => exact ⟨0, Nat.zero_le _, rfl, rfl, hbw2, h1l, H0.out, H1.out, Hg.out, Hb.out⟩
  case round =>
    clear Hg Hb H0 H1 n0 r0
    obtain ⟨k, hk, rfl, rfl, hbr, hsr, h0, h1, hg, hb⟩ := hrel
    have Hg := Lib.hid hg
    have Hb := Lib.hid hb
    have H0 := Lib.hid h0
    have H1 := Lib.hid h1
    clear h0 h1 hg hb
    by_cases hlt : k < n
    · have rk := HR.out k hlt
      have nk := (HS.out k hlt).2
      have hj := bestK_lt (fun i => sizeB (fsub (val i) wanted)) hk hn
      have nj := size_isNum (HS.out _ hj).2
      have nk' := size_isNum nk
      have hx := HC.out k hlt
      have hxs : k * 3 + 3 ≤ cur.size := Nat.le_trans (by rw [← Nat.succ_mul]; exact Nat.mul_le_mul_right _ hlt) hsz
      have HX := Lib.hid hx
      have HM : Hid (_ ∧ _) := Lib.hid (And.intro (@bestK_hit (fun i => sizeB (fsub (val i) wanted)) k) (@bestK_miss (fun i => sizeB (fsub (val i) wanted)) k))
      clear hx
      generalize hbk : bestK (fun i => sizeB (fsub (val i) wanted)) k = j at *
      have z1 : (k : Int) < (n : Int) := by omega
      have z2 : (0 : Int) ≤ (k : Int) := by omega
      clear hbk
      go_upto_region 6 with (first | (refine wpList_load_part rfl 59 _ rfl g (k * 3) 3 rfl 59 cur (0, 0) _ Hg.out Try.underlying59 rfl info_kC hxs _ HX.out ?_) | (refine wpList_store_part rfl 59 _ _ rfl _ 0 ((kCC A B) k) rfl rfl 59 _ (heap_alloc_new _ _) (by kernel_rfl) (Nat.le_refl _) (kC_one A B _) ?_; rw [laid_all2 _ _ (by rfl)]))
      refine abs_world (fun V => Below wr.heap.size wr V ∧ V.heap[wr.heap.size]? = some (.cells ((kCC A B) k) 59 (0, 0))) ⟨below_setRow ((Below.refl _ _).alloc (Nat.le_refl _) _) (Nat.le_refl _) _, setRow_heap _ _ _ _ _ _ (heap_alloc_new _ _)⟩ ?_
      rintro V2 ⟨hbv2, h2⟩
      replace Hg := Lib.hid (below_row hbv2 Hg.out)
      replace Hb := Lib.hid (below_row hbv2 Hb.out)
      replace H0 := Lib.hid (below_row hbv2 H0.out)
      replace H1 := Lib.hid (below_row hbv2 H1.out)
      have H2 := Lib.hid h2
      have hsv2 := hbv2.size
      have hbr2 := hbr.trans (hbv2.mono hbr.size)
      clear h2
      rcases order_cases nk' nj with ⟨ho, hl⟩ | ⟨ho, hl⟩ | ⟨ho, hl⟩
      · have HL := Lib.hid (HM.out.1 hl)
        clear hl HM
        go_wp2_with (first | (refine wpList_load_part rfl 59 _ rfl wr.heap.size 0 3 rfl 59 ((kCC A B) k) (0, 0) _ H2.out Try.underlying59 rfl info_kC (kC_fits A B _) _ (kC_all A B _) ?_) | (refine wpList_lookup_run rfl _ _ 56 false rfl (.map (some b)) (.agg ((kCC A B) k)) (.float .f32 (val k)) rfl rfl (look_ents kC_law Try.underlying56 (kC_zero _) Hb.out HK.out hN k hlt) ?_) | (go_at_call 55; refine (sizeOf_any _ nk _).mono ?_; rintro e w' ⟨rfl, rfl⟩) | (refine wpList_store_part rfl 59 _ _ rfl W.heap.size 0 ((kCC A B) k) rfl rfl 59 _ H1.out (by kernel_rfl) (Nat.le_refl _) (kC_one A B _) ?_; rw [laid_all2 _ _ (by rfl)]))
        go_roundw
        case rel =>
          refine ⟨k + 1, by omega, by go_num, ?_⟩
          rw [HL.out]
          exact ⟨rfl, below_setRow hbr2 hwl _, by simp; omega, by rw [setRow_other _ _ _ _ (by omega)]; exact H0.out, setRow_heap _ _ _ _ _ _ H1.out, by rw [setRow_other _ _ _ _ (by omega)]; exact Hg.out, by rw [setRow_other _ _ _ _ (by omega)]; exact Hb.out⟩
        case measure => simp [intOf]; omega
      all_goals
        have HL := Lib.hid (HM.out.2 hl)
        clear hl HM
        go_wp2_with (first | (refine wpList_load_part rfl 59 _ rfl wr.heap.size 0 3 rfl 59 ((kCC A B) k) (0, 0) _ H2.out Try.underlying59 rfl info_kC (kC_fits A B _) _ (kC_all A B _) ?_) | (refine wpList_lookup_run rfl _ _ 56 false rfl (.map (some b)) (.agg ((kCC A B) k)) (.float .f32 (val k)) rfl rfl (look_ents kC_law Try.underlying56 (kC_zero _) Hb.out HK.out hN k hlt) ?_) | (go_at_call 55; refine (sizeOf_any _ nk _).mono ?_; rintro e w' ⟨rfl, rfl⟩))
        go_roundw
        case rel =>
          refine ⟨k + 1, by omega, by go_num, ?_⟩
          rw [HL.out]
          exact ⟨rfl, hbr2, by omega, H0.out, H1.out, Hg.out, Hb.out⟩
        case measure => simp [intOf]; omega
    · obtain rfl : k = n := by omega
      have hsr' := hsr
      go_wp2_with (first | (refine wpList_load_part rfl 59 _ rfl W.heap.size 0 3 rfl 59 ((kCC A B) (bestK (fun i => sizeB (fsub (val i) wanted)) k)) (0, 0) _ H1.out Try.underlying59 rfl info_kC (kC_fits A B _) _ (kC_all A B _) ?_) | (refine wpList_store_part rfl 59 _ _ rfl w.heap.size 0 ((kCC A B) (bestK (fun i => sizeB (fsub (val i) wanted)) k)) rfl rfl 59 _ H0.out (by kernel_rfl) (Nat.le_refl _) (kC_one A B _) ?_; rw [laid_all2 _ _ (by rfl)]))
      rw [Exit.noGoto_ret]
      exact bodyPost_ret (v := .agg ((kCC A B) (bestK (fun i => sizeB (fsub (val i) wanted)) k))) (results_cell_row rfl _ _ _ _ _ _ _ rfl (setRow_heap _ _ _ _ _ _ H0.out) Try.underlying59 rfl (by kernel_rfl)) rfl ⟨rfl, below_setRow hbr (Nat.le_refl _) _⟩

end Go.Proofs.Ytddnfbpgldchcaa
