/-
  The nearest of several numbers that are told by keys of blinds.
-/
import Derived.WalkMore
import Derived.Outline
import Derived.Test.YtdccmdcgbembpaaKeys
import Derived.Test.YtdccmdcgbembpaaBlkRun
import Derived.Test.YtdccmdcgbembpaaSameBlind
import Derived.Test.YtdccmdcgbembpaaLaw
namespace Go.Proofs.Ytdccmdcgbembpaa
open Go Go.RowKit Go.ChangeMaps Go.MapKept

attribute [local go_sem] run_store_f

/-- The keys, one for each number. -/
def kBB (s0 : Int) (A B C : Nat) (i : Nat) : Array Value := #[.int .i8 s0, .int .u32 (A : Int), .int .u32 (B : Int), .int .i16 ((i : Int) - 64), .int .u32 (C : Int)]
theorem info_kB : (Try.prog.info? 61).map (·.size) = some 5 := by kernel_rfl
theorem kB_fits (s0 : Int) (A B C : Nat) (i : Nat) : 0 + 5 ≤ (kBB s0 A B C i).size := Nat.le_refl _
theorem kB_all (s0 : Int) (A B C : Nat) (i : Nat) : (kBB s0 A B C i).extract 0 (0 + 5) = kBB s0 A B C i := rfl
theorem kB_one (s0 : Int) (A B C : Nat) (i : Nat) : ∀ v ∈ kBB s0 A B C i, v.oneCell' = true := by
  intro v hv
  simp only [kBB, List.mem_toArray, List.mem_cons, List.not_mem_nil, or_false] at hv
  rcases hv with rfl | rfl | rfl | rfl | rfl <;> rfl
set_option maxRecDepth 100000 in
theorem kB_law : Go.Maps.Keyed Try.prog 61 := Go.Maps.Keyed.of_law (deep_law_laid law_laidOut (m := 2) (by omega) (of_decide_eq_true (by kernel_rfl)) (by kernel_rfl) (by kernel_rfl))
theorem kB_zero (w : World) : (zeroValue 25).run Try.prog w = .ok (.float .f32 0) w := by kernel_rfl
set_option maxRecDepth 100000 in
theorem kB_type : Try.prog.keyType 61 = true := by kernel_rfl
set_option maxRecDepth 100000 in
theorem kB_cells : Try.prog.cellsOf 61 = 5 := by kernel_rfl
set_option maxRecDepth 100000 in
theorem kB_formed (s0 : Int) (A B C : Nat) (i : Nat) : Value.formed Try.prog 61 (.agg (kBB s0 A B C i)) = true := by
  unfold kBB
  kernel_rfl
set_option maxRecDepth 100000 in
theorem kB_keys (s0 : Int) (A B C : Nat) (hs : (Lit.int .i8 s0).wf = true) (hA : A < 4294967296) (hB : B < 4294967296) (hC : C < 4294967296) : KeysOk Try.prog 61 129 (kBB s0 A B C) := by
  refine ⟨fun i hi => ?_, fun i j _ _ h => ?_⟩
  · have w1 : (Lit.int .u32 (A : Int)).wf = true := by simp [Lit.wf, IntKind.min, IntKind.max, IntKind.signed, IntKind.bits]; omega
    have w2 : (Lit.int .u32 (B : Int)).wf = true := by simp [Lit.wf, IntKind.min, IntKind.max, IntKind.signed, IntKind.bits]; omega
    have w3 : (Lit.int .i16 ((i : Int) - 64)).wf = true := by simp [Lit.wf, IntKind.min, IntKind.max, IntKind.signed, IntKind.bits]; omega
    have w4 : (Lit.int .u32 (C : Int)).wf = true := by simp [Lit.wf, IntKind.min, IntKind.max, IntKind.signed, IntKind.bits]; omega
    exact keyOf_five Try.underlying61 kB_type (kB_formed s0 A B C i) kB_cells rfl rfl rfl rfl rfl Try.underlying24 Try.underlying59 Try.underlying59 Try.underlying26 Try.underlying59 (by kernel_rfl) (by kernel_rfl) (by kernel_rfl) (by kernel_rfl) (by kernel_rfl) (by decide) (by decide) (by decide) (by decide) (by decide) hs w1 w2 w3 w4 (of_decide_eq_true (by kernel_rfl))
  · simp only [kBB, Array.mk.injEq, List.cons.injEq, Value.int.injEq, true_and, and_true] at h
    omega

set_option maxRecDepth 100000 in
set_option maxHeartbeats 1000000 in
theorem nearestB_any (s0 : Int) (A B C : Nat) (N n : Nat) (hn : 0 < n) (hN : n ≤ N) (hm : n ≤ 200) (val : Nat → Nat) (wanted : Nat)
    (hs : ∀ i, i < n → floatBits .sub .f32 (val i) wanted = some (fsub (val i) wanted) ∧ isNum (fsub (val i) wanted)) (hk : KeysOk Try.prog 61 N (kBB s0 A B C)) (v : Value) (b : Nat) (w : World)
    (hv : KeysAt 61 5 w v n (kBB s0 A B C)) (hb : w.heap[b]? = some (.map (ents n (kBB s0 A B C) val) n)) :
    Calls Try.prog 32 #[v, .map (some b), .float .f32 wanted] w fun e w' => e = .returned (.agg ((kBB s0 A B C) (firstMin (fun i => sizeB (fsub (val i) wanted)) (n - 1)))) ∧ Below w.heap.size w w' := by
  obtain ⟨g, cap, cur, rfl, hnc, hcm, hg, hsz, hcur⟩ := hv
  have hr : ∀ i, i < n → ∀ t w, (binOp .sub t (.float .f32 (val i)) (.float .f32 wanted)).run Try.prog w = .ok (.float .f32 (fsub (val i) wanted)) w := fun i hi t w => run_float_arith w .sub t .f32 _ _ _ (hs i hi).1
  have HR := Lib.hid hr
  have HS := Lib.hid hs
  have HK := Lib.hid hk
  have HC := Lib.hid hcur
  have hE := bestK_end (fun i => sizeB (fsub (val i) wanted)) hn
  rw [← hE]
  clear hr hs hk hcur hE
  unfold maxLen at hcm
  have hgl := row_lt hg
  have hbl := row_lt hb
  have r0 := HR.out 0 hn
  have hc0 := HC.out 0 hn
  rw [Nat.zero_mul] at hc0
  have HC0 := Lib.hid hc0
  have hs0 : 0 + 5 ≤ cur.size := by omega
  clear hc0
  go_enter Try.func32, Try.ntmps32
  go_upto_region 1 with (fail)
  refine abs_world (fun W => Below w.heap.size w W ∧ W.heap[w.heap.size]? = some (.cells #[.int .i8 0, .int .u32 0, .int .u32 0, .int .i16 0, .int .u32 0] 61 (0, 0))) ⟨(Below.refl _ _).alloc (Nat.le_refl _) _, heap_alloc_new _ _⟩ ?_
  rintro W ⟨hbw, h0⟩
  have Hg := Lib.hid (below_row hbw hg)
  have Hb := Lib.hid (below_row hbw hb)
  have z0 : (0 : Int) < (n : Int) := by omega
  have h0W := row_lt h0
  have H0 := Lib.hid h0
  clear hg hb h0
  go_step3
  go_upto_region 2 with (first | (refine wpList_load_part rfl 61 _ rfl g 0 5 rfl 61 cur (0, 0) _ Hg.out Try.underlying61 rfl info_kB hs0 _ HC0.out ?_) | (refine wpList_store_part rfl 61 _ _ rfl _ 0 ((kBB s0 A B C) 0) rfl rfl 61 _ (heap_alloc_new _ _) (by kernel_rfl) (Nat.le_refl _) (kB_one s0 A B C _) ?_; rw [laid_all2 _ _ (by rfl)]))
  refine abs_world (fun V => Below W.heap.size W V ∧ V.heap[W.heap.size]? = some (.cells ((kBB s0 A B C) 0) 61 (0, 0))) ⟨below_setRow ((Below.refl _ _).alloc (Nat.le_refl _) _) (Nat.le_refl _) _, setRow_heap _ _ _ _ _ _ (heap_alloc_new _ _)⟩ ?_
  rintro V ⟨hbv, h1⟩
  replace Hg := Lib.hid (below_row hbv Hg.out)
  replace Hb := Lib.hid (below_row hbv Hb.out)
  replace H0 := Lib.hid (below_row hbv H0.out)
  have hbw2 := hbw.trans (hbv.mono hbw.size)
  have H1 := Lib.hid h1
  clear h1
  have hwl := hbw.size
  have h0l := row_lt H0.out
  have h1l := row_lt H1.out
  have n0 := (HS.out 0 hn).2
  go_wp2_with (first | (refine wpList_load_part rfl 61 _ rfl W.heap.size 0 5 rfl 61 ((kBB s0 A B C) 0) (0, 0) _ H1.out Try.underlying61 rfl info_kB (kB_fits s0 A B C _) _ (kB_all s0 A B C _) ?_) | (refine wpList_lookup_run rfl _ _ 56 false rfl (.map (some b)) (.agg ((kBB s0 A B C) 0)) (.float .f32 (val 0)) rfl rfl (look_ents kB_law Try.underlying56 (kB_zero _) Hb.out HK.out hN 0 hn) ?_) | (go_at_call 56; refine (sizeOf_any _ n0 _).mono ?_; rintro e w' ⟨rfl, rfl⟩))
  go_step3
  go_wp2
  go_loopw [8, 23] (fun q i wr => ∃ k : Nat, k ≤ n ∧ i = .int .i64 k ∧ q = .float .f32 (sizeB (fsub (val (bestK (fun i => sizeB (fsub (val i) wanted)) k)) wanted)) ∧ Below w.heap.size w wr ∧ W.heap.size < wr.heap.size ∧ wr.heap[w.heap.size]? = some (.cells #[.int .i8 0, .int .u32 0, .int .u32 0, .int .i16 0, .int .u32 0] 61 (0, 0)) ∧ wr.heap[W.heap.size]? = some (.cells ((kBB s0 A B C) (bestK (fun i => sizeB (fsub (val i) wanted)) k)) 61 (0, 0)) ∧ wr.heap[g]? = some (.cells cur 61 (0, 0)) ∧ wr.heap[b]? = some (.map (ents n (kBB s0 A B C) val) n)) (fun _ i _ => n - (intOf i).toNat)
  case atStart => exact ⟨0, Nat.zero_le _, rfl, rfl, hbw2, h1l, H0.out, H1.out, Hg.out, Hb.out⟩
  case round =>
    clear Hg Hb H0 H1 n0 r0
    obtain ⟨k, hk, rfl, rfl, hbr, hsr, h0, h1, hg, hb⟩ := hrel
    have Hg := Lib.hid hg
    have Hb := Lib.hid hb
    have H0 := Lib.hid h0
    have H1 := Lib.hid h1
    clear h0 h1 hg hb
    by_cases hlt : k < n
    · have rk := HR.out k hlt
      have nk := (HS.out k hlt).2
      have hj := bestK_lt (fun i => sizeB (fsub (val i) wanted)) hk hn
      have nj := size_isNum (HS.out _ hj).2
      have nk' := size_isNum nk
      have hx := HC.out k hlt
      have hxs : k * 5 + 5 ≤ cur.size := Nat.le_trans (by rw [← Nat.succ_mul]; exact Nat.mul_le_mul_right _ hlt) hsz
      have HX := Lib.hid hx
      have HM : Hid (_ ∧ _) := Lib.hid (And.intro (@bestK_hit (fun i => sizeB (fsub (val i) wanted)) k) (@bestK_miss (fun i => sizeB (fsub (val i) wanted)) k))
      clear hx
      generalize hbk : bestK (fun i => sizeB (fsub (val i) wanted)) k = j at *
      have z1 : (k : Int) < (n : Int) := by omega
      have z2 : (0 : Int) ≤ (k : Int) := by omega
      clear hbk
      go_upto_region 6 with (first | (refine wpList_load_part rfl 61 _ rfl g (k * 5) 5 rfl 61 cur (0, 0) _ Hg.out Try.underlying61 rfl info_kB hxs _ HX.out ?_) | (refine wpList_store_part rfl 61 _ _ rfl _ 0 ((kBB s0 A B C) k) rfl rfl 61 _ (heap_alloc_new _ _) (by kernel_rfl) (Nat.le_refl _) (kB_one s0 A B C _) ?_; rw [laid_all2 _ _ (by rfl)]))
      refine abs_world (fun V => Below wr.heap.size wr V ∧ V.heap[wr.heap.size]? = some (.cells ((kBB s0 A B C) k) 61 (0, 0))) ⟨below_setRow ((Below.refl _ _).alloc (Nat.le_refl _) _) (Nat.le_refl _) _, setRow_heap _ _ _ _ _ _ (heap_alloc_new _ _)⟩ ?_
      rintro V2 ⟨hbv2, h2⟩
      replace Hg := Lib.hid (below_row hbv2 Hg.out)
      replace Hb := Lib.hid (below_row hbv2 Hb.out)
      replace H0 := Lib.hid (below_row hbv2 H0.out)
      replace H1 := Lib.hid (below_row hbv2 H1.out)
      have H2 := Lib.hid h2
      have hsv2 := hbv2.size
      have hbr2 := hbr.trans (hbv2.mono hbr.size)
      clear h2
      rcases order_cases nk' nj with ⟨ho, hl⟩ | ⟨ho, hl⟩ | ⟨ho, hl⟩
      · have HL := Lib.hid (HM.out.1 hl)
        clear hl HM
        go_wp2_with (first | (refine wpList_load_part rfl 61 _ rfl wr.heap.size 0 5 rfl 61 ((kBB s0 A B C) k) (0, 0) _ H2.out Try.underlying61 rfl info_kB (kB_fits s0 A B C _) _ (kB_all s0 A B C _) ?_) | (refine wpList_lookup_run rfl _ _ 56 false rfl (.map (some b)) (.agg ((kBB s0 A B C) k)) (.float .f32 (val k)) rfl rfl (look_ents kB_law Try.underlying56 (kB_zero _) Hb.out HK.out hN k hlt) ?_) | (go_at_call 56; refine (sizeOf_any _ nk _).mono ?_; rintro e w' ⟨rfl, rfl⟩) | (refine wpList_store_part rfl 61 _ _ rfl W.heap.size 0 ((kBB s0 A B C) k) rfl rfl 61 _ H1.out (by kernel_rfl) (Nat.le_refl _) (kB_one s0 A B C _) ?_; rw [laid_all2 _ _ (by rfl)]))
        go_roundw
        case rel =>
          refine ⟨k + 1, by omega, by go_num, ?_⟩
          rw [HL.out]
          exact ⟨rfl, below_setRow hbr2 hwl _, by simp; omega, by rw [setRow_other _ _ _ _ (by omega)]; exact H0.out, setRow_heap _ _ _ _ _ _ H1.out, by rw [setRow_other _ _ _ _ (by omega)]; exact Hg.out, by rw [setRow_other _ _ _ _ (by omega)]; exact Hb.out⟩
        case measure => simp [intOf]; omega
      all_goals
        have HL := Lib.hid (HM.out.2 hl)
        clear hl HM
        go_wp2_with (first | (refine wpList_load_part rfl 61 _ rfl wr.heap.size 0 5 rfl 61 ((kBB s0 A B C) k) (0, 0) _ H2.out Try.underlying61 rfl info_kB (kB_fits s0 A B C _) _ (kB_all s0 A B C _) ?_) | (refine wpList_lookup_run rfl _ _ 56 false rfl (.map (some b)) (.agg ((kBB s0 A B C) k)) (.float .f32 (val k)) rfl rfl (look_ents kB_law Try.underlying56 (kB_zero _) Hb.out HK.out hN k hlt) ?_) | (go_at_call 56; refine (sizeOf_any _ nk _).mono ?_; rintro e w' ⟨rfl, rfl⟩))
        go_roundw
        case rel =>
          refine ⟨k + 1, by omega, by go_num, ?_⟩
          rw [HL.out]
          exact ⟨rfl, hbr2, by omega, H0.out, H1.out, Hg.out, Hb.out⟩
        case measure => simp [intOf]; omega
    · obtain rfl : k = n := by omega
      have hsr' := hsr
      go_wp2_with (first | (refine wpList_load_part rfl 61 _ rfl W.heap.size 0 5 rfl 61 ((kBB s0 A B C) (bestK (fun i => sizeB (fsub (val i) wanted)) k)) (0, 0) _ H1.out Try.underlying61 rfl info_kB (kB_fits s0 A B C _) _ (kB_all s0 A B C _) ?_) | (refine wpList_store_part rfl 61 _ _ rfl w.heap.size 0 ((kBB s0 A B C) (bestK (fun i => sizeB (fsub (val i) wanted)) k)) rfl rfl 61 _ H0.out (by kernel_rfl) (Nat.le_refl _) (kB_one s0 A B C _) ?_; rw [laid_all2 _ _ (by rfl)]))
      rw [Exit.noGoto_ret]
      exact bodyPost_ret (v := .agg ((kBB s0 A B C) (bestK (fun i => sizeB (fsub (val i) wanted)) k))) (results_cell_row rfl _ _ _ _ _ _ _ rfl (setRow_heap _ _ _ _ _ _ H0.out) Try.underlying61 rfl (by kernel_rfl)) rfl ⟨rfl, below_setRow hbr (Nat.le_refl _) _⟩

end Go.Proofs.Ytdccmdcgbembpaa
