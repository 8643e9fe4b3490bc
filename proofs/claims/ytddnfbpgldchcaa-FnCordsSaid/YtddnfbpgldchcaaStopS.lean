/-
  The stop whose place is nearest: the model's walk.
-/
import Derived.Test.YtddnfbpgldchcaaStopP
namespace Go.Proofs.Ytddnfbpgldchcaa
open Go Go.RowKit

attribute [local go_sem] run_store_f

/-- The places of the stops, and how far they are from what is wanted. -/
abbrev plc (ln st load : Nat) (s : Nat) (i : Nat) : Nat := plcB ln st load (i : Int) (s : Int)
def offC (ln st load : Nat) (s wanted : Nat) (i : Nat) : Nat := sizeB (fsub (plc ln st load s i) wanted)
def bestS (ln st load : Nat) (s wanted : Nat) : Nat := firstMin (offC ln st load s wanted) s

set_option maxRecDepth 100000 in
set_option maxHeartbeats 1000000 in
theorem specStopFor_y (ln st s : Nat) (cw : CoWf ln st (s : Int)) (load wanted : Nat) (hk : okCo ln st (s : Int) = true) (hp : partB load = true) (hw : (Lit.float .f32 load).wf = true) (hq : plainB wanted = true) (hww : (Lit.float .f32 wanted).wf = true) (w : World) :
    Calls Try.prog 13 #[.agg (cordC ln st (s : Int)), .float .f32 load, .float .f32 wanted] w fun e w' => e = .returned (.tuple #[.int .i64 (bestS ln st load s wanted : Int), .float .f32 (plc ln st load s (bestS ln st load s wanted)), .int .i64 0]) ∧ Below w.heap.size w w' := by
  obtain ⟨S0, S1⟩ := cowf_s cw
  have OK := cook_of cw hk
  have LP := betw_zero hw (by decide) hp
  have hs0 := OK.2.2.2.1
  have hs1 := OK.2.2.2.2
  have ho : ∀ i : Nat, i ≤ s → floatBits .sub .f32 (plc ln st load s i) wanted = some (fsub (plc ln st load s i) wanted) ∧ isNum (fsub (plc ln st load s i) wanted) := fun i hi => off_plain (plc_le OK.1 OK.2.1 OK.2.2.1 LP (by omega) (by omega) hs0 hs1) hww hq
  have HR := Lib.hid (fun i hi (t : TypeId) (w : World) => run_float_arith (P := Try.prog) w .sub t .f32 _ _ _ (ho i hi).1)
  have HN := Lib.hid (fun i hi => (ho i hi).2)
  have HC := Lib.hid (fun (i : Nat) (hi : i ≤ s) (V : World) hg => l02Place_any ln st (s : Int) OK load LP (i : Int) (by omega) (by omega) w.heap.size 27 (0, 0) V hg)
  have Hc : Hid (codeD (okCo ln st (s : Int)) true = 0) := by rw [hk]; rfl
  have Hp := Lib.hid hp
  have Hq := Lib.hid hq
  have hE := bestK_end (offC ln st load s wanted) (n := s + 1) (by omega)
  have HE : Hid (bestS ln st load s wanted = bestK (offC ln st load s wanted) (s + 1)) := by rw [hE]; rfl
  rw [HE.out]
  have hn0 := HN.out 0 (by omega)
  clear OK LP hk hp hq ho cw hw hww hE HE
  go_enter Try.func13, Try.ntmps13
  go_upto_region 1 with (fail)
  refine abs_world (fun W => Below w.heap.size w W ∧ W.heap[w.heap.size]? = some (.cells (cordC ln st (s : Int)) 27 (0, 0))) ⟨(Below.refl _ _).alloc (Nat.le_refl _) _, heap_alloc_new _ _⟩ ?_
  rintro W ⟨hb, h0⟩
  have H0 := Lib.hid h0
  obtain ⟨k0, k1, k2⟩ := cord_cells h0
  clear h0
  go_wp2_with (first | (go_at_call 30; refine (l01Part_is load true Hp.out _).mono ?_; rintro e w' ⟨rfl, rfl⟩) | (go_at_call 38; refine (l01Plain_any wanted _).mono ?_; rw [Hq.out]; rintro e w' ⟨rfl, rfl⟩) | (go_at_call 29; refine (l02Loaded_is ln st (s : Int) S0 S1 w.heap.size _ _ true 0 Hc.out _ H0.out).mono ?_; rintro e w' ⟨rfl, rfl⟩) | (go_at_call 39; refine (HC.out 0 (by omega) _ H0.out).mono ?_; rintro e W1 ⟨rfl, hb1⟩))
  replace H0 := Lib.hid (below_row hb1 H0.out)
  replace hb := hb.trans (hb1.mono hb.size)
  clear hb1 k0 k1 k2
  go_loopw [10, 11, 12] (fun bq pq i wr => ∃ k : Nat, 1 ≤ k ∧ k ≤ s + 1 ∧ i = .int .i64 k ∧ bq = .int .i64 (bestK (offC ln st load s wanted) k : Nat) ∧ pq = .float .f32 (plc ln st load s (bestK (offC ln st load s wanted) k)) ∧ Below w.heap.size w wr ∧ wr.heap[w.heap.size]? = some (.cells (cordC ln st (s : Int)) 27 (0, 0))) (fun _ _ i _ => s + 1 - (intOf i).toNat)
  case atStart => exact ⟨1, Nat.le_refl _, by omega, rfl, rfl, rfl, hb, H0.out⟩
  case round =>
    clear H0 hb hn0
    obtain ⟨k, hk0, hk, rfl, rfl, rfl, hb, h0⟩ := hrel
    have H0 := Lib.hid h0
    obtain ⟨k0, k1, k2⟩ := cord_cells h0
    clear h0
    by_cases hlt : k ≤ s
    · have hj := bestK_lt (offC ln st load s wanted) (k := k) (n := s + 1) hk (by omega)
      have rk := HR.out k hlt
      have nk := HN.out k hlt
      have HM : Hid (_ ∧ _) := Lib.hid (And.intro (@bestK_hit (offC ln st load s wanted) k) (@bestK_miss (offC ln st load s wanted) k))
      generalize hbk : bestK (offC ln st load s wanted) k = j at *
      clear hbk
      have rj := HR.out j (by omega)
      have nj := HN.out j (by omega)
      have z1 : (k : Int) ≤ (s : Int) := by omega
      have ck := HC.out k hlt
      have HCk := Lib.hid ck
      clear ck
      rcases order_cases (size_isNum nk) (size_isNum nj) with ⟨ho, hl⟩ | ⟨ho, hl⟩ | ⟨ho, hl⟩
      all_goals
        first | have HL := Lib.hid (HM.out.1 hl) | have HL := Lib.hid (HM.out.2 hl)
        clear hl HM
        go_wp2_with (first | (go_at_call 39; refine (HCk.out _ H0.out).mono ?_; rintro e W1 ⟨rfl, hb1⟩; replace H0 := Lib.hid (below_row hb1 H0.out); replace hb := hb.trans (hb1.mono hb.size); clear hb1; clear k0 k1 k2; obtain ⟨k0, k1, k2⟩ := cord_cells H0.out) | (go_at_call 40; refine (l01Size_any _ nk _).mono ?_; rintro e w' ⟨rfl, rfl⟩) | (go_at_call 40; refine (l01Size_any _ nj _).mono ?_; rintro e w' ⟨rfl, rfl⟩))
        go_roundw
        case rel =>
          refine ⟨k + 1, by omega, by omega, by go_num, ?_⟩
          rw [HL.out]
          exact ⟨rfl, rfl, hb, H0.out⟩
        case measure => simp [intOf]; omega
    · obtain rfl : k = s + 1 := by omega
      have z1 : ¬ (((s + 1 : Nat) : Int) ≤ (s : Int)) := by omega
      go_wp2
      go_ret3
      exact ⟨rfl, hb⟩

end Go.Proofs.Ytddnfbpgldchcaa
