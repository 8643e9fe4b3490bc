/-
  The tilt with the least anger: the model.
-/
import Derived.Test.YtelgcggcmjdhjaaLaJ
namespace Go.Proofs.Ytelgcggcmjdhjaa
open Go.ChangeShapes Go.WideShapes Go.ChangeAt Go.RowKit Go.Deep Go.Joins

attribute [local go_sem] run_store_f

/-- The best tilt and the least number, ahead of the k-th round of the model. -/
def bM (d : Nat → Nat) : Nat → Int
  | 0 => 0
  | k + 1 => (firstMin d k : Int) - 64
def sM (d : Nat → Nat) : Nat → Nat
  | 0 => 3212836864
  | k + 1 => d (firstMin d k)
theorem stepM (d : Nat → Nat) (hd : ∀ k, d k < 2139095040) (k : Nat) :
    (FloatKind.f32.format.order (sM d k) 0 = some .lt ∧ bM d (k + 1) = (k : Int) - 64 ∧ sM d (k + 1) = d k) ∨
    ((FloatKind.f32.format.order (sM d k) 0 = some .gt ∨ FloatKind.f32.format.order (sM d k) 0 = some .eq) ∧
      ((FloatKind.f32.format.order (d k) (sM d k) = some .lt ∧ bM d (k + 1) = (k : Int) - 64 ∧ sM d (k + 1) = d k) ∨
       ((FloatKind.f32.format.order (d k) (sM d k) = some .gt ∨ FloatKind.f32.format.order (d k) (sM d k) = some .eq) ∧ bM d (k + 1) = bM d k ∧ sM d (k + 1) = sM d k))) := by
  cases k with
  | zero => exact .inl ⟨order_m1, rfl, rfl⟩
  | succ j =>
    refine .inr ⟨order_neg1 (hd _), ?_⟩
    rcases order_cases (.inl (hd (j + 1)) : isNum (d (j + 1))) (.inl (hd (firstMin d j))) with ⟨ho, hm⟩ | ⟨ho, hm⟩ | ⟨ho, hm⟩
    · refine .inl ⟨ho, ?_, ?_⟩
      · show (firstMin d (j + 1) : Int) - 64 = _; rw [firstMin_hit hm]
      · show d (firstMin d (j + 1)) = _; rw [firstMin_hit hm]
    · refine .inr ⟨.inr ho, ?_, ?_⟩
      · show (firstMin d (j + 1) : Int) - 64 = (firstMin d j : Int) - 64; rw [firstMin_miss hm]
      · show d (firstMin d (j + 1)) = d (firstMin d j); rw [firstMin_miss hm]
    · refine .inr ⟨.inl ho, ?_, ?_⟩
      · show (firstMin d (j + 1) : Int) - 64 = (firstMin d j : Int) - 64; rw [firstMin_miss hm]
      · show d (firstMin d (j + 1)) = d (firstMin d j); rw [firstMin_miss hm]

set_option maxRecDepth 100000 in
set_option maxHeartbeats 4000000 in
theorem sLA_no (n : Int) (wd gp : Nat) (t : Int) (sh : Nat) (bw : BlWf n wd gp t sh) (h : Int) (sv : Value) (zs : List Nat) (w : World) (hz : FloatsAt w sv zs) (hk : ¬ (okBl n wd gp t sh = true ∧ fineL h zs = true)) :
    Calls Try.prog 43 #[.agg (blindC n wd gp t sh), .int .i64 h, sv] w fun e w' => e = .returned (.tuple #[.int .i64 0, .float .f32 0, .int .i64 (codeC (okBl n wd gp t sh) (fineL h zs))]) ∧ Below w.heap.size w w' := by
  obtain ⟨T0, T1⟩ := blwf_t bw
  obtain ⟨N0, N1⟩ := blwf_n bw
  have hne := codeC_ne hk
  have HZ := Lib.hid hz
  have HV := Lib.hid (fun W hz => l05Votes_any sv zs W hz)
  cases hv : okVs zs with
  | true =>
    rw [hv] at HV
    have e1 : fineL h zs = inI 1 64 h := by unfold fineL; rw [hv, Bool.and_true]
    rw [e1] at hne hk ⊢
    generalize hi : inI 1 64 h = r at *
    generalize hc : codeC (okBl n wd gp t sh) r = c at *
    have Hc := Lib.hid hc
    have Hi := Lib.hid hi
    have hne' : (c != 0) = true := bne_iff_ne.2 hne
    clear hk hi hv hc hne e1 bw
    obtain ⟨a, cap, rfl, hl1, hl2, _⟩ := hz
    unfold maxLen at hl2
    generalize hn : zs.length = n' at *
    clear hn
    go_enter Try.func43, Try.ntmps43
    go_wp2_with (first | (go_at_call 66; refine (HV.out _ (floats_below HZ.out ((Below.refl _ _).alloc (Nat.le_refl _) _))).mono ?_; rintro e w' ⟨rfl, rfl⟩) | (go_at_call 72; refine (l02Up_is h r Hi.out _).mono ?_; rintro e w' ⟨rfl, rfl⟩) | (go_at_call 71; refine (l02Asked_is n wd gp t sh T0 T1 N0 N1 w.heap.size _ _ r c Hc.out _ (heap_alloc_new _ _)).mono ?_; rintro e w' ⟨rfl, rfl⟩))
    go_ret3
    exact ⟨rfl, (Below.refl _ _).alloc (Nat.le_refl _) _⟩
  | false =>
    rw [hv] at HV
    have e1 : fineL h zs = false := by unfold fineL; rw [hv, Bool.and_false]
    rw [e1] at hne hk ⊢
    generalize hc : codeC (okBl n wd gp t sh) false = c at *
    have Hc := Lib.hid hc
    have hne' : (c != 0) = true := bne_iff_ne.2 hne
    clear hk hv hc hne e1 bw
    obtain ⟨a, cap, rfl, hl1, hl2, _⟩ := hz
    unfold maxLen at hl2
    generalize hn : zs.length = n' at *
    clear hn
    go_enter Try.func43, Try.ntmps43
    go_wp2_with (first | (go_at_call 66; refine (HV.out _ (floats_below HZ.out ((Below.refl _ _).alloc (Nat.le_refl _) _))).mono ?_; rintro e w' ⟨rfl, rfl⟩) | (go_at_call 71; refine (l02Asked_is n wd gp t sh T0 T1 N0 N1 w.heap.size _ _ false c Hc.out _ (heap_alloc_new _ _)).mono ?_; rintro e w' ⟨rfl, rfl⟩))
    go_ret3
    exact ⟨rfl, (Below.refl _ _).alloc (Nat.le_refl _) _⟩

set_option maxRecDepth 100000 in
set_option maxHeartbeats 16000000 in
theorem sLA_yes (n : Int) (wd gp : Nat) (t : Int) (sh : Nat) (bw : BlWf n wd gp t sh) (h : Int) (sv : Value) (zs : List Nat) (hwf : ∀ z ∈ zs, (Lit.float .f32 z).wf = true) (w : World) (hz : FloatsAt w sv zs) (hk : okBl n wd gp t sh = true) (hi : inI 1 64 h = true) (hv : okVs zs = true) (m r : Nat) (hm : firstMin (dA wd gp sh h zs) 128 = m) (hr : dA wd gp sh h zs m = r) :
    Calls Try.prog 43 #[.agg (blindC n wd gp t sh), .int .i64 h, sv] w fun e w' => e = .returned (.tuple #[.int .i64 ((m : Int) - 64), .float .f32 r, .int .i64 0]) ∧ Below w.heap.size w w' := by
  obtain ⟨T0, T1⟩ := blwf_t bw
  obtain ⟨N0, N1⟩ := blwf_n bw
  obtain ⟨h0, h1⟩ := inI_get hi
  have OK := blok_of bw hk
  obtain ⟨v1, v12, hp⟩ := okVs_get hwf hv
  have HZ := Lib.hid hz
  have HV := Lib.hid (fun W hz => l05Votes_any sv zs W hz)
  rw [hv] at HV
  have HO := Lib.hid (fun (x : Int) (x0 : -64 ≤ x) (x1 : x ≤ 64) W hg => l02Pass_any n wd gp x sh (blok_tiltA n wd gp t sh OK x0 x1) h h0 h1 w.heap.size 49 (0, 0) W hg)
  have HPL := Lib.hid (fun x => pas_le wd gp x OK.2.2.2.2.2.2.2.2 h)
  have HS := Lib.hid (fun p hpl k hk => And.intro (dV_ok (p := p) hpl (getD_part hp k hk)) (sumA_step (p := p) hpl hp v12 k hk))
  obtain ⟨d, hd⟩ : ∃ d, d = (dA wd gp sh h zs) := ⟨_, rfl⟩
  have HDL : Hid (∀ k, d k < 2139095040) := by subst hd; exact fun k => dA_lt wd gp OK.2.2.2.2.2.2.2.2 h hp v12 k
  have HDA : Hid (∀ (k : Nat) (x : Int), x = (k : Int) - 64 → sumA (pasB wd gp x sh h) zs zs.length = d k) := by
    subst hd; intro k x hx; subst hx; rfl
  rw [← hd] at hm
  have HB : Hid (bM d 129 = (m : Int) - 64 ∧ sM d 129 = r) := by
    refine ⟨?_, ?_⟩
    · show (firstMin d 128 : Int) - 64 = _; rw [hm]
    · show d (firstMin d 128) = _; rw [hm, ← hr, hd]
  have Hc : Hid (codeC (okBl n wd gp t sh) true = 0) := by rw [hk]; rfl
  have Hi := Lib.hid hi
  clear OK h0 h1 hk hi hp hv bw hm hr hd hwf
  obtain ⟨a, cap, rfl, hl1, hl2, _⟩ := hz
  unfold maxLen at hl2
  generalize hn : zs.length = n' at *
  have HN := Lib.hid hn
  clear hn v1 v12
  go_enter Try.func43, Try.ntmps43
  go_upto_region 1 with (fail)
  refine abs_world (fun W => Below w.heap.size w W ∧ W.heap[w.heap.size]? = some (.cells (blindC n wd gp t sh) 49 (0, 0))) ⟨(Below.refl _ _).alloc (Nat.le_refl _) _, heap_alloc_new _ _⟩ ?_
  rintro W ⟨hb, d0⟩
  have D0 := Lib.hid d0
  clear d0
  go_upto_region 4 with (first | (go_at_call 66; refine (HV.out _ (floats_below HZ.out hb)).mono ?_; rintro e w' ⟨rfl, rfl⟩) | (go_at_call 72; refine (l02Up_is h true Hi.out _).mono ?_; rintro e w' ⟨rfl, rfl⟩) | (go_at_call 71; refine (l02Asked_is n wd gp t sh T0 T1 N0 N1 w.heap.size _ _ true 0 Hc.out _ D0.out).mono ?_; rintro e w' ⟨rfl, rfl⟩))
  clear HV Hi Hc
  go_wp2
  go_loopw [10, 11, 12] (fun b s i wr => ∃ (k : Nat) (x t' : Int), k ≤ 129 ∧ x = (k : Int) - 64 ∧ i = .int .i64 x ∧ b = .int .i64 (bM d k) ∧ s = .float .f32 (sM d k) ∧ Below w.heap.size w wr ∧ wr.heap[w.heap.size]? = some (.cells (blindC n wd gp t' sh) 49 (0, 0))) (fun _ _ i _ => (65 - intOf i).toNat)
  case atStart => exact ⟨0, -64, t, by omega, by decide, rfl, rfl, rfl, hb, D0.out⟩
  case round =>
    clear hb D0
    obtain ⟨k, x, t', hk, hx, rfl, rfl, rfl, hb, d0⟩ := hrel
    by_cases hlt : k < 129
    · have z0 : (-64 : Int) ≤ x := by omega
      have z1 : x ≤ 64 := by omega
      have HX := Lib.hid (HO.out x z0 z1)
      have hpl := Lib.hid (HPL.out x)
      have HDk := Lib.hid (HDA.out k x hx)
      have HSt := Lib.hid (stepM d HDL.out k)
      have HXX := Lib.hid hx
      obtain ⟨k0, k1, k2, k3, k4⟩ := blind_cells d0
      have kf := frozen_of_row wr w.heap.size 3 _ _ d0
      have D0 := Lib.hid d0
      clear d0 hx
      generalize pasB wd gp x sh h = p at *
      go_upto_region 10 with (fail)
      refine abs_world (fun V => Below w.heap.size w V ∧ V.heap[w.heap.size]? = some (.cells (blindC n wd gp x sh) 49 (0, 0))) ⟨hb.setCell (p := ⟨w.heap.size, 3, none⟩) (Nat.le_refl _) _, by rw [heap_setCell_same _ _ _ _ _ _ D0.out]; rfl⟩ ?_
      clear hb D0 k0 k1 k2 k3 k4 kf
      rintro W2 ⟨hbw, d2⟩
      have HD2 := Lib.hid d2
      clear d2
      go_upto_region 11 with (go_at_call 73; refine (HX.out _ HD2.out).mono ?_; rintro e W3 ⟨rfl, hb3⟩; have HD3 := Lib.hid (below_row hb3 HD2.out); replace hbw := hbw.trans (hb3.mono hbw.size); clear hb3 HD2)
      clear HX HO HPL HDA HDL HB
      go_wp2
      go_loopw [14, 15] (fun s i wr => ∃ m2 : Nat, m2 ≤ n' ∧ i = .int .i64 m2 ∧ s = .float .f32 (sumA p zs m2) ∧ wr = W3) (fun _ i _ => n' - (intOf i).toNat)
      case atStart => exact ⟨0, Nat.zero_le _, rfl, rfl, rfl⟩
      case round =>
        obtain ⟨m2, hm2, rfl, rfl, rfl⟩ := hrel
        by_cases hlt2 : m2 < n'
        · have hx2 : zs[m2]? = some (zs.getD m2 0) := by rw [List.getElem?_eq_getElem (by rw [HN.out]; exact hlt2)]; simp [List.getD, HN.out, hlt2]
          obtain ⟨⟨hs1, hs2, _⟩, hs3⟩ := HS.out p hpl.out m2 hlt2
          obtain ⟨g, o, rfl, hc⟩ := float_at (floats_below HZ.out hbw) hx2
          unfold dV at hs3
          generalize zs.getD m2 0 = v at *
          have r1 : ∀ T w, (binOp .sub T (.float .f32 p) (.float .f32 v)).run Try.prog w = .ok (.float .f32 (fsub p v)) w := fun T w => run_float_arith w .sub T .f32 _ _ _ hs1
          have HZ2 := Lib.hid (fun w => l01Size_any (fsub p v) hs2 w)
          have r2 : ∀ T w, (binOp .add T (.float .f32 (sumA p zs m2)) (.float .f32 (sizeB (fsub p v)))).run Try.prog w = .ok (.float .f32 (sumA p zs (m2 + 1))) w := fun T w => run_float_arith w .add T .f32 _ _ _ hs3
          have z1 : (m2 : Int) < (n' : Int) := by omega
          have z2 : (0 : Int) ≤ (m2 : Int) := by omega
          clear hx2 hs1 hs2 hs3
          generalize sizeB (fsub p v) = dd at *
          generalize fsub p v = df at *
          go_wp2_with (go_at_call 74; refine (HZ2.out _).mono ?_; rintro e w1 ⟨rfl, rfl⟩)
          go_roundw
          case rel => exact ⟨m2 + 1, by omega, by go_num, rfl, by trivial⟩
          case measure => simp [intOf]; omega
        · obtain rfl : m2 = n' := by omega
          rw [HDk.out]
          clear hlt2 hm2
          generalize d k = dk at *
          generalize sM d k = ls at *
          generalize bM d k = bs at *
          rcases HSt.out with ⟨o1, e1, e2⟩ | ⟨o1 | o1, ⟨o2, e1, e2⟩ | ⟨o2 | o2, e1, e2⟩⟩
          · go_wp2
            go_roundw
            case rel => exact ⟨k + 1, x + 1, x, by omega, by have := HXX.out; omega, by go_num, by rw [e1, HXX.out], by rw [e2], hbw, HD3.out⟩
            case measure => simp [intOf]; omega
          · go_wp2
            go_roundw
            case rel => exact ⟨k + 1, x + 1, x, by omega, by have := HXX.out; omega, by go_num, by rw [e1, HXX.out], by rw [e2], hbw, HD3.out⟩
            case measure => simp [intOf]; omega
          · go_wp2
            go_roundw
            case rel => exact ⟨k + 1, x + 1, x, by omega, by have := HXX.out; omega, by go_num, by rw [e1], by rw [e2], hbw, HD3.out⟩
            case measure => simp [intOf]; omega
          · go_wp2
            go_roundw
            case rel => exact ⟨k + 1, x + 1, x, by omega, by have := HXX.out; omega, by go_num, by rw [e1], by rw [e2], hbw, HD3.out⟩
            case measure => simp [intOf]; omega
          · go_wp2
            go_roundw
            case rel => exact ⟨k + 1, x + 1, x, by omega, by have := HXX.out; omega, by go_num, by rw [e1, HXX.out], by rw [e2], hbw, HD3.out⟩
            case measure => simp [intOf]; omega
          · go_wp2
            go_roundw
            case rel => exact ⟨k + 1, x + 1, x, by omega, by have := HXX.out; omega, by go_num, by rw [e1], by rw [e2], hbw, HD3.out⟩
            case measure => simp [intOf]; omega
          · go_wp2
            go_roundw
            case rel => exact ⟨k + 1, x + 1, x, by omega, by have := HXX.out; omega, by go_num, by rw [e1], by rw [e2], hbw, HD3.out⟩
            case measure => simp [intOf]; omega
    · obtain rfl : k = 129 := by omega
      obtain rfl : x = 65 := by omega
      obtain ⟨hB1, hB2⟩ := HB.out
      rw [hB1, hB2]
      clear hB1 hB2 d0
      go_wp2
      go_ret3
      exact ⟨rfl, hb⟩

end Go.Proofs.Ytelgcggcmjdhjaa
