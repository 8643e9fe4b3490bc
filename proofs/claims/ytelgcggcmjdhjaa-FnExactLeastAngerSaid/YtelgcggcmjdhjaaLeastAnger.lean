/-
  For every blind, height and list of votes, valid or not: the tilt with the least anger, and that anger, are what the model says, and the list is as it was. No conditions.
-/
import Derived.Test.YtelgcggcmjdhjaaLaS
namespace Go.Proofs.Ytelgcggcmjdhjaa
open Go.ChangeShapes Go.WideShapes Go.ChangeAt Go.RowKit Go.Deep Go.Joins

set_option maxRecDepth 100000 in
set_option maxHeartbeats 8000000 in
theorem FnExactLeastAnger_core (n : Int) (wd gp : Nat) (t : Int) (sh : Nat) (h : Int) (sv : Value) (zs : List Nat) (b : Int) (v : Nat) (c : Int) (hv : fin32 v = true) (w : World) (hzs : FloatsAt w sv zs)
    (hspec : ∀ w u, FloatsAt w u zs → Calls Try.prog 43 #[.agg (blindC n wd gp t sh), .int .i64 h, u] w fun e w' => e = .returned (.tuple #[.int .i64 b, .float .f32 v, .int .i64 c]) ∧ Below w.heap.size w w')
    (himpl : ∀ w u, FloatsAt w u zs → Calls Try.prog 44 #[.agg (blindC n wd gp t sh), .int .i64 h, u] w fun e w' => e = .returned (.tuple #[.int .i64 b, .float .f32 v, .int .i64 c]) ∧ Below w.heap.size w w') :
    Calls Try.prog 13 #[.agg (blindC n wd gp t sh), .int .i64 h, sv] w fun e w' => e = .returned (.bool true) ∧ Below w.heap.size w w' := by
  have HS := Lib.hid hspec
  have HI := Lib.hid himpl
  have HA := Lib.hid hzs
  have hw0 := run_wide _ hv
  have Hv0 := Lib.hid hv
  have zc : (c != c) = false := by simp
  have zb : (b != b) = false := by simp
  clear hspec himpl hv
  have esv : ∃ a cap, sv = .slice a zs.length cap := by obtain ⟨a, cap, e, _⟩ := hzs; exact ⟨a, cap, e⟩
  clear hzs
  obtain ⟨a0, cap0, esv⟩ := esv
  subst esv
  go_enter Try.func13, Try.ntmps13
  go_upto_region 1 with (fail)
  refine abs_world (fun W => Below w.heap.size w W ∧ W.heap[w.heap.size]? = some (.cells (blindC n wd gp t sh) 46 (0, 0))) ⟨(Below.refl _ _).alloc (Nat.le_refl _) _, heap_alloc_new _ _⟩ ?_
  rintro W ⟨hb, h0⟩
  have H0 := Lib.hid h0
  clear h0
  replace HA := Lib.hid (floats_below HA.out hb)
  by_cases hlen : zs.length ≤ 1048576
  · have zl : ((zs.length : Nat) : Int) ≤ 1048576 := by omega
    go_upto_region 4 with (first | (refine wpList_load_part rfl 46 _ rfl w.heap.size 0 5 rfl 46 (blindC n wd gp t sh) (0, 0) _ H0.out Try.underlying46 rfl info_blindL (blind_fits _ _ _ _ _) _ (blind_all _ _ _ _ _) ?_) | (go_at_call 27; refine (toBlind_any _ _ _ _ _ _).mono ?_; rintro e W9 ⟨rfl, hb1⟩; replace H0 := Lib.hid (below_row hb1 H0.out); replace HA := Lib.hid (floats_below HA.out hb1); replace hb := hb.trans (hb1.mono hb.size); clear hb1) | (go_at_call 38; refine (toFloat32S_any _ zs hlen _ HA.out).mono ?_; rintro e W0 ⟨⟨v0, rfl, hv⟩, hb1⟩; have HV0 := Lib.hid hv; clear hv; replace H0 := Lib.hid (below_row hb1 H0.out); replace HA := Lib.hid (floats_below HA.out hb1); replace hb := hb.trans (hb1.mono hb.size); clear hb1) | (go_at_call 43; refine (HS.out _ _ HV0.out).mono ?_; rintro e W2 ⟨rfl, hb1⟩; replace H0 := Lib.hid (below_row hb1 H0.out); replace HA := Lib.hid (floats_below HA.out hb1); replace hb := hb.trans (hb1.mono hb.size); clear hb1))
    clear HV0 HS
    go_upto_region 5 with (go_at_call 38; refine (toFloat32S_any _ zs hlen _ HA.out).mono ?_; rintro e W1 ⟨⟨v1, rfl, hv⟩, hb1⟩; have HV1 := Lib.hid hv; clear hv; replace H0 := Lib.hid (below_row hb1 H0.out); replace HA := Lib.hid (floats_below HA.out hb1); replace hb := hb.trans (hb1.mono hb.size); clear hb1)
    go_upto_region 6 with (first | (refine wpList_load_part rfl 46 _ rfl w.heap.size 0 5 rfl 46 (blindC n wd gp t sh) (0, 0) _ H0.out Try.underlying46 rfl info_blindL (blind_fits _ _ _ _ _) _ (blind_all _ _ _ _ _) ?_) | (go_at_call 27; refine (toBlind_any _ _ _ _ _ _).mono ?_; rintro e W9 ⟨rfl, hb1⟩; replace H0 := Lib.hid (below_row hb1 H0.out); replace HA := Lib.hid (floats_below HA.out hb1); replace HV1 := Lib.hid (floats_below HV1.out hb1); replace hb := hb.trans (hb1.mono hb.size); clear hb1) | (go_at_call 44; refine (HI.out _ _ HV1.out).mono ?_; rintro e W4 ⟨rfl, hb1⟩; replace H0 := Lib.hid (below_row hb1 H0.out); replace HA := Lib.hid (floats_below HA.out hb1); replace HV1 := Lib.hid (floats_below HV1.out hb1); replace hb := hb.trans (hb1.mono hb.size); clear hb1))
    clear HI
    go_wp2_with (first | (go_at_call 29; refine (same_wide _ Hv0.out _).mono ?_; rintro e u1 ⟨rfl, rfl⟩) | (go_at_call 38; refine (toFloat32S_any _ zs hlen _ HA.out).mono ?_; rintro e W5 ⟨⟨v5, rfl, hv⟩, hb1⟩; have HV5 := Lib.hid hv; clear hv; replace H0 := Lib.hid (below_row hb1 H0.out); replace HA := Lib.hid (floats_below HA.out hb1); replace HV1 := Lib.hid (floats_below HV1.out hb1); replace hb := hb.trans (hb1.mono hb.size); clear hb1) | (go_at_call 40; refine (eqFloat32S_any _ _ zs _ HV1.out HV5.out).mono ?_; rintro e W6 ⟨rfl, hb1⟩; replace hb := hb.trans (hb1.mono hb.size); clear hb1))
    go_ret
    exact ⟨rfl, hb⟩
  · have zl : (1048576 : Int) < ((zs.length : Nat) : Int) := by omega
    clear HS HI HA
    go_wp2
    go_ret
    exact ⟨rfl, hb⟩

theorem lawLeastAnger_walk (n : Int) (wd gp : Nat) (t : Int) (sh : Nat) (bw : BlWf n wd gp t sh) (h : Int) (sv : Value) (zs : List Nat) (hwf : ∀ z ∈ zs, (Lit.float .f32 z).wf = true) (w : World) (hzs : FloatsAt w sv zs) :
    Calls Try.prog 13 #[.agg (blindC n wd gp t sh), .int .i64 h, sv] w fun e w' => e = .returned (.bool true) ∧ Below w.heap.size w w' := by
  by_cases hk : okBl n wd gp t sh = true ∧ fineL h zs = true
  · obtain ⟨hk, hf⟩ := hk
    have hf' := hf
    unfold fineL at hf'
    rw [Bool.and_eq_true] at hf'
    obtain ⟨hi, hv⟩ := hf'
    have OK := blok_of bw hk
    obtain ⟨v1, v12, hp⟩ := okVs_get hwf hv
    exact FnExactLeastAnger_core n wd gp t sh h sv zs _ _ 0 (fin_of_lt (dA_lt wd gp OK.2.2.2.2.2.2.2.2 h hp v12 _)) w hzs (fun w u hu => sLA_yes n wd gp t sh bw h u zs hwf w hu hk hi hv _ _ rfl rfl) (fun w u hu => iLA_yes n wd gp t sh bw h u zs hwf w hu hk hi hv _ _ rfl rfl)
  · exact FnExactLeastAnger_core n wd gp t sh h sv zs 0 0 _ zero_fin w hzs (fun w u hu => sLA_no n wd gp t sh bw h u zs w hu hk) (fun w u hu => iLA_no n wd gp t sh bw h u zs w hu hk)

set_option maxRecDepth 100000 in
theorem FnExactLeastAnger_holds : Rows.FnExactLeastAngerSaid :=
  OpenClaim.holds_of_wide 13 Try.f13 rfl rfl rfl rfl rfl rfl rfl ⟨rfl, rfl, rfl, rfl, rfl⟩ rfl rfl rfl rfl rfl (by kernel_rfl) Try.func13 (by kernel_rfl)
    (of_decide_eq_true (by kernel_rfl)) (by unfold Func.isWrapper; first | (rw [if_pos (by decide +kernel)]; kernel_rfl) | (rw [if_neg (by decide +kernel)]; exact ⟨rfl, rfl⟩))
    (fun os started H enc _ => law_lifted 13 Try.f13 Rows.fnExactLeastAngerSpec Rows.fnExactLeastAngerRow.domain os started H enc (by kernel_rfl) Try.func13 rfl rfl
      (by rw [Try.params13]; intro t ht; simp only [List.mem_cons, List.not_mem_nil, or_false] at ht; rcases ht with rfl | rfl | rfl <;> exact ⟨by kernel_rfl, of_decide_eq_true (by kernel_rfl)⟩)
      (fun ds hl => by
        match ds, hl with
        | [d0, d1, d2], _ => rfl)
      (ChangeSpec.witness6 (enc := enc) (C := Try.checked) false ⟨#[], #[.agg #[.int .i8 0, .float .f32 0, .float .f32 0, .int .i16 0, .float .f32 0], .int .i64 0, .slice none 0 0], []⟩ 8 (by kernel_rfl) (by kernel_rfl) (by kernel_rfl) (by kernel_rfl))
      (fun W base args ds p hval hA => by
        rw [Try.params13] at hA hval
        obtain ⟨v0, vs0, d0, ds0, p0, q0, hargs, rfl, rfl, h0, r0⟩ := trodAll_cons hA
        obtain ⟨v1, vs1, d1, ds1, p1, q1, rfl, rfl, rfl, h1, r1⟩ := trodAll_cons r0
        obtain ⟨v2, vs2, d2, ds2, p2, q2, rfl, rfl, rfl, h2, r2⟩ := trodAll_cons r1
        obtain ⟨rfl, rfl, rfl⟩ := trodAll_nil r2
        obtain rfl : args = #[v0, v1, v2] := by cases args; simp_all
        obtain ⟨n0, wd0, gp0, t0, sh0, bw0, rfl⟩ := open_blind (hval 0 46 v0 rfl rfl) h0
        obtain ⟨a1, rfl, rfl, rfl, w1⟩ := open_int Try.underlying2 (hval 1 2 v1 rfl rfl) h1
        obtain ⟨zs2, hz2, zw2⟩ := open_floatS (hval 2 61 v2 rfl rfl) h2
        exact lawLeastAnger_walk n0 wd0 gp0 t0 sh0 bw0 a1 v2 zs2 zw2 W hz2))
#print axioms FnExactLeastAnger_holds

end Go.Proofs.Ytelgcggcmjdhjaa
