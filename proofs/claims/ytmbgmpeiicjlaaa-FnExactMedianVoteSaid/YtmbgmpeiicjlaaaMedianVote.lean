/-
  For every list of votes, valid or not: the middle one of them is what the model says, and the list is as it was. No conditions.

-/
import Derived.Test.YtmbgmpeiicjlaaaMvT
import Derived.Test.YtmbgmpeiicjlaaaMvN

namespace Go.Proofs.Ytmbgmpeiicjlaaa

open Go.ChangeShapes Go.WideShapes Go.ChangeAt Go.RowKit Go.Deep Go.Joins

set_option maxRecDepth 100000 in
set_option maxHeartbeats 4000000 in
theorem lawMedianVote_core (sv : Value) (zs : List Nat) (v : Nat) (c : Int) (hv : fin32 v = true) (w : World) (hzs : FloatsAt w sv zs)
    (hspec : ∀ w u, FloatsAt w u zs → Calls Try.prog 4 #[u] w fun e w' => e = .returned (.tuple #[.float .f32 v, .int .i64 c]) ∧ Below w.heap.size w w')
    (himpl : ∀ w u, FloatsAt w u zs → Calls Try.prog 6 #[u] w fun e w' => e = .returned (.tuple #[.float .f32 v, .int .i64 c]) ∧ Below w.heap.size w w') :
    Calls Try.prog 3 #[sv] w fun e w' => e = .returned (.bool true) ∧ Below w.heap.size w w' := by
  have HS := Lib.hid hspec
  have HI := Lib.hid himpl
  have HA := Lib.hid hzs
  have hw0 := run_wide _ hv
  have Hv0 := Lib.hid hv
  have hb : Below w.heap.size w w := Below.refl _ _
  have zc : (c != c) = false := by simp
  clear hspec himpl hv
  by_cases hlen : zs.length ≤ 1048576
  · have zl : ((zs.length : Nat) : Int) ≤ 1048576 := by omega
    have esv : ∃ a cap, sv = .slice a zs.length cap := by obtain ⟨a, cap, e, _⟩ := hzs; exact ⟨a, cap, e⟩
    clear hzs
    obtain ⟨a0, cap0, esv⟩ := esv
    have HL := Lib.hid (show ∀ W : World, FloatsAt W sv zs → FloatsAt W sv zs from fun _ h => h)
    subst esv
    go_enter Try.func3, Try.ntmps3
    go_upto_region 4 with (first | (go_at_call 5; refine (toFloat32S_any _ zs hlen _ HA.out).mono ?_; rintro e W0 ⟨⟨v0, rfl, hv⟩, hb1⟩; have HV0 := Lib.hid hv; clear hv; replace HA := Lib.hid (floats_below HA.out hb1); replace hb := hb.trans (hb1.mono hb.size); clear hb1) | (go_at_call 4; refine (HS.out _ _ HV0.out).mono ?_; rintro e W2 ⟨rfl, hb1⟩; replace HA := Lib.hid (floats_below HA.out hb1); replace hb := hb.trans (hb1.mono hb.size); clear hb1))
    clear HV0
    go_upto_region 5 with (go_at_call 5; refine (toFloat32S_any _ zs hlen _ HA.out).mono ?_; rintro e W1 ⟨⟨v1, rfl, hv⟩, hb1⟩; have HV1 := Lib.hid hv; clear hv; replace HA := Lib.hid (floats_below HA.out hb1); replace hb := hb.trans (hb1.mono hb.size); clear hb1)
    go_upto_region 6 with (go_at_call 6; refine (HI.out _ _ HV1.out).mono ?_; rintro e W4 ⟨rfl, hb1⟩; replace HA := Lib.hid (floats_below HA.out hb1); replace HV1 := Lib.hid (floats_below HV1.out hb1); replace hb := hb.trans (hb1.mono hb.size); clear hb1)
    go_wp2_with (first | (go_at_call 7; refine (same_wide _ Hv0.out _).mono ?_; rintro e u1 ⟨rfl, rfl⟩) | (go_at_call 5; refine (toFloat32S_any _ zs hlen _ HA.out).mono ?_; rintro e W5 ⟨⟨v5, rfl, hv⟩, hb1⟩; have HV5 := Lib.hid hv; clear hv; replace HA := Lib.hid (floats_below HA.out hb1); replace HV1 := Lib.hid (floats_below HV1.out hb1); replace hb := hb.trans (hb1.mono hb.size); clear hb1) | (go_at_call 8; refine (eqFloat32S_any _ _ zs _ HV1.out HV5.out).mono ?_; rintro e W6 ⟨rfl, hb1⟩; replace hb := hb.trans (hb1.mono hb.size); clear hb1))
    go_ret
    exact ⟨rfl, hb⟩
  · have zl : (1048576 : Int) < ((zs.length : Nat) : Int) := by omega
    obtain ⟨a0, cap0, esv, _⟩ := hzs
    subst esv
    clear HS HI HA
    go_enter Try.func3, Try.ntmps3
    go_wp2
    go_ret
    exact ⟨rfl, hb⟩

theorem pureB {fn : Nat} {args : Array Value} {w : World} {v : Value} (h : Calls Try.prog fn args w fun e w' => e = .returned v ∧ w = w') : Calls Try.prog fn args w fun e w' => e = .returned v ∧ Below w.heap.size w w' := by
  refine h.mono ?_
  rintro e w' ⟨rfl, rfl⟩
  exact ⟨rfl, Below.refl _ _⟩

theorem lawMedianVote_walk (sv : Value) (zs : List Nat) (hwf : ∀ z ∈ zs, (Lit.float .f32 z).wf = true) (w : World) (hzs : FloatsAt w sv zs) :
    Calls Try.prog 3 #[sv] w fun e w' => e = .returned (.bool true) ∧ Below w.heap.size w w' := by
  cases hok : okVs zs with
  | true =>
    obtain ⟨h1, h12, hp⟩ := okVs_get hwf hok
    have hq : ∀ z ∈ sortV zs, PlnV z := fun z hz => part_pln (hp z ((fold_mem mvLt z zs [] hz).resolve_left (fun h => by cases h)))
    exact lawMedianVote_core sv zs (middS (sortV zs)) 0 (num_fin (num_of_isNum (midd_num hq (by rw [sortV_len]; exact h1)))) w hzs (fun w u hu => sMedianVote_yes u zs hwf w hu hok) (fun w u hu => iMedianVote_yes u zs hwf w hu hok)
  | false => exact lawMedianVote_core sv zs 0 2 zero_fin w hzs (fun w u hu => pureB (sMedianVote_no u zs w hu hok)) (fun w u hu => pureB (iMedianVote_no u zs w hu hok))

set_option maxRecDepth 100000 in
theorem FnExactMedianVote_holds : Rows.FnExactMedianVoteSaid :=
  OpenClaim.holds_of_wide 3 Try.f3 rfl rfl rfl rfl rfl rfl rfl ⟨rfl, rfl, rfl, rfl, rfl⟩ rfl rfl rfl rfl rfl (by kernel_rfl) Try.func3 (by kernel_rfl)
    (of_decide_eq_true (by kernel_rfl)) (by unfold Func.isWrapper; first | (rw [if_pos (by decide +kernel)]; kernel_rfl) | (rw [if_neg (by decide +kernel)]; exact ⟨rfl, rfl⟩))
    (fun os started H enc _ => law_lifted 3 Try.f3 Rows.fnExactMedianVoteSpec Rows.fnExactMedianVoteRow.domain os started H enc (by kernel_rfl) Try.func3 rfl rfl
      (by rw [Try.params3]; intro t ht; simp only [List.mem_cons, List.not_mem_nil, or_false] at ht; subst ht <;> exact ⟨by kernel_rfl, of_decide_eq_true (by kernel_rfl)⟩)
      (fun ds hl => by
        match ds, hl with
        | [d0], _ => rfl)
      (ChangeSpec.witness6 (enc := enc) (C := Try.checked) false ⟨#[], #[.slice none 0 0], []⟩ 8 (by kernel_rfl) (by kernel_rfl) (by kernel_rfl) (by kernel_rfl))
      (fun W base args ds p hval hA => by
        rw [Try.params3] at hA hval
        obtain ⟨v0, vs0, d0, ds0, p0, q0, hargs, rfl, rfl, h0, r0⟩ := trodAll_cons hA
        obtain ⟨rfl, rfl, rfl⟩ := trodAll_nil r0
        obtain rfl : args = #[v0] := by cases args; simp_all
        obtain ⟨zs0, hz0, zw0⟩ := open_floatS (hval 0 22 v0 rfl rfl) h0
        exact lawMedianVote_walk v0 zs0 zw0 W hz0))

#print axioms FnExactMedianVote_holds

end Go.Proofs.Ytmbgmpeiicjlaaa
