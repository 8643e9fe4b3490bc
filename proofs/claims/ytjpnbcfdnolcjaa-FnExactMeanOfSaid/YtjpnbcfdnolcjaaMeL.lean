/-
  The mean of a list: the program and the model.
-/
import Derived.Test.YtjpnbcfdnolcjaaAdL
namespace Go.Proofs.Ytjpnbcfdnolcjaa
open Go.ChangeShapes Go.WideShapes Go.ChangeAt Go.RowKit Go.Deep Go.Joins

attribute [local go_sem] run_store_f

set_option maxRecDepth 100000 in
set_option maxHeartbeats 1000000 in
theorem iMeanOf_no (sv : Value) (zs : List Nat) (c : Int) (hcd : codeLs zs 1 = c) (hne : c ≠ 0) (w : World) (hz : FloatsAt w sv zs) :
    Calls Try.prog 31 #[sv] w fun e w' => e = .returned (.tuple #[.float .f32 0, .int .i64 c]) ∧ w = w' := by
  have HC := Lib.hid (checkSome_any sv zs w hz)
  rw [hcd] at HC
  have z0 : (c == 0) = false := beq_eq_false_iff_ne.2 hne
  have z1 : (c != 0) = true := bne_iff_ne.2 hne
  clear hcd hz
  go_enter Try.func31, Try.ntmps31
  go_wp2_with (go_at_call 63; refine HC.out.mono ?_; rintro e w' ⟨rfl, rfl⟩)
  go_ret2
  exact ⟨rfl, rfl⟩
set_option maxRecDepth 100000 in
set_option maxHeartbeats 1000000 in
theorem iMeanOf_yes (sv : Value) (zs : List Nat) (hcd : codeLs zs 1 = 0) (hwf : ∀ z ∈ zs, (Lit.float .f32 z).wf = true) (w : World) (hz : FloatsAt w sv zs) :
    Calls Try.prog 31 #[sv] w fun e w' => e = .returned (.tuple #[.float .f32 (meanS zs), .int .i64 0]) ∧ w = w' := by
  have HC := Lib.hid (checkSome_any sv zs w hz)
  obtain ⟨h1, h48, hq⟩ := codeLs_zero hwf hcd
  rw [hcd] at HC
  have HV := Lib.hid (meanOf_any sv zs hq h1 h48 w hz)
  clear hcd hz hq hwf
  go_enter Try.func31, Try.ntmps31
  go_wp2_with (first | (go_at_call 63; refine HC.out.mono ?_; rintro e w' ⟨rfl, rfl⟩) | (go_at_call 64; refine HV.out.mono ?_; rintro e w' ⟨rfl, rfl⟩))
  go_ret2
  exact ⟨rfl, rfl⟩
set_option maxRecDepth 100000 in
set_option maxHeartbeats 1000000 in
theorem sMeanOf_no (sv : Value) (zs : List Nat) (c : Int) (hcd : codeLs zs 1 = c) (hne : c ≠ 0) (w : World) (hz : FloatsAt w sv zs) :
    Calls Try.prog 30 #[sv] w fun e w' => e = .returned (.tuple #[.float .f32 0, .int .i64 c]) ∧ w = w' := by
  have HC := Lib.hid ((fun sv zs w hz => l06Code_any sv zs 1 w hz) sv zs w hz)
  rw [hcd] at HC
  have z0 : (c == 0) = false := beq_eq_false_iff_ne.2 hne
  have z1 : (c != 0) = true := bne_iff_ne.2 hne
  clear hcd hz
  go_enter Try.func30, Try.ntmps30
  go_wp2_with (go_at_call 61; refine HC.out.mono ?_; rintro e w' ⟨rfl, rfl⟩)
  go_ret2
  exact ⟨rfl, rfl⟩
set_option maxRecDepth 100000 in
set_option maxHeartbeats 1000000 in
theorem sMeanOf_yes (sv : Value) (zs : List Nat) (hcd : codeLs zs 1 = 0) (hwf : ∀ z ∈ zs, (Lit.float .f32 z).wf = true) (w : World) (hz : FloatsAt w sv zs) :
    Calls Try.prog 30 #[sv] w fun e w' => e = .returned (.tuple #[.float .f32 (meanS zs), .int .i64 0]) ∧ w = w' := by
  have HC := Lib.hid ((fun sv zs w hz => l06Code_any sv zs 1 w hz) sv zs w hz)
  obtain ⟨h1, h48, hq⟩ := codeLs_zero hwf hcd
  rw [hcd] at HC
  have HV := Lib.hid (l06Mean_any sv zs hq h1 h48 w hz)
  clear hcd hz hq hwf
  go_enter Try.func30, Try.ntmps30
  go_wp2_with (first | (go_at_call 61; refine HC.out.mono ?_; rintro e w' ⟨rfl, rfl⟩) | (go_at_call 62; refine HV.out.mono ?_; rintro e w' ⟨rfl, rfl⟩))
  go_ret2
  exact ⟨rfl, rfl⟩

end Go.Proofs.Ytjpnbcfdnolcjaa
