/-
  A list in its order: the program and the model.
-/
import Derived.Test.YtjpnbcfdnolcjabSoS
namespace Go.Proofs.Ytjpnbcfdnolcjab
open Go.ChangeShapes Go.WideShapes Go.ChangeAt Go.RowKit Go.Deep Go.Joins

attribute [local go_sem] run_store_f

set_option maxRecDepth 100000 in
set_option maxHeartbeats 1000000 in
theorem iSortList_no (sv : Value) (zs : List Nat) (ho : okLs zs = false) (w : World) (hz : FloatsAt w sv zs) :
    Calls Try.prog 37 #[sv] w (RetF6 [] 1 w) := by
  have HV := Lib.hid (ValidList_any sv zs w hz)
  rw [ho] at HV
  clear ho hz
  go_enter Try.func37, Try.ntmps37
  go_wp2_with (go_at_call 53; refine HV.out.mono ?_; rintro e w' ⟨rfl, rfl⟩)
  go_ret2
  exact ⟨⟨_, rfl, own_noneF _ _⟩, Below.refl _ _⟩

set_option maxRecDepth 100000 in
set_option maxHeartbeats 1000000 in
theorem sSortList_no (sv : Value) (zs : List Nat) (ho : okLs zs = false) (w : World) (hz : FloatsAt w sv zs) :
    Calls Try.prog 36 #[sv] w (RetF6 [] 1 w) := by
  have HV := Lib.hid (l06Ok_any sv zs w hz)
  rw [ho] at HV
  clear ho hz
  go_enter Try.func36, Try.ntmps36
  go_wp2_with (go_at_call 49; refine HV.out.mono ?_; rintro e w' ⟨rfl, rfl⟩)
  go_ret2
  exact ⟨⟨_, rfl, own_base0 (World.ownsRow_made _ _ _ (Nat.le_refl _) (Nat.zero_le _) rfl)⟩, (Below.refl _ _).alloc (Nat.le_refl _) _⟩

set_option maxRecDepth 100000 in
set_option maxHeartbeats 1000000 in
theorem iSortList_yes (sv : Value) (zs : List Nat) (ho : okLs zs = true) (hwf : ∀ z ∈ zs, (Lit.float .f32 z).wf = true) (w : World) (hz : FloatsAt w sv zs) :
    Calls Try.prog 37 #[sv] w (RetF6 (sortS zs) 0 w) := by
  have HV := Lib.hid (ValidList_any sv zs w hz)
  obtain ⟨h48, hq⟩ := okLs_get hwf ho
  rw [ho] at HV
  have HS := Lib.hid (sortedList_any sv zs hq h48 w hz)
  clear ho hz hq hwf
  go_enter Try.func37, Try.ntmps37
  go_wp2_with (first | (go_at_call 53; refine HV.out.mono ?_; rintro e w' ⟨rfl, rfl⟩) | (go_at_call 65; refine HS.out.mono ?_; rintro e w1 ⟨v, rfl, hv, hb⟩; have HO := Lib.hid hv; clear hv))
  go_ret2
  exact ⟨⟨_, rfl, HO.out⟩, hb⟩

set_option maxRecDepth 100000 in
set_option maxHeartbeats 1000000 in
theorem sSortList_yes (sv : Value) (zs : List Nat) (ho : okLs zs = true) (hwf : ∀ z ∈ zs, (Lit.float .f32 z).wf = true) (w : World) (hz : FloatsAt w sv zs) :
    Calls Try.prog 36 #[sv] w (RetF6 (sortS zs) 0 w) := by
  have HV := Lib.hid (l06Ok_any sv zs w hz)
  obtain ⟨h48, hq⟩ := okLs_get hwf ho
  rw [ho] at HV
  have HS := Lib.hid (l06Sorted_any sv zs hq h48 w hz)
  clear ho hz hq hwf
  go_enter Try.func36, Try.ntmps36
  go_wp2_with (first | (go_at_call 49; refine HV.out.mono ?_; rintro e w' ⟨rfl, rfl⟩) | (go_at_call 64; refine HS.out.mono ?_; rintro e w1 ⟨v, rfl, hv, hb⟩; have HO := Lib.hid hv; clear hv))
  go_ret2
  exact ⟨⟨_, rfl, HO.out⟩, hb⟩

end Go.Proofs.Ytjpnbcfdnolcjab
