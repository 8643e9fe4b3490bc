/-
  Votes as numbers: their sum, their mean. Nothing of the program is named.

-/
import Derived.Test.YtmbgmpeiicjlaaaLit
import Derived.Test.YtmbgmpeiicjlaaaBlkRun
import Derived.Test.YtmbgmpeiicjlaaaMul

namespace Go.Proofs.Ytmbgmpeiicjlaaa

open Go

/-- Votes are from 1 to 12, all of them parts. -/
def okVs (zs : List Nat) : Bool := decide (1 ≤ zs.length) && decide (zs.length ≤ 12) && zs.all partB

theorem okVs_get {zs : List Nat} (hw : ∀ z ∈ zs, (Lit.float .f32 z).wf = true) (h : okVs zs = true) : 1 ≤ zs.length ∧ zs.length ≤ 12 ∧ ∀ z ∈ zs, PartOk z := by
  simp only [okVs, Bool.and_eq_true, decide_eq_true_eq] at h
  exact ⟨h.1.1, h.1.2, fun z hz => part_get (hw z hz) (List.all_eq_true.1 h.2 z hz)⟩

end Go.Proofs.Ytmbgmpeiicjlaaa
