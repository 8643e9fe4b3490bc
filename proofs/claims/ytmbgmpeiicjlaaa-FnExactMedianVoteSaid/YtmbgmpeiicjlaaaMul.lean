/-
  Products, sums and comparisons of numbers of single precision. Nothing of the program is named.

-/
import Derived.Test.YtmbgmpeiicjlaaaWide

namespace Go.Proofs.Ytmbgmpeiicjlaaa

open Go

def num32 (x : Nat) : Bool := match Ieee.single.read x with | .number .. => true | _ => false

theorem num32_get {x : Nat} (h : num32 x = true) : ∃ s m e, Ieee.single.read x = .number s m e := by
  unfold num32 at h
  cases hr : Ieee.single.read x with
  | number s m e => exact ⟨s, m, e, rfl⟩
  | infinity s => rw [hr] at h; cases h
  | nan s f => rw [hr] at h; cases h

theorem num_fin {x : Nat} (h : num32 x = true) : fin32 x = true := by
  obtain ⟨s, m, e, hr⟩ := num32_get h
  unfold fin32; rw [hr]; rfl

theorem zero_fin : fin32 0 = true := by decide

end Go.Proofs.Ytmbgmpeiicjlaaa
