/-
  Structs of one-cell fields, taken by value: what they hold. Nothing of the program is named.

-/
import Derived.Lib.SmallJoins
import Derived.WalkKit

namespace Go.Proofs.Ytmbgmpeiicjlaaa

open Go Go.Joins Go.ChangeShapes Go.WideShapes Go.RowKit Go.Deep

theorem run_store_f (P : Program) (w : World) (a : Addr) (k : FloatKind) (b : Nat) (m : Mode) : (store a (.float k b) m).run P w = stored P w a (.float k b) m := run_store P w a _ m rfl

section

variable {H : Type} {enc : TypeId × Value → H} {P : Program} {w : World} {base : Nat} {spare : Nat → Bool} {held : Bool}

theorem trod_f {fuel : Nat} {cs : List Value} {x : DataW H × List MemPlace} {t : TypeId} {k : FloatKind} (ht : P.underlying t = some (.float k)) (h : DataW.trod enc P w base spare held fuel t cs = some x) :
    ∃ b, cs = [.float k b] ∧ (Lit.float k b).wf = true := by
  cases fuel with
  | zero => simp [DataW.trod] at h
  | succ n =>
    unfold DataW.trod at h
    rw [ht] at h
    split at h <;> simp_all

end

end Go.Proofs.Ytmbgmpeiicjlaaa
