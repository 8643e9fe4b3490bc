/-
  Structs of one-cell fields, taken by value: what they hold. Nothing of the program is named.

-/
import Derived.Lib.SmallJoins
import Derived.WalkKit

namespace Go.Proofs.YtddnfbpgldchcaaGreatDoor

open Go Go.Joins Go.ChangeShapes Go.WideShapes Go.RowKit Go.Deep

theorem run_store_f (P : Program) (w : World) (a : Addr) (k : FloatKind) (b : Nat) (m : Mode) : (store a (.float k b) m).run P w = stored P w a (.float k b) m := run_store P w a _ m rfl

theorem abs_world {P : Program} {c : Code} {Q : Exit → Act → World → Prop} {a : Act} {w : World} (R : World → Prop) (hw : R w) (h : ∀ W, R W → Code.wp P c Q a W) : Code.wp P c Q a w := h w hw

section

variable {H : Type} {enc : TypeId × Value → H} {P : Program} {w : World} {base : Nat} {spare : Nat → Bool} {held : Bool}

end

end Go.Proofs.YtddnfbpgldchcaaGreatDoor
