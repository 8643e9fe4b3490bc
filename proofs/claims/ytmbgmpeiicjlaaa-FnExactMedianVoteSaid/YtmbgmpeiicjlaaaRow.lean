/-
  Laws for reading and writing a part of a block: a field that is an array, an array as a whole. No program is named.

-/
import Derived.Laws.Rows
import Derived.Laws.CopyRow
import Derived.WalkKit

namespace Go.Proofs.Ytmbgmpeiicjlaaa

open Go Go.RowKit

section

variable {P : Program}

theorem addr_add (g o i : Nat) : (⟨g, o, none⟩ : Addr).add i = ⟨g, o + i, none⟩ := by
  unfold Addr.add; split <;> simp_all

theorem row_lt {W : World} {g : Nat} {o : Obj} (hg : W.heap[g]? = some o) : g < W.heap.size := (Array.getElem?_eq_some_iff.1 hg).1

end

end Go.Proofs.Ytmbgmpeiicjlaaa
