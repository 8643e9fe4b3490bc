/-
  Blocks that lie behind the entry of a function.

-/
import Derived.Test.YtmbgmpeiicjlaaaRow

namespace Go.Proofs.Ytmbgmpeiicjlaaa

open Go Go.RowKit

theorem cell_belowB {W W' : World} (hb : Below W.heap.size W W') {a : Addr} {v : Value} (h : W.cell? a = some v) : W'.cell? a = some v :=
  (hb.cell (World.block_lt_of_cell? W a h)).trans h

end Go.Proofs.Ytmbgmpeiicjlaaa
