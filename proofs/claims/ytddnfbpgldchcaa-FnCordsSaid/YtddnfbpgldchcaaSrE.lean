/-
  The source from which the laws draw: blinds.
-/
import Derived.Test.YtddnfbpgldchcaaSrD
import Derived.Test.YtddnfbpgldchcaaBlind
import Derived.Test.YtddnfbpgldchcaaNew
import Derived.Test.YtddnfbpgldchcaaDay
namespace Go.Proofs.Ytddnfbpgldchcaa
open Go.RowKit

attribute [local go_sem] run_store_float

theorem src_kept {V V' : World} {b n m : Nat} {v : Value} {row : Option Nat} (h : SrcAt V b v n m) (hg : V.grownBy V' row) (hr : ∀ g, row = some g → b < g) : SrcAt V' b v n m := by
  obtain ⟨hB, x, y, h0, h1, h2, h3, h4⟩ := h
  obtain ⟨a, cap, e1, e2, e3, e4⟩ := hB
  refine ⟨⟨a, cap, e1, e2, e3, fun i hi => ?_⟩, x, y, h0, h1, h2, h3, (hg.block b (row_lt h4) (fun e => by have := hr b e.symm; omega)).trans h4⟩
  obtain ⟨g, o, z, e, hgb, z0, z1, hc⟩ := e4 i hi
  have hlt := World.block_lt_of_cell? _ _ hc
  exact ⟨g, o, z, e, hgb, z0, z1, (World.cell?_of_block (hg.block g hlt (fun e => by have := hr g e.symm; omega))).trans hc⟩

theorem row_grown {V V' : World} {b g : Nat} {o : Obj} (h : V.heap[g]? = some o) (hg : V.grownBy V' (some b)) (hne : g ≠ b) : V'.heap[g]? = some o :=
  (hg.block g (row_lt h) (fun e => hne (by injection e))).trans h

theorem grown_wide {A B : World} {r : Option Nat} (h : A.grownBy B none) : A.grownBy B r := ⟨h.os, h.tape, h.output, h.size, fun k hk _ => h.block k hk (by simp)⟩

theorem grown_new {V W W' : World} {b : Nat} {r : Nat} (h : V.grownBy W (some b)) (k : W.grownBy W' (some r)) (hr : V.heap.size ≤ r) : V.grownBy W' (some b) :=
  ⟨k.os.trans h.os, k.tape.trans h.tape, k.output.trans h.output, Nat.le_trans h.size k.size, fun i hi hne => (k.block i (Nat.lt_of_lt_of_le hi h.size) (fun e => by injection e with e; omega)).trans (h.block i hi hne)⟩

theorem alloc_row {W : World} (o : Obj) (cs : Array Value) : W.grownBy ((W.alloc o).setRow W.heap.size cs) none := by
  have h : Below W.heap.size W ((W.alloc o).setRow W.heap.size cs) := below_setRow ((Below.refl _ _).alloc (Nat.le_refl _) _) (Nat.le_refl _) _
  exact ⟨h.os, h.tape, h.output, h.size, fun k hk _ => h.block k hk⟩

end Go.Proofs.Ytddnfbpgldchcaa
