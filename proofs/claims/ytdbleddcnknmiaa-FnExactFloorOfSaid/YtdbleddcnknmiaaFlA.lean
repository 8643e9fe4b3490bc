/-
  Lists of numbers of single precision that came in: how they are opened, and how the laws' helpers copy and compare them.
-/
import Derived.Test.YtdbleddcnknmiaaGenL
import Derived.Test.YtdbleddcnknmiaaSameN
import Derived.Test.YtdbleddcnknmiaaRows
import Derived.Test.YtdbleddcnknmiaaLaw
import Derived.Deep.Slices
import Derived.Deep.OwnRows
namespace Go.Proofs.Ytdbleddcnknmiaa
open Go.ChangeShapes Go.WideShapes Go.ChangeAt Go.RowKit Go.Deep Go.Joins

attribute [local go_sem] run_store_f

def FloatsAt (W : World) (v : Value) (zs : List Nat) : Prop :=
  ∃ a cap, v = .slice a zs.length cap ∧ zs.length ≤ cap ∧ cap ≤ maxLen ∧ ∀ i x, zs[i]? = some x → ∃ g o, a = some ⟨g, o, none⟩ ∧ W.cell? ⟨g, o + i, none⟩ = some (.float .f32 x)

theorem floats_below {W W' : World} {v : Value} {zs : List Nat} (h : FloatsAt W v zs) (hb : Below W.heap.size W W') : FloatsAt W' v zs := by
  obtain ⟨a, cap, h1, h2, h3, h4⟩ := h
  refine ⟨a, cap, h1, h2, h3, fun i x hx => ?_⟩
  obtain ⟨g, o, e, c0⟩ := h4 i x hx
  exact ⟨g, o, e, cell_below hb c0⟩

theorem floats_belowB {B : Nat} {W W' : World} {v : Value} {zs : List Nat} (h : FloatsAt W v zs) (hb : Below B W W') (hB : W.heap.size ≤ B) : FloatsAt W' v zs := floats_below h (hb.mono hB)

theorem float_at {W : World} {a : Option Addr} {n cap : Nat} {zs : List Nat} (h : FloatsAt W (.slice a n cap) zs) {k : Nat} {x : Nat} (hx : zs[k]? = some x) :
    ∃ g o, a = some ⟨g, o, none⟩ ∧ W.cell? ⟨g, o + k, none⟩ = some (.float .f32 x) := by
  obtain ⟨a', cap', e, _, _, h4⟩ := h
  injection e with e1 e2 e3
  subst e1
  exact h4 k x hx

theorem info_f32 : (Try.prog.info? 29).map (fun i => (i.zero, i.size, i.bytes)) = some (some (.float .f32 0), 1, 4) := by kernel_rfl

end Go.Proofs.Ytdbleddcnknmiaa
