/-
  A list of whole numbers that came in: how such an argument is opened.
-/
import Derived.Test.YtelgcggcmjdhjabGenL
import Derived.Test.YtelgcggcmjdhjabLaw
import Derived.Deep.Slices
import Derived.ChangeSlices
import Derived.ChangeShapes
import Derived.ChangeSame
import Derived.WalkSpells
namespace Go.Proofs.Ytelgcggcmjdhjab
open Go.ChangeShapes Go.WideShapes Go.ChangeAt Go.RowKit

/-- The numbers that a slice holds. -/
def IntsAt (W : World) (v : Value) (zs : List Int) : Prop :=
  ∃ a cap, v = .slice a zs.length cap ∧ zs.length ≤ cap ∧ cap ≤ maxLen ∧ ∀ i x, zs[i]? = some x → ∃ g o, a = some ⟨g, o, none⟩ ∧ W.cell? ⟨g, o + i, none⟩ = some (.int .i64 x)

theorem ints_below {W W' : World} {v : Value} {zs : List Int} (h : IntsAt W v zs) (hb : Below W.heap.size W W') : IntsAt W' v zs := by
  obtain ⟨a, cap, h1, h2, h3, h4⟩ := h
  refine ⟨a, cap, h1, h2, h3, fun i x hx => ?_⟩
  obtain ⟨g, o, e, c0⟩ := h4 i x hx
  exact ⟨g, o, e, (hb.cell (World.block_lt_of_cell? W _ c0)).trans c0⟩

set_option maxRecDepth 100000 in
theorem open_intS {H : Type} {enc : TypeId × Value → H} {W : World} {b0 base : Nat} {spare : Nat → Bool} {held : Bool} {r : Reach} {v : Value} {d : DataW H} {p : List MemPlace}
    (hv : Value.okWide Try.prog W r b0 52 v) (h : DataW.Trod enc Try.prog W base spare held 52 v d p) : ∃ zs, IntsAt W v zs ∧ ∀ z ∈ zs, (Lit.int .i64 z).wf = true := by
  obtain ⟨a0, len0, cap0, rfl⟩ := okWide_slice Try.underlying52 hv
  obtain ⟨fuel, hf⟩ := h
  rcases open_ints Try.underlying52 Try.underlying2 (by kernel_rfl) hf with ⟨hcs, _⟩ | ⟨a, len, cap, zs, hcs, _, hl, hm, hz, _, hcell, hwz⟩
  · simp [Value.cells] at hcs
    obtain ⟨rfl, rfl, rfl⟩ := hcs
    exact ⟨[], ⟨none, 0, rfl, Nat.le_refl _, by unfold maxLen; omega, fun i x hx => by simp at hx⟩, fun x hx => by cases hx⟩
  · simp [Value.cells] at hcs
    obtain ⟨rfl, rfl, rfl⟩ := hcs
    have hlz : len0 ≤ zs.length := by rw [hz]; split <;> omega
    have hlt : (zs.take len0).length = len0 := by simp; omega
    refine ⟨zs.take len0, ⟨some a, cap0, by rw [hlt], by omega, hm, fun i x hx => ?_⟩, fun x hx => hwz x (List.mem_of_mem_take hx)⟩
    have hi : i < len0 := by
      have := (List.getElem?_eq_some_iff.1 hx).1
      omega
    rw [List.getElem?_take_of_lt hi] at hx
    have hc := hcell i (by omega)
    have hx' : zs.getD i 0 = x := by simp [List.getD, hx]
    rw [hx'] at hc
    have hsp : a.spot = none := by
      have := World.cell?_spot (hcell 0 (by omega))
      simpa [Addr.add] using this
    obtain ⟨g, o, spot⟩ := a
    obtain rfl : spot = none := hsp
    rw [addr_add] at hc
    exact ⟨g, o, rfl, hc⟩

end Go.Proofs.Ytelgcggcmjdhjab
