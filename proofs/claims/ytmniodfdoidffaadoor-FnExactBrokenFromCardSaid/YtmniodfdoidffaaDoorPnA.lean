/-
  Plans: 24 numbers of 16 bits; their copies, their equality, and those that come in as arguments.
-/
import Derived.Test.YtmniodfdoidffaaDoorSun
import Derived.Test.YtmniodfdoidffaaDoorOpen
import Derived.Test.YtmniodfdoidffaaDoorEq
namespace Go.Proofs.YtmniodfdoidffaaDoor
open Go.ChangeShapes Go.WideShapes Go.ChangeAt Go.RowKit

theorem okWide_array {P : Program} {w : World} {base : Nat} {t e : TypeId} {n : Nat} {r : Reach} {v : Value} (ht : P.underlying t = some (.array n e)) (h : Value.okWide P w r base t v) : ∃ cs, v = .agg cs ∧ cs.size = P.cellsOf t := by
  simp only [Value.okWide, ht] at h
  obtain ⟨cs, h1, h2, _⟩ := h
  exact ⟨cs, h1, h2⟩

set_option maxRecDepth 100000 in
theorem open_plan {H : Type} {enc : TypeId × Value → H} {W : World} {b0 base : Nat} {spare : Nat → Bool} {held : Bool} {r : Reach} {v : Value} {d : DataW H} {p : List MemPlace}
    (hv : Value.okWide Tryd.prog W r b0 124 v) (h : DataW.Trod enc Tryd.prog W base spare held 124 v d p) :
    ∃ xs : List Int, xs.length = 24 ∧ (∀ x ∈ xs, -32768 ≤ x ∧ x ≤ 32767) ∧ v = .agg (i16s xs) := by
  obtain ⟨cs, rfl, hsz⟩ := okWide_array Tryd.underlying124 hv
  rw [cells_arr] at hsz
  obtain ⟨fuel, hf⟩ := h
  have hall : ∀ i, i < 24 → ∃ n, cs.toList[i]? = some (.int .i16 n) ∧ -32768 ≤ n ∧ n ≤ 32767 := open_arr hf
  have hlen : cs.toList.length = 24 := by simpa using hsz
  refine ⟨cs.toList.map rd16, by simpa using hlen, ?_, ?_⟩
  · intro x hx
    obtain ⟨i, hi, rfl⟩ := List.mem_iff_getElem.1 hx
    simp only [List.length_map] at hi
    obtain ⟨n, hn, hb⟩ := hall i (by omega)
    rw [List.getElem?_eq_getElem hi] at hn
    simp only [List.getElem_map]
    have : cs.toList[i] = .int .i16 n := by injection hn
    rw [this]; exact hb
  · congr 1
    apply Array.ext'
    simp only [i16s, List.map_map]
    apply List.ext_getElem?
    intro i
    by_cases c : i < 24
    · obtain ⟨n, hn, _⟩ := hall i c
      rw [hn, List.getElem?_map, hn]; rfl
    · rw [List.getElem?_eq_none (by omega), List.getElem?_eq_none (by simp; omega)]

end Go.Proofs.YtmniodfdoidffaaDoor
