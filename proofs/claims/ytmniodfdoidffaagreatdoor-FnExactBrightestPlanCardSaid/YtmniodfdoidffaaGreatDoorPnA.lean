/-
  Plans: 24 numbers of 16 bits; their copies, their equality, and those that come in as arguments.
-/
import Derived.Test.YtmniodfdoidffaaGreatDoorSun
import Derived.Test.YtmniodfdoidffaaGreatDoorOpen
import Derived.Test.YtmniodfdoidffaaGreatDoorEq
namespace Go.Proofs.YtmniodfdoidffaaGreatDoor
open Go.ChangeShapes Go.WideShapes Go.ChangeAt Go.RowKit

set_option maxRecDepth 100000 in
theorem info_plan : (Tryz.prog.info? 30).map (·.size) = some 24 := by kernel_rfl

theorem okWide_array {P : Program} {w : World} {base : Nat} {t e : TypeId} {n : Nat} {r : Reach} {v : Value} (ht : P.underlying t = some (.array n e)) (h : Value.okWide P w r base t v) : ∃ cs, v = .agg cs ∧ cs.size = P.cellsOf t := by
  simp only [Value.okWide, ht] at h
  obtain ⟨cs, h1, h2, _⟩ := h
  exact ⟨cs, h1, h2⟩

set_option maxRecDepth 100000 in
theorem open_plan {H : Type} {enc : TypeId × Value → H} {W : World} {b0 base : Nat} {spare : Nat → Bool} {held : Bool} {r : Reach} {v : Value} {d : DataW H} {p : List MemPlace}
    (hv : Value.okWide Tryz.prog W r b0 27 v) (h : DataW.Trod enc Tryz.prog W base spare held 27 v d p) :
    ∃ xs : List Int, xs.length = 24 ∧ (∀ x ∈ xs, -32768 ≤ x ∧ x ≤ 32767) ∧ v = .agg (i16s xs) := by
  obtain ⟨cs, rfl, hsz⟩ := okWide_array Tryz.underlying27 hv
  rw [cells_arr] at hsz
  obtain ⟨fuel, hf⟩ := h
  have hall : ∀ i, i < 24 → ∃ n, cs.toList[i]? = some (.int .i16 n) ∧ -32768 ≤ n ∧ n ≤ 32767 := open_arr hf
  have hlen : cs.toList.length = 24 := by simpa using hsz
  refine ⟨cs.toList.map rd16, by simpa using hlen, ?_, ?_⟩
  · intro x hx
    obtain ⟨i, hi, rfl⟩ := List.mem_iff_getElem.1 hx
    simp only [List.length_map] at hi
    obtain ⟨n, hn, hb⟩ := hall i (by omega)
    rw [List.getElem?_eq_getElem hi] at hn
    simp only [List.getElem_map]
    have : cs.toList[i] = .int .i16 n := by injection hn
    rw [this]; exact hb
  · congr 1
    apply Array.ext'
    simp only [i16s, List.map_map]
    apply List.ext_getElem?
    intro i
    by_cases c : i < 24
    · obtain ⟨n, hn, _⟩ := hall i c
      rw [hn, List.getElem?_map, hn]; rfl
    · rw [List.getElem?_eq_none (by omega), List.getElem?_eq_none (by simp; omega)]

set_option maxRecDepth 100000 in
theorem run_eql_plan (xs ys : List Int) (hx : xs.length = 24) (hy : ys.length = 24) (w : World) :
    (Op.equalIn 10000 30 (.agg (i16s xs)) (.agg (i16s ys))).run Tryz.prog w = .ok (xs == ys) w := by
  have hl := eq_loop 9998 xs ys w (List.range' 0 24) (fun i hi => by simp [List.mem_range'] at hi; omega)
  rw [all_eq xs ys 24 hx hy] at hl
  rw [Op.equalIn.eq_def]
  simp only [Sem.run_bind, run_underlying Tryz.underlying30, Result.andThen_ok, size_i16]
  rw [Std.Legacy.Range.forIn_eq_forIn_range']
  have e : (Std.Legacy.Range.mk 0 24 1 (by decide)).size = 24 := by decide
  simp only [e]
  erw [hl]
  cases xs == ys <;> rfl

end Go.Proofs.YtmniodfdoidffaaGreatDoor
