/-
  A store into a map of which only the kind of its keys is known. No program is named.
-/
import Derived.Test.YtdccmdcgbembpaaMapOp
namespace Go.Proofs.Ytdccmdcgbembpaa
open Go Go.RowKit Go.ChangeMaps Go.MapKept
open Go.Maps (Keyed)

section
variable {P : Program}

theorem mem_modify {es : Array MapEntry} {j : Nat} {f : MapEntry → MapEntry} {y : MapEntry} (h : y ∈ (es.modify j f).toList) : y ∈ es.toList ∨ ∃ z ∈ es.toList, y = f z := by
  obtain ⟨i, hi⟩ := List.mem_iff_getElem?.1 h
  rw [Array.getElem?_toList, Array.getElem?_modify] at hi
  by_cases e : j = i
  · rw [if_pos e] at hi
    cases hz : es[i]? with
    | none => rw [hz] at hi; cases hi
    | some z =>
      rw [hz] at hi
      refine .inr ⟨z, List.mem_iff_getElem?.2 ⟨i, by rw [Array.getElem?_toList]; exact hz⟩, ?_⟩
      simpa using hi.symm
  · rw [if_neg e] at hi
    exact .inl (List.mem_iff_getElem?.2 ⟨i, by rw [Array.getElem?_toList]; exact hi⟩)

/-- Whatever a map holds, a store into it goes through, and its keys stay of their kind. -/
theorem update_any {w : World} {t k e : TypeId} (K : Keyed P k) (ht : P.underlying t = some (.map k e)) {b : Nat} {es : Array MapEntry} {clock : Nat} (hb : w.heap[b]? = some (.map es clock))
    {key : Value} (val : Value) (hkey : ∃ l, keyOf P k key = some l) (hes : ∀ y ∈ es.toList, ∃ l, keyOf P k y.key = some l) :
    ∃ es' clock', (Instr.mapUpdate t (.map (some b)) key val).run P w = .ok () (setBlock w b (.map es' clock')) ∧ ∀ y ∈ es'.toList, ∃ l, keyOf P k y.key = some l := by
  obtain ⟨kl, hkey⟩ := hkey
  rcases K.find w hkey es.toList hes with ⟨h1, _⟩ | ⟨j, e0, h1, h2, h3⟩
  · refine ⟨es.push { key, val, born := clock }, clock + 1, ?_, ?_⟩
    · simp [Instr.mapUpdate, run_underlying ht, MapKept.run_getObj_map hb, K.check w false hkey, h1, MapKept.run_setObj_map _ hb, Result.andThen, setBlock]
    · intro y hy
      rw [Array.toList_push, List.mem_append] at hy
      rcases hy with hy | hy
      · exact hes y hy
      · simp only [List.mem_singleton] at hy
        subst hy
        exact ⟨kl, hkey⟩
  · have hj : es[j]? = some e0 := by rw [← Array.getElem?_toList]; exact h2
    have hk : ((es[j]?).map (·.key)).getD key = key := by rw [hj]; simpa using h3
    refine ⟨es.modify j (fun e => { e with key, val }), clock, ?_, ?_⟩
    · simp [Instr.mapUpdate, run_underlying ht, MapKept.run_getObj_map hb, K.check w false hkey, h1, hk, K.stays w hkey, MapKept.run_setObj_map _ hb, Result.andThen, setBlock]
    · intro y hy
      rcases mem_modify hy with hy | ⟨z, _, rfl⟩
      · exact hes y hy
      · exact ⟨kl, hkey⟩
end

end Go.Proofs.Ytdccmdcgbembpaa
