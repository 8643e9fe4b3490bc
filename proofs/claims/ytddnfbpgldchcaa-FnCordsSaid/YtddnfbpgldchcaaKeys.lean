/-
  Keys that lie in a list, and a map from them to numbers: what is known of both, entry by entry. No program is named.
-/
import Derived.Test.YtddnfbpgldchcaaMapOp
import Derived.Test.YtddnfbpgldchcaaNear
import Derived.Laws.AppendOwn
namespace Go.Proofs.Ytddnfbpgldchcaa
open Go Go.RowKit Go.ChangeMaps Go.MapKept
open Go.Maps (Keyed)

/-- The entries of a map from the first n keys to numbers. -/
def ents (n : Nat) (kc : Nat → Array Value) (val : Nat → Nat) : Array MapEntry := ((List.range n).map fun i => ({ key := .agg (kc i), val := .float .f32 (val i), born := i } : MapEntry)).toArray
theorem ents_zero (kc : Nat → Array Value) (val : Nat → Nat) : ents 0 kc val = #[] := rfl
theorem ents_push (n : Nat) (kc : Nat → Array Value) (val : Nat → Nat) : (ents n kc val).push { key := .agg (kc n), val := .float .f32 (val n), born := n } = ents (n + 1) kc val := by
  simp [ents, List.range_succ]
theorem mem_ents {n : Nat} {kc : Nat → Array Value} {val : Nat → Nat} {y : MapEntry} (h : y ∈ (ents n kc val).toList) : ∃ i, i < n ∧ y.key = .agg (kc i) ∧ y.val = .float .f32 (val i) := by
  simp only [ents, List.mem_map, List.mem_range] at h
  obtain ⟨i, hi, rfl⟩ := h
  exact ⟨i, hi, rfl, rfl⟩

/-- Keys that can be told apart. -/
structure KeysOk (P : Program) (k : TypeId) (N : Nat) (kc : Nat → Array Value) : Prop where
  key : ∀ i, i < N → ∃ l, keyOf P k (.agg (kc i)) = some l
  inj : ∀ i j, i < N → j < N → kc i = kc j → i = j

section
variable {P : Program}
theorem look_ents {w : World} {t k e : TypeId} (K : Keyed P k) (ht : P.underlying t = some (.map k e)) {z : Value} (hz : (zeroValue e).run P w = .ok z w) {N n b : Nat} {kc : Nat → Array Value} {val : Nat → Nat}
    (hb : w.heap[b]? = some (.map (ents n kc val) n)) (hk : KeysOk P k N kc) (hn : n ≤ N) (i : Nat) (hi : i < n) : (Instr.lookup t (.map (some b)) (.agg (kc i)) false).run P w = .ok (.float .f32 (val i)) w := by
  rcases run_lookup_cases K ht hb (hk.key i (by omega)) (fun y hy => by obtain ⟨j, hj, h1, _⟩ := mem_ents hy; rw [h1]; exact hk.key j (by omega)) hz false with ⟨e0, he, h1, h2⟩ | ⟨h1, _⟩
  · obtain ⟨j, hj, h3, h4⟩ := mem_ents he
    rw [h3] at h1
    obtain rfl := hk.inj j i (by omega) (by omega) (by simpa using h1)
    rw [h2, h4]; rfl
  · refine absurd rfl (h1 ({ key := .agg (kc i), val := .float .f32 (val i), born := i } : MapEntry) ?_)
    simp only [ents, List.mem_map, List.mem_range]
    exact ⟨i, hi, rfl⟩

theorem new_ents {w : World} {t k e : TypeId} (K : Keyed P k) (ht : P.underlying t = some (.map k e)) {N n b : Nat} {kc : Nat → Array Value} {val : Nat → Nat}
    (hb : w.heap[b]? = some (.map (ents n kc val) n)) (hk : KeysOk P k N kc) (hn : n < N) :
    (Instr.mapUpdate t (.map (some b)) (.agg (kc n)) (.float .f32 (val n))).run P w = .ok () (setBlock w b (.map (ents (n + 1) kc val) (n + 1))) := by
  obtain ⟨kl, hkey⟩ := hk.key n hn
  have hes : ∀ y ∈ (ents n kc val).toList, ∃ l, keyOf P k y.key = some l := fun y hy => by obtain ⟨j, hj, h1, _⟩ := mem_ents hy; rw [h1]; exact hk.key j (by omega)
  have h1 : (Instr.findKey k (.agg (kc n)) (ents n kc val).toList).run P w = .ok none w := by
    rcases K.find w hkey (ents n kc val).toList hes with ⟨h1, _⟩ | ⟨j, e0, _, h2, h3⟩
    · exact h1
    · obtain ⟨j', hj', h4, _⟩ := mem_ents (List.mem_of_getElem? h2)
      rw [h4] at h3
      have := hk.inj j' n (by omega) hn (by simpa using h3)
      omega
  rw [← ents_push]
  simp [Instr.mapUpdate, run_underlying ht, MapKept.run_getObj_map hb, K.check w false hkey, h1, MapKept.run_setObj_map _ hb, Result.andThen, setBlock]
end

section
variable {P : Program}
/-- What a key of three whole numbers reads as. -/
theorem keyOf_three {k : TypeId} {f0 f1 f2 : Field} {q0 q1 q2 : IntKind} {a b c : Int} (hu : P.underlying k = some (.struct #[f0, f1, f2])) (ht : P.keyType k = true) (hf : Value.formed P k (.agg #[.int q0 a, .int q1 b, .int q2 c]) = true)
    (hc : P.cellsOf k = 3) (o0 : f0.offset = 0) (o1 : f1.offset = 1) (o2 : f2.offset = 2) (u0 : P.underlying f0.type = some (.int q0)) (u1 : P.underlying f1.type = some (.int q1)) (u2 : P.underlying f2.type = some (.int q2))
    (c0 : P.cellsOf f0.type = 1) (c1 : P.cellsOf f1.type = 1) (c2 : P.cellsOf f2.type = 1) (n0 : f0.name ≠ "_") (n1 : f1.name ≠ "_") (n2 : f2.name ≠ "_")
    (w0 : (Lit.int q0 a).wf = true) (w1 : (Lit.int q1 b).wf = true) (w2 : (Lit.int q2 c).wf = true) (hs : 0 < P.types.size) : ∃ l, keyOf P k (.agg #[.int q0 a, .int q1 b, .int q2 c]) = some l := by
  obtain ⟨d, hd⟩ : ∃ d, P.types.size = d + 1 := ⟨P.types.size - 1, by omega⟩
  unfold keyOf
  rw [hu]
  simp [ht, hf, Value.cells, Program.keyLits, hd, hu, u0, u1, u2, hc, o0, o1, o2, c0, c1, c2, n0, n1, n2, w0, w1, w2]

/-- What a key of five whole numbers reads as. -/
theorem keyOf_five {k : TypeId} {f0 f1 f2 f3 f4 : Field} {q0 q1 q2 q3 q4 : IntKind} {a b c d e : Int} (hu : P.underlying k = some (.struct #[f0, f1, f2, f3, f4])) (ht : P.keyType k = true) (hf : Value.formed P k (.agg #[.int q0 a, .int q1 b, .int q2 c, .int q3 d, .int q4 e]) = true)
    (hc : P.cellsOf k = 5) (o0 : f0.offset = 0) (o1 : f1.offset = 1) (o2 : f2.offset = 2) (o3 : f3.offset = 3) (o4 : f4.offset = 4) (u0 : P.underlying f0.type = some (.int q0)) (u1 : P.underlying f1.type = some (.int q1)) (u2 : P.underlying f2.type = some (.int q2)) (u3 : P.underlying f3.type = some (.int q3)) (u4 : P.underlying f4.type = some (.int q4))
    (c0 : P.cellsOf f0.type = 1) (c1 : P.cellsOf f1.type = 1) (c2 : P.cellsOf f2.type = 1) (c3 : P.cellsOf f3.type = 1) (c4 : P.cellsOf f4.type = 1) (n0 : f0.name ≠ "_") (n1 : f1.name ≠ "_") (n2 : f2.name ≠ "_") (n3 : f3.name ≠ "_") (n4 : f4.name ≠ "_")
    (w0 : (Lit.int q0 a).wf = true) (w1 : (Lit.int q1 b).wf = true) (w2 : (Lit.int q2 c).wf = true) (w3 : (Lit.int q3 d).wf = true) (w4 : (Lit.int q4 e).wf = true) (hs : 0 < P.types.size) : ∃ l, keyOf P k (.agg #[.int q0 a, .int q1 b, .int q2 c, .int q3 d, .int q4 e]) = some l := by
  obtain ⟨z, hd⟩ : ∃ z, P.types.size = z + 1 := ⟨P.types.size - 1, by omega⟩
  unfold keyOf
  rw [hu]
  simp [ht, hf, Value.cells, Program.keyLits, hd, hu, u0, u1, u2, u3, u4, hc, o0, o1, o2, o3, o4, c0, c1, c2, c3, c4, n0, n1, n2, n3, n4, w0, w1, w2, w3, w4]
end

/-- A list of keys, each of s cells, that lie behind each other. -/
def KeysAt (E : TypeId) (s : Nat) (w : World) (v : Value) (n : Nat) (kc : Nat → Array Value) : Prop :=
  ∃ g cap cur, v = .slice (some ⟨g, 0, none⟩) n cap ∧ n ≤ cap ∧ cap ≤ maxLen ∧ w.heap[g]? = some (.cells cur E (0, 0)) ∧ n * s ≤ cur.size ∧ ∀ i, i < n → cur.extract (i * s) (i * s + s) = kc i
theorem keysAt_below {E : TypeId} {s n : Nat} {w w' : World} {v : Value} {kc : Nat → Array Value} (h : KeysAt E s w v n kc) (hb : Below w.heap.size w w') : KeysAt E s w' v n kc := by
  obtain ⟨g, cap, cur, h1, h2, h3, h4, h5, h6⟩ := h
  exact ⟨g, cap, cur, h1, h2, h3, below_row hb h4, h5, h6⟩

/-- The cells of the first n keys. -/
def flat (n : Nat) (kc : Nat → Array Value) : List Value := (List.range n).flatMap fun i => (kc i).toList
theorem flat_succ (n : Nat) (kc : Nat → Array Value) : flat (n + 1) kc = flat n kc ++ (kc n).toList := by simp [flat, List.range_succ]
theorem flat_len {s : Nat} {kc : Nat → Array Value} (hs : ∀ i, (kc i).size = s) : ∀ n, (flat n kc).length = n * s
  | 0 => by simp [flat]
  | n + 1 => by rw [flat_succ, List.length_append, flat_len hs n, Array.length_toList, hs, Nat.succ_mul]
theorem flat_get {s : Nat} {kc : Nat → Array Value} (hs : ∀ i, (kc i).size = s) : ∀ n i, i < n → ((flat n kc).drop (i * s)).take s = (kc i).toList
  | 0, i, h => by omega
  | n + 1, i, h => by
    rw [flat_succ]
    by_cases c : i < n
    · have hl := flat_len hs n
      have hm : i * s + s ≤ n * s := by rw [← Nat.succ_mul]; exact Nat.mul_le_mul_right _ c
      rw [List.drop_append_of_le_length (by omega), List.take_append_of_le_length (by simp; omega)]
      exact flat_get hs n i c
    · have e : i = n := by omega
      subst e
      have hl := flat_len hs i
      rw [← hl, List.drop_left, List.take_of_length_le (by simp [hs])]

theorem row_ne {W : World} {g : Nat} {o : Obj} {e : TypeId} (h : W.heap[g]? = some o) (hne : ∀ cs fr, o ≠ .cells cs e fr) {base size k : Nat} {v : Value} {xs : List Value} (hr : W.ownsRow base e size v k xs) : some g ≠ v.ownBlock := by
  rcases hr.2 with ⟨rfl, _⟩ | ⟨g', cap, cur, rfl, _, hgb, _⟩
  · simp [Value.ownBlock]
  · intro e'
    obtain rfl : g = g' := by simpa [Value.ownBlock] using e'
    rw [h] at hgb
    exact hne _ _ (Option.some.inj hgb)
theorem cells_new (w : World) (cs : Array Value) (t : TypeId) : ∀ j u, cs.toList[j]? = some u → (w.alloc (.cells cs t)).cell? ((⟨w.heap.size, 0, none⟩ : Addr).add j) = some u := by
  intro j u hj
  rw [addr_add, cell_of_row _ _ _ _ _ _ (heap_alloc_new _ _), Nat.zero_add]
  simpa using hj

theorem keysAt_of_row {E : TypeId} {s n base : Nat} {w : World} {v : Value} {kc : Nat → Array Value} (hs : ∀ i, (kc i).size = s) (hn : 0 < n) (h : w.ownsRow base E s v n (flat n kc)) : KeysAt E s w v n kc := by
  rcases h.2 with ⟨rfl, hz⟩ | ⟨g, cap, cur, rfl, hbg, hg, hnc, hcm, hsz, htk⟩
  · omega
  · refine ⟨g, cap, cur, rfl, hnc, hcm, hg, ?_, fun i hi => ?_⟩
    · have hl := flat_len hs n
      have : (cur.toList.take (n * s)).length = n * s := by rw [htk, hl]
      simp at this
      omega
    · have hm : i * s + s ≤ n * s := by rw [← Nat.succ_mul]; exact Nat.mul_le_mul_right _ hi
      apply Array.ext'
      rw [Array.toList_extract, ← flat_get hs n i hi, ← htk, List.extract_eq_take_drop, Nat.add_sub_cancel_left, List.drop_take, List.take_take, Nat.min_eq_left (by omega)]

end Go.Proofs.Ytddnfbpgldchcaa
