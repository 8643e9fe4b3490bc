/-
  The light of all tiles of a room: the model's walk over them.
-/
import Derived.Test.YtddnfbpgldchcaaDoorEtD
namespace Go.Proofs.YtddnfbpgldchcaaDoor
open Go.ChangeShapes Go.WideShapes Go.ChangeAt Go.RowKit Go.Deep Go.Joins

attribute [local go_sem] run_store_floatE

theorem tC_len (W : Nat) : ∀ n, (tC W n).length = n * 2
  | 0 => rfl
  | n + 1 => by
    have h := tC_len W n
    unfold tC at h ⊢
    rw [List.range_succ, List.flatMap_append, List.length_append, h]
    simp
    omega

theorem tC_get (W : Nat) : ∀ n k, k < n → (tC W n)[k * 2]? = some (.int .i8 ((k % W : Nat) : Int)) ∧ (tC W n)[k * 2 + 1]? = some (.int .i8 ((k / W : Nat) : Int))
  | 0, k, h => absurd h (Nat.not_lt_zero k)
  | n + 1, k, h => by
    have hs : tC W (n + 1) = tC W n ++ [.int .i8 ((n % W : Nat) : Int), .int .i8 ((n / W : Nat) : Int)] := by
      unfold tC
      rw [List.range_succ, List.flatMap_append, List.flatMap_cons, List.flatMap_nil, List.append_nil]
    have hl := tC_len W n
    rw [hs]
    by_cases e : k = n
    · subst e
      constructor
      · rw [List.getElem?_append_right (by omega), hl, Nat.sub_self]; rfl
      · rw [List.getElem?_append_right (by omega), hl, Nat.add_sub_cancel_left]; rfl
    · have ih := tC_get W n k (by omega)
      rw [List.getElem?_append_left (by omega), List.getElem?_append_left (by omega)]
      exact ih

theorem ext_two {cur : Array Value} {i : Nat} {a b : Value} (ha : cur[i]? = some a) (hb : cur[i + 1]? = some b) : cur.extract i (i + 2) = #[a, b] := by
  obtain ⟨h1, e1⟩ := Array.getElem?_eq_some_iff.1 ha
  obtain ⟨h2, e2⟩ := Array.getElem?_eq_some_iff.1 hb
  apply Array.ext
  · simp; omega
  · intro j h3 h4
    rw [Array.getElem_extract]
    match j, h4 with
    | 0, _ => simpa using e1
    | 1, _ => simpa using e2

/-- A list of tiles that lies in a block. -/
def TilesAt (V : World) (gs : Nat) (cur : Array Value) : Prop := V.heap[gs]? = some (.cells cur 48 (0, 0))

theorem tiles_get {V : World} {gs W n : Nat} {cur : Array Value} (h : TilesAt V gs cur) (ht : cur.toList.take (n * 2) = tC W n) (hW : 0 < W) {x y : Nat} (hx : x < W) (hk : y * W + x < n) :
    V.cell? ⟨gs, (y * W + x) * 2, none⟩ = some (.int .i8 (x : Int)) ∧ V.cell? ⟨gs, (y * W + x) * 2 + 1, none⟩ = some (.int .i8 (y : Int)) ∧ cur.extract ((y * W + x) * 2) ((y * W + x) * 2 + 2) = tileC (x : Int) (y : Int) ∧ (y * W + x) * 2 + 2 ≤ cur.size := by
  have e1 : (y * W + x) % W = x := by rw [Nat.mul_comm, Nat.mul_add_mod]; exact Nat.mod_eq_of_lt hx
  have e2 : (y * W + x) / W = y := by rw [Nat.mul_comm, Nat.mul_add_div hW, Nat.div_eq_of_lt hx, Nat.add_zero]
  obtain ⟨c1, c2⟩ := tC_get W n (y * W + x) hk
  rw [e1, ← ht, List.getElem?_take_of_lt (by omega), Array.getElem?_toList] at c1
  rw [e2, ← ht, List.getElem?_take_of_lt (by omega), Array.getElem?_toList] at c2
  refine ⟨by rw [cell_of_row _ _ _ _ _ _ h]; exact c1, by rw [cell_of_row _ _ _ _ _ _ h]; exact c2, ext_two c1 c2, ?_⟩
  have := (Array.getElem?_eq_some_iff.1 c2).1
  omega

end Go.Proofs.YtddnfbpgldchcaaDoor
