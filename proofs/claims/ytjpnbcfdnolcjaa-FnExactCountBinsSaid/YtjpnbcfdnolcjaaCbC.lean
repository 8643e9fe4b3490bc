/-
  Counts of numbers between bounds: codes, the counts, their row.
-/
import Derived.Test.YtjpnbcfdnolcjaaCbA
import Derived.Test.YtjpnbcfdnolcjaaListLaw
namespace Go.Proofs.Ytjpnbcfdnolcjaa
open Go.ChangeShapes Go.WideShapes Go.ChangeAt Go.RowKit Go.Deep Go.Joins

theorem info_i64 : (Try.prog.info? 2).map (fun i => (i.zero, i.size, i.bytes)) = some (some (.int .i64 0), 1, 8) := by kernel_rfl

theorem make_ints (n : Nat) (hn : n ≤ 1048576) (w : World) : (Instr.makeSlice 46 (.int .i64 (n : Int)) (.int .i64 (n : Int))).run Try.prog w = .ok (.slice (some ⟨w.heap.size, 0, none⟩) n n) (w.alloc (.cells (madeCells #[.int .i64 0] n) 2)) := by
  obtain ⟨i0, hi, hz0, hz1, hz2⟩ := info_parts info_i64
  have h := run_make (P := Try.prog) w 46 2 i0 _ Try.underlying46 hi hz0 .i64 .i64 (n : Int) (n : Int) (by omega) (Int.le_refl _) (by rw [hz2]; omega) (by omega)
  rw [hz1] at h
  simpa [Value.cells] using h

theorem make_ints1 (m : Nat) (hm : m ≤ 1000) (w : World) : (Instr.makeSlice 46 (.int .i64 ((m : Int) + 1)) (.int .i64 ((m : Int) + 1))).run Try.prog w = .ok (.slice (some ⟨w.heap.size, 0, none⟩) (m + 1) (m + 1)) (w.alloc (.cells (madeCells #[.int .i64 0] (m + 1)) 2)) := by
  have h := make_ints (m + 1) (by omega) w
  rw [show ((m + 1 : Nat) : Int) = (m : Int) + 1 by omega] at h
  exact h

def codeCb (zs bs : List Nat) : Int := if (okLs zs && okLs bs) = false then 1 else if (decide (bs.length ≤ 16) && ascB bs) = false then 2 else 0

theorem codeCb_cases {zs bs : List Nat} (h : codeCb zs bs ≠ 0) : (codeCb zs bs = 1 ∧ okLs zs = false) ∨ (codeCb zs bs = 1 ∧ okLs zs = true ∧ okLs bs = false) ∨ (codeCb zs bs = 2 ∧ okLs zs = true ∧ okLs bs = true ∧ (16 < bs.length ∨ ascB bs = false)) := by
  unfold codeCb at h ⊢
  cases ha : okLs zs with
  | false => left; exact ⟨by rw [Bool.false_and, if_pos rfl], rfl⟩
  | true =>
    rw [ha] at h
    cases hb : okLs bs with
    | false => right; left; exact ⟨by rw [Bool.and_false, if_pos rfl], rfl, rfl⟩
    | true =>
      rw [hb, Bool.and_true, if_neg (by decide)] at h
      right; right
      by_cases c : (decide (bs.length ≤ 16) && ascB bs) = false
      · refine ⟨by rw [Bool.and_true, if_neg (by decide), if_pos c], rfl, rfl, ?_⟩
        by_cases c2 : bs.length ≤ 16
        · right; rw [decide_eq_true c2, Bool.true_and] at c; exact c
        · left; omega
      · rw [if_neg c] at h; exact absurd rfl h

theorem codeCb_zero {zs bs : List Nat} (hx : ∀ z ∈ zs, (Lit.float .f32 z).wf = true) (hy : ∀ z ∈ bs, (Lit.float .f32 z).wf = true) (h : codeCb zs bs = 0) : okLs zs = true ∧ okLs bs = true ∧ zs.length ≤ 48 ∧ bs.length ≤ 16 ∧ ascB bs = true ∧ (∀ z ∈ zs, PlnOk z) ∧ ∀ z ∈ bs, PlnOk z := by
  unfold codeCb at h
  by_cases c : (okLs zs && okLs bs) = false
  · rw [if_pos c] at h; cases h
  · rw [if_neg c] at h
    by_cases c2 : (decide (bs.length ≤ 16) && ascB bs) = false
    · rw [if_pos c2] at h; cases h
    · obtain ⟨a, b⟩ := Bool.and_eq_true_iff.1 (Bool.not_eq_false _ ▸ c : (okLs zs && okLs bs) = true)
      obtain ⟨d, e⟩ := Bool.and_eq_true_iff.1 (Bool.not_eq_false _ ▸ c2 : (decide (bs.length ≤ 16) && ascB bs) = true)
      exact ⟨a, b, (okLs_get hx a).1, of_decide_eq_true d, e, (okLs_get hx a).2, (okLs_get hy b).2⟩

/-- How many of the first k numbers lie in place j. -/
def cntF (bs zs : List Nat) : Nat → Nat → Int
  | 0, _ => 0
  | k + 1, j => cntF bs zs k j + if binN bs (zs.getD k 0) = j then 1 else 0

theorem cntF_le (bs zs : List Nat) : ∀ k j, 0 ≤ cntF bs zs k j ∧ cntF bs zs k j ≤ (k : Int)
  | 0, j => ⟨Int.le_refl _, Int.le_refl _⟩
  | k + 1, j => by
    have h := cntF_le bs zs k j
    rw [cntF]
    split <;> omega

def ansL (bs zs : List Nat) : List Int := (List.range (bs.length + 1)).map fun j => cntF bs zs zs.length j

theorem ansL_len (bs zs : List Nat) : (ansL bs zs).length = bs.length + 1 := by simp [ansL]

theorem ansL_get {bs zs : List Nat} {j : Nat} (h : j < bs.length + 1) : (ansL bs zs)[j]? = some (cntF bs zs zs.length j) := by simp [ansL, h]

def CntRow (W : World) (g : Nat) (bs zs : List Nat) (m k : Nat) : Prop := ∃ cur : Array Value, W.heap[g]? = some (.cells cur 2 (0, 0)) ∧ cur.size = m + 1 ∧ ∀ j, j < m + 1 → cur[j]? = some (.int .i64 (cntF bs zs k j))

theorem cnt_new (W : World) (bs zs : List Nat) (m : Nat) : CntRow (W.alloc (.cells (madeCells #[.int .i64 0] (m + 1)) 2)) W.heap.size bs zs m 0 := by
  refine ⟨_, heap_alloc_new _ _, size_madeCells _ _, fun j hj => ?_⟩
  have e : cntF bs zs 0 j = 0 := rfl
  rw [e, madeCells, Array.getElem?_map, Array.getElem?_range, if_pos hj]
  simp [Nat.mod_one]

theorem cnt_keep {W W' : World} {g : Nat} {bs zs : List Nat} {m k : Nat} (h : CntRow W g bs zs m k) (hb : Below W.heap.size W W') : CntRow W' g bs zs m k := by
  obtain ⟨cur, h1, h2, h3⟩ := h
  refine ⟨cur, ?_, h2, h3⟩
  rw [hb.block g (Array.getElem?_eq_some_iff.1 h1).1]; exact h1

theorem cnt_drew {W : World} {g : Nat} {bs zs : List Nat} {m k : Nat} (h : CntRow W g bs zs m k) : CntRow W.drew g bs zs m k := h

theorem cnt_lt {W : World} {g : Nat} {bs zs : List Nat} {m k : Nat} (h : CntRow W g bs zs m k) : g < W.heap.size := by
  obtain ⟨cur, h1, _, _⟩ := h
  exact (Array.getElem?_eq_some_iff.1 h1).1

theorem cnt_cell {W : World} {g : Nat} {bs zs : List Nat} {m k j : Nat} (h : CntRow W g bs zs m k) (hj : j ≤ m) : W.cell? ⟨g, j, none⟩ = some (.int .i64 (cntF bs zs k j)) ∧ W.frozen? ⟨g, j, none⟩ = false := by
  obtain ⟨cur, h1, h2, h3⟩ := h
  exact ⟨cell_k h1 (h3 j (by omega)), frozen_of_row W g j _ _ h1⟩

theorem cnt_step {W : World} {g : Nat} {bs zs : List Nat} {m k b : Nat} (h : CntRow W g bs zs m k) (hb : binN bs (zs.getD k 0) = b) (hj : b ≤ m) : CntRow (W.setCell ⟨g, b, none⟩ (.int .i64 (cntF bs zs k b + 1))) g bs zs m (k + 1) := by
  obtain ⟨cur, h1, h2, h3⟩ := h
  refine ⟨_, heap_setCell_same _ _ _ _ _ _ h1, by simpa using h2, fun j hjm => ?_⟩
  rw [Array.getElem?_setIfInBounds, cntF, hb]
  by_cases e : b = j
  · subst e
    rw [if_pos rfl, if_pos (by omega), if_pos rfl]
  · rw [if_neg e, if_neg e, Int.add_zero]
    exact h3 j hjm

theorem cnt_own {W : World} {B g : Nat} {bs zs : List Nat} (h : CntRow W g bs zs bs.length zs.length) (hB : B ≤ g) (h48 : bs.length ≤ 48) : Own W B 2 (Value.int .i64) (.slice (some ⟨g, 0, none⟩) (bs.length + 1) (bs.length + 1)) (ansL bs zs) := by
  obtain ⟨cur, h1, h2, h3⟩ := h
  refine ⟨_, bs.length + 1, by rw [ansL_len], by unfold maxLen; omega, by rw [ansL_len]; exact Nat.le_refl _, .inr ⟨g, cur, rfl, hB, h1, fun j hj => ?_⟩⟩
  rw [ansL_len] at hj
  rw [h3 j hj, ansL_get hj]; rfl

theorem own_noneI (w : World) (b : Nat) : Own w b 2 (Value.int .i64) (.slice none 0 0) [] := ⟨none, 0, rfl, by unfold maxLen; omega, Nat.le_refl _, .inl ⟨rfl, rfl⟩⟩

theorem own_base0I {W : World} {base : Nat} {v : Value} (h : W.ownsRow base 2 1 v 0 []) : Own W base 2 (Value.int .i64) v [] := own_of_row (xs := ([] : List Int)) h (by unfold maxLen; simp)

end Go.Proofs.Ytjpnbcfdnolcjaa
