/-
  The map from names to the ways of a sum.
-/
import Derived.Test.YtjpnbcfdnolcjabMapOp
import Derived.Test.YtjpnbcfdnolcjabAdL
namespace Go.Proofs.Ytjpnbcfdnolcjab
open Go Go.RowKit Go.ChangeMaps Go.MapKept
open Go.Maps (Keyed)

section

variable {P : Program}

theorem wpList_insert_new {w : World} {ops : Array Oper} {rest : List Oper} {o : Oper} {a : Act} {Q : Exit → Act → World → Prop}
    (hg : o.guard = none) (m x v : Operand) (t : TypeId) (hop : o.op = Op.insert t m x v)
    (k e : TypeId) (K : Keyed P k) (ht : P.underlying t = some (.map k e)) (b : Nat) (es : Array MapEntry) (clock : Nat) (hb : w.heap[b]? = some (.map es clock))
    (hm : a.eval m = .map (some b)) (key val : Value) (hx : a.eval x = key) (hv : a.eval v = val) (hkey : ∃ l, keyOf P k key = some l)
    (hes : ∀ y ∈ es.toList, ∃ l, keyOf P k y.key = some l) (hne : ∀ y ∈ es.toList, y.key ≠ key)
    (h : wpList P ops Q rest (a.put o.dst undef) (setBlock w b (.map (es.push { key, val, born := clock }) (clock + 1)))) : wpList P ops Q (o :: rest) a w := by
  obtain ⟨kl, hkey⟩ := hkey
  refine wpList_plain hg fun K' hK' => ?_
  have h1 : (Instr.findKey k key es.toList).run P w = .ok none w := by
    rcases K.find w hkey es.toList hes with ⟨h1, _⟩ | ⟨j, e0, _, h2, h3⟩
    · exact h1
    · exact absurd h3 (hne _ (List.mem_of_getElem? h2))
  have hrun : (Instr.mapUpdate t (.map (some b)) key val).run P w = .ok () (setBlock w b (.map (es.push { key, val, born := clock }) (clock + 1))) := by
    simp [Instr.mapUpdate, run_underlying ht, MapKept.run_getObj_map hb, K.check w false hkey, h1, MapKept.run_setObj_map _ hb, Result.andThen, setBlock]
  unfold Oper.wp
  simp [execOp, hop, hm, hx, hv, hrun, Result.andThen]
  exact hK' _ _ h

theorem heap_setBlock_same {w : World} {b : Nat} {es : Array MapEntry} {clock : Nat} {o' : Obj} (hb : w.heap[b]? = some (.map es clock)) : (setBlock w b o').heap[b]? = some o' := by
  have h := row_lt hb
  show (w.heap.setIfInBounds b o')[b]? = some o'
  rw [Array.getElem?_setIfInBounds, if_pos rfl, if_pos h]

end

def sumEs : Array MapEntry := #[⟨.string ⟨#[108, 101, 102, 116]⟩, .func (.func 61) #[] #[], 0⟩, ⟨.string ⟨#[114, 105, 103, 104, 116]⟩, .func (.func 73) #[] #[], 1⟩, ⟨.string ⟨#[112, 97, 105, 114, 115]⟩, .func (.func 74) #[] #[], 2⟩, ⟨.string ⟨#[107, 101, 112, 116]⟩, .func (.func 75) #[] #[], 3⟩, ⟨.string ⟨#[119, 105, 100, 101]⟩, .func (.func 76) #[] #[], 4⟩, ⟨.string ⟨#[115, 109, 97, 108, 108]⟩, .func (.func 77) #[] #[], 5⟩]

theorem kS_law : Keyed Try.prog 9 := Go.Maps.string_keyed Try.underlying9

theorem kS_zero (w : World) : (zeroValue 48).run Try.prog w = .ok .nilFunc w := by kernel_rfl

theorem kS_key0 : ∃ l, keyOf Try.prog 9 (.string ⟨#[108, 101, 102, 116]⟩) = some l := ⟨.string [108, 101, 102, 116], by kernel_rfl⟩

theorem kS_key1 : ∃ l, keyOf Try.prog 9 (.string ⟨#[114, 105, 103, 104, 116]⟩) = some l := ⟨.string [114, 105, 103, 104, 116], by kernel_rfl⟩

theorem kS_key2 : ∃ l, keyOf Try.prog 9 (.string ⟨#[112, 97, 105, 114, 115]⟩) = some l := ⟨.string [112, 97, 105, 114, 115], by kernel_rfl⟩

theorem kS_key3 : ∃ l, keyOf Try.prog 9 (.string ⟨#[107, 101, 112, 116]⟩) = some l := ⟨.string [107, 101, 112, 116], by kernel_rfl⟩

theorem kS_key4 : ∃ l, keyOf Try.prog 9 (.string ⟨#[119, 105, 100, 101]⟩) = some l := ⟨.string [119, 105, 100, 101], by kernel_rfl⟩

theorem kS_key5 : ∃ l, keyOf Try.prog 9 (.string ⟨#[115, 109, 97, 108, 108]⟩) = some l := ⟨.string [115, 109, 97, 108, 108], by kernel_rfl⟩

def es0 : Array MapEntry := #[]

theorem es0_key : ∀ y ∈ es0.toList, ∃ l, keyOf Try.prog 9 y.key = some l := by
  intro y hy
  simp [es0] at hy

theorem es0_new : ∀ y ∈ es0.toList, y.key ≠ .string ⟨#[108, 101, 102, 116]⟩ := by
  intro y hy
  simp [es0] at hy

def es1 : Array MapEntry := #[⟨.string ⟨#[108, 101, 102, 116]⟩, .func (.func 61) #[] #[], 0⟩]

theorem es1_key : ∀ y ∈ es1.toList, ∃ l, keyOf Try.prog 9 y.key = some l := by
  intro y hy
  simp only [es1, List.mem_cons, List.not_mem_nil, or_false] at hy
  subst hy
  exact kS_key0

theorem es1_new : ∀ y ∈ es1.toList, y.key ≠ .string ⟨#[114, 105, 103, 104, 116]⟩ := by
  intro y hy
  simp only [es1, List.mem_cons, List.not_mem_nil, or_false] at hy
  subst hy
  all_goals
    intro h
    injection h with h
    exact absurd h (by decide)

def es2 : Array MapEntry := #[⟨.string ⟨#[108, 101, 102, 116]⟩, .func (.func 61) #[] #[], 0⟩, ⟨.string ⟨#[114, 105, 103, 104, 116]⟩, .func (.func 73) #[] #[], 1⟩]

theorem es2_key : ∀ y ∈ es2.toList, ∃ l, keyOf Try.prog 9 y.key = some l := by
  intro y hy
  simp only [es2, List.mem_cons, List.not_mem_nil, or_false] at hy
  rcases hy with rfl | rfl
  · exact kS_key0
  · exact kS_key1

theorem es2_new : ∀ y ∈ es2.toList, y.key ≠ .string ⟨#[112, 97, 105, 114, 115]⟩ := by
  intro y hy
  simp only [es2, List.mem_cons, List.not_mem_nil, or_false] at hy
  rcases hy with rfl | rfl
  all_goals
    intro h
    injection h with h
    exact absurd h (by decide)

def es3 : Array MapEntry := #[⟨.string ⟨#[108, 101, 102, 116]⟩, .func (.func 61) #[] #[], 0⟩, ⟨.string ⟨#[114, 105, 103, 104, 116]⟩, .func (.func 73) #[] #[], 1⟩, ⟨.string ⟨#[112, 97, 105, 114, 115]⟩, .func (.func 74) #[] #[], 2⟩]

theorem es3_key : ∀ y ∈ es3.toList, ∃ l, keyOf Try.prog 9 y.key = some l := by
  intro y hy
  simp only [es3, List.mem_cons, List.not_mem_nil, or_false] at hy
  rcases hy with rfl | rfl | rfl
  · exact kS_key0
  · exact kS_key1
  · exact kS_key2

theorem es3_new : ∀ y ∈ es3.toList, y.key ≠ .string ⟨#[107, 101, 112, 116]⟩ := by
  intro y hy
  simp only [es3, List.mem_cons, List.not_mem_nil, or_false] at hy
  rcases hy with rfl | rfl | rfl
  all_goals
    intro h
    injection h with h
    exact absurd h (by decide)

def es4 : Array MapEntry := #[⟨.string ⟨#[108, 101, 102, 116]⟩, .func (.func 61) #[] #[], 0⟩, ⟨.string ⟨#[114, 105, 103, 104, 116]⟩, .func (.func 73) #[] #[], 1⟩, ⟨.string ⟨#[112, 97, 105, 114, 115]⟩, .func (.func 74) #[] #[], 2⟩, ⟨.string ⟨#[107, 101, 112, 116]⟩, .func (.func 75) #[] #[], 3⟩]

theorem es4_key : ∀ y ∈ es4.toList, ∃ l, keyOf Try.prog 9 y.key = some l := by
  intro y hy
  simp only [es4, List.mem_cons, List.not_mem_nil, or_false] at hy
  rcases hy with rfl | rfl | rfl | rfl
  · exact kS_key0
  · exact kS_key1
  · exact kS_key2
  · exact kS_key3

theorem es4_new : ∀ y ∈ es4.toList, y.key ≠ .string ⟨#[119, 105, 100, 101]⟩ := by
  intro y hy
  simp only [es4, List.mem_cons, List.not_mem_nil, or_false] at hy
  rcases hy with rfl | rfl | rfl | rfl
  all_goals
    intro h
    injection h with h
    exact absurd h (by decide)

def es5 : Array MapEntry := #[⟨.string ⟨#[108, 101, 102, 116]⟩, .func (.func 61) #[] #[], 0⟩, ⟨.string ⟨#[114, 105, 103, 104, 116]⟩, .func (.func 73) #[] #[], 1⟩, ⟨.string ⟨#[112, 97, 105, 114, 115]⟩, .func (.func 74) #[] #[], 2⟩, ⟨.string ⟨#[107, 101, 112, 116]⟩, .func (.func 75) #[] #[], 3⟩, ⟨.string ⟨#[119, 105, 100, 101]⟩, .func (.func 76) #[] #[], 4⟩]

theorem es5_key : ∀ y ∈ es5.toList, ∃ l, keyOf Try.prog 9 y.key = some l := by
  intro y hy
  simp only [es5, List.mem_cons, List.not_mem_nil, or_false] at hy
  rcases hy with rfl | rfl | rfl | rfl | rfl
  · exact kS_key0
  · exact kS_key1
  · exact kS_key2
  · exact kS_key3
  · exact kS_key4

theorem es5_new : ∀ y ∈ es5.toList, y.key ≠ .string ⟨#[115, 109, 97, 108, 108]⟩ := by
  intro y hy
  simp only [es5, List.mem_cons, List.not_mem_nil, or_false] at hy
  rcases hy with rfl | rfl | rfl | rfl | rfl
  all_goals
    intro h
    injection h with h
    exact absurd h (by decide)

theorem es5_push : es5.push ⟨.string ⟨#[115, 109, 97, 108, 108]⟩, .func (.func 77) #[] #[], 5⟩ = sumEs := rfl

theorem sumEs_key : ∀ y ∈ sumEs.toList, ∃ l, keyOf Try.prog 9 y.key = some l := by
  intro y hy
  simp only [sumEs, List.mem_cons, List.not_mem_nil, or_false] at hy
  rcases hy with rfl | rfl | rfl | rfl | rfl | rfl
  · exact kS_key0
  · exact kS_key1
  · exact kS_key2
  · exact kS_key3
  · exact kS_key4
  · exact kS_key5

theorem look_left {w : World} {b : Nat} (hb : w.heap[b]? = some (.map sumEs 6)) : (Instr.lookup 46 (.map (some b)) (.string ⟨#[108, 101, 102, 116]⟩) false).run Try.prog w = .ok (.func (.func 61) #[] #[]) w := by
  rcases run_lookup_cases kS_law Try.underlying46 hb kS_key0 sumEs_key (kS_zero w) false with ⟨e0, he, h1, h2⟩ | ⟨h1, _⟩
  · simp only [sumEs, List.mem_cons, List.not_mem_nil, or_false] at he
    rcases he with rfl | rfl | rfl | rfl | rfl | rfl
    · rw [h2]; rfl
    · injection h1 with h1; exact absurd h1 (by decide)
    · injection h1 with h1; exact absurd h1 (by decide)
    · injection h1 with h1; exact absurd h1 (by decide)
    · injection h1 with h1; exact absurd h1 (by decide)
    · injection h1 with h1; exact absurd h1 (by decide)
  · exact absurd rfl (h1 ⟨.string ⟨#[108, 101, 102, 116]⟩, .func (.func 61) #[] #[], 0⟩ (by simp [sumEs]))

theorem look_right {w : World} {b : Nat} (hb : w.heap[b]? = some (.map sumEs 6)) : (Instr.lookup 46 (.map (some b)) (.string ⟨#[114, 105, 103, 104, 116]⟩) false).run Try.prog w = .ok (.func (.func 73) #[] #[]) w := by
  rcases run_lookup_cases kS_law Try.underlying46 hb kS_key1 sumEs_key (kS_zero w) false with ⟨e0, he, h1, h2⟩ | ⟨h1, _⟩
  · simp only [sumEs, List.mem_cons, List.not_mem_nil, or_false] at he
    rcases he with rfl | rfl | rfl | rfl | rfl | rfl
    · injection h1 with h1; exact absurd h1 (by decide)
    · rw [h2]; rfl
    · injection h1 with h1; exact absurd h1 (by decide)
    · injection h1 with h1; exact absurd h1 (by decide)
    · injection h1 with h1; exact absurd h1 (by decide)
    · injection h1 with h1; exact absurd h1 (by decide)
  · exact absurd rfl (h1 ⟨.string ⟨#[114, 105, 103, 104, 116]⟩, .func (.func 73) #[] #[], 1⟩ (by simp [sumEs]))

theorem look_pairs {w : World} {b : Nat} (hb : w.heap[b]? = some (.map sumEs 6)) : (Instr.lookup 46 (.map (some b)) (.string ⟨#[112, 97, 105, 114, 115]⟩) false).run Try.prog w = .ok (.func (.func 74) #[] #[]) w := by
  rcases run_lookup_cases kS_law Try.underlying46 hb kS_key2 sumEs_key (kS_zero w) false with ⟨e0, he, h1, h2⟩ | ⟨h1, _⟩
  · simp only [sumEs, List.mem_cons, List.not_mem_nil, or_false] at he
    rcases he with rfl | rfl | rfl | rfl | rfl | rfl
    · injection h1 with h1; exact absurd h1 (by decide)
    · injection h1 with h1; exact absurd h1 (by decide)
    · rw [h2]; rfl
    · injection h1 with h1; exact absurd h1 (by decide)
    · injection h1 with h1; exact absurd h1 (by decide)
    · injection h1 with h1; exact absurd h1 (by decide)
  · exact absurd rfl (h1 ⟨.string ⟨#[112, 97, 105, 114, 115]⟩, .func (.func 74) #[] #[], 2⟩ (by simp [sumEs]))

theorem look_kept {w : World} {b : Nat} (hb : w.heap[b]? = some (.map sumEs 6)) : (Instr.lookup 46 (.map (some b)) (.string ⟨#[107, 101, 112, 116]⟩) false).run Try.prog w = .ok (.func (.func 75) #[] #[]) w := by
  rcases run_lookup_cases kS_law Try.underlying46 hb kS_key3 sumEs_key (kS_zero w) false with ⟨e0, he, h1, h2⟩ | ⟨h1, _⟩
  · simp only [sumEs, List.mem_cons, List.not_mem_nil, or_false] at he
    rcases he with rfl | rfl | rfl | rfl | rfl | rfl
    · injection h1 with h1; exact absurd h1 (by decide)
    · injection h1 with h1; exact absurd h1 (by decide)
    · injection h1 with h1; exact absurd h1 (by decide)
    · rw [h2]; rfl
    · injection h1 with h1; exact absurd h1 (by decide)
    · injection h1 with h1; exact absurd h1 (by decide)
  · exact absurd rfl (h1 ⟨.string ⟨#[107, 101, 112, 116]⟩, .func (.func 75) #[] #[], 3⟩ (by simp [sumEs]))

theorem look_wide {w : World} {b : Nat} (hb : w.heap[b]? = some (.map sumEs 6)) : (Instr.lookup 46 (.map (some b)) (.string ⟨#[119, 105, 100, 101]⟩) false).run Try.prog w = .ok (.func (.func 76) #[] #[]) w := by
  rcases run_lookup_cases kS_law Try.underlying46 hb kS_key4 sumEs_key (kS_zero w) false with ⟨e0, he, h1, h2⟩ | ⟨h1, _⟩
  · simp only [sumEs, List.mem_cons, List.not_mem_nil, or_false] at he
    rcases he with rfl | rfl | rfl | rfl | rfl | rfl
    · injection h1 with h1; exact absurd h1 (by decide)
    · injection h1 with h1; exact absurd h1 (by decide)
    · injection h1 with h1; exact absurd h1 (by decide)
    · injection h1 with h1; exact absurd h1 (by decide)
    · rw [h2]; rfl
    · injection h1 with h1; exact absurd h1 (by decide)
  · exact absurd rfl (h1 ⟨.string ⟨#[119, 105, 100, 101]⟩, .func (.func 76) #[] #[], 4⟩ (by simp [sumEs]))

theorem look_small {w : World} {b : Nat} (hb : w.heap[b]? = some (.map sumEs 6)) : (Instr.lookup 46 (.map (some b)) (.string ⟨#[115, 109, 97, 108, 108]⟩) false).run Try.prog w = .ok (.func (.func 77) #[] #[]) w := by
  rcases run_lookup_cases kS_law Try.underlying46 hb kS_key5 sumEs_key (kS_zero w) false with ⟨e0, he, h1, h2⟩ | ⟨h1, _⟩
  · simp only [sumEs, List.mem_cons, List.not_mem_nil, or_false] at he
    rcases he with rfl | rfl | rfl | rfl | rfl | rfl
    · injection h1 with h1; exact absurd h1 (by decide)
    · injection h1 with h1; exact absurd h1 (by decide)
    · injection h1 with h1; exact absurd h1 (by decide)
    · injection h1 with h1; exact absurd h1 (by decide)
    · injection h1 with h1; exact absurd h1 (by decide)
    · rw [h2]; rfl
  · exact absurd rfl (h1 ⟨.string ⟨#[115, 109, 97, 108, 108]⟩, .func (.func 77) #[] #[], 5⟩ (by simp [sumEs]))

set_option maxRecDepth 100000 in
set_option maxHeartbeats 1000000 in
theorem sums_any (w : World) : Calls Try.prog 54 #[] w fun e w' => ∃ b, e = .returned (.map (some b)) ∧ w.heap.size ≤ b ∧ w'.heap[b]? = some (.map sumEs 6) ∧ Below w.heap.size w w' := by
  have hb0 : (w.alloc (.map #[] 0)).heap[w.heap.size]? = some (.map es0 0) := heap_alloc_new _ _
  have hB0 : Below w.heap.size w (w.alloc (.map #[] 0)) := (Below.refl _ _).alloc (Nat.le_refl _) _
  obtain ⟨w0, hw⟩ : ∃ w0, w0 = w.alloc (.map #[] 0) := ⟨_, rfl⟩
  rw [← hw] at hb0 hB0
  have hmm : ∀ t, (Instr.makeMap t none).run Try.prog w = .ok (.map (some w.heap.size)) w0 := fun t => by rw [hw]; exact run_makeMap t w
  clear hw
  go_enter Try.func54, Try.ntmps54
  go_wp2_with (first | (refine wpList_insert_new rfl _ _ _ 46 rfl 9 48 kS_law Try.underlying46 w.heap.size es0 0 hb0 rfl (.string ⟨#[108, 101, 102, 116]⟩) (.func (.func 61) #[] #[]) rfl rfl kS_key0 es0_key es0_new ?_; have hb1 := heap_setBlock_same (o' := .map es1 1) hb0; have hB1 := below_setBlock (o' := .map es1 1) hB0 (Nat.le_refl _) hb0; obtain ⟨w1, hw⟩ : ∃ w1, w1 = setBlock w0 w.heap.size (.map es1 1) := ⟨_, rfl⟩; rw [← hw] at hb1 hB1; change wpList _ _ _ _ _ (setBlock w0 w.heap.size (.map es1 1)); rw [← hw]; clear hw hb0 hB0) | (refine wpList_insert_new rfl _ _ _ 46 rfl 9 48 kS_law Try.underlying46 w.heap.size es1 1 hb1 rfl (.string ⟨#[114, 105, 103, 104, 116]⟩) (.func (.func 73) #[] #[]) rfl rfl kS_key1 es1_key es1_new ?_; have hb2 := heap_setBlock_same (o' := .map es2 2) hb1; have hB2 := below_setBlock (o' := .map es2 2) hB1 (Nat.le_refl _) hb1; obtain ⟨w2, hw⟩ : ∃ w2, w2 = setBlock w1 w.heap.size (.map es2 2) := ⟨_, rfl⟩; rw [← hw] at hb2 hB2; change wpList _ _ _ _ _ (setBlock w1 w.heap.size (.map es2 2)); rw [← hw]; clear hw hb1 hB1) | (refine wpList_insert_new rfl _ _ _ 46 rfl 9 48 kS_law Try.underlying46 w.heap.size es2 2 hb2 rfl (.string ⟨#[112, 97, 105, 114, 115]⟩) (.func (.func 74) #[] #[]) rfl rfl kS_key2 es2_key es2_new ?_; have hb3 := heap_setBlock_same (o' := .map es3 3) hb2; have hB3 := below_setBlock (o' := .map es3 3) hB2 (Nat.le_refl _) hb2; obtain ⟨w3, hw⟩ : ∃ w3, w3 = setBlock w2 w.heap.size (.map es3 3) := ⟨_, rfl⟩; rw [← hw] at hb3 hB3; change wpList _ _ _ _ _ (setBlock w2 w.heap.size (.map es3 3)); rw [← hw]; clear hw hb2 hB2) | (refine wpList_insert_new rfl _ _ _ 46 rfl 9 48 kS_law Try.underlying46 w.heap.size es3 3 hb3 rfl (.string ⟨#[107, 101, 112, 116]⟩) (.func (.func 75) #[] #[]) rfl rfl kS_key3 es3_key es3_new ?_; have hb4 := heap_setBlock_same (o' := .map es4 4) hb3; have hB4 := below_setBlock (o' := .map es4 4) hB3 (Nat.le_refl _) hb3; obtain ⟨w4, hw⟩ : ∃ w4, w4 = setBlock w3 w.heap.size (.map es4 4) := ⟨_, rfl⟩; rw [← hw] at hb4 hB4; change wpList _ _ _ _ _ (setBlock w3 w.heap.size (.map es4 4)); rw [← hw]; clear hw hb3 hB3) | (refine wpList_insert_new rfl _ _ _ 46 rfl 9 48 kS_law Try.underlying46 w.heap.size es4 4 hb4 rfl (.string ⟨#[119, 105, 100, 101]⟩) (.func (.func 76) #[] #[]) rfl rfl kS_key4 es4_key es4_new ?_; have hb5 := heap_setBlock_same (o' := .map es5 5) hb4; have hB5 := below_setBlock (o' := .map es5 5) hB4 (Nat.le_refl _) hb4; obtain ⟨w5, hw⟩ : ∃ w5, w5 = setBlock w4 w.heap.size (.map es5 5) := ⟨_, rfl⟩; rw [← hw] at hb5 hB5; change wpList _ _ _ _ _ (setBlock w4 w.heap.size (.map es5 5)); rw [← hw]; clear hw hb4 hB4) | (refine wpList_insert_new rfl _ _ _ 46 rfl 9 48 kS_law Try.underlying46 w.heap.size es5 5 hb5 rfl (.string ⟨#[115, 109, 97, 108, 108]⟩) (.func (.func 77) #[] #[]) rfl rfl kS_key5 es5_key es5_new ?_; have hb6 := heap_setBlock_same (o' := .map sumEs 6) hb5; have hB6 := below_setBlock (o' := .map sumEs 6) hB5 (Nat.le_refl _) hb5; obtain ⟨w6, hw⟩ : ∃ w6, w6 = setBlock w5 w.heap.size (.map sumEs 6) := ⟨_, rfl⟩; rw [← hw] at hb6 hB6; change wpList _ _ _ _ _ (setBlock w5 w.heap.size (.map sumEs 6)); rw [← hw]; clear hw hb5 hB5))
  go_ret
  exact ⟨_, rfl, Nat.le_refl _, hb6, hB6⟩

end Go.Proofs.Ytjpnbcfdnolcjab
