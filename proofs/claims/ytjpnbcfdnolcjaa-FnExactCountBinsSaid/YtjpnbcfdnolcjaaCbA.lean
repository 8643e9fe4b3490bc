/-
  The place of a number among bounds: the program's closure, its search, whether bounds are ascending.
-/
import Derived.Test.YtjpnbcfdnolcjaaAdL
import Derived.Test.YtjpnbcfdnolcjaaOrd
import Derived.Test.YtjpnbcfdnolcjaaFlO
import Derived.IntWalk
import Derived.Deep.Cut
import Derived.Deep.DeepCutAuto
namespace Go.Proofs.Ytjpnbcfdnolcjaa
open Go.ChangeShapes Go.WideShapes Go.ChangeAt Go.RowKit Go.Deep Go.Joins

attribute [local go_sem] run_store_f

/-- The order of numbers in which -0 and 0 are one. -/
def kz (x : Nat) : Int := if x < 2147483648 then (x : Int) else 2147483648 - (x : Int)

theorem kz_kI (x : Nat) : (x < 2147483648 ∧ kI x = (x : Int) ∧ kz x = (x : Int)) ∨ (2147483648 ≤ x ∧ kI x = 2147483647 - (x : Int) ∧ kz x = 2147483648 - (x : Int)) := by
  unfold kI kz
  by_cases c : x < 2147483648
  · exact .inl ⟨c, if_pos c, if_pos c⟩
  · exact .inr ⟨by omega, if_neg c, if_neg c⟩

theorem num_kz {a b : Nat} (ha : isNum a) (hb : isNum b) : (FloatKind.f32.format.order a b = some .lt ∧ kz a < kz b) ∨ (FloatKind.f32.format.order a b = some .gt ∧ kz b < kz a) ∨ (FloatKind.f32.format.order a b = some .eq ∧ kz a = kz b) := by
  have hA := kz_kI a
  have hB := kz_kI b
  have e1 : FloatKind.f32.format.order 2147483648 0 = some .eq := by decide +kernel
  have e2 : FloatKind.f32.format.order 0 2147483648 = some .eq := by decide +kernel
  rcases num_order ha hb with ⟨h, h2⟩ | ⟨h, h2⟩ | ⟨h, h2⟩
  · by_cases e : a = 2147483648 ∧ b = 0
    · obtain ⟨rfl, rfl⟩ := e
      rw [e1] at h; cases h
    · exact .inl ⟨h, by omega⟩
  · by_cases e : a = 0 ∧ b = 2147483648
    · obtain ⟨rfl, rfl⟩ := e
      rw [e2] at h; cases h
    · exact .inr (.inl ⟨h, by omega⟩)
  · refine .inr (.inr ⟨h, ?_⟩)
    rcases h2 with rfl | ⟨rfl, rfl⟩ | ⟨rfl, rfl⟩
    · rfl
    · decide
    · decide

/-- How many of the first bounds are not above a number. -/
def binN : List Nat → Nat → Nat
  | [], _ => 0
  | b :: bs, x => if kz b ≤ kz x then binN bs x + 1 else 0

def IsBin (bs : List Nat) (x b : Nat) : Prop := b ≤ bs.length ∧ (∀ k, k < b → kz (bs.getD k 0) ≤ kz x) ∧ (b < bs.length → kz x < kz (bs.getD b 0))

theorem binN_is : ∀ (bs : List Nat) (x : Nat), IsBin bs x (binN bs x)
  | [], _ => ⟨Nat.le_refl _, fun k h => absurd h (Nat.not_lt_zero _), fun h => absurd h (Nat.not_lt_zero _)⟩
  | b :: bs, x => by
    by_cases h : kz b ≤ kz x
    · have e : binN (b :: bs) x = binN bs x + 1 := if_pos h
      obtain ⟨i1, i2, i3⟩ := binN_is bs x
      rw [e]
      refine ⟨by simpa using i1, fun k hk => ?_, fun hl => ?_⟩
      · cases k with
        | zero => simpa using h
        | succ k => simpa using i2 k (by omega)
      · simpa using i3 (by simpa using hl)
    · have e : binN (b :: bs) x = 0 := if_neg h
      rw [e]
      exact ⟨Nat.zero_le _, fun k hk => absurd hk (Nat.not_lt_zero _), fun _ => by simpa using (Int.not_le.1 h)⟩

theorem bin_eq {bs : List Nat} {x b : Nat} (h : IsBin bs x b) : binN bs x = b := by
  obtain ⟨a1, a2, a3⟩ := h
  obtain ⟨b1, b2, b3⟩ := binN_is bs x
  rcases Nat.lt_trichotomy (binN bs x) b with h | h | h
  · have := a2 _ h; have := b3 (by omega); omega
  · exact h
  · have := b2 _ h; have := a3 (by omega); omega

theorem ret_nat6 {a b : Nat} (h : a = b) : Ending.returned (.int .i64 (a : Int)) = .returned (.int .i64 (b : Int)) := by rw [h]

def ascN (bs : List Nat) : Nat → Bool
  | 0 => true
  | k + 1 => ascN bs k && decide (kz (bs.getD k 0) < kz (bs.getD (k + 1) 0))

def ascB (bs : List Nat) : Bool := ascN bs (bs.length - 1)

theorem ascN_false (bs : List Nat) {k : Nat} (h : ascN bs k = false) : ∀ m, k ≤ m → ascN bs m = false
  | 0, hm => by
    have e : k = 0 := by omega
    subst e; exact h
  | m + 1, hm => by
    by_cases e : k = m + 1
    · subst e; exact h
    · have := ascN_false bs h m (by omega)
      rw [ascN, this, Bool.false_and]

theorem ascN_le (bs : List Nat) : ∀ m, ascN bs m = true → ∀ i j, i ≤ j → j ≤ m → kz (bs.getD i 0) ≤ kz (bs.getD j 0)
  | 0, _, i, j, h1, h2 => by
    have e : i = j := by omega
    subst e; exact Int.le_refl _
  | m + 1, h, i, j, h1, h2 => by
    rw [ascN, Bool.and_eq_true] at h
    obtain ⟨h3, h4⟩ := h
    have h5 := of_decide_eq_true h4
    by_cases e : j = m + 1
    · by_cases e2 : i = j
      · subst e2; exact Int.le_refl _
      · have := ascN_le bs m h3 i m (by omega) (Nat.le_refl _)
        subst e; omega
    · exact ascN_le bs m h3 i j h1 (by omega)

theorem asc_le {bs : List Nat} (h : ascB bs = true) (i j : Nat) (h1 : i ≤ j) (h2 : j < bs.length) : kz (bs.getD i 0) ≤ kz (bs.getD j 0) := ascN_le bs _ h i j h1 (by omega)

theorem asc_bad {bs : List Nat} {k : Nat} (hk : k + 1 < bs.length) (h : kz (bs.getD (k + 1) 0) ≤ kz (bs.getD k 0)) : ascB bs = false := by
  refine ascN_false bs (k := k + 1) ?_ _ (by omega)
  rw [ascN, decide_eq_false (by omega), Bool.and_false]

theorem ascN_step {bs : List Nat} {k : Nat} (h0 : ascN bs k = true) (h : kz (bs.getD k 0) < kz (bs.getD (k + 1) 0)) : ascN bs (k + 1) = true := by
  rw [ascN, h0, decide_eq_true h]; rfl

set_option maxRecDepth 100000 in
set_option maxHeartbeats 4000000 in
theorem above_any (sv : Value) (bs : List Nat) (k ba bx x : Nat) (W : World) (hk : k < bs.length) (hq : ∀ z ∈ bs, PlnOk z) (hx : isNum x) (hz : FloatsAt W sv bs) (hA : W.cell? ⟨ba, 0, none⟩ = some sv) (hX : W.cell? ⟨bx, 0, none⟩ = some (.float .f32 x)) :
    Calls Try.prog 72 #[.int .i64 k, .pointer (some ⟨ba, 0, none⟩), .pointer (some ⟨bx, 0, none⟩)] W fun e w' => e = .returned (.bool (decide (kz x < kz (bs.getD k 0)))) ∧ Below W.heap.size W w' := by
  have hkb := getD_get hk
  have hn := num_kz (hq _ (List.mem_of_getElem? hkb)).1 hx
  obtain ⟨a, cap, rfl, hl, hm, -⟩ := id hz
  unfold maxLen at hm
  obtain ⟨g, o, rfl, hc⟩ := float_at hz hkb
  have z1 : (k : Int) < (bs.length : Int) := by omega
  have z2 : (0 : Int) ≤ (k : Int) := by omega
  clear hz hkb hq hx
  generalize bs.getD k 0 = y at *
  generalize bs.length = n at *
  rcases hn with ⟨h, e⟩ | ⟨h, e⟩ | ⟨h, e⟩
  · rw [decide_eq_false (by omega)]
    clear e
    go_enter Try.func72, Try.ntmps72
    go_wp2
    refine wp_region_held_drew (S := (fun V => V.cell? ⟨ba, 0, none⟩ = some (.slice (some ⟨g, o, none⟩) n cap) ∧ V.cell? ⟨bx, 0, none⟩ = some (.float .f32 x) ∧ V.cell? ⟨g, o + k, none⟩ = some (.float .f32 y) ∧ Below W.heap.size W V)) (by kernel_rfl) ⟨by simpa using hA, by simpa using hX, by simpa using hc, (Below.refl _ _).drew⟩ (fun hHeld => ?_)
    refine take_op (i := 0) (d := 5) (v := ?_) rfl rfl (by kernel_rfl) (by kernel_rfl) (by kernel_rfl) (fun _ _ _ h => h) (Or.inl ⟨by rfl, ?hy0u1⟩) hHeld ?rest0u1
    case hy0u1 =>
      intro w' hS'
      obtain ⟨s1, s2, s3, _⟩ := hS'
      go_simp
      try with_reducible rfl
    simp only [List.setIfInBounds_toArray, List.set_cons_zero, List.set_cons_succ]
    refine take_op (i := 1) (d := 6) (v := ?_) rfl rfl (by kernel_rfl) (by kernel_rfl) (by kernel_rfl) (fun _ _ _ h => h) (Or.inl ⟨by rfl, ?hy1u2⟩) hHeld ?rest1u2
    case hy1u2 =>
      intro w' hS'
      obtain ⟨s1, s2, s3, _⟩ := hS'
      go_simp
      try with_reducible rfl
    simp only [List.setIfInBounds_toArray, List.set_cons_zero, List.set_cons_succ]
    refine take_op (i := 2) (d := 7) (v := ?_) rfl rfl (by kernel_rfl) (by kernel_rfl) (by kernel_rfl) (fun _ _ _ h => h) (Or.inl ⟨by rfl, ?hy2u3⟩) hHeld ?rest2u3
    case hy2u3 =>
      intro w' hS'
      obtain ⟨s1, s2, s3, _⟩ := hS'
      go_simp
      try with_reducible rfl
    simp only [List.setIfInBounds_toArray, List.set_cons_zero, List.set_cons_succ]
    refine take_op (i := 3) (d := 8) (v := ?_) rfl rfl (by kernel_rfl) (by kernel_rfl) (by kernel_rfl) (fun _ _ _ h => h) (Or.inl ⟨by rfl, ?hy3u4⟩) hHeld ?rest3u4
    case hy3u4 =>
      intro w' hS'
      obtain ⟨s1, s2, s3, _⟩ := hS'
      go_simp
      try with_reducible rfl
    simp only [List.setIfInBounds_toArray, List.set_cons_zero, List.set_cons_succ]
    refine take_op (i := 4) (d := 9) (v := ?_) rfl rfl (by kernel_rfl) (by kernel_rfl) (by kernel_rfl) (fun _ _ _ h => h) (Or.inl ⟨by rfl, ?hy4u5⟩) hHeld ?rest4u5
    case hy4u5 =>
      intro w' hS'
      obtain ⟨s1, s2, s3, _⟩ := hS'
      go_simp
      try with_reducible rfl
    simp only [List.setIfInBounds_toArray, List.set_cons_zero, List.set_cons_succ]
    refine take_op (i := 5) (d := 10) (v := ?_) rfl rfl (by kernel_rfl) (by kernel_rfl) (by kernel_rfl) (fun _ _ _ h => h) (Or.inl ⟨by rfl, ?hy5u6⟩) hHeld ?rest5u6
    case hy5u6 =>
      intro w' hS'
      obtain ⟨s1, s2, s3, _⟩ := hS'
      go_simp
      try with_reducible rfl
    simp only [List.setIfInBounds_toArray, List.set_cons_zero, List.set_cons_succ]
    refine take_op (i := 6) (d := 4) (v := ?_) rfl rfl (by kernel_rfl) (by kernel_rfl) (by kernel_rfl) (fun _ _ _ h => h) (Or.inl ⟨by rfl, ?hy6u7⟩) hHeld ?rest6u7
    case hy6u7 =>
      intro w' hS'
      obtain ⟨s1, s2, s3, _⟩ := hS'
      go_simp
      try with_reducible rfl
    simp only [List.setIfInBounds_toArray, List.set_cons_zero, List.set_cons_succ]
    refine wpAnyH_done (by kernel_rfl) ?_ _
    have hbx := hHeld.2.2.2
    clear hHeld
    go_wp2
    go_ret
    exact ⟨rfl, hbx⟩

  · rw [decide_eq_true e]
    clear e
    go_enter Try.func72, Try.ntmps72
    go_wp2
    refine wp_region_held_drew (S := (fun V => V.cell? ⟨ba, 0, none⟩ = some (.slice (some ⟨g, o, none⟩) n cap) ∧ V.cell? ⟨bx, 0, none⟩ = some (.float .f32 x) ∧ V.cell? ⟨g, o + k, none⟩ = some (.float .f32 y) ∧ Below W.heap.size W V)) (by kernel_rfl) ⟨by simpa using hA, by simpa using hX, by simpa using hc, (Below.refl _ _).drew⟩ (fun hHeld => ?_)
    refine take_op (i := 0) (d := 5) (v := ?_) rfl rfl (by kernel_rfl) (by kernel_rfl) (by kernel_rfl) (fun _ _ _ h => h) (Or.inl ⟨by rfl, ?hy0u8⟩) hHeld ?rest0u8
    case hy0u8 =>
      intro w' hS'
      obtain ⟨s1, s2, s3, _⟩ := hS'
      go_simp
      try with_reducible rfl
    simp only [List.setIfInBounds_toArray, List.set_cons_zero, List.set_cons_succ]
    refine take_op (i := 1) (d := 6) (v := ?_) rfl rfl (by kernel_rfl) (by kernel_rfl) (by kernel_rfl) (fun _ _ _ h => h) (Or.inl ⟨by rfl, ?hy1u9⟩) hHeld ?rest1u9
    case hy1u9 =>
      intro w' hS'
      obtain ⟨s1, s2, s3, _⟩ := hS'
      go_simp
      try with_reducible rfl
    simp only [List.setIfInBounds_toArray, List.set_cons_zero, List.set_cons_succ]
    refine take_op (i := 2) (d := 7) (v := ?_) rfl rfl (by kernel_rfl) (by kernel_rfl) (by kernel_rfl) (fun _ _ _ h => h) (Or.inl ⟨by rfl, ?hy2u10⟩) hHeld ?rest2u10
    case hy2u10 =>
      intro w' hS'
      obtain ⟨s1, s2, s3, _⟩ := hS'
      go_simp
      try with_reducible rfl
    simp only [List.setIfInBounds_toArray, List.set_cons_zero, List.set_cons_succ]
    refine take_op (i := 3) (d := 8) (v := ?_) rfl rfl (by kernel_rfl) (by kernel_rfl) (by kernel_rfl) (fun _ _ _ h => h) (Or.inl ⟨by rfl, ?hy3u11⟩) hHeld ?rest3u11
    case hy3u11 =>
      intro w' hS'
      obtain ⟨s1, s2, s3, _⟩ := hS'
      go_simp
      try with_reducible rfl
    simp only [List.setIfInBounds_toArray, List.set_cons_zero, List.set_cons_succ]
    refine take_op (i := 4) (d := 9) (v := ?_) rfl rfl (by kernel_rfl) (by kernel_rfl) (by kernel_rfl) (fun _ _ _ h => h) (Or.inl ⟨by rfl, ?hy4u12⟩) hHeld ?rest4u12
    case hy4u12 =>
      intro w' hS'
      obtain ⟨s1, s2, s3, _⟩ := hS'
      go_simp
      try with_reducible rfl
    simp only [List.setIfInBounds_toArray, List.set_cons_zero, List.set_cons_succ]
    refine take_op (i := 5) (d := 10) (v := ?_) rfl rfl (by kernel_rfl) (by kernel_rfl) (by kernel_rfl) (fun _ _ _ h => h) (Or.inl ⟨by rfl, ?hy5u13⟩) hHeld ?rest5u13
    case hy5u13 =>
      intro w' hS'
      obtain ⟨s1, s2, s3, _⟩ := hS'
      go_simp
      try with_reducible rfl
    simp only [List.setIfInBounds_toArray, List.set_cons_zero, List.set_cons_succ]
    refine take_op (i := 6) (d := 4) (v := ?_) rfl rfl (by kernel_rfl) (by kernel_rfl) (by kernel_rfl) (fun _ _ _ h => h) (Or.inl ⟨by rfl, ?hy6u14⟩) hHeld ?rest6u14
    case hy6u14 =>
      intro w' hS'
      obtain ⟨s1, s2, s3, _⟩ := hS'
      go_simp
      try with_reducible rfl
    simp only [List.setIfInBounds_toArray, List.set_cons_zero, List.set_cons_succ]
    refine wpAnyH_done (by kernel_rfl) ?_ _
    have hbx := hHeld.2.2.2
    clear hHeld
    go_wp2
    go_ret
    exact ⟨rfl, hbx⟩

  · rw [decide_eq_false (by omega)]
    clear e
    go_enter Try.func72, Try.ntmps72
    go_wp2
    refine wp_region_held_drew (S := (fun V => V.cell? ⟨ba, 0, none⟩ = some (.slice (some ⟨g, o, none⟩) n cap) ∧ V.cell? ⟨bx, 0, none⟩ = some (.float .f32 x) ∧ V.cell? ⟨g, o + k, none⟩ = some (.float .f32 y) ∧ Below W.heap.size W V)) (by kernel_rfl) ⟨by simpa using hA, by simpa using hX, by simpa using hc, (Below.refl _ _).drew⟩ (fun hHeld => ?_)
    refine take_op (i := 0) (d := 5) (v := ?_) rfl rfl (by kernel_rfl) (by kernel_rfl) (by kernel_rfl) (fun _ _ _ h => h) (Or.inl ⟨by rfl, ?hy0u15⟩) hHeld ?rest0u15
    case hy0u15 =>
      intro w' hS'
      obtain ⟨s1, s2, s3, _⟩ := hS'
      go_simp
      try with_reducible rfl
    simp only [List.setIfInBounds_toArray, List.set_cons_zero, List.set_cons_succ]
    refine take_op (i := 1) (d := 6) (v := ?_) rfl rfl (by kernel_rfl) (by kernel_rfl) (by kernel_rfl) (fun _ _ _ h => h) (Or.inl ⟨by rfl, ?hy1u16⟩) hHeld ?rest1u16
    case hy1u16 =>
      intro w' hS'
      obtain ⟨s1, s2, s3, _⟩ := hS'
      go_simp
      try with_reducible rfl
    simp only [List.setIfInBounds_toArray, List.set_cons_zero, List.set_cons_succ]
    refine take_op (i := 2) (d := 7) (v := ?_) rfl rfl (by kernel_rfl) (by kernel_rfl) (by kernel_rfl) (fun _ _ _ h => h) (Or.inl ⟨by rfl, ?hy2u17⟩) hHeld ?rest2u17
    case hy2u17 =>
      intro w' hS'
      obtain ⟨s1, s2, s3, _⟩ := hS'
      go_simp
      try with_reducible rfl
    simp only [List.setIfInBounds_toArray, List.set_cons_zero, List.set_cons_succ]
    refine take_op (i := 3) (d := 8) (v := ?_) rfl rfl (by kernel_rfl) (by kernel_rfl) (by kernel_rfl) (fun _ _ _ h => h) (Or.inl ⟨by rfl, ?hy3u18⟩) hHeld ?rest3u18
    case hy3u18 =>
      intro w' hS'
      obtain ⟨s1, s2, s3, _⟩ := hS'
      go_simp
      try with_reducible rfl
    simp only [List.setIfInBounds_toArray, List.set_cons_zero, List.set_cons_succ]
    refine take_op (i := 4) (d := 9) (v := ?_) rfl rfl (by kernel_rfl) (by kernel_rfl) (by kernel_rfl) (fun _ _ _ h => h) (Or.inl ⟨by rfl, ?hy4u19⟩) hHeld ?rest4u19
    case hy4u19 =>
      intro w' hS'
      obtain ⟨s1, s2, s3, _⟩ := hS'
      go_simp
      try with_reducible rfl
    simp only [List.setIfInBounds_toArray, List.set_cons_zero, List.set_cons_succ]
    refine take_op (i := 5) (d := 10) (v := ?_) rfl rfl (by kernel_rfl) (by kernel_rfl) (by kernel_rfl) (fun _ _ _ h => h) (Or.inl ⟨by rfl, ?hy5u20⟩) hHeld ?rest5u20
    case hy5u20 =>
      intro w' hS'
      obtain ⟨s1, s2, s3, _⟩ := hS'
      go_simp
      try with_reducible rfl
    simp only [List.setIfInBounds_toArray, List.set_cons_zero, List.set_cons_succ]
    refine take_op (i := 6) (d := 4) (v := ?_) rfl rfl (by kernel_rfl) (by kernel_rfl) (by kernel_rfl) (fun _ _ _ h => h) (Or.inl ⟨by rfl, ?hy6u21⟩) hHeld ?rest6u21
    case hy6u21 =>
      intro w' hS'
      obtain ⟨s1, s2, s3, _⟩ := hS'
      go_simp
      try with_reducible rfl
    simp only [List.setIfInBounds_toArray, List.set_cons_zero, List.set_cons_succ]
    refine wpAnyH_done (by kernel_rfl) ?_ _
    have hbx := hHeld.2.2.2
    clear hHeld
    go_wp2
    go_ret
    exact ⟨rfl, hbx⟩

set_option maxRecDepth 100000 in
set_option maxHeartbeats 4000000 in
theorem search_any (sv : Value) (bs : List Nat) (ba bx x : Nat) (W : World) (h48 : bs.length ≤ 48) (hq : ∀ z ∈ bs, PlnOk z) (hx : isNum x) (hasc : ascB bs = true) (hz : FloatsAt W sv bs) (hA : W.cell? ⟨ba, 0, none⟩ = some sv) (hX : W.cell? ⟨bx, 0, none⟩ = some (.float .f32 x)) :
    Calls Try.prog 73 #[.int .i64 (bs.length : Nat), .func (.func 72) #[] #[.pointer (some ⟨ba, 0, none⟩), .pointer (some ⟨bx, 0, none⟩)]] W fun e w' => e = .returned (.int .i64 (binN bs x : Nat)) ∧ Below W.heap.size W w' := by
  have HC := Lib.hid (fun V k (hk : k < bs.length) (hb : Below W.heap.size W V) => above_any sv bs k ba bx x V hk hq hx (floats_below hz hb) (cell_below hb hA) (cell_below hb hX))
  have HM := Lib.hid (asc_le hasc)
  have HB := Lib.hid (fun b => bin_eq (bs := bs) (x := x) (b := b))
  clear hz hA hX hq hx hasc
  generalize hn : bs.length = n at *
  have HN := Lib.hid hn
  clear hn
  go_enter Try.func73, Try.ntmps73
  go_wp2
  go_loopw [5, 6] (fun s5 s6 wr => ∃ lo hi : Nat, s5 = .int .i64 lo ∧ s6 = .int .i64 hi ∧ lo ≤ hi ∧ hi ≤ n ∧ Below W.heap.size W wr ∧ (∀ t, t < lo → kz (bs.getD t 0) ≤ kz x) ∧ (∀ t, hi ≤ t → t < n → kz x < kz (bs.getD t 0))) (fun s5 s6 _ => (intOf s6 - intOf s5).toNat)
  case atStart => exact ⟨0, n, rfl, rfl, Nat.zero_le _, Nat.le_refl _, Below.refl _ _, fun t ht => absurd ht (Nat.not_lt_zero _), fun t h1 h2 => by omega⟩
  case round =>
    obtain ⟨lo, hi, rfl, rfl, hlh, hin, hb, i1, i2⟩ := hrel
    have I1 := Lib.hid i1
    have I2 := Lib.hid i2
    clear i1 i2
    by_cases hlt : lo < hi
    · have hc := HC.out wr ((lo + hi) / 2) (by omega) hb
      rw [show (((lo + hi) / 2 : Nat) : Int) = ((lo : Int) + (hi : Int)) / 2 by omega] at hc
      by_cases hp : kz x < kz (bs.getD ((lo + hi) / 2) 0)
      · rw [decide_eq_true hp] at hc
        have HP := Lib.hid hp
        have HCC := Lib.hid hc
        clear hp hc
        go_wp2_with (go_at_call 72; refine HCC.out.mono ?_; rintro e w1 ⟨rfl, hb1⟩; have hb2 := hb.trans (hb1.mono hb.size); clear hb1 HCC)
        go_roundw
        case rel => exact ⟨lo, (lo + hi) / 2, rfl, by rw [show ((lo : Int) + (hi : Int)) / 2 = (((lo + hi) / 2 : Nat) : Int) by omega], by omega, by omega, hb2, I1.out, fun t h1 h2 => by have := HM.out ((lo + hi) / 2) t h1 h2; have := HP.out; omega⟩
        case measure => simp [intOf]; omega
      · rw [decide_eq_false hp] at hc
        have HP := Lib.hid hp
        have HCC := Lib.hid hc
        clear hp hc
        go_wp2_with (go_at_call 72; refine HCC.out.mono ?_; rintro e w1 ⟨rfl, hb1⟩; have hb2 := hb.trans (hb1.mono hb.size); clear hb1 HCC)
        go_roundw
        case rel => exact ⟨(lo + hi) / 2 + 1, hi, by rw [show ((lo : Int) + (hi : Int)) / 2 + 1 = (((lo + hi) / 2 + 1 : Nat) : Int) by omega], rfl, by omega, hin, hb2, fun t h1 => by have := HM.out t ((lo + hi) / 2) (by omega) (by omega); have := HP.out; omega, I2.out⟩
        case measure => simp [intOf]; omega
    · obtain rfl : hi = lo := by omega
      have e : binN bs x = hi := HB.out hi ⟨by rw [HN.out]; exact hin, I1.out, fun h => I2.out hi (Nat.le_refl _) (by rw [← HN.out]; exact h)⟩
      have HE := Lib.hid e
      clear e
      go_wp2
      go_ret
      exact ⟨ret_nat6 HE.out.symm, hb⟩

set_option maxRecDepth 100000 in
set_option maxHeartbeats 8000000 in
theorem isAscending_any (sv : Value) (bs : List Nat) (h48 : bs.length ≤ 48) (hq : ∀ z ∈ bs, PlnOk z) (w : World) (hz : FloatsAt w sv bs) :
    Calls Try.prog 71 #[sv] w fun e w' => e = .returned (.bool (ascB bs)) ∧ Below w.heap.size w w' := by
  have HZ := Lib.hid hz
  have HQ := Lib.hid hq
  obtain ⟨a, cap, rfl, hl, hm, -⟩ := hz
  unfold maxLen at hm
  have HA := Lib.hid (show ascN bs (bs.length - 1) = ascB bs from rfl)
  clear hq
  generalize hn : bs.length = n at *
  have HN := Lib.hid hn
  clear hn
  go_enter Try.func71, Try.ntmps71
  go_wp2
  go_loopw [3] (fun i wr => ∃ k : Nat, (k = 0 ∨ k + 1 ≤ n) ∧ i = .int .i64 ((k : Int) + 1) ∧ Below w.heap.size w wr ∧ ascN bs k = true) (fun i _ => n - (intOf i).toNat)
  case atStart => exact ⟨0, .inl rfl, rfl, Below.refl _ _, rfl⟩
  case round =>
    obtain ⟨k, hk, rfl, hb, has⟩ := hrel
    have HAs := Lib.hid has
    clear has
    by_cases hlt : k + 1 < n
    · have hka := getD_get (l := bs) (i := k) (by rw [HN.out]; omega)
      have hkb := getD_get (l := bs) (i := k + 1) (by rw [HN.out]; omega)
      obtain ⟨g, o, rfl, ca⟩ := float_at (floats_below HZ.out hb) hka
      obtain ⟨g', o', eg, cb⟩ := float_at (floats_below HZ.out hb) hkb
      obtain ⟨rfl, rfl⟩ : g = g' ∧ o = o' := by simpa using eg
      have hnz := num_kz (HQ.out _ (List.mem_of_getElem? hka)).1 (HQ.out _ (List.mem_of_getElem? hkb)).1
      have HBad := Lib.hid (fun h => asc_bad (bs := bs) (k := k) (by rw [HN.out]; exact hlt) h)
      have HSt := Lib.hid (fun h => ascN_step (bs := bs) (k := k) HAs.out h)
      have z1 : ((k : Int) + 1) < (n : Int) := by omega
      have z2 : (0 : Int) ≤ ((k : Int) + 1) := by omega
      have z3 : ((k : Int) + 1) - 1 = (k : Int) := by omega
      have z4 : IntKind.i64.wrap (k : Int) = (k : Int) := IntWalk.i64_in _ (by omega)
      have z5 : IntKind.i64.wrap ((k : Int) + 1) = ((k : Int) + 1) := IntWalk.i64_in _ (by omega)
      have z6 : (k : Int) < (n : Int) := by omega
      have z7 : (0 : Int) ≤ (k : Int) := by omega
      clear hka hkb eg
      generalize bs.getD k 0 = xa at *
      generalize bs.getD (k + 1) 0 = xb at *
      have z8 : decide (((k : Int) + 1) < (n : Int)) = true := decide_eq_true z1
      rcases hnz with ⟨h, e⟩ | ⟨h, e⟩ | ⟨h, e⟩
      · have HE := Lib.hid (HSt.out e)
        clear e
        go_wp2
        refine wp_region_held_drew (S := (fun V => V.cell? ⟨g, o + k, none⟩ = some (.float .f32 xa) ∧ V.cell? ⟨g, o + (k + 1), none⟩ = some (.float .f32 xb) ∧ Below w.heap.size w V)) (by kernel_rfl) ⟨by simpa using ca, by simpa using cb, hb.drew⟩ (fun hHeld => ?_)
        refine take_op (i := 0) (d := 10) (v := ?_) rfl rfl (by kernel_rfl) (by kernel_rfl) (by kernel_rfl) (fun _ _ _ h => h) (Or.inl ⟨by rfl, ?hy0u22⟩) hHeld ?rest0u22
        case hy0u22 =>
          intro w' hS'
          obtain ⟨s1, s2, _⟩ := hS'
          go_simp
          try with_reducible rfl
        simp only [List.setIfInBounds_toArray, List.set_cons_zero, List.set_cons_succ]
        refine take_op (i := 1) (d := 11) (v := ?_) rfl rfl (by kernel_rfl) (by kernel_rfl) (by kernel_rfl) (fun _ _ _ h => h) (Or.inl ⟨by rfl, ?hy1u23⟩) hHeld ?rest1u23
        case hy1u23 =>
          intro w' hS'
          obtain ⟨s1, s2, _⟩ := hS'
          go_simp
          try with_reducible rfl
        simp only [List.setIfInBounds_toArray, List.set_cons_zero, List.set_cons_succ]
        refine take_op (i := 2) (d := 12) (v := ?_) rfl rfl (by kernel_rfl) (by kernel_rfl) (by kernel_rfl) (fun _ _ _ h => h) (Or.inl ⟨by rfl, ?hy2u24⟩) hHeld ?rest2u24
        case hy2u24 =>
          intro w' hS'
          obtain ⟨s1, s2, _⟩ := hS'
          go_simp
          try with_reducible rfl
        simp only [List.setIfInBounds_toArray, List.set_cons_zero, List.set_cons_succ]
        refine take_op (i := 3) (d := 13) (v := ?_) rfl rfl (by kernel_rfl) (by kernel_rfl) (by kernel_rfl) (fun _ _ _ h => h) (Or.inl ⟨by rfl, ?hy3u25⟩) hHeld ?rest3u25
        case hy3u25 =>
          intro w' hS'
          obtain ⟨s1, s2, _⟩ := hS'
          go_simp
          try with_reducible rfl
        simp only [List.setIfInBounds_toArray, List.set_cons_zero, List.set_cons_succ]
        refine take_op (i := 4) (d := 14) (v := ?_) rfl rfl (by kernel_rfl) (by kernel_rfl) (by kernel_rfl) (fun _ _ _ h => h) (Or.inl ⟨by rfl, ?hy4u26⟩) hHeld ?rest4u26
        case hy4u26 =>
          intro w' hS'
          obtain ⟨s1, s2, _⟩ := hS'
          go_simp
          try with_reducible rfl
        simp only [List.setIfInBounds_toArray, List.set_cons_zero, List.set_cons_succ]
        refine take_op (i := 5) (d := 15) (v := ?_) rfl rfl (by kernel_rfl) (by kernel_rfl) (by kernel_rfl) (fun _ _ _ h => h) (Or.inl ⟨by rfl, ?hy5u27⟩) hHeld ?rest5u27
        case hy5u27 =>
          intro w' hS'
          obtain ⟨s1, s2, _⟩ := hS'
          go_simp
          try with_reducible rfl
        simp only [List.setIfInBounds_toArray, List.set_cons_zero, List.set_cons_succ]
        refine take_op (i := 6) (d := 16) (v := ?_) rfl rfl (by kernel_rfl) (by kernel_rfl) (by kernel_rfl) (fun _ _ _ h => h) (Or.inl ⟨by rfl, ?hy6u28⟩) hHeld ?rest6u28
        case hy6u28 =>
          intro w' hS'
          obtain ⟨s1, s2, _⟩ := hS'
          go_simp
          try with_reducible rfl
        simp only [List.setIfInBounds_toArray, List.set_cons_zero, List.set_cons_succ]
        refine take_op (i := 7) (d := 17) (v := ?_) rfl rfl (by kernel_rfl) (by kernel_rfl) (by kernel_rfl) (fun _ _ _ h => h) (Or.inl ⟨by rfl, ?hy7u29⟩) hHeld ?rest7u29
        case hy7u29 =>
          intro w' hS'
          obtain ⟨s1, s2, _⟩ := hS'
          go_simp
          try with_reducible rfl
        simp only [List.setIfInBounds_toArray, List.set_cons_zero, List.set_cons_succ]
        refine take_op (i := 8) (d := 18) (v := ?_) rfl rfl (by kernel_rfl) (by kernel_rfl) (by kernel_rfl) (fun _ _ _ h => h) (Or.inl ⟨by rfl, ?hy8u30⟩) hHeld ?rest8u30
        case hy8u30 =>
          intro w' hS'
          obtain ⟨s1, s2, _⟩ := hS'
          go_simp
          try with_reducible rfl
        simp only [List.setIfInBounds_toArray, List.set_cons_zero, List.set_cons_succ]
        refine take_op (i := 9) (d := 19) (v := ?_) rfl rfl (by kernel_rfl) (by kernel_rfl) (by kernel_rfl) (fun _ _ _ h => h) (Or.inl ⟨by rfl, ?hy9u31⟩) hHeld ?rest9u31
        case hy9u31 =>
          intro w' hS'
          obtain ⟨s1, s2, _⟩ := hS'
          go_simp
          try with_reducible rfl
        simp only [List.setIfInBounds_toArray, List.set_cons_zero, List.set_cons_succ]
        refine wpAnyH_done (by kernel_rfl) ?_ _
        have hbx := hHeld.2.2
        clear hHeld hb ca cb

        go_wp2
        go_roundw
        case rel => exact ⟨k + 1, .inr (by omega), by go_num, hbx, HE.out⟩
        case measure => simp [intOf]; omega
      · have HE := Lib.hid (HBad.out (by omega))
        clear e
        go_wp2
        refine wp_region_held_drew (S := (fun V => V.cell? ⟨g, o + k, none⟩ = some (.float .f32 xa) ∧ V.cell? ⟨g, o + (k + 1), none⟩ = some (.float .f32 xb) ∧ Below w.heap.size w V)) (by kernel_rfl) ⟨by simpa using ca, by simpa using cb, hb.drew⟩ (fun hHeld => ?_)
        refine take_op (i := 0) (d := 10) (v := ?_) rfl rfl (by kernel_rfl) (by kernel_rfl) (by kernel_rfl) (fun _ _ _ h => h) (Or.inl ⟨by rfl, ?hy0u32⟩) hHeld ?rest0u32
        case hy0u32 =>
          intro w' hS'
          obtain ⟨s1, s2, _⟩ := hS'
          go_simp
          try with_reducible rfl
        simp only [List.setIfInBounds_toArray, List.set_cons_zero, List.set_cons_succ]
        refine take_op (i := 1) (d := 11) (v := ?_) rfl rfl (by kernel_rfl) (by kernel_rfl) (by kernel_rfl) (fun _ _ _ h => h) (Or.inl ⟨by rfl, ?hy1u33⟩) hHeld ?rest1u33
        case hy1u33 =>
          intro w' hS'
          obtain ⟨s1, s2, _⟩ := hS'
          go_simp
          try with_reducible rfl
        simp only [List.setIfInBounds_toArray, List.set_cons_zero, List.set_cons_succ]
        refine take_op (i := 2) (d := 12) (v := ?_) rfl rfl (by kernel_rfl) (by kernel_rfl) (by kernel_rfl) (fun _ _ _ h => h) (Or.inl ⟨by rfl, ?hy2u34⟩) hHeld ?rest2u34
        case hy2u34 =>
          intro w' hS'
          obtain ⟨s1, s2, _⟩ := hS'
          go_simp
          try with_reducible rfl
        simp only [List.setIfInBounds_toArray, List.set_cons_zero, List.set_cons_succ]
        refine take_op (i := 3) (d := 13) (v := ?_) rfl rfl (by kernel_rfl) (by kernel_rfl) (by kernel_rfl) (fun _ _ _ h => h) (Or.inl ⟨by rfl, ?hy3u35⟩) hHeld ?rest3u35
        case hy3u35 =>
          intro w' hS'
          obtain ⟨s1, s2, _⟩ := hS'
          go_simp
          try with_reducible rfl
        simp only [List.setIfInBounds_toArray, List.set_cons_zero, List.set_cons_succ]
        refine take_op (i := 4) (d := 14) (v := ?_) rfl rfl (by kernel_rfl) (by kernel_rfl) (by kernel_rfl) (fun _ _ _ h => h) (Or.inl ⟨by rfl, ?hy4u36⟩) hHeld ?rest4u36
        case hy4u36 =>
          intro w' hS'
          obtain ⟨s1, s2, _⟩ := hS'
          go_simp
          try with_reducible rfl
        simp only [List.setIfInBounds_toArray, List.set_cons_zero, List.set_cons_succ]
        refine take_op (i := 5) (d := 15) (v := ?_) rfl rfl (by kernel_rfl) (by kernel_rfl) (by kernel_rfl) (fun _ _ _ h => h) (Or.inl ⟨by rfl, ?hy5u37⟩) hHeld ?rest5u37
        case hy5u37 =>
          intro w' hS'
          obtain ⟨s1, s2, _⟩ := hS'
          go_simp
          try with_reducible rfl
        simp only [List.setIfInBounds_toArray, List.set_cons_zero, List.set_cons_succ]
        refine take_op (i := 6) (d := 16) (v := ?_) rfl rfl (by kernel_rfl) (by kernel_rfl) (by kernel_rfl) (fun _ _ _ h => h) (Or.inl ⟨by rfl, ?hy6u38⟩) hHeld ?rest6u38
        case hy6u38 =>
          intro w' hS'
          obtain ⟨s1, s2, _⟩ := hS'
          go_simp
          try with_reducible rfl
        simp only [List.setIfInBounds_toArray, List.set_cons_zero, List.set_cons_succ]
        refine take_op (i := 7) (d := 17) (v := ?_) rfl rfl (by kernel_rfl) (by kernel_rfl) (by kernel_rfl) (fun _ _ _ h => h) (Or.inl ⟨by rfl, ?hy7u39⟩) hHeld ?rest7u39
        case hy7u39 =>
          intro w' hS'
          obtain ⟨s1, s2, _⟩ := hS'
          go_simp
          try with_reducible rfl
        simp only [List.setIfInBounds_toArray, List.set_cons_zero, List.set_cons_succ]
        refine take_op (i := 8) (d := 18) (v := ?_) rfl rfl (by kernel_rfl) (by kernel_rfl) (by kernel_rfl) (fun _ _ _ h => h) (Or.inl ⟨by rfl, ?hy8u40⟩) hHeld ?rest8u40
        case hy8u40 =>
          intro w' hS'
          obtain ⟨s1, s2, _⟩ := hS'
          go_simp
          try with_reducible rfl
        simp only [List.setIfInBounds_toArray, List.set_cons_zero, List.set_cons_succ]
        refine take_op (i := 9) (d := 19) (v := ?_) rfl rfl (by kernel_rfl) (by kernel_rfl) (by kernel_rfl) (fun _ _ _ h => h) (Or.inl ⟨by rfl, ?hy9u41⟩) hHeld ?rest9u41
        case hy9u41 =>
          intro w' hS'
          obtain ⟨s1, s2, _⟩ := hS'
          go_simp
          try with_reducible rfl
        simp only [List.setIfInBounds_toArray, List.set_cons_zero, List.set_cons_succ]
        refine wpAnyH_done (by kernel_rfl) ?_ _
        have hbx := hHeld.2.2
        clear hHeld hb ca cb

        go_wp2
        go_ret
        exact ⟨ret_bool5 HE.out.symm, hbx⟩
      · have HE := Lib.hid (HBad.out (by omega))
        clear e
        go_wp2
        refine wp_region_held_drew (S := (fun V => V.cell? ⟨g, o + k, none⟩ = some (.float .f32 xa) ∧ V.cell? ⟨g, o + (k + 1), none⟩ = some (.float .f32 xb) ∧ Below w.heap.size w V)) (by kernel_rfl) ⟨by simpa using ca, by simpa using cb, hb.drew⟩ (fun hHeld => ?_)
        refine take_op (i := 0) (d := 10) (v := ?_) rfl rfl (by kernel_rfl) (by kernel_rfl) (by kernel_rfl) (fun _ _ _ h => h) (Or.inl ⟨by rfl, ?hy0u42⟩) hHeld ?rest0u42
        case hy0u42 =>
          intro w' hS'
          obtain ⟨s1, s2, _⟩ := hS'
          go_simp
          try with_reducible rfl
        simp only [List.setIfInBounds_toArray, List.set_cons_zero, List.set_cons_succ]
        refine take_op (i := 1) (d := 11) (v := ?_) rfl rfl (by kernel_rfl) (by kernel_rfl) (by kernel_rfl) (fun _ _ _ h => h) (Or.inl ⟨by rfl, ?hy1u43⟩) hHeld ?rest1u43
        case hy1u43 =>
          intro w' hS'
          obtain ⟨s1, s2, _⟩ := hS'
          go_simp
          try with_reducible rfl
        simp only [List.setIfInBounds_toArray, List.set_cons_zero, List.set_cons_succ]
        refine take_op (i := 2) (d := 12) (v := ?_) rfl rfl (by kernel_rfl) (by kernel_rfl) (by kernel_rfl) (fun _ _ _ h => h) (Or.inl ⟨by rfl, ?hy2u44⟩) hHeld ?rest2u44
        case hy2u44 =>
          intro w' hS'
          obtain ⟨s1, s2, _⟩ := hS'
          go_simp
          try with_reducible rfl
        simp only [List.setIfInBounds_toArray, List.set_cons_zero, List.set_cons_succ]
        refine take_op (i := 3) (d := 13) (v := ?_) rfl rfl (by kernel_rfl) (by kernel_rfl) (by kernel_rfl) (fun _ _ _ h => h) (Or.inl ⟨by rfl, ?hy3u45⟩) hHeld ?rest3u45
        case hy3u45 =>
          intro w' hS'
          obtain ⟨s1, s2, _⟩ := hS'
          go_simp
          try with_reducible rfl
        simp only [List.setIfInBounds_toArray, List.set_cons_zero, List.set_cons_succ]
        refine take_op (i := 4) (d := 14) (v := ?_) rfl rfl (by kernel_rfl) (by kernel_rfl) (by kernel_rfl) (fun _ _ _ h => h) (Or.inl ⟨by rfl, ?hy4u46⟩) hHeld ?rest4u46
        case hy4u46 =>
          intro w' hS'
          obtain ⟨s1, s2, _⟩ := hS'
          go_simp
          try with_reducible rfl
        simp only [List.setIfInBounds_toArray, List.set_cons_zero, List.set_cons_succ]
        refine take_op (i := 5) (d := 15) (v := ?_) rfl rfl (by kernel_rfl) (by kernel_rfl) (by kernel_rfl) (fun _ _ _ h => h) (Or.inl ⟨by rfl, ?hy5u47⟩) hHeld ?rest5u47
        case hy5u47 =>
          intro w' hS'
          obtain ⟨s1, s2, _⟩ := hS'
          go_simp
          try with_reducible rfl
        simp only [List.setIfInBounds_toArray, List.set_cons_zero, List.set_cons_succ]
        refine take_op (i := 6) (d := 16) (v := ?_) rfl rfl (by kernel_rfl) (by kernel_rfl) (by kernel_rfl) (fun _ _ _ h => h) (Or.inl ⟨by rfl, ?hy6u48⟩) hHeld ?rest6u48
        case hy6u48 =>
          intro w' hS'
          obtain ⟨s1, s2, _⟩ := hS'
          go_simp
          try with_reducible rfl
        simp only [List.setIfInBounds_toArray, List.set_cons_zero, List.set_cons_succ]
        refine take_op (i := 7) (d := 17) (v := ?_) rfl rfl (by kernel_rfl) (by kernel_rfl) (by kernel_rfl) (fun _ _ _ h => h) (Or.inl ⟨by rfl, ?hy7u49⟩) hHeld ?rest7u49
        case hy7u49 =>
          intro w' hS'
          obtain ⟨s1, s2, _⟩ := hS'
          go_simp
          try with_reducible rfl
        simp only [List.setIfInBounds_toArray, List.set_cons_zero, List.set_cons_succ]
        refine take_op (i := 8) (d := 18) (v := ?_) rfl rfl (by kernel_rfl) (by kernel_rfl) (by kernel_rfl) (fun _ _ _ h => h) (Or.inl ⟨by rfl, ?hy8u50⟩) hHeld ?rest8u50
        case hy8u50 =>
          intro w' hS'
          obtain ⟨s1, s2, _⟩ := hS'
          go_simp
          try with_reducible rfl
        simp only [List.setIfInBounds_toArray, List.set_cons_zero, List.set_cons_succ]
        refine take_op (i := 9) (d := 19) (v := ?_) rfl rfl (by kernel_rfl) (by kernel_rfl) (by kernel_rfl) (fun _ _ _ h => h) (Or.inl ⟨by rfl, ?hy9u51⟩) hHeld ?rest9u51
        case hy9u51 =>
          intro w' hS'
          obtain ⟨s1, s2, _⟩ := hS'
          go_simp
          try with_reducible rfl
        simp only [List.setIfInBounds_toArray, List.set_cons_zero, List.set_cons_succ]
        refine wpAnyH_done (by kernel_rfl) ?_ _
        have hbx := hHeld.2.2
        clear hHeld hb ca cb

        go_wp2
        go_ret
        exact ⟨ret_bool5 HE.out.symm, hbx⟩
    · have e : ascB bs = true := by
        rw [← HA.out, show n - 1 = k by omega]
        exact HAs.out
      have HE := Lib.hid e
      have z1 : (n : Int) ≤ (k : Int) + 1 := by omega
      have z8 : decide ((k : Int) + 1 < (n : Int)) = false := decide_eq_false (by omega)
      clear e
      go_wp2
      go_ret
      exact ⟨ret_bool5 HE.out.symm, hb⟩

end Go.Proofs.Ytjpnbcfdnolcjaa
