/-
  Sgn, SameN, FlA, FoA, Bsame, SameF, FoB, PkP, Blk.
-/
import Derived.Test.YtmbgmpeiicjlaaaGreatDoorMt1
import Derived.Test.YtmbgmpeiicjlaaaGreatDoorRows
import Derived.Deep.Slices
import Derived.Deep.OwnRows
import Derived.WalkSpells
import Derived.WalkLawsBesides
import Derived.Lib.Hide
import Derived.Laws.BitsAllLaws
import Derived.IntWalk

namespace Go.Proofs.YtmbgmpeiicjlaaaGreatDoor

open Go

/-- A finite word. -/
def isNum (x : Nat) : Prop := x < 2139095040 ∨ (2147483648 ≤ x ∧ x < 2147483648 + 2139095040)

/-- Its value, in units of the least number. -/
def sv (x : Nat) : Int := if x < 2147483648 then (rv x : Int) else -(rv (x - 2147483648) : Int)

theorem sv_pos {x : Nat} (h : x < 2147483648) : sv x = rv x := if_pos h

theorem sv_neg (r : Nat) : sv (2147483648 + r) = -(rv r : Int) := by
  unfold sv
  rw [if_neg (by omega), Nat.add_sub_cancel_left]

theorem read_neg {r : Nat} (h : r < 2139095040) : ∃ m i : Nat, Ieee.single.read (2147483648 + r) = .number true m (-149 + (i : Int)) ∧ m * 2 ^ i = rv r := by
  have hb : Ieee.single.binade = 8388608 := by decide
  have hi : Ieee.single.infRung = 2139095040 := by decide
  have hl : Ieee.single.leastPlace = -149 := by decide
  have hw : Ieee.single.signWeight = 2147483648 := by decide
  unfold Ieee.Format.read rv
  simp only [hb, hi, hl, hw]
  rw [show (2147483648 + r) % 2147483648 = r by omega, show (2147483648 + r) / 2147483648 = 1 by omega]
  by_cases c : r < 8388608
  · rw [if_pos c, if_pos c]; exact ⟨r, 0, rfl, by simp⟩
  · rw [if_neg c, if_pos h, if_neg c]; exact ⟨_, _, rfl, rfl⟩

theorem read_num32 {x : Nat} (h : isNum x) : ∃ (s : Bool) (m i : Nat), Ieee.single.read x = .number s m (-149 + (i : Int)) ∧ sv x = (if s then -((m * 2 ^ i : Nat) : Int) else ((m * 2 ^ i : Nat) : Int)) := by
  rcases h with h | ⟨h1, h2⟩
  · obtain ⟨m, i, hr, hm⟩ := read_pos h
    exact ⟨false, m, i, hr, by rw [sv_pos (by omega), ← hm]; rfl⟩
  · obtain ⟨r, rfl⟩ : ∃ r, x = 2147483648 + r := ⟨x - 2147483648, by omega⟩
    obtain ⟨m, i, hr, hm⟩ := read_neg (r := r) (by omega)
    exact ⟨true, m, i, hr, by rw [sv_neg, ← hm]; rfl⟩

theorem num_of_isNum {x : Nat} (h : isNum x) : num32 x = true := by
  obtain ⟨s, m, i, hr, _⟩ := read_num32 h
  unfold num32; rw [hr]

theorem signed_scale (s : Bool) (m i b : Nat) (h : b ≤ i) : Ieee.signed s m (i - b) * ((2 ^ b : Nat) : Int) = (if s then -((m * 2 ^ i : Nat) : Int) else ((m * 2 ^ i : Nat) : Int)) := by
  have e : m * 2 ^ i = m * 2 ^ (i - b) * 2 ^ b := by rw [Nat.mul_assoc, ← Nat.pow_add, Nat.sub_add_cancel h]
  unfold Ieee.signed
  rw [Nat.shiftLeft_eq, e]
  cases s
  · rw [if_neg (by decide), if_neg (by decide), Int.natCast_mul (m * 2 ^ (i - b))]
  · rw [if_pos rfl, if_pos rfl, Int.natCast_mul (m * 2 ^ (i - b)), Int.neg_mul]

theorem compare_scale (a b : Int) (t : Nat) (ht : 0 < t) : compare (a * (t : Int)) (b * (t : Int)) = compare a b := by
  have ht' : (0 : Int) < (t : Int) := by omega
  rcases Int.lt_trichotomy a b with h | h | h
  · rw [Int.compare_eq_lt.2 h, Int.compare_eq_lt.2 (Int.mul_lt_mul_of_pos_right h ht')]
  · subst h; rw [Int.compare_eq_eq.2 rfl, Int.compare_eq_eq.2 rfl]
  · rw [Int.compare_eq_gt.2 h, Int.compare_eq_gt.2 (Int.mul_lt_mul_of_pos_right h ht')]

/-- Finite numbers are ordered as their values. -/
theorem order_num {x y : Nat} (hx : isNum x) (hy : isNum y) : FloatKind.f32.format.order x y = some (compare (sv x) (sv y)) := by
  obtain ⟨s, m, i, hr, hm⟩ := read_num32 hx
  obtain ⟨t, n, j, hq, hn⟩ := read_num32 hy
  show (Ieee.single.read x).order (Ieee.single.read y) = _
  rw [hr, hq]
  have e0 : min (-149 + (i : Int)) (-149 + (j : Int)) = -149 + ((min i j : Nat) : Int) := by omega
  have e1 : (-149 + (i : Int) - (-149 + ((min i j : Nat) : Int))).toNat = i - min i j := by omega
  have e2 : (-149 + (j : Int) - (-149 + ((min i j : Nat) : Int))).toNat = j - min i j := by omega
  simp only [Ieee.Datum.order, e0, e1, e2]
  rw [hm, hn, ← signed_scale s m i (min i j) (Nat.min_le_left _ _), ← signed_scale t n j (min i j) (Nat.min_le_right _ _), compare_scale _ _ _ (Nat.two_pow_pos _)]

/-- What every word is. -/
theorem word_cases (x : Nat) (h : x < 4294967296) : isNum x ∨ x = 2139095040 ∨ x = 4286578688 ∨ ∃ s f, Ieee.single.read x = .nan s f := by
  by_cases c1 : x < 2139095040
  · exact .inl (.inl c1)
  by_cases c2 : x = 2139095040
  · exact .inr (.inl c2)
  by_cases c3 : 2147483648 ≤ x ∧ x < 2147483648 + 2139095040
  · exact .inl (.inr c3)
  by_cases c4 : x = 4286578688
  · exact .inr (.inr (.inl c4))
  refine .inr (.inr (.inr ?_))
  have hb : Ieee.single.binade = 8388608 := by decide
  have hi : Ieee.single.infRung = 2139095040 := by decide
  have hw : Ieee.single.signWeight = 2147483648 := by decide
  unfold Ieee.Format.read
  simp only [hb, hi, hw]
  rw [if_neg (by omega), if_neg (by omega), if_neg (by omega)]
  exact ⟨_, _, rfl⟩

theorem inf_order (y : Nat) (hy : isNum y) : FloatKind.f32.format.order 2139095040 y = some .gt ∧ FloatKind.f32.format.order 4286578688 y = some .lt := by
  obtain ⟨t, n, j, hq, hn⟩ := read_num32 hy
  have h1 : Ieee.single.read 2139095040 = .infinity false := by decide +kernel
  have h2 : Ieee.single.read 4286578688 = .infinity true := by decide +kernel
  constructor
  · show (Ieee.single.read 2139095040).order (Ieee.single.read y) = _
    rw [h1, hq]; rfl
  · show (Ieee.single.read 4286578688).order (Ieee.single.read y) = _
    rw [h2, hq]; rfl

theorem nan_order {x : Nat} (h : ∃ s f, Ieee.single.read x = .nan s f) (y : Nat) : FloatKind.f32.format.order x y = none := by
  obtain ⟨s, f, h⟩ := h
  show (Ieee.single.read x).order (Ieee.single.read y) = none
  rw [h]
  cases Ieee.single.read y <;> rfl

def ge0 (o : Option Ordering) : Bool := o == some .gt || o == some .eq

def le0 (o : Option Ordering) : Bool := o == some .lt || o == some .eq

def betw (a lo hi : Nat) : Bool := ge0 (FloatKind.f32.format.order a lo) && le0 (FloatKind.f32.format.order a hi)

theorem ge0_compare (a b : Int) : ge0 (some (compare a b)) = decide (b ≤ a) := by
  rcases Int.lt_trichotomy a b with h | h | h
  · rw [Int.compare_eq_lt.2 h, decide_eq_false (by omega)]; rfl
  · rw [Int.compare_eq_eq.2 h, decide_eq_true (by omega)]; rfl
  · rw [Int.compare_eq_gt.2 h, decide_eq_true (by omega)]; rfl

theorem le0_compare (a b : Int) : le0 (some (compare a b)) = decide (a ≤ b) := by
  rcases Int.lt_trichotomy a b with h | h | h
  · rw [Int.compare_eq_lt.2 h, decide_eq_true (by omega)]; rfl
  · rw [Int.compare_eq_eq.2 h, decide_eq_true (by omega)]; rfl
  · rw [Int.compare_eq_gt.2 h, decide_eq_false (by omega)]; rfl

theorem betw_num {a lo hi : Nat} (ha : isNum a) (hl : isNum lo) (hh : isNum hi) : betw a lo hi = (decide (sv lo ≤ sv a) && decide (sv a ≤ sv hi)) := by
  unfold betw
  rw [order_num ha hl, order_num ha hh, ge0_compare, le0_compare]

/-- What lies between two finite numbers is finite, and its value lies between theirs. -/
theorem betw_get {a lo hi : Nat} (hw : (Lit.float .f32 a).wf = true) (hl : isNum lo) (hh : isNum hi) (h : betw a lo hi = true) : isNum a ∧ sv lo ≤ sv a ∧ sv a ≤ sv hi := by
  have hw' : a < 4294967296 := by simpa [Lit.wf] using hw
  rcases word_cases a hw' with c | c | c | c
  · rw [betw_num c hl hh] at h
    simp only [Bool.and_eq_true, decide_eq_true_eq] at h
    exact ⟨c, h⟩
  · subst c
    unfold betw at h
    rw [(inf_order lo hl).1, (inf_order hi hh).1] at h
    cases h
  · subst c
    unfold betw at h
    rw [(inf_order lo hl).2, (inf_order hi hh).2] at h
    cases h
  · unfold betw at h
    rw [nan_order c, nan_order c] at h
    cases h

theorem sv_neg_le (r : Nat) : sv (2147483648 + r) ≤ 0 := by rw [sv_neg]; omega

/-- A number between two that are above 0. -/
theorem betw_above {a lo hi : Nat} (hw : (Lit.float .f32 a).wf = true) (h0 : 0 < lo) (hlh : lo ≤ hi) (hh : hi < 2139095040) (h : betw a lo hi = true) : lo ≤ a ∧ a ≤ hi := by
  obtain ⟨hn, h1, h2⟩ := betw_get hw (.inl (by omega)) (.inl hh) h
  rw [sv_pos (x := lo) (by omega)] at h1
  rw [sv_pos (x := hi) (by omega)] at h2
  have h3 := rv_pos h0
  rcases hn with hn | ⟨hn1, hn2⟩
  · rw [sv_pos (x := a) (by omega)] at h1 h2
    rw [← rv_le_iff (r := lo), ← rv_le_iff (r := a)]
    omega
  · obtain ⟨r, rfl⟩ : ∃ r, a = 2147483648 + r := ⟨a - 2147483648, by omega⟩
    have := sv_neg_le r
    omega

/-- A number from 0 on, -0 among them. -/
theorem betw_zero {a hi : Nat} (hw : (Lit.float .f32 a).wf = true) (hh : hi < 2139095040) (h : betw a 0 hi = true) : a ≤ hi ∨ a = 2147483648 := by
  obtain ⟨hn, h1, h2⟩ := betw_get hw (.inl (by omega)) (.inl hh) h
  have e0 : sv 0 = 0 := rfl
  rw [e0] at h1
  rw [sv_pos (x := hi) (by omega)] at h2
  rcases hn with hn | ⟨hn1, hn2⟩
  · rw [sv_pos (x := a) (by omega)] at h1 h2
    left
    rw [← rv_le_iff (r := a)]
    omega
  · obtain ⟨r, rfl⟩ : ∃ r, a = 2147483648 + r := ⟨a - 2147483648, by omega⟩
    rw [sv_neg] at h1
    by_cases c : r = 0
    · right; omega
    · have := rv_pos (r := r) (by omega)
      omega

end Go.Proofs.YtmbgmpeiicjlaaaGreatDoor

namespace Go.Proofs.YtmbgmpeiicjlaaaGreatDoor

open Go.RowKit

end Go.Proofs.YtmbgmpeiicjlaaaGreatDoor

namespace Go.Proofs.YtmbgmpeiicjlaaaGreatDoor

open Go.ChangeShapes Go.WideShapes Go.ChangeAt Go.RowKit Go.Deep Go.Joins

attribute [local go_sem] run_store_f

def FloatsAt (W : World) (v : Value) (zs : List Nat) : Prop :=
  ∃ a cap, v = .slice a zs.length cap ∧ zs.length ≤ cap ∧ cap ≤ maxLen ∧ ∀ i x, zs[i]? = some x → ∃ g o, a = some ⟨g, o, none⟩ ∧ W.cell? ⟨g, o + i, none⟩ = some (.float .f32 x)

theorem floats_below {W W' : World} {v : Value} {zs : List Nat} (h : FloatsAt W v zs) (hb : Below W.heap.size W W') : FloatsAt W' v zs := by
  obtain ⟨a, cap, h1, h2, h3, h4⟩ := h
  refine ⟨a, cap, h1, h2, h3, fun i x hx => ?_⟩
  obtain ⟨g, o, e, c0⟩ := h4 i x hx
  exact ⟨g, o, e, cell_below hb c0⟩

theorem float_at {W : World} {a : Option Addr} {n cap : Nat} {zs : List Nat} (h : FloatsAt W (.slice a n cap) zs) {k : Nat} {x : Nat} (hx : zs[k]? = some x) :
    ∃ g o, a = some ⟨g, o, none⟩ ∧ W.cell? ⟨g, o + k, none⟩ = some (.float .f32 x) := by
  obtain ⟨a', cap', e, _, _, h4⟩ := h
  injection e with e1 e2 e3
  subst e1
  exact h4 k x hx

theorem info_f32 : (Tryz.prog.info? 25).map (fun i => (i.zero, i.size, i.bytes)) = some (some (.float .f32 0), 1, 4) := by kernel_rfl

theorem make_floats (n : Nat) (hn : n ≤ 1048576) (w : World) : (Instr.makeSlice 49 (.int .i64 (n : Int)) (.int .i64 (n : Int))).run Tryz.prog w = .ok (.slice (some ⟨w.heap.size, 0, none⟩) n n) (w.alloc (.cells (madeCells #[.float .f32 0] n) 25)) := by
  obtain ⟨i0, hi, hz0, hz1, hz2⟩ := info_parts info_f32
  have h := run_make (P := Tryz.prog) w 49 25 i0 _ Tryz.underlying49 hi hz0 .i64 .i64 (n : Int) (n : Int) (by omega) (Int.le_refl _) (by rw [hz2]; omega) (by omega)
  rw [hz1] at h
  simpa [Value.cells] using h

end Go.Proofs.YtmbgmpeiicjlaaaGreatDoor

namespace Go.Proofs.YtmbgmpeiicjlaaaGreatDoor

open Go.ChangeShapes Go.WideShapes Go.ChangeAt Go.RowKit

attribute [local go_sem] run_store_f

/-- Narrow numbers as cells. -/
def f32s (xs : List Nat) : Array Value := (xs.map (Value.float .f32)).toArray

@[simp] theorem f32s_size (xs : List Nat) : (f32s xs).size = xs.length := by simp [f32s]

theorem f32s_get (xs : List Nat) (k : Nat) (h : k < xs.length) : (f32s xs)[k]? = some (.float .f32 (xs[k]?.getD 0)) := by
  simp [f32s, h]

theorem f32s_one (xs : List Nat) : ∀ v ∈ f32s xs, v.oneCell' = true := by
  intro v hv
  simp only [f32s, List.mem_toArray, List.mem_map] at hv
  obtain ⟨x, _, rfl⟩ := hv
  rfl

theorem f32s_set (xs : List Nat) (k : Nat) (n : Nat) : (f32s xs).setIfInBounds k (.float .f32 n) = f32s (xs.set k n) := by
  apply Array.ext'
  simp [f32s, List.map_set]

theorem cell_of_f32s {w : World} {g : Nat} {xs : List Nat} {t : TypeId} {fr : Nat × Nat} (hg : w.heap[g]? = some (.cells (f32s xs) t fr)) (k : Nat) (h : k < xs.length) :
    w.cell? ⟨g, k, none⟩ = some (.float .f32 (xs[k]?.getD 0)) := by
  rw [cell_of_row w g k _ t fr hg, f32s_get xs k h]

set_option maxRecDepth 100000 in
theorem info_floor : (Tryz.prog.info? 35).map (·.size) = some 24 := by kernel_rfl

theorem f32s_all (xs : List Nat) (n : Nat) (h : xs.length = n) : (f32s xs).extract 0 (0 + n) = f32s xs := by
  have e : n = (f32s xs).size := by simp [h]
  rw [Nat.zero_add, e, Array.extract_size]

end Go.Proofs.YtmbgmpeiicjlaaaGreatDoor

namespace Go.Proofs.YtmbgmpeiicjlaaaGreatDoor

open Go.ChangeShapes Go.WideShapes Go.ChangeAt Go.RowKit

theorem run_bits (a : Nat) (w : World) : (callFunc 70 #[.float .f32 a]).run Tryz.prog w = .ok (.value (.int .u32 a)) w := by kernel_rfl

theorem order_selfB (a : Nat) : FloatKind.f32.format.order a a = some .eq ∨ FloatKind.f32.format.order a a = none := by
  show (Ieee.single.read a).order (Ieee.single.read a) = some .eq ∨ _
  generalize hd : Ieee.single.read a = d
  have e : FloatKind.f32.format.order a a = d.order d := by show (Ieee.single.read a).order (Ieee.single.read a) = _; rw [hd]
  rw [e]
  cases d with
  | number s m e => left; simp [Ieee.Datum.order]
  | infinity s => left; simp [Ieee.Datum.order]
  | nan s f => right; rfl

set_option maxHeartbeats 400000 in
theorem numberBits_num (a : Nat) (h : FloatKind.f32.format.order a a = some .eq) (w : World) :
    Calls Tryz.prog 71 #[.float .f32 a] w fun e w' => e = .returned (.int .u32 a) ∧ w = w' := by
  have hb := run_bits a
  go_enter Tryz.func71, Tryz.ntmps71
  go_wp2
  go_ret
  exact ⟨rfl, rfl⟩

set_option maxHeartbeats 400000 in
theorem numberBits_nan (a : Nat) (h : FloatKind.f32.format.order a a = none) (w : World) :
    Calls Tryz.prog 71 #[.float .f32 a] w fun e w' => e = .returned (.int .u32 2143289344) ∧ w = w' := by
  go_enter Tryz.func71, Tryz.ntmps71
  go_wp2
  go_ret
  exact ⟨rfl, rfl⟩

theorem not_nan {a : Nat} (h : FloatKind.f32.format.order a a = some .eq) : ((a : Int) == 2143289344) = false ∧ ((2143289344 : Int) == (a : Int)) = false := by
  have hn : FloatKind.f32.format.order 2143289344 2143289344 = none := by decide +kernel
  have hne : (a : Int) ≠ 2143289344 := fun e => by
    have e' : a = 2143289344 := by omega
    rw [e', hn] at h; cases h
  exact ⟨beq_eq_false_iff_ne.2 hne, beq_eq_false_iff_ne.2 (Ne.symm hne)⟩

end Go.Proofs.YtmbgmpeiicjlaaaGreatDoor

namespace Go.Proofs.YtmbgmpeiicjlaaaGreatDoor

open Go.RowKit

/-- The bits of a number, those of every NaN being told. -/
def nbB (a : Nat) : Int := if FloatKind.f32.format.order a a = some .eq then (a : Int) else 2143289344

def sameB (a b : Nat) : Bool := nbB a == nbB b

theorem nbB_num {a : Nat} (h : FloatKind.f32.format.order a a = some .eq) : nbB a = a := if_pos h

theorem nbB_nan {a : Nat} (h : FloatKind.f32.format.order a a = none) : nbB a = 2143289344 := if_neg (by rw [h]; decide)

theorem numberBits_is (a : Nat) (w : World) : Calls Tryz.prog 71 #[.float .f32 a] w fun e w' => e = .returned (.int .u32 (nbB a)) ∧ w = w' := by
  rcases order_selfB a with h | h
  · rw [nbB_num h]; exact numberBits_num a h w
  · rw [nbB_nan h]; exact numberBits_nan a h w

set_option maxHeartbeats 400000 in
theorem SameNumber_is (a b : Nat) (w : World) : Calls Tryz.prog 89 #[.float .f32 a, .float .f32 b] w fun e w' => e = .returned (.bool (sameB a b)) ∧ w = w' := by
  unfold sameB
  have HA := Lib.hid (fun w => numberBits_is a w)
  have HB := Lib.hid (fun w => numberBits_is b w)
  generalize nbB a = x at *
  generalize nbB b = y at *
  go_enter Tryz.func89, Tryz.ntmps89
  go_wp2_with (go_at_call 71; (first | (with_reducible refine (HA.out _).mono ?_) | (with_reducible refine (HB.out _).mono ?_)); rintro e w' ⟨rfl, rfl⟩)
  go_ret
  exact ⟨rfl, rfl⟩

set_option maxHeartbeats 1000000 in
theorem l01Same_is (a b : Nat) (w : World) : Calls Tryz.prog 41 #[.float .f32 a, .float .f32 b] w fun e w' => e = .returned (.bool (sameB a b)) ∧ w = w' := by
  have ra := run_bits a
  have rb := run_bits b
  unfold sameB
  rcases order_selfB a with ha | ha <;> rcases order_selfB b with hb | hb
  · rw [nbB_num ha, nbB_num hb]
    go_enter Tryz.func41, Tryz.ntmps41
    go_wp2
    go_ret
    exact ⟨rfl, rfl⟩
  · rw [nbB_num ha, nbB_nan hb, (not_nan ha).1]
    go_enter Tryz.func41, Tryz.ntmps41
    go_wp2
    go_ret
    exact ⟨rfl, rfl⟩
  · rw [nbB_nan ha, nbB_num hb, (not_nan hb).2]
    go_enter Tryz.func41, Tryz.ntmps41
    go_wp2
    go_ret
    exact ⟨rfl, rfl⟩
  · rw [nbB_nan ha, nbB_nan hb]
    go_enter Tryz.func41, Tryz.ntmps41
    go_wp2
    go_ret
    exact ⟨rfl, rfl⟩

/-- Whether the numbers of two lists are the same, one by one. -/
def sameL (xs ys : List Nat) : Bool := (xs.zip ys).all fun p => sameB p.1 p.2

theorem sameL_take {xs ys : List Nat} {k : Nat} {x y : Nat} (hx : xs[k]? = some x) (hy : ys[k]? = some y) : sameL (xs.take (k + 1)) (ys.take (k + 1)) = (sameL (xs.take k) (ys.take k) && sameB x y) := by
  obtain ⟨h1, rfl⟩ := List.getElem?_eq_some_iff.1 hx
  obtain ⟨h2, rfl⟩ := List.getElem?_eq_some_iff.1 hy
  unfold sameL
  rw [List.take_succ_eq_append_getElem h1, List.take_succ_eq_append_getElem h2, List.zip_append (by simp; omega)]
  simp

theorem sameL_miss {xs ys : List Nat} {k : Nat} {x y : Nat} (hx : xs[k]? = some x) (hy : ys[k]? = some y) (h : sameB x y = false) : sameL xs ys = false := by
  unfold sameL
  rw [Bool.eq_false_iff]
  intro ha
  have hm : (x, y) ∈ xs.zip ys := List.mem_iff_getElem?.2 ⟨k, by rw [List.getElem?_zip_eq_some]; exact ⟨hx, hy⟩⟩
  have := List.all_eq_true.1 ha _ hm
  rw [h] at this
  cases this

end Go.Proofs.YtmbgmpeiicjlaaaGreatDoor

namespace Go.Proofs.YtmbgmpeiicjlaaaGreatDoor

open Go.ChangeShapes Go.WideShapes Go.ChangeAt Go.RowKit Go.Deep Go.Joins

attribute [local go_sem] run_store_f

/-- Numbers of 32 bits as cells. -/
def u32s (xs : List Int) : Array Value := (xs.map (Value.int .u32)).toArray

@[simp] theorem u32s_size (xs : List Int) : (u32s xs).size = xs.length := by simp [u32s]

theorem u32s_get (xs : List Int) (k : Nat) (h : k < xs.length) : (u32s xs)[k]? = some (.int .u32 (xs[k]?.getD 0)) := by
  simp [u32s, h]

theorem u32s_one (xs : List Int) : ∀ v ∈ u32s xs, v.oneCell' = true := by
  intro v hv
  simp only [u32s, List.mem_toArray, List.mem_map] at hv
  obtain ⟨x, _, rfl⟩ := hv
  rfl

theorem u32s_set (xs : List Int) (k : Nat) (n : Int) : (u32s xs).setIfInBounds k (.int .u32 n) = u32s (xs.set k n) := by
  apply Array.ext'
  simp [u32s, List.map_set]

set_option maxRecDepth 100000 in
theorem info_uarr : (Tryz.prog.info? 77).map (·.size) = some 24 := by kernel_rfl

theorem u32s_all (xs : List Int) (n : Nat) (h : xs.length = n) : (u32s xs).extract 0 (0 + n) = u32s xs := by
  have e : n = (u32s xs).size := by simp [h]
  rw [Nat.zero_add, e, Array.extract_size]

set_option maxRecDepth 100000 in
theorem size_f32 (w : World) : (sizeOf 25).run Tryz.prog w = .ok 1 w := by kernel_rfl

set_option maxRecDepth 100000 in
theorem agg_f32 (w : World) : (isAgg 25).run Tryz.prog w = .ok false w := by kernel_rfl

set_option maxRecDepth 100000 in
theorem size_u32 (w : World) : (sizeOf 30).run Tryz.prog w = .ok 1 w := by kernel_rfl

set_option maxRecDepth 100000 in
theorem agg_u32 (w : World) : (isAgg 30).run Tryz.prog w = .ok false w := by kernel_rfl

theorem part_f32 (xs : List Nat) (i : Nat) (h : i < xs.length) (w : World) : (part 25 (f32s xs) i).run Tryz.prog w = .ok (.float .f32 (xs[i]?.getD 0)) w := by
  unfold part
  rw [Sem.run_bind, agg_f32]
  simp only [Result.andThen_ok, Bool.false_eq_true, if_false, f32s_get xs i h]
  rfl

/-- A number of a floor that is a value. -/
theorem run_index_f (xs : List Nat) (hx : xs.length = 24) (k : Nat) (hk : k < 24) (w : World) : (Instr.index 35 (.agg (f32s xs)) (.int .i64 (k : Int))).run Tryz.prog w = .ok (.float .f32 (xs[k]?.getD 0)) w := by
  have h0 : (0 : Int) ≤ (k : Int) ∧ (k : Int) < ((24 : Nat) : Int) := ⟨Int.natCast_nonneg _, by omega⟩
  unfold Instr.index
  simp only [asIntOf, Sem.run_bind, Sem.run_pure, Result.andThen_ok, run_underlying Tryz.underlying35, if_pos h0, size_f32, Int.toNat_natCast, Nat.mul_one]
  exact part_f32 xs k (by omega) w

theorem part_u32 (xs : List Int) (i : Nat) (h : i < xs.length) (w : World) : (part 30 (u32s xs) i).run Tryz.prog w = .ok (.int .u32 (xs[i]?.getD 0)) w := by
  unfold part
  rw [Sem.run_bind, agg_u32]
  simp only [Result.andThen_ok, Bool.false_eq_true, if_false, u32s_get xs i h]
  rfl

theorem eq_loopU (d : Nat) (xs ys : List Int) (w : World) : ∀ (is : List Nat), (∀ i ∈ is, i < xs.length ∧ i < ys.length) →
    (forIn is ((none, ()) : Option Bool × Unit) (fun i _ => do
      if (!(← Op.equalIn (d + 1) 30 (← part 30 (u32s xs) (i * 1)) (← part 30 (u32s ys) (i * 1)))) = true then pure (ForInStep.done (some false, ()))
      else pure (ForInStep.yield (none, ())))).run Tryz.prog w = .ok (if is.all (fun i => xs[i]?.getD 0 == ys[i]?.getD 0) then (none, ()) else (some false, ())) w
  | [], _ => rfl
  | i :: is, h => by
    have hi := h i (by simp)
    have ih := eq_loopU d xs ys w is (fun j hj => h j (by simp [hj]))
    rw [List.forIn_cons]
    simp only [Nat.mul_one] at ih ⊢
    simp only [Sem.run_bind, part_u32 xs i hi.1, part_u32 ys i hi.2, Result.andThen_ok, run_equalIn_int w d 30 .u32 .u32 _ _ Tryz.underlying30]
    cases hc : (xs[i]?.getD 0 == ys[i]?.getD 0)
    · simp [hc]
    · simp only [Bool.not_true, Bool.false_eq_true, if_false, Sem.run_pure, Result.andThen_ok, List.all_cons, hc, Bool.true_and]
      exact ih

theorem run_eql_uarr (xs ys : List Int) (hx : xs.length = 24) (hy : ys.length = 24) (w : World) :
    (Op.equalIn 10000 77 (.agg (u32s xs)) (.agg (u32s ys))).run Tryz.prog w = .ok (xs == ys) w := by
  have hl := eq_loopU 9998 xs ys w (List.range' 0 24) (fun i hi => by simp [List.mem_range'] at hi; omega)
  rw [all_eq xs ys 24 hx hy] at hl
  rw [Op.equalIn.eq_def]
  simp only [Sem.run_bind, run_underlying Tryz.underlying77, Result.andThen_ok, size_u32]
  rw [Std.Legacy.Range.forIn_eq_forIn_range']
  have e : (Std.Legacy.Range.mk 0 24 1 (by decide)).size = 24 := by decide
  simp only [e]
  erw [hl]
  cases xs == ys <;> rfl

/-- The bits of the first numbers, and noughts. -/
def bitsK (xs : List Nat) (k : Nat) : List Int := (xs.take k).map nbB ++ List.replicate (24 - k) 0

theorem bitsK_len {xs : List Nat} (hx : xs.length = 24) {k : Nat} (hk : k ≤ 24) : (bitsK xs k).length = 24 := by
  unfold bitsK
  simp [hx]
  omega

theorem bitsK_step {xs : List Nat} (hx : xs.length = 24) {k : Nat} (hk : k < 24) : (bitsK xs k).set k (nbB (xs[k]?.getD 0)) = bitsK xs (k + 1) := by
  unfold bitsK
  have e : xs[k]? = some (xs[k]'(by omega)) := List.getElem?_eq_getElem (by omega)
  rw [e, Option.getD_some, List.take_succ_eq_append_getElem (by omega), List.map_append, List.set_append_right _ _ (by simp [hx]; omega)]
  have e2 : 24 - k = (24 - (k + 1)) + 1 := by omega
  have e3 : k - (List.map nbB (List.take k xs)).length = 0 := by simp [hx]; omega
  rw [e3, e2, List.replicate_succ, List.set_cons_zero, List.append_assoc]
  rfl

theorem bitsK_all {xs : List Nat} (hx : xs.length = 24) : bitsK xs 24 = xs.map nbB := by
  unfold bitsK
  rw [List.take_of_length_le (by omega)]
  simp

theorem sameL_bits : ∀ (xs ys : List Nat), xs.length = ys.length → (xs.map nbB == ys.map nbB) = sameL xs ys
  | [], [], _ => rfl
  | x :: xs, y :: ys, h => by
    have ih := sameL_bits xs ys (by simpa using h)
    unfold sameL at ih ⊢
    rw [List.map_cons, List.map_cons, List.zip_cons_cons, List.all_cons, ← ih]
    rfl

set_option maxRecDepth 100000 in
set_option maxHeartbeats 2000000 in
theorem bits_any (xs : List Nat) (hx : xs.length = 24) (w : World) :
    Calls Tryz.prog 43 #[.agg (f32s xs)] w fun e w' => e = .returned (.agg (u32s (xs.map nbB))) ∧ Below w.heap.size w w' := by
  have Hx := Lib.hid hx
  have HI := Lib.hid (fun k hk w => run_index_f xs hx k hk w)
  clear hx
  go_enter Tryz.func43, Tryz.ntmps43
  go_upto_region 3 with (refine wpList_load_part rfl 35 _ rfl w.heap.size 0 24 rfl 35 (f32s xs) (0, 0) _ (by simp only [heap_alloc, World.size_alloc]; rw [if_neg (by omega), if_neg (by omega), if_true]) Tryz.underlying35 rfl info_floor (by rw [f32s_size, Hx.out]; decide) (f32s xs) (f32s_all _ 24 Hx.out) ?_)
  go_loopw [7] (fun i wr => ∃ k : Nat, k ≤ 24 ∧ i = .int .i64 k ∧ Below w.heap.size w wr ∧ wr.heap.size = w.heap.size + 3 ∧ wr.heap[w.heap.size + 1]? = some (.cells (u32s (List.replicate 24 0)) 77 (0, 0)) ∧ wr.heap[w.heap.size + 1 + 1]? = some (.cells (u32s (bitsK xs k)) 77 (0, 0))) (fun i _ => 24 - (intOf i).toNat)
  case atStart =>
    refine ⟨0, Nat.zero_le _, rfl, ?_, ?_, ?_, ?_⟩
    · exact (((Below.refl _ _).alloc (Nat.le_refl _) _).alloc (by simp) _).alloc (by simp; omega) _
    · simp
    all_goals simp only [heap_alloc, World.size_alloc]
    · rw [if_neg (by omega), if_true]; rfl
    · rw [if_true]; rfl
  case round =>
    obtain ⟨k, hk, rfl, hb, hs, h1, h2⟩ := hrel
    by_cases hlt : k < 24
    · have hi := HI.out k hlt
      have hN := fun w => numberBits_is (xs[k]?.getD 0) w
      have hst := bitsK_step Hx.out hlt
      have hf := frozen_of_row wr (w.heap.size + 1 + 1) k _ _ h2
      have hl2 := bitsK_len Hx.out hk
      have hd : wr.cell? ⟨w.heap.size + 1 + 1, k, none⟩ = some (.int .u32 ((bitsK xs k)[k]?.getD 0)) := by rw [cell_of_row wr _ _ _ _ _ h2, u32s_get _ _ (by omega)]
      have H2 := Lib.hid h2
      have H1 := Lib.hid h1
      have Hs := Lib.hid hs
      have Hst := Lib.hid hst
      have HN := Lib.hid hN
      have z1 : (k : Int) < 24 := by omega
      have z2 : (0 : Int) ≤ (k : Int) := by omega
      generalize xs[k]?.getD 0 = x at *
      generalize nbB x = bx at *
      clear h1 h2 hs hst hl2 hN
      go_wp2_with (go_at_call 71; refine (HN.out _).mono ?_; rintro e w' ⟨rfl, rfl⟩)
      go_roundw
      case rel =>
        refine ⟨k + 1, by omega, by go_num, hb.setCell (by simp; omega) _, ?_, ?_, ?_⟩
        · rw [← Hs.out]; simp
        · rw [heap_setCell_other _ _ _ _ (by simp)]; exact H1.out
        · rw [heap_setCell_same _ _ _ _ _ _ H2.out, u32s_set, Hst.out]
      case measure => simp [intOf]; omega
    · obtain rfl : k = 24 := by omega
      have e24 := bitsK_all Hx.out
      rw [e24] at h2
      have hm : (xs.map nbB).length = 24 := by rw [List.length_map]; exact Hx.out
      have Hm := Lib.hid hm
      have H2 := Lib.hid h2
      have H1 := Lib.hid h1
      have Hs := Lib.hid hs
      clear h1 h2 hs e24 hlt hk hm HI
      go_wp2_with (first | (refine wpList_load_part rfl 77 _ rfl _ _ 24 rfl _ _ _ _ H2.out Tryz.underlying77 rfl info_uarr (by rw [u32s_size, Hm.out]; decide) _ (u32s_all _ 24 Hm.out) ?_) | (refine wpList_store_part rfl 77 _ _ rfl _ _ _ rfl rfl _ _ H1.out (by rw [u32s_size, Hm.out]; exact info_uarr) (by simp [Hx.out]) (u32s_one _) ?_; rw [laid_all _ _ (by simp [Hx.out])]))
      exact bodyPost_ret (results_cell_row rfl _ _ _ _ _ _ _ rfl (setRow_heap _ _ _ _ _ _ H1.out) Tryz.underlying77 rfl (by rw [u32s_size, Hm.out]; exact info_uarr)) rfl ⟨rfl, below_setRow hb (by omega) _⟩

set_option maxRecDepth 100000 in
set_option maxHeartbeats 2000000 in
theorem SameFloor_any (xs ys : List Nat) (hx : xs.length = 24) (hy : ys.length = 24) (w : World) :
    Calls Tryz.prog 15 #[.agg (f32s xs), .agg (f32s ys)] w fun e w' => e = .returned (.bool (sameL xs ys)) ∧ Below w.heap.size w w' := by
  have hq1 := run_eql_uarr (xs.map nbB) (ys.map nbB) (by simpa using hx) (by simpa using hy)
  rw [sameL_bits xs ys (by omega)] at hq1
  have hgd1 := fun w => run_eqGuard_agg (P := Tryz.prog) w .eql 77 (.tmp 6) (.tmp 8) (u32s (xs.map nbB)) (u32s (ys.map nbB)) (by kernel_rfl)
  have Hx := Lib.hid hx
  have Hy := Lib.hid hy
  clear hx hy
  go_enter Tryz.func15, Tryz.ntmps15
  go_upto_region 1 with (fail)
  refine abs_code (fun W => W.heap[w.heap.size]? = some (.cells (f32s xs) 35 (0, 0)) ∧ W.heap[w.heap.size + 1]? = some (.cells (f32s ys) 35 (0, 0)) ∧ Below w.heap.size w W) ⟨heap_alloc2_old _ _ _, heap_alloc2_new _ _ _, ((Below.refl _ _).alloc (Nat.le_refl _) _).alloc (by simp) _⟩ ?_
  rintro W ⟨h0, h1, hb⟩
  generalize w.heap.size + 1 = b1 at *
  refine wp_region_held_drew (S := (fun W => W.heap[w.heap.size]? = some (.cells (f32s xs) 35 (0, 0)) ∧ W.heap[b1]? = some (.cells (f32s ys) 35 (0, 0)) ∧ Below w.heap.size w W)) (by kernel_rfl) ⟨h0, h1, hb.drew⟩ (fun hHeld => ?_)
  refine take_op (i := 0) (d := 5) (v := .agg (f32s xs)) rfl rfl (by kernel_rfl) (by kernel_rfl) (by kernel_rfl) (fun _ _ _ h => h) (yields_row (by rfl) 35 (.tmp 2) (by rfl) w.heap.size 0 24 (by rfl) 35 (f32s xs) (0, 0) _ (fun _ h => h.1) Tryz.underlying35 rfl info_floor (by rw [f32s_size, Hx.out]; decide) (f32s xs) (f32s_all _ 24 Hx.out)) hHeld ?_
  simp only [List.setIfInBounds_toArray, List.set_cons_zero, List.set_cons_succ]
  refine take_op (i := 2) (d := 7) (v := .agg (f32s ys)) rfl rfl (by kernel_rfl) (by kernel_rfl) (by kernel_rfl) (fun _ _ _ h => h) (yields_row (by rfl) 35 (.tmp 3) (by rfl) b1 0 24 (by rfl) 35 (f32s ys) (0, 0) _ (fun _ h => h.2.1) Tryz.underlying35 rfl info_floor (by rw [f32s_size, Hy.out]; decide) (f32s ys) (f32s_all _ 24 Hy.out)) hHeld ?_
  simp only [List.setIfInBounds_toArray, List.set_cons_zero, List.set_cons_succ]
  refine wpAnyH_ready (rs := [1]) (by kernel_rfl) (by simp) ?_
  refine AllReadyH.cons rfl (fun K hK => ?_) AllReadyH.nil
  go_simp
  refine (bits_any xs Hx.out _).mono ?_
  rintro e W1 ⟨rfl, hb1⟩
  refine hK.out _ _ (⟨below_row hb1 hHeld.1, below_row hb1 hHeld.2.1, hHeld.2.2.trans (hb1.mono hHeld.2.2.size)⟩) (fun hHeld2 => ?_)
  clear hK K
  replace hHeld := hHeld2
  clear hHeld2
  refine wpAnyH_ready (rs := [3]) (by kernel_rfl) (by simp) ?_
  refine AllReadyH.cons rfl (fun K hK => ?_) AllReadyH.nil
  go_simp
  refine (bits_any ys Hy.out _).mono ?_
  rintro e W1 ⟨rfl, hb1⟩
  refine hK.out _ _ (⟨below_row hb1 hHeld.1, below_row hb1 hHeld.2.1, hHeld.2.2.trans (hb1.mono hHeld.2.2.size)⟩) (fun hHeld2 => ?_)
  clear hK K
  replace hHeld := hHeld2
  clear hHeld2
  refine take_op (i := 4) (d := 9) (v := ?_) rfl rfl (by kernel_rfl) (by kernel_rfl) (by kernel_rfl) (fun _ _ _ h => h) (Or.inl ⟨by rfl, ?hy4u1⟩) hHeld ?rest4u1
  case hy4u1 =>
    intro w' hS'
    go_simp
    try with_reducible rfl
  simp only [List.setIfInBounds_toArray, List.set_cons_zero, List.set_cons_succ]
  refine take_op (i := 5) (d := 4) (v := ?_) rfl rfl (by kernel_rfl) (by kernel_rfl) (by kernel_rfl) (fun _ _ _ h => h) (Or.inl ⟨by rfl, ?hy5u2⟩) hHeld ?rest5u2
  case hy5u2 =>
    intro w' hS'
    go_simp
    try with_reducible rfl
  simp only [List.setIfInBounds_toArray, List.set_cons_zero, List.set_cons_succ]
  refine wpAnyH_done (by kernel_rfl) ?_ _
  have hbx := hHeld.2.2
  clear hHeld h0 h1 hb
  go_wp2
  go_ret
  exact ⟨rfl, hbx⟩

theorem l01Same_is6a (a b : Nat) (r : Bool) (hr : sameB a b = r) (w : World) : Calls Tryz.prog 41 #[.float .f32 a, .float .f32 b] w fun e w' => e = .returned (.bool r) ∧ w = w' := by subst hr; exact l01Same_is a b w

set_option maxRecDepth 100000 in
set_option maxHeartbeats 4000000 in
theorem specSameFloor_any (xs ys : List Nat) (hx : xs.length = 24) (hy : ys.length = 24) (w : World) :
    Calls Tryz.prog 14 #[.agg (f32s xs), .agg (f32s ys)] w fun e w' => e = .returned (.bool (sameL xs ys)) ∧ Below w.heap.size w w' := by
  have Hx := Lib.hid hx
  have Hy := Lib.hid hy
  clear hx hy
  go_enter Tryz.func14, Tryz.ntmps14
  go_upto_region 1 with (fail)
  refine abs_code (fun W => W.heap[w.heap.size]? = some (.cells (f32s xs) 35 (0, 0)) ∧ W.heap[w.heap.size + 1]? = some (.cells (f32s ys) 35 (0, 0)) ∧ Below w.heap.size w W) ⟨heap_alloc2_old _ _ _, heap_alloc2_new _ _ _, ((Below.refl _ _).alloc (Nat.le_refl _) _).alloc (by simp) _⟩ ?_
  rintro W ⟨h0, h1, hb⟩
  generalize w.heap.size + 1 = b1 at *
  go_upto_region 2 with (fail)
  go_loopw [5] (fun i wr => ∃ k : Nat, k ≤ 24 ∧ i = .int .i64 k ∧ Hid (sameL (xs.take k) (ys.take k) = true) ∧ wr.heap[w.heap.size]? = some (.cells (f32s xs) 35 (0, 0)) ∧ wr.heap[b1]? = some (.cells (f32s ys) 35 (0, 0)) ∧ Below w.heap.size w wr) (fun i _ => 24 - (intOf i).toNat)
  case atStart => exact ⟨0, Nat.zero_le _, rfl, Lib.hid rfl, h0, h1, hb⟩
  case round =>
    clear h0 h1 hb
    obtain ⟨k, hk, rfl, hsame, h0, h1, hb⟩ := hrel
    by_cases hlt : k < 24
    · have ex : xs[k]? = some (xs[k]'(by rw [Hx.out]; exact hlt)) := List.getElem?_eq_getElem _
      have ey : ys[k]? = some (ys[k]'(by rw [Hy.out]; exact hlt)) := List.getElem?_eq_getElem _
      have EX : Hid (xs[k]?.getD 0 = (xs[k]'(by rw [Hx.out]; exact hlt))) := by rw [ex]; rfl
      have EY : Hid (ys[k]?.getD 0 = (ys[k]'(by rw [Hy.out]; exact hlt))) := by rw [ey]; rfl
      have hstep := sameL_take ex ey
      have hmiss := sameL_miss ex ey
      generalize (xs[k]'(by rw [Hx.out]; exact hlt)) = x at *
      generalize (ys[k]'(by rw [Hy.out]; exact hlt)) = y at *
      rw [hsame.out, Bool.true_and] at hstep
      have H0 := Lib.hid h0
      have H1 := Lib.hid h1
      have HT := Lib.hid hstep
      have HM := Lib.hid hmiss
      have z1 : (k : Int) < 24 := by omega
      have z2 : (0 : Int) ≤ (k : Int) := by omega
      clear h0 h1 hstep hmiss ex ey
      rcases he : sameB x y with _ | _
      · rw [he] at HT HM
        have HE : Hid (sameB x y = false) := he
        clear he
        go_wp2
        refine wp_region_held_drew (S := (fun W => W.heap[w.heap.size]? = some (.cells (f32s xs) 35 (0, 0)) ∧ W.heap[b1]? = some (.cells (f32s ys) 35 (0, 0)) ∧ Below w.heap.size w W)) (by kernel_rfl) ⟨H0.out, H1.out, hb.drew⟩ (fun hHeld => ?_)
        refine take_op (i := 0) (d := 10) (v := ?_) rfl rfl (by kernel_rfl) (by kernel_rfl) (by kernel_rfl) (fun _ _ _ h => h) (Or.inl ⟨by rfl, ?hy0u3⟩) hHeld ?rest0u3
        case hy0u3 =>
          intro w' hS'
          go_simp
          try with_reducible rfl
        simp only [List.setIfInBounds_toArray, List.set_cons_zero, List.set_cons_succ]
        refine take_op (i := 1) (d := 11) (v := ?_) rfl rfl (by kernel_rfl) (by kernel_rfl) (by kernel_rfl) (fun _ _ _ h => h) (Or.inl ⟨by rfl, ?hy1u4⟩) hHeld ?rest1u4
        case hy1u4 =>
          intro w' hS'
          go_simp
          try with_reducible rfl
        simp only [List.setIfInBounds_toArray, List.set_cons_zero, List.set_cons_succ]
        refine take_op (i := 2) (d := 12) (v := ?_) rfl rfl (by kernel_rfl) (by kernel_rfl) (by kernel_rfl) (fun _ _ _ h => h) (Or.inl ⟨by rfl, ?hy2u5⟩) hHeld ?rest2u5
        case hy2u5 =>
          intro w' hS'
          obtain ⟨s1, s2, _⟩ := hS'
          have q1 := cell_of_f32s s1 k (by rw [Hx.out]; exact hlt)
          have q2 := cell_of_f32s s2 k (by rw [Hy.out]; exact hlt)
          rw [EX.out] at q1
          rw [EY.out] at q2
          clear s1 s2
          go_simp
          try with_reducible rfl
        simp only [List.setIfInBounds_toArray, List.set_cons_zero, List.set_cons_succ]
        refine take_op (i := 3) (d := 13) (v := ?_) rfl rfl (by kernel_rfl) (by kernel_rfl) (by kernel_rfl) (fun _ _ _ h => h) (Or.inl ⟨by rfl, ?hy3u6⟩) hHeld ?rest3u6
        case hy3u6 =>
          intro w' hS'
          go_simp
          try with_reducible rfl
        simp only [List.setIfInBounds_toArray, List.set_cons_zero, List.set_cons_succ]
        refine take_op (i := 4) (d := 14) (v := ?_) rfl rfl (by kernel_rfl) (by kernel_rfl) (by kernel_rfl) (fun _ _ _ h => h) (Or.inl ⟨by rfl, ?hy4u7⟩) hHeld ?rest4u7
        case hy4u7 =>
          intro w' hS'
          go_simp
          try with_reducible rfl
        simp only [List.setIfInBounds_toArray, List.set_cons_zero, List.set_cons_succ]
        refine take_op (i := 5) (d := 15) (v := ?_) rfl rfl (by kernel_rfl) (by kernel_rfl) (by kernel_rfl) (fun _ _ _ h => h) (Or.inl ⟨by rfl, ?hy5u8⟩) hHeld ?rest5u8
        case hy5u8 =>
          intro w' hS'
          obtain ⟨s1, s2, _⟩ := hS'
          have q1 := cell_of_f32s s1 k (by rw [Hx.out]; exact hlt)
          have q2 := cell_of_f32s s2 k (by rw [Hy.out]; exact hlt)
          rw [EX.out] at q1
          rw [EY.out] at q2
          clear s1 s2
          go_simp
          try with_reducible rfl
        simp only [List.setIfInBounds_toArray, List.set_cons_zero, List.set_cons_succ]
        refine wpAnyH_ready (rs := [6]) (by kernel_rfl) (by simp) ?_
        refine AllReadyH.cons rfl (fun K hK => ?_) AllReadyH.nil
        go_simp
        refine (l01Same_is6a x y _ (HE.out) _).mono ?_
        rintro e w' ⟨rfl, rfl⟩
        refine hK.out _ _ (hHeld) (fun hHeld2 => ?_)
        clear hK K
        replace hHeld := hHeld2
        clear hHeld2
        refine take_op (i := 7) (d := 17) (v := ?_) rfl rfl (by kernel_rfl) (by kernel_rfl) (by kernel_rfl) (fun _ _ _ h => h) (Or.inl ⟨by rfl, ?hy7u9⟩) hHeld ?rest7u9
        case hy7u9 =>
          intro w' hS'
          go_simp
          try with_reducible rfl
        simp only [List.setIfInBounds_toArray, List.set_cons_zero, List.set_cons_succ]
        refine wpAnyH_done (by kernel_rfl) ?_ _
        obtain ⟨d0, d1, hbx⟩ := hHeld
        have hr := HM.out (by first | rfl | trivial)
        clear H0 H1 HT HM d0 d1
        go_wp2
        go_ret
        rw [hr]
        exact ⟨rfl, hbx⟩
      · rw [he] at HT
        have HE : Hid (sameB x y = true) := he
        clear he
        go_wp2
        refine wp_region_held_drew (S := (fun W => W.heap[w.heap.size]? = some (.cells (f32s xs) 35 (0, 0)) ∧ W.heap[b1]? = some (.cells (f32s ys) 35 (0, 0)) ∧ Below w.heap.size w W)) (by kernel_rfl) ⟨H0.out, H1.out, hb.drew⟩ (fun hHeld => ?_)
        refine take_op (i := 0) (d := 10) (v := ?_) rfl rfl (by kernel_rfl) (by kernel_rfl) (by kernel_rfl) (fun _ _ _ h => h) (Or.inl ⟨by rfl, ?hy0u10⟩) hHeld ?rest0u10
        case hy0u10 =>
          intro w' hS'
          go_simp
          try with_reducible rfl
        simp only [List.setIfInBounds_toArray, List.set_cons_zero, List.set_cons_succ]
        refine take_op (i := 1) (d := 11) (v := ?_) rfl rfl (by kernel_rfl) (by kernel_rfl) (by kernel_rfl) (fun _ _ _ h => h) (Or.inl ⟨by rfl, ?hy1u11⟩) hHeld ?rest1u11
        case hy1u11 =>
          intro w' hS'
          go_simp
          try with_reducible rfl
        simp only [List.setIfInBounds_toArray, List.set_cons_zero, List.set_cons_succ]
        refine take_op (i := 2) (d := 12) (v := ?_) rfl rfl (by kernel_rfl) (by kernel_rfl) (by kernel_rfl) (fun _ _ _ h => h) (Or.inl ⟨by rfl, ?hy2u12⟩) hHeld ?rest2u12
        case hy2u12 =>
          intro w' hS'
          obtain ⟨s1, s2, _⟩ := hS'
          have q1 := cell_of_f32s s1 k (by rw [Hx.out]; exact hlt)
          have q2 := cell_of_f32s s2 k (by rw [Hy.out]; exact hlt)
          rw [EX.out] at q1
          rw [EY.out] at q2
          clear s1 s2
          go_simp
          try with_reducible rfl
        simp only [List.setIfInBounds_toArray, List.set_cons_zero, List.set_cons_succ]
        refine take_op (i := 3) (d := 13) (v := ?_) rfl rfl (by kernel_rfl) (by kernel_rfl) (by kernel_rfl) (fun _ _ _ h => h) (Or.inl ⟨by rfl, ?hy3u13⟩) hHeld ?rest3u13
        case hy3u13 =>
          intro w' hS'
          go_simp
          try with_reducible rfl
        simp only [List.setIfInBounds_toArray, List.set_cons_zero, List.set_cons_succ]
        refine take_op (i := 4) (d := 14) (v := ?_) rfl rfl (by kernel_rfl) (by kernel_rfl) (by kernel_rfl) (fun _ _ _ h => h) (Or.inl ⟨by rfl, ?hy4u14⟩) hHeld ?rest4u14
        case hy4u14 =>
          intro w' hS'
          go_simp
          try with_reducible rfl
        simp only [List.setIfInBounds_toArray, List.set_cons_zero, List.set_cons_succ]
        refine take_op (i := 5) (d := 15) (v := ?_) rfl rfl (by kernel_rfl) (by kernel_rfl) (by kernel_rfl) (fun _ _ _ h => h) (Or.inl ⟨by rfl, ?hy5u15⟩) hHeld ?rest5u15
        case hy5u15 =>
          intro w' hS'
          obtain ⟨s1, s2, _⟩ := hS'
          have q1 := cell_of_f32s s1 k (by rw [Hx.out]; exact hlt)
          have q2 := cell_of_f32s s2 k (by rw [Hy.out]; exact hlt)
          rw [EX.out] at q1
          rw [EY.out] at q2
          clear s1 s2
          go_simp
          try with_reducible rfl
        simp only [List.setIfInBounds_toArray, List.set_cons_zero, List.set_cons_succ]
        refine wpAnyH_ready (rs := [6]) (by kernel_rfl) (by simp) ?_
        refine AllReadyH.cons rfl (fun K hK => ?_) AllReadyH.nil
        go_simp
        refine (l01Same_is6a x y _ (HE.out) _).mono ?_
        rintro e w' ⟨rfl, rfl⟩
        refine hK.out _ _ (hHeld) (fun hHeld2 => ?_)
        clear hK K
        replace hHeld := hHeld2
        clear hHeld2
        refine take_op (i := 7) (d := 17) (v := ?_) rfl rfl (by kernel_rfl) (by kernel_rfl) (by kernel_rfl) (fun _ _ _ h => h) (Or.inl ⟨by rfl, ?hy7u16⟩) hHeld ?rest7u16
        case hy7u16 =>
          intro w' hS'
          go_simp
          try with_reducible rfl
        simp only [List.setIfInBounds_toArray, List.set_cons_zero, List.set_cons_succ]
        refine wpAnyH_done (by kernel_rfl) ?_ _
        obtain ⟨d0, d1, hbx⟩ := hHeld
        clear H0 H1 hb HM
        go_wp2
        go_roundw
        case rel => exact ⟨k + 1, by omega, by go_num, HT, d0, d1, hbx⟩
        case measure => simp [intOf]; omega
    · obtain rfl : k = 24 := by omega
      have e1 : xs.take 24 = xs := List.take_of_length_le (by rw [Hx.out]; exact Nat.le_refl _)
      have e2 : ys.take 24 = ys := List.take_of_length_le (by rw [Hy.out]; exact Nat.le_refl _)
      rw [e1, e2] at hsame
      clear h0 h1
      go_wp2
      go_ret
      rw [hsame.out]
      exact ⟨rfl, hb⟩

end Go.Proofs.YtmbgmpeiicjlaaaGreatDoor

namespace Go.Proofs.YtmbgmpeiicjlaaaGreatDoor

open Go.RowKit

def packP (p : Nat → Bool) : Nat → Nat
  | 0 => 0
  | k + 1 => if p k then packP p k ||| 2 ^ k else packP p k

theorem packP_lt (p : Nat → Bool) : ∀ k, packP p k < 2 ^ k
  | 0 => by show 0 < 1; decide
  | k + 1 => by
    have ih := packP_lt p k
    have h2 : 2 ^ (k + 1) = 2 * 2 ^ k := by rw [Nat.pow_succ]; omega
    rw [packP]
    split
    · exact Nat.or_lt_two_pow (by omega) (by omega)
    · omega

theorem packP_congr {p q : Nat → Bool} : ∀ k, (∀ j, j < k → p j = q j) → packP p k = packP q k
  | 0, _ => rfl
  | k + 1, h => by rw [packP, packP, h k (by omega), packP_congr k (fun j hj => h j (by omega))]

theorem packP_bit (p : Nat → Bool) (j : Nat) : ∀ k, (packP p k).testBit j = (decide (j < k) && p j)
  | 0 => by simp [packP]
  | k + 1 => by
    have ih := packP_bit p j k
    rw [packP]
    split
    · next h =>
      rw [Nat.testBit_or, ih, Nat.testBit_two_pow]
      by_cases e : k = j
      · subst e; simp [h]
      · have : decide (k = j) = false := decide_eq_false e
        rw [this, Bool.or_false]
        have : decide (j < k + 1) = decide (j < k) := by simp; omega
        rw [this]
    · next h =>
      rw [ih]
      by_cases e : j = k
      · subst e; simp [h]
      · have : decide (j < k + 1) = decide (j < k) := by simp; omega
        rw [this]

theorem two32 (k : Nat) (h : k ≤ 31) : 2 ^ k < 4294967296 := by
  have : 2 ^ k ≤ 2 ^ 31 := Nat.pow_le_pow_right (by decide) h
  omega

theorem packP_32 (p : Nat → Bool) (k : Nat) (h : k ≤ 32) : packP p k < 4294967296 := by
  have h1 := packP_lt p k
  have : 2 ^ k ≤ 2 ^ 32 := Nat.pow_le_pow_right (by decide) h
  omega

theorem packP_step (p : Nat → Bool) (k : Nat) (h : k ≤ 31) :
    (p k = true → packP p (k + 1) = (packP p k ||| 2 ^ k)) ∧ (p k = false → packP p (k + 1) = packP p k) ∧ (2 : Int) ^ k % 4294967296 = (2 : Int) ^ k ∧ bits .or .u32 (packP p k : Int) ((2 : Int) ^ k) = ((packP p k ||| 2 ^ k : Nat) : Int) := by
  have h2 := two32 k h
  have hp := packP_32 p k (by omega)
  have ec : (2 : Int) ^ k = ((2 ^ k : Nat) : Int) := by rw [Int.natCast_pow]; rfl
  refine ⟨fun hg => by rw [packP, hg, if_pos rfl], fun hg => by rw [packP, hg, if_neg (by decide)], ?_, ?_⟩
  · rw [ec]
    have h3 : (0 : Int) ≤ ((2 ^ k : Nat) : Int) := Int.natCast_nonneg _
    have h4 : ((2 ^ k : Nat) : Int) < ((4294967296 : Nat) : Int) := Int.ofNat_lt.2 h2
    exact Int.emod_eq_of_lt h3 h4
  · rw [ec]; exact u32_or_nat _ _ hp h2

end Go.Proofs.YtmbgmpeiicjlaaaGreatDoor

namespace Go.Proofs.YtmbgmpeiicjlaaaGreatDoor

open Go

/-- The size of a number. -/
def sizeB (x : Nat) : Nat := if 2147483648 < x then x - 2147483648 else x

theorem sub_neg {r : Nat} (h : r < 2139095040) : floatBits .sub .f32 0 (2147483648 + r) = some r := by
  obtain ⟨m, i, hr, hm⟩ := read_neg h
  have hz : Ieee.single.read 0 = .number false 0 (-149) := by decide
  show Ieee.single.sub 0 (2147483648 + r) = some r
  unfold Ieee.Format.sub
  rw [hz, hr]
  have e0 : min (-149 : Int) (-149 + (i : Int)) = -149 := by omega
  have e2 : (-149 + (i : Int) - (-149 : Int)).toNat = i := by omega
  simp only [Ieee.Datum.opposite, Ieee.Datum.sum, Option.map_some, Ieee.Format.write, e0, e2, Bool.not_true, signed_false]
  have e3 : (((0 * 2 ^ (-149 - (-149 : Int)).toNat : Nat) : Int) + ((m * 2 ^ i : Nat) : Int)) = ((m * 2 ^ i : Nat) : Int) := by simp
  rw [e3, Int.natAbs_natCast]
  have e5 : (if ((m * 2 ^ i : Nat) : Int) = 0 then (false && false) else decide (((m * 2 ^ i : Nat) : Int) < 0)) = false := by
    split
    · rfl
    · exact decide_eq_false (by omega)
  rw [e5]
  have hR := nearest_rnd (m * 2 ^ i) (-149) 0 0 (by omega)
  rw [hm] at hR ⊢
  rw [rnd_exact hR (r := r) (by omega) (by decide) rfl]

theorem neg_neg {r : Nat} (h : r < 2147483648) : Op.negFloat .f32 (2147483648 + r) = r := by
  show (2147483648 + r) ^^^ 2 ^ 31 = r
  have e : 2147483648 + r = 2 ^ 31 ||| r := by
    have := Nat.two_pow_add_eq_or_of_lt (i := 31) (b := r) h 1
    simpa using this
  rw [e]
  apply Nat.eq_of_testBit_eq
  intro j
  rw [Nat.testBit_xor, Nat.testBit_or, Nat.testBit_two_pow]
  by_cases c : 31 = j
  · subst c
    rw [Nat.testBit_lt_two_pow h]; decide
  · simp [c]

theorem sizeB_neg {r : Nat} (h : 0 < r) : sizeB (2147483648 + r) = r := by
  unfold sizeB
  rw [if_pos (by omega)]; omega

theorem sizeB_pos {x : Nat} (h : x ≤ 2147483648) : sizeB x = x := if_neg (by omega)

/-- A finite number is below 0, or it is its own size. -/
theorem size_cases {x : Nat} (h : isNum x) : (∃ r, 0 < r ∧ r < 2139095040 ∧ x = 2147483648 + r ∧ FloatKind.f32.format.order x 0 = some .lt) ∨ (x ≤ 2147483648 ∧ (FloatKind.f32.format.order x 0 = some .eq ∨ FloatKind.f32.format.order x 0 = some .gt)) := by
  have h0 : sv 0 = 0 := rfl
  rcases h with h | ⟨h1, h2⟩
  · right
    refine ⟨by omega, ?_⟩
    rw [order_num (.inl h) (.inl (by decide)), h0, sv_pos (by omega)]
    by_cases c : rv x = 0
    · left; rw [c]; rfl
    · right; congr 1; exact Int.compare_eq_gt.2 (by omega)
  · obtain ⟨r, rfl⟩ : ∃ r, x = 2147483648 + r := ⟨x - 2147483648, by omega⟩
    by_cases c : r = 0
    · subst c
      right
      exact ⟨Nat.le_refl _, .inl (by decide +kernel)⟩
    · left
      refine ⟨r, by omega, by omega, rfl, ?_⟩
      rw [order_num (.inr ⟨h1, h2⟩) (.inl (by decide)), h0, sv_neg]
      have := rv_pos (r := r) (by omega)
      congr 1; exact Int.compare_eq_lt.2 (by omega)

theorem sine_size_nat : ∀ n : Nat, n < 256 → (decide (sineB (n : Int) < 2139095040) || decide (2147483648 ≤ sineB (n : Int) ∧ sineB (n : Int) < 4286578688)) = true ∧ sizeB (sineB (n : Int)) ≤ 1065353216 := by decide +kernel

theorem sine_isNum (a : Int) : isNum (sineB (angB a)) := by
  have h0 := angB_lo a
  have h1 := angB_hi a
  generalize angB a = n at *
  obtain ⟨m, rfl⟩ := Int.eq_ofNat_of_zero_le h0
  have h := (sine_size_nat m (by omega)).1
  simp only [Bool.or_eq_true, decide_eq_true_eq] at h
  exact h

theorem sine_size (a : Int) : sizeB (sineB (angB a)) ≤ 1065353216 := by
  have h0 := angB_lo a
  have h1 := angB_hi a
  generalize angB a = n at *
  obtain ⟨m, rfl⟩ := Int.eq_ofNat_of_zero_le h0
  exact (sine_size_nat m (by omega)).2

theorem cos_high_nat : ∀ n : Nat, n < 63 → 1019794704 ≤ cosB ((n : Int) + 1) ∧ cosB ((n : Int) + 1) ≤ 1065353216 := by decide +kernel

theorem cos_high (h : Int) (h0 : 1 ≤ h) (h1 : h < 64) : 1019794704 ≤ cosB h ∧ cosB h ≤ 1065353216 := by
  obtain ⟨n, rfl⟩ : ∃ n : Nat, h = (n : Int) + 1 := ⟨(h - 1).toNat, by omega⟩
  exact cos_high_nat n (by omega)

theorem cos_top : cosB 64 = 0 := by decide +kernel

/-! ### Products, quotients and sums grow with their operands -/

theorem mul_mono {x X y Y : Nat} (hX : X < 2139095040) (hY : Y < 2139095040) (hx : x ≤ X) (hy : y ≤ Y) : fmul x y ≤ fmul X Y :=
  rnd_mono (mul_rnd (by omega) (by omega)).2 (mul_rnd hX hY).2 (Nat.two_pow_pos _) (Nat.two_pow_pos _) (Nat.mul_le_mul_right _ (Nat.mul_le_mul (rv_le hx) (rv_le hy)))

theorem div_mono {x X y Y : Nat} (hX : X < 2139095040) (hy' : y < 2139095040) (hY : 0 < Y) (hx : x ≤ X) (hy : Y ≤ y) : fdiv x y ≤ fdiv X Y := by
  refine rnd_mono (div_rnd (by omega) hy' (by omega)).2 (div_rnd hX (by omega) hY).2 (rv_pos (by omega)) (rv_pos hY) ?_
  exact Nat.mul_le_mul (Nat.mul_le_mul_right _ (rv_le hx)) (rv_le hy)

theorem add_mono {x X y Y : Nat} (hX : X < 2139095040) (hY : Y < 2139095040) (hx : x ≤ X) (hy : y ≤ Y) : fadd x y ≤ fadd X Y :=
  rnd_mono (add_rnd (by omega) (by omega)).2 (add_rnd hX hY).2 (by decide) (by decide) (by rw [Nat.mul_one, Nat.mul_one]; exact Nat.add_le_add (rv_le hx) (rv_le hy))

/-! ### What is blocked -/

def min1 (q : Nat) : Nat := if 1065353216 < q then 1065353216 else q

def quoB (wd gp : Nat) (t h : Int) : Nat := fdiv (fmul wd (sizeB (sineB (angB (h + t))))) (fmul gp (cosB h))

def blkB (wd gp : Nat) (t h : Int) : Nat := if h = 64 then 1065353216 else min1 (quoB wd gp t h)

def opnB (wd gp : Nat) (t h : Int) : Nat := fsub 1065353216 (blkB wd gp t h)

def bncB (wd gp : Nat) (t : Int) (sh : Nat) (h : Int) : Nat := fdiv (fmul (fmul (blkB wd gp t h) sh) (opnB wd gp t 1)) 1073741824

def pasB (wd gp : Nat) (t : Int) (sh : Nat) (h : Int) : Nat := fadd (opnB wd gp t h) (bncB wd gp t sh h)

theorem blk_facts {wd gp : Nat} {t h : Int} (w0 : 1031798784 ≤ wd) (w1 : wd ≤ 1115684864) (g0 : 1031798784 ≤ gp) (g1 : gp ≤ 1115684864) (h0 : 1 ≤ h) (h1 : h < 64) :
    floatBits .mul .f32 wd (sizeB (sineB (angB (h + t)))) = some (fmul wd (sizeB (sineB (angB (h + t))))) ∧ floatBits .mul .f32 gp (cosB h) = some (fmul gp (cosB h)) ∧
    floatBits .quo .f32 (fmul wd (sizeB (sineB (angB (h + t))))) (fmul gp (cosB h)) = some (quoB wd gp t h) ∧ quoB wd gp t h < 2139095040 ∧ 0 < fmul gp (cosB h) ∧ fmul gp (cosB h) < 2139095040 := by
  have hs := sine_size (h + t)
  obtain ⟨c0, c1⟩ := cos_high h h0 h1
  unfold quoB
  generalize sizeB (sineB (angB (h + t))) = s at *
  generalize cosB h = c at *
  have m1 := mul_mono (x := wd) (X := 1115684864) (y := s) (Y := 1065353216) (by decide) (by decide) w1 hs
  have m2 := mul_mono (x := gp) (X := 1115684864) (y := c) (Y := 1065353216) (by decide) (by decide) g1 c1
  have m3 := mul_mono (x := 1031798784) (X := gp) (y := 1019794704) (Y := c) (by omega) (by omega) g0 c0
  have e1 : fmul 1115684864 1065353216 = 1115684864 := by decide +kernel
  have e3 : fmul 1031798784 1019794704 = 986240272 := by decide +kernel
  rw [e1] at m1 m2
  rw [e3] at m3
  have d := div_mono (x := fmul wd s) (X := 1115684864) (y := fmul gp c) (Y := 986240272) (by decide) (by omega) (by decide) m1 m3
  have e4 : fdiv 1115684864 986240272 < 2139095040 := by decide +kernel
  exact ⟨(mul_rnd (by omega) (by omega)).1, (mul_rnd (by omega) (by omega)).1, (div_rnd (by omega) (by omega) (by omega)).1, by omega, by omega, by omega⟩

theorem blk_le (wd gp : Nat) (t h : Int) : blkB wd gp t h ≤ 1065353216 := by
  unfold blkB min1
  split
  · exact Nat.le_refl _
  · split <;> omega

theorem one_sub_facts {b : Nat} (hb : b ≤ 1065353216) : floatBits .sub .f32 1065353216 b = some (fsub 1065353216 b) ∧ fsub 1065353216 b ≤ 1065353216 := by
  refine ⟨(sub_rnd (by decide) hb).1, ?_⟩
  refine rnd_le (sub_rnd (x := 1065353216) (by decide) hb).2 (by decide) ?_
  omega

theorem opn_facts (wd gp : Nat) (t h : Int) : floatBits .sub .f32 1065353216 (blkB wd gp t h) = some (opnB wd gp t h) ∧ opnB wd gp t h ≤ 1065353216 := one_sub_facts (blk_le wd gp t h)

theorem one_mul {x : Nat} (hx : x < 2139095040) : fmul x 1065353216 = x := by
  refine rnd_exact (mul_rnd hx (y := 1065353216) (by decide)).2 (by omega) (Nat.two_pow_pos _) ?_
  have : rv 1065353216 = 2 ^ 149 := by decide +kernel
  rw [this]

theorem mul_le_one {x y : Nat} (hx : x < 2139095040) (hy : y ≤ 1065353216) : fmul x y ≤ x := by
  have := mul_mono (x := x) (X := x) (y := y) (Y := 1065353216) hx (by decide) (Nat.le_refl _) hy
  rwa [one_mul hx] at this

/-- A product with -0. -/
theorem mul_neg0 {x : Nat} (hx : x < 2139095040) : floatBits .mul .f32 x 2147483648 = some 2147483648 ∧ floatBits .mul .f32 2147483648 x = some 2147483648 := by
  obtain ⟨m, i, hr, hm⟩ := read_pos hx
  have hz : Ieee.single.read 2147483648 = .number true 0 (-149) := by decide +kernel
  constructor
  · show Ieee.single.mul x 2147483648 = _
    unfold Ieee.Format.mul
    rw [hr, hz]; rfl
  · show Ieee.single.mul 2147483648 x = _
    unfold Ieee.Format.mul
    rw [hr, hz]
    simp only [Ieee.Datum.product, Nat.zero_mul, Option.map_some, Ieee.Format.write]
    rfl

theorem add_neg0 {x : Nat} (hx : x < 2139095040) : floatBits .add .f32 x 2147483648 = some x := by
  obtain ⟨m, i, hr, hm⟩ := read_pos hx
  have hz : Ieee.single.read 2147483648 = .number true 0 (-149) := by decide +kernel
  show Ieee.single.add x 2147483648 = _
  unfold Ieee.Format.add
  rw [hr, hz]
  have e0 : min (-149 + (i : Int)) (-149) = -149 := by omega
  have e2 : (-149 + (i : Int) - (-149 : Int)).toNat = i := by omega
  have e4 : Ieee.signed true 0 (-149 - (-149 : Int)).toNat = 0 := by decide
  simp only [Ieee.Datum.sum, Option.map_some, Ieee.Format.write, e0, e2, e4, signed_false, Int.add_zero, Int.natAbs_natCast]
  have e5 : (if ((m * 2 ^ i : Nat) : Int) = 0 then (false && true) else decide (((m * 2 ^ i : Nat) : Int) < 0)) = false := by
    split
    · rfl
    · exact decide_eq_false (by omega)
  rw [e5]
  have hR := nearest_rnd (m * 2 ^ i) (-149) 0 0 (by omega)
  rw [hm] at hR ⊢
  rw [rnd_exact hR (r := x) (by omega) (by decide) rfl]

theorem fget {op : BinOp} {x y r : Nat} {g : Nat → Nat → Nat} (hg : ∀ x y, g x y = (floatBits op .f32 x y).getD 0) (h : floatBits op .f32 x y = some r) : g x y = r := by rw [hg, h]; rfl

theorem fmul_get {x y r : Nat} (h : floatBits .mul .f32 x y = some r) : fmul x y = r := fget (g := fmul) (fun _ _ => rfl) h

theorem fadd_get {x y r : Nat} (h : floatBits .add .f32 x y = some r) : fadd x y = r := fget (g := fadd) (fun _ _ => rfl) h

theorem fdiv_get {x y r : Nat} (h : floatBits .quo .f32 x y = some r) : fdiv x y = r := fget (g := fdiv) (fun _ _ => rfl) h

/-- Every step of what passes has an answer, and the answer is from 0 to .. -/
theorem pas_facts (wd gp : Nat) (t : Int) {sh : Nat} (hs : sh ≤ 1065353216 ∨ sh = 2147483648) (h : Int) :
    floatBits .mul .f32 (blkB wd gp t h) sh = some (fmul (blkB wd gp t h) sh) ∧ floatBits .mul .f32 (fmul (blkB wd gp t h) sh) (opnB wd gp t 1) = some (fmul (fmul (blkB wd gp t h) sh) (opnB wd gp t 1)) ∧
    floatBits .quo .f32 (fmul (fmul (blkB wd gp t h) sh) (opnB wd gp t 1)) 1073741824 = some (bncB wd gp t sh h) ∧ floatBits .add .f32 (opnB wd gp t h) (bncB wd gp t sh h) = some (pasB wd gp t sh h) ∧ pasB wd gp t sh h < 2139095040 := by
  have hb := blk_le wd gp t h
  have ho := (opn_facts wd gp t h).2
  have hv := (opn_facts wd gp t 1).2
  unfold pasB bncB
  generalize blkB wd gp t h = b at *
  generalize opnB wd gp t h = o at *
  generalize opnB wd gp t 1 = v at *
  rcases hs with hs | rfl
  · have m1 := mul_le_one (x := b) (y := sh) (by omega) hs
    have m2 := mul_le_one (x := fmul b sh) (y := v) (by omega) hv
    have d1 := div_mono (x := fmul (fmul b sh) v) (X := 1065353216) (y := 1073741824) (Y := 1073741824) (by decide) (by decide) (by decide) (by omega) (Nat.le_refl _)
    have e1 : fdiv 1065353216 1073741824 = 1056964608 := by decide +kernel
    rw [e1] at d1
    have a1 := add_mono (x := o) (X := 1065353216) (y := fdiv (fmul (fmul b sh) v) 1073741824) (Y := 1056964608) (by decide) (by decide) ho d1
    have e2 : fadd 1065353216 1056964608 = 1069547520 := by decide +kernel
    rw [e2] at a1
    exact ⟨(mul_rnd (by omega) (by omega)).1, (mul_rnd (by omega) (by omega)).1, (div_rnd (by omega) (by decide) (by decide)).1, (add_rnd (by omega) (by omega)).1, by omega⟩
  · have m1 := (mul_neg0 (x := b) (by omega)).1
    have m2 := (mul_neg0 (x := v) (by omega)).2
    rw [fmul_get m1, fmul_get m2]
    have d1 : floatBits .quo .f32 2147483648 1073741824 = some 2147483648 := by decide +kernel
    rw [fdiv_get d1]
    have a1 := add_neg0 (x := o) (by omega)
    rw [fadd_get a1]
    exact ⟨m1, m2, d1, a1, by omega⟩

end Go.Proofs.YtmbgmpeiicjlaaaGreatDoor
