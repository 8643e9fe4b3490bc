/-
  FlK, Blind, Bok, Angle, BlkRun.
-/
import Derived.Test.YtmbgmpeiicjlaaaGreatDoorMt2
import Derived.Test.YtmbgmpeiicjlaaaGreatDoorMt1
import Derived.Deep.Cut
import Derived.Deep.DeepCutAuto
import Derived.Test.YtmbgmpeiicjlaaaGreatDoorRows
import Derived.WalkSpells
import Derived.WalkLawsBesides
import Derived.Lib.Hide
import Derived.WalkKit
import Derived.Laws.EntriesVeiled

namespace Go.Proofs.YtmbgmpeiicjlaaaGreatDoor

open Go.RowKit

def flK (g : Nat → Nat) (k : Nat) : List Nat := (List.range k).map g ++ List.replicate (24 - k) 0

theorem flK_len (g : Nat → Nat) {k : Nat} (hk : k ≤ 24) : (flK g k).length = 24 := by
  unfold flK
  simp
  omega

theorem flK_set (g : Nat → Nat) {k : Nat} (hk : k < 24) : (flK g k).set k (g k) = flK g (k + 1) := by
  unfold flK
  have e2 : 24 - k = (24 - (k + 1)) + 1 := by omega
  rw [List.set_append_right _ _ (by simp), e2, List.replicate_succ, List.length_map, List.length_range, Nat.sub_self, List.set_cons_zero, List.range_succ, List.map_append, List.append_assoc]
  rfl

theorem flK_zero (g : Nat → Nat) {k : Nat} (hk : k < 24) (h : g k = 0) : flK g k = flK g (k + 1) := by
  rw [← flK_set g hk, h]
  unfold flK
  have e2 : 24 - k = (24 - (k + 1)) + 1 := by omega
  rw [List.set_append_right _ _ (by simp), e2, List.replicate_succ, List.length_map, List.length_range, Nat.sub_self, List.set_cons_zero]

theorem flK_get (g : Nat → Nat) {k : Nat} (hk : k < 24) : (flK g 24)[k]?.getD 0 = g k := by
  unfold flK
  rw [List.getElem?_append_left (by simpa using hk), List.getElem?_map, List.getElem?_range hk]
  rfl

/-- How many slats are looked at. -/
def mB (n : Int) : Int := if 24 < n then 24 else n

theorem mB_le (n : Int) : mB n ≤ 24 := by unfold mB; split <;> omega

/-- The light behind the slats: those that hang, and the whole ones. -/
def flP (wh hg br m : Nat) (k : Nat) : Nat := if k < m then (if br.testBit k then hg else wh) else 0

def allP (m : Nat) : Nat := packP (fun _ => true) m

theorem allP_bit (m j : Nat) : (allP m).testBit j = decide (j < m) := by
  unfold allP
  rw [packP_bit, Bool.and_true]

theorem allP_lt {m : Nat} (h : m ≤ 24) : allP m < 4294967296 := packP_32 _ _ (by omega)

theorem high_bit {br m k : Nat} (h : br < 2 ^ m) (hk : m ≤ k) : br.testBit k = false :=
  Nat.testBit_lt_two_pow (Nat.lt_of_lt_of_le h (Nat.pow_le_pow_right (by decide) hk))

theorem out_bits {a m : Nat} (ha : a < 4294967296) (hm : m ≤ 24) : (a &&& (4294967295 - allP m) = 0) ↔ a < 2 ^ m := by
  have hM := allP_lt hm
  have e : 4294967295 - allP m = 2 ^ 32 - (allP m + 1) := by omega
  rw [e]
  constructor
  · intro h
    apply Nat.lt_of_not_le
    intro hge
    obtain ⟨i, hi, hb⟩ := Nat.exists_ge_and_testBit_of_ge_two_pow hge
    have h32 : i < 32 := by
      apply Nat.lt_of_not_le
      intro h32
      have := high_bit (br := a) (m := 32) (by omega) h32
      rw [this] at hb; cases hb
    have hz : (a &&& (2 ^ 32 - (allP m + 1))).testBit i = false := by rw [h]; exact Nat.zero_testBit i
    rw [Nat.testBit_and, hb, Nat.testBit_two_pow_sub_succ (by omega), allP_bit] at hz
    simp [h32] at hz
    omega
  · intro h
    apply Nat.eq_of_testBit_eq
    intro i
    rw [Nat.testBit_and, Nat.testBit_two_pow_sub_succ (by omega), allP_bit, Nat.zero_testBit]
    by_cases hi : i < m
    · simp [hi]
    · rw [high_bit h (by omega), Bool.false_and]

theorem not_bits {a m : Nat} (ha : a < 4294967296) (hm : m ≤ 24) : bits .andNot .u32 (a : Int) (allP m : Int) = ((a &&& (4294967295 - allP m) : Nat) : Int) := u32_andNot_nat a _ ha (allP_lt hm)

/-- Whether only slats that are looked at are told to be broken. -/
def fitB (br : Nat) (n : Int) : Bool := decide (br < 2 ^ (mB n).toNat)

theorem fit_impl {a : Nat} (ha : a < 4294967296) (n : Int) : (bits .andNot .u32 (a : Int) (allP (mB n).toNat : Int) == 0) = fitB a n := by
  have hm : (mB n).toNat ≤ 24 := by have := mB_le n; omega
  rw [not_bits ha hm]
  unfold fitB
  have h := out_bits ha hm
  by_cases c : a < 2 ^ (mB n).toNat
  · rw [decide_eq_true c, h.2 c]; rfl
  · rw [decide_eq_false c]
    have : a &&& (4294967295 - allP (mB n).toNat) ≠ 0 := fun e => c (h.1 e)
    simpa using this

theorem fit_spec (a : Nat) (n : Int) : ((a : Int) / 2 ^ (mB n).toNat != 0) = !fitB a n := by
  unfold fitB
  have e : (a : Int) / 2 ^ (mB n).toNat = ((a / 2 ^ (mB n).toNat : Nat) : Int) := by rw [Int.natCast_ediv, Int.natCast_pow]; rfl
  rw [e]
  have hp : 0 < 2 ^ (mB n).toNat := Nat.two_pow_pos _
  by_cases c : a < 2 ^ (mB n).toNat
  · rw [decide_eq_true c, Nat.div_eq_of_lt c]; rfl
  · rw [decide_eq_false c]
    have : 0 < a / 2 ^ (mB n).toNat := Nat.div_pos (by omega) hp
    simp
    omega

theorem bit_nat (a k : Nat) : a.testBit k = decide (a / 2 ^ k % 2 = 1) := Nat.testBit_eq_decide_div_mod_eq

theorem bit_impl {a : Nat} (ha : a < 4294967296) (k : Nat) : (bits .and .u32 ((a : Int) / 2 ^ k) 1 == 1) = a.testBit k := by
  have e : (a : Int) / 2 ^ k = ((a / 2 ^ k : Nat) : Int) := by rw [Int.natCast_ediv, Int.natCast_pow]; rfl
  have hl : a / 2 ^ k < 4294967296 := Nat.lt_of_le_of_lt (Nat.div_le_self _ _) ha
  rw [e, show (1 : Int) = ((1 : Nat) : Int) from rfl, u32_and_nat _ 1 hl (by decide), nat_mask1, bit_nat]
  by_cases c : a / 2 ^ k % 2 = 1
  · rw [c]; rfl
  · rw [decide_eq_false c]
    have : a / 2 ^ k % 2 = 0 := by omega
    rw [this]; rfl

theorem bit_spec (a k : Nat) : (((a : Int) / 2 ^ k).tmod 2 == 1) = a.testBit k := by
  have e0 : (a : Int) / 2 ^ k = ((a / 2 ^ k : Nat) : Int) := by rw [Int.natCast_ediv, Int.natCast_pow]; rfl
  have e : ((a : Int) / 2 ^ k).tmod 2 = ((a / 2 ^ k % 2 : Nat) : Int) := by
    rw [e0, Int.tmod_eq_emod_of_nonneg (Int.natCast_nonneg _), Int.natCast_emod]; rfl
  rw [e, bit_nat]
  by_cases c : a / 2 ^ k % 2 = 1
  · rw [c]; rfl
  · rw [decide_eq_false c]
    have : a / 2 ^ k % 2 = 0 := by omega
    rw [this]; rfl

/-- The tilt of a slat that hangs down. -/
def hgT (t : Int) : Int := if t - 32 < -64 then -64 else t - 32

theorem hgT_in {t : Int} (h0 : -64 ≤ t) (h1 : t ≤ 64) : -64 ≤ hgT t ∧ hgT t ≤ 64 := by unfold hgT; split <;> omega

/-- The light of the stripes. -/
def flB (n : Int) (wd gp : Nat) (t h : Int) (br : Nat) : List Nat := flK (flP (opnB wd gp t h) (opnB wd gp (hgT t) h) br (mB n).toNat) 24

theorem flB_len (n : Int) (wd gp : Nat) (t h : Int) (br : Nat) : (flB n wd gp t h br).length = 24 := flK_len _ (Nat.le_refl _)

theorem flP_le {wh hg br m : Nat} (h1 : wh ≤ 1065353216) (h2 : hg ≤ 1065353216) (k : Nat) : flP wh hg br m k ≤ 1065353216 := by
  unfold flP
  split
  · split
    · exact h2
    · exact h1
  · decide

end Go.Proofs.YtmbgmpeiicjlaaaGreatDoor

namespace Go.Proofs.YtmbgmpeiicjlaaaGreatDoor

open Go.ChangeShapes Go.WideShapes Go.ChangeAt Go.RowKit Go.Deep Go.Joins

attribute [local go_sem] run_store_f

/-- A blind: how many slats, how wide, how far apart, how tilted, how shiny. -/
def blindC (n : Int) (wd gp : Nat) (t : Int) (sh : Nat) : Array Value := #[.int .i8 n, .float .f32 wd, .float .f32 gp, .int .i16 t, .float .f32 sh]

theorem info_blind : (Tryz.prog.info? 28).map (·.size) = some 5 := by kernel_rfl

theorem blind_fits (n : Int) (wd gp : Nat) (t : Int) (sh : Nat) : 0 + 5 ≤ (blindC n wd gp t sh).size := Nat.le_refl _

theorem blind_all (n : Int) (wd gp : Nat) (t : Int) (sh : Nat) : (blindC n wd gp t sh).extract 0 (0 + 5) = blindC n wd gp t sh := rfl

theorem blind_cells {n : Int} {wd gp : Nat} {t : Int} {sh : Nat} {W : World} {g : Nat} {T : TypeId} {fr : Nat × Nat} (h : W.heap[g]? = some (.cells (blindC n wd gp t sh) T fr)) :
    W.cell? ⟨g, 0, none⟩ = some (.int .i8 n) ∧ W.cell? ⟨g, 1, none⟩ = some (.float .f32 wd) ∧ W.cell? ⟨g, 2, none⟩ = some (.float .f32 gp) ∧ W.cell? ⟨g, 3, none⟩ = some (.int .i16 t) ∧ W.cell? ⟨g, 4, none⟩ = some (.float .f32 sh) :=
  ⟨by rw [cell_of_row W _ _ _ _ _ h]; rfl, by rw [cell_of_row W _ _ _ _ _ h]; rfl, by rw [cell_of_row W _ _ _ _ _ h]; rfl, by rw [cell_of_row W _ _ _ _ _ h]; rfl, by rw [cell_of_row W _ _ _ _ _ h]; rfl⟩

/-- The numbers fit their kinds. -/
def BlWf (n : Int) (wd gp : Nat) (t : Int) (sh : Nat) : Prop := (Lit.int .i8 n).wf = true ∧ (Lit.float .f32 wd).wf = true ∧ (Lit.float .f32 gp).wf = true ∧ (Lit.int .i16 t).wf = true ∧ (Lit.float .f32 sh).wf = true

theorem blwf_n {n : Int} {wd gp : Nat} {t : Int} {sh : Nat} (h : BlWf n wd gp t sh) : -128 ≤ n ∧ n ≤ 127 := by
  have := h.1
  simp [Lit.wf, IntKind.min, IntKind.max, IntKind.signed, IntKind.bits] at this
  omega

theorem blwf_t {n : Int} {wd gp : Nat} {t : Int} {sh : Nat} (h : BlWf n wd gp t sh) : -32768 ≤ t ∧ t ≤ 32767 := by
  have := h.2.2.2.1
  simp [Lit.wf, IntKind.min, IntKind.max, IntKind.signed, IntKind.bits] at this
  omega

end Go.Proofs.YtmbgmpeiicjlaaaGreatDoor

namespace Go.Proofs.YtmbgmpeiicjlaaaGreatDoor

open Go.ChangeShapes Go.WideShapes Go.ChangeAt Go.RowKit Go.Deep Go.Joins

attribute [local go_sem] run_store_f

def inI (lo hi x : Int) : Bool := decide (lo ≤ x) && decide (x ≤ hi)

theorem inI_get {lo hi x : Int} (h : inI lo hi x = true) : lo ≤ x ∧ x ≤ hi := by
  simpa [inI] using h

def lenB (a : Nat) : Bool := betw a 1031798784 1115684864

def partB (a : Nat) : Bool := betw a 0 1065353216

def okBl (n : Int) (wd gp : Nat) (t : Int) (sh : Nat) : Bool := inI 1 60 n && lenB wd && lenB gp && inI (-64) 64 t && partB sh

set_option maxHeartbeats 1000000 in
theorem isLength_any (a : Nat) (w : World) :
    Calls Tryz.prog 84 #[.float .f32 a] w fun e w' => e = .returned (.bool (lenB a)) ∧ w = w' := by
  unfold lenB betw
  rcases h0 : FloatKind.f32.format.order a 1031798784 with _ | (_ | _ | _)
  all_goals
    rcases h1 : FloatKind.f32.format.order a 1115684864 with _ | (_ | _ | _)
    all_goals
      go_enter Tryz.func84, Tryz.ntmps84
      go_wp2
      go_ret
      exact ⟨rfl, rfl⟩

set_option maxHeartbeats 1000000 in
theorem l02Length_any (a : Nat) (w : World) :
    Calls Tryz.prog 64 #[.float .f32 a] w fun e w' => e = .returned (.bool (lenB a)) ∧ w = w' := by
  unfold lenB betw
  rcases h0 : FloatKind.f32.format.order a 1031798784 with _ | (_ | _ | _)
  all_goals
    rcases h1 : FloatKind.f32.format.order a 1115684864 with _ | (_ | _ | _)
    all_goals
      go_enter Tryz.func64, Tryz.ntmps64
      go_wp2
      go_ret
      exact ⟨rfl, rfl⟩

set_option maxHeartbeats 1000000 in
theorem isPart_any (a : Nat) (w : World) :
    Calls Tryz.prog 42 #[.float .f32 a] w fun e w' => e = .returned (.bool (partB a)) ∧ w = w' := by
  unfold partB betw
  rcases h0 : FloatKind.f32.format.order a 0 with _ | (_ | _ | _)
  all_goals
    rcases h1 : FloatKind.f32.format.order a 1065353216 with _ | (_ | _ | _)
    all_goals
      go_enter Tryz.func42, Tryz.ntmps42
      go_wp2
      go_ret
      exact ⟨rfl, rfl⟩

set_option maxHeartbeats 1000000 in
theorem l01Part_any (a : Nat) (w : World) :
    Calls Tryz.prog 44 #[.float .f32 a] w fun e w' => e = .returned (.bool (partB a)) ∧ w = w' := by
  unfold partB betw
  rcases h0 : FloatKind.f32.format.order a 0 with _ | (_ | _ | _)
  all_goals
    rcases h1 : FloatKind.f32.format.order a 1065353216 with _ | (_ | _ | _)
    all_goals
      go_enter Tryz.func44, Tryz.ntmps44
      go_wp2
      go_ret
      exact ⟨rfl, rfl⟩

set_option maxHeartbeats 1000000 in
theorem isTilt_any (a : Int) (w : World) :
    Calls Tryz.prog 85 #[.int .i64 a] w fun e w' => e = .returned (.bool (inI (-64) 64 a)) ∧ w = w' := by
  unfold inI
  by_cases h0 : (-64) ≤ a
  · by_cases h1 : a ≤ 64
    · go_enter Tryz.func85, Tryz.ntmps85
      go_wp2
      go_ret
      first | (simp; done) | (simp; omega)
    · go_enter Tryz.func85, Tryz.ntmps85
      go_wp2
      go_ret
      first | (simp; done) | (simp; omega)
  · go_enter Tryz.func85, Tryz.ntmps85
    go_wp2
    go_ret
    first | (simp; done) | (simp; omega)

set_option maxHeartbeats 1000000 in
theorem l02Tilt_any (a : Int) (w : World) :
    Calls Tryz.prog 65 #[.int .i64 a] w fun e w' => e = .returned (.bool (inI (-64) 64 a)) ∧ w = w' := by
  unfold inI
  by_cases h0 : (-64) ≤ a
  · by_cases h1 : a ≤ 64
    · go_enter Tryz.func65, Tryz.ntmps65
      go_wp2
      go_ret
      first | (simp; done) | (simp; omega)
    · go_enter Tryz.func65, Tryz.ntmps65
      go_wp2
      go_ret
      first | (simp; done) | (simp; omega)
  · go_enter Tryz.func65, Tryz.ntmps65
    go_wp2
    go_ret
    first | (simp; done) | (simp; omega)

set_option maxHeartbeats 1000000 in
theorem isHeight_any (a : Int) (w : World) :
    Calls Tryz.prog 31 #[.int .i64 a] w fun e w' => e = .returned (.bool (inI 1 64 a)) ∧ w = w' := by
  unfold inI
  by_cases h0 : 1 ≤ a
  · by_cases h1 : a ≤ 64
    · go_enter Tryz.func31, Tryz.ntmps31
      go_wp2
      go_ret
      first | (simp; done) | (simp; omega)
    · go_enter Tryz.func31, Tryz.ntmps31
      go_wp2
      go_ret
      first | (simp; done) | (simp; omega)
  · go_enter Tryz.func31, Tryz.ntmps31
    go_wp2
    go_ret
    first | (simp; done) | (simp; omega)

set_option maxHeartbeats 1000000 in
theorem l02Up_any (a : Int) (w : World) :
    Calls Tryz.prog 35 #[.int .i64 a] w fun e w' => e = .returned (.bool (inI 1 64 a)) ∧ w = w' := by
  unfold inI
  by_cases h0 : 1 ≤ a
  · by_cases h1 : a ≤ 64
    · go_enter Tryz.func35, Tryz.ntmps35
      go_wp2
      go_ret
      first | (simp; done) | (simp; omega)
    · go_enter Tryz.func35, Tryz.ntmps35
      go_wp2
      go_ret
      first | (simp; done) | (simp; omega)
  · go_enter Tryz.func35, Tryz.ntmps35
    go_wp2
    go_ret
    first | (simp; done) | (simp; omega)

set_option maxHeartbeats 1000000 in
theorem l00In_ban (a lo hi : Int) (w : World) :
    Calls Tryz.prog 54 #[.int .i64 a, .int .i64 lo, .int .i64 hi] w fun e w' => e = .returned (.bool (inI lo hi a)) ∧ w = w' := by
  unfold inI
  by_cases h0 : lo ≤ a
  · by_cases h1 : a ≤ hi
    · go_enter Tryz.func54, Tryz.ntmps54
      go_wp2
      go_ret
      first | (simp; done) | (simp; omega)
    · go_enter Tryz.func54, Tryz.ntmps54
      go_wp2
      go_ret
      first | (simp; done) | (simp; omega)
  · go_enter Tryz.func54, Tryz.ntmps54
    go_wp2
    go_ret
    first | (simp; done) | (simp; omega)

set_option maxRecDepth 100000 in
set_option maxHeartbeats 1000000 in
theorem ValidBlind_any (n : Int) (wd gp : Nat) (t : Int) (sh : Nat) (t0 : -32768 ≤ t) (t1 : t ≤ 32767) (w : World) :
    Calls Tryz.prog 61 #[.agg (blindC n wd gp t sh)] w fun e w' => e = .returned (.bool (okBl n wd gp t sh)) ∧ Below w.heap.size w w' := by
  unfold blindC
  go_enter Tryz.func61, Tryz.ntmps61
  go_wp2_with (first | (go_at_call 84; refine (isLength_any _ _).mono ?_; rintro e w' ⟨rfl, rfl⟩) | (go_at_call 85; refine (isTilt_any _ _).mono ?_; rintro e w' ⟨rfl, rfl⟩) | (go_at_call 42; refine (isPart_any _ _).mono ?_; rintro e w' ⟨rfl, rfl⟩))
  all_goals
    go_ret
    refine ⟨?_, by (repeat' first | exact Below.refl _ _ | assumption | refine Below.alloc ?_ (by first | omega | (simp; done) | (simp; omega)) _ | refine Below.setCell ?_ (by first | omega | (simp; done) | (simp; omega)) _ | refine Below.drew ?_)⟩
    by_cases hn : 1 ≤ n ∧ n ≤ 60
    · have e : inI 1 60 n = true := by simp only [inI, Bool.and_eq_true, decide_eq_true_eq]; exact hn
      first | (simp [okBl, *]; done) | omega
    · have e : inI 1 60 n = false := by simp only [inI, Bool.and_eq_false_iff, decide_eq_false_iff_not]; omega
      first | omega | (simp [okBl, *]; done)

set_option maxRecDepth 100000 in
set_option maxHeartbeats 1000000 in
theorem l02Ok_any (n : Int) (wd gp : Nat) (t : Int) (sh : Nat) (t0 : -32768 ≤ t) (t1 : t ≤ 32767) (n0 : -128 ≤ n) (n1 : n ≤ 127) (g : Nat) (T : TypeId) (fr : Nat × Nat) (w : World) (hg : w.heap[g]? = some (.cells (blindC n wd gp t sh) T fr)) :
    Calls Tryz.prog 34 #[.pointer (some ⟨g, 0, none⟩)] w fun e w' => e = .returned (.bool (okBl n wd gp t sh)) ∧ w = w' := by
  unfold blindC at hg
  have c0 : w.cell? ⟨g, 0, none⟩ = some (.int .i8 n) := by rw [cell_of_row w _ _ _ _ _ hg]; rfl
  have c1 : w.cell? ⟨g, 1, none⟩ = some (.float .f32 wd) := by rw [cell_of_row w _ _ _ _ _ hg]; rfl
  have c2 : w.cell? ⟨g, 2, none⟩ = some (.float .f32 gp) := by rw [cell_of_row w _ _ _ _ _ hg]; rfl
  have c3 : w.cell? ⟨g, 3, none⟩ = some (.int .i16 t) := by rw [cell_of_row w _ _ _ _ _ hg]; rfl
  have c4 : w.cell? ⟨g, 4, none⟩ = some (.float .f32 sh) := by rw [cell_of_row w _ _ _ _ _ hg]; rfl
  clear hg
  go_enter Tryz.func34, Tryz.ntmps34
  go_wp2_with (first | (go_at_call 64; refine (l02Length_any _ _).mono ?_; rintro e w' ⟨rfl, rfl⟩) | (go_at_call 65; refine (l02Tilt_any _ _).mono ?_; rintro e w' ⟨rfl, rfl⟩) | (go_at_call 44; refine (l01Part_any _ _).mono ?_; rintro e w' ⟨rfl, rfl⟩) | (go_at_call 54; refine (l00In_ban _ _ _ _).mono ?_; rintro e w' ⟨rfl, rfl⟩))
  all_goals
    go_ret
    refine ⟨?_, rfl⟩
    simp [okBl, *]

end Go.Proofs.YtmbgmpeiicjlaaaGreatDoor

namespace Go.Proofs.YtmbgmpeiicjlaaaGreatDoor

open Go.RowKit

theorem qfacts (a : Int) (h0 : 0 ≤ a) (h1 : a ≤ 64) :
    floatBits .quo .f32 (floatOfInt .f32 a) 1115684864 = some (qx a) ∧ floatBits .mul .f32 (qx a) (qx a) = some (qy a)
    ∧ floatBits .mul .f32 (qy a) 1033109504 = some (qyk a) ∧ floatBits .sub .f32 1059356672 (qyk a) = some (qp a)
    ∧ floatBits .mul .f32 (qy a) (qp a) = some (qyp a) ∧ floatBits .sub .f32 1070137344 (qyp a) = some (qq a)
    ∧ floatBits .mul .f32 (qx a) (qq a) = some (qs a) ∧ floatBits .sub .f32 0 (qs a) = some (qn a) := by
  have h := qOk_all a h0 h1
  simpa [qOk, Bool.and_eq_true, and_assoc] using h

set_option maxHeartbeats 400000 in
theorem firstSine_any (a : Int) (h0 : 0 ≤ a) (h1 : a ≤ 64) (w : World) :
    Calls Tryz.prog 113 #[.int .i16 a] w fun e w' => e = .returned (.float .f32 (qs a)) ∧ w = w' := by
  obtain ⟨e1, e2, e3, e4, e5, e6, e7, _⟩ := qfacts a h0 h1
  have r1 : ∀ t w, (binOp .quo t (.float .f32 (floatOfInt .f32 a)) (.float .f32 1115684864)).run Tryz.prog w = .ok (.float .f32 (qx a)) w := fun t w => run_float_arith w .quo t .f32 _ _ _ e1
  have r2 : ∀ t w, (binOp .mul t (.float .f32 (qx a)) (.float .f32 (qx a))).run Tryz.prog w = .ok (.float .f32 (qy a)) w := fun t w => run_float_arith w .mul t .f32 _ _ _ e2
  have r3 : ∀ t w, (binOp .mul t (.float .f32 (qy a)) (.float .f32 1033109504)).run Tryz.prog w = .ok (.float .f32 (qyk a)) w := fun t w => run_float_arith w .mul t .f32 _ _ _ e3
  have r4 : ∀ t w, (binOp .sub t (.float .f32 1059356672) (.float .f32 (qyk a))).run Tryz.prog w = .ok (.float .f32 (qp a)) w := fun t w => run_float_arith w .sub t .f32 _ _ _ e4
  have r5 : ∀ t w, (binOp .mul t (.float .f32 (qy a)) (.float .f32 (qp a))).run Tryz.prog w = .ok (.float .f32 (qyp a)) w := fun t w => run_float_arith w .mul t .f32 _ _ _ e5
  have r6 : ∀ t w, (binOp .sub t (.float .f32 1070137344) (.float .f32 (qyp a))).run Tryz.prog w = .ok (.float .f32 (qq a)) w := fun t w => run_float_arith w .sub t .f32 _ _ _ e6
  have r7 : ∀ t w, (binOp .mul t (.float .f32 (qx a)) (.float .f32 (qq a))).run Tryz.prog w = .ok (.float .f32 (qs a)) w := fun t w => run_float_arith w .mul t .f32 _ _ _ e7
  clear e1 e2 e3 e4 e5 e6 e7
  go_enter Tryz.func113, Tryz.ntmps113
  go_wp2_with (simp only [r1, r2, r3, r4, r5, r6, r7])
  go_ret
  exact ⟨rfl, rfl⟩

set_option maxHeartbeats 400000 in
theorem secondSine_any (a : Int) (h0 : 64 ≤ a) (h1 : a ≤ 128) (w : World) :
    Calls Tryz.prog 114 #[.int .i16 a] w fun e w' => e = .returned (.float .f32 (qs (128 - a))) ∧ w = w' := by
  go_enter Tryz.func114, Tryz.ntmps114
  go_wp2_with (go_at_call 113; refine (firstSine_any _ (by omega) (by omega) _).mono ?_; rintro e w' ⟨rfl, rfl⟩)
  go_ret
  exact ⟨rfl, rfl⟩

set_option maxHeartbeats 400000 in
theorem thirdSine_any (a : Int) (h0 : 128 ≤ a) (h1 : a ≤ 192) (w : World) :
    Calls Tryz.prog 115 #[.int .i16 a] w fun e w' => e = .returned (.float .f32 (qn (a - 128))) ∧ w = w' := by
  obtain ⟨_, _, _, _, _, _, _, e8⟩ := qfacts (a - 128) (by omega) (by omega)
  have r8 : ∀ t w, (binOp .sub t (.float .f32 0) (.float .f32 (qs (a - 128)))).run Tryz.prog w = .ok (.float .f32 (qn (a - 128))) w := fun t w => run_float_arith w .sub t .f32 _ _ _ e8
  clear e8
  go_enter Tryz.func115, Tryz.ntmps115
  go_wp2_with (go_at_call 113; refine (firstSine_any _ (by omega) (by omega) _).mono ?_; rintro e w' ⟨rfl, rfl⟩)
  go_ret
  exact ⟨rfl, rfl⟩

set_option maxHeartbeats 400000 in
theorem fourthSine_any (a : Int) (h0 : 192 ≤ a) (h1 : a ≤ 255) (w : World) :
    Calls Tryz.prog 116 #[.int .i16 a] w fun e w' => e = .returned (.float .f32 (qn (256 - a))) ∧ w = w' := by
  obtain ⟨_, _, _, _, _, _, _, e8⟩ := qfacts (256 - a) (by omega) (by omega)
  have r8 : ∀ t w, (binOp .sub t (.float .f32 0) (.float .f32 (qs (256 - a)))).run Tryz.prog w = .ok (.float .f32 (qn (256 - a))) w := fun t w => run_float_arith w .sub t .f32 _ _ _ e8
  clear e8
  go_enter Tryz.func116, Tryz.ntmps116
  go_wp2_with (go_at_call 113; refine (firstSine_any _ (by omega) (by omega) _).mono ?_; rintro e w' ⟨rfl, rfl⟩)
  go_ret
  exact ⟨rfl, rfl⟩

theorem ret_int {k : IntKind} {a b : Int} (h : a = b) : Ending.returned (.int k a) = .returned (.int k b) := by rw [h]

theorem ret_f32 {a b : Nat} (h : a = b) : Ending.returned (.float .f32 a) = .returned (.float .f32 b) := by rw [h]

theorem tmod_ang (a : Int) : a.tmod 256 % 256 = angB a := by
  unfold angB
  have h3 : a = 256 * a.tdiv 256 + a.tmod 256 := (Int.mul_tdiv_add_tmod a 256).symm
  omega

theorem tmod_ang2 (a : Int) : (a.tmod 256 + 256) % 256 = angB a := by
  have h := tmod_ang a
  omega

theorem tmod_bd (a : Int) : -256 < a.tmod 256 ∧ a.tmod 256 < 256 :=
  ⟨Int.lt_tmod_of_pos a (b := 256) (by decide), Int.tmod_lt_of_pos a (b := 256) (by decide)⟩

set_option maxHeartbeats 400000 in
theorem angleOf_any (a : Int) (w : World) :
    Calls Tryz.prog 110 #[.int .i64 a] w fun e w' => e = .returned (.int .i16 (angB a)) ∧ w = w' := by
  obtain ⟨h1, h2⟩ := tmod_bd a
  have h3 := angB_lo a
  have h4 := angB_hi a
  go_enter Tryz.func110, Tryz.ntmps110
  go_wp2
  go_ret
  exact ⟨ret_int (tmod_ang a), rfl⟩

set_option maxHeartbeats 400000 in
theorem l01Angle_any (a : Int) (w : World) :
    Calls Tryz.prog 105 #[.int .i64 a] w fun e w' => e = .returned (.int .i64 (angB a)) ∧ w = w' := by
  obtain ⟨h1, h2⟩ := tmod_bd a
  go_enter Tryz.func105, Tryz.ntmps105
  go_wp2
  go_ret
  exact ⟨ret_int (tmod_ang2 a), rfl⟩

theorem i16_in (n : Int) (h0 : -32768 ≤ n) (h1 : n ≤ 32767) : IntKind.i16.wrap n = n := by
  simp [IntKind.wrap, IntKind.signed, IntKind.bits]
  omega

theorem quart (a k : Int) (h0 : 0 ≤ k) (h3 : k ≤ 3) (hl : 64 * k ≤ a) (hh : a < 64 * k + 64) : IntKind.i16.wrap (a.tdiv 64) = k := by
  have h : a.tdiv 64 = k := by
    rw [Int.tdiv_eq_ediv_of_nonneg (by omega)]; omega
  rw [h]; exact i16_in k (by omega) (by omega)

set_option maxHeartbeats 400000 in
theorem sine_q1 (a : Int) (h0 : 0 ≤ a) (h1 : a < 64) (w : World) :
    Calls Tryz.prog 112 #[.int .i16 a] w fun e w' => e = .returned (.float .f32 (qs a)) ∧ Below w.heap.size w w' := by
  have hq := quart a 0 (by omega) (by omega) (by omega) (by omega)
  go_enter Tryz.func112, Tryz.ntmps112
  go_wp2_with (go_at_call 113; refine (firstSine_any _ (by omega) (by omega) _).mono ?_; rintro e w' ⟨rfl, rfl⟩)
  go_ret
  exact ⟨rfl, (Below.refl _ _).alloc (Nat.le_refl _) _⟩

set_option maxHeartbeats 400000 in
theorem sine_q2 (a : Int) (h0 : 64 ≤ a) (h1 : a < 128) (w : World) :
    Calls Tryz.prog 112 #[.int .i16 a] w fun e w' => e = .returned (.float .f32 (qs (128 - a))) ∧ Below w.heap.size w w' := by
  have hq := quart a 1 (by omega) (by omega) (by omega) (by omega)
  go_enter Tryz.func112, Tryz.ntmps112
  go_wp2_with (go_at_call 114; refine (secondSine_any _ (by omega) (by omega) _).mono ?_; rintro e w' ⟨rfl, rfl⟩)
  go_ret
  exact ⟨rfl, (Below.refl _ _).alloc (Nat.le_refl _) _⟩

set_option maxHeartbeats 400000 in
theorem sine_q3 (a : Int) (h0 : 128 ≤ a) (h1 : a < 192) (w : World) :
    Calls Tryz.prog 112 #[.int .i16 a] w fun e w' => e = .returned (.float .f32 (qn (a - 128))) ∧ Below w.heap.size w w' := by
  have hq := quart a 2 (by omega) (by omega) (by omega) (by omega)
  go_enter Tryz.func112, Tryz.ntmps112
  go_wp2_with (go_at_call 115; refine (thirdSine_any _ (by omega) (by omega) _).mono ?_; rintro e w' ⟨rfl, rfl⟩)
  go_ret
  exact ⟨rfl, (Below.refl _ _).alloc (Nat.le_refl _) _⟩

set_option maxHeartbeats 400000 in
theorem sine_q4 (a : Int) (h0 : 192 ≤ a) (h1 : a < 256) (w : World) :
    Calls Tryz.prog 112 #[.int .i16 a] w fun e w' => e = .returned (.float .f32 (qn (256 - a))) ∧ Below w.heap.size w w' := by
  have hq := quart a 3 (by omega) (by omega) (by omega) (by omega)
  go_enter Tryz.func112, Tryz.ntmps112
  go_wp2_with (go_at_call 116; refine (fourthSine_any _ (by omega) (by omega) _).mono ?_; rintro e w' ⟨rfl, rfl⟩)
  go_ret
  exact ⟨rfl, (Below.refl _ _).alloc (Nat.le_refl _) _⟩

theorem qn_0 : qn 0 = qs 0 := by decide +kernel

theorem sine_any (a : Int) (h0 : 0 ≤ a) (h1 : a ≤ 255) (w : World) :
    Calls Tryz.prog 112 #[.int .i16 a] w fun e w' => e = .returned (.float .f32 (sineB a)) ∧ Below w.heap.size w w' := by
  have key : ∀ x, sineB a = x → (Calls Tryz.prog 112 #[.int .i16 a] w fun e w' => e = .returned (.float .f32 x) ∧ Below w.heap.size w w') → Calls Tryz.prog 112 #[.int .i16 a] w fun e w' => e = .returned (.float .f32 (sineB a)) ∧ Below w.heap.size w w' := by
    intro x hx h
    rw [hx]; exact h
  by_cases c1 : a < 64
  · exact key _ (by unfold sineB; rw [if_pos (by omega)]) (sine_q1 a h0 c1 w)
  by_cases c2 : a < 128
  · refine key _ ?_ (sine_q2 a (by omega) c2 w)
    unfold sineB
    by_cases e : a = 64
    · subst e; rfl
    · rw [if_neg (by omega), if_pos (by omega)]
  by_cases c3 : a < 192
  · refine key _ ?_ (sine_q3 a (by omega) c3 w)
    unfold sineB
    by_cases e : a = 128
    · subst e; rw [if_neg (by omega), if_pos (by omega)]; exact qn_0.symm
    · rw [if_neg (by omega), if_neg (by omega), if_pos (by omega)]
  · refine key _ ?_ (sine_q4 a (by omega) (by omega) w)
    unfold sineB
    by_cases e : a = 192
    · subst e; rfl
    · rw [if_neg (by omega), if_neg (by omega), if_neg (by omega)]

set_option maxHeartbeats 400000 in
theorem cosine_any (a : Int) (h0 : -32768 ≤ a) (h1 : a ≤ 32767) (w : World) :
    Calls Tryz.prog 111 #[.int .i16 a] w fun e w' => e = .returned (.float .f32 (cosB a)) ∧ Below w.heap.size w w' := by
  have hl := angB_lo (a + 64)
  have hh := angB_hi (a + 64)
  go_enter Tryz.func111, Tryz.ntmps111
  go_wp2_with (first | (go_at_call 110; refine (angleOf_any _ _).mono ?_; rintro e w' ⟨rfl, rfl⟩) | (go_at_call 112; refine (sine_any _ (by omega) (by omega) _).mono ?_; rintro e w1 ⟨rfl, hb⟩))
  go_ret
  exact ⟨rfl, hb⟩

set_option maxHeartbeats 400000 in
theorem SineOf_any (a : Int) (w : World) :
    Calls Tryz.prog 103 #[.int .i64 a] w fun e w' => e = .returned (.float .f32 (sineB (angB a))) ∧ Below w.heap.size w w' := by
  have hl := angB_lo a
  have hh := angB_hi a
  go_enter Tryz.func103, Tryz.ntmps103
  go_wp2_with (first | (go_at_call 110; refine (angleOf_any _ _).mono ?_; rintro e w' ⟨rfl, rfl⟩) | (go_at_call 112; refine (sine_any _ (by omega) (by omega) _).mono ?_; rintro e w1 ⟨rfl, hb⟩))
  go_ret
  exact ⟨rfl, hb⟩

theorem cosB_ang (a : Int) : cosB (angB a) = cosB a := by
  unfold cosB angB
  congr 1
  omega

set_option maxHeartbeats 400000 in
theorem CosineOf_any (a : Int) (w : World) :
    Calls Tryz.prog 101 #[.int .i64 a] w fun e w' => e = .returned (.float .f32 (cosB a)) ∧ Below w.heap.size w w' := by
  have hl := angB_lo a
  have hh := angB_hi a
  have H := Lib.hid (cosB_ang a)
  go_enter Tryz.func101, Tryz.ntmps101
  go_wp2_with (first | (go_at_call 110; refine (angleOf_any _ _).mono ?_; rintro e w' ⟨rfl, rfl⟩) | (go_at_call 111; refine (cosine_any _ (by omega) (by omega) _).mono ?_; rintro e w1 ⟨rfl, hb⟩))
  go_ret
  exact ⟨ret_f32 H.out, hb⟩

/-! ### The model's functions -/

set_option maxHeartbeats 400000 in
theorem l01Quarter_any (a : Int) (h0 : 0 ≤ a) (h1 : a ≤ 64) (w : World) :
    Calls Tryz.prog 106 #[.int .i64 a] w fun e w' => e = .returned (.float .f32 (qs a)) ∧ w = w' := by
  obtain ⟨e1, e2, e3, e4, e5, e6, e7, _⟩ := qfacts a h0 h1
  have r1 : ∀ t w, (binOp .quo t (.float .f32 (floatOfInt .f32 a)) (.float .f32 1115684864)).run Tryz.prog w = .ok (.float .f32 (qx a)) w := fun t w => run_float_arith w .quo t .f32 _ _ _ e1
  have r2 : ∀ t w, (binOp .mul t (.float .f32 (qx a)) (.float .f32 (qx a))).run Tryz.prog w = .ok (.float .f32 (qy a)) w := fun t w => run_float_arith w .mul t .f32 _ _ _ e2
  have r3 : ∀ t w, (binOp .mul t (.float .f32 (qy a)) (.float .f32 1033109504)).run Tryz.prog w = .ok (.float .f32 (qyk a)) w := fun t w => run_float_arith w .mul t .f32 _ _ _ e3
  have r4 : ∀ t w, (binOp .sub t (.float .f32 1059356672) (.float .f32 (qyk a))).run Tryz.prog w = .ok (.float .f32 (qp a)) w := fun t w => run_float_arith w .sub t .f32 _ _ _ e4
  have r5 : ∀ t w, (binOp .mul t (.float .f32 (qy a)) (.float .f32 (qp a))).run Tryz.prog w = .ok (.float .f32 (qyp a)) w := fun t w => run_float_arith w .mul t .f32 _ _ _ e5
  have r6 : ∀ t w, (binOp .sub t (.float .f32 1070137344) (.float .f32 (qyp a))).run Tryz.prog w = .ok (.float .f32 (qq a)) w := fun t w => run_float_arith w .sub t .f32 _ _ _ e6
  have r7 : ∀ t w, (binOp .mul t (.float .f32 (qx a)) (.float .f32 (qq a))).run Tryz.prog w = .ok (.float .f32 (qs a)) w := fun t w => run_float_arith w .mul t .f32 _ _ _ e7
  clear e1 e2 e3 e4 e5 e6 e7
  go_enter Tryz.func106, Tryz.ntmps106
  go_wp2
  go_ret
  exact ⟨rfl, rfl⟩

set_option maxHeartbeats 400000 in
theorem l01Sine_any (a : Int) (w : World) :
    Calls Tryz.prog 87 #[.int .i64 a] w fun e w' => e = .returned (.float .f32 (sineB (angB a))) ∧ w = w' := by
  have hl := angB_lo a
  have hh := angB_hi a
  have hs : ∀ x, (∀ t w, (binOp .sub t (.float .f32 0) (.float .f32 (qs x))).run Tryz.prog w = .ok (.float .f32 (qn x)) w) ∨ ¬ (0 ≤ x ∧ x ≤ 64) := by
    intro x
    by_cases h : 0 ≤ x ∧ x ≤ 64
    · obtain ⟨_, _, _, _, _, _, _, e8⟩ := qfacts x h.1 h.2
      exact .inl fun t w => run_float_arith w .sub t .f32 _ _ _ e8
    · exact .inr h
  generalize hn : angB a = n at *
  have H := Lib.hid hn
  clear hn
  unfold sineB
  by_cases c1 : n ≤ 64
  · rw [if_pos c1]
    clear hs
    go_enter Tryz.func87, Tryz.ntmps87
    go_wp2_with (first | (go_at_call 105; refine (l01Angle_any _ _).mono ?_; rintro e w' ⟨rfl, rfl⟩; rw [H.out]) | (go_at_call 106; refine (l01Quarter_any _ (by omega) (by omega) _).mono ?_; rintro e w1 ⟨rfl, rfl⟩))
    go_ret
    exact ⟨rfl, rfl⟩
  rw [if_neg c1]
  by_cases c2 : n ≤ 128
  · rw [if_pos c2]
    clear hs
    go_enter Tryz.func87, Tryz.ntmps87
    go_wp2_with (first | (go_at_call 105; refine (l01Angle_any _ _).mono ?_; rintro e w' ⟨rfl, rfl⟩; rw [H.out]) | (go_at_call 106; refine (l01Quarter_any _ (by omega) (by omega) _).mono ?_; rintro e w1 ⟨rfl, rfl⟩))
    go_ret
    exact ⟨rfl, rfl⟩
  rw [if_neg c2]
  by_cases c3 : n ≤ 192
  · rw [if_pos c3]
    have r := (hs (n - 128)).resolve_right (by omega)
    clear hs
    go_enter Tryz.func87, Tryz.ntmps87
    go_wp2_with (first | (go_at_call 105; refine (l01Angle_any _ _).mono ?_; rintro e w' ⟨rfl, rfl⟩; rw [H.out]) | (go_at_call 106; refine (l01Quarter_any _ (by omega) (by omega) _).mono ?_; rintro e w1 ⟨rfl, rfl⟩))
    go_ret
    exact ⟨rfl, rfl⟩
  · rw [if_neg c3]
    have r := (hs (256 - n)).resolve_right (by omega)
    clear hs
    go_enter Tryz.func87, Tryz.ntmps87
    go_wp2_with (first | (go_at_call 105; refine (l01Angle_any _ _).mono ?_; rintro e w' ⟨rfl, rfl⟩; rw [H.out]) | (go_at_call 106; refine (l01Quarter_any _ (by omega) (by omega) _).mono ?_; rintro e w1 ⟨rfl, rfl⟩))
    go_ret
    exact ⟨rfl, rfl⟩

theorem cos_ang2 (a : Int) : angB (angB a + 64) = angB (a + 64) := by unfold angB; omega

set_option maxHeartbeats 400000 in
theorem l01Cosine_any (a : Int) (w : World) :
    Calls Tryz.prog 88 #[.int .i64 a] w fun e w' => e = .returned (.float .f32 (cosB a)) ∧ w = w' := by
  have hl := angB_lo a
  have hh := angB_hi a
  have H := Lib.hid (cos_ang2 a)
  go_enter Tryz.func88, Tryz.ntmps88
  go_wp2_with (first | (go_at_call 105; refine (l01Angle_any _ _).mono ?_; rintro e w' ⟨rfl, rfl⟩) | (go_at_call 87; refine (l01Sine_any _ _).mono ?_; rintro e w1 ⟨rfl, rfl⟩))
  go_ret
  exact ⟨ret_f32 (by unfold cosB; rw [H.out]), rfl⟩

end Go.Proofs.YtmbgmpeiicjlaaaGreatDoor

namespace Go.Proofs.YtmbgmpeiicjlaaaGreatDoor

open Go.ChangeShapes Go.WideShapes Go.ChangeAt Go.RowKit Go.Deep Go.Joins

attribute [local go_sem] run_store_f

set_option maxHeartbeats 1000000 in
theorem sizeOf_any (x : Nat) (h : isNum x) (w : World) :
    Calls Tryz.prog 102 #[.float .f32 x] w fun e w' => e = .returned (.float .f32 (sizeB x)) ∧ w = w' := by
  rcases size_cases h with ⟨r, h0, h1, rfl, ho⟩ | ⟨hx, ho | ho⟩
  · rw [sizeB_neg h0]
    have r1 : ∀ t w, (binOp .sub t (.float .f32 0) (.float .f32 (2147483648 + r))).run Tryz.prog w = .ok (.float .f32 r) w := fun t w => run_float_arith w .sub t .f32 _ _ _ (sub_neg h1)
    go_enter Tryz.func102, Tryz.ntmps102
    go_wp2
    go_ret
    exact ⟨rfl, rfl⟩
  · rw [sizeB_pos hx]
    go_enter Tryz.func102, Tryz.ntmps102
    go_wp2
    go_ret
    exact ⟨rfl, rfl⟩
  · rw [sizeB_pos hx]
    go_enter Tryz.func102, Tryz.ntmps102
    go_wp2
    go_ret
    exact ⟨rfl, rfl⟩

set_option maxHeartbeats 1000000 in
theorem l01Size_any (x : Nat) (h : isNum x) (w : World) :
    Calls Tryz.prog 86 #[.float .f32 x] w fun e w' => e = .returned (.float .f32 (sizeB x)) ∧ w = w' := by
  rcases size_cases h with ⟨r, h0, h1, rfl, ho⟩ | ⟨hx, ho | ho⟩
  · rw [sizeB_neg h0]
    have ru : ∀ w, (Op.unary .neg (.float .f32 (2147483648 + r))).run Tryz.prog w = .ok (.float .f32 r) w := fun w => by simp [Op.unary, neg_neg (r := r) (by omega)]
    go_enter Tryz.func86, Tryz.ntmps86
    go_wp2
    go_ret
    exact ⟨rfl, rfl⟩
  · rw [sizeB_pos hx]
    go_enter Tryz.func86, Tryz.ntmps86
    go_wp2
    go_ret
    exact ⟨rfl, rfl⟩
  · rw [sizeB_pos hx]
    go_enter Tryz.func86, Tryz.ntmps86
    go_wp2
    go_ret
    exact ⟨rfl, rfl⟩

/-- The lengths of a blind, as words. -/
theorem len_get {a : Nat} (hw : (Lit.float .f32 a).wf = true) (h : lenB a = true) : 1031798784 ≤ a ∧ a ≤ 1115684864 := betw_above hw (by decide) (by decide) (by decide) h

theorem part_get {a : Nat} (hw : (Lit.float .f32 a).wf = true) (h : partB a = true) : a ≤ 1065353216 ∨ a = 2147483648 := betw_zero hw (by decide) h

theorem cos_gt (h : Int) (h0 : 1 ≤ h) (h1 : h < 64) : FloatKind.f32.format.order (cosB h) 0 = some .gt := by
  obtain ⟨c0, c1⟩ := cos_high h h0 h1
  rw [order_pos (by omega) (by decide), Nat.compare_eq_gt.2 (by omega)]

theorem cos_eq : FloatKind.f32.format.order (cosB 64) 0 = some .eq := by rw [cos_top]; decide +kernel

theorem run_min1 (ts : Array TypeId) (T : TypeId) (q : Nat) (h : q < 2139095040) (w : World) : (Builtin.min_ ts T #[.float .f32 q, .float .f32 1065353216]).run Tryz.prog w = .ok (.float .f32 (min1 q)) w := by
  have ho := order_pos h (y := 1065353216) (by decide)
  simp only [Builtin.min_, List.foldlM_cons, List.foldlM_nil, Builtin.min2, ho]
  rcases Nat.lt_trichotomy q 1065353216 with c | c | c
  · have e : min1 q = q := if_neg (by omega)
    rw [Nat.compare_eq_lt.2 c, e]; rfl
  · subst c; rfl
  · have e : min1 q = 1065353216 := if_pos c
    rw [Nat.compare_eq_gt.2 c, e]; rfl

set_option maxRecDepth 100000 in
set_option maxHeartbeats 1000000 in
theorem blockedAt_any (n : Int) (wd gp : Nat) (t : Int) (sh : Nat) (w0 : 1031798784 ≤ wd) (w1 : wd ≤ 1115684864) (g0 : 1031798784 ≤ gp) (g1 : gp ≤ 1115684864) (t0 : -64 ≤ t) (t1 : t ≤ 64) (h : Int) (h0 : 1 ≤ h) (h1 : h ≤ 64) (w : World) :
    Calls Tryz.prog 82 #[.agg (blindC n wd gp t sh), .int .i64 h] w fun e w' => e = .returned (.float .f32 (blkB wd gp t h)) ∧ Below w.heap.size w w' := by
  by_cases hh : h < 64
  · obtain ⟨f1, f2, f3, f4, _, _⟩ := blk_facts (t := t) w0 w1 g0 g1 h0 hh
    have hc := cos_gt h h0 hh
    have HN := Lib.hid (sine_isNum (h + t))
    have hB : blkB wd gp t h = min1 (quoB wd gp t h) := if_neg (by omega)
    rw [hB]
    clear hB
    have r1 : ∀ T w, (binOp .mul T (.float .f32 wd) (.float .f32 (sizeB (sineB (angB (h + t)))))).run Tryz.prog w = .ok (.float .f32 (fmul wd (sizeB (sineB (angB (h + t)))))) w := fun T w => run_float_arith w .mul T .f32 _ _ _ f1
    have r2 : ∀ T w, (binOp .mul T (.float .f32 gp) (.float .f32 (cosB h))).run Tryz.prog w = .ok (.float .f32 (fmul gp (cosB h))) w := fun T w => run_float_arith w .mul T .f32 _ _ _ f2
    have r3 : ∀ T w, (binOp .quo T (.float .f32 (fmul wd (sizeB (sineB (angB (h + t)))))) (.float .f32 (fmul gp (cosB h)))).run Tryz.prog w = .ok (.float .f32 (quoB wd gp t h)) w := fun T w => run_float_arith w .quo T .f32 _ _ _ f3
    have r4 : ∀ ts T w, (Builtin.min_ ts T #[.float .f32 (quoB wd gp t h), .float .f32 1065353216]).run Tryz.prog w = .ok (.float .f32 (min1 (quoB wd gp t h))) w := fun ts T w => run_min1 ts T _ f4 w
    clear f1 f2 f3 f4
    generalize fmul wd (sizeB (sineB (angB (h + t)))) = x1 at *
    generalize fmul gp (cosB h) = x2 at *
    go_enter Tryz.func82, Tryz.ntmps82
    go_upto_region 1 with (fail)
    refine abs_world (fun W => Below w.heap.size w W ∧ W.heap[w.heap.size]? = some (.cells (blindC n wd gp t sh) 28 (0, 0))) ⟨(Below.refl _ _).alloc (Nat.le_refl _) _, heap_alloc_new _ _⟩ ?_
    rintro W ⟨hb, hc0⟩
    have H0 := Lib.hid hc0
    obtain ⟨k0, k1, k2, k3, k4⟩ := blind_cells hc0
    clear hc0
    go_wp2_with (first | (go_at_call 101; refine (CosineOf_any _ _).mono ?_; rintro e W1 ⟨rfl, hb1⟩; replace H0 := Lib.hid (below_row hb1 H0.out); replace hb := hb.trans (hb1.mono hb.size); clear hb1; clear k0 k1 k2 k3 k4; obtain ⟨k0, k1, k2, k3, k4⟩ := blind_cells H0.out) | (go_at_call 103; refine (SineOf_any _ _).mono ?_; rintro e W1 ⟨rfl, hb1⟩; replace H0 := Lib.hid (below_row hb1 H0.out); replace hb := hb.trans (hb1.mono hb.size); clear hb1; clear k0 k1 k2 k3 k4; obtain ⟨k0, k1, k2, k3, k4⟩ := blind_cells H0.out) | (go_at_call 102; refine (sizeOf_any _ HN.out _).mono ?_; rintro e w' ⟨rfl, rfl⟩))
    go_ret
    exact ⟨rfl, hb⟩
  · obtain rfl : h = 64 := by omega
    have hc := cos_eq
    have hB : blkB wd gp t 64 = 1065353216 := rfl
    rw [hB]
    clear hB
    go_enter Tryz.func82, Tryz.ntmps82
    go_wp2_with (go_at_call 101; refine (CosineOf_any _ _).mono ?_; rintro e W1 ⟨rfl, hb1⟩)
    go_ret
    exact ⟨rfl, (Below.alloc (Below.refl _ _) (Nat.le_refl _) _).trans (hb1.mono (by simp))⟩

end Go.Proofs.YtmbgmpeiicjlaaaGreatDoor
