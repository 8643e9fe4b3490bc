/-
  The greatest number of a list less the least one: the program and the model.
-/
import Derived.Test.YtjpnbcfdnolcjaaSoS
import Derived.IntWalk
import Derived.Deep.Cut
import Derived.Deep.DeepCutAuto
namespace Go.Proofs.Ytjpnbcfdnolcjaa
open Go.ChangeShapes Go.WideShapes Go.ChangeAt Go.RowKit Go.Deep Go.Joins

attribute [local go_sem] run_store_f

def maxK (a b : Nat) : Nat := if kI a < kI b then b else a

def minK (a b : Nat) : Nat := if kI b < kI a then b else a

theorem run_max6 {a b : Nat} (ha : isNum a) (hb : isNum b) (ats : Array TypeId) (ty : TypeId) (w : World) : (Builtin.max_ ats ty #[.float .f32 a, .float .f32 b]).run Try.prog w = .ok (.float .f32 (maxK a b)) w := by
  unfold maxK
  rcases num_order ha hb with ⟨h, h2⟩ | ⟨h, h2⟩ | ⟨h, h2⟩
  · rw [if_pos h2]
    simp [Builtin.max_, Builtin.max2, h]
  · rw [if_neg (by omega)]
    simp [Builtin.max_, Builtin.max2, h]
  · rcases h2 with rfl | ⟨rfl, rfl⟩ | ⟨rfl, rfl⟩
    · rw [if_neg (Int.lt_irrefl _)]
      simp [Builtin.max_, Builtin.max2, h]
    · have e : (FloatKind.f32.decode 0).neg = false := by decide +kernel
      rw [show (if kI 0 < kI 2147483648 then 2147483648 else 0) = 0 by decide]
      simp [Builtin.max_, Builtin.max2, h, e]
    · have e : (FloatKind.f32.decode 2147483648).neg = true := by decide +kernel
      rw [show (if kI 2147483648 < kI 0 then 0 else 2147483648) = 0 by decide]
      simp [Builtin.max_, Builtin.max2, h, e]

theorem run_min6 {a b : Nat} (ha : isNum a) (hb : isNum b) (ats : Array TypeId) (ty : TypeId) (w : World) : (Builtin.min_ ats ty #[.float .f32 a, .float .f32 b]).run Try.prog w = .ok (.float .f32 (minK a b)) w := by
  unfold minK
  rcases num_order ha hb with ⟨h, h2⟩ | ⟨h, h2⟩ | ⟨h, h2⟩
  · rw [if_neg (by omega)]
    simp [Builtin.min_, Builtin.min2, h]
  · rw [if_pos h2]
    simp [Builtin.min_, Builtin.min2, h]
  · rcases h2 with rfl | ⟨rfl, rfl⟩ | ⟨rfl, rfl⟩
    · rw [if_neg (Int.lt_irrefl _)]
      simp [Builtin.min_, Builtin.min2, h]
    · have e : (FloatKind.f32.decode 0).neg = false := by decide +kernel
      rw [show (if kI 2147483648 < kI 0 then 2147483648 else 0) = 2147483648 by decide]
      simp [Builtin.min_, Builtin.min2, h, e]
    · have e : (FloatKind.f32.decode 2147483648).neg = true := by decide +kernel
      rw [show (if kI 0 < kI 2147483648 then 0 else 2147483648) = 2147483648 by decide]
      simp [Builtin.min_, Builtin.min2, h, e]

def pickK (f : Nat → Nat → Nat) (zs : List Nat) : Nat → Nat
  | 0 => zs.getD 0 0
  | k + 1 => f (pickK f zs k) (zs.getD (k + 1) 0)

theorem max_mem (zs : List Nat) : ∀ k, k < zs.length → pickK maxK zs k ∈ zs ∧ ∀ j, j ≤ k → kI (zs.getD j 0) ≤ kI (pickK maxK zs k)
  | 0, h => ⟨List.mem_of_getElem? (getD_get h), fun j hj => by
      have e : j = 0 := by omega
      subst e
      exact Int.le_refl _⟩
  | k + 1, h => by
    obtain ⟨a, b⟩ := max_mem zs k (by omega)
    have c := List.mem_of_getElem? (getD_get h)
    have e0 : pickK maxK zs (k + 1) = if kI (pickK maxK zs k) < kI (zs.getD (k + 1) 0) then zs.getD (k + 1) 0 else pickK maxK zs k := rfl
    rw [e0]
    split
    · refine ⟨c, fun j hj => ?_⟩
      by_cases e : j = k + 1
      · subst e; exact Int.le_refl _
      · have := b j (by omega); omega
    · refine ⟨a, fun j hj => ?_⟩
      by_cases e : j = k + 1
      · subst e; omega
      · exact b j (by omega)

theorem min_mem (zs : List Nat) : ∀ k, k < zs.length → pickK minK zs k ∈ zs ∧ ∀ j, j ≤ k → kI (pickK minK zs k) ≤ kI (zs.getD j 0)
  | 0, h => ⟨List.mem_of_getElem? (getD_get h), fun j hj => by
      have e : j = 0 := by omega
      subst e
      exact Int.le_refl _⟩
  | k + 1, h => by
    obtain ⟨a, b⟩ := min_mem zs k (by omega)
    have c := List.mem_of_getElem? (getD_get h)
    have e0 : pickK minK zs (k + 1) = if kI (zs.getD (k + 1) 0) < kI (pickK minK zs k) then zs.getD (k + 1) 0 else pickK minK zs k := rfl
    rw [e0]
    split
    · refine ⟨c, fun j hj => ?_⟩
      by_cases e : j = k + 1
      · subst e; exact Int.le_refl _
      · have := b j (by omega); omega
    · refine ⟨a, fun j hj => ?_⟩
      by_cases e : j = k + 1
      · subst e; omega
      · exact b j (by omega)

theorem sorted_get {zs : List Nat} {p q : Nat} (hpq : p ≤ q) (hq : q < (sortS zs).length) : kI ((sortS zs).getD p 0) ≤ kI ((sortS zs).getD q 0) := by
  by_cases e : p = q
  · subst e; exact Int.le_refl _
  · have h := List.pairwise_iff_getElem.1 (sortS_sorted zs) p q (by omega) hq (by omega)
    simpa [List.getD, show p < (sortS zs).length by omega, hq] using h

theorem mem_place {l : List Nat} {x : Nat} (h : x ∈ l) : ∃ j, j < l.length ∧ l.getD j 0 = x := by
  obtain ⟨j, hj⟩ := List.mem_iff_getElem?.1 h
  exact ⟨j, (List.getElem?_eq_some_iff.1 hj).1, by simp [List.getD, hj]⟩

theorem max_last {zs : List Nat} (h1 : 1 ≤ zs.length) : pickK maxK zs (zs.length - 1) = (sortS zs).getD (zs.length - 1) 0 := by
  obtain ⟨a, b⟩ := max_mem zs (zs.length - 1) (by omega)
  have hl := sortS_len zs
  refine kI_inj (Int.le_antisymm ?_ ?_)
  · obtain ⟨j, hj, e⟩ := mem_place ((sortS_perm zs).mem_iff.2 a)
    rw [← e]
    exact sorted_get (by omega) (by omega)
  · obtain ⟨j, hj, e⟩ := mem_place ((sortS_perm zs).mem_iff.1 (List.mem_of_getElem? (getD_get (l := sortS zs) (i := zs.length - 1) (by omega))))
    rw [← e]
    exact b j (by omega)

theorem min_first {zs : List Nat} (h1 : 1 ≤ zs.length) : pickK minK zs (zs.length - 1) = (sortS zs).getD 0 0 := by
  obtain ⟨a, b⟩ := min_mem zs (zs.length - 1) (by omega)
  have hl := sortS_len zs
  refine kI_inj (Int.le_antisymm ?_ ?_)
  · obtain ⟨j, hj, e⟩ := mem_place ((sortS_perm zs).mem_iff.1 (List.mem_of_getElem? (getD_get (l := sortS zs) (i := 0) (by omega))))
    rw [← e]
    exact b j (by omega)
  · obtain ⟨j, hj, e⟩ := mem_place ((sortS_perm zs).mem_iff.2 a)
    rw [← e]
    exact sorted_get (by omega) (by omega)

def sprS (zs : List Nat) : Nat := fsub ((sortS zs).getD (zs.length - 1) 0) ((sortS zs).getD 0 0)

theorem spr_facts {zs : List Nat} (hq : ∀ z ∈ zs, PlnOk z) (h1 : 1 ≤ zs.length) : floatBits .sub .f32 ((sortS zs).getD (zs.length - 1) 0) ((sortS zs).getD 0 0) = some (sprS zs) ∧ isNum (sprS zs) := by
  have hl := sortS_len zs
  have a := sortS_ok hq _ (List.mem_of_getElem? (getD_get (l := sortS zs) (i := zs.length - 1) (by omega)))
  have b := sortS_ok hq _ (List.mem_of_getElem? (getD_get (l := sortS zs) (i := 0) (by omega)))
  have hC : fadd 1233125376 1233125376 < 2139095040 := by decide +kernel
  obtain ⟨x, y, _⟩ := sub_mag a.1 b.1 a.2 b.2 (by decide) (by decide) hC
  exact ⟨x, y⟩

set_option maxRecDepth 100000 in
set_option maxHeartbeats 4000000 in
theorem MaxF_any (sv : Value) (zs : List Nat) (hq : ∀ z ∈ zs, PlnOk z) (h1 : 1 ≤ zs.length) (hlen : zs.length ≤ 48) (w : World) (hz : FloatsAt w sv zs) :
    Calls Try.prog 66 #[sv] w fun e w' => e = .returned (.float .f32 (pickK maxK zs (zs.length - 1))) ∧ w = w' := by
  have HR := Lib.hid (fun j (hj : j + 1 < zs.length) => run_max6 (hq _ (max_mem zs j (by omega)).1).1 (hq _ (List.mem_of_getElem? (getD_get (l := zs) (i := j + 1) hj))).1)
  have hx0 := getD_get (l := zs) (i := 0) (by omega)
  have HW := Lib.hid hz
  obtain ⟨a, cap, rfl, hl, hm, _⟩ := hz
  unfold maxLen at hm
  obtain ⟨g, o, rfl, hc0⟩ := float_at HW.out hx0
  rw [Nat.add_zero] at hc0
  have e0 : pickK maxK zs 0 = zs.getD 0 0 := rfl
  generalize hn : zs.length = n at *
  have HN := Lib.hid hn
  have z1 : (1 : Int) ≤ (n : Int) := by omega
  have z0 : (0 : Int) < (n : Int) := by omega
  clear hn hq hx0
  go_enter Try.func66, Try.ntmps66
  go_wp2
  go_loopw [3, 4] (fun s i wr => ∃ k : Nat, 1 ≤ k ∧ k ≤ n ∧ i = .int .i64 k ∧ s = .float .f32 (pickK maxK zs (k - 1)) ∧ wr = w) (fun _ i _ => n - (intOf i).toNat)
  case atStart => exact ⟨1, Nat.le_refl _, by omega, rfl, by rw [Nat.sub_self, e0]; first | done | rfl | simp [List.getD], rfl⟩
  case round =>
    clear e0 hc0
    obtain ⟨k, hk, hkn, rfl, rfl, rfl⟩ := hrel
    by_cases hlt : k < n
    · obtain ⟨j, rfl⟩ : ∃ j, k = j + 1 := ⟨k - 1, by omega⟩
      have hx := getD_get (l := zs) (i := j + 1) (by rw [HN.out]; exact hlt)
      have hs := HR.out j hlt
      have HSt : Hid (pickK maxK zs (j + 1) = maxK (pickK maxK zs j) (zs.getD (j + 1) 0)) := Lib.hid rfl
      obtain ⟨g', o', eg, hc⟩ := float_at HW.out hx
      obtain ⟨rfl, rfl⟩ : g = g' ∧ o = o' := by simpa using eg
      generalize hxe : zs.getD (j + 1) 0 = x at *
      generalize hje : j + 1 = k at *
      have hj : k - 1 = j := by omega
      rw [hj]
      have z3 : (k : Int) < (n : Int) := by omega
      have z4 : (0 : Int) ≤ (k : Int) := by omega
      clear hx hxe eg
      go_wp2
      go_roundw
      case rel => exact ⟨k + 1, by omega, by omega, by go_num, by rw [Nat.add_sub_cancel, HSt.out], by trivial⟩
      case measure => simp [intOf]; omega
    · obtain rfl : k = n := by omega
      go_wp2
      go_ret
      exact ⟨rfl, rfl⟩

set_option maxRecDepth 100000 in
set_option maxHeartbeats 4000000 in
theorem MinF_any (sv : Value) (zs : List Nat) (hq : ∀ z ∈ zs, PlnOk z) (h1 : 1 ≤ zs.length) (hlen : zs.length ≤ 48) (w : World) (hz : FloatsAt w sv zs) :
    Calls Try.prog 67 #[sv] w fun e w' => e = .returned (.float .f32 (pickK minK zs (zs.length - 1))) ∧ w = w' := by
  have HR := Lib.hid (fun j (hj : j + 1 < zs.length) => run_min6 (hq _ (min_mem zs j (by omega)).1).1 (hq _ (List.mem_of_getElem? (getD_get (l := zs) (i := j + 1) hj))).1)
  have hx0 := getD_get (l := zs) (i := 0) (by omega)
  have HW := Lib.hid hz
  obtain ⟨a, cap, rfl, hl, hm, _⟩ := hz
  unfold maxLen at hm
  obtain ⟨g, o, rfl, hc0⟩ := float_at HW.out hx0
  rw [Nat.add_zero] at hc0
  have e0 : pickK minK zs 0 = zs.getD 0 0 := rfl
  generalize hn : zs.length = n at *
  have HN := Lib.hid hn
  have z1 : (1 : Int) ≤ (n : Int) := by omega
  have z0 : (0 : Int) < (n : Int) := by omega
  clear hn hq hx0
  go_enter Try.func67, Try.ntmps67
  go_wp2
  go_loopw [3, 4] (fun s i wr => ∃ k : Nat, 1 ≤ k ∧ k ≤ n ∧ i = .int .i64 k ∧ s = .float .f32 (pickK minK zs (k - 1)) ∧ wr = w) (fun _ i _ => n - (intOf i).toNat)
  case atStart => exact ⟨1, Nat.le_refl _, by omega, rfl, by rw [Nat.sub_self, e0]; first | done | rfl | simp [List.getD], rfl⟩
  case round =>
    clear e0 hc0
    obtain ⟨k, hk, hkn, rfl, rfl, rfl⟩ := hrel
    by_cases hlt : k < n
    · obtain ⟨j, rfl⟩ : ∃ j, k = j + 1 := ⟨k - 1, by omega⟩
      have hx := getD_get (l := zs) (i := j + 1) (by rw [HN.out]; exact hlt)
      have hs := HR.out j hlt
      have HSt : Hid (pickK minK zs (j + 1) = minK (pickK minK zs j) (zs.getD (j + 1) 0)) := Lib.hid rfl
      obtain ⟨g', o', eg, hc⟩ := float_at HW.out hx
      obtain ⟨rfl, rfl⟩ : g = g' ∧ o = o' := by simpa using eg
      generalize hxe : zs.getD (j + 1) 0 = x at *
      generalize hje : j + 1 = k at *
      have hj : k - 1 = j := by omega
      rw [hj]
      have z3 : (k : Int) < (n : Int) := by omega
      have z4 : (0 : Int) ≤ (k : Int) := by omega
      clear hx hxe eg
      go_wp2
      go_roundw
      case rel => exact ⟨k + 1, by omega, by omega, by go_num, by rw [Nat.add_sub_cancel, HSt.out], by trivial⟩
      case measure => simp [intOf]; omega
    · obtain rfl : k = n := by omega
      go_wp2
      go_ret
      exact ⟨rfl, rfl⟩

set_option maxRecDepth 100000 in
set_option maxHeartbeats 1000000 in
theorem iSpreadOf_no (sv : Value) (zs : List Nat) (c : Int) (hcd : codeLs zs 1 = c) (hne : c ≠ 0) (w : World) (hz : FloatsAt w sv zs) :
    Calls Try.prog 33 #[sv] w fun e w' => e = .returned (.tuple #[.float .f32 0, .int .i64 c]) ∧ w = w' := by
  have HC := Lib.hid (checkSome_any sv zs w hz)
  rw [hcd] at HC
  have z0 : (c == 0) = false := beq_eq_false_iff_ne.2 hne
  have z1 : (c != 0) = true := bne_iff_ne.2 hne
  clear hcd hz
  go_enter Try.func33, Try.ntmps33
  go_wp2_with (go_at_call 63; refine HC.out.mono ?_; rintro e w' ⟨rfl, rfl⟩)
  go_ret2
  exact ⟨rfl, rfl⟩

set_option maxRecDepth 100000 in
set_option maxHeartbeats 1000000 in
theorem sSpreadOf_no (sv : Value) (zs : List Nat) (c : Int) (hcd : codeLs zs 1 = c) (hne : c ≠ 0) (w : World) (hz : FloatsAt w sv zs) :
    Calls Try.prog 32 #[sv] w fun e w' => e = .returned (.tuple #[.float .f32 0, .int .i64 c]) ∧ w = w' := by
  have HC := Lib.hid ((fun sv zs w hz => l06Code_any sv zs 1 w hz) sv zs w hz)
  rw [hcd] at HC
  have z0 : (c == 0) = false := beq_eq_false_iff_ne.2 hne
  have z1 : (c != 0) = true := bne_iff_ne.2 hne
  clear hcd hz
  go_enter Try.func32, Try.ntmps32
  go_wp2_with (go_at_call 61; refine HC.out.mono ?_; rintro e w' ⟨rfl, rfl⟩)
  go_ret2
  exact ⟨rfl, rfl⟩

set_option maxRecDepth 100000 in
set_option maxHeartbeats 4000000 in
theorem iSpreadOf_yes (sv : Value) (zs : List Nat) (hcd : codeLs zs 1 = 0) (hwf : ∀ z ∈ zs, (Lit.float .f32 z).wf = true) (w : World) (hz : FloatsAt w sv zs) :
    Calls Try.prog 33 #[sv] w fun e w' => e = .returned (.tuple #[.float .f32 (sprS zs), .int .i64 0]) ∧ w = w' := by
  have HC := Lib.hid (checkSome_any sv zs w hz)
  obtain ⟨h1, h48, hq⟩ := codeLs_zero hwf hcd
  rw [hcd] at HC
  have HM := Lib.hid (MaxF_any sv zs hq h1 h48 w hz)
  have HN := Lib.hid (MinF_any sv zs hq h1 h48 w hz)
  rw [max_last h1] at HM
  rw [min_first h1] at HN
  have rs := fun T w => run_float_arith (P := Try.prog) w .sub T .f32 _ _ _ (spr_facts hq h1).1
  clear hcd hz hq hwf
  generalize (sortS zs).getD (zs.length - 1) 0 = a at *
  generalize (sortS zs).getD 0 0 = b at *
  go_enter Try.func33, Try.ntmps33
  go_wp2_with (first | (go_at_call 63; refine HC.out.mono ?_; rintro e w' ⟨rfl, rfl⟩) | (go_at_call 66; refine HM.out.mono ?_; rintro e w1 ⟨rfl, rfl⟩) | (go_at_call 67; refine HN.out.mono ?_; rintro e w1 ⟨rfl, rfl⟩))
  go_ret2
  exact ⟨rfl, rfl⟩

set_option maxRecDepth 100000 in
set_option maxHeartbeats 8000000 in
theorem sSpreadOf_yes (sv : Value) (zs : List Nat) (hcd : codeLs zs 1 = 0) (hwf : ∀ z ∈ zs, (Lit.float .f32 z).wf = true) (w : World) (hz : FloatsAt w sv zs) :
    Calls Try.prog 32 #[sv] w fun e w' => e = .returned (.tuple #[.float .f32 (sprS zs), .int .i64 0]) ∧ Below w.heap.size w w' := by
  have HC := Lib.hid (l06Code_any sv zs 1 w hz)
  obtain ⟨h1, h48, hq⟩ := codeLs_zero hwf hcd
  rw [hcd] at HC
  have HS := Lib.hid (l06Sorted_any sv zs hq h48 w hz)
  have rs := fun T w => run_float_arith (P := Try.prog) w .sub T .f32 _ _ _ (spr_facts hq h1).1
  have hl := sortS_len zs
  have HKA := Lib.hid (getD_get (l := sortS zs) (i := zs.length - 1) (by omega))
  have HKB := Lib.hid (getD_get (l := sortS zs) (i := 0) (by omega))
  clear hcd hz hwf hq
  unfold SortRet at HS
  generalize sprS zs = q at *
  generalize sortS zs = l at *
  rw [← hl] at rs HKA h1 h48
  generalize l.getD (l.length - 1) 0 = xa at *
  generalize l.getD 0 0 = xb at *
  clear hl
  have z7 : ((l.length : Nat) : Int) - 1 = ((l.length - 1 : Nat) : Int) := by omega
  have z8 : IntKind.i64.wrap ((l.length - 1 : Nat) : Int) = ((l.length - 1 : Nat) : Int) := IntWalk.i64_in _ (by omega)
  have z10 : ((l.length - 1 : Nat) : Int) < ((l.length : Nat) : Int) := by omega
  have z11 : (0 : Int) ≤ ((l.length - 1 : Nat) : Int) := by omega
  have z12 : 0 < l.length := by omega
  generalize l.length - 1 = hA at *
  go_enter Try.func32, Try.ntmps32
  go_upto_region 5 with (first | (go_at_call 61; refine HC.out.mono ?_; rintro e w' ⟨rfl, rfl⟩) | (go_at_call 65; refine HS.out.mono ?_; rintro e w1 ⟨v, rfl, hv, hb⟩; have HO := Lib.hid (own_floats hv); clear hv))
  clear HS HC
  have hfl := HO.out
  clear HO
  obtain ⟨a, cap, rfl, hl, hm, -⟩ := id hfl
  unfold maxLen at hm
  obtain ⟨g, o, rfl, ca⟩ := float_at hfl HKA.out
  obtain ⟨g', o', eg, cb⟩ := float_at hfl HKB.out
  obtain ⟨rfl, rfl⟩ : g = g' ∧ o = o' := by simpa using eg
  rw [Nat.add_zero] at cb
  clear hfl eg
  generalize l.length = n at *
  go_wp2
  refine wp_region_held_drew (S := (fun W => W.cell? ⟨g, o + hA, none⟩ = some (.float .f32 xa) ∧ W.cell? ⟨g, o, none⟩ = some (.float .f32 xb) ∧ Below w.heap.size w W)) (by kernel_rfl) ⟨by simpa using ca, by simpa using cb, hb.drew⟩ (fun hHeld => ?_)
  refine take_op (i := 0) (d := 13) (v := ?_) rfl rfl (by kernel_rfl) (by kernel_rfl) (by kernel_rfl) (fun _ _ _ h => h) (Or.inl ⟨by rfl, ?hy0u58⟩) hHeld ?rest0u58
  case hy0u58 =>
    intro w' hS'
    obtain ⟨s1, s2, _⟩ := hS'
    go_simp
    try with_reducible rfl
  simp only [List.setIfInBounds_toArray, List.set_cons_zero, List.set_cons_succ]
  refine take_op (i := 1) (d := 14) (v := ?_) rfl rfl (by kernel_rfl) (by kernel_rfl) (by kernel_rfl) (fun _ _ _ h => h) (Or.inl ⟨by rfl, ?hy1u59⟩) hHeld ?rest1u59
  case hy1u59 =>
    intro w' hS'
    obtain ⟨s1, s2, _⟩ := hS'
    go_simp
    try with_reducible rfl
  simp only [List.setIfInBounds_toArray, List.set_cons_zero, List.set_cons_succ]
  refine take_op (i := 2) (d := 15) (v := ?_) rfl rfl (by kernel_rfl) (by kernel_rfl) (by kernel_rfl) (fun _ _ _ h => h) (Or.inl ⟨by rfl, ?hy2u60⟩) hHeld ?rest2u60
  case hy2u60 =>
    intro w' hS'
    obtain ⟨s1, s2, _⟩ := hS'
    go_simp
    try with_reducible rfl
  simp only [List.setIfInBounds_toArray, List.set_cons_zero, List.set_cons_succ]
  refine take_op (i := 3) (d := 16) (v := ?_) rfl rfl (by kernel_rfl) (by kernel_rfl) (by kernel_rfl) (fun _ _ _ h => h) (Or.inl ⟨by rfl, ?hy3u61⟩) hHeld ?rest3u61
  case hy3u61 =>
    intro w' hS'
    obtain ⟨s1, s2, _⟩ := hS'
    go_simp
    try with_reducible rfl
  simp only [List.setIfInBounds_toArray, List.set_cons_zero, List.set_cons_succ]
  refine take_op (i := 4) (d := 17) (v := ?_) rfl rfl (by kernel_rfl) (by kernel_rfl) (by kernel_rfl) (fun _ _ _ h => h) (Or.inl ⟨by rfl, ?hy4u62⟩) hHeld ?rest4u62
  case hy4u62 =>
    intro w' hS'
    obtain ⟨s1, s2, _⟩ := hS'
    go_simp
    try with_reducible rfl
  simp only [List.setIfInBounds_toArray, List.set_cons_zero, List.set_cons_succ]
  refine take_op (i := 5) (d := 18) (v := ?_) rfl rfl (by kernel_rfl) (by kernel_rfl) (by kernel_rfl) (fun _ _ _ h => h) (Or.inl ⟨by rfl, ?hy5u63⟩) hHeld ?rest5u63
  case hy5u63 =>
    intro w' hS'
    obtain ⟨s1, s2, _⟩ := hS'
    go_simp
    try with_reducible rfl
  simp only [List.setIfInBounds_toArray, List.set_cons_zero, List.set_cons_succ]
  refine take_op (i := 6) (d := 19) (v := ?_) rfl rfl (by kernel_rfl) (by kernel_rfl) (by kernel_rfl) (fun _ _ _ h => h) (Or.inl ⟨by rfl, ?hy6u64⟩) hHeld ?rest6u64
  case hy6u64 =>
    intro w' hS'
    obtain ⟨s1, s2, _⟩ := hS'
    go_simp
    try with_reducible rfl
  simp only [List.setIfInBounds_toArray, List.set_cons_zero, List.set_cons_succ]
  refine take_op (i := 7) (d := 20) (v := ?_) rfl rfl (by kernel_rfl) (by kernel_rfl) (by kernel_rfl) (fun _ _ _ h => h) (Or.inl ⟨by rfl, ?hy7u65⟩) hHeld ?rest7u65
  case hy7u65 =>
    intro w' hS'
    obtain ⟨s1, s2, _⟩ := hS'
    go_simp
    try with_reducible rfl
  simp only [List.setIfInBounds_toArray, List.set_cons_zero, List.set_cons_succ]
  refine take_op (i := 8) (d := 21) (v := ?_) rfl rfl (by kernel_rfl) (by kernel_rfl) (by kernel_rfl) (fun _ _ _ h => h) (Or.inl ⟨by rfl, ?hy8u66⟩) hHeld ?rest8u66
  case hy8u66 =>
    intro w' hS'
    obtain ⟨s1, s2, _⟩ := hS'
    go_simp
    try with_reducible rfl
  simp only [List.setIfInBounds_toArray, List.set_cons_zero, List.set_cons_succ]
  refine take_op (i := 9) (d := 22) (v := ?_) rfl rfl (by kernel_rfl) (by kernel_rfl) (by kernel_rfl) (fun _ _ _ h => h) (Or.inl ⟨by rfl, ?hy9u67⟩) hHeld ?rest9u67
  case hy9u67 =>
    intro w' hS'
    obtain ⟨s1, s2, _⟩ := hS'
    go_simp
    try with_reducible rfl
  simp only [List.setIfInBounds_toArray, List.set_cons_zero, List.set_cons_succ]
  refine take_op (i := 10) (d := 2) (v := ?_) rfl rfl (by kernel_rfl) (by kernel_rfl) (by kernel_rfl) (fun _ _ _ h => h) (Or.inl ⟨by rfl, ?hy10u68⟩) hHeld ?rest10u68
  case hy10u68 =>
    intro w' hS'
    obtain ⟨s1, s2, _⟩ := hS'
    go_simp
    try with_reducible rfl
  simp only [List.setIfInBounds_toArray, List.set_cons_zero, List.set_cons_succ]
  refine take_op (i := 11) (d := 3) (v := ?_) rfl rfl (by kernel_rfl) (by kernel_rfl) (by kernel_rfl) (fun _ _ _ h => h) (Or.inl ⟨by rfl, ?hy11u69⟩) hHeld ?rest11u69
  case hy11u69 =>
    intro w' hS'
    obtain ⟨s1, s2, _⟩ := hS'
    go_simp
    try with_reducible rfl
  simp only [List.setIfInBounds_toArray, List.set_cons_zero, List.set_cons_succ]
  refine wpAnyH_done (by kernel_rfl) ?_ _
  have hbx := hHeld.2.2
  clear hHeld

  go_wp2
  go_ret2
  exact ⟨rfl, hbx⟩

end Go.Proofs.Ytjpnbcfdnolcjaa
