/-
  The middle of a list in its order: the program.

-/
import Derived.Test.YtmbgmpeiicjlaaaFlA
import Derived.Test.YtmbgmpeiicjlaaaMag
import Derived.IntWalk
import Derived.Deep.Cut
import Derived.Deep.DeepCutAuto

namespace Go.Proofs.Ytmbgmpeiicjlaaa

open Go.ChangeShapes Go.WideShapes Go.ChangeAt Go.RowKit Go.Deep Go.Joins

attribute [local go_sem] run_store_f

def PlnV (x : Nat) : Prop := isNum x ∧ mag x ≤ 1233125376

theorem getD_get {l : List Nat} {i : Nat} (h : i < l.length) : l[i]? = some (l.getD i 0) := by
  rw [List.getElem?_eq_getElem h]; simp [List.getD, h]

/-- The middle number of a list, or half of the sum of both. -/
def middS (l : List Nat) : Nat := if l.length % 2 = 1 then l.getD (l.length / 2) 0 else fdiv (fadd (l.getD (l.length / 2 - 1) 0) (l.getD (l.length / 2) 0)) 1073741824

theorem two_sum : fadd 1233125376 1233125376 < 2139095040 ∧ fdiv (fadd 1233125376 1233125376) 1073741824 < 2139095040 := by decide +kernel

theorem midd_facts {a b : Nat} (ha : PlnV a) (hb : PlnV b) : floatBits .add .f32 a b = some (fadd a b) ∧ floatBits .quo .f32 (fadd a b) 1073741824 = some (fdiv (fadd a b) 1073741824) ∧ isNum (fdiv (fadd a b) 1073741824) := by
  obtain ⟨h1, h2⟩ := two_sum
  obtain ⟨a1, a2, a3⟩ := add_mag ha.1 hb.1 ha.2 hb.2 (by decide) (by decide) h1
  obtain ⟨b1, b2, _⟩ := div_mag (B := 1073741824) a2 a3 h1 (y := 1073741824) (by decide) (by decide) (Nat.le_refl _) h2
  exact ⟨a1, b1, b2⟩

theorem get_pln {l : List Nat} (hq : ∀ z ∈ l, PlnV z) {i : Nat} (h : i < l.length) : PlnV (l.getD i 0) := hq _ (List.mem_of_getElem? (getD_get h))

theorem midd_num {l : List Nat} (hq : ∀ z ∈ l, PlnV z) (h1 : 1 ≤ l.length) : isNum (middS l) := by
  unfold middS
  split
  · exact (get_pln hq (by omega)).1
  · exact (midd_facts (get_pln hq (by omega)) (get_pln hq (by omega))).2.2

set_option maxRecDepth 100000 in
set_option maxHeartbeats 4000000 in
theorem middleOf_any (v : Value) (l : List Nat) (hq : ∀ z ∈ l, PlnV z) (h1 : 1 ≤ l.length) (h48 : l.length ≤ 48) (w : World) (hfl : FloatsAt w v l) :
    Calls Try.prog 14 #[v] w fun e w' => e = .returned (.float .f32 (middS l)) ∧ Below w.heap.size w w' := by
  obtain ⟨a, cap, rfl, hl, hm, -⟩ := id hfl
  unfold maxLen at hm
  have hkb := getD_get (l := l) (i := l.length / 2) (by omega)
  obtain ⟨g, o, rfl, cb⟩ := float_at hfl hkb
  have hmid : middS l = if l.length % 2 = 1 then l.getD (l.length / 2) 0 else fdiv (fadd (l.getD (l.length / 2 - 1) 0) (l.getD (l.length / 2) 0)) 1073741824 := rfl
  have z1 : ((l.length : Nat) : Int) / 2 = ((l.length / 2 : Nat) : Int) := by omega
  have z2 : ((l.length : Nat) : Int).tdiv 2 = ((l.length / 2 : Nat) : Int) := by rw [Int.tdiv_eq_ediv_of_nonneg (by omega)]; omega
  have z3 : ((l.length / 2 : Nat) : Int) < ((l.length : Nat) : Int) := by omega
  have z4 : (0 : Int) ≤ ((l.length / 2 : Nat) : Int) := by omega
  by_cases hodd : l.length % 2 = 1
  · rw [if_pos hodd] at hmid
    rw [hmid]
    have z5 : ((l.length : Nat) : Int) % 2 = 1 := by omega
    have z6 : ((l.length : Nat) : Int).tmod 2 = 1 := by rw [Int.tmod_eq_emod_of_nonneg (by omega)]; omega
    clear hkb hmid hodd hfl hq
    generalize l.getD (l.length / 2) 0 = xb at *
    generalize l.length / 2 = h at *
    generalize l.length = n at *
    go_enter Try.func14, Try.ntmps14
    go_wp2
    go_ret
    exact ⟨rfl, Below.refl _ _⟩

  · rw [if_neg hodd] at hmid
    rw [hmid]
    have hka := getD_get (l := l) (i := l.length / 2 - 1) (by omega)
    obtain ⟨g', o', eg, ca⟩ := float_at hfl hka
    obtain ⟨rfl, rfl⟩ : g = g' ∧ o = o' := by simpa using eg
    obtain ⟨d1, d2, _⟩ := midd_facts (get_pln hq (i := l.length / 2 - 1) (by omega)) (get_pln hq (i := l.length / 2) (by omega))
    have ra := fun T w => run_float_arith (P := Try.prog) w .add T .f32 _ _ _ d1
    have rq := fun T w => run_float_arith (P := Try.prog) w .quo T .f32 _ _ _ d2
    have z5 : ((l.length : Nat) : Int) % 2 = 0 := by omega
    have z6 : ((l.length : Nat) : Int).tmod 2 = 0 := by rw [Int.tmod_eq_emod_of_nonneg (by omega)]; omega
    have z7 : ((l.length / 2 : Nat) : Int) - 1 = ((l.length / 2 - 1 : Nat) : Int) := by omega
    have z8 : IntKind.i64.wrap ((l.length / 2 - 1 : Nat) : Int) = ((l.length / 2 - 1 : Nat) : Int) := IntWalk.i64_in _ (by omega)
    have z9 : IntKind.i64.wrap ((l.length / 2 : Nat) : Int) = ((l.length / 2 : Nat) : Int) := IntWalk.i64_in _ (by omega)
    have z10 : ((l.length / 2 - 1 : Nat) : Int) < ((l.length : Nat) : Int) := by omega
    have z11 : (0 : Int) ≤ ((l.length / 2 - 1 : Nat) : Int) := by omega
    clear hkb hka hmid hodd hfl hq d1 d2 eg
    generalize l.getD (l.length / 2 - 1) 0 = xa at *
    generalize l.getD (l.length / 2) 0 = xb at *
    generalize fdiv (fadd xa xb) 1073741824 = q at *
    generalize fadd xa xb = s at *
    generalize l.length / 2 - 1 = hA at *
    generalize l.length / 2 = h at *
    generalize l.length = n at *
    go_enter Try.func14, Try.ntmps14
    go_wp2
    refine wp_region_held_drew (S := (fun W => W.cell? ⟨g, o + hA, none⟩ = some (.float .f32 xa) ∧ W.cell? ⟨g, o + h, none⟩ = some (.float .f32 xb) ∧ Below w.heap.size w W)) (by kernel_rfl) ⟨by simpa using ca, by simpa using cb, (Below.refl _ _).drew⟩ (fun hHeld => ?_)
    refine take_op (i := 0) (d := 15) (v := ?_) rfl rfl (by kernel_rfl) (by kernel_rfl) (by kernel_rfl) (fun _ _ _ h => h) (Or.inl ⟨by rfl, ?hy0u31⟩) hHeld ?rest0u31
    case hy0u31 =>
      intro w' hS'
      obtain ⟨s1, s2, _⟩ := hS'
      go_simp
      try with_reducible rfl
    simp only [List.setIfInBounds_toArray, List.set_cons_zero, List.set_cons_succ]
    refine take_op (i := 1) (d := 16) (v := ?_) rfl rfl (by kernel_rfl) (by kernel_rfl) (by kernel_rfl) (fun _ _ _ h => h) (Or.inl ⟨by rfl, ?hy1u32⟩) hHeld ?rest1u32
    case hy1u32 =>
      intro w' hS'
      obtain ⟨s1, s2, _⟩ := hS'
      go_simp
      try with_reducible rfl
    simp only [List.setIfInBounds_toArray, List.set_cons_zero, List.set_cons_succ]
    refine take_op (i := 2) (d := 17) (v := ?_) rfl rfl (by kernel_rfl) (by kernel_rfl) (by kernel_rfl) (fun _ _ _ h => h) (Or.inl ⟨by rfl, ?hy2u33⟩) hHeld ?rest2u33
    case hy2u33 =>
      intro w' hS'
      obtain ⟨s1, s2, _⟩ := hS'
      go_simp
      try with_reducible rfl
    simp only [List.setIfInBounds_toArray, List.set_cons_zero, List.set_cons_succ]
    refine take_op (i := 3) (d := 18) (v := ?_) rfl rfl (by kernel_rfl) (by kernel_rfl) (by kernel_rfl) (fun _ _ _ h => h) (Or.inl ⟨by rfl, ?hy3u34⟩) hHeld ?rest3u34
    case hy3u34 =>
      intro w' hS'
      obtain ⟨s1, s2, _⟩ := hS'
      go_simp
      try with_reducible rfl
    simp only [List.setIfInBounds_toArray, List.set_cons_zero, List.set_cons_succ]
    refine take_op (i := 4) (d := 19) (v := ?_) rfl rfl (by kernel_rfl) (by kernel_rfl) (by kernel_rfl) (fun _ _ _ h => h) (Or.inl ⟨by rfl, ?hy4u35⟩) hHeld ?rest4u35
    case hy4u35 =>
      intro w' hS'
      obtain ⟨s1, s2, _⟩ := hS'
      go_simp
      try with_reducible rfl
    simp only [List.setIfInBounds_toArray, List.set_cons_zero, List.set_cons_succ]
    refine take_op (i := 5) (d := 20) (v := ?_) rfl rfl (by kernel_rfl) (by kernel_rfl) (by kernel_rfl) (fun _ _ _ h => h) (Or.inl ⟨by rfl, ?hy5u36⟩) hHeld ?rest5u36
    case hy5u36 =>
      intro w' hS'
      obtain ⟨s1, s2, _⟩ := hS'
      go_simp
      try with_reducible rfl
    simp only [List.setIfInBounds_toArray, List.set_cons_zero, List.set_cons_succ]
    refine take_op (i := 6) (d := 21) (v := ?_) rfl rfl (by kernel_rfl) (by kernel_rfl) (by kernel_rfl) (fun _ _ _ h => h) (Or.inl ⟨by rfl, ?hy6u37⟩) hHeld ?rest6u37
    case hy6u37 =>
      intro w' hS'
      obtain ⟨s1, s2, _⟩ := hS'
      go_simp
      try with_reducible rfl
    simp only [List.setIfInBounds_toArray, List.set_cons_zero, List.set_cons_succ]
    refine take_op (i := 7) (d := 22) (v := ?_) rfl rfl (by kernel_rfl) (by kernel_rfl) (by kernel_rfl) (fun _ _ _ h => h) (Or.inl ⟨by rfl, ?hy7u38⟩) hHeld ?rest7u38
    case hy7u38 =>
      intro w' hS'
      obtain ⟨s1, s2, _⟩ := hS'
      go_simp
      try with_reducible rfl
    simp only [List.setIfInBounds_toArray, List.set_cons_zero, List.set_cons_succ]
    refine take_op (i := 8) (d := 23) (v := ?_) rfl rfl (by kernel_rfl) (by kernel_rfl) (by kernel_rfl) (fun _ _ _ h => h) (Or.inl ⟨by rfl, ?hy8u39⟩) hHeld ?rest8u39
    case hy8u39 =>
      intro w' hS'
      obtain ⟨s1, s2, _⟩ := hS'
      go_simp
      try with_reducible rfl
    simp only [List.setIfInBounds_toArray, List.set_cons_zero, List.set_cons_succ]
    refine take_op (i := 9) (d := 24) (v := ?_) rfl rfl (by kernel_rfl) (by kernel_rfl) (by kernel_rfl) (fun _ _ _ h => h) (Or.inl ⟨by rfl, ?hy9u40⟩) hHeld ?rest9u40
    case hy9u40 =>
      intro w' hS'
      obtain ⟨s1, s2, _⟩ := hS'
      go_simp
      try with_reducible rfl
    simp only [List.setIfInBounds_toArray, List.set_cons_zero, List.set_cons_succ]
    refine take_op (i := 10) (d := 25) (v := ?_) rfl rfl (by kernel_rfl) (by kernel_rfl) (by kernel_rfl) (fun _ _ _ h => h) (Or.inl ⟨by rfl, ?hy10u41⟩) hHeld ?rest10u41
    case hy10u41 =>
      intro w' hS'
      obtain ⟨s1, s2, _⟩ := hS'
      go_simp
      try with_reducible rfl
    simp only [List.setIfInBounds_toArray, List.set_cons_zero, List.set_cons_succ]
    refine take_op (i := 11) (d := 2) (v := ?_) rfl rfl (by kernel_rfl) (by kernel_rfl) (by kernel_rfl) (fun _ _ _ h => h) (Or.inl ⟨by rfl, ?hy11u42⟩) hHeld ?rest11u42
    case hy11u42 =>
      intro w' hS'
      obtain ⟨s1, s2, _⟩ := hS'
      go_simp
      try with_reducible rfl
    simp only [List.setIfInBounds_toArray, List.set_cons_zero, List.set_cons_succ]
    refine wpAnyH_done (by kernel_rfl) ?_ _
    have hbx := hHeld.2.2
    clear hHeld
    go_wp2
    go_ret
    exact ⟨rfl, hbx⟩

end Go.Proofs.Ytmbgmpeiicjlaaa
