/-
  The sum of halves: the program and the model.
-/
import Derived.Test.YtjpnbcfdnolcjabSbL
import Derived.IntWalk
namespace Go.Proofs.Ytjpnbcfdnolcjab
open Go.ChangeShapes Go.WideShapes Go.ChangeAt Go.RowKit Go.Deep Go.Joins

attribute [local go_sem] run_store_f

theorem floats_take {W : World} {g o n cap : Nat} {zs : List Nat} (h : FloatsAt W (.slice (some ⟨g, o, none⟩) n cap) zs) {m c : Nat} (hm : m ≤ zs.length) (hc : m ≤ c) (hc2 : c ≤ maxLen) :
    FloatsAt W (.slice (some ⟨g, o, none⟩) m c) (zs.take m) := by
  obtain ⟨a', cap', e, _, _, h4⟩ := h
  injection e with e1 e2 e3
  subst e1
  have hl : (zs.take m).length = m := by rw [List.length_take]; omega
  refine ⟨_, c, by rw [hl], by omega, hc2, fun i x hx => ?_⟩
  rw [List.getElem?_take] at hx
  split at hx
  · exact h4 i x hx
  · cases hx

theorem floats_drop {W : World} {g o n cap : Nat} {zs : List Nat} (h : FloatsAt W (.slice (some ⟨g, o, none⟩) n cap) zs) {j : Nat} (hj : j ≤ zs.length) :
    FloatsAt W (.slice (some ⟨g, o + j, none⟩) (n - j) (cap - j)) (zs.drop j) := by
  obtain ⟨a', cap', e, h2, h3, h4⟩ := h
  injection e with e1 e2 e3
  subst e1 e3
  have hl : (zs.drop j).length = n - j := by rw [List.length_drop]; omega
  refine ⟨_, cap - j, by rw [hl], by omega, by omega, fun i x hx => ⟨g, o + j, rfl, ?_⟩⟩
  rw [List.getElem?_drop] at hx
  obtain ⟨g', o', e', c'⟩ := h4 (j + i) x hx
  obtain ⟨rfl, rfl⟩ : g = g' ∧ o = o' := by simpa using e'
  rw [← Nat.add_assoc] at c'
  exact c'

theorem pairsF_zero (d : Nat) {zs : List Nat} (h : zs.length = 0) : pairsF (d + 1) zs = 0 := by rw [pairsF, if_pos h]

theorem pairsF_one (d : Nat) {zs : List Nat} {x : Nat} (h : zs.length = 1) (hx : zs[0]? = some x) : pairsF (d + 1) zs = x := by
  rw [pairsF, if_neg (by omega), if_pos h]; simp [List.getD, hx]

set_option maxRecDepth 100000 in
set_option maxHeartbeats 8000000 in
theorem addedInPairs_any : ∀ (d : Nat) (zs : List Nat) (sv : Value) (w : World), d ≤ 6 → zs.length ≤ 2 ^ d → (∀ z ∈ zs, PlnOk z) → FloatsAt w sv zs →
    Calls Try.prog 74 #[sv] w fun e w' => e = .returned (.float .f32 (pairsF (d + 1) zs)) ∧ Below w.heap.size w w' := by
  intro d
  induction d with
  | zero =>
    intro zs sv w hd hlen hq hz
    have HW := Lib.hid hz
    obtain ⟨a, cap, rfl, hl, hm, _⟩ := hz
    unfold maxLen at hm
    simp only [Nat.pow_zero] at hlen
    rcases Nat.eq_zero_or_pos zs.length with h0 | h0
    · rw [pairsF_zero 0 h0, h0]
      clear HW hq
      go_enter Try.func74, Try.ntmps74
      go_wp2
      go_ret
      exact ⟨rfl, Below.refl _ _⟩
    · have h1 : zs.length = 1 := by omega
      obtain ⟨x, hx⟩ : ∃ x, zs[0]? = some x := ⟨_, List.getElem?_eq_getElem (by omega)⟩
      rw [pairsF_one 0 h1 hx]
      obtain ⟨g, o, rfl, hc⟩ := float_at HW.out hx
      rw [Nat.add_zero] at hc
      rw [h1] at hl ⊢
      clear HW hq hx h1 hlen h0
      go_enter Try.func74, Try.ntmps74
      go_wp2
      go_ret
      exact ⟨rfl, Below.refl _ _⟩
  | succ d ih =>
    intro zs sv w hd hlen hq hz
    have HW := Lib.hid hz
    obtain ⟨a, cap, rfl, hl, hm, -⟩ := hz
    unfold maxLen at hm
    rcases Nat.lt_or_ge zs.length 2 with h2 | h2
    · rcases Nat.eq_zero_or_pos zs.length with h0 | h0
      · rw [pairsF_zero (d + 1) h0, h0]
        clear HW hq ih
        go_enter Try.func74, Try.ntmps74
        go_wp2
        go_ret
        exact ⟨rfl, Below.refl _ _⟩
      · have h1 : zs.length = 1 := by omega
        obtain ⟨x, hx⟩ : ∃ x, zs[0]? = some x := ⟨_, List.getElem?_eq_getElem (by omega)⟩
        rw [pairsF_one (d + 1) h1 hx]
        obtain ⟨g, o, rfl, hc⟩ := float_at HW.out hx
        rw [Nat.add_zero] at hc
        rw [h1] at hl ⊢
        clear HW hq hx h1 hlen h0 ih h2
        go_enter Try.func74, Try.ntmps74
        go_wp2
        go_ret
        exact ⟨rfl, Below.refl _ _⟩
    · have hst := pairsF_step d zs (by omega) h2 hlen hq
      have ra := fun T w => run_float_arith (P := Try.prog) w .add T .f32 _ _ _ hst
      clear hst
      obtain ⟨x, hx⟩ : ∃ x, zs[0]? = some x := ⟨_, List.getElem?_eq_getElem (by omega)⟩
      obtain ⟨g, o, rfl, -⟩ := float_at HW.out hx
      clear hx
      rw [Nat.pow_succ] at hlen
      have hN : zs.length = zs.length := rfl
      have HL := Lib.hid (floats_take HW.out (m := zs.length / 2) (c := zs.length / 2) (by omega) (by omega) (by unfold maxLen; omega))
      have HR := Lib.hid (floats_drop HW.out (j := zs.length / 2) (by omega))
      have IHL := Lib.hid (fun W hW => ih (zs.take (zs.length / 2)) (.slice (some ⟨g, o, none⟩) (zs.length / 2) (zs.length / 2)) W (by omega) (by rw [List.length_take]; omega) (fun z hz => hq z (List.mem_of_mem_take hz)) hW)
      have IHR := Lib.hid (fun W hW => ih (zs.drop (zs.length / 2)) (.slice (some ⟨g, o + zs.length / 2, none⟩) (zs.length - zs.length / 2) (cap - zs.length / 2)) W (by omega) (by rw [List.length_drop]; omega) (fun z hz => hq z (List.mem_of_mem_drop hz)) hW)
      generalize pairsF (d + 1) (zs.take (zs.length / 2)) = pl at *
      generalize pairsF (d + 1) (zs.drop (zs.length / 2)) = pr at *
      generalize pairsF (d + 1 + 1) zs = ps at *
      generalize zs.take (zs.length / 2) = zl at *
      generalize zs.drop (zs.length / 2) = zr at *
      have hh1 : zs.length / 2 < zs.length := by omega
      have hh2 : 1 ≤ zs.length / 2 := by omega
      have hq1 : ((zs.length : Nat) : Int) / 2 = ((zs.length / 2 : Nat) : Int) := by omega
      have hq2 : ((zs.length : Nat) : Int).tdiv 2 = ((zs.length / 2 : Nat) : Int) := by rw [Int.tdiv_eq_ediv_of_nonneg (by omega)]; omega
      clear hq ih hlen hN HW
      generalize zs.length / 2 = h at *
      generalize zs.length = n at *
      have z1 : (2 : Int) ≤ (n : Int) := by omega
      have z2 : (0 : Int) ≤ (h : Int) := by omega
      have z3 : (h : Int) ≤ (n : Int) := by omega
      have z4 : ¬ cap = h := by omega
      have z5 : (h : Int) ≤ (cap : Int) := by omega
      have z6 : ¬ h = 0 := by omega
      have z7 : ((n : Int) == 0) = false := beq_eq_false_iff_ne.2 (by omega)
      have z8 : ((n : Int) == 1) = false := beq_eq_false_iff_ne.2 (by omega)
      have z9 : ¬ cap = 0 := by omega
      have z10 : IntKind.i64.wrap (h : Int) = (h : Int) := IntWalk.i64_in _ (by omega)
      go_enter Try.func74, Try.ntmps74
      go_wp2
      refine wp_region_held_drew (S := (fun W => Below w.heap.size w W)) (by kernel_rfl) ((Below.refl _ _).drew) (fun hHeld => ?_)
      refine take_op (i := 0) (d := 16) (v := ?_) rfl rfl (by kernel_rfl) (by kernel_rfl) (by kernel_rfl) (fun _ _ _ h => h) (Or.inl ⟨by rfl, ?hy0u1⟩) hHeld ?rest0u1
      case hy0u1 =>
        intro w' hS'
        go_simp
        try with_reducible rfl
      simp only [List.setIfInBounds_toArray, List.set_cons_zero, List.set_cons_succ]
      refine take_op (i := 1) (d := 17) (v := ?_) rfl rfl (by kernel_rfl) (by kernel_rfl) (by kernel_rfl) (fun _ _ _ h => h) (Or.inl ⟨by rfl, ?hy1u2⟩) hHeld ?rest1u2
      case hy1u2 =>
        intro w' hS'
        go_simp
        try with_reducible rfl
      simp only [List.setIfInBounds_toArray, List.set_cons_zero, List.set_cons_succ]
      refine take_op (i := 2) (d := 18) (v := ?_) rfl rfl (by kernel_rfl) (by kernel_rfl) (by kernel_rfl) (fun _ _ _ h => h) (Or.inl ⟨by rfl, ?hy2u3⟩) hHeld ?rest2u3
      case hy2u3 =>
        intro w' hS'
        go_simp
        try with_reducible rfl
      simp only [List.setIfInBounds_toArray, List.set_cons_zero, List.set_cons_succ]
      refine take_op (i := 3) (d := 19) (v := ?_) rfl rfl (by kernel_rfl) (by kernel_rfl) (by kernel_rfl) (fun _ _ _ h => h) (Or.inl ⟨by rfl, ?hy3u4⟩) hHeld ?rest3u4
      case hy3u4 =>
        intro w' hS'
        go_simp
        try with_reducible rfl
      simp only [List.setIfInBounds_toArray, List.set_cons_zero, List.set_cons_succ]
      refine take_op (i := 5) (d := 21) (v := ?_) rfl rfl (by kernel_rfl) (by kernel_rfl) (by kernel_rfl) (fun _ _ _ h => h) (Or.inl ⟨by rfl, ?hy5u5⟩) hHeld ?rest5u5
      case hy5u5 =>
        intro w' hS'
        go_simp
        try with_reducible rfl
      simp only [List.setIfInBounds_toArray, List.set_cons_zero, List.set_cons_succ]
      refine take_op (i := 6) (d := 22) (v := ?_) rfl rfl (by kernel_rfl) (by kernel_rfl) (by kernel_rfl) (fun _ _ _ h => h) (Or.inl ⟨by rfl, ?hy6u6⟩) hHeld ?rest6u6
      case hy6u6 =>
        intro w' hS'
        go_simp
        try with_reducible rfl
      simp only [List.setIfInBounds_toArray, List.set_cons_zero, List.set_cons_succ]
      refine take_op (i := 7) (d := 23) (v := ?_) rfl rfl (by kernel_rfl) (by kernel_rfl) (by kernel_rfl) (fun _ _ _ h => h) (Or.inl ⟨by rfl, ?hy7u7⟩) hHeld ?rest7u7
      case hy7u7 =>
        intro w' hS'
        go_simp
        try with_reducible rfl
      simp only [List.setIfInBounds_toArray, List.set_cons_zero, List.set_cons_succ]
      refine wpAnyH_ready (rs := [4]) (by kernel_rfl) (by simp) ?_
      refine AllReadyH.cons rfl (fun K hK => ?_) AllReadyH.nil
      go_simp
      refine (IHL.out _ (floats_below HL.out hHeld)).mono ?_
      rintro e W1 ⟨rfl, hb1⟩
      refine hK.out _ _ (hHeld.trans (hb1.mono hHeld.size)) (fun hHeld2 => ?_)
      clear hK K
      replace hHeld := hHeld2
      clear hHeld2
      refine wpAnyH_ready (rs := [8]) (by kernel_rfl) (by simp) ?_
      refine AllReadyH.cons rfl (fun K hK => ?_) AllReadyH.nil
      go_simp
      refine (IHR.out _ (floats_below HR.out hHeld)).mono ?_
      rintro e W2 ⟨rfl, hb2⟩
      refine hK.out _ _ (hHeld.trans (hb2.mono hHeld.size)) (fun hHeld2 => ?_)
      clear hK K
      replace hHeld := hHeld2
      clear hHeld2
      refine take_op (i := 9) (d := 25) (v := ?_) rfl rfl (by kernel_rfl) (by kernel_rfl) (by kernel_rfl) (fun _ _ _ h => h) (Or.inl ⟨by rfl, ?hy9u8⟩) hHeld ?rest9u8
      case hy9u8 =>
        intro w' hS'
        go_simp
        try with_reducible rfl
      simp only [List.setIfInBounds_toArray, List.set_cons_zero, List.set_cons_succ]
      refine take_op (i := 10) (d := 2) (v := ?_) rfl rfl (by kernel_rfl) (by kernel_rfl) (by kernel_rfl) (fun _ _ _ h => h) (Or.inl ⟨by rfl, ?hy10u9⟩) hHeld ?rest10u9
      case hy10u9 =>
        intro w' hS'
        go_simp
        try with_reducible rfl
      simp only [List.setIfInBounds_toArray, List.set_cons_zero, List.set_cons_succ]
      refine wpAnyH_done (by kernel_rfl) ?_ _

      have hbx := hHeld
      clear hHeld
      go_wp2
      go_ret
      exact ⟨rfl, hbx⟩

set_option maxRecDepth 100000 in
set_option maxHeartbeats 8000000 in
theorem l06Pairs_any : ∀ (d : Nat) (zs : List Nat) (sv : Value) (w : World), d ≤ 6 → zs.length ≤ 2 ^ d → (∀ z ∈ zs, PlnOk z) → FloatsAt w sv zs →
    Calls Try.prog 45 #[sv] w fun e w' => e = .returned (.float .f32 (pairsF (d + 1) zs)) ∧ Below w.heap.size w w' := by
  intro d
  induction d with
  | zero =>
    intro zs sv w hd hlen hq hz
    have HW := Lib.hid hz
    obtain ⟨a, cap, rfl, hl, hm, _⟩ := hz
    unfold maxLen at hm
    simp only [Nat.pow_zero] at hlen
    rcases Nat.eq_zero_or_pos zs.length with h0 | h0
    · rw [pairsF_zero 0 h0, h0]
      clear HW hq
      go_enter Try.func45, Try.ntmps45
      go_wp2
      go_ret
      exact ⟨rfl, Below.refl _ _⟩
    · have h1 : zs.length = 1 := by omega
      obtain ⟨x, hx⟩ : ∃ x, zs[0]? = some x := ⟨_, List.getElem?_eq_getElem (by omega)⟩
      rw [pairsF_one 0 h1 hx]
      obtain ⟨g, o, rfl, hc⟩ := float_at HW.out hx
      rw [Nat.add_zero] at hc
      rw [h1] at hl ⊢
      clear HW hq hx h1 hlen h0
      go_enter Try.func45, Try.ntmps45
      go_wp2
      go_ret
      exact ⟨rfl, Below.refl _ _⟩
  | succ d ih =>
    intro zs sv w hd hlen hq hz
    have HW := Lib.hid hz
    obtain ⟨a, cap, rfl, hl, hm, -⟩ := hz
    unfold maxLen at hm
    rcases Nat.lt_or_ge zs.length 2 with h2 | h2
    · rcases Nat.eq_zero_or_pos zs.length with h0 | h0
      · rw [pairsF_zero (d + 1) h0, h0]
        clear HW hq ih
        go_enter Try.func45, Try.ntmps45
        go_wp2
        go_ret
        exact ⟨rfl, Below.refl _ _⟩
      · have h1 : zs.length = 1 := by omega
        obtain ⟨x, hx⟩ : ∃ x, zs[0]? = some x := ⟨_, List.getElem?_eq_getElem (by omega)⟩
        rw [pairsF_one (d + 1) h1 hx]
        obtain ⟨g, o, rfl, hc⟩ := float_at HW.out hx
        rw [Nat.add_zero] at hc
        rw [h1] at hl ⊢
        clear HW hq hx h1 hlen h0 ih h2
        go_enter Try.func45, Try.ntmps45
        go_wp2
        go_ret
        exact ⟨rfl, Below.refl _ _⟩
    · have hst := pairsF_step d zs (by omega) h2 hlen hq
      have ra := fun T w => run_float_arith (P := Try.prog) w .add T .f32 _ _ _ hst
      clear hst
      obtain ⟨x, hx⟩ : ∃ x, zs[0]? = some x := ⟨_, List.getElem?_eq_getElem (by omega)⟩
      obtain ⟨g, o, rfl, -⟩ := float_at HW.out hx
      clear hx
      rw [Nat.pow_succ] at hlen
      have hN : zs.length = zs.length := rfl
      have HL := Lib.hid (floats_take HW.out (m := zs.length / 2) (c := cap) (by omega) (by omega) (by unfold maxLen; omega))
      have HR := Lib.hid (floats_drop HW.out (j := zs.length / 2) (by omega))
      have IHL := Lib.hid (fun W hW => ih (zs.take (zs.length / 2)) (.slice (some ⟨g, o, none⟩) (zs.length / 2) (cap)) W (by omega) (by rw [List.length_take]; omega) (fun z hz => hq z (List.mem_of_mem_take hz)) hW)
      have IHR := Lib.hid (fun W hW => ih (zs.drop (zs.length / 2)) (.slice (some ⟨g, o + zs.length / 2, none⟩) (zs.length - zs.length / 2) (cap - zs.length / 2)) W (by omega) (by rw [List.length_drop]; omega) (fun z hz => hq z (List.mem_of_mem_drop hz)) hW)
      generalize pairsF (d + 1) (zs.take (zs.length / 2)) = pl at *
      generalize pairsF (d + 1) (zs.drop (zs.length / 2)) = pr at *
      generalize pairsF (d + 1 + 1) zs = ps at *
      generalize zs.take (zs.length / 2) = zl at *
      generalize zs.drop (zs.length / 2) = zr at *
      have hh1 : zs.length / 2 < zs.length := by omega
      have hh2 : 1 ≤ zs.length / 2 := by omega
      have hq1 : ((zs.length : Nat) : Int) / 2 = ((zs.length / 2 : Nat) : Int) := by omega
      have hq2 : ((zs.length : Nat) : Int).tdiv 2 = ((zs.length / 2 : Nat) : Int) := by rw [Int.tdiv_eq_ediv_of_nonneg (by omega)]; omega
      clear hq ih hlen hN HW
      generalize zs.length / 2 = h at *
      generalize zs.length = n at *
      have z1 : (2 : Int) ≤ (n : Int) := by omega
      have z2 : (0 : Int) ≤ (h : Int) := by omega
      have z3 : (h : Int) ≤ (n : Int) := by omega
      have z4 : ¬ cap = h := by omega
      have z5 : (h : Int) ≤ (cap : Int) := by omega
      have z6 : ¬ h = 0 := by omega
      have z7 : ((n : Int) == 0) = false := beq_eq_false_iff_ne.2 (by omega)
      have z8 : ((n : Int) == 1) = false := beq_eq_false_iff_ne.2 (by omega)
      have z9 : ¬ cap = 0 := by omega
      have z10 : IntKind.i64.wrap (h : Int) = (h : Int) := IntWalk.i64_in _ (by omega)
      go_enter Try.func45, Try.ntmps45
      go_wp2
      refine wp_region_held_drew (S := (fun W => Below w.heap.size w W)) (by kernel_rfl) ((Below.refl _ _).drew) (fun hHeld => ?_)
      refine take_op (i := 0) (d := 13) (v := ?_) rfl rfl (by kernel_rfl) (by kernel_rfl) (by kernel_rfl) (fun _ _ _ h => h) (Or.inl ⟨by rfl, ?hy0u10⟩) hHeld ?rest0u10
      case hy0u10 =>
        intro w' hS'
        go_simp
        try with_reducible rfl
      simp only [List.setIfInBounds_toArray, List.set_cons_zero, List.set_cons_succ]
      refine take_op (i := 1) (d := 14) (v := ?_) rfl rfl (by kernel_rfl) (by kernel_rfl) (by kernel_rfl) (fun _ _ _ h => h) (Or.inl ⟨by rfl, ?hy1u11⟩) hHeld ?rest1u11
      case hy1u11 =>
        intro w' hS'
        go_simp
        try with_reducible rfl
      simp only [List.setIfInBounds_toArray, List.set_cons_zero, List.set_cons_succ]
      refine take_op (i := 2) (d := 15) (v := ?_) rfl rfl (by kernel_rfl) (by kernel_rfl) (by kernel_rfl) (fun _ _ _ h => h) (Or.inl ⟨by rfl, ?hy2u12⟩) hHeld ?rest2u12
      case hy2u12 =>
        intro w' hS'
        go_simp
        try with_reducible rfl
      simp only [List.setIfInBounds_toArray, List.set_cons_zero, List.set_cons_succ]
      refine take_op (i := 3) (d := 16) (v := ?_) rfl rfl (by kernel_rfl) (by kernel_rfl) (by kernel_rfl) (fun _ _ _ h => h) (Or.inl ⟨by rfl, ?hy3u13⟩) hHeld ?rest3u13
      case hy3u13 =>
        intro w' hS'
        go_simp
        try with_reducible rfl
      simp only [List.setIfInBounds_toArray, List.set_cons_zero, List.set_cons_succ]
      refine take_op (i := 5) (d := 18) (v := ?_) rfl rfl (by kernel_rfl) (by kernel_rfl) (by kernel_rfl) (fun _ _ _ h => h) (Or.inl ⟨by rfl, ?hy5u14⟩) hHeld ?rest5u14
      case hy5u14 =>
        intro w' hS'
        go_simp
        try with_reducible rfl
      simp only [List.setIfInBounds_toArray, List.set_cons_zero, List.set_cons_succ]
      refine take_op (i := 6) (d := 19) (v := ?_) rfl rfl (by kernel_rfl) (by kernel_rfl) (by kernel_rfl) (fun _ _ _ h => h) (Or.inl ⟨by rfl, ?hy6u15⟩) hHeld ?rest6u15
      case hy6u15 =>
        intro w' hS'
        go_simp
        try with_reducible rfl
      simp only [List.setIfInBounds_toArray, List.set_cons_zero, List.set_cons_succ]
      refine take_op (i := 7) (d := 20) (v := ?_) rfl rfl (by kernel_rfl) (by kernel_rfl) (by kernel_rfl) (fun _ _ _ h => h) (Or.inl ⟨by rfl, ?hy7u16⟩) hHeld ?rest7u16
      case hy7u16 =>
        intro w' hS'
        go_simp
        try with_reducible rfl
      simp only [List.setIfInBounds_toArray, List.set_cons_zero, List.set_cons_succ]
      refine take_op (i := 8) (d := 21) (v := ?_) rfl rfl (by kernel_rfl) (by kernel_rfl) (by kernel_rfl) (fun _ _ _ h => h) (Or.inl ⟨by rfl, ?hy8u17⟩) hHeld ?rest8u17
      case hy8u17 =>
        intro w' hS'
        go_simp
        try with_reducible rfl
      simp only [List.setIfInBounds_toArray, List.set_cons_zero, List.set_cons_succ]
      refine wpAnyH_ready (rs := [4]) (by kernel_rfl) (by simp) ?_
      refine AllReadyH.cons rfl (fun K hK => ?_) AllReadyH.nil
      go_simp
      refine (IHL.out _ (floats_below HL.out hHeld)).mono ?_
      rintro e W1 ⟨rfl, hb1⟩
      refine hK.out _ _ (hHeld.trans (hb1.mono hHeld.size)) (fun hHeld2 => ?_)
      clear hK K
      replace hHeld := hHeld2
      clear hHeld2
      refine wpAnyH_ready (rs := [9]) (by kernel_rfl) (by simp) ?_
      refine AllReadyH.cons rfl (fun K hK => ?_) AllReadyH.nil
      go_simp
      refine (IHR.out _ (floats_below HR.out hHeld)).mono ?_
      rintro e W2 ⟨rfl, hb2⟩
      refine hK.out _ _ (hHeld.trans (hb2.mono hHeld.size)) (fun hHeld2 => ?_)
      clear hK K
      replace hHeld := hHeld2
      clear hHeld2
      refine take_op (i := 10) (d := 23) (v := ?_) rfl rfl (by kernel_rfl) (by kernel_rfl) (by kernel_rfl) (fun _ _ _ h => h) (Or.inl ⟨by rfl, ?hy10u18⟩) hHeld ?rest10u18
      case hy10u18 =>
        intro w' hS'
        go_simp
        try with_reducible rfl
      simp only [List.setIfInBounds_toArray, List.set_cons_zero, List.set_cons_succ]
      refine take_op (i := 11) (d := 2) (v := ?_) rfl rfl (by kernel_rfl) (by kernel_rfl) (by kernel_rfl) (fun _ _ _ h => h) (Or.inl ⟨by rfl, ?hy11u19⟩) hHeld ?rest11u19
      case hy11u19 =>
        intro w' hS'
        go_simp
        try with_reducible rfl
      simp only [List.setIfInBounds_toArray, List.set_cons_zero, List.set_cons_succ]
      refine wpAnyH_done (by kernel_rfl) ?_ _

      have hbx := hHeld
      clear hHeld
      go_wp2
      go_ret
      exact ⟨rfl, hbx⟩

end Go.Proofs.Ytjpnbcfdnolcjab
