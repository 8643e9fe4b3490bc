/-
  Whether two lists have the same numbers: the program and the model.
-/
import Derived.Test.YtjpnbcfdnolcjaaPlnL
import Derived.Test.YtjpnbcfdnolcjaaSameF
namespace Go.Proofs.Ytjpnbcfdnolcjaa
open Go.ChangeShapes Go.WideShapes Go.ChangeAt Go.RowKit Go.Deep Go.Joins

attribute [local go_sem] run_store_f

def sameFl (xs ys : List Nat) : Bool := decide (xs.length = ys.length) && sameL xs ys
theorem sameFl_ne {xs ys : List Nat} (h : ¬ xs.length = ys.length) : sameFl xs ys = false := by unfold sameFl; rw [decide_eq_false h, Bool.false_and]
theorem sameFl_eq {xs ys : List Nat} (h : xs.length = ys.length) : sameFl xs ys = sameL xs ys := by unfold sameFl; rw [decide_eq_true h, Bool.true_and]
theorem SameN_is6 (a b : Nat) (r : Bool) (hr : sameB a b = r) (w : World) : Calls Try.prog 53 #[.float .f32 a, .float .f32 b] w fun e w' => e = .returned (.bool r) ∧ w = w' := by subst hr; exact SameNumber_is a b w
theorem l01Same_is6 (a b : Nat) (r : Bool) (hr : sameB a b = r) (w : World) : Calls Try.prog 51 #[.float .f32 a, .float .f32 b] w fun e w' => e = .returned (.bool r) ∧ w = w' := by subst hr; exact l01Same_is a b w
set_option maxRecDepth 100000 in
set_option maxHeartbeats 4000000 in
theorem equalFl_any (v1 v2 : Value) (xs ys : List Nat) (w : World) (h1 : FloatsAt w v1 xs) (h2 : FloatsAt w v2 ys) :
    Calls Try.prog 52 #[v1, v2, .func (.func 53) #[] #[]] w fun e w' => e = .returned (.bool (sameFl xs ys)) ∧ Below w.heap.size w w' := by
  have H1 := Lib.hid h1
  have H2 := Lib.hid h2
  obtain ⟨a1, c1, rfl, hl1, hm1, _⟩ := h1
  obtain ⟨a2, c2, rfl, hl2, hm2, _⟩ := h2
  unfold maxLen at hm1 hm2
  by_cases hne : xs.length = ys.length
  · rw [sameFl_eq hne]
    generalize hn : xs.length = n at *
    have HN := Lib.hid hn
    have HM := Lib.hid hne.symm
    rw [← hne] at hl2 H2 ⊢
    clear hn hne
    go_enter Try.func52, Try.ntmps52
    go_wp2
    go_loopw [17] (fun i wr => ∃ k : Nat, k ≤ n ∧ i = .int .i64 k ∧ Below w.heap.size w wr ∧ sameL (xs.take k) (ys.take k) = true) (fun i _ => n - (intOf i).toNat)
    case atStart => exact ⟨0, Nat.zero_le _, rfl, Below.refl _ _, rfl⟩
    case round =>
      obtain ⟨k, hk, rfl, hb, hall⟩ := hrel
      have HA := Lib.hid hall
      clear hall
      by_cases hlt : k < n
      · have hx : xs[k]? = some (xs[k]'(by rw [HN.out]; exact hlt)) := List.getElem?_eq_getElem _
        have hy : ys[k]? = some (ys[k]'(by rw [HM.out]; exact hlt)) := List.getElem?_eq_getElem _
        obtain ⟨g1, o1, rfl, q1⟩ := float_at (floats_below H1.out hb) hx
        obtain ⟨g2, o2, rfl, q2⟩ := float_at (floats_below H2.out hb) hy
        generalize (xs[k]'(by rw [HN.out]; exact hlt)) = x at *
        generalize (ys[k]'(by rw [HM.out]; exact hlt)) = y at *
        have HX := Lib.hid hx
        have HY := Lib.hid hy
        have z0 : (0 : Int) ≤ (k : Int) := by omega
        have z1 : (k : Int) < (n : Int) := by omega
        have z2 : decide ((k : Int) < (n : Int)) = true := decide_eq_true z1
        clear hx hy
        cases hs : sameB x y with
        | true =>
          have HS := Lib.hid hs
          clear hs
          go_wp2_with (go_at_call 53; refine (SameN_is6 x y _ HS.out _).mono ?_; rintro e w1 ⟨rfl, rfl⟩)
          have hbx := hb

          go_roundw
          case rel => exact ⟨k + 1, by omega, by go_num, hbx, by rw [sameL_take HX.out HY.out, HA.out, HS.out]; rfl⟩
          case measure => simp [intOf]; omega
        | false =>
          have HS := Lib.hid hs
          clear hs
          go_wp2_with (go_at_call 53; refine (SameN_is6 x y _ HS.out _).mono ?_; rintro e w1 ⟨rfl, rfl⟩)
          have hbx := hb

          go_ret
          exact ⟨ret_bool5 (sameL_miss HX.out HY.out HS.out).symm, hbx⟩
      · obtain rfl : k = n := by omega
        have hall := HA.out
        rw [List.take_of_length_le (by rw [HN.out]; exact Nat.le_refl _), List.take_of_length_le (by rw [HM.out]; exact Nat.le_refl _)] at hall
        have HL := Lib.hid hall
        clear hall
        go_wp2
        go_ret
        exact ⟨ret_bool5 HL.out.symm, hb⟩
  · rw [sameFl_ne hne]
    generalize xs.length = n at *
    generalize ys.length = m at *
    have z0 : ((n : Int) == (m : Int)) = false := beq_eq_false_iff_ne.2 (by omega)
    have z1 : ((n : Int) != (m : Int)) = true := by rw [bne_iff_ne]; omega
    go_enter Try.func52, Try.ntmps52
    go_wp2
    go_ret
    exact ⟨rfl, Below.refl _ _⟩
set_option maxRecDepth 100000 in
set_option maxHeartbeats 1000000 in
theorem iSameList_any (v1 v2 : Value) (xs ys : List Nat) (w : World) (h1 : FloatsAt w v1 xs) (h2 : FloatsAt w v2 ys) :
    Calls Try.prog 20 #[v1, v2] w fun e w' => e = .returned (.bool (sameFl xs ys)) ∧ Below w.heap.size w w' := by
  have HE := Lib.hid (equalFl_any v1 v2 xs ys w h1 h2)
  clear h1 h2
  go_enter Try.func20, Try.ntmps20
  go_wp2_with (go_at_call 52; refine HE.out.mono ?_; rintro e w1 ⟨rfl, hb⟩)
  go_ret
  exact ⟨rfl, hb⟩
set_option maxRecDepth 100000 in
set_option maxHeartbeats 4000000 in
theorem sSameList_any (v1 v2 : Value) (xs ys : List Nat) (w : World) (h1 : FloatsAt w v1 xs) (h2 : FloatsAt w v2 ys) :
    Calls Try.prog 19 #[v1, v2] w fun e w' => e = .returned (.bool (sameFl xs ys)) ∧ Below w.heap.size w w' := by
  have H1 := Lib.hid h1
  have H2 := Lib.hid h2
  obtain ⟨a1, c1, rfl, hl1, hm1, _⟩ := h1
  obtain ⟨a2, c2, rfl, hl2, hm2, _⟩ := h2
  unfold maxLen at hm1 hm2
  by_cases hne : xs.length = ys.length
  · rw [sameFl_eq hne]
    generalize hn : xs.length = n at *
    have HN := Lib.hid hn
    have HM := Lib.hid hne.symm
    rw [← hne] at hl2 H2 ⊢
    clear hn hne
    go_enter Try.func19, Try.ntmps19
    go_wp2
    go_loopw [5] (fun i wr => ∃ k : Nat, k ≤ n ∧ i = .int .i64 k ∧ Below w.heap.size w wr ∧ sameL (xs.take k) (ys.take k) = true) (fun i _ => n - (intOf i).toNat)
    case atStart => exact ⟨0, Nat.zero_le _, rfl, Below.refl _ _, rfl⟩
    case round =>
      obtain ⟨k, hk, rfl, hb, hall⟩ := hrel
      have HA := Lib.hid hall
      clear hall
      by_cases hlt : k < n
      · have hx : xs[k]? = some (xs[k]'(by rw [HN.out]; exact hlt)) := List.getElem?_eq_getElem _
        have hy : ys[k]? = some (ys[k]'(by rw [HM.out]; exact hlt)) := List.getElem?_eq_getElem _
        obtain ⟨g1, o1, rfl, q1⟩ := float_at (floats_below H1.out hb) hx
        obtain ⟨g2, o2, rfl, q2⟩ := float_at (floats_below H2.out hb) hy
        generalize (xs[k]'(by rw [HN.out]; exact hlt)) = x at *
        generalize (ys[k]'(by rw [HM.out]; exact hlt)) = y at *
        have HX := Lib.hid hx
        have HY := Lib.hid hy
        have z0 : (0 : Int) ≤ (k : Int) := by omega
        have z1 : (k : Int) < (n : Int) := by omega
        have z2 : decide ((k : Int) < (n : Int)) = true := decide_eq_true z1
        clear hx hy
        cases hs : sameB x y with
        | true =>
          have HS := Lib.hid hs
          clear hs
          go_wp2
          refine wp_region_held_drew (S := (fun W => W.cell? ⟨g1, o1 + k, none⟩ = some (.float .f32 x) ∧ W.cell? ⟨g2, o2 + k, none⟩ = some (.float .f32 y) ∧ Below w.heap.size w W)) (by kernel_rfl) ⟨by simpa using q1, by simpa using q2, hb.drew⟩ (fun hHeld => ?_)
          refine take_op (i := 0) (d := 17) (v := ?_) rfl rfl (by kernel_rfl) (by kernel_rfl) (by kernel_rfl) (fun _ _ _ h => h) (Or.inl ⟨by rfl, ?hy0u1⟩) hHeld ?rest0u1
          case hy0u1 =>
            intro w' hS'
            obtain ⟨s1, s2, _⟩ := hS'
            go_simp
            try with_reducible rfl
          simp only [List.setIfInBounds_toArray, List.set_cons_zero, List.set_cons_succ]
          refine take_op (i := 1) (d := 18) (v := ?_) rfl rfl (by kernel_rfl) (by kernel_rfl) (by kernel_rfl) (fun _ _ _ h => h) (Or.inl ⟨by rfl, ?hy1u2⟩) hHeld ?rest1u2
          case hy1u2 =>
            intro w' hS'
            obtain ⟨s1, s2, _⟩ := hS'
            go_simp
            try with_reducible rfl
          simp only [List.setIfInBounds_toArray, List.set_cons_zero, List.set_cons_succ]
          refine take_op (i := 2) (d := 19) (v := ?_) rfl rfl (by kernel_rfl) (by kernel_rfl) (by kernel_rfl) (fun _ _ _ h => h) (Or.inl ⟨by rfl, ?hy2u3⟩) hHeld ?rest2u3
          case hy2u3 =>
            intro w' hS'
            obtain ⟨s1, s2, _⟩ := hS'
            go_simp
            try with_reducible rfl
          simp only [List.setIfInBounds_toArray, List.set_cons_zero, List.set_cons_succ]
          refine take_op (i := 3) (d := 20) (v := ?_) rfl rfl (by kernel_rfl) (by kernel_rfl) (by kernel_rfl) (fun _ _ _ h => h) (Or.inl ⟨by rfl, ?hy3u4⟩) hHeld ?rest3u4
          case hy3u4 =>
            intro w' hS'
            obtain ⟨s1, s2, _⟩ := hS'
            go_simp
            try with_reducible rfl
          simp only [List.setIfInBounds_toArray, List.set_cons_zero, List.set_cons_succ]
          refine take_op (i := 4) (d := 21) (v := ?_) rfl rfl (by kernel_rfl) (by kernel_rfl) (by kernel_rfl) (fun _ _ _ h => h) (Or.inl ⟨by rfl, ?hy4u5⟩) hHeld ?rest4u5
          case hy4u5 =>
            intro w' hS'
            obtain ⟨s1, s2, _⟩ := hS'
            go_simp
            try with_reducible rfl
          simp only [List.setIfInBounds_toArray, List.set_cons_zero, List.set_cons_succ]
          refine take_op (i := 5) (d := 22) (v := ?_) rfl rfl (by kernel_rfl) (by kernel_rfl) (by kernel_rfl) (fun _ _ _ h => h) (Or.inl ⟨by rfl, ?hy5u6⟩) hHeld ?rest5u6
          case hy5u6 =>
            intro w' hS'
            obtain ⟨s1, s2, _⟩ := hS'
            go_simp
            try with_reducible rfl
          simp only [List.setIfInBounds_toArray, List.set_cons_zero, List.set_cons_succ]
          refine take_op (i := 6) (d := 23) (v := ?_) rfl rfl (by kernel_rfl) (by kernel_rfl) (by kernel_rfl) (fun _ _ _ h => h) (Or.inl ⟨by rfl, ?hy6u7⟩) hHeld ?rest6u7
          case hy6u7 =>
            intro w' hS'
            obtain ⟨s1, s2, _⟩ := hS'
            go_simp
            try with_reducible rfl
          simp only [List.setIfInBounds_toArray, List.set_cons_zero, List.set_cons_succ]
          refine take_op (i := 7) (d := 24) (v := ?_) rfl rfl (by kernel_rfl) (by kernel_rfl) (by kernel_rfl) (fun _ _ _ h => h) (Or.inl ⟨by rfl, ?hy7u8⟩) hHeld ?rest7u8
          case hy7u8 =>
            intro w' hS'
            obtain ⟨s1, s2, _⟩ := hS'
            go_simp
            try with_reducible rfl
          simp only [List.setIfInBounds_toArray, List.set_cons_zero, List.set_cons_succ]
          refine wpAnyH_ready (rs := [8]) (by kernel_rfl) (by simp) ?_
          refine AllReadyH.cons rfl (fun K hK => ?_) AllReadyH.nil
          go_simp
          refine (l01Same_is6 x y _ HS.out _).mono ?_
          rintro e w' ⟨rfl, rfl⟩
          refine hK.out _ _ (hHeld) (fun hHeld2 => ?_)
          clear hK K
          replace hHeld := hHeld2
          clear hHeld2
          refine take_op (i := 9) (d := 26) (v := ?_) rfl rfl (by kernel_rfl) (by kernel_rfl) (by kernel_rfl) (fun _ _ _ h => h) (Or.inl ⟨by rfl, ?hy9u9⟩) hHeld ?rest9u9
          case hy9u9 =>
            intro w' hS'
            go_simp
            try with_reducible rfl
          simp only [List.setIfInBounds_toArray, List.set_cons_zero, List.set_cons_succ]
          refine wpAnyH_done (by kernel_rfl) ?_ _
          have hbx := hHeld.2.2
          clear hHeld q1 q2 hb
          go_wp2


          go_roundw
          case rel => exact ⟨k + 1, by omega, by go_num, hbx, by rw [sameL_take HX.out HY.out, HA.out, HS.out]; rfl⟩
          case measure => simp [intOf]; omega
        | false =>
          have HS := Lib.hid hs
          clear hs
          go_wp2
          refine wp_region_held_drew (S := (fun W => W.cell? ⟨g1, o1 + k, none⟩ = some (.float .f32 x) ∧ W.cell? ⟨g2, o2 + k, none⟩ = some (.float .f32 y) ∧ Below w.heap.size w W)) (by kernel_rfl) ⟨by simpa using q1, by simpa using q2, hb.drew⟩ (fun hHeld => ?_)
          refine take_op (i := 0) (d := 17) (v := ?_) rfl rfl (by kernel_rfl) (by kernel_rfl) (by kernel_rfl) (fun _ _ _ h => h) (Or.inl ⟨by rfl, ?hy0u10⟩) hHeld ?rest0u10
          case hy0u10 =>
            intro w' hS'
            obtain ⟨s1, s2, _⟩ := hS'
            go_simp
            try with_reducible rfl
          simp only [List.setIfInBounds_toArray, List.set_cons_zero, List.set_cons_succ]
          refine take_op (i := 1) (d := 18) (v := ?_) rfl rfl (by kernel_rfl) (by kernel_rfl) (by kernel_rfl) (fun _ _ _ h => h) (Or.inl ⟨by rfl, ?hy1u11⟩) hHeld ?rest1u11
          case hy1u11 =>
            intro w' hS'
            obtain ⟨s1, s2, _⟩ := hS'
            go_simp
            try with_reducible rfl
          simp only [List.setIfInBounds_toArray, List.set_cons_zero, List.set_cons_succ]
          refine take_op (i := 2) (d := 19) (v := ?_) rfl rfl (by kernel_rfl) (by kernel_rfl) (by kernel_rfl) (fun _ _ _ h => h) (Or.inl ⟨by rfl, ?hy2u12⟩) hHeld ?rest2u12
          case hy2u12 =>
            intro w' hS'
            obtain ⟨s1, s2, _⟩ := hS'
            go_simp
            try with_reducible rfl
          simp only [List.setIfInBounds_toArray, List.set_cons_zero, List.set_cons_succ]
          refine take_op (i := 3) (d := 20) (v := ?_) rfl rfl (by kernel_rfl) (by kernel_rfl) (by kernel_rfl) (fun _ _ _ h => h) (Or.inl ⟨by rfl, ?hy3u13⟩) hHeld ?rest3u13
          case hy3u13 =>
            intro w' hS'
            obtain ⟨s1, s2, _⟩ := hS'
            go_simp
            try with_reducible rfl
          simp only [List.setIfInBounds_toArray, List.set_cons_zero, List.set_cons_succ]
          refine take_op (i := 4) (d := 21) (v := ?_) rfl rfl (by kernel_rfl) (by kernel_rfl) (by kernel_rfl) (fun _ _ _ h => h) (Or.inl ⟨by rfl, ?hy4u14⟩) hHeld ?rest4u14
          case hy4u14 =>
            intro w' hS'
            obtain ⟨s1, s2, _⟩ := hS'
            go_simp
            try with_reducible rfl
          simp only [List.setIfInBounds_toArray, List.set_cons_zero, List.set_cons_succ]
          refine take_op (i := 5) (d := 22) (v := ?_) rfl rfl (by kernel_rfl) (by kernel_rfl) (by kernel_rfl) (fun _ _ _ h => h) (Or.inl ⟨by rfl, ?hy5u15⟩) hHeld ?rest5u15
          case hy5u15 =>
            intro w' hS'
            obtain ⟨s1, s2, _⟩ := hS'
            go_simp
            try with_reducible rfl
          simp only [List.setIfInBounds_toArray, List.set_cons_zero, List.set_cons_succ]
          refine take_op (i := 6) (d := 23) (v := ?_) rfl rfl (by kernel_rfl) (by kernel_rfl) (by kernel_rfl) (fun _ _ _ h => h) (Or.inl ⟨by rfl, ?hy6u16⟩) hHeld ?rest6u16
          case hy6u16 =>
            intro w' hS'
            obtain ⟨s1, s2, _⟩ := hS'
            go_simp
            try with_reducible rfl
          simp only [List.setIfInBounds_toArray, List.set_cons_zero, List.set_cons_succ]
          refine take_op (i := 7) (d := 24) (v := ?_) rfl rfl (by kernel_rfl) (by kernel_rfl) (by kernel_rfl) (fun _ _ _ h => h) (Or.inl ⟨by rfl, ?hy7u17⟩) hHeld ?rest7u17
          case hy7u17 =>
            intro w' hS'
            obtain ⟨s1, s2, _⟩ := hS'
            go_simp
            try with_reducible rfl
          simp only [List.setIfInBounds_toArray, List.set_cons_zero, List.set_cons_succ]
          refine wpAnyH_ready (rs := [8]) (by kernel_rfl) (by simp) ?_
          refine AllReadyH.cons rfl (fun K hK => ?_) AllReadyH.nil
          go_simp
          refine (l01Same_is6 x y _ HS.out _).mono ?_
          rintro e w' ⟨rfl, rfl⟩
          refine hK.out _ _ (hHeld) (fun hHeld2 => ?_)
          clear hK K
          replace hHeld := hHeld2
          clear hHeld2
          refine take_op (i := 9) (d := 26) (v := ?_) rfl rfl (by kernel_rfl) (by kernel_rfl) (by kernel_rfl) (fun _ _ _ h => h) (Or.inl ⟨by rfl, ?hy9u18⟩) hHeld ?rest9u18
          case hy9u18 =>
            intro w' hS'
            go_simp
            try with_reducible rfl
          simp only [List.setIfInBounds_toArray, List.set_cons_zero, List.set_cons_succ]
          refine wpAnyH_done (by kernel_rfl) ?_ _
          have hbx := hHeld.2.2
          clear hHeld q1 q2 hb
          go_wp2


          go_ret
          exact ⟨ret_bool5 (sameL_miss HX.out HY.out HS.out).symm, hbx⟩
      · obtain rfl : k = n := by omega
        have hall := HA.out
        rw [List.take_of_length_le (by rw [HN.out]; exact Nat.le_refl _), List.take_of_length_le (by rw [HM.out]; exact Nat.le_refl _)] at hall
        have HL := Lib.hid hall
        clear hall
        go_wp2
        go_ret
        exact ⟨ret_bool5 HL.out.symm, hb⟩
  · rw [sameFl_ne hne]
    generalize xs.length = n at *
    generalize ys.length = m at *
    have z0 : ((n : Int) == (m : Int)) = false := beq_eq_false_iff_ne.2 (by omega)
    have z1 : ((n : Int) != (m : Int)) = true := by rw [bne_iff_ne]; omega
    go_enter Try.func19, Try.ntmps19
    go_wp2
    go_ret
    exact ⟨rfl, Below.refl _ _⟩

end Go.Proofs.Ytjpnbcfdnolcjaa
