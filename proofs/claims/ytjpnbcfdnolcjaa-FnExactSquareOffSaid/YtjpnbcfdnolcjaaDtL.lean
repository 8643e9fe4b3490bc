/-
  The sum of products of two lists: the program and the model.
-/
import Derived.Test.YtjpnbcfdnolcjaaAdL
namespace Go.Proofs.Ytjpnbcfdnolcjaa
open Go.ChangeShapes Go.WideShapes Go.ChangeAt Go.RowKit Go.Deep Go.Joins

attribute [local go_sem] run_store_f

set_option maxRecDepth 100000 in
set_option maxHeartbeats 4000000 in
theorem dotOf_any (D : Nat) (hD : D < 2139095040) (hM : fmul D D < 2139095040) (hc : ∀ k : Nat, k < 49 → capD D k < 2139095040) (v1 v2 : Value) (xs ys : List Nat) (hx : ∀ x ∈ xs, MagLe D x) (hy : ∀ y ∈ ys, MagLe D y) (hl : xs.length ≤ 48) (he : ys.length = xs.length) (w : World) (h1 : FloatsAt w v1 xs) (h2 : FloatsAt w v2 ys) :
    Calls Try.prog 68 #[v1, v2] w fun e w' => e = .returned (.float .f32 (dotK xs ys xs.length)) ∧ Below w.heap.size w w' := by
  have HT := Lib.hid (fun k x y => dot_step (k := k) (x := x) (y := y) hD hM hc hx hy hl he)
  have H1 := Lib.hid h1
  have H2 := Lib.hid h2
  obtain ⟨a1, c1, rfl, hl1, hm1, _⟩ := h1
  obtain ⟨a2, c2, rfl, hl2, hm2, _⟩ := h2
  unfold maxLen at hm1 hm2
  have HM := Lib.hid he
  rw [he] at hl2 H2 ⊢
  generalize hn : xs.length = n at *
  have HN := Lib.hid hn
  clear hn hx hy hc hM hD he
  go_enter Try.func68, Try.ntmps68
  go_wp2
  go_loopw [5, 9] (fun s i wr => ∃ k : Nat, k ≤ n ∧ i = .int .i64 k ∧ s = .float .f32 (dotK xs ys k) ∧ Below w.heap.size w wr) (fun _ i _ => n - (intOf i).toNat)
  case atStart => exact ⟨0, Nat.zero_le _, rfl, rfl, Below.refl _ _⟩
  case round =>
    obtain ⟨k, hk, rfl, rfl, hb⟩ := hrel
    by_cases hlt : k < n
    · have hx : xs[k]? = some (xs[k]'(by rw [HN.out]; exact hlt)) := List.getElem?_eq_getElem _
      have hy : ys[k]? = some (ys[k]'(by rw [HM.out]; exact hlt)) := List.getElem?_eq_getElem _
      obtain ⟨g1, o1, rfl, q1⟩ := float_at (floats_below H1.out hb) hx
      obtain ⟨g2, o2, rfl, q2⟩ := float_at (floats_below H2.out hb) hy
      generalize (xs[k]'(by rw [HN.out]; exact hlt)) = x at *
      generalize (ys[k]'(by rw [HM.out]; exact hlt)) = y at *
      obtain ⟨d1, d2⟩ := HT.out k x y hx hy
      have rm := fun T w => run_float_arith (P := Try.prog) w .mul T .f32 _ _ _ d1
      have ra := fun T w => run_float_arith (P := Try.prog) w .add T .f32 _ _ _ d2
      have z0 : (0 : Int) ≤ (k : Int) := by omega
      have z1 : (k : Int) < (n : Int) := by omega
      have z2 : decide ((k : Int) < (n : Int)) = true := decide_eq_true z1
      clear hx hy d1 d2
      go_wp2
      refine wp_region_held_drew (S := (fun W => W.cell? ⟨g1, o1 + k, none⟩ = some (.float .f32 x) ∧ W.cell? ⟨g2, o2 + k, none⟩ = some (.float .f32 y) ∧ Below w.heap.size w W)) (by kernel_rfl) ⟨by simpa using q1, by simpa using q2, hb.drew⟩ (fun hHeld => ?_)
      refine take_op (i := 0) (d := 12) (v := ?_) rfl rfl (by kernel_rfl) (by kernel_rfl) (by kernel_rfl) (fun _ _ _ h => h) (Or.inl ⟨by rfl, ?hy0u1⟩) hHeld ?rest0u1
      case hy0u1 =>
        intro w' hS'
        obtain ⟨s1, s2, _⟩ := hS'
        go_simp
        try with_reducible rfl
      simp only [List.setIfInBounds_toArray, List.set_cons_zero, List.set_cons_succ]
      refine take_op (i := 1) (d := 13) (v := ?_) rfl rfl (by kernel_rfl) (by kernel_rfl) (by kernel_rfl) (fun _ _ _ h => h) (Or.inl ⟨by rfl, ?hy1u2⟩) hHeld ?rest1u2
      case hy1u2 =>
        intro w' hS'
        obtain ⟨s1, s2, _⟩ := hS'
        go_simp
        try with_reducible rfl
      simp only [List.setIfInBounds_toArray, List.set_cons_zero, List.set_cons_succ]
      refine take_op (i := 2) (d := 14) (v := ?_) rfl rfl (by kernel_rfl) (by kernel_rfl) (by kernel_rfl) (fun _ _ _ h => h) (Or.inl ⟨by rfl, ?hy2u3⟩) hHeld ?rest2u3
      case hy2u3 =>
        intro w' hS'
        obtain ⟨s1, s2, _⟩ := hS'
        go_simp
        try with_reducible rfl
      simp only [List.setIfInBounds_toArray, List.set_cons_zero, List.set_cons_succ]
      refine take_op (i := 3) (d := 15) (v := ?_) rfl rfl (by kernel_rfl) (by kernel_rfl) (by kernel_rfl) (fun _ _ _ h => h) (Or.inl ⟨by rfl, ?hy3u4⟩) hHeld ?rest3u4
      case hy3u4 =>
        intro w' hS'
        obtain ⟨s1, s2, _⟩ := hS'
        go_simp
        try with_reducible rfl
      simp only [List.setIfInBounds_toArray, List.set_cons_zero, List.set_cons_succ]
      refine take_op (i := 4) (d := 16) (v := ?_) rfl rfl (by kernel_rfl) (by kernel_rfl) (by kernel_rfl) (fun _ _ _ h => h) (Or.inl ⟨by rfl, ?hy4u5⟩) hHeld ?rest4u5
      case hy4u5 =>
        intro w' hS'
        obtain ⟨s1, s2, _⟩ := hS'
        go_simp
        try with_reducible rfl
      simp only [List.setIfInBounds_toArray, List.set_cons_zero, List.set_cons_succ]
      refine take_op (i := 5) (d := 17) (v := ?_) rfl rfl (by kernel_rfl) (by kernel_rfl) (by kernel_rfl) (fun _ _ _ h => h) (Or.inl ⟨by rfl, ?hy5u6⟩) hHeld ?rest5u6
      case hy5u6 =>
        intro w' hS'
        obtain ⟨s1, s2, _⟩ := hS'
        go_simp
        try with_reducible rfl
      simp only [List.setIfInBounds_toArray, List.set_cons_zero, List.set_cons_succ]
      refine take_op (i := 6) (d := 18) (v := ?_) rfl rfl (by kernel_rfl) (by kernel_rfl) (by kernel_rfl) (fun _ _ _ h => h) (Or.inl ⟨by rfl, ?hy6u7⟩) hHeld ?rest6u7
      case hy6u7 =>
        intro w' hS'
        obtain ⟨s1, s2, _⟩ := hS'
        go_simp
        try with_reducible rfl
      simp only [List.setIfInBounds_toArray, List.set_cons_zero, List.set_cons_succ]
      refine take_op (i := 7) (d := 19) (v := ?_) rfl rfl (by kernel_rfl) (by kernel_rfl) (by kernel_rfl) (fun _ _ _ h => h) (Or.inl ⟨by rfl, ?hy7u8⟩) hHeld ?rest7u8
      case hy7u8 =>
        intro w' hS'
        obtain ⟨s1, s2, _⟩ := hS'
        go_simp
        try with_reducible rfl
      simp only [List.setIfInBounds_toArray, List.set_cons_zero, List.set_cons_succ]
      refine take_op (i := 8) (d := 20) (v := ?_) rfl rfl (by kernel_rfl) (by kernel_rfl) (by kernel_rfl) (fun _ _ _ h => h) (Or.inl ⟨by rfl, ?hy8u9⟩) hHeld ?rest8u9
      case hy8u9 =>
        intro w' hS'
        obtain ⟨s1, s2, _⟩ := hS'
        go_simp
        try with_reducible rfl
      simp only [List.setIfInBounds_toArray, List.set_cons_zero, List.set_cons_succ]
      refine take_op (i := 9) (d := 21) (v := ?_) rfl rfl (by kernel_rfl) (by kernel_rfl) (by kernel_rfl) (fun _ _ _ h => h) (Or.inl ⟨by rfl, ?hy9u10⟩) hHeld ?rest9u10
      case hy9u10 =>
        intro w' hS'
        obtain ⟨s1, s2, _⟩ := hS'
        go_simp
        try with_reducible rfl
      simp only [List.setIfInBounds_toArray, List.set_cons_zero, List.set_cons_succ]
      refine take_op (i := 10) (d := 22) (v := ?_) rfl rfl (by kernel_rfl) (by kernel_rfl) (by kernel_rfl) (fun _ _ _ h => h) (Or.inl ⟨by rfl, ?hy10u11⟩) hHeld ?rest10u11
      case hy10u11 =>
        intro w' hS'
        obtain ⟨s1, s2, _⟩ := hS'
        go_simp
        try with_reducible rfl
      simp only [List.setIfInBounds_toArray, List.set_cons_zero, List.set_cons_succ]
      refine take_op (i := 11) (d := 5) (v := ?_) rfl rfl (by kernel_rfl) (by kernel_rfl) (by kernel_rfl) (fun _ _ _ h => h) (Or.inl ⟨by rfl, ?hy11u12⟩) hHeld ?rest11u12
      case hy11u12 =>
        intro w' hS'
        obtain ⟨s1, s2, _⟩ := hS'
        go_simp
        try with_reducible rfl
      simp only [List.setIfInBounds_toArray, List.set_cons_zero, List.set_cons_succ]
      refine wpAnyH_done (by kernel_rfl) ?_ _
      have hbx := hHeld.2.2
      clear hHeld q1 q2 hb
      go_wp2

      go_roundw
      case rel => exact ⟨k + 1, by omega, by go_num, by trivial, hbx⟩
      case measure => simp [intOf]; omega
    · obtain rfl : k = n := by omega
      go_wp2
      go_ret
      exact ⟨rfl, hb⟩

/-- The code of two lists. -/
def codeDt (xs ys : List Nat) : Int := if (okLs xs && okLs ys) = false then 1 else if xs.length ≠ ys.length then 2 else 0
theorem codeDt_zero {xs ys : List Nat} (hx : ∀ z ∈ xs, (Lit.float .f32 z).wf = true) (hy : ∀ z ∈ ys, (Lit.float .f32 z).wf = true) (h : codeDt xs ys = 0) : okLs xs = true ∧ okLs ys = true ∧ xs.length ≤ 48 ∧ ys.length = xs.length ∧ (∀ z ∈ xs, PlnOk z) ∧ ∀ z ∈ ys, PlnOk z := by
  unfold codeDt at h
  cases ho : okLs xs && okLs ys with
  | false => rw [ho, if_pos rfl] at h; cases h
  | true =>
    rw [ho, if_neg (by decide)] at h
    by_cases c : xs.length ≠ ys.length
    · rw [if_pos c] at h; cases h
    · obtain ⟨a, b⟩ := Bool.and_eq_true_iff.1 ho
      obtain ⟨a1, a2⟩ := okLs_get hx a
      obtain ⟨b1, b2⟩ := okLs_get hy b
      exact ⟨a, b, a1, by omega, a2, b2⟩
theorem codeDt_cases {xs ys : List Nat} (h : codeDt xs ys ≠ 0) : (codeDt xs ys = 1 ∧ okLs xs = false) ∨ (codeDt xs ys = 1 ∧ okLs xs = true ∧ okLs ys = false) ∨ (codeDt xs ys = 2 ∧ okLs xs = true ∧ okLs ys = true ∧ xs.length ≠ ys.length) := by
  unfold codeDt at h ⊢
  cases ha : okLs xs with
  | false => left; exact ⟨by rw [Bool.false_and, if_pos rfl], rfl⟩
  | true =>
    rw [ha] at h
    cases hb : okLs ys with
    | false => right; left; exact ⟨by rw [Bool.and_false, if_pos rfl], rfl, rfl⟩
    | true =>
      rw [hb, Bool.and_true, if_neg (by decide)] at h
      by_cases c : xs.length ≠ ys.length
      · right; right; exact ⟨by rw [Bool.and_true, if_neg (by decide), if_pos c], rfl, rfl, c⟩
      · rw [if_neg c] at h; exact absurd rfl h
set_option maxRecDepth 100000 in
set_option maxHeartbeats 1000000 in
theorem iDotOf_no (v1 v2 : Value) (xs ys : List Nat) (c : Int) (hcd : codeDt xs ys = c) (hne : c ≠ 0) (w : World) (h1 : FloatsAt w v1 xs) (h2 : FloatsAt w v2 ys) :
    Calls Try.prog 37 #[v1, v2] w fun e w' => e = .returned (.tuple #[.float .f32 0, .int .i64 c]) ∧ Below w.heap.size w w' := by
  have HA := Lib.hid (ValidList_any v1 xs w h1)
  have HB := Lib.hid (ValidList_any v2 ys w h2)
  subst hcd
  obtain ⟨a1, c1, rfl, hl1, hm1, _⟩ := h1
  obtain ⟨a2, c2, rfl, hl2, hm2, _⟩ := h2
  unfold maxLen at hm1 hm2
  rcases codeDt_cases hne with ⟨e, ea⟩ | ⟨e, ea, eb⟩ | ⟨e, ea, eb, hne2⟩
  · rw [ea] at HA
    rw [e]
    clear ea e hne HB
    go_enter Try.func37, Try.ntmps37
    go_wp2_with (go_at_call 17; (with_reducible refine HA.out.mono ?_); rintro e w' ⟨rfl, rfl⟩)
    go_ret2
    exact ⟨rfl, Below.refl _ _⟩
  · rw [ea] at HA
    rw [eb] at HB
    rw [e]
    clear ea eb e hne
    go_enter Try.func37, Try.ntmps37
    go_wp2_with (first | (go_at_call 17; (with_reducible refine HA.out.mono ?_); rintro e w' ⟨rfl, rfl⟩) | (go_at_call 17; (with_reducible refine HB.out.mono ?_); rintro e w' ⟨rfl, rfl⟩))
    go_ret2
    exact ⟨rfl, Below.refl _ _⟩
  · rw [ea] at HA
    rw [eb] at HB
    rw [e]
    clear ea eb e hne
    generalize xs.length = n at *
    generalize ys.length = m at *
    have z0 : ((n : Int) == (m : Int)) = false := beq_eq_false_iff_ne.2 (by omega)
    have z1 : ((n : Int) != (m : Int)) = true := by rw [bne_iff_ne]; omega
    go_enter Try.func37, Try.ntmps37
    go_wp2_with (first | (go_at_call 17; (with_reducible refine HA.out.mono ?_); rintro e w' ⟨rfl, rfl⟩) | (go_at_call 17; (with_reducible refine HB.out.mono ?_); rintro e w' ⟨rfl, rfl⟩))
    go_ret2
    exact ⟨rfl, Below.refl _ _⟩
set_option maxRecDepth 100000 in
set_option maxHeartbeats 1000000 in
theorem sDotOf_no (v1 v2 : Value) (xs ys : List Nat) (c : Int) (hcd : codeDt xs ys = c) (hne : c ≠ 0) (w : World) (h1 : FloatsAt w v1 xs) (h2 : FloatsAt w v2 ys) :
    Calls Try.prog 36 #[v1, v2] w fun e w' => e = .returned (.tuple #[.float .f32 0, .int .i64 c]) ∧ Below w.heap.size w w' := by
  have HA := Lib.hid (l06Ok_any v1 xs w h1)
  have HB := Lib.hid (l06Ok_any v2 ys w h2)
  subst hcd
  obtain ⟨a1, c1, rfl, hl1, hm1, _⟩ := h1
  obtain ⟨a2, c2, rfl, hl2, hm2, _⟩ := h2
  unfold maxLen at hm1 hm2
  rcases codeDt_cases hne with ⟨e, ea⟩ | ⟨e, ea, eb⟩ | ⟨e, ea, eb, hne2⟩
  · rw [ea] at HA
    rw [e]
    clear ea e hne HB
    go_enter Try.func36, Try.ntmps36
    go_wp2_with (go_at_call 47; (with_reducible refine HA.out.mono ?_); rintro e w' ⟨rfl, rfl⟩)
    go_ret2
    exact ⟨rfl, Below.refl _ _⟩
  · rw [ea] at HA
    rw [eb] at HB
    rw [e]
    clear ea eb e hne
    go_enter Try.func36, Try.ntmps36
    go_wp2_with (first | (go_at_call 47; (with_reducible refine HA.out.mono ?_); rintro e w' ⟨rfl, rfl⟩) | (go_at_call 47; (with_reducible refine HB.out.mono ?_); rintro e w' ⟨rfl, rfl⟩))
    go_ret2
    exact ⟨rfl, Below.refl _ _⟩
  · rw [ea] at HA
    rw [eb] at HB
    rw [e]
    clear ea eb e hne
    generalize xs.length = n at *
    generalize ys.length = m at *
    have z0 : ((n : Int) == (m : Int)) = false := beq_eq_false_iff_ne.2 (by omega)
    have z1 : ((n : Int) != (m : Int)) = true := by rw [bne_iff_ne]; omega
    go_enter Try.func36, Try.ntmps36
    go_wp2_with (first | (go_at_call 47; (with_reducible refine HA.out.mono ?_); rintro e w' ⟨rfl, rfl⟩) | (go_at_call 47; (with_reducible refine HB.out.mono ?_); rintro e w' ⟨rfl, rfl⟩))
    go_ret2
    exact ⟨rfl, Below.refl _ _⟩
set_option maxRecDepth 100000 in
set_option maxHeartbeats 1000000 in
theorem iDotOf_yes (v1 v2 : Value) (xs ys : List Nat) (hcd : codeDt xs ys = 0) (hwx : ∀ z ∈ xs, (Lit.float .f32 z).wf = true) (hwy : ∀ z ∈ ys, (Lit.float .f32 z).wf = true) (w : World) (h1 : FloatsAt w v1 xs) (h2 : FloatsAt w v2 ys) :
    Calls Try.prog 37 #[v1, v2] w fun e w' => e = .returned (.tuple #[.float .f32 (dotK xs ys xs.length), .int .i64 0]) ∧ Below w.heap.size w w' := by
  obtain ⟨ea, eb, hl, he, hx, hy⟩ := codeDt_zero hwx hwy hcd
  have HA := Lib.hid (ValidList_any v1 xs w h1)
  have HB := Lib.hid (ValidList_any v2 ys w h2)
  rw [ea] at HA
  rw [eb] at HB
  have HD := Lib.hid (dotOf_any 1233125376 (by decide) (by decide +kernel) capD_plain v1 v2 xs ys hx hy hl he w h1 h2)
  obtain ⟨a1, c1, rfl, hl1, hm1, _⟩ := h1
  obtain ⟨a2, c2, rfl, hl2, hm2, _⟩ := h2
  unfold maxLen at hm1 hm2
  rw [he] at HD HB ⊢
  generalize dotK xs ys xs.length = s at *
  generalize xs.length = n at *
  clear hcd hwx hwy hx hy ea eb he
  go_enter Try.func37, Try.ntmps37
  go_wp2_with (first | (go_at_call 17; (with_reducible refine HA.out.mono ?_); rintro e w' ⟨rfl, rfl⟩) | (go_at_call 17; (with_reducible refine HB.out.mono ?_); rintro e w' ⟨rfl, rfl⟩) | (go_at_call 68; (with_reducible refine HD.out.mono ?_); rintro e w1 ⟨rfl, hb⟩))
  go_ret2
  exact ⟨rfl, hb⟩
set_option maxRecDepth 100000 in
set_option maxHeartbeats 4000000 in
theorem sDotOf_yes (v1 v2 : Value) (xs ys : List Nat) (hcd : codeDt xs ys = 0) (hwx : ∀ z ∈ xs, (Lit.float .f32 z).wf = true) (hwy : ∀ z ∈ ys, (Lit.float .f32 z).wf = true) (w : World) (h1 : FloatsAt w v1 xs) (h2 : FloatsAt w v2 ys) :
    Calls Try.prog 36 #[v1, v2] w fun e w' => e = .returned (.tuple #[.float .f32 (dotK xs ys xs.length), .int .i64 0]) ∧ Below w.heap.size w w' := by
  obtain ⟨ea, eb, hl, he, hx, hy⟩ := codeDt_zero hwx hwy hcd
  have HA := Lib.hid (l06Ok_any v1 xs w h1)
  have HB := Lib.hid (l06Ok_any v2 ys w h2)
  rw [ea] at HA
  rw [eb] at HB
  have HT := Lib.hid (fun k x y => dot_step (D := 1233125376) (k := k) (x := x) (y := y) (by decide) (by decide +kernel) capD_plain hx hy hl he)
  have H1 := Lib.hid h1
  have H2 := Lib.hid h2
  obtain ⟨a1, c1, rfl, hl1, hm1, _⟩ := h1
  obtain ⟨a2, c2, rfl, hl2, hm2, _⟩ := h2
  unfold maxLen at hm1 hm2
  have HM := Lib.hid he
  rw [he] at hl2 H2 HB ⊢
  generalize hn : xs.length = n at *
  have HN := Lib.hid hn
  clear hcd hwx hwy hx hy ea eb he hn
  go_enter Try.func36, Try.ntmps36
  go_wp2_with (first | (go_at_call 47; (with_reducible refine HA.out.mono ?_); rintro e w' ⟨rfl, rfl⟩) | (go_at_call 47; (with_reducible refine HB.out.mono ?_); rintro e w' ⟨rfl, rfl⟩))
  go_loopw [6, 7] (fun s i wr => ∃ k : Nat, k ≤ n ∧ i = .int .i64 k ∧ s = .float .f32 (dotK xs ys k) ∧ Below w.heap.size w wr) (fun _ i _ => n - (intOf i).toNat)
  case atStart => exact ⟨0, Nat.zero_le _, rfl, rfl, Below.refl _ _⟩
  case round =>
    obtain ⟨k, hk, rfl, rfl, hb⟩ := hrel
    by_cases hlt : k < n
    · have hx : xs[k]? = some (xs[k]'(by rw [HN.out]; exact hlt)) := List.getElem?_eq_getElem _
      have hy : ys[k]? = some (ys[k]'(by rw [HM.out]; exact hlt)) := List.getElem?_eq_getElem _
      obtain ⟨g1, o1, rfl, q1⟩ := float_at (floats_below H1.out hb) hx
      obtain ⟨g2, o2, rfl, q2⟩ := float_at (floats_below H2.out hb) hy
      generalize (xs[k]'(by rw [HN.out]; exact hlt)) = x at *
      generalize (ys[k]'(by rw [HM.out]; exact hlt)) = y at *
      obtain ⟨d1, d2⟩ := HT.out k x y hx hy
      have rm := fun T w => run_float_arith (P := Try.prog) w .mul T .f32 _ _ _ d1
      have ra := fun T w => run_float_arith (P := Try.prog) w .add T .f32 _ _ _ d2
      have z0 : (0 : Int) ≤ (k : Int) := by omega
      have z1 : (k : Int) < (n : Int) := by omega
      have z2 : decide ((k : Int) < (n : Int)) = true := decide_eq_true z1
      clear hx hy d1 d2
      go_wp2
      refine wp_region_held_drew (S := (fun W => W.cell? ⟨g1, o1 + k, none⟩ = some (.float .f32 x) ∧ W.cell? ⟨g2, o2 + k, none⟩ = some (.float .f32 y) ∧ Below w.heap.size w W)) (by kernel_rfl) ⟨by simpa using q1, by simpa using q2, hb.drew⟩ (fun hHeld => ?_)
      refine take_op (i := 0) (d := 27) (v := ?_) rfl rfl (by kernel_rfl) (by kernel_rfl) (by kernel_rfl) (fun _ _ _ h => h) (Or.inl ⟨by rfl, ?hy0u13⟩) hHeld ?rest0u13
      case hy0u13 =>
        intro w' hS'
        obtain ⟨s1, s2, _⟩ := hS'
        go_simp
        try with_reducible rfl
      simp only [List.setIfInBounds_toArray, List.set_cons_zero, List.set_cons_succ]
      refine take_op (i := 1) (d := 28) (v := ?_) rfl rfl (by kernel_rfl) (by kernel_rfl) (by kernel_rfl) (fun _ _ _ h => h) (Or.inl ⟨by rfl, ?hy1u14⟩) hHeld ?rest1u14
      case hy1u14 =>
        intro w' hS'
        obtain ⟨s1, s2, _⟩ := hS'
        go_simp
        try with_reducible rfl
      simp only [List.setIfInBounds_toArray, List.set_cons_zero, List.set_cons_succ]
      refine take_op (i := 2) (d := 29) (v := ?_) rfl rfl (by kernel_rfl) (by kernel_rfl) (by kernel_rfl) (fun _ _ _ h => h) (Or.inl ⟨by rfl, ?hy2u15⟩) hHeld ?rest2u15
      case hy2u15 =>
        intro w' hS'
        obtain ⟨s1, s2, _⟩ := hS'
        go_simp
        try with_reducible rfl
      simp only [List.setIfInBounds_toArray, List.set_cons_zero, List.set_cons_succ]
      refine take_op (i := 3) (d := 30) (v := ?_) rfl rfl (by kernel_rfl) (by kernel_rfl) (by kernel_rfl) (fun _ _ _ h => h) (Or.inl ⟨by rfl, ?hy3u16⟩) hHeld ?rest3u16
      case hy3u16 =>
        intro w' hS'
        obtain ⟨s1, s2, _⟩ := hS'
        go_simp
        try with_reducible rfl
      simp only [List.setIfInBounds_toArray, List.set_cons_zero, List.set_cons_succ]
      refine take_op (i := 4) (d := 31) (v := ?_) rfl rfl (by kernel_rfl) (by kernel_rfl) (by kernel_rfl) (fun _ _ _ h => h) (Or.inl ⟨by rfl, ?hy4u17⟩) hHeld ?rest4u17
      case hy4u17 =>
        intro w' hS'
        obtain ⟨s1, s2, _⟩ := hS'
        go_simp
        try with_reducible rfl
      simp only [List.setIfInBounds_toArray, List.set_cons_zero, List.set_cons_succ]
      refine take_op (i := 5) (d := 32) (v := ?_) rfl rfl (by kernel_rfl) (by kernel_rfl) (by kernel_rfl) (fun _ _ _ h => h) (Or.inl ⟨by rfl, ?hy5u18⟩) hHeld ?rest5u18
      case hy5u18 =>
        intro w' hS'
        obtain ⟨s1, s2, _⟩ := hS'
        go_simp
        try with_reducible rfl
      simp only [List.setIfInBounds_toArray, List.set_cons_zero, List.set_cons_succ]
      refine take_op (i := 6) (d := 33) (v := ?_) rfl rfl (by kernel_rfl) (by kernel_rfl) (by kernel_rfl) (fun _ _ _ h => h) (Or.inl ⟨by rfl, ?hy6u19⟩) hHeld ?rest6u19
      case hy6u19 =>
        intro w' hS'
        obtain ⟨s1, s2, _⟩ := hS'
        go_simp
        try with_reducible rfl
      simp only [List.setIfInBounds_toArray, List.set_cons_zero, List.set_cons_succ]
      refine take_op (i := 7) (d := 34) (v := ?_) rfl rfl (by kernel_rfl) (by kernel_rfl) (by kernel_rfl) (fun _ _ _ h => h) (Or.inl ⟨by rfl, ?hy7u20⟩) hHeld ?rest7u20
      case hy7u20 =>
        intro w' hS'
        obtain ⟨s1, s2, _⟩ := hS'
        go_simp
        try with_reducible rfl
      simp only [List.setIfInBounds_toArray, List.set_cons_zero, List.set_cons_succ]
      refine take_op (i := 8) (d := 35) (v := ?_) rfl rfl (by kernel_rfl) (by kernel_rfl) (by kernel_rfl) (fun _ _ _ h => h) (Or.inl ⟨by rfl, ?hy8u21⟩) hHeld ?rest8u21
      case hy8u21 =>
        intro w' hS'
        obtain ⟨s1, s2, _⟩ := hS'
        go_simp
        try with_reducible rfl
      simp only [List.setIfInBounds_toArray, List.set_cons_zero, List.set_cons_succ]
      refine take_op (i := 9) (d := 36) (v := ?_) rfl rfl (by kernel_rfl) (by kernel_rfl) (by kernel_rfl) (fun _ _ _ h => h) (Or.inl ⟨by rfl, ?hy9u22⟩) hHeld ?rest9u22
      case hy9u22 =>
        intro w' hS'
        obtain ⟨s1, s2, _⟩ := hS'
        go_simp
        try with_reducible rfl
      simp only [List.setIfInBounds_toArray, List.set_cons_zero, List.set_cons_succ]
      refine take_op (i := 10) (d := 37) (v := ?_) rfl rfl (by kernel_rfl) (by kernel_rfl) (by kernel_rfl) (fun _ _ _ h => h) (Or.inl ⟨by rfl, ?hy10u23⟩) hHeld ?rest10u23
      case hy10u23 =>
        intro w' hS'
        obtain ⟨s1, s2, _⟩ := hS'
        go_simp
        try with_reducible rfl
      simp only [List.setIfInBounds_toArray, List.set_cons_zero, List.set_cons_succ]
      refine take_op (i := 11) (d := 6) (v := ?_) rfl rfl (by kernel_rfl) (by kernel_rfl) (by kernel_rfl) (fun _ _ _ h => h) (Or.inl ⟨by rfl, ?hy11u24⟩) hHeld ?rest11u24
      case hy11u24 =>
        intro w' hS'
        obtain ⟨s1, s2, _⟩ := hS'
        go_simp
        try with_reducible rfl
      simp only [List.setIfInBounds_toArray, List.set_cons_zero, List.set_cons_succ]
      refine wpAnyH_done (by kernel_rfl) ?_ _
      have hbx := hHeld.2.2
      clear hHeld q1 q2 hb
      go_wp2

      go_roundw
      case rel => exact ⟨k + 1, by omega, by go_num, by trivial, hbx⟩
      case measure => simp [intOf]; omega
    · obtain rfl : k = n := by omega
      go_wp2
      go_ret2
      exact ⟨rfl, hb⟩

end Go.Proofs.Ytjpnbcfdnolcjaa
