/-
  The order with the greatest sum: the model, and what is refused.
-/
import Derived.Test.YtjpnbcfdnolcjabGoR
import Derived.Test.YtjpnbcfdnolcjabGoI
namespace Go.Proofs.Ytjpnbcfdnolcjab
open Go.ChangeShapes Go.WideShapes Go.ChangeAt Go.RowKit Go.Deep Go.Joins

attribute [local go_sem] run_store_f

theorem own_noneI (w : World) (b : Nat) : Own w b 2 (Value.int .i64) (.slice none 0 0) [] := ⟨none, 0, rfl, by unfold maxLen; omega, Nat.le_refl _, .inl ⟨rfl, rfl⟩⟩

theorem own_base0I {W : World} {base : Nat} {v : Value} (h : W.ownsRow base 2 1 v 0 []) : Own W base 2 (Value.int .i64) v [] := own_of_row (xs := ([] : List Int)) h (by unfold maxLen; simp)

theorem from_top (W0 : World) (sv : Value) (zs : List Nat) (b : Nat) (h48 : zs.length ≤ 6) (hq : ∀ z ∈ zs, PlnOk z) (hz : FloatsAt W0 sv zs) (hbb : W0.heap.size ≤ b) (ov : Value) (W : World) (hord : OrdAt W ov []) (hs : SRow W b W0.heap.size sv none) (hbw : Below W0.heap.size W0 W) :
    Calls Try.prog 59 #[.pointer (some ⟨b, 0, none⟩), ov, .float .f32 0] W (FromRet (some (stP zs (permsL zs.length) ((permsL zs.length).length - 1))) W b W0.heap.size sv) := by
  rw [← st_all zs (permsL zs.length) (perms_ok (by omega)).pos]
  have e0 : sumP zs [] = 0 := rfl
  have hno : ∀ s, (none : Option (List Nat × Nat)) = some s → isNum s.2 := fun s h => by cases h
  rcases Nat.eq_zero_or_pos zs.length with h0 | h0
  · have e1 : permsL zs.length = [[]] := by rw [h0]; rfl
    rw [e1]
    exact from_leaf sv ov zs [] b W0.heap.size 0 none W h0.symm (by omega) (.inl (by decide)) hno e0 (floats_below hz hbw) hord hs hbw.size
  · obtain ⟨a, cap, rfl, -⟩ := id hz
    obtain ⟨lg, lo, rfl, _⟩ := float_at hz (getD_get h0)
    have := from_any W0 zs lg lo cap b h48 hq hz hbb zs.length [] none ov W (by simp) (fun x hx => by cases hx) hno hord hs hbw
    rw [e0] at this
    exact this

set_option maxRecDepth 100000 in
set_option maxHeartbeats 4000000 in
theorem iGreatestOrder_no (sv : Value) (zs : List Nat) (c : Int) (hc : (c = 1 ∧ okLs zs = false) ∨ (c = 3 ∧ okLs zs = true ∧ 6 < zs.length)) (w : World) (hz : FloatsAt w sv zs) :
    Calls Try.prog 31 #[sv] w (Ret3 [] 0 c w) := by
  have HV := Lib.hid (ValidList_any sv zs w hz)
  obtain ⟨a, cap, rfl, hl, hm, _⟩ := hz
  unfold maxLen at hm
  rcases hc with ⟨rfl, ho⟩ | ⟨rfl, ho, h6⟩
  · rw [ho] at HV
    clear ho
    go_enter Try.func31, Try.ntmps31
    go_wp2
    refine wp_scope_jumps6 0 (fun _ _ => False) (fun _ _ => 0) rfl (fun _ _ h => h.elim) ?_
    intro _
    go_wp2_with (go_at_call 53; refine HV.out.mono ?_; rintro e w' ⟨rfl, rfl⟩)
    refine jump_ret6 ?_
    go_ret3
    exact ⟨⟨_, rfl, own_noneI _ _⟩, Below.refl _ _⟩
  · rw [ho] at HV
    have z6 : (6 : Int) < (zs.length : Int) := by omega
    clear ho
    go_enter Try.func31, Try.ntmps31
    go_wp2
    refine wp_scope_jumps6 0 (fun _ _ => False) (fun _ _ => 0) rfl (fun _ _ h => h.elim) ?_
    intro _
    go_wp2_with (go_at_call 53; refine HV.out.mono ?_; rintro e w' ⟨rfl, rfl⟩)
    refine jump_ret6 ?_
    go_ret3
    exact ⟨⟨_, rfl, own_noneI _ _⟩, Below.refl _ _⟩

set_option maxRecDepth 100000 in
set_option maxHeartbeats 4000000 in
theorem sGreatestOrder_no (sv : Value) (zs : List Nat) (c : Int) (hc : (c = 1 ∧ okLs zs = false) ∨ (c = 3 ∧ okLs zs = true ∧ 6 < zs.length)) (w : World) (hz : FloatsAt w sv zs) :
    Calls Try.prog 30 #[sv] w (Ret3 [] 0 c w) := by
  have HV := Lib.hid (l06Ok_any sv zs w hz)
  obtain ⟨a, cap, rfl, hl, hm, _⟩ := hz
  unfold maxLen at hm
  rcases hc with ⟨rfl, ho⟩ | ⟨rfl, ho, h6⟩
  · rw [ho] at HV
    clear ho
    go_enter Try.func30, Try.ntmps30
    go_wp2_with (go_at_call 49; refine HV.out.mono ?_; rintro e w' ⟨rfl, rfl⟩)
    go_ret3
    exact ⟨⟨_, rfl, own_base0I (World.ownsRow_made _ _ _ (Nat.le_refl _) (Nat.zero_le _) rfl)⟩, (Below.refl _ _).alloc (Nat.le_refl _) _⟩
  · rw [ho] at HV
    have z6 : (6 : Int) < (zs.length : Int) := by omega
    clear ho
    go_enter Try.func30, Try.ntmps30
    go_wp2_with (go_at_call 49; refine HV.out.mono ?_; rintro e w' ⟨rfl, rfl⟩)
    go_ret3
    exact ⟨⟨_, rfl, own_base0I (World.ownsRow_made _ _ _ (Nat.le_refl _) (Nat.zero_le _) rfl)⟩, (Below.refl _ _).alloc (Nat.le_refl _) _⟩

set_option maxRecDepth 100000 in
set_option maxHeartbeats 8000000 in
theorem sGreatestOrder_yes (sv : Value) (zs : List Nat) (ho : okLs zs = true) (h7 : zs.length < 7) (hwf : ∀ z ∈ zs, (Lit.float .f32 z).wf = true) (w : World) (hz : FloatsAt w sv zs) :
    Calls Try.prog 30 #[sv] w (Ret3 ((stP zs (permsL zs.length) ((permsL zs.length).length - 1)).1.map fun (x : Nat) => (x : Int)) (stP zs (permsL zs.length) ((permsL zs.length).length - 1)).2 0 w) := by
  have HV := Lib.hid (l06Ok_any sv zs w hz)
  rw [ho] at HV
  obtain ⟨h48, hq⟩ := okLs_get hwf ho
  have HT := Lib.hid (fun ov W h1 h2 h3 => from_top w sv zs w.heap.size (by omega) hq hz (Nat.le_refl _) ov W h1 h2 h3)
  obtain ⟨a, cap, rfl, hl, hm, _⟩ := hz
  unfold maxLen at hm
  generalize stP zs (permsL zs.length) ((permsL zs.length).length - 1) = st at *
  have z6 : (zs.length : Int) ≤ 6 := by omega
  clear ho hwf hq
  go_enter Try.func30, Try.ntmps30
  go_upto_region 5 with (go_at_call 49; refine HV.out.mono ?_; rintro e w' ⟨rfl, rfl⟩)
  go_upto_region 6 with (fail)
  refine abs_world (fun W1 => SRow W1 w.heap.size w.heap.size (.slice a zs.length cap) none ∧ Below w.heap.size w W1) ⟨⟨_, heap_alloc_new _ _, fun s h => by cases h⟩, (Below.refl _ _).alloc (Nat.le_refl _) _⟩ ?_
  rintro W1 ⟨hs1, hb1⟩
  go_upto_region 7 with (go_at_call 59; refine (HT.out _ _ ⟨_, _, rfl, fun j x hx => by simp at hx⟩ (srow_keep hs1 ((Below.refl _ _).alloc (Nat.le_refl _) _)) (hb1.alloc hb1.size _)).mono ?_; rintro e W2 ⟨rfl, ⟨bv, hr2, how⟩, hg2⟩)
  have k1 := cell_k (k := 1) hr2 rfl
  have k2 : W2.cell? ⟨w.heap.size, 2, none⟩ = some (.float .f32 st.2) := cell_k (k := 2) hr2 rfl
  have hown := how st rfl
  have hbv : Below w.heap.size w W2 := (hb1.alloc hb1.size _).grown hg2 (hb1.alloc hb1.size _).size (fun k e => by cases e; exact Nat.le_refl _)
  have HRR := Lib.hid hr2
  clear how hg2 hs1 hb1 HT hr2
  refine wp_region_held_drew (S := (fun V => V.cell? ⟨w.heap.size, 1, none⟩ = some bv ∧ V.cell? ⟨w.heap.size, 2, none⟩ = some (.float .f32 st.2) ∧ Own V w.heap.size 2 (Value.int .i64) bv (st.1.map fun (x : Nat) => (x : Int)) ∧ Below w.heap.size w V)) (by kernel_rfl) ⟨by simpa using k1, by simpa using k2, hown, hbv.drew⟩ (fun hHeld => ?_)
  refine take_op (i := 0) (d := 20) (v := ?_) rfl rfl (by kernel_rfl) (by kernel_rfl) (by kernel_rfl) (fun _ _ _ h => h) (Or.inl ⟨by rfl, ?hy0u81⟩) hHeld ?rest0u81
  case hy0u81 =>
    intro w' hS'
    obtain ⟨s1, s2, _, _⟩ := hS'
    go_simp
    try with_reducible rfl
  simp only [List.setIfInBounds_toArray, List.set_cons_zero, List.set_cons_succ]
  refine take_op (i := 1) (d := 21) (v := ?_) rfl rfl (by kernel_rfl) (by kernel_rfl) (by kernel_rfl) (fun _ _ _ h => h) (Or.inl ⟨by rfl, ?hy1u82⟩) hHeld ?rest1u82
  case hy1u82 =>
    intro w' hS'
    obtain ⟨s1, s2, _, _⟩ := hS'
    go_simp
    try with_reducible rfl
  simp only [List.setIfInBounds_toArray, List.set_cons_zero, List.set_cons_succ]
  refine take_op (i := 2) (d := 22) (v := ?_) rfl rfl (by kernel_rfl) (by kernel_rfl) (by kernel_rfl) (fun _ _ _ h => h) (Or.inl ⟨by rfl, ?hy2u83⟩) hHeld ?rest2u83
  case hy2u83 =>
    intro w' hS'
    obtain ⟨s1, s2, _, _⟩ := hS'
    go_simp
    try with_reducible rfl
  simp only [List.setIfInBounds_toArray, List.set_cons_zero, List.set_cons_succ]
  refine take_op (i := 3) (d := 23) (v := ?_) rfl rfl (by kernel_rfl) (by kernel_rfl) (by kernel_rfl) (fun _ _ _ h => h) (Or.inl ⟨by rfl, ?hy3u84⟩) hHeld ?rest3u84
  case hy3u84 =>
    intro w' hS'
    obtain ⟨s1, s2, _, _⟩ := hS'
    go_simp
    try with_reducible rfl
  simp only [List.setIfInBounds_toArray, List.set_cons_zero, List.set_cons_succ]
  refine take_op (i := 4) (d := 24) (v := ?_) rfl rfl (by kernel_rfl) (by kernel_rfl) (by kernel_rfl) (fun _ _ _ h => h) (Or.inl ⟨by rfl, ?hy4u85⟩) hHeld ?rest4u85
  case hy4u85 =>
    intro w' hS'
    obtain ⟨s1, s2, _, _⟩ := hS'
    go_simp
    try with_reducible rfl
  simp only [List.setIfInBounds_toArray, List.set_cons_zero, List.set_cons_succ]
  refine take_op (i := 5) (d := 25) (v := ?_) rfl rfl (by kernel_rfl) (by kernel_rfl) (by kernel_rfl) (fun _ _ _ h => h) (Or.inl ⟨by rfl, ?hy5u86⟩) hHeld ?rest5u86
  case hy5u86 =>
    intro w' hS'
    obtain ⟨s1, s2, _, _⟩ := hS'
    go_simp
    try with_reducible rfl
  simp only [List.setIfInBounds_toArray, List.set_cons_zero, List.set_cons_succ]
  refine take_op (i := 6) (d := 26) (v := ?_) rfl rfl (by kernel_rfl) (by kernel_rfl) (by kernel_rfl) (fun _ _ _ h => h) (Or.inl ⟨by rfl, ?hy6u87⟩) hHeld ?rest6u87
  case hy6u87 =>
    intro w' hS'
    obtain ⟨s1, s2, _, _⟩ := hS'
    go_simp
    try with_reducible rfl
  simp only [List.setIfInBounds_toArray, List.set_cons_zero, List.set_cons_succ]
  refine take_op (i := 7) (d := 27) (v := ?_) rfl rfl (by kernel_rfl) (by kernel_rfl) (by kernel_rfl) (fun _ _ _ h => h) (Or.inl ⟨by rfl, ?hy7u88⟩) hHeld ?rest7u88
  case hy7u88 =>
    intro w' hS'
    obtain ⟨s1, s2, _, _⟩ := hS'
    go_simp
    try with_reducible rfl
  simp only [List.setIfInBounds_toArray, List.set_cons_zero, List.set_cons_succ]
  refine take_op (i := 8) (d := 2) (v := ?_) rfl rfl (by kernel_rfl) (by kernel_rfl) (by kernel_rfl) (fun _ _ _ h => h) (Or.inl ⟨by rfl, ?hy8u89⟩) hHeld ?rest8u89
  case hy8u89 =>
    intro w' hS'
    obtain ⟨s1, s2, _, _⟩ := hS'
    go_simp
    try with_reducible rfl
  simp only [List.setIfInBounds_toArray, List.set_cons_zero, List.set_cons_succ]
  refine take_op (i := 9) (d := 3) (v := ?_) rfl rfl (by kernel_rfl) (by kernel_rfl) (by kernel_rfl) (fun _ _ _ h => h) (Or.inl ⟨by rfl, ?hy9u90⟩) hHeld ?rest9u90
  case hy9u90 =>
    intro w' hS'
    obtain ⟨s1, s2, _, _⟩ := hS'
    go_simp
    try with_reducible rfl
  simp only [List.setIfInBounds_toArray, List.set_cons_zero, List.set_cons_succ]
  refine take_op (i := 10) (d := 4) (v := ?_) rfl rfl (by kernel_rfl) (by kernel_rfl) (by kernel_rfl) (fun _ _ _ h => h) (Or.inl ⟨by rfl, ?hy10u91⟩) hHeld ?rest10u91
  case hy10u91 =>
    intro w' hS'
    obtain ⟨s1, s2, _, _⟩ := hS'
    go_simp
    try with_reducible rfl
  simp only [List.setIfInBounds_toArray, List.set_cons_zero, List.set_cons_succ]
  refine wpAnyH_done (by kernel_rfl) ?_ _
  have hox := hHeld.2.2.1
  have hbx := hHeld.2.2.2
  clear hHeld
  go_wp2
  go_ret3
  exact ⟨⟨_, rfl, hox⟩, hbx⟩

end Go.Proofs.Ytjpnbcfdnolcjab
