/-
  The means of runs of a list: the program and the model.
-/
import Derived.Test.YtjpnbcfdnolcjaaAdL
import Derived.Test.YtjpnbcfdnolcjaaFlO
import Derived.Test.YtjpnbcfdnolcjaaStpA
import Derived.Test.YtjpnbcfdnolcjaaRnL
import Derived.Deep.Cut
import Derived.Deep.DeepCutAuto
namespace Go.Proofs.Ytjpnbcfdnolcjaa
open Go.ChangeShapes Go.WideShapes Go.ChangeAt Go.RowKit Go.Deep Go.Joins

attribute [local go_sem] run_store_f

/-- The means of all runs of so many numbers. -/
def mvN (zs : List Nat) (m : Nat) : Nat := zs.length + 1 - m
def mvS (zs : List Nat) (m : Nat) : List Nat := (List.range (mvN zs m)).map fun j => meanS ((zs.drop j).take m)
theorem mvS_len (zs : List Nat) (m : Nat) : (mvS zs m).length = mvN zs m := by simp [mvS]
theorem mvS_take {zs : List Nat} {m j : Nat} (h : j < mvN zs m) : (mvS zs m).take (j + 1) = (mvS zs m).take j ++ [meanS ((zs.drop j).take m)] := take_snoc (by simp [mvS, h])
theorem run_ok {zs : List Nat} (hq : ∀ z ∈ zs, PlnOk z) (hl : zs.length ≤ 48) {m j : Nat} (h1 : 1 ≤ m) (h : j < mvN zs m) : (∀ z ∈ (zs.drop j).take m, PlnOk z) ∧ ((zs.drop j).take m).length = m ∧ m ≤ 48 ∧ 1 ≤ m := by
  unfold mvN at h
  refine ⟨fun z hz => hq z (List.mem_of_mem_drop (List.mem_of_mem_take hz)), ?_, by omega, h1⟩
  rw [List.length_take, List.length_drop]; omega
theorem mvS_fin {zs : List Nat} (hq : ∀ z ∈ zs, PlnOk z) (hl : zs.length ≤ 48) {m : Nat} (h1 : 1 ≤ m) : ∀ x ∈ mvS zs m, fin32 x = true := by
  intro x hx
  simp only [mvS, List.mem_map, List.mem_range] at hx
  obtain ⟨j, hj, rfl⟩ := hx
  obtain ⟨a, b, c, d⟩ := run_ok hq hl h1 hj
  exact num_finN (mean_ok a (by omega) (by omega)).2.1
/-- A run of a list, where it lies. -/
theorem floats_run {W : World} {g o n cap : Nat} {zs : List Nat} (h : FloatsAt W (.slice (some ⟨g, o, none⟩) n cap) zs) {m j c : Nat} (hj : j + m ≤ zs.length) (hc : m ≤ c) (hc2 : c ≤ maxLen) :
    FloatsAt W (.slice (some ⟨g, o + j, none⟩) m c) ((zs.drop j).take m) := by
  obtain ⟨a', cap', e, _, _, h4⟩ := h
  injection e with e1 e2 e3
  subst e1
  have hl : ((zs.drop j).take m).length = m := by rw [List.length_take, List.length_drop]; omega
  refine ⟨_, c, by rw [hl], by omega, hc2, fun i x hx => ⟨g, o + j, rfl, ?_⟩⟩
  rw [List.getElem?_take] at hx
  split at hx
  · rw [List.getElem?_drop] at hx
    obtain ⟨g', o', e', c'⟩ := h4 (j + i) x hx
    obtain ⟨rfl, rfl⟩ : g = g' ∧ o = o' := by simpa using e'
    rw [← Nat.add_assoc] at c'
    exact c'
  · cases hx
def codeMv (zs : List Nat) (m : Int) : Int := if okLs zs = false then 1 else if (decide (1 ≤ m) && decide (m ≤ 48)) = false then 2 else 0
set_option maxRecDepth 100000 in
set_option maxHeartbeats 1000000 in
theorem iMovingMeans_inv (sv : Value) (zs : List Nat) (m : Int) (ho : okLs zs = false) (w : World) (hz : FloatsAt w sv zs) :
    Calls Try.prog 39 #[sv, .int .i64 m] w (RetF6 [] 1 w) := by
  have HV := Lib.hid (ValidList_any sv zs)
  rw [ho] at HV
  have HZ := Lib.hid hz
  have HW := Lib.hid hz
  obtain ⟨a, cap, rfl, hl, hm, _⟩ := hz
  unfold maxLen at hm
  clear ho HW
  go_enter Try.func39, Try.ntmps39
  go_wp2_with (go_at_call 17; refine (HV.out _ (floats_below HZ.out (Below.refl _ _))).mono ?_; rintro e w' ⟨rfl, rfl⟩)
  go_ret2
  exact ⟨⟨_, rfl, own_noneF _ _⟩, Below.refl _ _⟩
set_option maxRecDepth 100000 in
set_option maxHeartbeats 1000000 in
theorem sMovingMeans_inv (sv : Value) (zs : List Nat) (m : Int) (ho : okLs zs = false) (w : World) (hz : FloatsAt w sv zs) :
    Calls Try.prog 38 #[sv, .int .i64 m] w (RetF6 [] 1 w) := by
  have HV := Lib.hid (l06Ok_any sv zs)
  rw [ho] at HV
  have HZ := Lib.hid hz
  have HW := Lib.hid hz
  obtain ⟨a, cap, rfl, hl, hm, _⟩ := hz
  unfold maxLen at hm
  clear ho HW
  go_enter Try.func38, Try.ntmps38
  go_wp2_with (go_at_call 47; refine (HV.out _ (floats_below HZ.out ((Below.refl _ _).alloc (Nat.le_refl _) _))).mono ?_; rintro e w' ⟨rfl, rfl⟩)
  go_ret2
  exact ⟨⟨_, rfl, own_base0 (World.ownsRow_made _ _ _ (Nat.le_refl _) (Nat.zero_le _) rfl)⟩, (Below.refl _ _).alloc (Nat.le_refl _) _⟩
set_option maxRecDepth 100000 in
set_option maxHeartbeats 1000000 in
theorem iMovingMeans_out (sv : Value) (zs : List Nat) (m : Int) (ho : okLs zs = true) (hm : (decide (1 ≤ m) && decide (m ≤ 48)) = false) (w : World) (hz : FloatsAt w sv zs) :
    Calls Try.prog 39 #[sv, .int .i64 m] w (RetF6 [] 2 w) := by
  have HV := Lib.hid (ValidList_any sv zs)
  rw [ho] at HV
  have HZ := Lib.hid hz
  have HW := Lib.hid hz
  obtain ⟨a, cap, rfl, hl, hmx, _⟩ := hz
  unfold maxLen at hmx
  have hm' : m < 1 ∨ (1 ≤ m ∧ 48 < m) := by
    simp only [Bool.and_eq_false_iff, decide_eq_false_iff_not] at hm
    omega
  clear ho HW hm
  rcases hm' with hm' | ⟨hm0, hm'⟩
  all_goals
    go_enter Try.func39, Try.ntmps39
    go_wp2_with (go_at_call 17; refine (HV.out _ (floats_below HZ.out (Below.refl _ _))).mono ?_; rintro e w' ⟨rfl, rfl⟩)
    go_ret2
    exact ⟨⟨_, rfl, own_noneF _ _⟩, Below.refl _ _⟩
set_option maxRecDepth 100000 in
set_option maxHeartbeats 1000000 in
theorem sMovingMeans_out (sv : Value) (zs : List Nat) (m : Int) (ho : okLs zs = true) (hm : (decide (1 ≤ m) && decide (m ≤ 48)) = false) (w : World) (hz : FloatsAt w sv zs) :
    Calls Try.prog 38 #[sv, .int .i64 m] w (RetF6 [] 2 w) := by
  have HV := Lib.hid (l06Ok_any sv zs)
  rw [ho] at HV
  have HZ := Lib.hid hz
  have HN := Lib.hid (in6_is m 1 48 _ hm)
  have HW := Lib.hid hz
  obtain ⟨a, cap, rfl, hl, hmx, _⟩ := hz
  unfold maxLen at hmx
  have hm' : m < 1 ∨ (1 ≤ m ∧ 48 < m) := by
    simp only [Bool.and_eq_false_iff, decide_eq_false_iff_not] at hm
    omega
  clear ho HW hm
  rcases hm' with hm' | ⟨hm0, hm'⟩
  all_goals
    go_enter Try.func38, Try.ntmps38
    go_wp2_with (first | (go_at_call 47; refine (HV.out _ (floats_below HZ.out ((Below.refl _ _).alloc (Nat.le_refl _) _))).mono ?_; rintro e w' ⟨rfl, rfl⟩) | (go_at_call 58; refine (HN.out _).mono ?_; rintro e w' ⟨rfl, rfl⟩))
    go_ret2
    exact ⟨⟨_, rfl, own_base0 (World.ownsRow_made _ _ _ (Nat.le_refl _) (Nat.zero_le _) rfl)⟩, (Below.refl _ _).alloc (Nat.le_refl _) _⟩
set_option maxRecDepth 100000 in
set_option maxHeartbeats 4000000 in
theorem iMovingMeans_yes (sv : Value) (zs : List Nat) (m : Nat) (ho : okLs zs = true) (h1 : 1 ≤ m) (hm48 : m ≤ 48) (hwf : ∀ z ∈ zs, (Lit.float .f32 z).wf = true) (w : World) (hz : FloatsAt w sv zs) :
    Calls Try.prog 39 #[sv, .int .i64 (m : Int)] w (RetF6 (mvS zs m) 0 w) := by
  obtain ⟨i0, hin, hz0, hz1, hz2⟩ := info_parts info_f32
  have HV := Lib.hid (ValidList_any sv zs)
  rw [ho] at HV
  obtain ⟨h48, hq⟩ := okLs_get hwf ho
  have HM := Lib.hid (fun j (hj : j < mvN zs m) (W : World) (v : Value) (hv : FloatsAt W v ((zs.drop j).take m)) => meanOf_any v _ (run_ok hq h48 h1 hj).1 (by rw [(run_ok hq h48 h1 hj).2.1]; exact h1) (by rw [(run_ok hq h48 h1 hj).2.1]; exact hm48) W hv)
  have HW := Lib.hid hz
  obtain ⟨a, cap, rfl, hl, hmx, _⟩ := hz
  unfold maxLen at hmx
  have HL := Lib.hid (mvS_len zs m)
  have HG := Lib.hid (fun j => mvS_take (zs := zs) (m := m) (j := j))
  have HC : Hid (mvN zs m = zs.length + 1 - m) := Lib.hid rfl
  generalize hrs : mvS zs m = os at *
  generalize mvN zs m = c at *
  generalize hn : zs.length = n at *
  have HN := Lib.hid hn
  have q1 : (1 : Int) ≤ (m : Int) := by omega
  have q2 : (m : Int) ≤ 48 := by omega
  have q3 : n ≤ cap := hl
  have q4 : decide ((m : Int) < 1) = false := by apply decide_eq_false; omega
  have q5 : decide ((48 : Int) < (m : Int)) = false := by apply decide_eq_false; omega
  clear hn hq hwf ho hrs

  go_enter Try.func39, Try.ntmps39
  go_wp2_with (go_at_call 17; refine (HV.out _ HW.out).mono ?_; rintro e w' ⟨rfl, rfl⟩)
  clear HV
  have hrow0 : w.ownsRow w.heap.size 26 1 (.slice none 0 0) 0 [] := ⟨rfl, .inl ⟨rfl, rfl⟩⟩
  go_loopw [6, 7] (fun o i wr => ∃ (vo : Value) (j : Nat), vo = o ∧ (j = 0 ∨ j ≤ c) ∧ i = .int .i64 ((m + j : Nat) : Int) ∧ wr.ownsRow w.heap.size 26 1 o j ((os.take j).map (Value.float .f32)) ∧ Below w.heap.size w wr) (fun _ i _ => n + 1 - (intOf i).toNat)
  case atStart => exact ⟨_, 0, rfl, .inl rfl, rfl, hrow0, Below.refl _ _⟩
  case round =>
    clear hrow0
    obtain ⟨vo, j, rfl, hj, rfl, hrow, hb⟩ := hrel
    by_cases hlt : m + j ≤ n
    · have hjc : j < c := by have := HC.out; omega
      obtain ⟨x, hx⟩ : ∃ x, zs[j]? = some x := ⟨_, List.getElem?_eq_getElem (by rw [HN.out]; omega)⟩
      obtain ⟨g, o, rfl, -⟩ := float_at HW.out hx
      have HR := Lib.hid (floats_run (floats_below HW.out hb) (m := m) (j := j) (c := m) (by rw [HN.out]; omega) (Nat.le_refl _) (by unfold maxLen; omega))
      have HLt := Lib.hid (HG.out j hjc)
      have HMj := Lib.hid (HM.out j hjc)
      generalize he : m + j = e at *
      have z1 : (e : Int) ≤ (n : Int) := by omega
      have z2 : (0 : Int) ≤ (e : Int) := by omega
      have z3 : (e : Int) - (m : Int) = (j : Int) := by omega
      have z4 : ¬ e = j := by omega
      have z5 : e - j = m := by omega
      have z6 : (j : Int) ≤ (e : Int) := by omega
      have z7 : (0 : Int) ≤ (j : Int) := by omega
      have z8 : e ≤ n := by omega
      have HE := Lib.hid he
      clear hx he hlt hj
      generalize meanS ((zs.drop j).take m) = p at *
      have hsz3 := hb.size
      go_wp2_with (first | (go_at_call 64; refine (HMj.out _ _ HR.out).mono ?_; rintro e' w' ⟨rfl, rfl⟩) | (at_builtin; refine wpList_append_own _ rfl _ _ 22 rfl w.heap.size 26 i0 (.float .f32 0) 1 4 Try.underlying22 hin hz0 hz1 hz2 rfl (by decide) _ _ _ rfl (hrow.alloc _) ⟨wr.heap.size, 0, none⟩ 1 1 [.float .f32 (p)] rfl rfl (cell_one_new _ _ _) (by simp [Value.oneCell']) (by unfold maxLen; omega) (by omega) (by simp; omega) ?_; intro v' w1 hown' hgrow _))
      go_roundw
      case rel => exact ⟨_, j + 1, rfl, .inr (by omega), by rw [show ((m + (j + 1) : Nat) : Int) = (e : Int) + 1 by have := HE.out; omega], by rw [HLt.out]; simpa using hown', (hb.alloc (by omega) _).grown hgrow (by simp; omega) (row_base hrow)⟩
      case measure => simp [intOf]; omega
    · have hjc : j = c := by have := HC.out; omega
      subst hjc
      have hcn : j ≤ n := by have := HC.out; omega
      have hln := HL.out
      have HR2 : Hid (Own wr w.heap.size 26 (Value.float .f32) vo os) := by
        rw [List.take_of_length_le (by omega), ← hln] at hrow
        exact own_of_row hrow (by unfold maxLen; omega)
      have z1 : (n : Int) < ((m + j : Nat) : Int) := by omega
      clear hrow hj hln hcn
      generalize ((m + j : Nat) : Int) = ei at *
      go_wp2
      go_ret2
      exact ⟨⟨_, rfl, HR2.out⟩, hb⟩
set_option maxRecDepth 100000 in
set_option maxHeartbeats 4000000 in
theorem sMovingMeans_yes (sv : Value) (zs : List Nat) (m : Nat) (ho : okLs zs = true) (h1 : 1 ≤ m) (hm48 : m ≤ 48) (hwf : ∀ z ∈ zs, (Lit.float .f32 z).wf = true) (w : World) (hz : FloatsAt w sv zs) :
    Calls Try.prog 38 #[sv, .int .i64 (m : Int)] w (RetF6 (mvS zs m) 0 w) := by
  obtain ⟨i0, hin, hz0, hz1, hz2⟩ := info_parts info_f32
  have HV := Lib.hid (l06Ok_any sv zs)
  rw [ho] at HV
  obtain ⟨h48, hq⟩ := okLs_get hwf ho
  have HM := Lib.hid (fun j (hj : j < mvN zs m) (W : World) (v : Value) (hv : FloatsAt W v ((zs.drop j).take m)) => l06Mean_any v _ (run_ok hq h48 h1 hj).1 (by rw [(run_ok hq h48 h1 hj).2.1]; exact h1) (by rw [(run_ok hq h48 h1 hj).2.1]; exact hm48) W hv)
  have HW := Lib.hid hz
  obtain ⟨a, cap, rfl, hl, hmx, _⟩ := hz
  unfold maxLen at hmx
  have HL := Lib.hid (mvS_len zs m)
  have HG := Lib.hid (fun j => mvS_take (zs := zs) (m := m) (j := j))
  have HC : Hid (mvN zs m = zs.length + 1 - m) := Lib.hid rfl
  generalize hrs : mvS zs m = os at *
  generalize mvN zs m = c at *
  generalize hn : zs.length = n at *
  have HN := Lib.hid hn
  have q1 : (1 : Int) ≤ (m : Int) := by omega
  have q2 : (m : Int) ≤ 48 := by omega
  have q3 : n ≤ cap := hl
  have q4 : decide ((m : Int) < 1) = false := by apply decide_eq_false; omega
  have q5 : decide ((48 : Int) < (m : Int)) = false := by apply decide_eq_false; omega
  clear hn hq hwf ho hrs

  have HN2 := Lib.hid (in6_is (m : Int) 1 48 true (by rw [decide_eq_true q1, decide_eq_true q2]; rfl))
  go_enter Try.func38, Try.ntmps38
  go_wp2_with (first | (go_at_call 47; refine (HV.out _ (floats_below HW.out ((Below.refl _ _).alloc (Nat.le_refl _) _))).mono ?_; rintro e w' ⟨rfl, rfl⟩) | (go_at_call 58; refine (HN2.out _).mono ?_; rintro e w' ⟨rfl, rfl⟩))
  clear HV HN2
  have hrow0 : (w.alloc (.cells #[] 26)).ownsRow w.heap.size 26 1 (.slice (some ⟨w.heap.size, 0, none⟩) 0 0) 0 [] := World.ownsRow_made _ _ _ (Nat.le_refl _) (Nat.zero_le _) rfl
  go_loopw [6, 7] (fun o i wr => ∃ (vo : Value) (j : Nat), vo = o ∧ (j = 0 ∨ j ≤ c) ∧ i = .int .i64 (j : Int) ∧ wr.ownsRow w.heap.size 26 1 o j ((os.take j).map (Value.float .f32)) ∧ Below w.heap.size w wr) (fun _ i _ => n + 1 - (intOf i).toNat)
  case atStart => exact ⟨_, 0, rfl, .inl rfl, rfl, hrow0, (Below.refl _ _).alloc (Nat.le_refl _) _⟩
  case round =>
    clear hrow0
    obtain ⟨vo, j, rfl, hj, rfl, hrow, hb⟩ := hrel
    by_cases hlt : m + j ≤ n
    · have hjc : j < c := by have := HC.out; omega
      obtain ⟨x, hx⟩ : ∃ x, zs[j]? = some x := ⟨_, List.getElem?_eq_getElem (by rw [HN.out]; omega)⟩
      obtain ⟨g, o, rfl, -⟩ := float_at HW.out hx
      have HR := Lib.hid (floats_run (floats_below HW.out hb) (m := m) (j := j) (c := cap - j) (by rw [HN.out]; omega) (by omega) (by unfold maxLen; omega))
      have HLt := Lib.hid (HG.out j hjc)
      have HMj := Lib.hid (HM.out j hjc)
      generalize he : m + j = e at *
      have z1 : (e : Int) ≤ (n : Int) := by omega
      have z2 : (0 : Int) ≤ (e : Int) := by omega
      have z3 : (j : Int) + (m : Int) = (e : Int) := by omega
      have z4 : ¬ cap = j := by omega
      have z5 : e - j = m := by omega
      have z6 : (j : Int) ≤ (e : Int) := by omega
      have z7 : (0 : Int) ≤ (j : Int) := by omega
      have z8 : e ≤ n := by omega
      have z9 : (e : Int) ≤ (cap : Int) := by omega
      have HE := Lib.hid he
      clear hx he hlt hj
      generalize meanS ((zs.drop j).take m) = p at *
      have hsz3 := hb.size
      go_wp2_with (first | (go_at_call 62; refine (HMj.out _ _ HR.out).mono ?_; rintro e' w' ⟨rfl, rfl⟩) | (at_builtin; refine wpList_append_own _ rfl _ _ 22 rfl w.heap.size 26 i0 (.float .f32 0) 1 4 Try.underlying22 hin hz0 hz1 hz2 rfl (by decide) _ _ _ rfl (hrow.alloc _) ⟨wr.heap.size, 0, none⟩ 1 1 [.float .f32 (p)] rfl rfl (cell_one_new _ _ _) (by simp [Value.oneCell']) (by unfold maxLen; omega) (by omega) (by simp; omega) ?_; intro v' w1 hown' hgrow _))
      go_roundw
      case rel => exact ⟨_, j + 1, rfl, .inr (by omega), by go_num, by rw [HLt.out]; simpa using hown', (hb.alloc (by omega) _).grown hgrow (by simp; omega) (row_base hrow)⟩
      case measure => simp [intOf]; omega
    · have hjc : j = c := by have := HC.out; omega
      subst hjc
      have hcn : j ≤ n := by have := HC.out; omega
      have hln := HL.out
      have HR2 : Hid (Own wr w.heap.size 26 (Value.float .f32) vo os) := by
        rw [List.take_of_length_le (by omega), ← hln] at hrow
        exact own_of_row hrow (by unfold maxLen; omega)
      have z1 : (n : Int) < (j : Int) + (m : Int) := by omega
      have z2 : (0 : Int) ≤ (j : Int) := by omega
      have z3 : (j : Int) ≤ 48 := by omega
      clear hrow hj hln hcn
      go_wp2
      go_ret2
      exact ⟨⟨_, rfl, HR2.out⟩, hb⟩

end Go.Proofs.Ytjpnbcfdnolcjaa
