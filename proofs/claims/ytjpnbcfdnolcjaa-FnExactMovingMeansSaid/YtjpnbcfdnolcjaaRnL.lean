/-
  The sums of all beginnings of a list: the program and the model.
-/
import Derived.Test.YtjpnbcfdnolcjaaAdL
import Derived.Test.YtjpnbcfdnolcjaaFlO
import Derived.Deep.Cut
import Derived.Deep.DeepCutAuto
namespace Go.Proofs.Ytjpnbcfdnolcjaa
open Go.ChangeShapes Go.WideShapes Go.ChangeAt Go.RowKit Go.Deep Go.Joins

attribute [local go_sem] run_store_f

/-- The sums of the first number, of the first two, and so on. -/
def runS (zs : List Nat) : List Nat := (List.range zs.length).map fun k => leftS (zs.take (k + 1))
theorem runS_len (zs : List Nat) : (runS zs).length = zs.length := by simp [runS]
theorem runS_get {zs : List Nat} {k : Nat} (h : k < zs.length) : (runS zs)[k]? = some (leftS (zs.take (k + 1))) := by simp [runS, h]
theorem runS_take {zs : List Nat} {k : Nat} (h : k < zs.length) : (runS zs).take (k + 1) = (runS zs).take k ++ [leftS (zs.take (k + 1))] := take_snoc (runS_get h)
theorem runS_fin {zs : List Nat} (hq : ∀ z ∈ zs, PlnOk z) (hl : zs.length ≤ 48) : ∀ x ∈ runS zs, fin32 x = true := by
  intro x hx
  simp only [runS, List.mem_map, List.mem_range] at hx
  obtain ⟨k, hk, rfl⟩ := hx
  exact num_finN (leftS_ok _ (fun z hz => hq z (List.mem_of_mem_take hz)) (by rw [List.length_take]; omega)).1
set_option maxRecDepth 100000 in
set_option maxHeartbeats 1000000 in
theorem iRunningSums_inv (sv : Value) (zs : List Nat) (ho : okLs zs = false) (w : World) (hz : FloatsAt w sv zs) :
    Calls Try.prog 27 #[sv] w (RetF6 [] 1 w) := by
  have HV := Lib.hid (ValidList_any sv zs)
  rw [ho] at HV
  have HZ := Lib.hid hz
  have HW := Lib.hid hz
  obtain ⟨a, cap, rfl, hl, hm, _⟩ := hz
  unfold maxLen at hm
  clear ho HW
  go_enter Try.func27, Try.ntmps27
  go_wp2_with (go_at_call 17; refine (HV.out _ (floats_below HZ.out (Below.refl _ _))).mono ?_; rintro e w' ⟨rfl, rfl⟩)
  go_ret2
  exact ⟨⟨_, rfl, own_noneF _ _⟩, Below.refl _ _⟩
set_option maxRecDepth 100000 in
set_option maxHeartbeats 1000000 in
theorem sRunningSums_inv (sv : Value) (zs : List Nat) (ho : okLs zs = false) (w : World) (hz : FloatsAt w sv zs) :
    Calls Try.prog 26 #[sv] w (RetF6 [] 1 w) := by
  have HV := Lib.hid (l06Ok_any sv zs)
  rw [ho] at HV
  have HZ := Lib.hid hz
  have HW := Lib.hid hz
  obtain ⟨a, cap, rfl, hl, hm, _⟩ := hz
  unfold maxLen at hm
  clear ho HW
  go_enter Try.func26, Try.ntmps26
  go_wp2_with (go_at_call 47; refine (HV.out _ (floats_below HZ.out ((Below.refl _ _).alloc (Nat.le_refl _) _))).mono ?_; rintro e w' ⟨rfl, rfl⟩)
  go_ret2
  exact ⟨⟨_, rfl, own_base0 (World.ownsRow_made _ _ _ (Nat.le_refl _) (Nat.zero_le _) rfl)⟩, (Below.refl _ _).alloc (Nat.le_refl _) _⟩
set_option maxRecDepth 100000 in
set_option maxHeartbeats 4000000 in
theorem iRunningSums_yes (sv : Value) (zs : List Nat) (ho : okLs zs = true) (hwf : ∀ z ∈ zs, (Lit.float .f32 z).wf = true) (w : World) (hz : FloatsAt w sv zs) :
    Calls Try.prog 27 #[sv] w (RetF6 (runS zs) 0 w) := by
  have HV := Lib.hid (ValidList_any sv zs w hz)
  rw [ho] at HV
  obtain ⟨h48, hq⟩ := okLs_get hwf ho
  have HT := Lib.hid (fun k x => leftS_take (k := k) (x := x) hq h48)
  have HW := Lib.hid hz
  obtain ⟨a, cap, rfl, hl, hm, _⟩ := hz
  unfold maxLen at hm
  have HL := Lib.hid (runS_len zs)
  have HG := Lib.hid (fun k => runS_get (zs := zs) (k := k))
  generalize hrs : runS zs = os at *
  generalize hn : zs.length = n at *
  have HN := Lib.hid hn
  have hmk := fun w => make_floats n (by omega) w
  clear hn hq hwf ho hrs
  go_enter Try.func27, Try.ntmps27
  go_wp2_with (go_at_call 17; refine HV.out.mono ?_; rintro e w' ⟨rfl, rfl⟩)
  clear HV
  go_loopw [5, 16] (fun s i wr => ∃ k : Nat, k ≤ n ∧ i = .int .i64 k ∧ s = .float .f32 (leftS (zs.take k)) ∧ Below w.heap.size w wr ∧ ∃ cur : Array Value, wr.heap[w.heap.size]? = some (.cells cur 26 (0, 0)) ∧ cur.size = n ∧ ∀ j x, j < k → os[j]? = some x → cur[j]? = some (.float .f32 x)) (fun _ i _ => n - (intOf i).toNat)
  case atStart => exact ⟨0, Nat.zero_le _, rfl, rfl, (Below.refl _ _).alloc (Nat.le_refl _) _, _, heap_alloc_new _ _, size_madeCells _ _, fun j x hj => by omega⟩
  case round =>
    clear hmk
    obtain ⟨k, hk, rfl, rfl, hb, cur, hg, hs, hp⟩ := hrel
    have HP := Lib.hid hp
    have HG2 := Lib.hid hg
    by_cases hlt : k < n
    · have hx : zs[k]? = some (zs[k]'(by rw [HN.out]; exact hlt)) := List.getElem?_eq_getElem _
      obtain ⟨g, o, rfl, hc⟩ := float_at (floats_below HW.out hb) hx
      generalize (zs[k]'(by rw [HN.out]; exact hlt)) = x at *
      have z1 : (k : Int) < (n : Int) := by omega
      have z2 : (0 : Int) ≤ (k : Int) := by omega
      have z3 : decide ((k : Int) < (n : Int)) = true := decide_eq_true z1
      have ra := fun T w => run_float_arith (P := Try.prog) w .add T .f32 _ _ _ (HT.out k x hx)
      have HX := Lib.hid (HG.out k hlt)
      have q1 : wr.cell? ⟨w.heap.size, k, none⟩ = some (cur[k]'(by omega)) := by rw [cell_of_row wr _ _ _ _ _ hg]; exact Array.getElem?_eq_getElem (by omega)
      have q2 := frozen_of_row wr w.heap.size k _ _ hg
      clear hp hg hx
      go_wp2
      go_roundw
      case rel =>
        refine ⟨k + 1, by omega, by go_num, by trivial, hb.setCell (p := ⟨w.heap.size, k, none⟩) (Nat.le_refl _) _, cur.setIfInBounds k (.float .f32 (leftS (zs.take (k + 1)))), heap_setCell_same _ _ _ _ _ _ HG2.out, by simpa using hs, fun j y hj hy => ?_⟩
        rw [Array.getElem?_setIfInBounds]
        by_cases e : k = j
        · subst e
          rw [HX.out] at hy
          obtain rfl := Option.some.inj hy
          rw [if_pos rfl, if_pos (by omega)]
        · rw [if_neg e]; exact HP.out j y (by omega) hy
      case measure => simp [intOf]; omega
    · obtain rfl : k = n := by omega
      have HR : Hid (Own wr w.heap.size 26 (Value.float .f32) (.slice (some ⟨w.heap.size, 0, none⟩) k k) os) := by
        refine ⟨_, k, by rw [HL.out], by unfold maxLen; omega, by rw [HL.out]; exact Nat.le_refl _, .inr ⟨w.heap.size, cur, rfl, Nat.le_refl _, HG2.out, fun j hj => ?_⟩⟩
        rw [List.getElem?_eq_getElem hj]
        exact HP.out j _ (by have := HL.out; omega) (List.getElem?_eq_getElem hj)
      clear hp hg
      go_wp2
      go_ret2
      exact ⟨⟨_, rfl, HR.out⟩, hb⟩
set_option maxRecDepth 100000 in
set_option maxHeartbeats 4000000 in
theorem sRunningSums_yes (sv : Value) (zs : List Nat) (ho : okLs zs = true) (hwf : ∀ z ∈ zs, (Lit.float .f32 z).wf = true) (w : World) (hz : FloatsAt w sv zs) :
    Calls Try.prog 26 #[sv] w (RetF6 (runS zs) 0 w) := by
  obtain ⟨i0, hin, hz0, hz1, hz2⟩ := info_parts info_f32
  have HV := Lib.hid (l06Ok_any sv zs)
  rw [ho] at HV
  obtain ⟨h48, hq⟩ := okLs_get hwf ho
  have HT := Lib.hid (fun k x => leftS_take (k := k) (x := x) hq h48)
  have HW := Lib.hid hz
  obtain ⟨a, cap, rfl, hl, hm, _⟩ := hz
  unfold maxLen at hm
  have HL := Lib.hid (runS_len zs)
  have HG := Lib.hid (fun k => runS_take (zs := zs) (k := k))
  generalize hrs : runS zs = os at *
  generalize hn : zs.length = n at *
  have HN := Lib.hid hn
  clear hn hq hwf ho hrs
  go_enter Try.func26, Try.ntmps26
  go_wp2_with (go_at_call 47; refine (HV.out _ (floats_below HW.out ((Below.refl _ _).alloc (Nat.le_refl _) _))).mono ?_; rintro e w' ⟨rfl, rfl⟩)
  clear HV
  have hrow0 : (w.alloc (.cells #[] 26)).ownsRow w.heap.size 26 1 (.slice (some ⟨w.heap.size, 0, none⟩) 0 0) 0 [] := World.ownsRow_made _ _ _ (Nat.le_refl _) (Nat.zero_le _) rfl
  go_loopw [4, 5, 6] (fun o s i wr => ∃ (vo : Value) (k : Nat), vo = o ∧ k ≤ n ∧ i = .int .i64 k ∧ s = .float .f32 (leftS (zs.take k)) ∧ wr.ownsRow w.heap.size 26 1 o k ((os.take k).map (Value.float .f32)) ∧ Below w.heap.size w wr) (fun _ _ i _ => n - (intOf i).toNat)
  case atStart => exact ⟨_, 0, rfl, Nat.zero_le _, rfl, rfl, hrow0, (Below.refl _ _).alloc (Nat.le_refl _) _⟩
  case round =>
    clear hrow0
    obtain ⟨vo, k, rfl, hk, rfl, rfl, hrow, hb⟩ := hrel
    by_cases hlt : k < n
    · have hx : zs[k]? = some (zs[k]'(by rw [HN.out]; exact hlt)) := List.getElem?_eq_getElem _
      obtain ⟨g, o, rfl, hc⟩ := float_at (floats_below HW.out hb) hx
      generalize (zs[k]'(by rw [HN.out]; exact hlt)) = x at *
      have z1 : (k : Int) < (n : Int) := by omega
      have z2 : (0 : Int) ≤ (k : Int) := by omega
      have z3 : decide ((k : Int) < (n : Int)) = true := decide_eq_true z1
      have ra := fun T w => run_float_arith (P := Try.prog) w .add T .f32 _ _ _ (HT.out k x hx)
      have HLt := Lib.hid (HG.out k hlt)
      have hsz3 := hb.size
      clear hx
      go_wp2_with (at_builtin; refine wpList_append_own _ rfl _ _ 22 rfl w.heap.size 26 i0 (.float .f32 0) 1 4 Try.underlying22 hin hz0 hz1 hz2 rfl (by decide) _ _ _ rfl (hrow.alloc _) ⟨wr.heap.size, 0, none⟩ 1 1 [.float .f32 (leftS (zs.take (k + 1)))] rfl rfl (cell_one_new _ _ _) (by simp [Value.oneCell']) (by unfold maxLen; omega) (by omega) (by simp; omega) ?_; intro v' w1 hown' hgrow _)
      go_roundw
      case rel => exact ⟨_, k + 1, rfl, by omega, by go_num, by trivial, by rw [HLt.out]; simpa using hown', (hb.alloc (by omega) _).grown hgrow (by simp; omega) (row_base hrow)⟩
      case measure => simp [intOf]; omega
    · obtain rfl : n = k := by omega
      have hln := HL.out
      have HR2 : Hid (Own wr w.heap.size 26 (Value.float .f32) vo os) := by
        rw [List.take_of_length_le (by omega), ← hln] at hrow
        exact own_of_row hrow (by unfold maxLen; omega)
      clear hrow
      go_wp2
      go_ret2
      exact ⟨⟨_, rfl, HR2.out⟩, hb⟩

end Go.Proofs.Ytjpnbcfdnolcjaa
