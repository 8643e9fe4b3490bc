/-
  The mean of the squares of differences to the mean: the program and the model.
-/
import Derived.Test.YtjpnbcfdnolcjaaAdL
import Derived.Test.YtjpnbcfdnolcjaaDtL
namespace Go.Proofs.Ytjpnbcfdnolcjaa
open Go.ChangeShapes Go.WideShapes Go.ChangeAt Go.RowKit Go.Deep Go.Joins

attribute [local go_sem] run_store_f

theorem offS_get {zs : List Nat} {j x : Nat} (h : zs[j]? = some x) : (offS zs)[j]? = some (fsub x (meanS zs)) := by simp [offS, h]
theorem offS_len (zs : List Nat) : (offS zs).length = zs.length := by simp [offS]
theorem off_inv {zs : List Nat} {j y : Nat} (h : (offS zs)[j]? = some y) : ∃ x, zs[j]? = some x ∧ y = fsub x (meanS zs) := by
  simp only [offS, List.getElem?_map, Option.map_eq_some_iff] at h
  obtain ⟨x, h1, h2⟩ := h
  exact ⟨x, h1, h2.symm⟩
set_option maxRecDepth 100000 in
set_option maxHeartbeats 1000000 in
theorem iSquareOff_no (sv : Value) (zs : List Nat) (c : Int) (hcd : codeLs zs 1 = c) (hne : c ≠ 0) (w : World) (hz : FloatsAt w sv zs) :
    Calls Try.prog 35 #[sv] w fun e w' => e = .returned (.tuple #[.float .f32 0, .int .i64 c]) ∧ w = w' := by
  have HC := Lib.hid (checkSome_any sv zs w hz)
  rw [hcd] at HC
  have z0 : (c == 0) = false := beq_eq_false_iff_ne.2 hne
  have z1 : (c != 0) = true := bne_iff_ne.2 hne
  clear hcd hz
  go_enter Try.func35, Try.ntmps35
  go_wp2_with (go_at_call 63; refine HC.out.mono ?_; rintro e w' ⟨rfl, rfl⟩)
  go_ret2
  exact ⟨rfl, rfl⟩
set_option maxRecDepth 100000 in
set_option maxHeartbeats 1000000 in
theorem sSquareOff_no (sv : Value) (zs : List Nat) (c : Int) (hcd : codeLs zs 1 = c) (hne : c ≠ 0) (w : World) (hz : FloatsAt w sv zs) :
    Calls Try.prog 34 #[sv] w fun e w' => e = .returned (.tuple #[.float .f32 0, .int .i64 c]) ∧ w = w' := by
  have HC := Lib.hid ((fun sv zs w hz => l06Code_any sv zs 1 w hz) sv zs w hz)
  rw [hcd] at HC
  have z0 : (c == 0) = false := beq_eq_false_iff_ne.2 hne
  have z1 : (c != 0) = true := bne_iff_ne.2 hne
  clear hcd hz
  go_enter Try.func34, Try.ntmps34
  go_wp2_with (go_at_call 61; refine HC.out.mono ?_; rintro e w' ⟨rfl, rfl⟩)
  go_ret2
  exact ⟨rfl, rfl⟩
set_option maxRecDepth 100000 in
set_option maxHeartbeats 4000000 in
theorem iSquareOff_yes (sv : Value) (zs : List Nat) (hcd : codeLs zs 1 = 0) (hwf : ∀ z ∈ zs, (Lit.float .f32 z).wf = true) (w : World) (hz : FloatsAt w sv zs) :
    Calls Try.prog 35 #[sv] w fun e w' => e = .returned (.tuple #[.float .f32 (sqoS zs), .int .i64 0]) ∧ Below w.heap.size w w' := by
  have HC := Lib.hid (checkSome_any sv zs w hz)
  obtain ⟨h1, h48, hq⟩ := codeLs_zero hwf hcd
  rw [hcd] at HC
  have HM := Lib.hid (meanOf_any sv zs hq h1 h48 w hz)
  have rq := fun T w => run_float_arith (P := Try.prog) w .quo T .f32 _ _ _ (sqo_ok hq h1 h48).1
  have HS := Lib.hid (fun x (hx : x ∈ zs) => (off_ok (hq x hx) (mean_ok hq h1 h48).2).1)
  have HD := Lib.hid (fun (v : Value) (W : World) (hv : FloatsAt W v (offS zs)) => dotOf_any offD (by decide) (by decide +kernel) capD_off v v (offS zs) (offS zs) (offS_ok hq h1 h48) (offS_ok hq h1 h48) (by rw [offS_len]; exact h48) rfl W hv hv)
  rw [offS_len] at HD
  have HW := Lib.hid hz
  obtain ⟨a, cap, rfl, hl, hm, _⟩ := hz
  unfold maxLen at hm
  have HL := Lib.hid (offS_len zs)
  have HG := Lib.hid (fun j x => offS_get (zs := zs) (j := j) (x := x))
  have HI := Lib.hid (fun j y => off_inv (zs := zs) (j := j) (y := y))
  generalize offS zs = os at *
  generalize meanS zs = mean at *
  generalize dotK os os zs.length = dt at *
  generalize sqoS zs = sq at *
  generalize hn : zs.length = n at *
  have HN := Lib.hid hn
  have hmk := fun w => make_floats n (by omega) w
  have z10 : (1 : Int) ≤ (n : Int) := by omega
  clear hn hq hcd hwf
  go_enter Try.func35, Try.ntmps35
  go_wp2_with (first | (go_at_call 63; refine HC.out.mono ?_; rintro e w' ⟨rfl, rfl⟩) | (go_at_call 64; refine HM.out.mono ?_; rintro e w' ⟨rfl, rfl⟩))
  clear HC HM
  go_loopw [21] (fun i wr => ∃ k : Nat, k ≤ n ∧ i = .int .i64 k ∧ Below w.heap.size w wr ∧ ∃ cur : Array Value, wr.heap[w.heap.size]? = some (.cells cur 26 (0, 0)) ∧ cur.size = n ∧ ∀ j x, j < k → os[j]? = some x → cur[j]? = some (.float .f32 x)) (fun i _ => n - (intOf i).toNat)
  case atStart => exact ⟨0, Nat.zero_le _, rfl, (Below.refl _ _).alloc (Nat.le_refl _) _, _, heap_alloc_new _ _, size_madeCells _ _, fun j x hj => by omega⟩
  case round =>
    clear hmk
    obtain ⟨k, hk, rfl, hb, cur, hg, hs, hp⟩ := hrel
    have HP := Lib.hid hp
    have HG2 := Lib.hid hg
    by_cases hlt : k < n
    · have hx : zs[k]? = some (zs[k]'(by rw [HN.out]; exact hlt)) := List.getElem?_eq_getElem _
      obtain ⟨g, o, rfl, hc⟩ := float_at (floats_below HW.out hb) hx
      generalize (zs[k]'(by rw [HN.out]; exact hlt)) = x at *
      have rs := fun T w => run_float_arith (P := Try.prog) w .sub T .f32 _ _ _ (HS.out x (List.mem_of_getElem? hx))
      have HX := Lib.hid (HG.out k x hx)
      have q1 : wr.cell? ⟨w.heap.size, k, none⟩ = some (cur[k]'(by omega)) := by rw [cell_of_row wr _ _ _ _ _ hg]; exact Array.getElem?_eq_getElem (by omega)
      have q2 := frozen_of_row wr w.heap.size k _ _ hg
      have z1 : (k : Int) < (n : Int) := by omega
      have z2 : (0 : Int) ≤ (k : Int) := by omega
      clear hp hg hx rq
      go_wp2
      go_roundw
      case rel =>
        refine ⟨k + 1, by omega, by go_num, hb.setCell (p := ⟨w.heap.size, k, none⟩) (Nat.le_refl _) _, cur.setIfInBounds k (.float .f32 (fsub x mean)), heap_setCell_same _ _ _ _ _ _ HG2.out, by simpa using hs, fun j y hj hy => ?_⟩
        rw [Array.getElem?_setIfInBounds]
        by_cases e : k = j
        · subst e
          rw [HX.out] at hy
          obtain rfl := Option.some.inj hy
          rw [if_pos rfl, if_pos (by omega)]
        · rw [if_neg e]; exact HP.out j y (by omega) hy
      case measure => simp [intOf]; omega
    · obtain rfl : k = n := by omega
      have HR : Hid (FloatsAt wr (.slice (some ⟨w.heap.size, 0, none⟩) k k) os) := by
        refine ⟨_, k, by rw [HL.out], by rw [HL.out]; exact Nat.le_refl _, by unfold maxLen; omega, fun j x hx => ⟨w.heap.size, 0, rfl, ?_⟩⟩
        have hj := (List.getElem?_eq_some_iff.1 hx).1
        rw [Nat.zero_add, cell_of_row wr _ _ _ _ _ HG2.out]
        exact HP.out j x (by have := HL.out; omega) hx
      clear hp hg
      go_wp2_with (go_at_call 68; refine (HD.out _ _ HR.out).mono ?_; rintro e w1 ⟨rfl, hb1⟩; replace hb := hb.trans (hb1.mono hb.size); clear hb1)
      go_ret2
      exact ⟨rfl, hb⟩
set_option maxRecDepth 100000 in
set_option maxHeartbeats 4000000 in
theorem sSquareOff_yes (sv : Value) (zs : List Nat) (hcd : codeLs zs 1 = 0) (hwf : ∀ z ∈ zs, (Lit.float .f32 z).wf = true) (w : World) (hz : FloatsAt w sv zs) :
    Calls Try.prog 34 #[sv] w fun e w' => e = .returned (.tuple #[.float .f32 (sqoS zs), .int .i64 0]) ∧ w = w' := by
  have HC := Lib.hid (l06Code_any sv zs 1 w hz)
  obtain ⟨h1, h48, hq⟩ := codeLs_zero hwf hcd
  rw [hcd] at HC
  have HM := Lib.hid (l06Mean_any sv zs hq h1 h48 w hz)
  have rq := fun T w => run_float_arith (P := Try.prog) w .quo T .f32 _ _ _ (sqo_ok hq h1 h48).1
  have HS := Lib.hid (fun x (hx : x ∈ zs) => (off_ok (hq x hx) (mean_ok hq h1 h48).2).1)
  have HT := Lib.hid (fun k x y => dot_step (k := k) (x := x) (y := y) (D := offD) (by decide) (by decide +kernel) capD_off (offS_ok hq h1 h48) (offS_ok hq h1 h48) (by rw [offS_len]; exact h48) rfl)
  have HW := Lib.hid hz
  obtain ⟨a, cap, rfl, hl, hm, _⟩ := hz
  unfold maxLen at hm
  have HG := Lib.hid (fun j x => offS_get (zs := zs) (j := j) (x := x))
  generalize offS zs = os at *
  generalize meanS zs = mean at *
  generalize sqoS zs = sq at *
  generalize hn : zs.length = n at *
  have HN := Lib.hid hn
  have z10 : (1 : Int) ≤ (n : Int) := by omega
  clear hn hq hcd hwf
  go_enter Try.func34, Try.ntmps34
  go_wp2_with (first | (go_at_call 61; refine HC.out.mono ?_; rintro e w' ⟨rfl, rfl⟩) | (go_at_call 62; refine HM.out.mono ?_; rintro e w' ⟨rfl, rfl⟩))
  clear HC HM
  go_loopw [6, 7] (fun s i wr => ∃ k : Nat, k ≤ n ∧ i = .int .i64 k ∧ s = .float .f32 (dotK os os k) ∧ wr = w) (fun _ i _ => n - (intOf i).toNat)
  case atStart => exact ⟨0, Nat.zero_le _, rfl, rfl, rfl⟩
  case round =>
    obtain ⟨k, hk, rfl, rfl, rfl⟩ := hrel
    by_cases hlt : k < n
    · have hx : zs[k]? = some (zs[k]'(by rw [HN.out]; exact hlt)) := List.getElem?_eq_getElem _
      obtain ⟨g, o, rfl, hc⟩ := float_at HW.out hx
      generalize (zs[k]'(by rw [HN.out]; exact hlt)) = x at *
      have z1 : (k : Int) < (n : Int) := by omega
      have z2 : (0 : Int) ≤ (k : Int) := by omega
      have z3 : decide ((k : Int) < (n : Int)) = true := decide_eq_true z1
      have rs := fun T w => run_float_arith (P := Try.prog) w .sub T .f32 _ _ _ (HS.out x (List.mem_of_getElem? hx))
      obtain ⟨d1, d2⟩ := HT.out k _ _ (HG.out k x hx) (HG.out k x hx)
      have rm := fun T w => run_float_arith (P := Try.prog) w .mul T .f32 _ _ _ d1
      have ra := fun T w => run_float_arith (P := Try.prog) w .add T .f32 _ _ _ d2
      clear hx d1 d2 rq
      go_wp2
      go_roundw
      case rel => exact ⟨k + 1, by omega, by go_num, by trivial, by trivial⟩
      case measure => simp [intOf]; omega
    · obtain rfl : k = n := by omega
      go_wp2
      go_ret2
      exact ⟨rfl, rfl⟩

end Go.Proofs.Ytjpnbcfdnolcjaa
