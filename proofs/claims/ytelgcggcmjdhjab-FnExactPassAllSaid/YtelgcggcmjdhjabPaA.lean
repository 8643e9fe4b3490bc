/-
  Lists of whole numbers that came in: how the laws' helpers copy them; which of them are heights.
-/
import Derived.Test.YtelgcggcmjdhjabIntA
import Derived.Test.YtelgcggcmjdhjabGenL
import Derived.Test.YtelgcggcmjdhjabMarkF
import Derived.Test.YtelgcggcmjdhjabListF
import Derived.Test.YtelgcggcmjdhjabListLaw
import Derived.Test.YtelgcggcmjdhjabBok
import Derived.Test.YtelgcggcmjdhjabBhd
import Derived.Test.YtelgcggcmjdhjabPasser
import Derived.Deep.OwnRows
namespace Go.Proofs.Ytelgcggcmjdhjab
open Go.ChangeShapes Go.WideShapes Go.ChangeAt Go.RowKit Go.Deep Go.Joins

attribute [local go_sem] run_store_f

theorem int_at {W : World} {a : Option Addr} {n cap : Nat} {zs : List Int} (h : IntsAt W (.slice a n cap) zs) {k : Nat} {x : Int} (hx : zs[k]? = some x) :
    ∃ g o, a = some ⟨g, o, none⟩ ∧ W.cell? ⟨g, o + k, none⟩ = some (.int .i64 x) := by
  obtain ⟨a', cap', e, _, _, h4⟩ := h
  injection e with e1 e2 e3
  subst e1
  exact h4 k x hx
theorem own_ints {w : World} {b : Nat} {v : Value} {zs : List Int} (h : Own w b 2 (Value.int .i64) v zs) : IntsAt w v zs := by
  obtain ⟨a, cap, rfl, h2, h3, h4⟩ := h
  refine ⟨a, cap, rfl, h3, h2, fun i x hx => ?_⟩
  rcases h4 with ⟨rfl, rfl⟩ | ⟨g, cur, rfl, hg, hc, hk⟩
  · simp at hx
  · have hi := (List.getElem?_eq_some_iff.1 hx).1
    exact ⟨g, 0, rfl, by rw [Nat.zero_add, cell_of_row w _ _ _ _ _ hc, hk i hi, hx]; rfl⟩
theorem info_i64 : (Try.prog.info? 2).map (fun i => (i.zero, i.size, i.bytes)) = some (some (.int .i64 0), 1, 8) := by kernel_rfl
theorem make_ints (n : Nat) (hn : n ≤ 1048576) (w : World) : (Instr.makeSlice 52 (.int .i64 (n : Int)) (.int .i64 (n : Int))).run Try.prog w = .ok (.slice (some ⟨w.heap.size, 0, none⟩) n n) (w.alloc (.cells (madeCells #[.int .i64 0] n) 2)) := by
  obtain ⟨i0, hi, hz0, hz1, hz2⟩ := info_parts info_i64
  have h := run_make (P := Try.prog) w 52 2 i0 _ Try.underlying52 hi hz0 .i64 .i64 (n : Int) (n : Int) (by omega) (Int.le_refl _) (by rw [hz2]; omega) (by omega)
  rw [hz1] at h
  simpa [Value.cells] using h
theorem info_f32 : (Try.prog.info? 22).map (fun i => (i.zero, i.size, i.bytes)) = some (some (.float .f32 0), 1, 4) := by kernel_rfl
theorem make_floats (n : Nat) (hn : n ≤ 1048576) (w : World) : (Instr.makeSlice 34 (.int .i64 (n : Int)) (.int .i64 (n : Int))).run Try.prog w = .ok (.slice (some ⟨w.heap.size, 0, none⟩) n n) (w.alloc (.cells (madeCells #[.float .f32 0] n) 22)) := by
  obtain ⟨i0, hi, hz0, hz1, hz2⟩ := info_parts info_f32
  have h := run_make (P := Try.prog) w 34 22 i0 _ Try.underlying34 hi hz0 .i64 .i64 (n : Int) (n : Int) (by omega) (Int.le_refl _) (by rw [hz2]; omega) (by omega)
  rw [hz1] at h
  simpa [Value.cells] using h

set_option maxRecDepth 100000 in
set_option maxHeartbeats 1000000 in
theorem toInt64S_own (sv : Value) (zs : List Int) (hlen : zs.length ≤ 1048576) (w : World) (hzs : IntsAt w sv zs) :
    Calls Try.prog 35 #[sv] w fun e w' => (∃ v, e = .returned v ∧ Own w' w.heap.size 2 (Value.int .i64) v zs) ∧ Below w.heap.size w w' := by
  have HW := Lib.hid hzs
  obtain ⟨a, cap, rfl, hl1, hl2, _⟩ := hzs
  unfold maxLen at hl2
  generalize hn : zs.length = n at *
  have HN := Lib.hid hn
  have hmk := fun w => make_ints n hlen w
  clear hn
  go_enter Try.func35, Try.ntmps35
  go_wp2
  go_loopw [4] (fun i wr => ∃ k : Nat, k ≤ n ∧ i = .int .i64 k ∧ Below w.heap.size w wr ∧ ∃ cur : Array Value, wr.heap[w.heap.size]? = some (.cells cur 2 (0, 0)) ∧ cur.size = n ∧ ∀ j x, j < k → zs[j]? = some x → cur[j]? = some (.int .i64 x)) (fun i _ => n - (intOf i).toNat)
  case atStart => exact ⟨0, Nat.zero_le _, rfl, (Below.refl _ _).alloc (Nat.le_refl _) _, _, heap_alloc_new _ _, size_madeCells _ _, fun j x hj => by omega⟩
  case round =>
    clear hmk
    obtain ⟨k, hk, rfl, hb, cur, hg, hs, hp⟩ := hrel
    have HP := Lib.hid hp
    have HG := Lib.hid hg
    by_cases hlt : k < n
    · have hx : zs[k]? = some (zs[k]'(by rw [HN.out]; exact hlt)) := List.getElem?_eq_getElem _
      obtain ⟨g, o, rfl, hc⟩ := int_at (ints_below HW.out hb) hx
      generalize (zs[k]'(by rw [HN.out]; exact hlt)) = x at *
      have HX := Lib.hid hx
      have q1 : wr.cell? ⟨w.heap.size, k, none⟩ = some (cur[k]'(by omega)) := by rw [cell_of_row wr _ _ _ _ _ hg]; exact Array.getElem?_eq_getElem (by omega)
      have q2 := frozen_of_row wr w.heap.size k _ _ hg
      have z1 : (k : Int) < (n : Int) := by omega
      have z2 : (0 : Int) ≤ (k : Int) := by omega
      clear hp hg hx
      go_wp2
      go_roundw
      case rel =>
        refine ⟨k + 1, by omega, by go_num, hb.setCell (p := ⟨w.heap.size, k, none⟩) (Nat.le_refl _) _, cur.setIfInBounds k (.int .i64 x), heap_setCell_same _ _ _ _ _ _ HG.out, by simpa using hs, fun j y hj hy => ?_⟩
        rw [Array.getElem?_setIfInBounds]
        by_cases e : k = j
        · subst e
          rw [HX.out] at hy
          obtain rfl := Option.some.inj hy
          rw [if_pos rfl, if_pos (by omega)]
        · rw [if_neg e]; exact HP.out j y (by omega) hy
      case measure => simp [intOf]; omega
    · obtain rfl : k = n := by omega
      have HR : Hid (Own wr w.heap.size 2 (Value.int .i64) (.slice (some ⟨w.heap.size, 0, none⟩) k k) zs) := by
        refine ⟨_, k, by rw [HN.out], by unfold maxLen; omega, by rw [HN.out]; exact Nat.le_refl _, .inr ⟨w.heap.size, cur, rfl, Nat.le_refl _, HG.out, fun j hj => ?_⟩⟩
        rw [List.getElem?_eq_getElem hj]
        exact HP.out j _ (by have := HN.out; omega) (List.getElem?_eq_getElem hj)
      clear hp hg
      go_wp2
      go_ret
      exact ⟨⟨_, rfl, HR.out⟩, hb⟩

/-- A number is a height. -/
def okH (x : Int) : Bool := inI 1 64 x
theorem all_badH {zs : List Int} {k : Nat} {x : Int} (h : zs[k]? = some x) (hf : okH x = false) : zs.all okH = false := by
  rw [Bool.eq_false_iff]
  intro ha
  have := List.all_eq_true.1 ha x (List.mem_of_getElem? h)
  rw [hf] at this; cases this
theorem badH_any (x : Int) (r : Bool) (hr : okH x = r) (w : World) : Calls Try.prog 59 #[.int .i64 x] w fun e w' => e = .returned (.bool (!r)) ∧ w = w' := by
  go_enter Try.func59, Try.ntmps59
  go_wp2_with (go_at_call 52; refine (isHeight_is x r hr _).mono ?_; rintro e w' ⟨rfl, rfl⟩)
  go_ret
  exact ⟨rfl, rfl⟩
theorem ret_boolP {a b : Bool} (h : a = b) : Ending.returned (.bool a) = .returned (.bool b) := by rw [h]
def FoundH (zs : List Int) (w : World) (e : Ending) (w' : World) : Prop := ∃ r : Int, e = .returned (.int .i64 r) ∧ decide (0 ≤ r) = !zs.all okH ∧ w = w'
set_option maxRecDepth 100000 in
set_option maxHeartbeats 1000000 in
theorem indexH_any (sv : Value) (zs : List Int) (w : World) (hzs : IntsAt w sv zs) :
    Calls Try.prog 86 #[sv, .func (.func 59) #[] #[]] w fun e w' => FoundH zs w e w' := by
  have hzs' := hzs
  obtain ⟨a, cap, rfl, hl1, hl2, _⟩ := hzs'
  have HW := Lib.hid hzs
  clear hzs
  unfold maxLen at hl2
  generalize hn : zs.length = n at *
  have HN := Lib.hid hn
  clear hn
  go_enter Try.func86, Try.ntmps86
  go_wp2
  go_loopw [8] (fun i wr => ∃ k : Nat, k ≤ n ∧ i = .int .i64 k ∧ w = wr ∧ (zs.take k).all okH = true) (fun i _ => n - (intOf i).toNat)
  case atStart => exact ⟨0, Nat.zero_le _, rfl, rfl, rfl⟩
  case round =>
    obtain ⟨k, hk, rfl, rfl, hall⟩ := hrel
    have HA := Lib.hid hall
    clear hall
    by_cases hlt : k < n
    · have hx : zs[k]? = some (zs[k]'(by rw [HN.out]; exact hlt)) := List.getElem?_eq_getElem _
      obtain ⟨g, o, rfl, hc⟩ := int_at HW.out hx
      have HT : Hid (zs.take (k + 1) = zs.take k ++ [zs[k]'(by rw [HN.out]; exact hlt)]) := Lib.hid (by rw [List.take_succ_eq_append_getElem])
      generalize (zs[k]'(by rw [HN.out]; exact hlt)) = x at *
      have HD := Lib.hid hx
      have z1 : (k : Int) < (n : Int) := by omega
      have z2 : (0 : Int) ≤ (k : Int) := by omega
      clear hx
      cases hf : okH x with
      | true =>
        have HF := Lib.hid hf
        clear hf
        go_wp2_with (go_at_call 59; refine (badH_any x _ HF.out _).mono ?_; rintro e w1 ⟨rfl, rfl⟩)
        go_roundw
        case rel => exact ⟨k + 1, by omega, by go_num, by trivial, by rw [HT.out, List.all_append, HA.out]; simp [HF.out]⟩
        case measure => simp [intOf]; omega
      | false =>
        have HF := Lib.hid hf
        clear hf
        go_wp2_with (go_at_call 59; refine (badH_any x _ HF.out _).mono ?_; rintro e w1 ⟨rfl, rfl⟩)
        go_ret
        exact ⟨k, rfl, by rw [all_badH HD.out HF.out]; simp, rfl⟩
    · obtain rfl : k = n := by omega
      have hall := HA.out
      rw [List.take_of_length_le (by rw [HN.out]; exact Nat.le_refl _)] at hall
      have HL := Lib.hid hall
      clear hall
      go_wp2
      go_ret
      exact ⟨-1, rfl, by rw [HL.out]; rfl, rfl⟩
set_option maxRecDepth 100000 in
set_option maxHeartbeats 1000000 in
theorem containsH_any (sv : Value) (zs : List Int) (w : World) (hzs : IntsAt w sv zs) :
    Calls Try.prog 58 #[sv, .func (.func 59) #[] #[]] w fun e w' => e = .returned (.bool (!zs.all okH)) ∧ w = w' := by
  have HC := indexH_any sv zs w hzs
  clear hzs
  go_enter Try.func58, Try.ntmps58
  go_wp2_with (go_at_call 86; refine HC.mono ?_; rintro e w1 ⟨r, rfl, hd, rfl⟩)
  go_ret
  first | exact ⟨ret_boolP hd, rfl⟩ | exact ⟨rfl, rfl⟩
/-- The code of a blind and heights; what passes. -/
def codeP (okb : Bool) (zs : List Int) : Int := if okb = false then 1 else if 100 < zs.length then 3 else if zs.all okH = false then 2 else 0
def pasL (wd gp : Nat) (t : Int) (sh : Nat) (zs : List Int) : List Nat := zs.map (fun h => pasB wd gp t sh h)
theorem codeP_ok {okb : Bool} {zs : List Int} (h : codeP okb zs = 0) : okb = true ∧ zs.length ≤ 100 ∧ zs.all okH = true := by
  unfold codeP at h
  split at h
  · cases h
  · split at h
    · cases h
    · split at h
      · cases h
      · next a b c => exact ⟨by simpa using a, by omega, by simpa using c⟩
/-- A list of numbers and a code, the list being the call's own. -/
def RetF (xs : List Nat) (c : Int) (w : World) (e : Ending) (w' : World) : Prop := (∃ v, e = .returned (.tuple #[v, .int .i64 c]) ∧ Own w' w.heap.size 22 (Value.float .f32) v xs) ∧ Below w.heap.size w w'
theorem own_none (w : World) (b : Nat) : Own w b 22 (Value.float .f32) (.slice none 0 0) [] := ⟨none, 0, rfl, by unfold maxLen; omega, Nat.le_refl _, .inl ⟨rfl, rfl⟩⟩

end Go.Proofs.Ytelgcggcmjdhjab
