/-
  IntA, FwC, FwD, TaW, FwE.
-/
import Derived.Test.YtmniodfdoidffaaGreatDoorMz3
import Derived.Test.YtmniodfdoidffaaGreatDoorLaw
import Derived.Deep.Slices
import Derived.ChangeSlices
import Derived.ChangeShapes
import Derived.ChangeSame
import Derived.WalkSpells
import Derived.OwnWalk
import Derived.Laws.AppendOwn
import Derived.Maps.AppendAt
import Derived.Test.YtmniodfdoidffaaGreatDoorPnA
import Derived.Test.YtmniodfdoidffaaGreatDoorChW

namespace Go.Proofs.YtmniodfdoidffaaGreatDoor
open Go.ChangeShapes Go.WideShapes Go.ChangeAt Go.RowKit

/-- The numbers that a slice holds. -/
def IntsAt (W : World) (v : Value) (zs : List Int) : Prop :=
  ∃ a cap, v = .slice a zs.length cap ∧ zs.length ≤ cap ∧ cap ≤ maxLen ∧ ∀ i x, zs[i]? = some x → ∃ g o, a = some ⟨g, o, none⟩ ∧ W.cell? ⟨g, o + i, none⟩ = some (.int .i64 x)

theorem ints_below {W W' : World} {v : Value} {zs : List Int} (h : IntsAt W v zs) (hb : Below W.heap.size W W') : IntsAt W' v zs := by
  obtain ⟨a, cap, h1, h2, h3, h4⟩ := h
  refine ⟨a, cap, h1, h2, h3, fun i x hx => ?_⟩
  obtain ⟨g, o, e, c0⟩ := h4 i x hx
  exact ⟨g, o, e, (hb.cell (World.block_lt_of_cell? W _ c0)).trans c0⟩

set_option maxRecDepth 100000 in
theorem open_intS {H : Type} {enc : TypeId × Value → H} {W : World} {b0 base : Nat} {spare : Nat → Bool} {held : Bool} {r : Reach} {v : Value} {d : DataW H} {p : List MemPlace}
    (hv : Value.okWide Tryz.prog W r b0 50 v) (h : DataW.Trod enc Tryz.prog W base spare held 50 v d p) : ∃ zs, IntsAt W v zs ∧ ∀ z ∈ zs, (Lit.int .i64 z).wf = true := by
  obtain ⟨a0, len0, cap0, rfl⟩ := okWide_slice Tryz.underlying50 hv
  obtain ⟨fuel, hf⟩ := h
  rcases open_ints Tryz.underlying50 Tryz.underlying2 (by kernel_rfl) hf with ⟨hcs, _⟩ | ⟨a, len, cap, zs, hcs, _, hl, hm, hz, _, hcell, hwz⟩
  · simp [Value.cells] at hcs
    obtain ⟨rfl, rfl, rfl⟩ := hcs
    exact ⟨[], ⟨none, 0, rfl, Nat.le_refl _, by unfold maxLen; omega, fun i x hx => by simp at hx⟩, fun x hx => by cases hx⟩
  · simp [Value.cells] at hcs
    obtain ⟨rfl, rfl, rfl⟩ := hcs
    have hlz : len0 ≤ zs.length := by rw [hz]; split <;> omega
    have hlt : (zs.take len0).length = len0 := by simp; omega
    refine ⟨zs.take len0, ⟨some a, cap0, by rw [hlt], by omega, hm, fun i x hx => ?_⟩, fun x hx => hwz x (List.mem_of_mem_take hx)⟩
    have hi : i < len0 := by
      have := (List.getElem?_eq_some_iff.1 hx).1
      omega
    rw [List.getElem?_take_of_lt hi] at hx
    have hc := hcell i (by omega)
    have hx' : zs.getD i 0 = x := by simp [List.getD, hx]
    rw [hx'] at hc
    have hsp : a.spot = none := by
      have := World.cell?_spot (hcell 0 (by omega))
      simpa [Addr.add] using this
    obtain ⟨g, o, spot⟩ := a
    obtain rfl : spot = none := hsp
    rw [addr_add] at hc
    exact ⟨g, o, rfl, hc⟩

end Go.Proofs.YtmniodfdoidffaaGreatDoor

namespace Go.Proofs.YtmniodfdoidffaaGreatDoor
open Go.ChangeShapes Go.WideShapes Go.ChangeAt Go.RowKit Go.Deep Go.Joins

attribute [local go_sem] run_store_f

theorem int_atF {W : World} {a : Option Addr} {n cap : Nat} {zs : List Int} (h : IntsAt W (.slice a n cap) zs) {k : Nat} {x : Int} (hx : zs[k]? = some x) :
    ∃ g o, a = some ⟨g, o, none⟩ ∧ W.cell? ⟨g, o + k, none⟩ = some (.int .i64 x) := by
  obtain ⟨a', cap', e, _, _, h4⟩ := h
  injection e with e1 e2 e3
  subst e1
  exact h4 k x hx

theorem own_intsF {w : World} {b : Nat} {v : Value} {zs : List Int} (h : Own w b 2 (Value.int .i64) v zs) : IntsAt w v zs := by
  obtain ⟨a, cap, rfl, h2, h3, h4⟩ := h
  refine ⟨a, cap, rfl, h3, h2, fun i x hx => ?_⟩
  rcases h4 with ⟨rfl, rfl⟩ | ⟨g, cur, rfl, hg, hc, hk⟩
  · simp at hx
  · have hi := (List.getElem?_eq_some_iff.1 hx).1
    exact ⟨g, 0, rfl, by rw [Nat.zero_add, cell_of_row w _ _ _ _ _ hc, hk i hi, hx]; rfl⟩

theorem bothL_hit {xs ys : List Int} {k : Nat} {x : Int} (h : xs[k]? = some x) (hc : ys.contains x = true) : bothL (xs.take (k + 1)) ys = bothL (xs.take k) ys ++ [x] := by
  have hk := (List.getElem?_eq_some_iff.1 h).1
  unfold bothL
  rw [List.take_succ_eq_append_getElem hk, List.filter_append]
  have e : xs[k] = x := by rw [List.getElem?_eq_getElem hk] at h; exact Option.some.inj h
  rw [e, List.filter_cons_of_pos hc]
  rfl

theorem bothL_miss {xs ys : List Int} {k : Nat} {x : Int} (h : xs[k]? = some x) (hc : ys.contains x = false) : bothL (xs.take (k + 1)) ys = bothL (xs.take k) ys := by
  have hk := (List.getElem?_eq_some_iff.1 h).1
  unfold bothL
  rw [List.take_succ_eq_append_getElem hk, List.filter_append]
  have e : xs[k] = x := by rw [List.getElem?_eq_getElem hk] at h; exact Option.some.inj h
  rw [e, List.filter_cons_of_neg (by rw [hc]; decide), List.filter_nil, List.append_nil]

theorem bothL_len (xs ys : List Int) : (bothL xs ys).length ≤ xs.length := List.length_filter_le _ _

theorem contains_false_of {ys : List Int} {x : Int} (h : ∀ j, j < ys.length → ys[j]? ≠ some x) : ys.contains x = false := by
  rw [Bool.eq_false_iff]
  intro hc
  rw [List.contains_iff_mem] at hc
  obtain ⟨j, hj⟩ := List.mem_iff_getElem?.1 hc
  exact h j (List.getElem?_eq_some_iff.1 hj).1 hj

set_option maxRecDepth 100000 in
set_option maxHeartbeats 2000000 in
theorem indexI_any (sv : Value) (ys : List Int) (x : Int) (w : World) (hz : IntsAt w sv ys) :
    Calls Tryz.prog 77 #[sv, .int .i64 x] w fun e w' => ∃ r : Int, e = .returned (.int .i64 r) ∧ decide (0 ≤ r) = ys.contains x ∧ w = w' := by
  have HZ := Lib.hid hz
  obtain ⟨a, cap, rfl, hl1, hl2, _⟩ := hz
  unfold maxLen at hl2
  generalize hn : ys.length = n at *
  have HN := Lib.hid hn
  clear hn
  go_enter Tryz.func77, Tryz.ntmps77
  go_wp2
  go_loopw [8] (fun i wr => ∃ k : Nat, k ≤ n ∧ i = .int .i64 k ∧ w = wr ∧ ∀ j, j < k → ys[j]? ≠ some x) (fun i _ => n - (intOf i).toNat)
  case atStart => exact ⟨0, Nat.zero_le _, rfl, rfl, fun j hj => absurd hj (Nat.not_lt_zero j)⟩
  case round =>
    obtain ⟨k, hk, rfl, rfl, hno⟩ := hrel
    have HNO := Lib.hid hno
    clear hno
    by_cases hlt : k < n
    · have hx : ys[k]? = some (ys[k]'(by rw [HN.out]; exact hlt)) := List.getElem?_eq_getElem _
      obtain ⟨g, o, rfl, hc⟩ := int_atF HZ.out hx
      generalize (ys[k]'(by rw [HN.out]; exact hlt)) = y at *
      have HX := Lib.hid hx
      have z1 : (k : Int) < (n : Int) := by omega
      have z2 : (0 : Int) ≤ (k : Int) := by omega
      have z3 : decide ((k : Int) < (n : Int)) = true := decide_eq_true z1
      clear hx
      by_cases e : x = y
      · subst e
        have hy : (x == x) = true := by simp
        go_wp2
        go_ret
        exact ⟨(k : Int), rfl, by rw [decide_eq_true z2]; exact (List.contains_iff_mem.2 (List.mem_of_getElem? HX.out)).symm, rfl⟩
      · have hy : (x == y) = false := by simpa using e
        have E := Lib.hid e
        clear e
        go_wp2
        go_roundw
        case rel =>
          refine ⟨k + 1, by omega, by go_num, by trivial, fun j hj => ?_⟩
          by_cases ej : j = k
          · rw [ej, HX.out]; intro h; exact E.out (Option.some.inj h).symm
          · exact HNO.out j (by omega)
        case measure => simp [intOf]; omega
    · obtain rfl : k = n := by omega
      go_wp2
      go_ret
      exact ⟨-1, rfl, by rw [contains_false_of (fun j hj => HNO.out j (by rw [HN.out] at hj; exact hj))]; rfl, rfl⟩

set_option maxRecDepth 100000 in
set_option maxHeartbeats 1000000 in
theorem ret_boolF {b c : Bool} (h : b = c) : Ending.returned (.bool b) = .returned (.bool c) := by rw [h]

theorem containsI_is (sv : Value) (ys : List Int) (x : Int) (b : Bool) (hr : ys.contains x = b) (w : World) (hz : IntsAt w sv ys) :
    Calls Tryz.prog 61 #[sv, .int .i64 x] w fun e w' => e = .returned (.bool b) ∧ w = w' := by
  have HC : Calls Tryz.prog 77 #[sv, .int .i64 x] w fun e w' => ∃ r : Int, e = .returned (.int .i64 r) ∧ decide (0 ≤ r) = b ∧ w = w' := by rw [← hr]; exact indexI_any sv ys x w hz
  clear hz hr
  go_enter Tryz.func61, Tryz.ntmps61
  go_wp2_with (go_at_call 77; refine HC.mono ?_; rintro e w1 ⟨r, rfl, hd, rfl⟩)
  go_ret
  first | exact ⟨ret_boolF hd, rfl⟩ | exact ⟨rfl, rfl⟩

set_option maxRecDepth 100000 in
set_option maxHeartbeats 2000000 in
theorem l00Has_any (sv : Value) (ys : List Int) (x : Int) (r : Bool) (hr : ys.contains x = r) (w : World) (hz : IntsAt w sv ys) :
    Calls Tryz.prog 37 #[sv, .int .i64 x] w fun e w' => e = .returned (.bool r) ∧ w = w' := by
  have HZ := Lib.hid hz
  have HR := Lib.hid hr
  obtain ⟨a, cap, rfl, hl1, hl2, _⟩ := hz
  unfold maxLen at hl2
  generalize hn : ys.length = n at *
  have HN := Lib.hid hn
  clear hn hr
  go_enter Tryz.func37, Tryz.ntmps37
  go_wp2
  go_loopw [5] (fun i wr => ∃ k : Nat, k ≤ n ∧ i = .int .i64 k ∧ w = wr ∧ ∀ j, j < k → ys[j]? ≠ some x) (fun i _ => n - (intOf i).toNat)
  case atStart => exact ⟨0, Nat.zero_le _, rfl, rfl, fun j hj => absurd hj (Nat.not_lt_zero j)⟩
  case round =>
    obtain ⟨k, hk, rfl, rfl, hno⟩ := hrel
    have HNO := Lib.hid hno
    clear hno
    by_cases hlt : k < n
    · have hx : ys[k]? = some (ys[k]'(by rw [HN.out]; exact hlt)) := List.getElem?_eq_getElem _
      obtain ⟨g, o, rfl, hc⟩ := int_atF HZ.out hx
      generalize (ys[k]'(by rw [HN.out]; exact hlt)) = y at *
      have HX := Lib.hid hx
      have z1 : (k : Int) < (n : Int) := by omega
      have z2 : (0 : Int) ≤ (k : Int) := by omega
      clear hx
      by_cases e : y = x
      · subst e
        have hy : (y == y) = true := by simp
        have hr2 : r = true := HR.out.symm.trans (List.contains_iff_mem.2 (List.mem_of_getElem? HX.out))
        subst hr2
        go_wp2
        go_ret
        exact ⟨rfl, rfl⟩
      · have hy : (y == x) = false := by simpa using e
        have E := Lib.hid e
        clear e
        go_wp2
        go_roundw
        case rel =>
          refine ⟨k + 1, by omega, by go_num, by trivial, fun j hj => ?_⟩
          by_cases ej : j = k
          · rw [ej, HX.out]; intro h; exact E.out (Option.some.inj h)
          · exact HNO.out j (by omega)
        case measure => simp [intOf]; omega
    · obtain rfl : k = n := by omega
      have hr2 : r = false := HR.out.symm.trans (contains_false_of (fun j hj => HNO.out j (by rw [HN.out] at hj; exact hj)))
      subst hr2
      go_wp2
      go_ret
      exact ⟨rfl, rfl⟩

theorem infoI : (Tryz.prog.info? 2).map (fun i => (i.zero, i.size, i.bytes)) = some (some (.int .i64 0), 1, 8) := by kernel_rfl

theorem own_ofI {W : World} {base : Nat} {v : Value} {xs : List Int} (h : W.ownsRow base 2 1 v xs.length (xs.map (Value.int .i64))) (_ : xs.length ≤ maxLen) : Own W base 2 (Value.int .i64) v xs := own_of_row h (by assumption)

set_option maxRecDepth 100000 in
set_option maxHeartbeats 4000000 in
theorem common_any (v1 v2 : Value) (xs ys : List Int) (hlx : xs.length ≤ 1000) (w : World) (h1 : IntsAt w v1 xs) (h2 : IntsAt w v2 ys) :
    Calls Tryz.prog 43 #[v1, v2] w fun e w' => (∃ v, e = .returned v ∧ Own w' w.heap.size 2 (Value.int .i64) v (bothL xs ys)) ∧ Below w.heap.size w w' := by
  obtain ⟨i0, hin, hz0, hz1, hz2⟩ := info_parts infoI
  have HX := Lib.hid h1
  have HY := Lib.hid h2
  have HC := Lib.hid (fun y r hr w hz => containsI_is v2 ys y r hr w hz)
  have HBL := Lib.hid (fun k => Nat.le_trans (bothL_len (xs.take k) ys) (List.length_take_le k xs))
  obtain ⟨a1, c1, rfl, hl1, hm1, _⟩ := h1
  unfold maxLen at hm1
  generalize hn : xs.length = n at *
  have HN := Lib.hid hn
  clear hn
  go_enter Tryz.func43, Tryz.ntmps43
  go_wp2
  have hrow0 : (w).ownsRow w.heap.size 2 1 (.slice none 0 0) 0 [] := ⟨rfl, .inl ⟨rfl, rfl⟩⟩
  go_loopw [5, 10] (fun o i wr => ∃ (vo : Value) (k m : Nat), vo = o ∧ k ≤ n ∧ i = .int .i64 (k : Int) ∧ m = (bothL (xs.take k) ys).length ∧ m ≤ k ∧ wr.ownsRow w.heap.size 2 1 o m ((bothL (xs.take k) ys).map (Value.int .i64)) ∧ Below w.heap.size w wr) (fun _ i _ => n - (intOf i).toNat)
  case atStart => exact ⟨_, 0, 0, rfl, Nat.zero_le _, rfl, rfl, Nat.le_refl _, hrow0, Below.refl _ _⟩
  case round =>
    clear hrow0
    obtain ⟨vo, k, m, rfl, hk, rfl, hm, hmk, hrow, hb⟩ := hrel
    by_cases hlt : k < n
    · have hx : xs[k]? = some (xs[k]'(by rw [HN.out]; exact hlt)) := List.getElem?_eq_getElem _
      obtain ⟨g, o, rfl, hc⟩ := int_atF (ints_below HX.out hb) hx
      generalize (xs[k]'(by rw [HN.out]; exact hlt)) = y at *
      have z1 : (k : Int) < (n : Int) := by omega
      have z2 : (0 : Int) ≤ (k : Int) := by omega
      have z3 : decide ((k : Int) < (n : Int)) = true := decide_eq_true z1
      have hsz3 := hb.size
      cases hcc : ys.contains y with
      | true =>
        have HT := Lib.hid (bothL_hit hx hcc)
        have HCY := Lib.hid (HC.out y true hcc wr (ints_below HY.out hb))
        clear hx hcc
        go_wp2_with (first | (go_at_call 61; refine (HCY.out).mono ?_; rintro e w' ⟨rfl, rfl⟩) | (at_builtin; refine wpList_append_own _ rfl _ _ 50 rfl w.heap.size 2 i0 (.int .i64 0) 1 8 Tryz.underlying50 hin hz0 hz1 hz2 rfl (by decide) _ _ _ rfl (hrow.alloc _) ⟨wr.heap.size, 0, none⟩ 1 1 [.int .i64 y] rfl rfl (cell_one_new _ _ _) (by simp [Value.oneCell']) (by unfold maxLen; omega) (by omega) (by simp; omega) ?_; intro v' w1 hown' hgrow _))
        go_roundw
        case rel => exact ⟨_, k + 1, m + 1, rfl, by omega, by first | (simp; done) | (simp; omega), by rw [HT.out, List.length_append, List.length_singleton, ← hm], by omega, by rw [HT.out]; simpa using hown', (hb.alloc (by omega) _).grown hgrow (by simp; omega) (row_baseQ hrow)⟩
        case measure => simp [intOf]; omega
      | false =>
        have HT := Lib.hid (bothL_miss hx hcc)
        have HCY := Lib.hid (HC.out y false hcc wr (ints_below HY.out hb))
        clear hx hcc
        go_wp2_with (go_at_call 61; refine (HCY.out).mono ?_; rintro e w' ⟨rfl, rfl⟩)
        go_roundw
        case rel => exact ⟨_, k + 1, m, rfl, by omega, by first | (simp; done) | (simp; omega), by rw [HT.out]; exact hm, by omega, by rw [HT.out]; exact hrow, hb⟩
        case measure => simp [intOf]; omega
    · obtain rfl : k = n := by omega
      rw [List.take_of_length_le (by rw [HN.out]; exact Nat.le_refl _)] at hrow hm
      have HR : Hid (Own wr w.heap.size 2 (Value.int .i64) vo (bothL xs ys)) := own_ofI (by rw [← hm]; exact hrow) (by rw [← hm]; unfold maxLen; omega)
      clear hrow
      go_wp2
      go_ret
      exact ⟨⟨_, rfl, HR.out⟩, hb⟩

set_option maxRecDepth 100000 in
set_option maxHeartbeats 4000000 in
theorem l07Both_any (v1 v2 : Value) (xs ys : List Int) (hlx : xs.length ≤ 1000) (w : World) (h1 : IntsAt w v1 xs) (h2 : IntsAt w v2 ys) :
    Calls Tryz.prog 17 #[v1, v2] w fun e w' => (∃ v, e = .returned v ∧ Own w' w.heap.size 2 (Value.int .i64) v (bothL xs ys)) ∧ Below w.heap.size w w' := by
  obtain ⟨i0, hin, hz0, hz1, hz2⟩ := info_parts infoI
  have HX := Lib.hid h1
  have HY := Lib.hid h2
  have HC := Lib.hid (fun y r hr w hz => l00Has_any v2 ys y r hr w hz)
  have HBL := Lib.hid (fun k => Nat.le_trans (bothL_len (xs.take k) ys) (List.length_take_le k xs))
  obtain ⟨a1, c1, rfl, hl1, hm1, _⟩ := h1
  unfold maxLen at hm1
  generalize hn : xs.length = n at *
  have HN := Lib.hid hn
  clear hn
  go_enter Tryz.func17, Tryz.ntmps17
  go_wp2
  have hrow0 : (w.alloc (.cells #[] 2)).ownsRow w.heap.size 2 1 (.slice (some ⟨w.heap.size, 0, none⟩) 0 0) 0 [] := World.ownsRow_made _ _ _ (Nat.le_refl _) (Nat.zero_le _) rfl
  go_loopw [5, 6] (fun o i wr => ∃ (vo : Value) (k m : Nat), vo = o ∧ k ≤ n ∧ i = .int .i64 (k : Int) ∧ m = (bothL (xs.take k) ys).length ∧ m ≤ k ∧ wr.ownsRow w.heap.size 2 1 o m ((bothL (xs.take k) ys).map (Value.int .i64)) ∧ Below w.heap.size w wr) (fun _ i _ => n - (intOf i).toNat)
  case atStart => exact ⟨_, 0, 0, rfl, Nat.zero_le _, rfl, rfl, Nat.le_refl _, hrow0, (Below.refl _ _).alloc (Nat.le_refl _) _⟩
  case round =>
    clear hrow0
    obtain ⟨vo, k, m, rfl, hk, rfl, hm, hmk, hrow, hb⟩ := hrel
    by_cases hlt : k < n
    · have hx : xs[k]? = some (xs[k]'(by rw [HN.out]; exact hlt)) := List.getElem?_eq_getElem _
      obtain ⟨g, o, rfl, hc⟩ := int_atF (ints_below HX.out hb) hx
      generalize (xs[k]'(by rw [HN.out]; exact hlt)) = y at *
      have z1 : (k : Int) < (n : Int) := by omega
      have z2 : (0 : Int) ≤ (k : Int) := by omega
      have z3 : decide ((k : Int) < (n : Int)) = true := decide_eq_true z1
      have hsz3 := hb.size
      cases hcc : ys.contains y with
      | true =>
        have HT := Lib.hid (bothL_hit hx hcc)
        have HCY := Lib.hid (HC.out y true hcc wr (ints_below HY.out hb))
        clear hx hcc
        go_wp2_with (first | (go_at_call 37; refine (HCY.out).mono ?_; rintro e w' ⟨rfl, rfl⟩) | (at_builtin; refine wpList_append_own _ rfl _ _ 50 rfl w.heap.size 2 i0 (.int .i64 0) 1 8 Tryz.underlying50 hin hz0 hz1 hz2 rfl (by decide) _ _ _ rfl (hrow.alloc _) ⟨wr.heap.size, 0, none⟩ 1 1 [.int .i64 y] rfl rfl (cell_one_new _ _ _) (by simp [Value.oneCell']) (by unfold maxLen; omega) (by omega) (by simp; omega) ?_; intro v' w1 hown' hgrow _))
        go_roundw
        case rel => exact ⟨_, k + 1, m + 1, rfl, by omega, by first | (simp; done) | (simp; omega), by rw [HT.out, List.length_append, List.length_singleton, ← hm], by omega, by rw [HT.out]; simpa using hown', (hb.alloc (by omega) _).grown hgrow (by simp; omega) (row_baseQ hrow)⟩
        case measure => simp [intOf]; omega
      | false =>
        have HT := Lib.hid (bothL_miss hx hcc)
        have HCY := Lib.hid (HC.out y false hcc wr (ints_below HY.out hb))
        clear hx hcc
        go_wp2_with (go_at_call 37; refine (HCY.out).mono ?_; rintro e w' ⟨rfl, rfl⟩)
        go_roundw
        case rel => exact ⟨_, k + 1, m, rfl, by omega, by first | (simp; done) | (simp; omega), by rw [HT.out]; exact hm, by omega, by rw [HT.out]; exact hrow, hb⟩
        case measure => simp [intOf]; omega
    · obtain rfl : k = n := by omega
      rw [List.take_of_length_le (by rw [HN.out]; exact Nat.le_refl _)] at hrow hm
      have HR : Hid (Own wr w.heap.size 2 (Value.int .i64) vo (bothL xs ys)) := own_ofI (by rw [← hm]; exact hrow) (by rw [← hm]; unfold maxLen; omega)
      clear hrow
      go_wp2
      go_ret
      exact ⟨⟨_, rfl, HR.out⟩, hb⟩

end Go.Proofs.YtmniodfdoidffaaGreatDoor

namespace Go.Proofs.YtmniodfdoidffaaGreatDoor
open Go.ChangeShapes Go.WideShapes Go.ChangeAt Go.RowKit Go.Deep Go.Joins

attribute [local go_sem] run_store_f

set_option maxRecDepth 100000 in
theorem size_sl (w : World) : (sizeOf 50).run Tryz.prog w = .ok 1 w := by kernel_rfl

set_option maxRecDepth 100000 in
theorem agg_sl (w : World) : (isAgg 50).run Tryz.prog w = .ok false w := by kernel_rfl

theorem part_sl (zs : Array Value) (i : Nat) (v : Value) (h : zs[i]? = some v) (w : World) : (part 50 zs i).run Tryz.prog w = .ok v w := by
  unfold part
  rw [Sem.run_bind, agg_sl]
  simp only [Result.andThen_ok, Bool.false_eq_true, if_false, h]
  rfl

theorem run_index_59 (zs : Array Value) (k : Nat) (hk : k < 24) (v : Value) (h : zs[k]? = some v) (w : World) : (Instr.index 59 (.agg zs) (.int .i64 (k : Int))).run Tryz.prog w = .ok v w := by
  have h0 : (0 : Int) ≤ (k : Int) ∧ (k : Int) < ((24 : Nat) : Int) := ⟨Int.natCast_nonneg _, by omega⟩
  unfold Instr.index
  simp only [asIntOf, Sem.run_bind, Sem.run_pure, Result.andThen_ok, run_underlying Tryz.underlying59, if_pos h0, size_sl, Int.toNat_natCast, Nat.mul_one]
  exact part_sl zs k v h w

/-- A list of numbers that does not lie in a block. -/
def IntsNe (W : World) (b : Nat) (v : Value) (zs : List Int) : Prop := IntsAt W v zs ∧ ∀ g o n c, v = .slice (some ⟨g, o, none⟩) n c → g ≠ b

theorem intsNe_below {W W' : World} {b : Nat} {v : Value} {zs : List Int} (h : IntsNe W b v zs) (hb : Below W.heap.size W W') : IntsNe W' b v zs := ⟨ints_below h.1 hb, h.2⟩

theorem intsNe_setCell {W : World} {b i : Nat} {v x : Value} {zs : List Int} (h : IntsNe W b v zs) : IntsNe (W.setCell ⟨b, i, none⟩ x) b v zs := by
  obtain ⟨⟨a, cap, rfl, h2, h3, h4⟩, h5⟩ := h
  refine ⟨⟨a, cap, rfl, h2, h3, fun k y hy => ?_⟩, h5⟩
  obtain ⟨g, o, e, hc⟩ := h4 k y hy
  refine ⟨g, o, e, ?_⟩
  rw [World.cell?_setCell_far _ _ _ _ (by subst e; exact Ne.symm (h5 g o _ _ rfl))]
  exact hc

theorem intsNe_own {W : World} {b B : Nat} {v : Value} {zs : List Int} (h : Own W B 2 (Value.int .i64) v zs) (hb : b < B) : IntsNe W b v zs := by
  refine ⟨own_intsF h, ?_⟩
  obtain ⟨a, cap, rfl, h2, h3, h4⟩ := h
  intro g o n c e
  injection e with e1 e2 e3
  rcases h4 with ⟨ea, _⟩ | ⟨g', cur, ea, hg, _, _⟩
  · rw [ea] at e1; cases e1
  · rw [ea] at e1
    injection e1 with e1
    injection e1 with e1 _ _
    omega

theorem intsNe_arg {w W : World} {b : Nat} {v : Value} {zs : List Int} (h : IntsAt w v zs) (hz : zs ≠ []) (hb : w.heap.size ≤ b) (hbw : Below w.heap.size w W) : IntsNe W b v zs := by
  refine ⟨ints_below h hbw, ?_⟩
  obtain ⟨a, cap, rfl, h2, h3, h4⟩ := h
  intro g o n c e
  injection e with e1 e2 e3
  obtain ⟨x, hx⟩ : ∃ x, zs[0]? = some x := ⟨_, List.getElem?_eq_getElem (List.length_pos_iff.2 hz)⟩
  obtain ⟨g', o', ea, hc⟩ := h4 0 x hx
  rw [ea] at e1
  injection e1 with e1
  injection e1 with e1 _ _
  have := World.block_lt_of_cell? w _ hc
  simp at this
  omega

theorem head_get {xs : List Int} (h : xs ≠ []) : xs[0]? = some (xs.headD 0) := by
  cases xs with
  | nil => exact absurd rfl h
  | cons x xs => rfl

theorem stF_short (T : Nat → List Int) (z : List Int) (hT : ∀ j, (T j).length ≤ 129) (hz : z.length ≤ 129) : ∀ k, k ≤ 24 → (stF T z k).shared.length ≤ 1000 := by
  have h : ∀ k, (stF T z k).shared.length ≤ 129 := by
    intro k
    induction k with
    | zero => exact hz
    | succ k ih =>
      rw [stF]
      unfold stepF
      split
      · exact hT k
      · exact Nat.le_trans (bothL_len _ _) ih
  exact fun k _ => Nat.le_trans (h k) (by decide)

set_option maxRecDepth 100000 in
set_option maxHeartbeats 8000000 in
theorem steadiest_any (zs : Array Value) (hs : zs.size = 24) (h1 : ∀ v ∈ zs, v.oneCell' = true) (T : Nat → List Int) (hT : ∀ j, j < 24 → T j ≠ []) (hb64 : ∀ j, j < 24 → ∀ x ∈ T j, -64 ≤ x ∧ x ≤ 64) (hlen : ∀ j, (T j).length ≤ 129) (w : World) (hv : ∀ j, j < 24 → ∃ v, zs[j]? = some v ∧ IntsAt w v (T j)) (p : List Int) (hp : ∀ k, k = 24 → (stF T [] k).plan = p) (hpl : p.length = 24) :
    Calls Tryz.prog 26 #[.agg zs] w fun e w' => e = .returned (.agg (i16s p)) ∧ Below w.heap.size w w' := by
  have HZS := Lib.hid hs
  have HON := Lib.hid h1
  have HT := Lib.hid hT
  have HB64 := Lib.hid hb64
  have HLEN := Lib.hid hlen
  have HVV := Lib.hid hv
  have HC := Lib.hid (fun v1 v2 xs ys hl w a b => common_any v1 v2 xs ys hl w a b)
  have HSB := Lib.hid (stF_mem T [] (fun x => -64 ≤ x ∧ x ≤ 64) hb64 (fun x hx => by cases hx))
  have HSL := Lib.hid (stF_len T [])
  have HSF := Lib.hid (stF_first T [])
  have HSLEN : Hid (∀ k, k ≤ 24 → (stF T [] k).shared.length ≤ 1000) := Lib.hid (stF_short T [] hlen (by decide))
  have HP := Lib.hid hp
  have HPL := Lib.hid hpl
  clear hs h1 hT hb64 hlen hv hp hpl
  go_enter Tryz.func26, Tryz.ntmps26
  go_upto_region 2 with (fail)
  refine abs_code (fun W => W.heap[w.heap.size]? = some (.cells zs 59 (0, 0)) ∧ W.heap[w.heap.size + 1]? = some (.cells (i16s (List.replicate 24 (0 : Int))) 30 (0, 0)) ∧ W.heap[w.heap.size + 1 + 1]? = some (.cells (i16s (List.replicate 24 (0 : Int))) 30 (0, 0)) ∧ Below w.heap.size w W) ⟨(three_new _ _ _ _).1, (three_new _ _ _ _).2.1, (three_new _ _ _ _).2.2.1, (three_new _ _ _ _).2.2.2⟩ ?_
  rintro W ⟨h0, h2, h3, hb⟩
  have n12 : w.heap.size + 1 < w.heap.size + 1 + 1 := by omega
  have hle2 : w.heap.size ≤ w.heap.size + 1 := by omega
  have hle3 : w.heap.size ≤ w.heap.size + 1 + 1 := by omega
  generalize w.heap.size + 1 + 1 = b3 at *
  generalize w.heap.size + 1 = b2 at *
  have H0 := Lib.hid h0
  have H2 := Lib.hid h2
  have H3 := Lib.hid h3
  have hb3l := row_lt h3
  clear h0 h2 h3
  go_upto_region 5 with (refine wpList_load_part rfl 59 _ rfl w.heap.size 0 24 rfl 59 (zs) (0, 0) _ H0.out Tryz.underlying59 rfl info_59 (by rw [HZS.out]; decide) (zs) (by rw [Nat.zero_add, ← HZS.out, Array.extract_size]) ?_)
  go_loopw [4, 5, 10] (fun f s i wr => ∃ k : Nat, k ≤ 24 ∧ i = .int .i64 (k : Int) ∧ f = .int .i64 ((stF T [] k).first : Int) ∧ IntsNe wr b3 s (stF T [] k).shared ∧ wr.heap[b2]? = some (.cells (i16s (List.replicate 24 (0 : Int))) 30 (0, 0)) ∧ wr.heap[b3]? = some (.cells (i16s (stF T [] k).plan) 30 (0, 0)) ∧ Below w.heap.size w wr ∧ W.heap.size ≤ wr.heap.size) (fun _ _ i _ => 24 - (intOf i).toNat)
  case atStart => exact ⟨0, Nat.zero_le _, rfl, rfl, ⟨⟨none, 0, rfl, Nat.le_refl _, by unfold maxLen; omega, fun i x hx => by simp [stF] at hx⟩, fun g o n c e => by cases e⟩, H2.out, H3.out, hb, Nat.le_refl _⟩
  case round =>
    clear H0 H2 H3 hb
    obtain ⟨k, hk, rfl, rfl, hsn, h2, h3, hb, hWs⟩ := hrel
    have HS := Lib.hid hsn
    have H2 := Lib.hid h2
    have H3 := Lib.hid h3
    clear hsn h2 h3
    by_cases hlt : k < 24
    · obtain ⟨v, hzv, hva⟩ := HVV.out k hlt
      have HZV := Lib.hid (fun w => run_index_59 zs k hlt v hzv w)
      have HV := Lib.hid (ints_below hva hb)
      have HVN := Lib.hid (intsNe_arg (b := b3) hva (HT.out k hlt) hle3 hb)
      have HLS := Lib.hid (HSLEN.out k hk)
      have HTK := Lib.hid (HT.out k hlt)
      have HXB : Hid (∀ x ∈ T k, -64 ≤ x ∧ x ≤ 64) := Lib.hid (HB64.out k hlt)
      have HXS := Lib.hid (HSB.out k hk)
      have hpl := HSL.out k
      have hfk := HSF.out k
      have HST : Hid (stF T [] (k + 1) = stepF (T k) k (stF T [] k)) := Lib.hid rfl
      have HLT := Lib.hid (HLEN.out k)
      generalize stF T [] k = s0 at *
      obtain ⟨f, sh, pl⟩ := s0
      dsimp only at *
      generalize T k = tk at *
      have z1 : (k : Int) < 24 := by omega
      have z2 : (0 : Int) ≤ (k : Int) := by omega
      have z3 : decide ((k : Int) < 24) = true := decide_eq_true z1
      obtain ⟨av, cv, rfl, hvl, hvc, -⟩ := id HV.out
      clear hzv hva
      have hidx := HZV.out
      go_upto_region 8 with (go_at_call 43; refine (HC.out _ _ _ _ HLS.out _ HS.out.1 HV.out).mono ?_; rintro e W1 ⟨⟨v1, rfl, hv1⟩, hb1⟩; have HB1 := Lib.hid hb1; have HV1 := Lib.hid hv1; clear hb1 hv1)
      have hbw1 := HB1.out.size
      have HVN1 := Lib.hid (intsNe_below HVN.out HB1.out)
      have HS1 := Lib.hid (intsNe_own HV1.out (by omega : b3 < wr.heap.size))
      have H2b := Lib.hid (below_row HB1.out H2.out)
      have H3b := Lib.hid (below_row HB1.out H3.out)
      have hbw := hb.trans (HB1.out.mono hb.size)
      have hlen1 := bothL_len sh tk
      obtain ⟨a1, c1, rfl, hc1, hl1, -⟩ := id HV1.out
      clear HVN HV HB1 H2 H3 hb HS HV1 HC HZV hidx
      by_cases hem : bothL sh tk = []
      · have HST2 : Hid (stF T [] (k + 1) = ⟨k, tk, fillP pl k k ((tk).headD 0)⟩) := Lib.hid (by rw [HST.out]; unfold stepF; rw [if_pos hem])

        have hg0 := head_get HTK.out
        have hxb := (HXB.out) _ (List.mem_of_getElem? hg0)
        have HG0 := Lib.hid hg0
        have hl0 : (bothL sh tk).length = 0 := by rw [hem]; rfl
        have hl0b : (((bothL sh tk).length : Int) == 0) = true := by rw [hl0]; rfl
        have hpos : (0 : Int) < ((tk).length : Int) := by have := List.length_pos_iff.2 HTK.out; omega
        clear hg0 hem hl0 HST
        generalize hxv : (tk).headD 0 = x0 at *
        have hwx : IntKind.i16.wrap x0 = x0 := by rw [IntWalk.i16_in _ (by omega)]
        clear hxv
        go_upto_region 11 with (fail)
        clear hl0b
        obtain ⟨wo, hwo⟩ : ∃ wo : World, wo = W1 := ⟨_, rfl⟩
        clear hwo
        go_loopw [8] (fun i wq => ∃ m : Nat, k ≤ m ∧ m ≤ k + 1 ∧ i = .int .i64 (m : Int) ∧ IntsNe wq b3 (.slice av (tk).length cv) (tk) ∧ wq.heap[b2]? = some (.cells (i16s (List.replicate 24 (0 : Int))) 30 (0, 0)) ∧ wq.heap[b3]? = some (.cells (i16s (fillTo pl k x0 m)) 30 (0, 0)) ∧ Below w.heap.size w wq ∧ W.heap.size ≤ wq.heap.size) (fun i _ => k + 1 - (intOf i).toNat)
        case atStart => exact ⟨k, Nat.le_refl _, by omega, rfl, HVN1.out, H2b.out, by rw [fillTo_start]; exact H3b.out, hbw, by omega⟩
        case round =>
          clear H2b H3b hbw HVN1
          obtain ⟨m, hfm, hmk, rfl, hsn, h2, h3, hbq, hWq⟩ := hrel
          have HQ := Lib.hid hsn
          have H2 := Lib.hid h2
          have H3 := Lib.hid h3
          clear hsn h2 h3
          by_cases hlm : m ≤ k
          · obtain ⟨g, o, esl, hcell⟩ := int_atF HQ.out.1 HG0.out
            subst esl
            rw [Nat.add_zero] at hcell
            have y1 : (m : Int) ≤ (k : Int) := by omega
            have y2 : (0 : Int) ≤ (m : Int) := by omega
            have y3 : (m : Int) < 24 := by omega
            have hfl := fillTo_len pl k x0 m
            have hd := cell_of_i16s H3.out m (by rw [hfl, hpl]; omega)
            have hf := frozen_of_row _ b3 m _ _ H3.out
            go_wp2
            go_roundw
            case rel => exact ⟨m + 1, by omega, by omega, by go_num, intsNe_setCell HQ.out, (heap_setCell_other _ _ _ _ (by simp; omega)).trans H2.out, by rw [heap_setCell_same _ _ _ _ _ _ H3.out, i16s_set, fillTo_step _ _ _ hfm (by rw [hpl]; omega)], hbq.setCell (p := ⟨b3, m, none⟩) hle3 _, by simp; omega⟩
            case measure => simp [intOf]; omega
          · obtain rfl : m = k + 1 := by omega
            rw [fillTo_end] at H3
            have y1 : ¬ ((k : Int) + 1 ≤ (k : Int)) := by omega
            go_wp2
            go_roundw
            case rel => exact ⟨k + 1, by omega, by first | (simp; done) | (simp; omega), by rw [HST2.out], by rw [HST2.out]; exact HQ.out, H2.out, by rw [HST2.out]; exact H3.out, hbq, hWq⟩
            case measure => simp [intOf]; omega
      · have HST2 : Hid (stF T [] (k + 1) = ⟨f, (bothL sh tk), fillP pl f k (((bothL sh tk)).headD 0)⟩) := Lib.hid (by rw [HST.out]; unfold stepF; rw [if_neg hem])
        have HNE := Lib.hid hem
        have hg0 := head_get HNE.out
        have hxb := ((fun x hx => HXS.out x (bothL_mem hx))) _ (List.mem_of_getElem? hg0)
        have HG0 := Lib.hid hg0
        have hl0 : ((bothL sh tk).length : Int) ≠ 0 := by have := List.length_pos_iff.2 hem; omega
        have hl0b : (((bothL sh tk).length : Int) == 0) = false := by simpa using hl0
        have hpos : (0 : Int) < (((bothL sh tk)).length : Int) := by have := List.length_pos_iff.2 HNE.out; omega
        clear hg0 hem hl0 HST
        generalize hxv : ((bothL sh tk)).headD 0 = x0 at *
        have hwx : IntKind.i16.wrap x0 = x0 := by rw [IntWalk.i16_in _ (by omega)]
        clear hxv
        go_upto_region 11 with (fail)
        clear hl0b
        obtain ⟨wo, hwo⟩ : ∃ wo : World, wo = W1 := ⟨_, rfl⟩
        clear hwo
        go_loopw [8] (fun i wq => ∃ m : Nat, f ≤ m ∧ m ≤ k + 1 ∧ i = .int .i64 (m : Int) ∧ IntsNe wq b3 (.slice a1 ((bothL sh tk)).length c1) ((bothL sh tk)) ∧ wq.heap[b2]? = some (.cells (i16s (List.replicate 24 (0 : Int))) 30 (0, 0)) ∧ wq.heap[b3]? = some (.cells (i16s (fillTo pl f x0 m)) 30 (0, 0)) ∧ Below w.heap.size w wq ∧ W.heap.size ≤ wq.heap.size) (fun i _ => k + 1 - (intOf i).toNat)
        case atStart => exact ⟨f, Nat.le_refl _, by omega, rfl, HS1.out, H2b.out, by rw [fillTo_start]; exact H3b.out, hbw, by omega⟩
        case round =>
          clear H2b H3b hbw HS1
          obtain ⟨m, hfm, hmk, rfl, hsn, h2, h3, hbq, hWq⟩ := hrel
          have HQ := Lib.hid hsn
          have H2 := Lib.hid h2
          have H3 := Lib.hid h3
          clear hsn h2 h3
          by_cases hlm : m ≤ k
          · obtain ⟨g, o, esl, hcell⟩ := int_atF HQ.out.1 HG0.out
            subst esl
            rw [Nat.add_zero] at hcell
            have y1 : (m : Int) ≤ (k : Int) := by omega
            have y2 : (0 : Int) ≤ (m : Int) := by omega
            have y3 : (m : Int) < 24 := by omega
            have hfl := fillTo_len pl f x0 m
            have hd := cell_of_i16s H3.out m (by rw [hfl, hpl]; omega)
            have hf := frozen_of_row _ b3 m _ _ H3.out
            go_wp2
            go_roundw
            case rel => exact ⟨m + 1, by omega, by omega, by go_num, intsNe_setCell HQ.out, (heap_setCell_other _ _ _ _ (by simp; omega)).trans H2.out, by rw [heap_setCell_same _ _ _ _ _ _ H3.out, i16s_set, fillTo_step _ _ _ hfm (by rw [hpl]; omega)], hbq.setCell (p := ⟨b3, m, none⟩) hle3 _, by simp; omega⟩
            case measure => simp [intOf]; omega
          · obtain rfl : m = k + 1 := by omega
            rw [fillTo_end] at H3
            have y1 : ¬ ((k : Int) + 1 ≤ (k : Int)) := by omega
            go_wp2
            go_roundw
            case rel => exact ⟨k + 1, by omega, by first | (simp; done) | (simp; omega), by rw [HST2.out], by rw [HST2.out]; exact HQ.out, H2.out, by rw [HST2.out]; exact H3.out, hbq, hWq⟩
            case measure => simp [intOf]; omega
    · have e24 : k = 24 := by omega
      rw [HP.out k e24] at H3
      clear HS HSB HSL HSF HSLEN HP HVV HT HB64 HLEN HC
      generalize stF T [] k = s0 at *
      have z1 : ¬ (k : Int) < 24 := by omega
      have z3 : decide ((k : Int) < 24) = false := decide_eq_false z1
      clear e24 hlt hk
      go_wp2_with (first | (refine wpList_load_part rfl 30 _ rfl b3 0 24 rfl 30 (i16s p) (0, 0) _ H3.out Tryz.underlying30 rfl info_plan (by rw [i16s_size, HPL.out]; decide) (i16s p) (i16s_all _ 24 HPL.out) ?_) | (refine wpList_store_part rfl 30 _ _ rfl b2 0 (i16s p) rfl rfl 30 (i16s (List.replicate 24 (0 : Int))) H2.out (by rw [i16s_size, HPL.out]; exact info_plan) (by rw [i16s_size, i16s_size, HPL.out]; decide) (i16s_one _) ?_; rw [laid_all _ _ (by rw [i16s_size, i16s_size, HPL.out]; rfl)]))
      exact bodyPost_ret (v := .agg (i16s p)) (results_cell_row rfl _ _ _ _ _ _ _ rfl (setRow_heap _ _ _ _ _ _ H2.out) Tryz.underlying30 rfl (by rw [i16s_size, HPL.out]; exact info_plan)) rfl ⟨rfl, below_setRow hb hle2 _⟩

end Go.Proofs.YtmniodfdoidffaaGreatDoor

namespace Go.Proofs.YtmniodfdoidffaaGreatDoor
open Go.ChangeShapes Go.WideShapes Go.ChangeAt Go.RowKit Go.Deep Go.Joins

attribute [local go_sem] run_store_f

/-- The plan of no tilt. -/
def zP : List Int := [0, 0, 0, 0, 0, 0, 0, 0, 0, 0, 0, 0, 0, 0, 0, 0, 0, 0, 0, 0, 0, 0, 0, 0]

theorem zP_ok : okP zP = true := by decide

theorem zP_len : zP.length = 24 := rfl

theorem zP_b : ∀ x ∈ zP, -32768 ≤ x ∧ x ≤ 32767 := by decide

theorem zP_one : ∀ v ∈ i16s zP, v.oneCell' = true := by
  intro v hv
  simp only [i16s, zP, List.map_cons, List.map_nil, List.mem_toArray, List.mem_cons, List.not_mem_nil, or_false] at hv
  rcases hv with rfl | rfl | rfl | rfl | rfl | rfl | rfl | rfl | rfl | rfl | rfl | rfl | rfl | rfl | rfl | rfl | rfl | rfl | rfl | rfl | rfl | rfl | rfl | rfl <;> rfl

theorem zbel (W : World) (o : Obj) (cs : Array Value) : Below W.heap.size W ((W.alloc o).setRow W.heap.size cs) := below_setRow ((Below.refl _ _).alloc (Nat.le_refl _) _) (Nat.le_refl _) _

end Go.Proofs.YtmniodfdoidffaaGreatDoor

namespace Go.Proofs.YtmniodfdoidffaaGreatDoor
open Go.ChangeShapes Go.WideShapes Go.ChangeAt Go.RowKit Go.Deep Go.Joins

attribute [local go_sem] run_store_f

theorem laid_allC (cs vs : Array Value) (h : cs.size = vs.size) : laid cs vs 0 = vs := by
  apply Array.ext'
  simp [laid]
  rw [← h]; simp

theorem run_store_rowC {P : Program} (w : World) (g : Nat) (t : TypeId) (vs old : Array Value) (hg : w.heap[g]? = some (.cells old t (0, 0))) (hs : old.size = vs.size) (h1 : ∀ v ∈ vs, v.oneCell' = true) :
    (storeCells ⟨g, 0, none⟩ vs.toList).run P w = .ok () (w.setRow g vs) := by
  have hst := run_storeCells_at P g 0 t vs.toList 0 old w hg (by simp; omega) (fun v hv => h1 v (by simpa using hv))
  have hl := laid_allC old vs hs
  unfold laid at hl
  simp only [Nat.add_zero] at hst
  rw [hst]
  simp at hl ⊢
  rw [hl]

theorem want_tilt {P : Int → Bool} {x : Int} (h : x ∈ wantT P (tls 129)) : -64 ≤ x ∧ x ≤ 64 := by
  unfold wantT at h
  obtain ⟨y, _, rfl⟩ := List.mem_map.1 (List.mem_filter.1 h).1
  exact y.2

theorem results_plan {fn : Func} {p u v : Tmp} (h : fn.results = #[.cell p 30, .tmp u, .tmp v]) (tmps : Array Value) (w : World) (g : Nat) (xs : List Int) (hx : xs.length = 24) (hp : tmps.getD p undef = .pointer (some ⟨g, 0, none⟩)) (hg : w.heap[g]? = some (.cells (i16s xs) 30 (0, 0))) :
    (results fn tmps).run Tryz.prog w = .ok (.tuple #[.agg (i16s xs), tmps.getD u undef, tmps.getD v undef]) w := by
  have e := run_loadVar_row w g 30 30 (i16s xs) (0, 0) _ hg Tryz.underlying30 rfl (by rw [i16s_size, hx]; exact info_plan)
  have e0 : (results fn tmps).run Tryz.prog w =
      ((asAddr (tmps.getD p undef)).run Tryz.prog w).andThen fun a w₁ => ((loadVar 30 a).run Tryz.prog w₁).andThen fun x w₂ => .ok (.tuple #[x, tmps.getD u undef, tmps.getD v undef]) w₂ := by
    simp only [results, h]
    simp [Sem.run_bind, Result.andThen]
  rw [e0, hp]
  simp only [asAddr, Sem.run_pure, Result.andThen_ok, e]

set_option maxRecDepth 100000 in
set_option maxHeartbeats 4000000 in
theorem iFew_F (n : Int) (wd gp : Nat) (t : Int) (sh : Nat) (hs ts : List Int) (hh : hs.length = 24) (ht : ts.length = 24) (fc : Int) (lo hi : Nat) (T0 : -32768 ≤ t) (T1 : t ≤ 32767) (hf : inF fc = false) (c : Int) (hc : cdP true (okBl n wd gp t sh) (okB hs ts) false = c) (hne : c ≠ 0) (w : World) (hE : ErrT w) :
    Calls Tryz.prog 8 #[.agg (blindC n wd gp t sh), .agg (sunC hs ts), .int .i64 fc, .float .f32 lo, .float .f32 hi] w fun e w' => e = .returned (.tuple #[.agg (i16s zP), .int .i64 0, .int .i64 c]) ∧ Below w.heap.size w w' := by
  have HC := Lib.hid (fun w => checkDay_no n wd gp t sh hs ts hh ht T0 T1 false c hc hne w)
  have HD := Lib.hid (fun w hE => codeD_call c w hE)
  have HF := Lib.hid hf
  have Hh := Lib.hid hh
  have Ht := Lib.hid ht
  have HZB : Hid (Tryz.prog.built 30 [] = some (i16s zP)) := by unfold Hid; kernel_rfl
  have hn := fun w => run_neq_held_nil (P := Tryz.prog) (w := w) 56 84 (.agg #[.int .i64 c]) (by kernel_rfl)
  have HE0 := Lib.hid hE
  clear hh ht hc hne hE hf
  go_enter Tryz.func8, Tryz.ntmps8
  go_upto_region 1 with (fail)
  refine abs_code (fun W => W.heap[w.heap.size]? = some (.cells (blindC n wd gp t sh) 33 (0, 0)) ∧ W.heap[w.heap.size + 1]? = some (.cells (sunC hs ts) 35 (0, 0)) ∧ W.heap[w.heap.size + 1 + 1]? = some (.cells (i16s zP) 30 (0, 0)) ∧ Below w.heap.size w W) ⟨(three_new _ _ _ _).1, (three_new _ _ _ _).2.1, (three_new _ _ _ _).2.2.1, (three_new _ _ _ _).2.2.2⟩ ?_
  rintro W ⟨h0, h1, h2, hb⟩
  have n01 : w.heap.size < w.heap.size + 1 := by omega
  have n12 : w.heap.size + 1 < w.heap.size + 1 + 1 := by omega
  have hle2 : w.heap.size ≤ w.heap.size + 1 + 1 := by omega
  generalize w.heap.size + 1 + 1 = b2 at *
  generalize w.heap.size + 1 = b1 at *
  have H0 := Lib.hid h0
  have H1 := Lib.hid h1
  have H2 := Lib.hid h2
  clear h0 h1 h2
  refine wp_region_held_drew (S := (fun V => Below W.heap.size W V)) (by kernel_rfl) (Below.refl _ _).drew (fun hHeld => ?_)
  refine take_op (i := 0) (d := 17) (v := .agg (blindC n wd gp t sh)) rfl rfl (by kernel_rfl) (by kernel_rfl) (by kernel_rfl) (fun _ _ _ h => h) (yields_row (by rfl) 33 (.tmp 5) (by rfl) w.heap.size 0 5 (by rfl) 33 (blindC n wd gp t sh) (0, 0) _ (fun _ h => below_row h H0.out) Tryz.underlying33 rfl info_blind (blind_fits _ _ _ _ _) (blindC n wd gp t sh) (blind_all _ _ _ _ _)) hHeld ?_
  simp only [List.setIfInBounds_toArray, List.set_cons_zero, List.set_cons_succ]
  refine take_op (i := 1) (d := 18) (v := .agg (sunC hs ts)) rfl rfl (by kernel_rfl) (by kernel_rfl) (by kernel_rfl) (fun _ _ _ h => h) (yields_row (by rfl) 35 (.tmp 6) (by rfl) b1 0 48 (by rfl) 35 (sunC hs ts) (0, 0) _ (fun _ h => below_row h H1.out) Tryz.underlying35 rfl info_sun (sun_fits _ _ Hh.out Ht.out) (sunC hs ts) (sun_all _ _ Hh.out Ht.out)) hHeld ?_
  simp only [List.setIfInBounds_toArray, List.set_cons_zero, List.set_cons_succ]
  refine take_op (i := 2) (d := 19) (v := ?_) rfl rfl (by kernel_rfl) (by kernel_rfl) (by kernel_rfl) (fun _ _ _ h => h) (Or.inl ⟨by rfl, ?hy2u208⟩) hHeld ?rest2u208
  case hy2u208 =>
    intro w' hS'
    go_simp
    try with_reducible rfl
  simp only [List.setIfInBounds_toArray, List.set_cons_zero, List.set_cons_succ]
  refine wpAnyH_ready (rs := [3]) (by kernel_rfl) (by simp) ?_
  refine AllReadyH.cons rfl (fun K hK => ?_) AllReadyH.nil
  go_simp
  refine (isFacing_is fc false HF.out _).mono ?_
  rintro e w' ⟨rfl, rfl⟩
  refine hK.out _ _ (hHeld) (fun hHeld2 => ?_)
  clear hK K
  replace hHeld := hHeld2
  clear hHeld2
  refine take_op (i := 4) (d := 21) (v := ?_) rfl rfl (by kernel_rfl) (by kernel_rfl) (by kernel_rfl) (fun _ _ _ h => h) (Or.inl ⟨by rfl, ?hy4u209⟩) hHeld ?rest4u209
  case hy4u209 =>
    intro w' hS'
    go_simp
    try with_reducible rfl
  simp only [List.setIfInBounds_toArray, List.set_cons_zero, List.set_cons_succ]
  refine take_op (i := 5) (d := 22) rfl rfl (by kernel_rfl) (by kernel_rfl) (by kernel_rfl) (fun _ _ _ h => h) (Or.inr ⟨by rfl, rfl⟩) hHeld ?_
  simp only [List.setIfInBounds_toArray, List.set_cons_zero, List.set_cons_succ]
  refine take_op (i := 6) (d := 23) rfl rfl (by kernel_rfl) (by kernel_rfl) (by kernel_rfl) (fun _ _ _ h => h) (Or.inr ⟨by rfl, rfl⟩) hHeld ?_
  simp only [List.setIfInBounds_toArray, List.set_cons_zero, List.set_cons_succ]
  refine take_op (i := 7) (d := 24) (v := ?_) rfl rfl (by kernel_rfl) (by kernel_rfl) (by kernel_rfl) (fun _ _ _ h => h) (Or.inl ⟨by rfl, ?hy7u210⟩) hHeld ?rest7u210
  case hy7u210 =>
    intro w' hS'
    go_simp
    try with_reducible rfl
  simp only [List.setIfInBounds_toArray, List.set_cons_zero, List.set_cons_succ]
  refine take_op (i := 8) (d := 25) (v := ?_) rfl rfl (by kernel_rfl) (by kernel_rfl) (by kernel_rfl) (fun _ _ _ h => h) (Or.inl ⟨by rfl, ?hy8u211⟩) hHeld ?rest8u211
  case hy8u211 =>
    intro w' hS'
    go_simp
    try with_reducible rfl
  simp only [List.setIfInBounds_toArray, List.set_cons_zero, List.set_cons_succ]
  refine take_op (i := 9) (d := 26) rfl rfl (by kernel_rfl) (by kernel_rfl) (by kernel_rfl) (fun _ _ _ h => h) (Or.inr ⟨by rfl, rfl⟩) hHeld ?_
  simp only [List.setIfInBounds_toArray, List.set_cons_zero, List.set_cons_succ]
  refine take_op (i := 10) (d := 27) rfl rfl (by kernel_rfl) (by kernel_rfl) (by kernel_rfl) (fun _ _ _ h => h) (Or.inr ⟨by rfl, rfl⟩) hHeld ?_
  simp only [List.setIfInBounds_toArray, List.set_cons_zero, List.set_cons_succ]
  refine take_op (i := 11) (d := 28) (v := ?_) rfl rfl (by kernel_rfl) (by kernel_rfl) (by kernel_rfl) (fun _ _ _ h => h) (Or.inl ⟨by rfl, ?hy11u212⟩) hHeld ?rest11u212
  case hy11u212 =>
    intro w' hS'
    go_simp
    try with_reducible rfl
  simp only [List.setIfInBounds_toArray, List.set_cons_zero, List.set_cons_succ]
  refine wpAnyH_ready (rs := [12]) (by kernel_rfl) (by simp) ?_
  refine AllReadyH.cons rfl (fun K hK => ?_) AllReadyH.nil
  go_simp
  refine (HC.out _).mono ?_
  rintro e W1 ⟨rfl, hb1⟩
  refine hK.out _ _ (hHeld.trans (hb1.mono hHeld.size)) (fun hHeld2 => ?_)
  clear hK K
  replace hHeld := hHeld2
  clear hHeld2
  clear hb1
  refine take_op (i := 13) (d := 13) (v := ?_) rfl rfl (by kernel_rfl) (by kernel_rfl) (by kernel_rfl) (fun _ _ _ h => h) (Or.inl ⟨by rfl, ?hy13u213⟩) hHeld ?rest13u213
  case hy13u213 =>
    intro w' hS'
    go_simp
    try with_reducible rfl
  simp only [List.setIfInBounds_toArray, List.set_cons_zero, List.set_cons_succ]
  refine wpAnyH_done (by kernel_rfl) ?_ _
  replace H0 := Lib.hid (below_row hHeld H0.out)
  replace H1 := Lib.hid (below_row hHeld H1.out)
  replace H2 := Lib.hid (below_row hHeld H2.out)
  replace hb := hb.trans (hHeld.mono hb.size)
  clear hHeld
  go_wp2_with (first | (refine wpList_buildL rfl 30 _ rfl _ rfl [] rfl (i16s zP) HZB.out ?_) | (go_at_call 23; refine (HD.out _ (errT_below HE0.out hb)).mono ?_; rintro e W9 ⟨rfl, hb1⟩; replace H2 := Lib.hid (below_row hb1 H2.out); replace hb := hb.trans (hb1.mono hb.size); clear hb1) | (refine wpList_store_part rfl 30 _ _ rfl b2 0 (i16s zP) rfl rfl 30 (i16s zP) H2.out info_plan (Nat.le_refl _) zP_one ?_; rw [laid_all _ _ (by rfl)]))
  refine bodyPost_ret (results_plan rfl _ _ b2 zP zP_len rfl (setRow_heap _ _ _ _ _ _ H2.out)) rfl ?_
  exact ⟨rfl, below_setRow hb hle2 _⟩

set_option maxRecDepth 100000 in
set_option maxHeartbeats 4000000 in
theorem iFew_T (n : Int) (wd gp : Nat) (t : Int) (sh : Nat) (hs ts : List Int) (hh : hs.length = 24) (ht : ts.length = 24) (fc : Int) (lo hi : Nat) (T0 : -32768 ≤ t) (T1 : t ≤ 32767) (hf : inF fc = true) (hlo : partB lo = false) (c : Int) (hc : cdP true (okBl n wd gp t sh) (okB hs ts) false = c) (hne : c ≠ 0) (w : World) (hE : ErrT w) :
    Calls Tryz.prog 8 #[.agg (blindC n wd gp t sh), .agg (sunC hs ts), .int .i64 fc, .float .f32 lo, .float .f32 hi] w fun e w' => e = .returned (.tuple #[.agg (i16s zP), .int .i64 0, .int .i64 c]) ∧ Below w.heap.size w w' := by
  have HC := Lib.hid (fun w => checkDay_no n wd gp t sh hs ts hh ht T0 T1 false c hc hne w)
  have HD := Lib.hid (fun w hE => codeD_call c w hE)
  have HF := Lib.hid hf
  have HLo := Lib.hid hlo
  have Hh := Lib.hid hh
  have Ht := Lib.hid ht
  have HZB : Hid (Tryz.prog.built 30 [] = some (i16s zP)) := by unfold Hid; kernel_rfl
  have hn := fun w => run_neq_held_nil (P := Tryz.prog) (w := w) 56 84 (.agg #[.int .i64 c]) (by kernel_rfl)
  have HE0 := Lib.hid hE
  clear hh ht hc hne hE hf hlo
  go_enter Tryz.func8, Tryz.ntmps8
  go_upto_region 1 with (fail)
  refine abs_code (fun W => W.heap[w.heap.size]? = some (.cells (blindC n wd gp t sh) 33 (0, 0)) ∧ W.heap[w.heap.size + 1]? = some (.cells (sunC hs ts) 35 (0, 0)) ∧ W.heap[w.heap.size + 1 + 1]? = some (.cells (i16s zP) 30 (0, 0)) ∧ Below w.heap.size w W) ⟨(three_new _ _ _ _).1, (three_new _ _ _ _).2.1, (three_new _ _ _ _).2.2.1, (three_new _ _ _ _).2.2.2⟩ ?_
  rintro W ⟨h0, h1, h2, hb⟩
  have n01 : w.heap.size < w.heap.size + 1 := by omega
  have n12 : w.heap.size + 1 < w.heap.size + 1 + 1 := by omega
  have hle2 : w.heap.size ≤ w.heap.size + 1 + 1 := by omega
  generalize w.heap.size + 1 + 1 = b2 at *
  generalize w.heap.size + 1 = b1 at *
  have H0 := Lib.hid h0
  have H1 := Lib.hid h1
  have H2 := Lib.hid h2
  clear h0 h1 h2
  refine wp_region_held_drew (S := (fun V => Below W.heap.size W V)) (by kernel_rfl) (Below.refl _ _).drew (fun hHeld => ?_)
  refine take_op (i := 0) (d := 17) (v := .agg (blindC n wd gp t sh)) rfl rfl (by kernel_rfl) (by kernel_rfl) (by kernel_rfl) (fun _ _ _ h => h) (yields_row (by rfl) 33 (.tmp 5) (by rfl) w.heap.size 0 5 (by rfl) 33 (blindC n wd gp t sh) (0, 0) _ (fun _ h => below_row h H0.out) Tryz.underlying33 rfl info_blind (blind_fits _ _ _ _ _) (blindC n wd gp t sh) (blind_all _ _ _ _ _)) hHeld ?_
  simp only [List.setIfInBounds_toArray, List.set_cons_zero, List.set_cons_succ]
  refine take_op (i := 1) (d := 18) (v := .agg (sunC hs ts)) rfl rfl (by kernel_rfl) (by kernel_rfl) (by kernel_rfl) (fun _ _ _ h => h) (yields_row (by rfl) 35 (.tmp 6) (by rfl) b1 0 48 (by rfl) 35 (sunC hs ts) (0, 0) _ (fun _ h => below_row h H1.out) Tryz.underlying35 rfl info_sun (sun_fits _ _ Hh.out Ht.out) (sunC hs ts) (sun_all _ _ Hh.out Ht.out)) hHeld ?_
  simp only [List.setIfInBounds_toArray, List.set_cons_zero, List.set_cons_succ]
  refine take_op (i := 2) (d := 19) (v := ?_) rfl rfl (by kernel_rfl) (by kernel_rfl) (by kernel_rfl) (fun _ _ _ h => h) (Or.inl ⟨by rfl, ?hy2u214⟩) hHeld ?rest2u214
  case hy2u214 =>
    intro w' hS'
    go_simp
    try with_reducible rfl
  simp only [List.setIfInBounds_toArray, List.set_cons_zero, List.set_cons_succ]
  refine wpAnyH_ready (rs := [3]) (by kernel_rfl) (by simp) ?_
  refine AllReadyH.cons rfl (fun K hK => ?_) AllReadyH.nil
  go_simp
  refine (isFacing_is fc true HF.out _).mono ?_
  rintro e w' ⟨rfl, rfl⟩
  refine hK.out _ _ (hHeld) (fun hHeld2 => ?_)
  clear hK K
  replace hHeld := hHeld2
  clear hHeld2
  refine take_op (i := 4) (d := 21) (v := ?_) rfl rfl (by kernel_rfl) (by kernel_rfl) (by kernel_rfl) (fun _ _ _ h => h) (Or.inl ⟨by rfl, ?hy4u215⟩) hHeld ?rest4u215
  case hy4u215 =>
    intro w' hS'
    go_simp
    try with_reducible rfl
  simp only [List.setIfInBounds_toArray, List.set_cons_zero, List.set_cons_succ]
  refine take_op (i := 5) (d := 22) (v := ?_) rfl rfl (by kernel_rfl) (by kernel_rfl) (by kernel_rfl) (fun _ _ _ h => h) (Or.inl ⟨by rfl, ?hy5u216⟩) hHeld ?rest5u216
  case hy5u216 =>
    intro w' hS'
    go_simp
    try with_reducible rfl
  simp only [List.setIfInBounds_toArray, List.set_cons_zero, List.set_cons_succ]
  refine wpAnyH_ready (rs := [6]) (by kernel_rfl) (by simp) ?_
  refine AllReadyH.cons rfl (fun K hK => ?_) AllReadyH.nil
  go_simp
  refine (isPart_is lo false HLo.out _).mono ?_
  rintro e w' ⟨rfl, rfl⟩
  refine hK.out _ _ (hHeld) (fun hHeld2 => ?_)
  clear hK K
  replace hHeld := hHeld2
  clear hHeld2
  refine take_op (i := 7) (d := 24) (v := ?_) rfl rfl (by kernel_rfl) (by kernel_rfl) (by kernel_rfl) (fun _ _ _ h => h) (Or.inl ⟨by rfl, ?hy7u217⟩) hHeld ?rest7u217
  case hy7u217 =>
    intro w' hS'
    go_simp
    try with_reducible rfl
  simp only [List.setIfInBounds_toArray, List.set_cons_zero, List.set_cons_succ]
  refine take_op (i := 8) (d := 25) (v := ?_) rfl rfl (by kernel_rfl) (by kernel_rfl) (by kernel_rfl) (fun _ _ _ h => h) (Or.inl ⟨by rfl, ?hy8u218⟩) hHeld ?rest8u218
  case hy8u218 =>
    intro w' hS'
    go_simp
    try with_reducible rfl
  simp only [List.setIfInBounds_toArray, List.set_cons_zero, List.set_cons_succ]
  refine take_op (i := 9) (d := 26) rfl rfl (by kernel_rfl) (by kernel_rfl) (by kernel_rfl) (fun _ _ _ h => h) (Or.inr ⟨by rfl, rfl⟩) hHeld ?_
  simp only [List.setIfInBounds_toArray, List.set_cons_zero, List.set_cons_succ]
  refine take_op (i := 10) (d := 27) rfl rfl (by kernel_rfl) (by kernel_rfl) (by kernel_rfl) (fun _ _ _ h => h) (Or.inr ⟨by rfl, rfl⟩) hHeld ?_
  simp only [List.setIfInBounds_toArray, List.set_cons_zero, List.set_cons_succ]
  refine take_op (i := 11) (d := 28) (v := ?_) rfl rfl (by kernel_rfl) (by kernel_rfl) (by kernel_rfl) (fun _ _ _ h => h) (Or.inl ⟨by rfl, ?hy11u219⟩) hHeld ?rest11u219
  case hy11u219 =>
    intro w' hS'
    go_simp
    try with_reducible rfl
  simp only [List.setIfInBounds_toArray, List.set_cons_zero, List.set_cons_succ]
  refine wpAnyH_ready (rs := [12]) (by kernel_rfl) (by simp) ?_
  refine AllReadyH.cons rfl (fun K hK => ?_) AllReadyH.nil
  go_simp
  refine (HC.out _).mono ?_
  rintro e W1 ⟨rfl, hb1⟩
  refine hK.out _ _ (hHeld.trans (hb1.mono hHeld.size)) (fun hHeld2 => ?_)
  clear hK K
  replace hHeld := hHeld2
  clear hHeld2
  clear hb1
  refine take_op (i := 13) (d := 13) (v := ?_) rfl rfl (by kernel_rfl) (by kernel_rfl) (by kernel_rfl) (fun _ _ _ h => h) (Or.inl ⟨by rfl, ?hy13u220⟩) hHeld ?rest13u220
  case hy13u220 =>
    intro w' hS'
    go_simp
    try with_reducible rfl
  simp only [List.setIfInBounds_toArray, List.set_cons_zero, List.set_cons_succ]
  refine wpAnyH_done (by kernel_rfl) ?_ _
  replace H0 := Lib.hid (below_row hHeld H0.out)
  replace H1 := Lib.hid (below_row hHeld H1.out)
  replace H2 := Lib.hid (below_row hHeld H2.out)
  replace hb := hb.trans (hHeld.mono hb.size)
  clear hHeld
  go_wp2_with (first | (refine wpList_buildL rfl 30 _ rfl _ rfl [] rfl (i16s zP) HZB.out ?_) | (go_at_call 23; refine (HD.out _ (errT_below HE0.out hb)).mono ?_; rintro e W9 ⟨rfl, hb1⟩; replace H2 := Lib.hid (below_row hb1 H2.out); replace hb := hb.trans (hb1.mono hb.size); clear hb1) | (refine wpList_store_part rfl 30 _ _ rfl b2 0 (i16s zP) rfl rfl 30 (i16s zP) H2.out info_plan (Nat.le_refl _) zP_one ?_; rw [laid_all _ _ (by rfl)]))
  refine bodyPost_ret (results_plan rfl _ _ b2 zP zP_len rfl (setRow_heap _ _ _ _ _ _ H2.out)) rfl ?_
  exact ⟨rfl, below_setRow hb hle2 _⟩

set_option maxRecDepth 100000 in
set_option maxHeartbeats 4000000 in
theorem iFew_TT (n : Int) (wd gp : Nat) (t : Int) (sh : Nat) (hs ts : List Int) (hh : hs.length = 24) (ht : ts.length = 24) (fc : Int) (lo hi : Nat) (T0 : -32768 ≤ t) (T1 : t ≤ 32767) (hf : inF fc = true) (hlo : partB lo = true) (hgh : Bool) (hhi : partB hi = hgh) (c : Int) (hc : cdP true (okBl n wd gp t sh) (okB hs ts) hgh = c) (hne : c ≠ 0) (w : World) (hE : ErrT w) :
    Calls Tryz.prog 8 #[.agg (blindC n wd gp t sh), .agg (sunC hs ts), .int .i64 fc, .float .f32 lo, .float .f32 hi] w fun e w' => e = .returned (.tuple #[.agg (i16s zP), .int .i64 0, .int .i64 c]) ∧ Below w.heap.size w w' := by
  have HC := Lib.hid (fun w => checkDay_no n wd gp t sh hs ts hh ht T0 T1 hgh c hc hne w)
  have HD := Lib.hid (fun w hE => codeD_call c w hE)
  have HF := Lib.hid hf
  have HLo := Lib.hid hlo
  have HHi := Lib.hid hhi
  have Hh := Lib.hid hh
  have Ht := Lib.hid ht
  have HZB : Hid (Tryz.prog.built 30 [] = some (i16s zP)) := by unfold Hid; kernel_rfl
  have hn := fun w => run_neq_held_nil (P := Tryz.prog) (w := w) 56 84 (.agg #[.int .i64 c]) (by kernel_rfl)
  have HE0 := Lib.hid hE
  clear hh ht hc hne hE hf hlo hhi
  go_enter Tryz.func8, Tryz.ntmps8
  go_upto_region 1 with (fail)
  refine abs_code (fun W => W.heap[w.heap.size]? = some (.cells (blindC n wd gp t sh) 33 (0, 0)) ∧ W.heap[w.heap.size + 1]? = some (.cells (sunC hs ts) 35 (0, 0)) ∧ W.heap[w.heap.size + 1 + 1]? = some (.cells (i16s zP) 30 (0, 0)) ∧ Below w.heap.size w W) ⟨(three_new _ _ _ _).1, (three_new _ _ _ _).2.1, (three_new _ _ _ _).2.2.1, (three_new _ _ _ _).2.2.2⟩ ?_
  rintro W ⟨h0, h1, h2, hb⟩
  have n01 : w.heap.size < w.heap.size + 1 := by omega
  have n12 : w.heap.size + 1 < w.heap.size + 1 + 1 := by omega
  have hle2 : w.heap.size ≤ w.heap.size + 1 + 1 := by omega
  generalize w.heap.size + 1 + 1 = b2 at *
  generalize w.heap.size + 1 = b1 at *
  have H0 := Lib.hid h0
  have H1 := Lib.hid h1
  have H2 := Lib.hid h2
  clear h0 h1 h2
  refine wp_region_held_drew (S := (fun V => Below W.heap.size W V)) (by kernel_rfl) (Below.refl _ _).drew (fun hHeld => ?_)
  refine take_op (i := 0) (d := 17) (v := .agg (blindC n wd gp t sh)) rfl rfl (by kernel_rfl) (by kernel_rfl) (by kernel_rfl) (fun _ _ _ h => h) (yields_row (by rfl) 33 (.tmp 5) (by rfl) w.heap.size 0 5 (by rfl) 33 (blindC n wd gp t sh) (0, 0) _ (fun _ h => below_row h H0.out) Tryz.underlying33 rfl info_blind (blind_fits _ _ _ _ _) (blindC n wd gp t sh) (blind_all _ _ _ _ _)) hHeld ?_
  simp only [List.setIfInBounds_toArray, List.set_cons_zero, List.set_cons_succ]
  refine take_op (i := 1) (d := 18) (v := .agg (sunC hs ts)) rfl rfl (by kernel_rfl) (by kernel_rfl) (by kernel_rfl) (fun _ _ _ h => h) (yields_row (by rfl) 35 (.tmp 6) (by rfl) b1 0 48 (by rfl) 35 (sunC hs ts) (0, 0) _ (fun _ h => below_row h H1.out) Tryz.underlying35 rfl info_sun (sun_fits _ _ Hh.out Ht.out) (sunC hs ts) (sun_all _ _ Hh.out Ht.out)) hHeld ?_
  simp only [List.setIfInBounds_toArray, List.set_cons_zero, List.set_cons_succ]
  refine take_op (i := 2) (d := 19) (v := ?_) rfl rfl (by kernel_rfl) (by kernel_rfl) (by kernel_rfl) (fun _ _ _ h => h) (Or.inl ⟨by rfl, ?hy2u221⟩) hHeld ?rest2u221
  case hy2u221 =>
    intro w' hS'
    go_simp
    try with_reducible rfl
  simp only [List.setIfInBounds_toArray, List.set_cons_zero, List.set_cons_succ]
  refine wpAnyH_ready (rs := [3]) (by kernel_rfl) (by simp) ?_
  refine AllReadyH.cons rfl (fun K hK => ?_) AllReadyH.nil
  go_simp
  refine (isFacing_is fc true HF.out _).mono ?_
  rintro e w' ⟨rfl, rfl⟩
  refine hK.out _ _ (hHeld) (fun hHeld2 => ?_)
  clear hK K
  replace hHeld := hHeld2
  clear hHeld2
  refine take_op (i := 4) (d := 21) (v := ?_) rfl rfl (by kernel_rfl) (by kernel_rfl) (by kernel_rfl) (fun _ _ _ h => h) (Or.inl ⟨by rfl, ?hy4u222⟩) hHeld ?rest4u222
  case hy4u222 =>
    intro w' hS'
    go_simp
    try with_reducible rfl
  simp only [List.setIfInBounds_toArray, List.set_cons_zero, List.set_cons_succ]
  refine take_op (i := 5) (d := 22) (v := ?_) rfl rfl (by kernel_rfl) (by kernel_rfl) (by kernel_rfl) (fun _ _ _ h => h) (Or.inl ⟨by rfl, ?hy5u223⟩) hHeld ?rest5u223
  case hy5u223 =>
    intro w' hS'
    go_simp
    try with_reducible rfl
  simp only [List.setIfInBounds_toArray, List.set_cons_zero, List.set_cons_succ]
  refine wpAnyH_ready (rs := [6]) (by kernel_rfl) (by simp) ?_
  refine AllReadyH.cons rfl (fun K hK => ?_) AllReadyH.nil
  go_simp
  refine (isPart_is lo true HLo.out _).mono ?_
  rintro e w' ⟨rfl, rfl⟩
  refine hK.out _ _ (hHeld) (fun hHeld2 => ?_)
  clear hK K
  replace hHeld := hHeld2
  clear hHeld2
  refine take_op (i := 7) (d := 24) (v := ?_) rfl rfl (by kernel_rfl) (by kernel_rfl) (by kernel_rfl) (fun _ _ _ h => h) (Or.inl ⟨by rfl, ?hy7u224⟩) hHeld ?rest7u224
  case hy7u224 =>
    intro w' hS'
    go_simp
    try with_reducible rfl
  simp only [List.setIfInBounds_toArray, List.set_cons_zero, List.set_cons_succ]
  refine take_op (i := 8) (d := 25) (v := ?_) rfl rfl (by kernel_rfl) (by kernel_rfl) (by kernel_rfl) (fun _ _ _ h => h) (Or.inl ⟨by rfl, ?hy8u225⟩) hHeld ?rest8u225
  case hy8u225 =>
    intro w' hS'
    go_simp
    try with_reducible rfl
  simp only [List.setIfInBounds_toArray, List.set_cons_zero, List.set_cons_succ]
  refine take_op (i := 9) (d := 26) (v := ?_) rfl rfl (by kernel_rfl) (by kernel_rfl) (by kernel_rfl) (fun _ _ _ h => h) (Or.inl ⟨by rfl, ?hy9u226⟩) hHeld ?rest9u226
  case hy9u226 =>
    intro w' hS'
    go_simp
    try with_reducible rfl
  simp only [List.setIfInBounds_toArray, List.set_cons_zero, List.set_cons_succ]
  refine wpAnyH_ready (rs := [10]) (by kernel_rfl) (by simp) ?_
  refine AllReadyH.cons rfl (fun K hK => ?_) AllReadyH.nil
  go_simp
  refine (isPart_is hi hgh HHi.out _).mono ?_
  rintro e w' ⟨rfl, rfl⟩
  refine hK.out _ _ (hHeld) (fun hHeld2 => ?_)
  clear hK K
  replace hHeld := hHeld2
  clear hHeld2
  refine take_op (i := 11) (d := 28) (v := ?_) rfl rfl (by kernel_rfl) (by kernel_rfl) (by kernel_rfl) (fun _ _ _ h => h) (Or.inl ⟨by rfl, ?hy11u227⟩) hHeld ?rest11u227
  case hy11u227 =>
    intro w' hS'
    go_simp
    try with_reducible rfl
  simp only [List.setIfInBounds_toArray, List.set_cons_zero, List.set_cons_succ]
  refine wpAnyH_ready (rs := [12]) (by kernel_rfl) (by simp) ?_
  refine AllReadyH.cons rfl (fun K hK => ?_) AllReadyH.nil
  go_simp
  refine (HC.out _).mono ?_
  rintro e W1 ⟨rfl, hb1⟩
  refine hK.out _ _ (hHeld.trans (hb1.mono hHeld.size)) (fun hHeld2 => ?_)
  clear hK K
  replace hHeld := hHeld2
  clear hHeld2
  clear hb1
  refine take_op (i := 13) (d := 13) (v := ?_) rfl rfl (by kernel_rfl) (by kernel_rfl) (by kernel_rfl) (fun _ _ _ h => h) (Or.inl ⟨by rfl, ?hy13u228⟩) hHeld ?rest13u228
  case hy13u228 =>
    intro w' hS'
    go_simp
    try with_reducible rfl
  simp only [List.setIfInBounds_toArray, List.set_cons_zero, List.set_cons_succ]
  refine wpAnyH_done (by kernel_rfl) ?_ _
  replace H0 := Lib.hid (below_row hHeld H0.out)
  replace H1 := Lib.hid (below_row hHeld H1.out)
  replace H2 := Lib.hid (below_row hHeld H2.out)
  replace hb := hb.trans (hHeld.mono hb.size)
  clear hHeld
  go_wp2_with (first | (refine wpList_buildL rfl 30 _ rfl _ rfl [] rfl (i16s zP) HZB.out ?_) | (go_at_call 23; refine (HD.out _ (errT_below HE0.out hb)).mono ?_; rintro e W9 ⟨rfl, hb1⟩; replace H2 := Lib.hid (below_row hb1 H2.out); replace hb := hb.trans (hb1.mono hb.size); clear hb1) | (refine wpList_store_part rfl 30 _ _ rfl b2 0 (i16s zP) rfl rfl 30 (i16s zP) H2.out info_plan (Nat.le_refl _) zP_one ?_; rw [laid_all _ _ (by rfl)]))
  refine bodyPost_ret (results_plan rfl _ _ b2 zP zP_len rfl (setRow_heap _ _ _ _ _ _ H2.out)) rfl ?_
  exact ⟨rfl, below_setRow hb hle2 _⟩

set_option maxRecDepth 100000 in
set_option maxHeartbeats 8000000 in
theorem iFew_yes (n : Int) (wd gp : Nat) (t : Int) (sh : Nat) (hs ts : List Int) (hh : hs.length = 24) (ht : ts.length = 24) (fc : Int) (lo hi : Nat) (bw : BlWf n wd gp t sh) (T0 : -32768 ≤ t) (T1 : t ≤ 32767) (hf : inF fc = true) (hlo : partB lo = true) (hhi : partB hi = true) (hc : cdP true (okBl n wd gp t sh) (okB hs ts) true = 0) (T : Nat → List Int) (hT : T = (fun h : Nat => wantT (kpB hs ts fc lo hi wd gp sh (h : Int)) (tls 129)))
    (p : List Int) (hp : ∀ k, k = 24 → (stF T [] k).plan = p) (pl : List Int) (nn cc : Int) (hA : (∀ h, h < 24 → T h ≠ []) → pl = p ∧ nn = (cntR p 24 : Int) - 1 ∧ cc = 0) (hB : (∃ h, h < 24 ∧ T h = []) → pl = zP ∧ nn = 0 ∧ cc = 6) (w : World) (hE : ErrT w) :
    Calls Tryz.prog 8 #[.agg (blindC n wd gp t sh), .agg (sunC hs ts), .int .i64 fc, .float .f32 lo, .float .f32 hi] w fun e w' => e = .returned (.tuple #[.agg (i16s pl), .int .i64 nn, .int .i64 cc]) ∧ Below w.heap.size w w' := by
  have HC := Lib.hid (fun w => checkDay_ok n wd gp t sh hs ts hh ht T0 T1 true hc w)
  obtain ⟨_, hk, hos, _⟩ := cdP_yes hc
  have OK := blok_of bw hk
  have dh : DyHr hs ts fc := ⟨fun k hk => hrok_of hh ht hos (by omega) (by omega) hf⟩
  have HDO := Lib.hid (fun w => dayOf_any hs ts hh ht fc lo hi n wd gp t sh w)
  have HAT : Hid (∀ w, Calls Tryz.prog 25 #[.agg (dayC hs ts fc lo hi n wd gp t sh)] w (AllT w T)) := by rw [hT]; exact fun w => allTilts_any hs ts hh ht fc lo hi n wd gp t sh OK dh w
  have hb64 : ∀ j, j < 24 → ∀ x ∈ T j, -64 ≤ x ∧ x ≤ 64 := by rw [hT]; exact fun j _ x hx => want_tilt hx
  have hlen : ∀ j, (T j).length ≤ 129 := by
    rw [hT]
    intro j
    refine Nat.le_trans (wantT_len _ _) ?_
    simp [tls]
  have hpl : p.length = 24 := by rw [← hp 24 rfl]; exact stF_len T [] 24
  have HSTD := Lib.hid (fun zs h1 h2 h3 w h4 => steadiest_any zs h1 h2 T h3 hb64 hlen w h4 p hp hpl)
  have HPL := Lib.hid hpl
  have HCH := Lib.hid (fun w => changes_any p hpl w)
  obtain ⟨hgh, hgt⟩ : ∃ b : Bool, b = true := ⟨true, rfl⟩
  have HF := Lib.hid hf
  have HLo := Lib.hid hlo
  have HHi : Hid (partB hi = hgh) := by rw [hgt]; exact hhi
  have Hh := Lib.hid hh
  have Ht := Lib.hid ht
  have HZB : Hid (Tryz.prog.built 30 [] = some (i16s zP)) := by unfold Hid; kernel_rfl
  have hn := fun w => run_neq_nil_nil (P := Tryz.prog) (w := w) 56 (by kernel_rfl)
  have HBT : Hid (Tryz.prog.built 64 [(0, .float .f32 lo), (1, .float .f32 hi)] = some (bnC lo hi)) := by unfold Hid; kernel_rfl
  have HE0 := Lib.hid hE
  have HAA := Lib.hid hA
  have HBB := Lib.hid hB
  subst hgt
  clear hh ht hc hf hlo hhi OK dh bw hE hA hB hp hb64 hlen hpl hT
  go_enter Tryz.func8, Tryz.ntmps8
  go_upto_region 1 with (fail)
  refine abs_code (fun W => W.heap[w.heap.size]? = some (.cells (blindC n wd gp t sh) 33 (0, 0)) ∧ W.heap[w.heap.size + 1]? = some (.cells (sunC hs ts) 35 (0, 0)) ∧ W.heap[w.heap.size + 1 + 1]? = some (.cells (i16s zP) 30 (0, 0)) ∧ Below w.heap.size w W) ⟨(three_new _ _ _ _).1, (three_new _ _ _ _).2.1, (three_new _ _ _ _).2.2.1, (three_new _ _ _ _).2.2.2⟩ ?_
  rintro W ⟨h0, h1, h2, hb⟩
  have n01 : w.heap.size < w.heap.size + 1 := by omega
  have n12 : w.heap.size + 1 < w.heap.size + 1 + 1 := by omega
  have hle2 : w.heap.size ≤ w.heap.size + 1 + 1 := by omega
  generalize w.heap.size + 1 + 1 = b2 at *
  generalize w.heap.size + 1 = b1 at *
  have H0 := Lib.hid h0
  have H1 := Lib.hid h1
  have H2 := Lib.hid h2
  clear h0 h1 h2
  refine wp_region_held_drew (S := (fun V => Below W.heap.size W V)) (by kernel_rfl) (Below.refl _ _).drew (fun hHeld => ?_)
  refine take_op (i := 0) (d := 17) (v := .agg (blindC n wd gp t sh)) rfl rfl (by kernel_rfl) (by kernel_rfl) (by kernel_rfl) (fun _ _ _ h => h) (yields_row (by rfl) 33 (.tmp 5) (by rfl) w.heap.size 0 5 (by rfl) 33 (blindC n wd gp t sh) (0, 0) _ (fun _ h => below_row h H0.out) Tryz.underlying33 rfl info_blind (blind_fits _ _ _ _ _) (blindC n wd gp t sh) (blind_all _ _ _ _ _)) hHeld ?_
  simp only [List.setIfInBounds_toArray, List.set_cons_zero, List.set_cons_succ]
  refine take_op (i := 1) (d := 18) (v := .agg (sunC hs ts)) rfl rfl (by kernel_rfl) (by kernel_rfl) (by kernel_rfl) (fun _ _ _ h => h) (yields_row (by rfl) 35 (.tmp 6) (by rfl) b1 0 48 (by rfl) 35 (sunC hs ts) (0, 0) _ (fun _ h => below_row h H1.out) Tryz.underlying35 rfl info_sun (sun_fits _ _ Hh.out Ht.out) (sunC hs ts) (sun_all _ _ Hh.out Ht.out)) hHeld ?_
  simp only [List.setIfInBounds_toArray, List.set_cons_zero, List.set_cons_succ]
  refine take_op (i := 2) (d := 19) (v := ?_) rfl rfl (by kernel_rfl) (by kernel_rfl) (by kernel_rfl) (fun _ _ _ h => h) (Or.inl ⟨by rfl, ?hy2u229⟩) hHeld ?rest2u229
  case hy2u229 =>
    intro w' hS'
    go_simp
    try with_reducible rfl
  simp only [List.setIfInBounds_toArray, List.set_cons_zero, List.set_cons_succ]
  refine wpAnyH_ready (rs := [3]) (by kernel_rfl) (by simp) ?_
  refine AllReadyH.cons rfl (fun K hK => ?_) AllReadyH.nil
  go_simp
  refine (isFacing_is fc true HF.out _).mono ?_
  rintro e w' ⟨rfl, rfl⟩
  refine hK.out _ _ (hHeld) (fun hHeld2 => ?_)
  clear hK K
  replace hHeld := hHeld2
  clear hHeld2
  refine take_op (i := 4) (d := 21) (v := ?_) rfl rfl (by kernel_rfl) (by kernel_rfl) (by kernel_rfl) (fun _ _ _ h => h) (Or.inl ⟨by rfl, ?hy4u230⟩) hHeld ?rest4u230
  case hy4u230 =>
    intro w' hS'
    go_simp
    try with_reducible rfl
  simp only [List.setIfInBounds_toArray, List.set_cons_zero, List.set_cons_succ]
  refine take_op (i := 5) (d := 22) (v := ?_) rfl rfl (by kernel_rfl) (by kernel_rfl) (by kernel_rfl) (fun _ _ _ h => h) (Or.inl ⟨by rfl, ?hy5u231⟩) hHeld ?rest5u231
  case hy5u231 =>
    intro w' hS'
    go_simp
    try with_reducible rfl
  simp only [List.setIfInBounds_toArray, List.set_cons_zero, List.set_cons_succ]
  refine wpAnyH_ready (rs := [6]) (by kernel_rfl) (by simp) ?_
  refine AllReadyH.cons rfl (fun K hK => ?_) AllReadyH.nil
  go_simp
  refine (isPart_is lo true HLo.out _).mono ?_
  rintro e w' ⟨rfl, rfl⟩
  refine hK.out _ _ (hHeld) (fun hHeld2 => ?_)
  clear hK K
  replace hHeld := hHeld2
  clear hHeld2
  refine take_op (i := 7) (d := 24) (v := ?_) rfl rfl (by kernel_rfl) (by kernel_rfl) (by kernel_rfl) (fun _ _ _ h => h) (Or.inl ⟨by rfl, ?hy7u232⟩) hHeld ?rest7u232
  case hy7u232 =>
    intro w' hS'
    go_simp
    try with_reducible rfl
  simp only [List.setIfInBounds_toArray, List.set_cons_zero, List.set_cons_succ]
  refine take_op (i := 8) (d := 25) (v := ?_) rfl rfl (by kernel_rfl) (by kernel_rfl) (by kernel_rfl) (fun _ _ _ h => h) (Or.inl ⟨by rfl, ?hy8u233⟩) hHeld ?rest8u233
  case hy8u233 =>
    intro w' hS'
    go_simp
    try with_reducible rfl
  simp only [List.setIfInBounds_toArray, List.set_cons_zero, List.set_cons_succ]
  refine take_op (i := 9) (d := 26) (v := ?_) rfl rfl (by kernel_rfl) (by kernel_rfl) (by kernel_rfl) (fun _ _ _ h => h) (Or.inl ⟨by rfl, ?hy9u234⟩) hHeld ?rest9u234
  case hy9u234 =>
    intro w' hS'
    go_simp
    try with_reducible rfl
  simp only [List.setIfInBounds_toArray, List.set_cons_zero, List.set_cons_succ]
  refine wpAnyH_ready (rs := [10]) (by kernel_rfl) (by simp) ?_
  refine AllReadyH.cons rfl (fun K hK => ?_) AllReadyH.nil
  go_simp
  refine (isPart_is hi true HHi.out _).mono ?_
  rintro e w' ⟨rfl, rfl⟩
  refine hK.out _ _ (hHeld) (fun hHeld2 => ?_)
  clear hK K
  replace hHeld := hHeld2
  clear hHeld2
  refine take_op (i := 11) (d := 28) (v := ?_) rfl rfl (by kernel_rfl) (by kernel_rfl) (by kernel_rfl) (fun _ _ _ h => h) (Or.inl ⟨by rfl, ?hy11u235⟩) hHeld ?rest11u235
  case hy11u235 =>
    intro w' hS'
    go_simp
    try with_reducible rfl
  simp only [List.setIfInBounds_toArray, List.set_cons_zero, List.set_cons_succ]
  refine wpAnyH_ready (rs := [12]) (by kernel_rfl) (by simp) ?_
  refine AllReadyH.cons rfl (fun K hK => ?_) AllReadyH.nil
  go_simp
  refine (HC.out _).mono ?_
  rintro e W1 ⟨rfl, hb1⟩
  refine hK.out _ _ (hHeld.trans (hb1.mono hHeld.size)) (fun hHeld2 => ?_)
  clear hK K
  replace hHeld := hHeld2
  clear hHeld2
  clear hb1
  refine take_op (i := 13) (d := 13) (v := ?_) rfl rfl (by kernel_rfl) (by kernel_rfl) (by kernel_rfl) (fun _ _ _ h => h) (Or.inl ⟨by rfl, ?hy13u236⟩) hHeld ?rest13u236
  case hy13u236 =>
    intro w' hS'
    go_simp
    try with_reducible rfl
  simp only [List.setIfInBounds_toArray, List.set_cons_zero, List.set_cons_succ]
  refine wpAnyH_done (by kernel_rfl) ?_ _
  replace H0 := Lib.hid (below_row hHeld H0.out)
  replace H1 := Lib.hid (below_row hHeld H1.out)
  replace H2 := Lib.hid (below_row hHeld H2.out)
  replace hb := hb.trans (hHeld.mono hb.size)
  clear hHeld
  go_upto_region 5 with (first | (refine wpList_load_part rfl 33 _ rfl w.heap.size 0 5 rfl 33 (blindC n wd gp t sh) (0, 0) _ H0.out Tryz.underlying33 rfl info_blind (blind_fits _ _ _ _ _) _ (blind_all _ _ _ _ _) ?_) | (refine wpList_load_part rfl 35 _ rfl b1 0 48 rfl 35 (sunC hs ts) (0, 0) _ H1.out Tryz.underlying35 rfl info_sun (sun_fits _ _ Hh.out Ht.out) _ (sun_all _ _ Hh.out Ht.out) ?_) | (refine wpList_buildL rfl 64 _ rfl _ rfl [(0, .float .f32 lo), (1, .float .f32 hi)] rfl (bnC lo hi) HBT.out ?_) | (go_at_call 24; refine (HDO.out _).mono ?_; rintro e W4 ⟨rfl, hb1⟩; replace H0 := Lib.hid (below_row hb1 H0.out); replace H1 := Lib.hid (below_row hb1 H1.out); replace H2 := Lib.hid (below_row hb1 H2.out); replace hb := hb.trans (hb1.mono hb.size); clear hb1) | (go_at_call 25; refine (HAT.out _).mono ?_; rintro e W5 ⟨zs, er, rfl, hzs, hone, hb5, hor⟩; have HB5 := Lib.hid hb5; have HZS := Lib.hid hzs; have HON := Lib.hid hone; have HOR := Lib.hid hor; clear hb5 hzs hone hor) | (refine wpList_store_part rfl 59 _ _ rfl _ 0 zs rfl rfl 59 _ (heap_alloc_new _ _) (by rw [HZS.out]; exact info_59) (by rw [HZS.out]; decide) HON.out ?_; rw [laid_all _ _ (by rw [HZS.out]; rfl)]))
  have hbB : Below W4.heap.size W4 W5 := HB5.out
  refine abs_code (fun V => V.heap[b2]? = some (.cells (i16s zP) 30 (0, 0)) ∧ V.heap[W5.heap.size]? = some (.cells zs 59 (0, 0)) ∧ Below W5.heap.size W5 V ∧ Below w.heap.size w V) ⟨(setRow_other _ _ _ _ (by have := row_lt (below_row hbB H2.out); omega)).trans (below_row ((Below.refl W5.heap.size _).alloc (Nat.le_refl _) _) (below_row hbB H2.out)), setRow_heap _ _ _ _ _ _ (heap_alloc_new _ _), below_setRow ((Below.refl W5.heap.size _).alloc (Nat.le_refl _) _) (Nat.le_refl _) _, below_setRow ((hb.trans (hbB.mono hb.size)).alloc (Nat.le_trans hb.size hbB.size) _) (Nat.le_trans hb.size hbB.size) _⟩ ?_
  have hw5 : w.heap.size ≤ W5.heap.size := Nat.le_trans hb.size hbB.size
  have hb25 : b2 < W5.heap.size := row_lt (below_row hbB H2.out)
  clear H0 H1 H2 hb hbB HAT HDO HBT
  rintro V ⟨h2, h4, hbv5, hb⟩
  have H2 := Lib.hid h2
  have H4 := Lib.hid h4
  have HV5 := Lib.hid hbv5
  clear h2 h4 hbv5
  rcases HOR.out with ⟨rfl, hall⟩ | ⟨k, hk, hTk, rfl⟩
  · obtain ⟨e1, e2, e3⟩ := HAA.out (fun h hh => (hall h hh).1)
    subst e1 e2 e3
    have HLI : Hid (∀ j, j < 24 → ∃ v, zs[j]? = some v ∧ IntsAt V v (T j)) := Lib.hid (fun j hj => (hall j hj).2.imp fun v hv => ⟨hv.1, ints_below (own_intsF hv.2) HV5.out⟩)
    have HNE := Lib.hid (fun j hj => (hall j hj).1)
    clear hall HOR HAA HBB
    go_upto_region 8 with (first | (refine wpList_load_part rfl 59 _ rfl W5.heap.size 0 24 rfl 59 (zs) (0, 0) _ H4.out Tryz.underlying59 rfl info_59 (by rw [HZS.out]; decide) (zs) (by rw [Nat.zero_add, ← HZS.out, Array.extract_size]) ?_) | (go_at_call 26; refine (HSTD.out zs HZS.out HON.out HNE.out _ HLI.out).mono ?_; rintro e W6 ⟨rfl, hb6⟩; replace H2 := Lib.hid (below_row hb6 H2.out); replace hb := hb.trans (hb6.mono hb.size); clear hb6) | (refine wpList_store_part rfl 30 _ _ rfl _ 0 (i16s pl) rfl rfl 30 _ (heap_alloc_new _ _) (by rw [i16s_size, HPL.out]; exact info_plan) (by rw [i16s_size, HPL.out]; decide) (i16s_one _) ?_; rw [laid_all _ _ (by rw [i16s_size, HPL.out]; rfl)]))
    refine abs_code (fun U => U.heap[b2]? = some (.cells (i16s zP) 30 (0, 0)) ∧ U.heap[W6.heap.size]? = some (.cells (i16s pl) 30 (0, 0)) ∧ Below w.heap.size w U) ⟨(setRow_other _ _ _ _ (by have := row_lt H2.out; omega)).trans (below_row ((Below.refl W6.heap.size _).alloc (Nat.le_refl _) _) H2.out), setRow_heap _ _ _ _ _ _ (heap_alloc_new _ _), below_setRow (hb.alloc hb.size _) hb.size _⟩ ?_
    have hb26 := row_lt H2.out
    have hw6 := hb.size
    clear H2 H4 hb HLI HNE HV5
    generalize W6.heap.size = g6 at *
    rintro U ⟨h2, h6, hb⟩
    have H2 := Lib.hid h2
    have H6 := Lib.hid h6
    clear h2 h6
    dsimp only [Act.put]
    refine wp_region_held_drew (S := (fun X => X.heap[g6]? = some (.cells (i16s pl) 30 (0, 0)) ∧ (∃ zz : Array Value, zz.size = 24 ∧ X.heap[b2]? = some (.cells zz 30 (0, 0))) ∧ Below w.heap.size w X)) (by kernel_rfl) ⟨H6.out, ⟨_, rfl, H2.out⟩, hb.drew⟩ (fun hHeld => ?_)
    refine take_op (i := 0) (d := 53) (v := .agg (i16s pl)) rfl rfl (by kernel_rfl) (by kernel_rfl) (by kernel_rfl) (fun _ _ _ h => h) (yields_row (by rfl) 30 (.tmp 16) (by rfl) g6 0 24 (by rfl) 30 (i16s pl) (0, 0) _ (fun _ h => h.1) Tryz.underlying30 rfl info_plan (by rw [i16s_size, HPL.out]; decide) (i16s pl) (i16s_all _ 24 HPL.out)) hHeld ?_
    simp only [List.setIfInBounds_toArray, List.set_cons_zero, List.set_cons_succ]
    refine take_op (i := 1) (d := 54) (v := .agg (i16s pl)) rfl rfl (by kernel_rfl) (by kernel_rfl) (by kernel_rfl) (fun _ _ _ h => h) (yields_row (by rfl) 30 (.tmp 16) (by rfl) g6 0 24 (by rfl) 30 (i16s pl) (0, 0) _ (fun _ h => h.1) Tryz.underlying30 rfl info_plan (by rw [i16s_size, HPL.out]; decide) (i16s pl) (i16s_all _ 24 HPL.out)) hHeld ?_
    simp only [List.setIfInBounds_toArray, List.set_cons_zero, List.set_cons_succ]
    have H2d : Hid (U.drew.heap[b2]? = some (.cells (i16s zP) 30 (0, 0))) := H2.out
    generalize U.drew = X0 at *
    refine wpAnyH_ready (rs := [2]) (by kernel_rfl) (by simp) ?_
    refine AllReadyH.cons rfl (fun K hK => ?_) AllReadyH.nil
    go_simp
    refine (HCH.out _).mono ?_
    rintro e X1 ⟨rfl, hb1⟩
    have H2x1 := Lib.hid (below_row hb1 H2d.out)
    refine hK.out _ _ ⟨below_row hb1 hHeld.1, ⟨_, rfl, H2x1.out⟩, hHeld.2.2.trans (hb1.mono hHeld.2.2.size)⟩ (fun hHeld2 => ?_)
    clear hK K hb1
    replace hHeld := hHeld2
    clear hHeld2
    have hst := run_store_rowC (P := Tryz.prog) _ b2 30 (i16s pl) _ H2x1.out (by rw [i16s_size, i16s_size, HPL.out]; rfl) (i16s_one _)
    refine wpAnyH_ready (rs := [3]) (by kernel_rfl) (by simp) ?_
    refine AllReadyH.cons rfl (fun K hK => ?_) AllReadyH.nil
    have hpl24 : pl.length = 24 := HPL.out
    go_simp
    refine hK.out _ _ ⟨(setRow_other _ _ _ _ (by omega)).trans hHeld.1, ⟨_, (by rw [i16s_size]; exact HPL.out), setRow_heap _ _ _ _ _ _ H2x1.out⟩, below_setRow hHeld.2.2 hle2 _⟩ (fun hHeld2 => ?_)
    clear hK K hst hpl24
    have HR1 := Lib.hid (setRow_heap _ _ _ (i16s pl) _ _ H2x1.out)
    replace hHeld := hHeld2
    clear hHeld2
    refine take_op (i := 4) (d := 11) (v := ?_) rfl rfl (by kernel_rfl) (by kernel_rfl) (by kernel_rfl) (fun _ _ _ h => h) (Or.inl ⟨by rfl, ?hy4u237⟩) hHeld ?rest4u237
    case hy4u237 =>
      intro w' hS'
      go_simp
      try with_reducible rfl
    simp only [List.setIfInBounds_toArray, List.set_cons_zero, List.set_cons_succ]
    refine take_op (i := 5) (d := 12) (v := ?_) rfl rfl (by kernel_rfl) (by kernel_rfl) (by kernel_rfl) (fun _ _ _ h => h) (Or.inl ⟨by rfl, ?hy5u238⟩) hHeld ?rest5u238
    case hy5u238 =>
      intro w' hS'
      go_simp
      try with_reducible rfl
    simp only [List.setIfInBounds_toArray, List.set_cons_zero, List.set_cons_succ]
    refine wpAnyH_done (by kernel_rfl) ?_ _
    have hbx := hHeld.2.2
    have hr := HR1.out
    clear hHeld
    go_wp2
    refine bodyPost_ret (results_plan rfl _ _ b2 pl HPL.out rfl hr) rfl ?_
    exact ⟨rfl, hbx⟩
  · obtain ⟨e1, e2, e3⟩ := HBB.out ⟨k, hk, hTk⟩
    subst e1 e2 e3
    have hn2 := fun w => run_neq_held_nil (P := Tryz.prog) (w := w) 56 86 (.agg #[.int .i64 (k : Int)]) (by kernel_rfl)
    have HD := Lib.hid (fun w hE => codeD_hour (k : Int) w hE)
    clear HOR HAA HBB HSTD hn
    go_wp2_with (first | (refine wpList_buildL rfl 30 _ rfl _ rfl [] rfl (i16s zP) HZB.out ?_) | (go_at_call 23; refine (HD.out _ (errT_below HE0.out hb)).mono ?_; rintro e W9 ⟨rfl, hb1⟩; replace H2 := Lib.hid (below_row hb1 H2.out); replace hb := hb.trans (hb1.mono hb.size); clear hb1) | (refine wpList_store_part rfl 30 _ _ rfl b2 0 (i16s zP) rfl rfl 30 (i16s zP) H2.out info_plan (Nat.le_refl _) zP_one ?_; rw [laid_all _ _ (by rfl)]))
    refine bodyPost_ret (results_plan rfl _ _ b2 zP zP_len rfl (setRow_heap _ _ _ _ _ _ H2.out)) rfl ?_
    exact ⟨rfl, below_setRow hb hle2 _⟩

end Go.Proofs.YtmniodfdoidffaaGreatDoor
