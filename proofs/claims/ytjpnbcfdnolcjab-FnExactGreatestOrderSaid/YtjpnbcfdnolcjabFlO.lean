/-
  Lists of numbers of single precision that a law has made, and that it writes into.
-/
import Derived.Test.YtjpnbcfdnolcjabFlA
import Derived.Test.YtjpnbcfdnolcjabMarkF
import Derived.Test.YtjpnbcfdnolcjabListLaw
import Derived.OwnWalk
import Derived.Laws.AppendOwn
import Derived.Maps.AppendAt
namespace Go.Proofs.Ytjpnbcfdnolcjab
open Go.ChangeShapes Go.WideShapes Go.ChangeAt Go.RowKit Go.Deep Go.Joins

attribute [local go_sem] run_store_f

set_option maxRecDepth 100000 in
set_option maxHeartbeats 1000000 in
theorem toFloat32S_own (sv : Value) (zs : List Nat) (hlen : zs.length ≤ 1048576) (w : World) (hzs : FloatsAt w sv zs) :
    Calls Try.prog 14 #[sv] w fun e w' => (∃ v, e = .returned v ∧ Own w' w.heap.size 23 (Value.float .f32) v zs) ∧ Below w.heap.size w w' := by
  have HW := Lib.hid hzs
  obtain ⟨a, cap, rfl, hl1, hl2, _⟩ := hzs
  unfold maxLen at hl2
  generalize hn : zs.length = n at *
  have HN := Lib.hid hn
  have hmk := fun w => make_floats n hlen w
  clear hn
  go_enter Try.func14, Try.ntmps14
  go_wp2
  go_loopw [4] (fun i wr => ∃ k : Nat, k ≤ n ∧ i = .int .i64 k ∧ Below w.heap.size w wr ∧ ∃ cur : Array Value, wr.heap[w.heap.size]? = some (.cells cur 23 (0, 0)) ∧ cur.size = n ∧ ∀ j x, j < k → zs[j]? = some x → cur[j]? = some (.float .f32 x)) (fun i _ => n - (intOf i).toNat)
  case atStart => exact ⟨0, Nat.zero_le _, rfl, (Below.refl _ _).alloc (Nat.le_refl _) _, _, heap_alloc_new _ _, size_madeCells _ _, fun j x hj => by omega⟩
  case round =>
    clear hmk
    obtain ⟨k, hk, rfl, hb, cur, hg, hs, hp⟩ := hrel
    have HP := Lib.hid hp
    have HG := Lib.hid hg
    by_cases hlt : k < n
    · have hx : zs[k]? = some (zs[k]'(by rw [HN.out]; exact hlt)) := List.getElem?_eq_getElem _
      obtain ⟨g, o, rfl, hc⟩ := float_at (floats_below HW.out hb) hx
      generalize (zs[k]'(by rw [HN.out]; exact hlt)) = x at *
      have HX := Lib.hid hx
      have q1 : wr.cell? ⟨w.heap.size, k, none⟩ = some (cur[k]'(by omega)) := by rw [cell_of_row wr _ _ _ _ _ hg]; exact Array.getElem?_eq_getElem (by omega)
      have q2 := frozen_of_row wr w.heap.size k _ _ hg
      have z1 : (k : Int) < (n : Int) := by omega
      have z2 : (0 : Int) ≤ (k : Int) := by omega
      clear hp hg hx
      go_wp2
      go_roundw
      case rel =>
        refine ⟨k + 1, by omega, by go_num, hb.setCell (p := ⟨w.heap.size, k, none⟩) (Nat.le_refl _) _, cur.setIfInBounds k (.float .f32 x), heap_setCell_same _ _ _ _ _ _ HG.out, by simpa using hs, fun j y hj hy => ?_⟩
        rw [Array.getElem?_setIfInBounds]
        by_cases e : k = j
        · subst e
          rw [HX.out] at hy
          obtain rfl := Option.some.inj hy
          rw [if_pos rfl, if_pos (by omega)]
        · rw [if_neg e]; exact HP.out j y (by omega) hy
      case measure => simp [intOf]; omega
    · obtain rfl : k = n := by omega
      have HR : Hid (Own wr w.heap.size 23 (Value.float .f32) (.slice (some ⟨w.heap.size, 0, none⟩) k k) zs) := by
        refine ⟨_, k, by rw [HN.out], by unfold maxLen; omega, by rw [HN.out]; exact Nat.le_refl _, .inr ⟨w.heap.size, cur, rfl, Nat.le_refl _, HG.out, fun j hj => ?_⟩⟩
        rw [List.getElem?_eq_getElem hj]
        exact HP.out j _ (by have := HN.out; omega) (List.getElem?_eq_getElem hj)
      clear hp hg
      go_wp2
      go_ret
      exact ⟨⟨_, rfl, HR.out⟩, hb⟩

theorem own_floats {w : World} {b : Nat} {v : Value} {zs : List Nat} (h : Own w b 23 (Value.float .f32) v zs) : FloatsAt w v zs := by
  obtain ⟨a, cap, rfl, h2, h3, h4⟩ := h
  refine ⟨a, cap, rfl, h3, h2, fun i x hx => ?_⟩
  rcases h4 with ⟨rfl, rfl⟩ | ⟨g, cur, rfl, hg, hc, hk⟩
  · simp at hx
  · have hi := (List.getElem?_eq_some_iff.1 hx).1
    exact ⟨g, 0, rfl, by rw [Nat.zero_add, cell_of_row w _ _ _ _ _ hc, hk i hi, hx]; rfl⟩

/-- A list of numbers and a code, the list being the call's own. -/
def RetF6 (xs : List Nat) (c : Int) (w : World) (e : Ending) (w' : World) : Prop := (∃ v, e = .returned (.tuple #[v, .int .i64 c]) ∧ Own w' w.heap.size 23 (Value.float .f32) v xs) ∧ Below w.heap.size w w'

theorem own_noneF (w : World) (b : Nat) : Own w b 23 (Value.float .f32) (.slice none 0 0) [] := ⟨none, 0, rfl, by unfold maxLen; omega, Nat.le_refl _, .inl ⟨rfl, rfl⟩⟩

theorem grown_of_below {w w' : World} (h : Below w.heap.size w w') (row : Option Nat) : w.grownBy w' row := ⟨h.os, h.tape, h.output, h.size, fun k hk _ => h.block k hk⟩

theorem not_rowW {W : World} {g : Nat} {cs : Array Value} {t e : TypeId} {fr : Nat × Nat} (h : W.heap[g]? = some (.cells cs t fr)) (hte : t ≠ e) {base size k : Nat} {v : Value} {xs : List Value} (hr : W.ownsRow base e size v k xs) : some g ≠ v.ownBlock := by
  rcases hr.2 with ⟨rfl, _⟩ | ⟨g', cap, cur, rfl, _, hgb, _⟩
  · simp [Value.ownBlock]
  · intro e'
    obtain rfl : g = g' := by simpa [Value.ownBlock] using e'
    rw [h] at hgb
    injection hgb with e1
    injection e1 with _ e2 _
    exact hte e2

theorem owns_below {W w1 : World} {base k : Nat} {e : TypeId} {v : Value} {xs : List Value} (h : W.ownsRow base e 1 v k xs) (hb : Below W.heap.size W w1) : w1.ownsRow base e 1 v k xs :=
  h.kept (grown_of_below hb none) (by cases v.ownBlock <;> simp)

theorem own_of_row {α : Type} {W : World} {base : Nat} {e : TypeId} {mk : α → Value} {v : Value} {xs : List α} (h : W.ownsRow base e 1 v xs.length (xs.map mk)) (_ : xs.length ≤ maxLen) : Own W base e mk v xs := by
  rcases h.2 with ⟨rfl, hz⟩ | ⟨g, cap, cur, rfl, hbg, hg, hnc, hcm, hsz, htk⟩
  · exact ⟨none, 0, by rw [hz], Nat.zero_le _, by omega, .inl ⟨rfl, List.eq_nil_of_length_eq_zero hz⟩⟩
  · refine ⟨_, cap, rfl, hcm, hnc, .inr ⟨g, cur, rfl, hbg, hg, fun k hk => ?_⟩⟩
    have h1 : (cur.toList.take (xs.length * 1))[k]? = cur[k]? := by
      rw [List.getElem?_take_of_lt (by omega), Array.getElem?_toList]
    rw [← h1, htk, List.getElem?_map]

theorem row_base {W : World} {base k : Nat} {e : TypeId} {v : Value} {xs : List Value} (h : W.ownsRow base e 1 v k xs) : ∀ j, v.ownBlock = some j → base ≤ j := fun j e => (h.lt j e).1

theorem kept_append2 {W w1 : World} {g base k : Nat} {cs : Array Value} {t e : TypeId} {fr : Nat × Nat} {v : Value} {xs : List Value} {tmp : Obj} (h : W.heap[g]? = some (.cells cs t fr)) (hte : t ≠ e) (hr : W.ownsRow base e 1 v k xs)
    (hg : (W.alloc tmp).grownBy w1 v.ownBlock) : w1.heap[g]? = some (.cells cs t fr) := by
  have h1 : (W.alloc tmp).heap[g]? = some (.cells cs t fr) := below_row ((Below.refl W.heap.size W).alloc (Nat.le_refl _) _) h
  exact (hg.block g (row_lt h1) (not_rowW h hte hr)).trans h1

theorem own_base0 {W : World} {base : Nat} {v : Value} (h : W.ownsRow base 23 1 v 0 []) : Own W base 23 (Value.float .f32) v [] := own_of_row (xs := ([] : List Nat)) h (by unfold maxLen; simp)

theorem own_markedA {α : Type} {w w' : World} {b B : Nat} {E : TypeId} {mk : α → Value} {v v1 : Value} {xs : List α} {m : Int} {n : Nat} {e : Ending} {E1 : TypeId} {b1 : Nat} (h : Own w b E mk v xs) (ha : Above v B) (hu : Under v1 B) (hm : Marked w E1 b1 v1 m n e w') : Own w' b E mk v xs := by
  obtain ⟨a, c, rfl, h2, h3, h4⟩ := h
  refine ⟨a, c, rfl, h2, h3, h4.imp id ?_⟩
  rintro ⟨g, cur, rfl, hg, hc, hk⟩
  refine ⟨g, cur, rfl, hg, hm.2.2.2 g _ hc ?_, hk⟩
  intro g' n' c' e'
  have h5 := ha g _ _ rfl
  have h6 := hu g' _ _ e'
  omega

theorem own_markedF {α : Type} {w w' : World} {b B : Nat} {E : TypeId} {mk : α → Value} {v v1 : Value} {xs : List α} {m : Int} {n : Nat} {e : Ending} {E1 : TypeId} (h : Own w b E mk v xs) (hu : Under v B) (ha : Above v1 B) (hm : MarkedF w E1 B v1 m n e w') : Own w' b E mk v xs := by
  obtain ⟨a, c, rfl, h2, h3, h4⟩ := h
  refine ⟨a, c, rfl, h2, h3, h4.imp id ?_⟩
  rintro ⟨g, cur, rfl, hg, hc, hk⟩
  refine ⟨g, cur, rfl, hg, hm.2.2.2 g _ hc ?_, hk⟩
  intro g' n' c' e'
  have h5 := hu g _ _ rfl
  have h6 := ha g' _ _ e'
  omega

theorem own_markedAF {α : Type} {w w' : World} {b B : Nat} {E : TypeId} {mk : α → Value} {v v1 : Value} {xs : List α} {m : Int} {n : Nat} {e : Ending} {E1 : TypeId} {b1 : Nat} (h : Own w b E mk v xs) (ha : Above v B) (hu : Under v1 B) (hm : MarkedF w E1 b1 v1 m n e w') : Own w' b E mk v xs := by
  obtain ⟨a, c, rfl, h2, h3, h4⟩ := h
  refine ⟨a, c, rfl, h2, h3, h4.imp id ?_⟩
  rintro ⟨g, cur, rfl, hg, hc, hk⟩
  refine ⟨g, cur, rfl, hg, hm.2.2.2 g _ hc ?_, hk⟩
  intro g' n' c' e'
  have h5 := ha g _ _ rfl
  have h6 := hu g' _ _ e'
  omega

end Go.Proofs.Ytjpnbcfdnolcjab
