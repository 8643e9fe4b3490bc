/-
  The sort of the library, laid at lists of numbers of single precision, and sortedList.
-/
import Derived.Test.YtjpnbcfdnolcjaaCpL
import Derived.Test.YtjpnbcfdnolcjaaBlw
import Derived.Test.YtjpnbcfdnolcjaaFlO
import Derived.Shelf.SlSortCmp.NoneTotal
import Derived.Shelf.SlGeneric
namespace Go.Proofs.Ytjpnbcfdnolcjaa
open Go.ChangeShapes Go.WideShapes Go.ChangeAt Go.RowKit Go.Deep Go.Joins

open Go.Shelf in


/-- A finite number. -/
abbrev NumS := {x : Nat // isNum x}
instance : Inhabited NumS := ⟨⟨0, zero_num⟩⟩

def encS (x : NumS) : Value := .float .f32 x.1

def cfS (x y : NumS) : Int := cfI x.1 y.1

open Go.Shelf in
theorem ltS (x y : NumS) : ltOf cfS x y = decide (kI x.1 < kI y.1) := cfI_neg x.1 y.1

open Go.Shelf in
theorem swoS : Go.Sort.SWO (ltOf cfS) where
  irrefl x := by rw [ltS]; simp
  trans x y z h1 h2 := by rw [ltS] at *; simp at *; omega
  ntrans x y z h1 h2 := by rw [ltS] at *; simp at *; omega

open Go.Shelf in
theorem totS (x y : NumS) (h1 : ltOf cfS x y = false) (h2 : ltOf cfS y x = false) : x = y := by
  rw [ltS] at h1 h2
  simp at h1 h2
  exact Subtype.ext (kI_inj (by omega))

def numL (zs : List Nat) (hq : ∀ z ∈ zs, isNum z) : List NumS := zs.attachWith isNum hq

theorem numL_val (zs : List Nat) (hq : ∀ z ∈ zs, isNum z) : (numL zs hq).map (·.1) = zs := by simp [numL]

theorem numL_len (zs : List Nat) (hq : ∀ z ∈ zs, isNum z) : (numL zs hq).length = zs.length := by simp [numL]

open Go.Shelf in
theorem sort_val (zs : List Nat) (hq : ∀ z ∈ zs, isNum z) : ((numL zs hq).mergeSort fun x y => !(ltOf cfS) y x).map (·.1) = sortS zs := by
  rw [List.map_mergeSort (s := fun x y => decide (kI x ≤ kI y)) (fun a _ b _ => by rw [ltS, Bool.eq_iff_iff]; simp), numL_val]
  rfl

theorem holds_num {W : World} {g : Nat} {zs : List Nat} (hq : ∀ z ∈ zs, isNum z) (h : Go.Sort.Holds (Value.float .f32) W g 0 zs.toArray) : Go.Sort.Holds encS W g 0 (numL zs hq).toArray := by
  intro j hj
  have hl := numL_len zs hq
  have hj1 : j < (numL zs hq).length := by simpa using hj
  have hj2 : j < zs.length := by rw [hl] at hj1; exact hj1
  have h1 := h j (by simpa using hj2)
  have e : ((numL zs hq).toArray[j]!).1 = zs.toArray[j]! := by
    simp [getElem!_pos, hj2, numL]
  unfold encS
  rw [e]; exact h1

set_option maxRecDepth 100000 in
set_option maxHeartbeats 1000000 in
theorem own_sorted {w : World} {base g cap n q : Nat} {os : Array Obj} {zs ys : List Nat} (ys' : List NumS) (h : w.ownsRow base 26 1 (.slice (some ⟨g, 0, none⟩) n cap) n (zs.map (Value.float .f32))) (hy : ys'.map (·.1) = ys) (hl : ys.length = n) :
    Own (Go.Sort.grow (Go.Sort.putRow encS (Go.Sort.ahead w q) g 0 ys'.toArray) os) base 26 (Value.float .f32) (.slice (some ⟨g, 0, none⟩) n cap) ys := by
  rcases h.2 with ⟨e0, _⟩ | ⟨g', cap', cur, e0, hb, hg, hn, hm, hs, _⟩
  · cases e0
  · injection e0 with e1 _ e3
    injection e1 with e1
    injection e1 with e1
    subst e1; subst e3
    have hlt := row_lt hg
    have hy' : ys'.length = n := by rw [← hl, ← hy, List.length_map]
    refine ⟨_, cap, by rw [hl], hm, by omega, .inr ⟨g, Go.Sort.putCells encS 0 ys'.toArray cur, rfl, hb, ?_, fun k hk => ?_⟩⟩
    · show (_ ++ os)[g]? = _
      rw [Array.getElem?_append_left (by simpa [Go.Sort.putRow, Go.Sort.mapBlock, Go.Sort.ahead] using hlt)]
      simp [Go.Sort.putRow, Go.Sort.mapBlock, Go.Sort.ahead, Array.getElem?_modify, hg, Go.Sort.onCells]
    · have hkc : k < cur.size := by omega
      have hk' : k < ys'.length := by omega
      simp only [Go.Sort.putCells, Array.getElem?_mapIdx, Array.getElem?_eq_getElem hkc, Option.map_some]
      rw [if_pos (by simp; omega), ← hy, List.getElem?_map, List.getElem?_eq_getElem hk']
      simp [getElem!_pos, hk', encS]

theorem below_grow6 {B : Nat} {w0 w : World} {os : Array Obj} (h : Below B w0 w) (hB : B ≤ w.heap.size) : Below B w0 (Go.Sort.grow w os) :=
  ⟨h.os, h.tape, h.output, by rw [Go.Sort.size_grow]; have := h.size; omega, fun k hk => by
    rw [← h.block k hk]
    show (w.heap ++ os)[k]? = _
    rw [Array.getElem?_append_left (by omega)]⟩

/-- A sorted list of the call's own. -/
def SortRet (zs : List Nat) (w : World) (e : Ending) (w' : World) : Prop := ∃ v, e = .returned v ∧ Own w' w.heap.size 26 (Value.float .f32) v (sortS zs) ∧ Below w.heap.size w w'

end Go.Proofs.Ytjpnbcfdnolcjaa
