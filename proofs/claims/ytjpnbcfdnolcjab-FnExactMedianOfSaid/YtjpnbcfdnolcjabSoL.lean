/-
  The sort of the library, laid at lists of numbers of single precision, and sortedList.
-/
import Derived.Test.YtjpnbcfdnolcjabCpL
import Derived.Test.YtjpnbcfdnolcjabBlw
import Derived.Test.YtjpnbcfdnolcjabFlO
import Derived.Shelf.SlSortCmp.NoneTotal
import Derived.Shelf.SlGeneric
namespace Go.Proofs.Ytjpnbcfdnolcjab
open Go.ChangeShapes Go.WideShapes Go.ChangeAt Go.RowKit Go.Deep Go.Joins

open Go.Shelf in
def laySort_ren : Go.Shelf.Ren := ⟨fun | 6 => 82 | 14 => 91 | 15 => 92 | 20 => 99 | 21 => 100 | 22 => 101 | 23 => 102 | 24 => 103 | 25 => 104 | 26 => 105 | 27 => 106 | 28 => 107 | 29 => 108 | 46 => 111 | 47 => 112 | 48 => 113 | 49 => 114 | 50 => 115 | 57 => 117 | n => n, fun | 0 => 0 | 3 => 3 | 4 => 4 | 5 => 5 | 9 => 9 | 22 => 22 | 24 => 23 | 25 => 67 | 39 => 73 | 45 => 80 | 46 => 81 | 50 => 85 | 53 => 60 | 55 => 77 | 66 => 91 | 70 => 95 | 76 => 97 | 77 => 98 | n => n, fun n => n⟩

open Go.Shelf in
set_option maxRecDepth 100000 in
theorem laySort : SlLaysF.n6 Try.prog laySort_ren :=
  {
    mixed := by kernel_rfl,
    f6 := ⟨Try.f82.name, by decide, Try.func82.trans (congrArg some (by kernel_rfl))⟩,
    f14 := ⟨Try.f91.name, by decide, Try.func91.trans (congrArg some (by kernel_rfl))⟩,
    f15 := Try.func92.trans (congrArg some (by kernel_rfl)),
    f20 := ⟨Try.f99.name, by decide, Try.func99.trans (congrArg some (by kernel_rfl))⟩,
    f21 := ⟨Try.f100.name, by decide, Try.func100.trans (congrArg some (by kernel_rfl))⟩,
    f22 := ⟨Try.f101.name, by decide, Try.func101.trans (congrArg some (by kernel_rfl))⟩,
    f23 := ⟨Try.f102.name, by decide, Try.func102.trans (congrArg some (by kernel_rfl))⟩,
    f24 := ⟨Try.f103.name, by decide, Try.func103.trans (congrArg some (by kernel_rfl))⟩,
    f25 := ⟨Try.f104.name, by decide, Try.func104.trans (congrArg some (by kernel_rfl))⟩,
    f26 := ⟨Try.f105.name, by decide, Try.func105.trans (congrArg some (by kernel_rfl))⟩,
    f27 := ⟨Try.f106.name, by decide, Try.func106.trans (congrArg some (by kernel_rfl))⟩,
    f28 := Try.func107.trans (congrArg some (by kernel_rfl)),
    f29 := Try.func108.trans (congrArg some (by kernel_rfl)),
    f46 := ⟨Try.f111.name, by decide, Try.func111.trans (congrArg some (by kernel_rfl))⟩,
    f47 := Try.func112.trans (congrArg some (by kernel_rfl)),
    f48 := Try.func113.trans (congrArg some (by kernel_rfl)),
    f49 := ⟨Try.f114.name, by decide, Try.func114.trans (congrArg some (by kernel_rfl))⟩,
    f50 := ⟨Try.f115.name, by decide, Try.func115.trans (congrArg some (by kernel_rfl))⟩,
    f57 := ⟨Try.f117.name, by decide, Try.func117.trans (congrArg some (by kernel_rfl))⟩,
    t0 := Try.underlying0,
    a0 := Try.isAgg0,
    z0 := Try.sizeOf0,
    v0 := Try.zeroValue0,
    t3 := Try.underlying3,
    a3 := Try.isAgg3,
    z3 := Try.sizeOf3,
    v3 := Try.zeroValue3,
    t4 := Try.underlying4,
    a4 := Try.isAgg4,
    z4 := Try.sizeOf4,
    v4 := Try.zeroValue4,
    t5 := Try.underlying5,
    a5 := Try.isAgg5,
    z5 := Try.sizeOf5,
    v5 := Try.zeroValue5,
    t9 := Try.underlying9,
    a9 := Try.isAgg9,
    z9 := Try.sizeOf9,
    v9 := Try.zeroValue9,
    t22 := Try.underlying22,
    a22 := Try.isAgg22,
    z22 := Try.sizeOf22,
    v22 := Try.zeroValue22,
    a24 := Try.isAgg23,
    z24 := Try.sizeOf23,
    t25 := Try.underlying67,
    a25 := Try.isAgg67,
    z25 := Try.sizeOf67,
    v25 := Try.zeroValue67,
    t39 := Try.underlying73,
    a39 := Try.isAgg73,
    z39 := Try.sizeOf73,
    v39 := Try.zeroValue73,
    t45 := Try.underlying80,
    a45 := Try.isAgg80,
    z45 := Try.sizeOf80,
    v45 := Try.zeroValue80,
    t46 := Try.underlying81,
    a46 := Try.isAgg81,
    z46 := Try.sizeOf81,
    v46 := Try.zeroValue81,
    t50 := Try.underlying85,
    a50 := Try.isAgg85,
    z50 := Try.sizeOf85,
    v50 := Try.zeroValue85,
    t53 := Try.underlying60,
    a53 := Try.isAgg60,
    z53 := Try.sizeOf60,
    v53 := Try.zeroValue60,
    t55 := Try.underlying77,
    a55 := Try.isAgg77,
    z55 := Try.sizeOf77,
    v55 := Try.zeroValue77,
    t66 := Try.underlying91,
    a66 := Try.isAgg91,
    z66 := Try.sizeOf91,
    v66 := Try.zeroValue91,
    t70 := Try.underlying95,
    a70 := Try.isAgg95,
    z70 := Try.sizeOf95,
    v70 := Try.zeroValue95,
    t76 := Try.underlying97,
    a76 := Try.isAgg97,
    z76 := Try.sizeOf97,
    v76 := Try.zeroValue97,
    t77 := Try.underlying98,
    a77 := Try.isAgg98,
    z77 := Try.sizeOf98,
    v77 := Try.zeroValue98 }

/-- A finite number. -/
abbrev NumS := {x : Nat // isNum x}
instance : Inhabited NumS := ⟨⟨0, zero_num⟩⟩

def encS (x : NumS) : Value := .float .f32 x.1

def cfS (x y : NumS) : Int := cfI x.1 y.1

open Go.Shelf in
theorem ltS (x y : NumS) : ltOf cfS x y = decide (kI x.1 < kI y.1) := cfI_neg x.1 y.1

open Go.Shelf in
theorem swoS : Go.Sort.SWO (ltOf cfS) where
  irrefl x := by rw [ltS]; simp
  trans x y z h1 h2 := by rw [ltS] at *; simp at *; omega
  ntrans x y z h1 h2 := by rw [ltS] at *; simp at *; omega

open Go.Shelf in
theorem totS (x y : NumS) (h1 : ltOf cfS x y = false) (h2 : ltOf cfS y x = false) : x = y := by
  rw [ltS] at h1 h2
  simp at h1 h2
  exact Subtype.ext (kI_inj (by omega))

def numL (zs : List Nat) (hq : ∀ z ∈ zs, isNum z) : List NumS := zs.attachWith isNum hq

theorem numL_val (zs : List Nat) (hq : ∀ z ∈ zs, isNum z) : (numL zs hq).map (·.1) = zs := by simp [numL]

theorem numL_len (zs : List Nat) (hq : ∀ z ∈ zs, isNum z) : (numL zs hq).length = zs.length := by simp [numL]

open Go.Shelf in
theorem sort_val (zs : List Nat) (hq : ∀ z ∈ zs, isNum z) : ((numL zs hq).mergeSort fun x y => !(ltOf cfS) y x).map (·.1) = sortS zs := by
  rw [List.map_mergeSort (s := fun x y => decide (kI x ≤ kI y)) (fun a _ b _ => by rw [ltS, Bool.eq_iff_iff]; simp), numL_val]
  rfl

theorem holds_num {W : World} {g : Nat} {zs : List Nat} (hq : ∀ z ∈ zs, isNum z) (h : Go.Sort.Holds (Value.float .f32) W g 0 zs.toArray) : Go.Sort.Holds encS W g 0 (numL zs hq).toArray := by
  intro j hj
  have hl := numL_len zs hq
  have hj1 : j < (numL zs hq).length := by simpa using hj
  have hj2 : j < zs.length := by rw [hl] at hj1; exact hj1
  have h1 := h j (by simpa using hj2)
  have e : ((numL zs hq).toArray[j]!).1 = zs.toArray[j]! := by
    simp [getElem!_pos, hj2, numL]
  unfold encS
  rw [e]; exact h1

set_option maxRecDepth 100000 in
set_option maxHeartbeats 4000000 in
theorem cmpS_lays (g size : Nat) (w : World) : Go.Proofs.CmpLays1 Try.prog 83 #[] encS cfS g 0 size w :=
  fun _ _ _ _ x y => compareNumbers_any x.1 y.1 x.2 y.2 _

set_option maxRecDepth 100000 in
set_option maxHeartbeats 1000000 in
theorem own_sorted {w : World} {base g cap n q : Nat} {os : Array Obj} {zs ys : List Nat} (ys' : List NumS) (h : w.ownsRow base 23 1 (.slice (some ⟨g, 0, none⟩) n cap) n (zs.map (Value.float .f32))) (hy : ys'.map (·.1) = ys) (hl : ys.length = n) :
    Own (Go.Sort.grow (Go.Sort.putRow encS (Go.Sort.ahead w q) g 0 ys'.toArray) os) base 23 (Value.float .f32) (.slice (some ⟨g, 0, none⟩) n cap) ys := by
  rcases h.2 with ⟨e0, _⟩ | ⟨g', cap', cur, e0, hb, hg, hn, hm, hs, _⟩
  · cases e0
  · injection e0 with e1 _ e3
    injection e1 with e1
    injection e1 with e1
    subst e1; subst e3
    have hlt := row_lt hg
    have hy' : ys'.length = n := by rw [← hl, ← hy, List.length_map]
    refine ⟨_, cap, by rw [hl], hm, by omega, .inr ⟨g, Go.Sort.putCells encS 0 ys'.toArray cur, rfl, hb, ?_, fun k hk => ?_⟩⟩
    · show (_ ++ os)[g]? = _
      rw [Array.getElem?_append_left (by simpa [Go.Sort.putRow, Go.Sort.mapBlock, Go.Sort.ahead] using hlt)]
      simp [Go.Sort.putRow, Go.Sort.mapBlock, Go.Sort.ahead, Array.getElem?_modify, hg, Go.Sort.onCells]
    · have hkc : k < cur.size := by omega
      have hk' : k < ys'.length := by omega
      simp only [Go.Sort.putCells, Array.getElem?_mapIdx, Array.getElem?_eq_getElem hkc, Option.map_some]
      rw [if_pos (by simp; omega), ← hy, List.getElem?_map, List.getElem?_eq_getElem hk']
      simp [getElem!_pos, hk', encS]

theorem below_grow6 {B : Nat} {w0 w : World} {os : Array Obj} (h : Below B w0 w) (hB : B ≤ w.heap.size) : Below B w0 (Go.Sort.grow w os) :=
  ⟨h.os, h.tape, h.output, by rw [Go.Sort.size_grow]; have := h.size; omega, fun k hk => by
    rw [← h.block k hk]
    show (w.heap ++ os)[k]? = _
    rw [Array.getElem?_append_left (by omega)]⟩

/-- A sorted list of the call's own. -/
def SortRet (zs : List Nat) (w : World) (e : Ending) (w' : World) : Prop := ∃ v, e = .returned v ∧ Own w' w.heap.size 23 (Value.float .f32) v (sortS zs) ∧ Below w.heap.size w w'

set_option maxRecDepth 100000 in
set_option maxHeartbeats 4000000 in
theorem sortedList_any (sv : Value) (zs : List Nat) (hq : ∀ z ∈ zs, PlnOk z) (hlen : zs.length ≤ 48) (w : World) (hz : FloatsAt w sv zs) : Calls Try.prog 65 #[sv] w (SortRet zs w) := by
  have HC := Lib.hid (copied_any sv zs hlen w hz)
  have hqn : ∀ z ∈ zs, isNum z := fun z h => (hq z h).1
  have hds : (numL zs hqn).toArray.size = zs.length := by simp [numL_len]
  have eg : ∀ args w, (callFunc 83 args).run Try.prog w = .ok (.enter 83 args) w := enters_of Try.func83 (by kernel_rfl) rfl
  have HS := Lib.hid (fun (g cap : Nat) (W : World) (hH : Go.Sort.Holds (Value.float .f32) W g 0 zs.toArray) (hg : g < W.heap.size) => Any.slices_SortFunc_total laySort encS (fun _ => rfl) cfS swoS 83 #[] g 0 cap (numL zs hqn).toArray W eg (cmpS_lays g _ W) (holds_num hqn hH) hg (by rw [hds]; omega) totS)
  rw [hds] at HS
  have HO := Lib.hid (fun (g cap q : Nat) (os : Array Obj) (W : World) (base : Nat) (h : W.ownsRow base 23 1 (.slice (some ⟨g, 0, none⟩) zs.length cap) zs.length (zs.map (Value.float .f32))) => own_sorted (q := q) (os := os) _ h (sort_val zs hqn) (sortS_len zs))
  clear hq hz hds eg
  generalize hL : numL zs hqn = nl at *
  clear hL
  go_enter Try.func65, Try.ntmps65
  go_wp2_with (first | (go_at_call 81; refine HC.out.mono ?_; rintro e w1 ⟨g, cap, rfl, hg, hgl, hnc, hcm, ho, hH, hb⟩; have HH := Lib.hid hH; have HOw := Lib.hid ho; clear hH ho) | (go_at_call 82; refine Calls.mono (show Calls Try.prog 82 #[.slice (some ⟨g, 0, none⟩) zs.length cap, .func (.func 83) #[] #[]] w1 _ from HS.out g cap w1 HH.out hgl) ?_; rintro e w2 ⟨rfl, n, os, hw⟩; have hb2 : Below w.heap.size w w2 := (by rw [hw]; exact below_grow6 (Go.Lib.below_putRow hb hg) (by have := hb.size; simp [Go.Sort.putRow, Go.Sort.mapBlock, Go.Sort.ahead]; omega)); have HF : Hid (Own w2 w.heap.size 23 (Value.float .f32) (.slice (some ⟨g, 0, none⟩) zs.length cap) (sortS zs)) := Lib.hid (by rw [hw]; exact HO.out g cap n os w1 _ HOw.out); clear hw HH))
  go_ret
  exact ⟨_, rfl, HF.out, hb2⟩

end Go.Proofs.Ytjpnbcfdnolcjab
