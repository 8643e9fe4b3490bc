/-
  Floors: 24 narrow numbers; their copies, and those that come in as arguments.
-/
import Derived.Test.YtmniodfdoidffaaDoorPnA
import Derived.Test.YtmniodfdoidffaaDoorFlA
namespace Go.Proofs.YtmniodfdoidffaaDoor
open Go.ChangeShapes Go.WideShapes Go.ChangeAt Go.RowKit

attribute [local go_sem] run_store_f

/-- Narrow numbers as cells. -/
def f32s (xs : List Nat) : Array Value := (xs.map (Value.float .f32)).toArray
@[simp] theorem f32s_size (xs : List Nat) : (f32s xs).size = xs.length := by simp [f32s]

theorem f32s_get (xs : List Nat) (k : Nat) (h : k < xs.length) : (f32s xs)[k]? = some (.float .f32 (xs[k]?.getD 0)) := by
  simp [f32s, h]

theorem f32s_one (xs : List Nat) : ∀ v ∈ f32s xs, v.oneCell' = true := by
  intro v hv
  simp only [f32s, List.mem_toArray, List.mem_map] at hv
  obtain ⟨x, _, rfl⟩ := hv
  rfl

theorem f32s_set (xs : List Nat) (k : Nat) (n : Nat) : (f32s xs).setIfInBounds k (.float .f32 n) = f32s (xs.set k n) := by
  apply Array.ext'
  simp [f32s, List.map_set]

theorem copy_stepF (xs : List Nat) (k : Nat) (hx : xs.length = 24) (hk : k < 24) :
    (xs.take k ++ List.replicate (24 - k) 0).set k (xs[k]?.getD 0) = xs.take (k + 1) ++ List.replicate (24 - (k + 1)) 0 := by
  apply List.ext_getElem?
  intro j
  simp only [List.getElem?_set, List.getElem?_append, List.length_take, List.getElem?_take, List.getElem?_replicate, List.length_append, List.length_replicate]
  by_cases h1 : k = j
  · subst h1
    simp [show k < 24 from hk, hx, show min k 24 + (24 - k) = 24 by omega, show min (k+1) 24 = k + 1 by omega]
  · rw [if_neg h1]
    by_cases h2 : j < k
    · simp [hx, show j < min k 24 by omega, show j < min (k+1) 24 by omega, show j < k + 1 by omega, h2]
    · simp only [hx, show ¬ j < min k 24 by omega, if_false, show ¬ j < min (k+1) 24 by omega]
      congr 1
      simp
      omega

theorem cell_of_f32s {w : World} {g : Nat} {xs : List Nat} {t : TypeId} {fr : Nat × Nat} (hg : w.heap[g]? = some (.cells (f32s xs) t fr)) (k : Nat) (h : k < xs.length) :
    w.cell? ⟨g, k, none⟩ = some (.float .f32 (xs[k]?.getD 0)) := by
  rw [cell_of_row w g k _ t fr hg, f32s_get xs k h]

set_option maxRecDepth 100000 in
theorem info_farr : (Tryd.prog.info? 55).map (·.size) = some 24 := by kernel_rfl

set_option maxRecDepth 100000 in
theorem info_floor : (Tryd.prog.info? 61).map (·.size) = some 24 := by kernel_rfl

theorem zerosF : (#[.float .f32 0, .float .f32 0, .float .f32 0, .float .f32 0, .float .f32 0, .float .f32 0, .float .f32 0, .float .f32 0, .float .f32 0, .float .f32 0, .float .f32 0, .float .f32 0, .float .f32 0, .float .f32 0, .float .f32 0, .float .f32 0, .float .f32 0, .float .f32 0, .float .f32 0, .float .f32 0, .float .f32 0, .float .f32 0, .float .f32 0, .float .f32 0] : Array Value) = f32s (List.replicate 24 0) := rfl

theorem f32s_all (xs : List Nat) (n : Nat) (h : xs.length = n) : (f32s xs).extract 0 (0 + n) = f32s xs := by
  have e : n = (f32s xs).size := by simp [h]
  rw [Nat.zero_add, e, Array.extract_size]

set_option maxRecDepth 100000 in
set_option maxHeartbeats 400000 in
theorem toFloor_any (xs : List Nat) (hx : xs.length = 24) (w : World) :
    Calls Tryd.prog 36 #[.agg (f32s xs)] w fun e w' => e = .returned (.agg (f32s xs)) ∧ Below w.heap.size w w' := by
  have Hx := Lib.hid hx
  clear hx
  go_enter Tryd.func36, Tryd.ntmps36
  go_wp2
  go_loopw [4] (fun i wr => ∃ k : Nat, k ≤ 24 ∧ i = .int .i64 k ∧ Below w.heap.size w wr ∧ wr.heap.size = w.heap.size + 3 ∧ wr.heap[w.heap.size]? = some (.cells (f32s xs) 55 (0, 0)) ∧ wr.heap[w.heap.size + 1]? = some (.cells (f32s (List.replicate 24 0)) 61 (0, 0)) ∧ wr.heap[w.heap.size + 1 + 1]? = some (.cells (f32s (xs.take k ++ List.replicate (24 - k) 0)) 61 (0, 0))) (fun i _ => 24 - (intOf i).toNat)
  case atStart =>
    refine ⟨0, Nat.zero_le _, rfl, ?_, ?_, ?_, ?_, ?_⟩
    · exact (((Below.refl _ _).alloc (Nat.le_refl _) _).alloc (by simp) _).alloc (by simp; omega) _
    · simp
    all_goals simp only [heap_alloc, World.size_alloc]
    · rw [if_neg (by omega), if_neg (by omega), if_true]
    · rw [if_neg (by omega), if_true]; rfl
    · rw [if_true]; rfl
  case round =>
    obtain ⟨k, hk, rfl, hb, hs, h0, h1, h2⟩ := hrel
    by_cases hlt : k < 24
    · have hc := cell_of_f32s h0 k (by rw [Hx.out]; exact hlt)
      have hl2 : (xs.take k ++ List.replicate (24 - k) (0 : Nat)).length = 24 := by simp [Hx.out]; omega
      have hd := cell_of_f32s h2 k (by rw [hl2]; exact hlt)
      have hf := frozen_of_row wr (w.heap.size + 1 + 1) k _ _ h2
      have H2 := Lib.hid h2
      have H0 := Lib.hid h0
      have H1 := Lib.hid h1
      have Hl2 := Lib.hid hl2
      have Hs := Lib.hid hs
      clear h0 h1 h2 hl2 hs
      go_wp2
      go_roundw
      case rel =>
        refine ⟨k + 1, by omega, by go_num, hb.setCell (by simp; omega) _, ?_, ?_, ?_, ?_⟩
        · rw [← Hs.out]; simp
        · rw [heap_setCell_other _ _ _ _ (by simp; omega)]; exact H0.out
        · rw [heap_setCell_other _ _ _ _ (by simp)]; exact H1.out
        · rw [heap_setCell_same _ _ _ _ _ _ H2.out, f32s_set, copy_stepF xs k Hx.out hlt]
      case measure => simp [intOf]; omega
    · obtain rfl : k = 24 := by omega
      have e24 : xs.take 24 ++ List.replicate (24 - 24) (0 : Nat) = xs := by simp [← Hx.out]
      rw [e24] at h2
      have H2 := Lib.hid h2
      have H1 := Lib.hid h1
      have Hs := Lib.hid hs
      clear h0 h1 h2 hs e24 hlt hk
      go_wp2_with (first | (refine wpList_load_part rfl 61 _ rfl _ _ 24 rfl _ _ _ _ H2.out Tryd.underlying61 rfl info_floor ?hsz _ (f32s_all xs 24 Hx.out) ?_; case hsz => simp [Hx.out]) | (refine wpList_store_part rfl 61 _ _ rfl _ _ _ rfl rfl _ _ H1.out (by rw [f32s_size, Hx.out]; exact info_floor) (by simp [Hx.out]) (f32s_one _) ?_; rw [laid_all _ _ (by simp [Hx.out])]))
      exact bodyPost_ret (results_cell_row rfl _ _ _ _ _ _ _ rfl (setRow_heap _ _ _ _ _ _ H1.out) Tryd.underlying61 rfl (by rw [f32s_size, Hx.out]; exact info_floor)) rfl ⟨rfl, below_setRow hb (by omega) _⟩

set_option maxRecDepth 100000 in
theorem cells_farr : Tryd.prog.cellsOf 55 = 24 := by kernel_rfl

set_option maxRecDepth 100000 in
theorem cells_f32 : Tryd.prog.cellsOf 25 = 1 := by kernel_rfl

def rdF : Value → Nat | .float _ n => n | _ => 0

set_option maxRecDepth 100000 in
theorem open_farr {H : Type} {enc : TypeId × Value → H} {W : World} {base : Nat} {spare : Nat → Bool} {held : Bool} {fuel : Nat} {cs : List Value} {x : DataW H × List MemPlace}
    (h : DataW.trod enc Tryd.prog W base spare held fuel 55 cs = some x) : ∀ i, i < 24 → ∃ n, cs[i]? = some (.float .f32 n) ∧ (Lit.float .f32 n).wf = true := by
  obtain ⟨xs, m, _, _, hl, hlen, hf⟩ := Go.DataW.trod_array Tryd.underlying55 h
  rw [cells_farr] at hl
  intro i hi
  have h1 := hf i hi
  rw [cells_f32, Nat.mul_one] at h1
  rw [List.getElem?_eq_getElem (by omega : i < xs.length)] at h1
  obtain ⟨n, hn, hw⟩ := trod_f Tryd.underlying25 h1
  refine ⟨n, ?_, hw⟩
  have h2 : ((cs.drop i).take 1)[0]? = some (.float .f32 n) := by rw [hn]; rfl
  rw [List.getElem?_take_of_lt (by decide), List.getElem?_drop] at h2
  simpa using h2

set_option maxRecDepth 100000 in
theorem open_floor {H : Type} {enc : TypeId × Value → H} {W : World} {b0 base : Nat} {spare : Nat → Bool} {held : Bool} {r : Reach} {v : Value} {d : DataW H} {p : List MemPlace}
    (hv : Value.okWide Tryd.prog W r b0 55 v) (h : DataW.Trod enc Tryd.prog W base spare held 55 v d p) :
    ∃ xs : List Nat, xs.length = 24 ∧ (∀ x ∈ xs, (Lit.float .f32 x).wf = true) ∧ v = .agg (f32s xs) := by
  obtain ⟨cs, rfl, hsz⟩ := okWide_array Tryd.underlying55 hv
  rw [cells_farr] at hsz
  obtain ⟨fuel, hf⟩ := h
  have hall : ∀ i, i < 24 → ∃ n, cs.toList[i]? = some (.float .f32 n) ∧ (Lit.float .f32 n).wf = true := open_farr hf
  have hlen : cs.toList.length = 24 := by simpa using hsz
  refine ⟨cs.toList.map rdF, by simpa using hlen, ?_, ?_⟩
  · intro x hx
    obtain ⟨i, hi, rfl⟩ := List.mem_iff_getElem.1 hx
    simp only [List.length_map] at hi
    obtain ⟨n, hn, hb⟩ := hall i (by omega)
    rw [List.getElem?_eq_getElem hi] at hn
    simp only [List.getElem_map]
    have : cs.toList[i] = .float .f32 n := by injection hn
    rw [this]; exact hb
  · congr 1
    apply Array.ext'
    simp only [f32s, List.map_map]
    apply List.ext_getElem?
    intro i
    by_cases c : i < 24
    · obtain ⟨n, hn, _⟩ := hall i c
      rw [hn, List.getElem?_map, hn]; rfl
    · rw [List.getElem?_eq_none (by omega), List.getElem?_eq_none (by simp; omega)]

end Go.Proofs.YtmniodfdoidffaaDoor
