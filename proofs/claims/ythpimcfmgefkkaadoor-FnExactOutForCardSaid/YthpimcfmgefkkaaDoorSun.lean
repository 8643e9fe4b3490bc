/-
  Suns as values; copies of suns by the laws' helpers.
-/
import Derived.Test.YthpimcfmgefkkaaDoorRow
import Derived.Test.YthpimcfmgefkkaaDoorRows
import Derived.WalkKit
import Derived.WalkSpells
import Derived.WalkLawsBesides
import Derived.Lib.Hide
import Derived.Deep.Cut
import Derived.Deep.DeepCutAuto
namespace Go.Proofs.YthpimcfmgefkkaaDoor
open Go.RowKit

/-- Numbers of 16 bits as cells. -/
def i16s (xs : List Int) : Array Value := (xs.map (Value.int .i16)).toArray
@[simp] theorem i16s_size (xs : List Int) : (i16s xs).size = xs.length := by simp [i16s]

theorem i16s_get (xs : List Int) (k : Nat) (h : k < xs.length) : (i16s xs)[k]? = some (.int .i16 (xs[k]?.getD 0)) := by
  simp [i16s, h]

theorem i16s_one (xs : List Int) : ∀ v ∈ i16s xs, v.oneCell' = true := by
  intro v hv
  simp only [i16s, List.mem_toArray, List.mem_map] at hv
  obtain ⟨x, _, rfl⟩ := hv
  rfl

theorem i16s_set (xs : List Int) (k : Nat) (n : Int) : (i16s xs).setIfInBounds k (.int .i16 n) = i16s (xs.set k n) := by
  apply Array.ext'
  simp [i16s, List.map_set]

theorem copy_step (xs : List Int) (k : Nat) (hx : xs.length = 24) (hk : k < 24) :
    (xs.take k ++ List.replicate (24 - k) 0).set k (xs[k]?.getD 0) = xs.take (k + 1) ++ List.replicate (24 - (k + 1)) 0 := by
  apply List.ext_getElem?
  intro j
  simp only [List.getElem?_set, List.getElem?_append, List.length_take, List.getElem?_take, List.getElem?_replicate, List.length_append, List.length_replicate]
  by_cases h1 : k = j
  · subst h1
    simp [show k < 24 from hk, hx, show min k 24 + (24 - k) = 24 by omega, show min (k+1) 24 = k + 1 by omega]
  · rw [if_neg h1]
    by_cases h2 : j < k
    · simp [hx, show j < min k 24 by omega, show j < min (k+1) 24 by omega, show j < k + 1 by omega, h2]
    · simp only [hx, show ¬ j < min k 24 by omega, if_false, show ¬ j < min (k+1) 24 by omega]
      congr 1
      simp
      omega

theorem cell_of_i16s {w : World} {g : Nat} {xs : List Int} {t : TypeId} {fr : Nat × Nat} (hg : w.heap[g]? = some (.cells (i16s xs) t fr)) (k : Nat) (h : k < xs.length) :
    w.cell? ⟨g, k, none⟩ = some (.int .i16 (xs[k]?.getD 0)) := by
  rw [cell_of_row w g k _ t fr hg, i16s_get xs k h]

set_option maxRecDepth 100000 in
theorem info_arr : (Tryd.prog.info? 26).map (·.size) = some 24 := by kernel_rfl

theorem zeros24 : (#[.int .i16 0, .int .i16 0, .int .i16 0, .int .i16 0, .int .i16 0, .int .i16 0, .int .i16 0, .int .i16 0, .int .i16 0, .int .i16 0, .int .i16 0, .int .i16 0, .int .i16 0, .int .i16 0, .int .i16 0, .int .i16 0, .int .i16 0, .int .i16 0, .int .i16 0, .int .i16 0, .int .i16 0, .int .i16 0, .int .i16 0, .int .i16 0] : Array Value) = i16s (List.replicate 24 0) := rfl

theorem i16s_all (xs : List Int) (n : Nat) (h : xs.length = n) : (i16s xs).extract 0 (0 + n) = i16s xs := by
  have e : n = (i16s xs).size := by simp [h]
  rw [Nat.zero_add, e, Array.extract_size]

theorem laid_all (cs vs : Array Value) (h : cs.size = vs.size) : laid cs vs 0 = vs := by
  apply Array.ext'
  simp [laid]
  rw [← h]; simp

theorem heap_alloc (w : World) (o : Obj) (i : Nat) : (w.alloc o).heap[i]? = if i = w.heap.size then some o else w.heap[i]? := by
  show (w.heap.push o)[i]? = _
  exact Array.getElem?_push

set_option maxRecDepth 100000 in
set_option maxHeartbeats 400000 in
theorem toA_any (xs : List Int) (hx : xs.length = 24) (w : World) :
    Calls Tryd.prog 12 #[.agg (i16s xs)] w fun e w' => e = .returned (.agg (i16s xs)) ∧ Below w.heap.size w w' := by
  have Hx := Lib.hid hx
  clear hx
  go_enter Tryd.func12, Tryd.ntmps12
  go_wp2
  go_loopw [4] (fun i wr => ∃ k : Nat, k ≤ 24 ∧ i = .int .i64 k ∧ Below w.heap.size w wr ∧ wr.heap.size = w.heap.size + 3 ∧ wr.heap[w.heap.size]? = some (.cells (i16s xs) 26 (0, 0)) ∧ wr.heap[w.heap.size + 1]? = some (.cells (i16s (List.replicate 24 0)) 26 (0, 0)) ∧ wr.heap[w.heap.size + 1 + 1]? = some (.cells (i16s (xs.take k ++ List.replicate (24 - k) 0)) 26 (0, 0))) (fun i _ => 24 - (intOf i).toNat)
  case atStart =>
    refine ⟨0, Nat.zero_le _, rfl, ?_, ?_, ?_, ?_, ?_⟩
    · exact (((Below.refl _ _).alloc (Nat.le_refl _) _).alloc (by simp) _).alloc (by simp; omega) _
    · simp
    all_goals simp only [heap_alloc, World.size_alloc]
    · rw [if_neg (by omega), if_neg (by omega), if_true]
    · rw [if_neg (by omega), if_true]; rfl
    · rw [if_true]; rfl
  case round =>
    obtain ⟨k, hk, rfl, hb, hs, h0, h1, h2⟩ := hrel
    by_cases hlt : k < 24
    · have hc := cell_of_i16s h0 k (by rw [Hx.out]; exact hlt)
      have hl2 : (xs.take k ++ List.replicate (24 - k) (0 : Int)).length = 24 := by simp [Hx.out]; omega
      have hd := cell_of_i16s h2 k (by rw [hl2]; exact hlt)
      have hf := frozen_of_row wr (w.heap.size + 1 + 1) k _ _ h2
      have H2 := Lib.hid h2
      have H0 := Lib.hid h0
      have H1 := Lib.hid h1
      have Hl2 := Lib.hid hl2
      have Hs := Lib.hid hs
      clear h0 h1 h2 hl2 hs
      go_wp2
      go_roundw
      case rel =>
        refine ⟨k + 1, by omega, by go_num, hb.setCell (by simp; omega) _, ?_, ?_, ?_, ?_⟩
        · rw [← Hs.out]; simp
        · rw [heap_setCell_other _ _ _ _ (by simp; omega)]; exact H0.out
        · rw [heap_setCell_other _ _ _ _ (by simp)]; exact H1.out
        · rw [heap_setCell_same _ _ _ _ _ _ H2.out, i16s_set, copy_step xs k Hx.out hlt]
      case measure => simp [intOf]; omega
    · obtain rfl : k = 24 := by omega
      have e24 : xs.take 24 ++ List.replicate (24 - 24) (0 : Int) = xs := by simp [← Hx.out]
      rw [e24] at h2
      have H2 := Lib.hid h2
      have H1 := Lib.hid h1
      have Hs := Lib.hid hs
      clear h0 h1 h2 hs e24 hlt hk
      go_wp2_with (first | (refine wpList_load_part rfl 26 _ rfl _ _ 24 rfl _ _ _ _ H2.out Tryd.underlying26 rfl info_arr ?hsz _ (i16s_all xs 24 Hx.out) ?_; case hsz => simp [Hx.out]) | (refine wpList_store_part rfl 26 _ _ rfl _ _ _ rfl rfl _ _ H1.out (by rw [i16s_size, Hx.out]; exact info_arr) (by simp [Hx.out]) (i16s_one _) ?_; rw [laid_all _ _ (by simp [Hx.out])]))
      exact bodyPost_ret (results_cell_row rfl _ _ _ _ _ _ _ rfl (setRow_heap _ _ _ _ _ _ H1.out) Tryd.underlying26 rfl (by rw [i16s_size, Hx.out]; exact info_arr)) rfl ⟨rfl, below_setRow hb (by omega) _⟩


/-- A sun as a value: 24 heights, 24 turns. -/
def sunC (hs ts : List Int) : Array Value := i16s (hs ++ ts)

theorem sunC_size (hs ts : List Int) (h : hs.length = 24) (t : ts.length = 24) : (sunC hs ts).size = 48 := by simp [sunC, h, t]

theorem sun_fits (hs ts : List Int) (h : hs.length = 24) (t : ts.length = 24) : 0 + 48 ≤ (sunC hs ts).size := by rw [sunC_size _ _ h t]; decide

theorem sun_all (hs ts : List Int) (h : hs.length = 24) (t : ts.length = 24) : (sunC hs ts).extract 0 (0 + 48) = sunC hs ts := i16s_all _ 48 (by rw [List.length_append, h, t])

theorem sunC_fst (hs ts : List Int) (h : hs.length = 24) : (sunC hs ts).extract 0 (0 + 24) = i16s hs := by
  apply Array.ext'
  simp [sunC, i16s, ← h]

theorem sunC_snd (hs ts : List Int) (h : hs.length = 24) (t : ts.length = 24) : (sunC hs ts).extract 24 (24 + 24) = i16s ts := by
  apply Array.ext'
  have e : 24 = (List.map (Value.int .i16) ts).length := by simp [t]
  simp only [sunC, i16s, List.map_append, List.extract_toArray, List.extract_eq_take_drop]
  rw [List.drop_append_of_le_length (by simp [h]), List.drop_of_length_le (by simp [h]), List.nil_append, List.take_of_length_le (by simp [t])]

theorem laid_fst (hs ts us : List Int) (h : hs.length = 24) (u : us.length = 24) : laid (sunC hs ts) (i16s us) 0 = sunC us ts := by
  apply Array.ext'
  simp [laid, sunC, i16s, u, h]

theorem laid_snd (hs ts us : List Int) (h : hs.length = 24) (t : ts.length = 24) (u : us.length = 24) : laid (sunC hs ts) (i16s us) 24 = sunC hs us := by
  apply Array.ext'
  simp [laid, sunC, i16s, u, h, t]

set_option maxRecDepth 100000 in
theorem info_sunL : (Tryd.prog.info? 28).map (·.size) = some 48 := by kernel_rfl

set_option maxRecDepth 100000 in
theorem info_sun : (Tryd.prog.info? 33).map (·.size) = some 48 := by kernel_rfl

def zer : List Int := List.replicate 24 0

theorem zer_length : zer.length = 24 := rfl

theorem abs_code {P : Program} {c : Code} {Q : Exit → Act → World → Prop} {a : Act} {w : World} (R : World → Prop) (hw : R w) (h : ∀ W, R W → Code.wp P c Q a W) : Code.wp P c Q a w := h w hw

set_option maxRecDepth 100000 in
set_option maxHeartbeats 400000 in
theorem toSun_any (hs ts : List Int) (hh : hs.length = 24) (ht : ts.length = 24) (w : World) :
    Calls Tryd.prog 6 #[.agg (sunC hs ts)] w fun e w' => e = .returned (.agg (sunC hs ts)) ∧ Below w.heap.size w w' := by
  have Hh := Lib.hid hh
  have Ht := Lib.hid ht
  clear hh ht
  go_enter Tryd.func6, Tryd.ntmps6
  go_upto_region 2 with (fail)
  refine abs_code (fun W => Below w.heap.size w W ∧ w.heap.size + 3 ≤ W.heap.size ∧ W.heap[w.heap.size]? = some (.cells (sunC hs ts) 28 (0, 0)) ∧ W.heap[w.heap.size + 1]? = some (.cells (sunC zer zer) 33 (0, 0)) ∧ W.heap[w.heap.size + 1 + 1]? = some (.cells (sunC zer zer) 33 (0, 0))) ?_ ?_
  · refine ⟨(((Below.refl _ _).alloc (Nat.le_refl _) _).alloc (by simp) _).alloc (by simp; omega) _, by simp, ?_, ?_, ?_⟩
    all_goals simp only [heap_alloc, World.size_alloc]
    · rw [if_neg (by omega), if_neg (by omega), if_true]
    · rw [if_neg (by omega), if_true]; rfl
    · rw [if_true]; rfl
  rintro W ⟨hb, hs0, h0, h1, h2⟩
  have H0 := Lib.hid h0
  have H1 := Lib.hid h1
  have H2 := Lib.hid h2
  clear h0 h1 h2
  go_upto_region 3 with (first | (refine wpList_load_part rfl 26 _ rfl w.heap.size 0 24 rfl 28 (sunC hs ts) (0, 0) _ H0.out Tryd.underlying26 rfl info_arr (by rw [sunC_size _ _ Hh.out Ht.out]; decide) _ (sunC_fst hs ts Hh.out) ?_) | (go_at_call 12; refine (toA_any hs Hh.out _).mono ?_; rintro e W1 ⟨rfl, hb1⟩; replace H0 := Lib.hid (below_row hb1 H0.out); replace H1 := Lib.hid (below_row hb1 H1.out); replace H2 := Lib.hid (below_row hb1 H2.out); replace hs0 := Nat.le_trans hs0 hb1.size; replace hb := hb.trans (hb1.mono hb.size); clear hb1) | (refine wpList_store_part rfl 26 _ _ rfl (w.heap.size + 1 + 1) 0 (i16s hs) rfl rfl 33 (sunC zer zer) H2.out (by rw [i16s_size, Hh.out]; exact info_arr) (by rw [i16s_size, sunC_size _ _ zer_length zer_length, Hh.out]; decide) (i16s_one _) ?_; rw [laid_fst _ _ _ zer_length Hh.out]))
  refine abs_code (fun W => Below w.heap.size w W ∧ w.heap.size + 3 ≤ W.heap.size ∧ W.heap[w.heap.size]? = some (.cells (sunC hs ts) 28 (0, 0)) ∧ W.heap[w.heap.size + 1]? = some (.cells (sunC zer zer) 33 (0, 0)) ∧ W.heap[w.heap.size + 1 + 1]? = some (.cells (sunC hs zer) 33 (0, 0))) ?_ ?_
  · exact ⟨below_setRow hb (by omega) _, by simpa using hs0, (setRow_other _ _ _ _ (by omega)).trans H0.out, (setRow_other _ _ _ _ (by omega)).trans H1.out, setRow_heap _ _ _ _ _ _ H2.out⟩
  clear H0 H1 H2 hb hs0
  rintro W ⟨hb, hs0, h0, h1, h2⟩
  have H0 := Lib.hid h0
  have H1 := Lib.hid h1
  have H2 := Lib.hid h2
  clear h0 h1 h2
  go_upto_region 4 with (first | (refine wpList_load_part rfl 26 _ rfl w.heap.size 24 24 rfl 28 (sunC hs ts) (0, 0) _ H0.out Tryd.underlying26 rfl info_arr (by rw [sunC_size _ _ Hh.out Ht.out]; decide) _ (sunC_snd hs ts Hh.out Ht.out) ?_) | (go_at_call 12; refine (toA_any ts Ht.out _).mono ?_; rintro e W1 ⟨rfl, hb1⟩; replace H0 := Lib.hid (below_row hb1 H0.out); replace H1 := Lib.hid (below_row hb1 H1.out); replace H2 := Lib.hid (below_row hb1 H2.out); replace hs0 := Nat.le_trans hs0 hb1.size; replace hb := hb.trans (hb1.mono hb.size); clear hb1) | (refine wpList_store_part rfl 26 _ _ rfl (w.heap.size + 1 + 1) 24 (i16s ts) rfl rfl 33 (sunC hs zer) H2.out (by rw [i16s_size, Ht.out]; exact info_arr) (by rw [i16s_size, sunC_size _ _ Hh.out zer_length, Ht.out]; decide) (i16s_one _) ?_; rw [laid_snd _ _ _ Hh.out zer_length Ht.out]))
  refine abs_code (fun W => Below w.heap.size w W ∧ w.heap.size + 3 ≤ W.heap.size ∧ W.heap[w.heap.size]? = some (.cells (sunC hs ts) 28 (0, 0)) ∧ W.heap[w.heap.size + 1]? = some (.cells (sunC zer zer) 33 (0, 0)) ∧ W.heap[w.heap.size + 1 + 1]? = some (.cells (sunC hs ts) 33 (0, 0))) ?_ ?_
  · exact ⟨below_setRow hb (by omega) _, by simpa using hs0, (setRow_other _ _ _ _ (by omega)).trans H0.out, (setRow_other _ _ _ _ (by omega)).trans H1.out, setRow_heap _ _ _ _ _ _ H2.out⟩
  clear H0 H1 H2 hb hs0
  rintro W ⟨hb, hs0, h0, h1, h2⟩
  have H1 := Lib.hid h1
  have H2 := Lib.hid h2
  clear h0 h1 h2
  have Hsz := Lib.hid (sunC_size hs ts Hh.out Ht.out)
  go_wp2_with (first | (refine wpList_load_part rfl 33 _ rfl (w.heap.size + 1 + 1) 0 48 rfl 33 (sunC hs ts) (0, 0) _ H2.out Tryd.underlying33 rfl info_sun (by rw [Hsz.out]; decide) _ (i16s_all _ 48 (by simpa [sunC] using Hsz.out)) ?_) | (refine wpList_store_part rfl 33 _ _ rfl (w.heap.size + 1) 0 (i16s (hs ++ ts)) rfl rfl 33 (sunC zer zer) H1.out (by rw [i16s_size, List.length_append, Hh.out, Ht.out]; exact info_sun) (by simp [sunC, zer_length, Hh.out, Ht.out]) (i16s_one _) ?_; rw [laid_all _ _ (by simp [sunC, zer_length, Hh.out, Ht.out])]))
  exact bodyPost_ret (v := .agg (i16s (hs ++ ts))) (results_cell_row rfl _ _ _ _ _ _ _ rfl (setRow_heap _ _ _ _ _ _ H1.out) Tryd.underlying33 rfl (by rw [i16s_size, List.length_append, Hh.out, Ht.out]; exact info_sun)) rfl ⟨rfl, below_setRow hb (by omega) _⟩

end Go.Proofs.YthpimcfmgefkkaaDoor
