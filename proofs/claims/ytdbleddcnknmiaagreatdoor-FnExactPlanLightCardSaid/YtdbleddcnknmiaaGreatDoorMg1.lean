/-
  Sun, CdD, Open, Eq, PnA, Ok, Agg, Blind, Plain, Wide, Mul, Rnd, Sgn, Bok, Blk, PnV.
-/
import Derived.Test.YtdbleddcnknmiaaGreatDoorRow
import Derived.Test.YtdbleddcnknmiaaGreatDoorRows
import Derived.WalkKit
import Derived.WalkSpells
import Derived.WalkLawsBesides
import Derived.Lib.Hide
import Derived.Deep.Cut
import Derived.Deep.DeepCutAuto
import Derived.Test.YtdbleddcnknmiaaGreatDoorAsE
import Derived.Test.YtdbleddcnknmiaaGreatDoorLaw
import Derived.Laws.StructEq
import Derived.Lib.SmallJoins
import Derived.Laws.FloatArith

namespace Go.Proofs.YtdbleddcnknmiaaGreatDoor
open Go.RowKit

/-- Numbers of 16 bits as cells. -/
def i16s (xs : List Int) : Array Value := (xs.map (Value.int .i16)).toArray
@[simp] theorem i16s_size (xs : List Int) : (i16s xs).size = xs.length := by simp [i16s]

theorem i16s_get (xs : List Int) (k : Nat) (h : k < xs.length) : (i16s xs)[k]? = some (.int .i16 (xs[k]?.getD 0)) := by
  simp [i16s, h]

theorem i16s_one (xs : List Int) : ∀ v ∈ i16s xs, v.oneCell' = true := by
  intro v hv
  simp only [i16s, List.mem_toArray, List.mem_map] at hv
  obtain ⟨x, _, rfl⟩ := hv
  rfl

theorem i16s_set (xs : List Int) (k : Nat) (n : Int) : (i16s xs).setIfInBounds k (.int .i16 n) = i16s (xs.set k n) := by
  apply Array.ext'
  simp [i16s, List.map_set]

theorem copy_step (xs : List Int) (k : Nat) (hx : xs.length = 24) (hk : k < 24) :
    (xs.take k ++ List.replicate (24 - k) 0).set k (xs[k]?.getD 0) = xs.take (k + 1) ++ List.replicate (24 - (k + 1)) 0 := by
  apply List.ext_getElem?
  intro j
  simp only [List.getElem?_set, List.getElem?_append, List.length_take, List.getElem?_take, List.getElem?_replicate, List.length_append, List.length_replicate]
  by_cases h1 : k = j
  · subst h1
    simp [show k < 24 from hk, hx, show min k 24 + (24 - k) = 24 by omega, show min (k+1) 24 = k + 1 by omega]
  · rw [if_neg h1]
    by_cases h2 : j < k
    · simp [hx, show j < min k 24 by omega, show j < min (k+1) 24 by omega, show j < k + 1 by omega, h2]
    · simp only [hx, show ¬ j < min k 24 by omega, if_false, show ¬ j < min (k+1) 24 by omega]
      congr 1
      simp
      omega

theorem cell_of_i16s {w : World} {g : Nat} {xs : List Int} {t : TypeId} {fr : Nat × Nat} (hg : w.heap[g]? = some (.cells (i16s xs) t fr)) (k : Nat) (h : k < xs.length) :
    w.cell? ⟨g, k, none⟩ = some (.int .i16 (xs[k]?.getD 0)) := by
  rw [cell_of_row w g k _ t fr hg, i16s_get xs k h]

set_option maxRecDepth 100000 in
theorem info_arr : (Tryz.prog.info? 27).map (·.size) = some 24 := by kernel_rfl

theorem zeros24 : (#[.int .i16 0, .int .i16 0, .int .i16 0, .int .i16 0, .int .i16 0, .int .i16 0, .int .i16 0, .int .i16 0, .int .i16 0, .int .i16 0, .int .i16 0, .int .i16 0, .int .i16 0, .int .i16 0, .int .i16 0, .int .i16 0, .int .i16 0, .int .i16 0, .int .i16 0, .int .i16 0, .int .i16 0, .int .i16 0, .int .i16 0, .int .i16 0] : Array Value) = i16s (List.replicate 24 0) := rfl

theorem i16s_all (xs : List Int) (n : Nat) (h : xs.length = n) : (i16s xs).extract 0 (0 + n) = i16s xs := by
  have e : n = (i16s xs).size := by simp [h]
  rw [Nat.zero_add, e, Array.extract_size]

theorem laid_all (cs vs : Array Value) (h : cs.size = vs.size) : laid cs vs 0 = vs := by
  apply Array.ext'
  simp [laid]
  rw [← h]; simp

theorem heap_alloc (w : World) (o : Obj) (i : Nat) : (w.alloc o).heap[i]? = if i = w.heap.size then some o else w.heap[i]? := by
  show (w.heap.push o)[i]? = _
  exact Array.getElem?_push

set_option maxRecDepth 100000 in
set_option maxHeartbeats 400000 in
theorem toA_any (xs : List Int) (hx : xs.length = 24) (w : World) :
    Calls Tryz.prog 27 #[.agg (i16s xs)] w fun e w' => e = .returned (.agg (i16s xs)) ∧ Below w.heap.size w w' := by
  have Hx := Lib.hid hx
  clear hx
  go_enter Tryz.func27, Tryz.ntmps27
  go_wp2
  go_loopw [4] (fun i wr => ∃ k : Nat, k ≤ 24 ∧ i = .int .i64 k ∧ Below w.heap.size w wr ∧ wr.heap.size = w.heap.size + 3 ∧ wr.heap[w.heap.size]? = some (.cells (i16s xs) 27 (0, 0)) ∧ wr.heap[w.heap.size + 1]? = some (.cells (i16s (List.replicate 24 0)) 27 (0, 0)) ∧ wr.heap[w.heap.size + 1 + 1]? = some (.cells (i16s (xs.take k ++ List.replicate (24 - k) 0)) 27 (0, 0))) (fun i _ => 24 - (intOf i).toNat)
  case atStart =>
    refine ⟨0, Nat.zero_le _, rfl, ?_, ?_, ?_, ?_, ?_⟩
    · exact (((Below.refl _ _).alloc (Nat.le_refl _) _).alloc (by simp) _).alloc (by simp; omega) _
    · simp
    all_goals simp only [heap_alloc, World.size_alloc]
    · rw [if_neg (by omega), if_neg (by omega), if_true]
    · rw [if_neg (by omega), if_true]; rfl
    · rw [if_true]; rfl
  case round =>
    obtain ⟨k, hk, rfl, hb, hs, h0, h1, h2⟩ := hrel
    by_cases hlt : k < 24
    · have hc := cell_of_i16s h0 k (by rw [Hx.out]; exact hlt)
      have hl2 : (xs.take k ++ List.replicate (24 - k) (0 : Int)).length = 24 := by simp [Hx.out]; omega
      have hd := cell_of_i16s h2 k (by rw [hl2]; exact hlt)
      have hf := frozen_of_row wr (w.heap.size + 1 + 1) k _ _ h2
      have H2 := Lib.hid h2
      have H0 := Lib.hid h0
      have H1 := Lib.hid h1
      have Hl2 := Lib.hid hl2
      have Hs := Lib.hid hs
      clear h0 h1 h2 hl2 hs
      go_wp2
      go_roundw
      case rel =>
        refine ⟨k + 1, by omega, by go_num, hb.setCell (by simp; omega) _, ?_, ?_, ?_, ?_⟩
        · rw [← Hs.out]; simp
        · rw [heap_setCell_other _ _ _ _ (by simp; omega)]; exact H0.out
        · rw [heap_setCell_other _ _ _ _ (by simp)]; exact H1.out
        · rw [heap_setCell_same _ _ _ _ _ _ H2.out, i16s_set, copy_step xs k Hx.out hlt]
      case measure => simp [intOf]; omega
    · obtain rfl : k = 24 := by omega
      have e24 : xs.take 24 ++ List.replicate (24 - 24) (0 : Int) = xs := by simp [← Hx.out]
      rw [e24] at h2
      have H2 := Lib.hid h2
      have H1 := Lib.hid h1
      have Hs := Lib.hid hs
      clear h0 h1 h2 hs e24 hlt hk
      go_wp2_with (first | (refine wpList_load_part rfl 27 _ rfl _ _ 24 rfl _ _ _ _ H2.out Tryz.underlying27 rfl info_arr ?hsz _ (i16s_all xs 24 Hx.out) ?_; case hsz => simp [Hx.out]) | (refine wpList_store_part rfl 27 _ _ rfl _ _ _ rfl rfl _ _ H1.out (by rw [i16s_size, Hx.out]; exact info_arr) (by simp [Hx.out]) (i16s_one _) ?_; rw [laid_all _ _ (by simp [Hx.out])]))
      exact bodyPost_ret (results_cell_row rfl _ _ _ _ _ _ _ rfl (setRow_heap _ _ _ _ _ _ H1.out) Tryz.underlying27 rfl (by rw [i16s_size, Hx.out]; exact info_arr)) rfl ⟨rfl, below_setRow hb (by omega) _⟩


/-- A sun as a value: 24 heights, 24 turns. -/
def sunC (hs ts : List Int) : Array Value := i16s (hs ++ ts)

theorem sunC_size (hs ts : List Int) (h : hs.length = 24) (t : ts.length = 24) : (sunC hs ts).size = 48 := by simp [sunC, h, t]

theorem sun_fits (hs ts : List Int) (h : hs.length = 24) (t : ts.length = 24) : 0 + 48 ≤ (sunC hs ts).size := by rw [sunC_size _ _ h t]; decide

theorem sun_all (hs ts : List Int) (h : hs.length = 24) (t : ts.length = 24) : (sunC hs ts).extract 0 (0 + 48) = sunC hs ts := i16s_all _ 48 (by rw [List.length_append, h, t])

theorem sunC_fst (hs ts : List Int) (h : hs.length = 24) : (sunC hs ts).extract 0 (0 + 24) = i16s hs := by
  apply Array.ext'
  simp [sunC, i16s, ← h]

theorem sunC_snd (hs ts : List Int) (h : hs.length = 24) (t : ts.length = 24) : (sunC hs ts).extract 24 (24 + 24) = i16s ts := by
  apply Array.ext'
  have e : 24 = (List.map (Value.int .i16) ts).length := by simp [t]
  simp only [sunC, i16s, List.map_append, List.extract_toArray, List.extract_eq_take_drop]
  rw [List.drop_append_of_le_length (by simp [h]), List.drop_of_length_le (by simp [h]), List.nil_append, List.take_of_length_le (by simp [t])]

theorem laid_fst (hs ts us : List Int) (h : hs.length = 24) (u : us.length = 24) : laid (sunC hs ts) (i16s us) 0 = sunC us ts := by
  apply Array.ext'
  simp [laid, sunC, i16s, u, h]

theorem laid_snd (hs ts us : List Int) (h : hs.length = 24) (t : ts.length = 24) (u : us.length = 24) : laid (sunC hs ts) (i16s us) 24 = sunC hs us := by
  apply Array.ext'
  simp [laid, sunC, i16s, u, h, t]

set_option maxRecDepth 100000 in
theorem info_sunL : (Tryz.prog.info? 29).map (·.size) = some 48 := by kernel_rfl

set_option maxRecDepth 100000 in
theorem info_sun : (Tryz.prog.info? 35).map (·.size) = some 48 := by kernel_rfl

def zer : List Int := List.replicate 24 0

theorem zer_length : zer.length = 24 := rfl

theorem abs_code {P : Program} {c : Code} {Q : Exit → Act → World → Prop} {a : Act} {w : World} (R : World → Prop) (hw : R w) (h : ∀ W, R W → Code.wp P c Q a W) : Code.wp P c Q a w := h w hw

set_option maxRecDepth 100000 in
set_option maxHeartbeats 400000 in
theorem toSun_any (hs ts : List Int) (hh : hs.length = 24) (ht : ts.length = 24) (w : World) :
    Calls Tryz.prog 9 #[.agg (sunC hs ts)] w fun e w' => e = .returned (.agg (sunC hs ts)) ∧ Below w.heap.size w w' := by
  have Hh := Lib.hid hh
  have Ht := Lib.hid ht
  clear hh ht
  go_enter Tryz.func9, Tryz.ntmps9
  go_upto_region 2 with (fail)
  refine abs_code (fun W => Below w.heap.size w W ∧ w.heap.size + 3 ≤ W.heap.size ∧ W.heap[w.heap.size]? = some (.cells (sunC hs ts) 29 (0, 0)) ∧ W.heap[w.heap.size + 1]? = some (.cells (sunC zer zer) 35 (0, 0)) ∧ W.heap[w.heap.size + 1 + 1]? = some (.cells (sunC zer zer) 35 (0, 0))) ?_ ?_
  · refine ⟨(((Below.refl _ _).alloc (Nat.le_refl _) _).alloc (by simp) _).alloc (by simp; omega) _, by simp, ?_, ?_, ?_⟩
    all_goals simp only [heap_alloc, World.size_alloc]
    · rw [if_neg (by omega), if_neg (by omega), if_true]
    · rw [if_neg (by omega), if_true]; rfl
    · rw [if_true]; rfl
  rintro W ⟨hb, hs0, h0, h1, h2⟩
  have H0 := Lib.hid h0
  have H1 := Lib.hid h1
  have H2 := Lib.hid h2
  clear h0 h1 h2
  go_upto_region 3 with (first | (refine wpList_load_part rfl 27 _ rfl w.heap.size 0 24 rfl 29 (sunC hs ts) (0, 0) _ H0.out Tryz.underlying27 rfl info_arr (by rw [sunC_size _ _ Hh.out Ht.out]; decide) _ (sunC_fst hs ts Hh.out) ?_) | (go_at_call 27; refine (toA_any hs Hh.out _).mono ?_; rintro e W1 ⟨rfl, hb1⟩; replace H0 := Lib.hid (below_row hb1 H0.out); replace H1 := Lib.hid (below_row hb1 H1.out); replace H2 := Lib.hid (below_row hb1 H2.out); replace hs0 := Nat.le_trans hs0 hb1.size; replace hb := hb.trans (hb1.mono hb.size); clear hb1) | (refine wpList_store_part rfl 27 _ _ rfl (w.heap.size + 1 + 1) 0 (i16s hs) rfl rfl 35 (sunC zer zer) H2.out (by rw [i16s_size, Hh.out]; exact info_arr) (by rw [i16s_size, sunC_size _ _ zer_length zer_length, Hh.out]; decide) (i16s_one _) ?_; rw [laid_fst _ _ _ zer_length Hh.out]))
  refine abs_code (fun W => Below w.heap.size w W ∧ w.heap.size + 3 ≤ W.heap.size ∧ W.heap[w.heap.size]? = some (.cells (sunC hs ts) 29 (0, 0)) ∧ W.heap[w.heap.size + 1]? = some (.cells (sunC zer zer) 35 (0, 0)) ∧ W.heap[w.heap.size + 1 + 1]? = some (.cells (sunC hs zer) 35 (0, 0))) ?_ ?_
  · exact ⟨below_setRow hb (by omega) _, by simpa using hs0, (setRow_other _ _ _ _ (by omega)).trans H0.out, (setRow_other _ _ _ _ (by omega)).trans H1.out, setRow_heap _ _ _ _ _ _ H2.out⟩
  clear H0 H1 H2 hb hs0
  rintro W ⟨hb, hs0, h0, h1, h2⟩
  have H0 := Lib.hid h0
  have H1 := Lib.hid h1
  have H2 := Lib.hid h2
  clear h0 h1 h2
  go_upto_region 4 with (first | (refine wpList_load_part rfl 27 _ rfl w.heap.size 24 24 rfl 29 (sunC hs ts) (0, 0) _ H0.out Tryz.underlying27 rfl info_arr (by rw [sunC_size _ _ Hh.out Ht.out]; decide) _ (sunC_snd hs ts Hh.out Ht.out) ?_) | (go_at_call 27; refine (toA_any ts Ht.out _).mono ?_; rintro e W1 ⟨rfl, hb1⟩; replace H0 := Lib.hid (below_row hb1 H0.out); replace H1 := Lib.hid (below_row hb1 H1.out); replace H2 := Lib.hid (below_row hb1 H2.out); replace hs0 := Nat.le_trans hs0 hb1.size; replace hb := hb.trans (hb1.mono hb.size); clear hb1) | (refine wpList_store_part rfl 27 _ _ rfl (w.heap.size + 1 + 1) 24 (i16s ts) rfl rfl 35 (sunC hs zer) H2.out (by rw [i16s_size, Ht.out]; exact info_arr) (by rw [i16s_size, sunC_size _ _ Hh.out zer_length, Ht.out]; decide) (i16s_one _) ?_; rw [laid_snd _ _ _ Hh.out zer_length Ht.out]))
  refine abs_code (fun W => Below w.heap.size w W ∧ w.heap.size + 3 ≤ W.heap.size ∧ W.heap[w.heap.size]? = some (.cells (sunC hs ts) 29 (0, 0)) ∧ W.heap[w.heap.size + 1]? = some (.cells (sunC zer zer) 35 (0, 0)) ∧ W.heap[w.heap.size + 1 + 1]? = some (.cells (sunC hs ts) 35 (0, 0))) ?_ ?_
  · exact ⟨below_setRow hb (by omega) _, by simpa using hs0, (setRow_other _ _ _ _ (by omega)).trans H0.out, (setRow_other _ _ _ _ (by omega)).trans H1.out, setRow_heap _ _ _ _ _ _ H2.out⟩
  clear H0 H1 H2 hb hs0
  rintro W ⟨hb, hs0, h0, h1, h2⟩
  have H1 := Lib.hid h1
  have H2 := Lib.hid h2
  clear h0 h1 h2
  have Hsz := Lib.hid (sunC_size hs ts Hh.out Ht.out)
  go_wp2_with (first | (refine wpList_load_part rfl 35 _ rfl (w.heap.size + 1 + 1) 0 48 rfl 35 (sunC hs ts) (0, 0) _ H2.out Tryz.underlying35 rfl info_sun (by rw [Hsz.out]; decide) _ (i16s_all _ 48 (by simpa [sunC] using Hsz.out)) ?_) | (refine wpList_store_part rfl 35 _ _ rfl (w.heap.size + 1) 0 (i16s (hs ++ ts)) rfl rfl 35 (sunC zer zer) H1.out (by rw [i16s_size, List.length_append, Hh.out, Ht.out]; exact info_sun) (by simp [sunC, zer_length, Hh.out, Ht.out]) (i16s_one _) ?_; rw [laid_all _ _ (by simp [sunC, zer_length, Hh.out, Ht.out])]))
  exact bodyPost_ret (v := .agg (i16s (hs ++ ts))) (results_cell_row rfl _ _ _ _ _ _ _ rfl (setRow_heap _ _ _ _ _ _ H1.out) Tryz.underlying35 rfl (by rw [i16s_size, List.length_append, Hh.out, Ht.out]; exact info_sun)) rfl ⟨rfl, below_setRow hb (by omega) _⟩

end Go.Proofs.YtdbleddcnknmiaaGreatDoor

namespace Go.Proofs.YtdbleddcnknmiaaGreatDoor
open Go.ChangeShapes Go.WideShapes Go.ChangeAt Go.RowKit

/-- A refusal: none, of a call, of an hour, of a floor. -/
inductive Rf where
  | non
  | call (c : Int)
  | hour (h : Int)
  | floor (cs : Array Value)

def rfV : Rf → Value
  | .non => .nilIface
  | .call c => .iface 90 (.agg #[.int .i64 c])
  | .hour h => .iface 78 (.agg #[.int .i64 h])
  | .floor cs => .iface 94 (.agg cs)

def rfC : Rf → Int
  | .non => 0
  | .call c => c
  | .hour _ => 6
  | .floor _ => 4

def rfOk : Rf → Prop
  | .floor cs => cs.size = 24 ∧ ∀ v ∈ cs, v.oneCell' = true
  | _ => True

def zerC : Array Value := #[.float .f32 0, .float .f32 0, .float .f32 0, .float .f32 0, .float .f32 0, .float .f32 0, .float .f32 0, .float .f32 0, .float .f32 0, .float .f32 0, .float .f32 0, .float .f32 0, .float .f32 0, .float .f32 0, .float .f32 0, .float .f32 0, .float .f32 0, .float .f32 0, .float .f32 0, .float .f32 0, .float .f32 0, .float .f32 0, .float .f32 0, .float .f32 0]

theorem one_i64 (c : Int) : ∀ v ∈ (#[.int .i64 c] : Array Value), v.oneCell' = true := by
  intro v hv
  simp only [List.mem_toArray, List.mem_cons, List.not_mem_nil, or_false] at hv
  subst hv; rfl

theorem three_newD (w : World) (o1 o2 o3 : Obj) : (((w.alloc o1).alloc o2).alloc o3).heap[w.heap.size]? = some o1 ∧ (((w.alloc o1).alloc o2).alloc o3).heap[w.heap.size + 1]? = some o2 ∧ (((w.alloc o1).alloc o2).alloc o3).heap[w.heap.size + 1 + 1]? = some o3 ∧ Below w.heap.size w (((w.alloc o1).alloc o2).alloc o3) := by
  have e : ∀ (w : World) (o : Obj) (i : Nat), (w.alloc o).heap[i]? = if i = w.heap.size then some o else w.heap[i]? := fun w o i => by
    show (w.heap.push o)[i]? = _
    exact Array.getElem?_push
  refine ⟨?_, ?_, ?_, (((Below.refl _ _).alloc (Nat.le_refl _) _).alloc (by simp) _).alloc (by simp; omega) _⟩
  all_goals simp only [e, World.size_alloc]
  · rw [if_neg (by omega), if_neg (by omega), if_true]
  · rw [if_neg (by omega), if_true]
  · rw [if_true]

set_option maxRecDepth 100000 in
set_option maxHeartbeats 4000000 in
theorem codeD_non (w : World) : Calls Tryz.prog 30 #[.nilIface] w fun e w' => e = .returned (.int .i64 0) ∧ Below w.heap.size w w' := by
  go_enter Tryz.func30, Tryz.ntmps30
  go_wp2_with (go_at_call 38; refine (as_nil _ _).mono ?_; rintro e w' ⟨rfl, rfl⟩)
  go_ret
  exact ⟨rfl, (three_newD _ _ _ _).2.2.2⟩

set_option maxRecDepth 100000 in
set_option maxHeartbeats 4000000 in
theorem codeD_call (c : Int) (w : World) (hE : ErrT w) : Calls Tryz.prog 30 #[.iface 90 (.agg #[.int .i64 c])] w fun e w' => e = .returned (.int .i64 c) ∧ Below w.heap.size w w' := by
  go_enter Tryz.func30, Tryz.ntmps30
  go_upto_region 4 with (fail)
  refine abs_code (fun W => W.heap[w.heap.size]? = some (.cells #[.int .i64 0] 90 (0, 0)) ∧ W.heap[w.heap.size + 1]? = some (.cells #[.int .i64 0] 78 (0, 0)) ∧ W.heap[w.heap.size + 1 + 1]? = some (.cells zerC 94 (0, 0)) ∧ Below w.heap.size w W) ⟨(three_newD _ _ _ _).1, (three_newD _ _ _ _).2.1, (three_newD _ _ _ _).2.2.1, (three_newD _ _ _ _).2.2.2⟩ ?_
  rintro W ⟨h0, h1, h2, hb⟩
  have hs1 : w.heap.size ≤ w.heap.size + 1 := by omega
  have hs2 : w.heap.size ≤ w.heap.size + 1 + 1 := by omega
  generalize w.heap.size + 1 + 1 = b2 at *
  generalize w.heap.size + 1 = b1 at *
  have HE := Lib.hid (errT_below hE hb)
  have H0 := Lib.hid h0
  have H1 := Lib.hid h1
  have H2 := Lib.hid h2
  clear h0 h1 h2 hE
  go_upto_region 5 with (go_at_call 38; refine (as_Call_Call _ _ _ _ HE.out H0.out rfl rfl (one_i64 c)).mono ?_; rintro e W9 ⟨rfl, U, hU, hrow, rfl⟩; replace hb := hb.trans (hU.mono hb.size); clear hU)
  have q : (U.setRow w.heap.size #[.int .i64 c]).cell? ⟨w.heap.size, 0, none⟩ = some (.int .i64 c) := by rw [cell_of_row _ _ _ _ _ _ (setRow_heap _ _ _ _ _ _ hrow)]; rfl
  go_wp2
  go_ret
  exact ⟨rfl, below_setRow hb (Nat.le_refl _) _⟩

set_option maxRecDepth 100000 in
set_option maxHeartbeats 4000000 in
theorem codeD_floor (cs : Array Value) (hc : cs.size = 24) (h1 : ∀ v ∈ cs, v.oneCell' = true) (w : World) (hE : ErrT w) : Calls Tryz.prog 30 #[.iface 94 (.agg cs)] w fun e w' => e = .returned (.int .i64 4) ∧ Below w.heap.size w w' := by
  have HC := Lib.hid (And.intro hc h1)
  clear hc h1
  go_enter Tryz.func30, Tryz.ntmps30
  go_upto_region 4 with (fail)
  refine abs_code (fun W => W.heap[w.heap.size]? = some (.cells #[.int .i64 0] 90 (0, 0)) ∧ W.heap[w.heap.size + 1]? = some (.cells #[.int .i64 0] 78 (0, 0)) ∧ W.heap[w.heap.size + 1 + 1]? = some (.cells zerC 94 (0, 0)) ∧ Below w.heap.size w W) ⟨(three_newD _ _ _ _).1, (three_newD _ _ _ _).2.1, (three_newD _ _ _ _).2.2.1, (three_newD _ _ _ _).2.2.2⟩ ?_
  rintro W ⟨h0, h1, h2, hb⟩
  have hs1 : w.heap.size ≤ w.heap.size + 1 := by omega
  have hs2 : w.heap.size ≤ w.heap.size + 1 + 1 := by omega
  generalize w.heap.size + 1 + 1 = b2 at *
  generalize w.heap.size + 1 = b1 at *
  have HE := Lib.hid (errT_below hE hb)
  have H0 := Lib.hid h0
  have H1 := Lib.hid h1
  have H2 := Lib.hid h2
  clear h0 h1 h2 hE
  go_upto_region 6 with (go_at_call 38; refine (as_Call_Floor _ _ _ HE.out).mono ?_; rintro e W1 ⟨rfl, hb1⟩; replace HE := Lib.hid (errT_below HE.out hb1); replace H0 := Lib.hid (below_row hb1 H0.out); replace H1 := Lib.hid (below_row hb1 H1.out); replace H2 := Lib.hid (below_row hb1 H2.out); replace hb := hb.trans (hb1.mono hb.size); clear hb1)
  go_wp2_with (go_at_call 38; refine (as_Floor_Floor _ _ _ _ HE.out H2.out HC.out.1 rfl HC.out.2).mono ?_; rintro e W9 ⟨rfl, U, hU, hrow, rfl⟩; replace hb := hb.trans (hU.mono hb.size); clear hU)
  go_ret
  exact ⟨rfl, below_setRow hb hs2 _⟩

set_option maxRecDepth 100000 in
set_option maxHeartbeats 4000000 in
theorem codeD_hour (h : Int) (w : World) (hE : ErrT w) : Calls Tryz.prog 30 #[.iface 78 (.agg #[.int .i64 h])] w fun e w' => e = .returned (.int .i64 6) ∧ Below w.heap.size w w' := by
  go_enter Tryz.func30, Tryz.ntmps30
  go_upto_region 4 with (fail)
  refine abs_code (fun W => W.heap[w.heap.size]? = some (.cells #[.int .i64 0] 90 (0, 0)) ∧ W.heap[w.heap.size + 1]? = some (.cells #[.int .i64 0] 78 (0, 0)) ∧ W.heap[w.heap.size + 1 + 1]? = some (.cells zerC 94 (0, 0)) ∧ Below w.heap.size w W) ⟨(three_newD _ _ _ _).1, (three_newD _ _ _ _).2.1, (three_newD _ _ _ _).2.2.1, (three_newD _ _ _ _).2.2.2⟩ ?_
  rintro W ⟨h0, h1, h2, hb⟩
  have hs1 : w.heap.size ≤ w.heap.size + 1 := by omega
  have hs2 : w.heap.size ≤ w.heap.size + 1 + 1 := by omega
  generalize w.heap.size + 1 + 1 = b2 at *
  generalize w.heap.size + 1 = b1 at *
  have HE := Lib.hid (errT_below hE hb)
  have H0 := Lib.hid h0
  have H1 := Lib.hid h1
  have H2 := Lib.hid h2
  clear h0 h1 h2 hE
  go_upto_region 6 with (go_at_call 38; refine (as_Call_Hour _ _ _ HE.out).mono ?_; rintro e W1 ⟨rfl, hb1⟩; replace HE := Lib.hid (errT_below HE.out hb1); replace H0 := Lib.hid (below_row hb1 H0.out); replace H1 := Lib.hid (below_row hb1 H1.out); replace H2 := Lib.hid (below_row hb1 H2.out); replace hb := hb.trans (hb1.mono hb.size); clear hb1)
  go_upto_region 8 with (go_at_call 38; refine (as_Floor_Hour _ _ _ HE.out).mono ?_; rintro e W2 ⟨rfl, hb1⟩; replace HE := Lib.hid (errT_below HE.out hb1); replace H0 := Lib.hid (below_row hb1 H0.out); replace H1 := Lib.hid (below_row hb1 H1.out); replace H2 := Lib.hid (below_row hb1 H2.out); replace hb := hb.trans (hb1.mono hb.size); clear hb1)
  go_wp2_with (go_at_call 38; refine (as_Hour_Hour _ _ _ _ HE.out H1.out rfl rfl (one_i64 h)).mono ?_; rintro e W9 ⟨rfl, U, hU, hrow, rfl⟩; replace hb := hb.trans (hU.mono hb.size); clear hU)
  go_ret
  exact ⟨rfl, below_setRow hb hs1 _⟩

theorem codeOfDay_any (r : Rf) (hr : rfOk r) (w : World) (hE : ErrT w) : Calls Tryz.prog 30 #[rfV r] w fun e w' => e = .returned (.int .i64 (rfC r)) ∧ Below w.heap.size w w' :=
  match r, hr with
  | .non, _ => codeD_non w
  | .call c, _ => codeD_call c w hE
  | .hour h, _ => codeD_hour h w hE
  | .floor cs, hr => codeD_floor cs hr.1 hr.2 w hE

end Go.Proofs.YtdbleddcnknmiaaGreatDoor

namespace Go.Proofs.YtdbleddcnknmiaaGreatDoor
open Go.ChangeShapes Go.WideShapes Go.ChangeAt Go.RowKit

set_option maxRecDepth 100000 in
theorem cells_sunL : Tryz.prog.cellsOf 29 = 48 := by kernel_rfl

set_option maxRecDepth 100000 in
theorem cells_arr : Tryz.prog.cellsOf 27 = 24 := by kernel_rfl

set_option maxRecDepth 100000 in
theorem cells_i16 : Tryz.prog.cellsOf 24 = 1 := by kernel_rfl

def rd16 : Value → Int | .int _ n => n | _ => 0

set_option maxRecDepth 100000 in
theorem open_arr {H : Type} {enc : TypeId × Value → H} {W : World} {base : Nat} {spare : Nat → Bool} {held : Bool} {fuel : Nat} {cs : List Value} {x : DataW H × List MemPlace}
    (h : DataW.trod enc Tryz.prog W base spare held fuel 27 cs = some x) : ∀ i, i < 24 → ∃ n, cs[i]? = some (.int .i16 n) ∧ -32768 ≤ n ∧ n ≤ 32767 := by
  obtain ⟨xs, m, _, _, hl, hlen, hf⟩ := Go.DataW.trod_array Tryz.underlying27 h
  rw [cells_arr] at hl
  intro i hi
  have h1 := hf i hi
  rw [cells_i16, Nat.mul_one] at h1
  rw [List.getElem?_eq_getElem (by omega : i < xs.length)] at h1
  obtain ⟨n, hn, _, hw⟩ := DataW.trod_int Tryz.underlying24 h1
  refine ⟨n, ?_, ?_⟩
  · have h2 : ((cs.drop i).take 1)[0]? = some (.int .i16 n) := by rw [hn]; rfl
    rw [List.getElem?_take_of_lt (by decide), List.getElem?_drop] at h2
    simpa using h2
  · simp [Lit.wf, IntKind.min, IntKind.max, IntKind.signed, IntKind.bits] at hw
    omega

set_option maxRecDepth 100000 in
theorem open_sun {H : Type} {enc : TypeId × Value → H} {W : World} {b0 base : Nat} {spare : Nat → Bool} {held : Bool} {r : Reach} {v : Value} {d : DataW H} {p : List MemPlace}
    (hv : Value.okWide Tryz.prog W r b0 29 v) (h : DataW.Trod enc Tryz.prog W base spare held 29 v d p) :
    ∃ hs ts : List Int, hs.length = 24 ∧ ts.length = 24 ∧ (∀ x ∈ hs ++ ts, -32768 ≤ x ∧ x ≤ 32767) ∧ v = .agg (sunC hs ts) := by
  obtain ⟨cs, rfl, hsz⟩ := okWide_struct Tryz.underlying29 hv
  rw [cells_sunL] at hsz
  obtain ⟨fuel, hf⟩ := h
  obtain ⟨y0, y1, n, hx, _, h0, h1⟩ := trod_struct2 Tryz.underlying29 hf
  have hall : ∀ i, i < 48 → ∃ n, cs.toList[i]? = some (.int .i16 n) ∧ -32768 ≤ n ∧ n ≤ 32767 := by
    intro i hi
    by_cases c : i < 24
    · obtain ⟨n, hn, hb⟩ := open_arr h0 i c
      refine ⟨n, ?_, hb⟩
      simp only [Value.cells, cells_arr, List.drop_zero] at hn
      rwa [List.getElem?_take_of_lt c] at hn
    · obtain ⟨n, hn, hb⟩ := open_arr h1 (i - 24) (by omega)
      refine ⟨n, ?_, hb⟩
      simp only [Value.cells, cells_arr] at hn
      rw [List.getElem?_take_of_lt (by omega), List.getElem?_drop] at hn
      rwa [show 24 + (i - 24) = i by omega] at hn
  have hlen : cs.toList.length = 48 := by simpa using hsz
  have hcs : cs = i16s (cs.toList.map rd16) := by
    apply Array.ext'
    simp only [i16s, List.map_map]
    apply List.ext_getElem?
    intro i
    by_cases c : i < 48
    · obtain ⟨n, hn, _⟩ := hall i c
      rw [hn, List.getElem?_map, hn]; rfl
    · rw [List.getElem?_eq_none (by omega), List.getElem?_eq_none (by simp; omega)]
  refine ⟨(cs.toList.map rd16).take 24, (cs.toList.map rd16).drop 24, by simp; omega, by simp; omega, ?_, ?_⟩
  · rw [List.take_append_drop]
    intro x hx
    obtain ⟨i, hi, rfl⟩ := List.mem_iff_getElem.1 hx
    simp only [List.length_map] at hi
    obtain ⟨n, hn, hb⟩ := hall i (by omega)
    rw [List.getElem?_eq_getElem hi] at hn
    simp only [List.getElem_map]
    have : cs.toList[i] = .int .i16 n := by injection hn
    rw [this]; exact hb
  · unfold sunC
    rw [List.take_append_drop, ← hcs]

end Go.Proofs.YtdbleddcnknmiaaGreatDoor

namespace Go.Proofs.YtdbleddcnknmiaaGreatDoor
open Go Go.RowKit

set_option maxRecDepth 100000 in
theorem size_i16 (w : World) : (sizeOf 24).run Tryz.prog w = .ok 1 w := by kernel_rfl

set_option maxRecDepth 100000 in
theorem agg_i16 (w : World) : (isAgg 24).run Tryz.prog w = .ok false w := by kernel_rfl

set_option maxRecDepth 100000 in
theorem agg_arr (w : World) : (isAgg 27).run Tryz.prog w = .ok true w := by kernel_rfl

set_option maxRecDepth 100000 in
theorem size_arr (w : World) : (sizeOf 27).run Tryz.prog w = .ok 24 w := by kernel_rfl

theorem part_i16 (xs : List Int) (i : Nat) (h : i < xs.length) (w : World) : (part 24 (i16s xs) i).run Tryz.prog w = .ok (.int .i16 (xs[i]?.getD 0)) w := by
  unfold part
  rw [Sem.run_bind, agg_i16]
  simp only [Result.andThen_ok, Bool.false_eq_true, if_false, i16s_get xs i h]
  rfl

theorem part_arr (cs : Array Value) (o : Nat) (w : World) : (part 27 cs o).run Tryz.prog w = .ok (.agg (cs.extract o (o + 24))) w := by
  unfold part
  rw [Sem.run_bind, agg_arr]
  simp only [Result.andThen_ok, if_true]
  rw [Sem.run_bind, size_arr]
  rfl

theorem eq_loop (d : Nat) (xs ys : List Int) (w : World) : ∀ (is : List Nat), (∀ i ∈ is, i < xs.length ∧ i < ys.length) →
    (forIn is ((none, ()) : Option Bool × Unit) (fun i _ => do
      if (!(← Op.equalIn (d + 1) 24 (← part 24 (i16s xs) (i * 1)) (← part 24 (i16s ys) (i * 1)))) = true then pure (ForInStep.done (some false, ()))
      else pure (ForInStep.yield (none, ())))).run Tryz.prog w = .ok (if is.all (fun i => xs[i]?.getD 0 == ys[i]?.getD 0) then (none, ()) else (some false, ())) w
  | [], _ => rfl
  | i :: is, h => by
    have hi := h i (by simp)
    have ih := eq_loop d xs ys w is (fun j hj => h j (by simp [hj]))
    rw [List.forIn_cons]
    simp only [Nat.mul_one] at ih ⊢
    simp only [Sem.run_bind, part_i16 xs i hi.1, part_i16 ys i hi.2, Result.andThen_ok, run_equalIn_int w d 24 .i16 .i16 _ _ Tryz.underlying24]
    cases hc : (xs[i]?.getD 0 == ys[i]?.getD 0)
    · simp [hc]
    · simp only [Bool.not_true, Bool.false_eq_true, if_false, Sem.run_pure, Result.andThen_ok, List.all_cons, hc, Bool.true_and]
      exact ih

theorem all_eq (xs ys : List Int) (n : Nat) (hx : xs.length = n) (hy : ys.length = n) : (List.range' 0 n).all (fun i => xs[i]?.getD 0 == ys[i]?.getD 0) = (xs == ys) := by
  rw [Bool.eq_iff_iff]
  simp only [List.all_eq_true, beq_iff_eq]
  constructor
  · intro h
    apply List.ext_getElem?
    intro i
    by_cases hi : i < n
    · have h1 := h i (by simp [List.mem_range']; omega)
      rw [List.getElem?_eq_getElem (by omega), List.getElem?_eq_getElem (by omega)] at h1 ⊢
      simpa using h1
    · rw [List.getElem?_eq_none (by omega), List.getElem?_eq_none (by omega)]
  · intro h i _
    rw [h]

theorem run_eq_arr (d : Nat) (xs ys : List Int) (hx : xs.length = 24) (hy : ys.length = 24) (w : World) :
    (Op.equalIn (d + 1 + 1) 27 (.agg (i16s xs)) (.agg (i16s ys))).run Tryz.prog w = .ok (xs == ys) w := by
  have hl := eq_loop d xs ys w (List.range' 0 24) (fun i hi => by simp [List.mem_range'] at hi; omega)
  rw [all_eq xs ys 24 hx hy] at hl
  rw [Op.equalIn.eq_def]
  simp only [Sem.run_bind, run_underlying Tryz.underlying27, Result.andThen_ok, size_i16]
  rw [Std.Legacy.Range.forIn_eq_forIn_range']
  have e : (Std.Legacy.Range.mk 0 24 1 (by decide)).size = 24 := by decide
  simp only [e]
  erw [hl]
  cases xs == ys <;> rfl


theorem run_eql_arr (xs ys : List Int) (hx : xs.length = 24) (hy : ys.length = 24) (w : World) :
    (Op.equalIn 10000 27 (.agg (i16s xs)) (.agg (i16s ys))).run Tryz.prog w = .ok (xs == ys) w := run_eq_arr 9998 xs ys hx hy w

set_option maxRecDepth 100000 in
theorem fields_sun : Tryz.prog.underlying 35 = some (.struct (Tryz.prog.fieldsOf 35)) := by kernel_rfl

set_option maxRecDepth 100000 in
theorem stood_sun : Tryz.prog.stoodInHeld 35 = false := by kernel_rfl

theorem fold_and (a b : Bool) (w : World) : (if (!a) = true then Sem.run Tryz.prog (pure false) w else ((Sem.run Tryz.prog (pure b) w).andThen fun r w' => Sem.run Tryz.prog (if (!r) = true then pure false else pure true) w')) = .ok (a && b) w := by
  cases a <;> cases b <;> rfl

set_option maxRecDepth 100000 in
theorem run_eql_sun (h1 t1 h2 t2 : List Int) (a1 : h1.length = 24) (b1 : t1.length = 24) (a2 : h2.length = 24) (b2 : t2.length = 24) (w : World) :
    (Op.equalIn 10000 35 (.agg (sunC h1 t1)) (.agg (sunC h2 t2))).run Tryz.prog w = .ok (h1 == h2 && t1 == t2) w := by
  rw [run_equalIn_agg w 9999 35 _ _ fields_sun stood_sun]
  have hf : (Tryz.prog.fieldsOf 35).toList.map (fun f => (f.name, f.type, f.offset)) = [("Height", 27, 0), ("Turns", 27, 24)] := by kernel_rfl
  generalize (Tryz.prog.fieldsOf 35).toList = fs at hf
  have hlen : fs.length = 2 := by simpa using congrArg List.length hf
  match fs, hlen, hf with
  | [f0, f1], _, hf =>
    simp only [List.map_cons, List.map_nil, List.cons.injEq, Prod.mk.injEq, and_true] at hf
    obtain ⟨⟨n0, ty0, o0⟩, n1, ty1, o1⟩ := hf
    simp only [Op.eqFields, n0, n1, ty0, ty1, o0, o1]
    rw [if_pos (by decide), if_pos (by decide)]
    simp only [Sem.run_bind, part_arr, Result.andThen_ok, sunC_fst _ _ a1, sunC_fst _ _ a2, sunC_snd _ _ a1 b1, sunC_snd _ _ a2 b2, run_eq_arr 9997 _ _ a1 a2, Sem.run_ite, run_eq_arr 9997 _ _ b1 b2]
    cases h1 == h2 <;> cases t1 == t2 <;> rfl

end Go.Proofs.YtdbleddcnknmiaaGreatDoor

namespace Go.Proofs.YtdbleddcnknmiaaGreatDoor
open Go.ChangeShapes Go.WideShapes Go.ChangeAt Go.RowKit

set_option maxRecDepth 100000 in
theorem info_plan : (Tryz.prog.info? 37).map (·.size) = some 24 := by kernel_rfl

set_option maxRecDepth 100000 in
set_option maxHeartbeats 400000 in
theorem toPlan_any (xs : List Int) (hx : xs.length = 24) (w : World) :
    Calls Tryz.prog 10 #[.agg (i16s xs)] w fun e w' => e = .returned (.agg (i16s xs)) ∧ Below w.heap.size w w' := by
  have Hx := Lib.hid hx
  clear hx
  go_enter Tryz.func10, Tryz.ntmps10
  go_wp2
  go_loopw [4] (fun i wr => ∃ k : Nat, k ≤ 24 ∧ i = .int .i64 k ∧ Below w.heap.size w wr ∧ wr.heap.size = w.heap.size + 3 ∧ wr.heap[w.heap.size]? = some (.cells (i16s xs) 27 (0, 0)) ∧ wr.heap[w.heap.size + 1]? = some (.cells (i16s (List.replicate 24 0)) 37 (0, 0)) ∧ wr.heap[w.heap.size + 1 + 1]? = some (.cells (i16s (xs.take k ++ List.replicate (24 - k) 0)) 37 (0, 0))) (fun i _ => 24 - (intOf i).toNat)
  case atStart =>
    refine ⟨0, Nat.zero_le _, rfl, ?_, ?_, ?_, ?_, ?_⟩
    · exact (((Below.refl _ _).alloc (Nat.le_refl _) _).alloc (by simp) _).alloc (by simp; omega) _
    · simp
    all_goals simp only [heap_alloc, World.size_alloc]
    · rw [if_neg (by omega), if_neg (by omega), if_true]
    · rw [if_neg (by omega), if_true]; rfl
    · rw [if_true]; rfl
  case round =>
    obtain ⟨k, hk, rfl, hb, hs, h0, h1, h2⟩ := hrel
    by_cases hlt : k < 24
    · have hc := cell_of_i16s h0 k (by rw [Hx.out]; exact hlt)
      have hl2 : (xs.take k ++ List.replicate (24 - k) (0 : Int)).length = 24 := by simp [Hx.out]; omega
      have hd := cell_of_i16s h2 k (by rw [hl2]; exact hlt)
      have hf := frozen_of_row wr (w.heap.size + 1 + 1) k _ _ h2
      have H2 := Lib.hid h2
      have H0 := Lib.hid h0
      have H1 := Lib.hid h1
      have Hl2 := Lib.hid hl2
      have Hs := Lib.hid hs
      clear h0 h1 h2 hl2 hs
      go_wp2
      go_roundw
      case rel =>
        refine ⟨k + 1, by omega, by go_num, hb.setCell (by simp; omega) _, ?_, ?_, ?_, ?_⟩
        · rw [← Hs.out]; simp
        · rw [heap_setCell_other _ _ _ _ (by simp; omega)]; exact H0.out
        · rw [heap_setCell_other _ _ _ _ (by simp)]; exact H1.out
        · rw [heap_setCell_same _ _ _ _ _ _ H2.out, i16s_set, copy_step xs k Hx.out hlt]
      case measure => simp [intOf]; omega
    · obtain rfl : k = 24 := by omega
      have e24 : xs.take 24 ++ List.replicate (24 - 24) (0 : Int) = xs := by simp [← Hx.out]
      rw [e24] at h2
      have H2 := Lib.hid h2
      have H1 := Lib.hid h1
      have Hs := Lib.hid hs
      clear h0 h1 h2 hs e24 hlt hk
      go_wp2_with (first | (refine wpList_load_part rfl 37 _ rfl _ _ 24 rfl _ _ _ _ H2.out Tryz.underlying37 rfl info_plan ?hsz _ (i16s_all xs 24 Hx.out) ?_; case hsz => simp [Hx.out]) | (refine wpList_store_part rfl 37 _ _ rfl _ _ _ rfl rfl _ _ H1.out (by rw [i16s_size, Hx.out]; exact info_plan) (by simp [Hx.out]) (i16s_one _) ?_; rw [laid_all _ _ (by simp [Hx.out])]))
      exact bodyPost_ret (results_cell_row rfl _ _ _ _ _ _ _ rfl (setRow_heap _ _ _ _ _ _ H1.out) Tryz.underlying37 rfl (by rw [i16s_size, Hx.out]; exact info_plan)) rfl ⟨rfl, below_setRow hb (by omega) _⟩

theorem okWide_array {P : Program} {w : World} {base : Nat} {t e : TypeId} {n : Nat} {r : Reach} {v : Value} (ht : P.underlying t = some (.array n e)) (h : Value.okWide P w r base t v) : ∃ cs, v = .agg cs ∧ cs.size = P.cellsOf t := by
  simp only [Value.okWide, ht] at h
  obtain ⟨cs, h1, h2, _⟩ := h
  exact ⟨cs, h1, h2⟩

set_option maxRecDepth 100000 in
theorem open_plan {H : Type} {enc : TypeId × Value → H} {W : World} {b0 base : Nat} {spare : Nat → Bool} {held : Bool} {r : Reach} {v : Value} {d : DataW H} {p : List MemPlace}
    (hv : Value.okWide Tryz.prog W r b0 27 v) (h : DataW.Trod enc Tryz.prog W base spare held 27 v d p) :
    ∃ xs : List Int, xs.length = 24 ∧ (∀ x ∈ xs, -32768 ≤ x ∧ x ≤ 32767) ∧ v = .agg (i16s xs) := by
  obtain ⟨cs, rfl, hsz⟩ := okWide_array Tryz.underlying27 hv
  rw [cells_arr] at hsz
  obtain ⟨fuel, hf⟩ := h
  have hall : ∀ i, i < 24 → ∃ n, cs.toList[i]? = some (.int .i16 n) ∧ -32768 ≤ n ∧ n ≤ 32767 := open_arr hf
  have hlen : cs.toList.length = 24 := by simpa using hsz
  refine ⟨cs.toList.map rd16, by simpa using hlen, ?_, ?_⟩
  · intro x hx
    obtain ⟨i, hi, rfl⟩ := List.mem_iff_getElem.1 hx
    simp only [List.length_map] at hi
    obtain ⟨n, hn, hb⟩ := hall i (by omega)
    rw [List.getElem?_eq_getElem hi] at hn
    simp only [List.getElem_map]
    have : cs.toList[i] = .int .i16 n := by injection hn
    rw [this]; exact hb
  · congr 1
    apply Array.ext'
    simp only [i16s, List.map_map]
    apply List.ext_getElem?
    intro i
    by_cases c : i < 24
    · obtain ⟨n, hn, _⟩ := hall i c
      rw [hn, List.getElem?_map, hn]; rfl
    · rw [List.getElem?_eq_none (by omega), List.getElem?_eq_none (by simp; omega)]

set_option maxRecDepth 100000 in
theorem run_eql_plan (xs ys : List Int) (hx : xs.length = 24) (hy : ys.length = 24) (w : World) :
    (Op.equalIn 10000 37 (.agg (i16s xs)) (.agg (i16s ys))).run Tryz.prog w = .ok (xs == ys) w := by
  have hl := eq_loop 9998 xs ys w (List.range' 0 24) (fun i hi => by simp [List.mem_range'] at hi; omega)
  rw [all_eq xs ys 24 hx hy] at hl
  rw [Op.equalIn.eq_def]
  simp only [Sem.run_bind, run_underlying Tryz.underlying37, Result.andThen_ok, size_i16]
  rw [Std.Legacy.Range.forIn_eq_forIn_range']
  have e : (Std.Legacy.Range.mk 0 24 1 (by decide)).size = 24 := by decide
  simp only [e]
  erw [hl]
  cases xs == ys <;> rfl

end Go.Proofs.YtdbleddcnknmiaaGreatDoor

namespace Go.Proofs.YtdbleddcnknmiaaGreatDoor
open Go.RowKit

def inB (n lo hi : Int) : Bool := decide (lo ≤ n) && decide (n ≤ hi)

theorem inB_true {n lo hi : Int} (h : inB n lo hi = true) : lo ≤ n ∧ n ≤ hi := by simpa [inB] using h

theorem inB_mk {n lo hi : Int} (h : lo ≤ n ∧ n ≤ hi) : inB n lo hi = true := by simpa [inB] using h

theorem inB_no {n lo hi : Int} (h : ¬ (lo ≤ n ∧ n ≤ hi)) : inB n lo hi = false := by
  cases e : inB n lo hi
  · rfl
  · exact absurd (inB_true e) h

set_option maxHeartbeats 400000 in
theorem l00In_any (n lo hi : Int) (w : World) :
    Calls Tryz.prog 47 #[.int .i64 n, .int .i64 lo, .int .i64 hi] w fun e w' => e = .returned (.bool (inB n lo hi)) ∧ w = w' := by
  unfold inB
  by_cases h1 : lo ≤ n
  · have h1' : decide (lo ≤ n) = true := decide_eq_true h1
    go_enter Tryz.func47, Tryz.ntmps47
    go_wp2
    go_ret
    rw [h1', Bool.true_and]
    exact ⟨rfl, rfl⟩
  · have h1' : decide (lo ≤ n) = false := decide_eq_false h1
    go_enter Tryz.func47, Tryz.ntmps47
    go_wp2
    go_ret
    exact ⟨by simp, rfl⟩

set_option maxHeartbeats 400000 in
theorem l01Height_any (n : Int) (w : World) :
    Calls Tryz.prog 64 #[.int .i64 n] w fun e w' => e = .returned (.bool (inB n (-64) 64)) ∧ w = w' := by
  go_enter Tryz.func64, Tryz.ntmps64
  go_wp2_with (go_at_call 47; refine (l00In_any _ _ _ _).mono ?_; rintro e w' ⟨rfl, rfl⟩)
  go_ret
  exact ⟨rfl, rfl⟩

set_option maxHeartbeats 400000 in
theorem l01Faced_any (n : Int) (w : World) :
    Calls Tryz.prog 25 #[.int .i64 n] w fun e w' => e = .returned (.bool (inB n 0 255)) ∧ w = w' := by
  go_enter Tryz.func25, Tryz.ntmps25
  go_wp2_with (go_at_call 47; refine (l00In_any _ _ _ _).mono ?_; rintro e w' ⟨rfl, rfl⟩)
  go_ret
  exact ⟨rfl, rfl⟩

set_option maxHeartbeats 400000 in
theorem l01Hour_any (n : Int) (w : World) :
    Calls Tryz.prog 39 #[.int .i64 n] w fun e w' => e = .returned (.bool (inB n 0 23)) ∧ w = w' := by
  go_enter Tryz.func39, Tryz.ntmps39
  go_wp2_with (go_at_call 47; refine (l00In_any _ _ _ _).mono ?_; rintro e w' ⟨rfl, rfl⟩)
  go_ret
  exact ⟨rfl, rfl⟩

/-- A sun is valid. -/
def okB (hs ts : List Int) : Bool := hs.all (fun x => inB x (-64) 64) && ts.all (fun x => inB x 0 255)

theorem all_get {p : Int → Bool} {xs : List Int} (n : Nat) (hx : xs.length = n) : xs.all p = true ↔ ∀ k, k < n → p (xs[k]?.getD 0) = true := by
  rw [List.all_eq_true]
  constructor
  · intro h k hk
    rw [List.getElem?_eq_getElem (by omega)]
    exact h _ (List.getElem_mem _)
  · intro h x hm
    obtain ⟨k, hk, rfl⟩ := List.mem_iff_getElem.1 hm
    have := h k (by omega)
    rwa [List.getElem?_eq_getElem hk] at this

theorem okB_iff (hs ts : List Int) (hh : hs.length = 24) (ht : ts.length = 24) : okB hs ts = true ↔ ∀ k, k < 24 → inB (hs[k]?.getD 0) (-64) 64 = true ∧ inB (ts[k]?.getD 0) 0 255 = true := by
  unfold okB
  rw [Bool.and_eq_true, all_get 24 hh, all_get 24 ht]
  constructor
  · intro h k hk; exact ⟨h.1 k hk, h.2 k hk⟩
  · intro h; exact ⟨fun k hk => (h k hk).1, fun k hk => (h k hk).2⟩

theorem okB_false {hs ts : List Int} (hh : hs.length = 24) (ht : ts.length = 24) (k : Nat) (hk : k < 24) (h : inB (hs[k]?.getD 0) (-64) 64 = false ∨ inB (ts[k]?.getD 0) 0 255 = false) : okB hs ts = false := by
  cases e : okB hs ts
  · rfl
  · obtain ⟨h1, h2⟩ := (okB_iff hs ts hh ht).1 e k hk
    rcases h with h | h
    · rw [h] at h1; cases h1
    · rw [h] at h2; cases h2

theorem cell_sun_h {w : World} {b : Nat} {hs ts : List Int} {t : TypeId} {fr : Nat × Nat} (hg : w.heap[b]? = some (.cells (sunC hs ts) t fr)) (hh : hs.length = 24) (k : Nat) (hk : k < 24) :
    w.cell? ⟨b, k, none⟩ = some (.int .i16 (hs[k]?.getD 0)) := by
  rw [cell_of_row w b k _ t fr hg, sunC, i16s_get _ _ (by simp; omega), List.getElem?_append_left (by omega)]

theorem cell_sun_t {w : World} {b : Nat} {hs ts : List Int} {t : TypeId} {fr : Nat × Nat} (hg : w.heap[b]? = some (.cells (sunC hs ts) t fr)) (hh : hs.length = 24) (ht : ts.length = 24) (k : Nat) (hk : k < 24) :
    w.cell? ⟨b, 24 + k, none⟩ = some (.int .i16 (ts[k]?.getD 0)) := by
  rw [cell_of_row w b (24 + k) _ t fr hg, sunC, i16s_get _ _ (by simp; omega), List.getElem?_append_right (by omega)]
  congr 4; omega

theorem rb_get {xs : List Int} (h : ∀ x ∈ xs, -32768 ≤ x ∧ x ≤ 32767) (k : Nat) : -32768 ≤ xs[k]?.getD 0 ∧ xs[k]?.getD 0 ≤ 32767 := by
  by_cases hk : k < xs.length
  · have e : xs[k]? = some xs[k] := List.getElem?_eq_getElem hk
    rw [e]; exact h _ (List.getElem_mem _)
  · rw [List.getElem?_eq_none (by omega)]; decide

set_option maxRecDepth 100000 in
set_option maxHeartbeats 1000000 in
theorem l01Ok_any (b : Nat) (hs ts : List Int) (hh : hs.length = 24) (ht : ts.length = 24) (rb : ∀ x ∈ hs ++ ts, -32768 ≤ x ∧ x ≤ 32767) (t : TypeId) (fr : Nat × Nat) (w : World) (hg : w.heap[b]? = some (.cells (sunC hs ts) t fr)) :
    Calls Tryz.prog 45 #[.pointer (some ⟨b, 0, none⟩)] w fun e w' => e = .returned (.bool (okB hs ts)) ∧ w = w' := by
  have Hh := Lib.hid hh
  have Ht := Lib.hid ht
  have Hg := Lib.hid hg
  have Rb := Lib.hid rb
  clear hh ht hg rb
  go_enter Tryz.func45, Tryz.ntmps45
  go_wp2
  go_loop [3] (fun i => ∃ k : Nat, k ≤ 24 ∧ i = .int .i64 k ∧ Hid (∀ j, j < k → inB (hs[j]?.getD 0) (-64) 64 = true ∧ inB (ts[j]?.getD 0) 0 255 = true)) (fun i => 24 - (intOf i).toNat)
  case atStart => exact ⟨0, Nat.zero_le _, rfl, Lib.hid (fun j h => absurd h (by omega))⟩
  case round =>
    obtain ⟨k, hk, rfl, hj⟩ := hrel
    by_cases hlt : k < 24
    · have c0 := cell_sun_h Hg.out Hh.out k hlt
      have c1 := cell_sun_t Hg.out Hh.out Ht.out k hlt
      have hxb := rb_get (fun x hx => Rb.out x (List.mem_append_left ts hx)) k
      have hyb := rb_get (fun x hx => Rb.out x (List.mem_append_right hs hx)) k
      generalize hA : hs[k]?.getD 0 = x at *
      generalize hB : ts[k]?.getD 0 = y at *
      have HA := Lib.hid hA
      have HB := Lib.hid hB
      clear hA hB
      obtain ⟨hx0, hx1⟩ := hxb
      obtain ⟨hy0, hy1⟩ := hyb
      by_cases h1 : inB x (-64) 64 = true
      · by_cases h2 : inB y 0 255 = true
        · go_wp2_with (first | (go_at_call 64; refine (l01Height_any _ _).mono ?_; rintro e w' ⟨rfl, rfl⟩) | (go_at_call 25; refine (l01Faced_any _ _).mono ?_; rintro e w' ⟨rfl, rfl⟩))
          go_round
          case rel =>
            refine ⟨k + 1, by omega, by go_num, Lib.hid fun j hj' => ?_⟩
            by_cases e : j = k
            · subst e; rw [HA.out, HB.out]; exact ⟨h1, h2⟩
            · exact hj.out j (by omega)
          case measure => simp [intOf]; omega
        · have h2' : inB y 0 255 = false := by simpa using h2
          have hno := Lib.hid (okB_false Hh.out Ht.out k hlt (.inr (by rw [HB.out]; exact h2')))
          clear h2
          go_wp2_with (first | (go_at_call 64; refine (l01Height_any _ _).mono ?_; rintro e w' ⟨rfl, rfl⟩) | (go_at_call 25; refine (l01Faced_any _ _).mono ?_; rintro e w' ⟨rfl, rfl⟩))
          go_ret
          rw [hno.out]; exact ⟨rfl, rfl⟩
      · have h1' : inB x (-64) 64 = false := by simpa using h1
        have hno := Lib.hid (okB_false Hh.out Ht.out k hlt (.inl (by rw [HA.out]; exact h1')))
        clear h1
        go_wp2_with (first | (go_at_call 64; refine (l01Height_any _ _).mono ?_; rintro e w' ⟨rfl, rfl⟩) | (go_at_call 25; refine (l01Faced_any _ _).mono ?_; rintro e w' ⟨rfl, rfl⟩))
        go_ret
        rw [hno.out]; exact ⟨rfl, rfl⟩
    · obtain rfl : k = 24 := by omega
      have hyes := Lib.hid ((okB_iff hs ts Hh.out Ht.out).2 hj.out)
      go_wp2
      go_ret
      rw [hyes.out]; exact ⟨rfl, rfl⟩

end Go.Proofs.YtdbleddcnknmiaaGreatDoor

namespace Go.Proofs.YtdbleddcnknmiaaGreatDoor
open Go Go.Joins Go.ChangeShapes Go.WideShapes Go.RowKit Go.Deep

theorem run_store_f (P : Program) (w : World) (a : Addr) (k : FloatKind) (b : Nat) (m : Mode) : (store a (.float k b) m).run P w = stored P w a (.float k b) m := run_store P w a _ m rfl

theorem abs_world {P : Program} {c : Code} {Q : Exit → Act → World → Prop} {a : Act} {w : World} (R : World → Prop) (hw : R w) (h : ∀ W, R W → Code.wp P c Q a W) : Code.wp P c Q a w := h w hw

section

variable {H : Type} {enc : TypeId × Value → H} {P : Program} {w : World} {base : Nat} {spare : Nat → Bool} {held : Bool}

/-- Every field of a struct of one-cell fields reads as its type. -/
theorem open_aggN {r : Reach} {b0 : Nat} {t : TypeId} {fs : Array Field} {v : Value} {d : DataW H} {p : List MemPlace} (hs : P.underlying t = some (.struct fs)) (hone : oneCellFields P fs = true) (hC : P.cellsOf t = fs.size)
    (hv : Value.okWide P w r b0 t v) (h : DataW.Trod enc P w base spare held t v d p) :
    ∃ (cs : List Value) (n : Nat), v = .agg cs.toArray ∧ cs.length = fs.size ∧ ∀ (j : Nat) (f : Field), fs[j]? = some f → ∃ c y, cs[j]? = some c ∧ DataW.trod enc P w base spare held n f.type [c] = some y := by
  obtain ⟨cs, rfl, hsz⟩ := okWide_struct hs hv
  obtain ⟨l⟩ := cs
  obtain ⟨fuel, hf⟩ := h
  obtain ⟨xs, n, _, hx, _, hlen, hg⟩ := DataW.trod_struct hs hf
  refine ⟨l, n, rfl, hsz.trans hC, fun j f hj => ?_⟩
  obtain ⟨ho, hk⟩ := hone_of hone j f hj
  have hjl : j < fs.size := (Array.getElem?_eq_some_iff.1 hj).1
  have hl : l.length = fs.size := hsz.trans hC
  have h1 := hg j f hj
  simp only [Value.cells] at h1
  rw [ho, hk] at h1
  have hone' : (l.drop j).take 1 = [l[j]'(by omega)] := by
    rw [List.drop_eq_getElem_cons (by omega)]
    rfl
  rw [hone'] at h1
  have hys : xs[j]? = some (xs[j]'(by omega)) := List.getElem?_eq_getElem (by omega)
  exact ⟨_, _, List.getElem?_eq_getElem (by omega), h1.trans hys⟩

theorem trod_f {fuel : Nat} {cs : List Value} {x : DataW H × List MemPlace} {t : TypeId} {k : FloatKind} (ht : P.underlying t = some (.float k)) (h : DataW.trod enc P w base spare held fuel t cs = some x) :
    ∃ b, cs = [.float k b] ∧ (Lit.float k b).wf = true := by
  cases fuel with
  | zero => simp [DataW.trod] at h
  | succ n =>
    unfold DataW.trod at h
    rw [ht] at h
    split at h <;> simp_all

end

end Go.Proofs.YtdbleddcnknmiaaGreatDoor

namespace Go.Proofs.YtdbleddcnknmiaaGreatDoor
open Go.ChangeShapes Go.WideShapes Go.ChangeAt Go.RowKit Go.Deep Go.Joins

attribute [local go_sem] run_store_f

/-- A blind: how many slats, how wide, how far apart, how tilted, how shiny. -/
def blindC (n : Int) (wd gp : Nat) (t : Int) (sh : Nat) : Array Value := #[.int .i8 n, .float .f32 wd, .float .f32 gp, .int .i16 t, .float .f32 sh]

theorem info_blindL : (Tryz.prog.info? 26).map (·.size) = some 5 := by kernel_rfl

theorem info_blind : (Tryz.prog.info? 33).map (·.size) = some 5 := by kernel_rfl

theorem blind_fits (n : Int) (wd gp : Nat) (t : Int) (sh : Nat) : 0 + 5 ≤ (blindC n wd gp t sh).size := Nat.le_refl _

theorem blind_all (n : Int) (wd gp : Nat) (t : Int) (sh : Nat) : (blindC n wd gp t sh).extract 0 (0 + 5) = blindC n wd gp t sh := rfl

theorem blind_cells {n : Int} {wd gp : Nat} {t : Int} {sh : Nat} {W : World} {g : Nat} {T : TypeId} {fr : Nat × Nat} (h : W.heap[g]? = some (.cells (blindC n wd gp t sh) T fr)) :
    W.cell? ⟨g, 0, none⟩ = some (.int .i8 n) ∧ W.cell? ⟨g, 1, none⟩ = some (.float .f32 wd) ∧ W.cell? ⟨g, 2, none⟩ = some (.float .f32 gp) ∧ W.cell? ⟨g, 3, none⟩ = some (.int .i16 t) ∧ W.cell? ⟨g, 4, none⟩ = some (.float .f32 sh) :=
  ⟨by rw [cell_of_row W _ _ _ _ _ h]; rfl, by rw [cell_of_row W _ _ _ _ _ h]; rfl, by rw [cell_of_row W _ _ _ _ _ h]; rfl, by rw [cell_of_row W _ _ _ _ _ h]; rfl, by rw [cell_of_row W _ _ _ _ _ h]; rfl⟩

/-- The numbers fit their kinds. -/
def BlWf (n : Int) (wd gp : Nat) (t : Int) (sh : Nat) : Prop := (Lit.int .i8 n).wf = true ∧ (Lit.float .f32 wd).wf = true ∧ (Lit.float .f32 gp).wf = true ∧ (Lit.int .i16 t).wf = true ∧ (Lit.float .f32 sh).wf = true

theorem blwf_n {n : Int} {wd gp : Nat} {t : Int} {sh : Nat} (h : BlWf n wd gp t sh) : -128 ≤ n ∧ n ≤ 127 := by
  have := h.1
  simp [Lit.wf, IntKind.min, IntKind.max, IntKind.signed, IntKind.bits] at this
  omega

theorem blwf_t {n : Int} {wd gp : Nat} {t : Int} {sh : Nat} (h : BlWf n wd gp t sh) : -32768 ≤ t ∧ t ≤ 32767 := by
  have := h.2.2.2.1
  simp [Lit.wf, IntKind.min, IntKind.max, IntKind.signed, IntKind.bits] at this
  omega

set_option maxRecDepth 100000 in
theorem under_blindL : ∃ f0 f1 f2 f3 f4 : Field, Tryz.prog.underlying 26 = some (.struct #[f0, f1, f2, f3, f4]) ∧ f0.type = 22 ∧ f1.type = 23 ∧ f2.type = 23 ∧ f3.type = 24 ∧ f4.type = 23 ∧ oneCellFields Tryz.prog #[f0, f1, f2, f3, f4] = true :=
  ⟨_, _, _, _, _, Tryz.underlying26, rfl, rfl, rfl, rfl, rfl, by kernel_rfl⟩

set_option maxRecDepth 100000 in
theorem open_blind {H : Type} {enc : TypeId × Value → H} {W : World} {b0 base : Nat} {spare : Nat → Bool} {held : Bool} {r : Reach} {v : Value} {d : DataW H} {p : List MemPlace}
    (hv : Value.okWide Tryz.prog W r b0 26 v) (h : DataW.Trod enc Tryz.prog W base spare held 26 v d p) :
    ∃ (n : Int) (wd gp : Nat) (t : Int) (sh : Nat), BlWf n wd gp t sh ∧ v = .agg (blindC n wd gp t sh) := by
  obtain ⟨f0, f1, f2, f3, f4, hu, e0, e1, e2, e3, e4, hone⟩ := under_blindL
  obtain ⟨cs, n, rfl, hl, hf⟩ := open_aggN hu hone (by kernel_rfl) hv h
  match cs, hl with
  | [c0, c1, c2, c3, c4], _ =>
    obtain ⟨c, y, hc, h0⟩ := hf 0 f0 rfl
    obtain rfl : c0 = c := by simpa using hc
    obtain ⟨c, y, hc, h1⟩ := hf 1 f1 rfl
    obtain rfl : c1 = c := by simpa using hc
    obtain ⟨c, y, hc, h2⟩ := hf 2 f2 rfl
    obtain rfl : c2 = c := by simpa using hc
    obtain ⟨c, y, hc, h3⟩ := hf 3 f3 rfl
    obtain rfl : c3 = c := by simpa using hc
    obtain ⟨c, y, hc, h4⟩ := hf 4 f4 rfl
    obtain rfl : c4 = c := by simpa using hc
    rw [e0] at h0; rw [e1] at h1; rw [e2] at h2; rw [e3] at h3; rw [e4] at h4
    obtain ⟨n0, q0, _, w0⟩ := DataW.trod_int Tryz.underlying22 h0
    obtain ⟨n1, q1, w1⟩ := trod_f Tryz.underlying23 h1
    obtain ⟨n2, q2, w2⟩ := trod_f Tryz.underlying23 h2
    obtain ⟨n3, q3, _, w3⟩ := DataW.trod_int Tryz.underlying24 h3
    obtain ⟨n4, q4, w4⟩ := trod_f Tryz.underlying23 h4
    simp only [List.cons.injEq, and_true] at q0 q1 q2 q3 q4
    subst q0 q1 q2 q3 q4
    exact ⟨n0, n1, n2, n3, n4, ⟨w0, w1, w2, w3, w4⟩, rfl⟩

set_option maxHeartbeats 400000 in
theorem toBlind_any (n : Int) (wd gp : Nat) (t : Int) (sh : Nat) (w : World) :
    Calls Tryz.prog 8 #[.agg (blindC n wd gp t sh)] w fun e w' => e = .returned (.agg (blindC n wd gp t sh)) ∧ Below w.heap.size w w' := by
  unfold blindC
  go_enter Tryz.func8, Tryz.ntmps8
  go_wp2
  refine bodyPost_ret (v := .agg #[.int .i8 n, .float .f32 wd, .float .f32 gp, .int .i16 t, .float .f32 sh]) (by simp [results, Tryz.results8, go_sem]) rfl ⟨rfl, ?_⟩
  (repeat' first | exact Below.refl _ _ | assumption | refine Below.alloc ?_ (by first | omega | (simp; done) | (simp; omega)) _ | refine Below.setCell ?_ (by first | omega | (simp; done) | (simp; omega)) _ | refine Below.drew ?_)

end Go.Proofs.YtdbleddcnknmiaaGreatDoor

namespace Go.Proofs.YtdbleddcnknmiaaGreatDoor
open Go

/-- The operations on single precision words, 0 where they have no answer. -/
def fmul (x y : Nat) : Nat := (Ieee.single.mul x y).getD 0
def fsub (x y : Nat) : Nat := (Ieee.single.sub x y).getD 0
def fadd (x y : Nat) : Nat := (Ieee.single.add x y).getD 0
def fdiv (x y : Nat) : Nat := (Ieee.single.div x y).getD 0

/-- The sine of the first quarter, step by step. -/
def qx (a : Int) : Nat := fdiv (floatOfInt .f32 a) 1115684864
def qy (a : Int) : Nat := fmul (qx a) (qx a)
def qyk (a : Int) : Nat := fmul (qy a) 1033109504
def qp (a : Int) : Nat := fsub 1059356672 (qyk a)
def qyp (a : Int) : Nat := fmul (qy a) (qp a)
def qq (a : Int) : Nat := fsub 1070137344 (qyp a)
def qs (a : Int) : Nat := fmul (qx a) (qq a)
def qn (a : Int) : Nat := fsub 0 (qs a)

def qOk (a : Int) : Bool :=
  floatBits .quo .f32 (floatOfInt .f32 a) 1115684864 == some (qx a)
    && floatBits .mul .f32 (qx a) (qx a) == some (qy a)
    && floatBits .mul .f32 (qy a) 1033109504 == some (qyk a)
    && floatBits .sub .f32 1059356672 (qyk a) == some (qp a)
    && floatBits .mul .f32 (qy a) (qp a) == some (qyp a)
    && floatBits .sub .f32 1070137344 (qyp a) == some (qq a)
    && floatBits .mul .f32 (qx a) (qq a) == some (qs a)
    && floatBits .sub .f32 0 (qs a) == some (qn a)

theorem qOk_nat : ∀ n : Nat, n < 65 → qOk (n : Int) = true := by decide +kernel

theorem qOk_all (a : Int) (h0 : 0 ≤ a) (h1 : a ≤ 64) : qOk a = true := by
  obtain ⟨n, rfl⟩ := Int.eq_ofNat_of_zero_le h0
  exact qOk_nat n (by omega)

/-- The sine of an angle from 0 to 255, quarter by quarter. -/
def sineB (a : Int) : Nat :=
  if a ≤ 64 then qs a else if a ≤ 128 then qs (128 - a) else if a ≤ 192 then qn (a - 128) else qn (256 - a)

def angB (a : Int) : Int := a % 256
theorem angB_lo (a : Int) : 0 ≤ angB a := by unfold angB; omega
theorem angB_hi (a : Int) : angB a ≤ 255 := by unfold angB; omega

def cosB (a : Int) : Nat := sineB (angB (a + 64))

end Go.Proofs.YtdbleddcnknmiaaGreatDoor

namespace Go.Proofs.YtdbleddcnknmiaaGreatDoor
open Go

theorem read_num {x : Nat} {s : Bool} {m : Nat} {e : Int} (h : Ieee.single.read x = .number s m e) : m < 16777216 ∧ -149 ≤ e ∧ e ≤ 104 := by
  have hb : Ieee.single.binade = 8388608 := by decide
  have hi : Ieee.single.infRung = 2139095040 := by decide
  have hl : Ieee.single.leastPlace = -149 := by decide
  unfold Ieee.Format.read at h
  simp only [hb, hi, hl] at h
  split at h
  · injection h with h1 h2 h3; omega
  · split at h
    · injection h with h1 h2 h3; omega
    · split at h <;> cases h

theorem cut_lt (s : Bool) (n d k : Nat) (h : n < k) : Ieee.Toward.even.cut s n d ≤ k := by
  unfold Ieee.Toward.cut
  have h1 : n / (1 <<< min d (n.log2 + 2)) ≤ n := Nat.div_le_self _ _
  have h2 : ∀ b : Bool, b.toNat ≤ 1 := by decide
  have h3 := h2 (match Ieee.Toward.even with
    | .even => decide (1 <<< min d (n.log2 + 2) < 2 * (n % (1 <<< min d (n.log2 + 2)))) || (1 <<< min d (n.log2 + 2) == 2 * (n % (1 <<< min d (n.log2 + 2))) && n / (1 <<< min d (n.log2 + 2)) % 2 == 1)
    | .down => s && n % (1 <<< min d (n.log2 + 2)) != 0
    | .up => !s && n % (1 <<< min d (n.log2 + 2)) != 0
    | .zero => false)
  dsimp only at h3 ⊢
  omega

theorem shl_lt (m u : Nat) (h0 : m ≠ 0) (hu : u + m.log2 ≤ 52) : m <<< u < 2 ^ 53 := by
  have hm2 : m < 2 ^ (m.log2 + 1) := (Nat.log2_lt h0).1 (Nat.lt_succ_self _)
  rw [Nat.shiftLeft_eq]
  have h3 : m * 2 ^ u < 2 ^ (m.log2 + 1) * 2 ^ u := Nat.mul_lt_mul_of_pos_right hm2 (Nat.two_pow_pos _)
  rw [← Nat.pow_add] at h3
  exact Nat.lt_of_lt_of_le h3 (Nat.pow_le_pow_right (Nat.le_succ 1) (by omega))

theorem two53 : 2 ^ 53 = 9007199254740992 := rfl

theorem double_nearest (s : Bool) (m : Nat) (e : Int) (hm : m < 16777216) (he : e ≤ 104) :
    ∃ k, k < Ieee.double.infRung ∧ Ieee.double.nearest s m e = Ieee.double.word s k := by
  have hb : Ieee.double.binade = 4503599627370496 := by decide
  have hi : Ieee.double.infRung = 9218868437227405312 := by decide
  have hl : Ieee.double.leastPlace = -1074 := by decide
  have hf : (Ieee.double.fractionBits : Int) = 52 := by decide
  unfold Ieee.Format.nearest
  by_cases h0 : m = 0
  · rw [if_pos h0]
    exact ⟨0, by rw [hi]; omega, rfl⟩
  rw [if_neg h0]
  dsimp only
  rw [hb, hi, hl, hf]
  have hlog : m.log2 < 24 := (Nat.log2_lt h0).2 hm
  generalize hL : max (e + (m.log2 : Int) - 52) (-1074) = last
  have hlast : last ≤ 75 := by omega
  have hlast2 : -1074 ≤ last := by omega
  have hlast3 : e + (m.log2 : Int) - 52 ≤ last := by omega
  have hn : m <<< (e - last).toNat < 9007199254740992 := by
    rw [← two53]; exact shl_lt m _ h0 (by omega)
  have hc := cut_lt s (m <<< (e - last).toNat) (last - e).toNat _ hn
  generalize Ieee.Toward.even.cut s (m <<< (e - last).toNat) (last - e).toNat = c at hc ⊢
  clear hn hlog hL hlast3 hb hi hl hf
  have hfin : (last - -1074).toNat * 4503599627370496 + c < 9218868437227405312 := by omega
  have hmin : min ((last - -1074).toNat * 4503599627370496 + c) 9218868437227405312 = (last - -1074).toNat * 4503599627370496 + c := Nat.min_eq_left (Nat.le_of_lt hfin)
  rw [hmin]
  exact ⟨_, hfin, rfl⟩

theorem double_read_word (s : Bool) (k : Nat) (h : k < Ieee.double.infRung) : ∃ m e, Ieee.double.read (Ieee.double.word s k) = .number s m e := by
  have hi : Ieee.double.infRung = 9218868437227405312 := by decide
  have hw : Ieee.double.signWeight = 9223372036854775808 := by decide
  rw [hi] at h
  unfold Ieee.Format.read Ieee.Format.word
  simp only [hi, hw]
  have hk : k % 9223372036854775808 = k := Nat.mod_eq_of_lt (by omega)
  have hk2 : k / 9223372036854775808 = 0 := Nat.div_eq_of_lt (by omega)
  have hs1 : (9223372036854775808 + k) % 9223372036854775808 = k := by omega
  have hs2 : (9223372036854775808 + k) / 9223372036854775808 = 1 := by omega
  cases s
  · simp only [Bool.false_eq_true, if_false, hk, hk2]
    split
    · exact ⟨_, _, rfl⟩
    · exact ⟨_, _, rfl⟩
  · simp only [if_true, hs1, hs2]
    split
    · exact ⟨_, _, rfl⟩
    · exact ⟨_, _, rfl⟩

theorem order_refl (d : Ieee.Datum) (h : d.isNaN = false) : d.order d = some .eq := by
  cases d with
  | number s m e => simp [Ieee.Datum.order]
  | infinity s => simp [Ieee.Datum.order]
  | nan s f => simp [Ieee.Datum.isNaN] at h

/-- A number of single precision that is no NaN. -/
def fin32 (x : Nat) : Bool := !(Ieee.single.read x).isNaN

def wide (x : Nat) : Nat := (floatToFloatBits .f32 x .f64).getD 0

/-- What is no NaN is widened without a draw, and is no NaN then. -/
theorem wide_ok (x : Nat) (h : fin32 x = true) : floatToFloatBits .f32 x .f64 = some (wide x) ∧ wide x < 18446744073709551616 ∧ FloatKind.f64.format.order (wide x) (wide x) = some .eq := by
  suffices h1 : ∃ r, floatToFloatBits .f32 x .f64 = some r ∧ r < 18446744073709551616 ∧ FloatKind.f64.format.order r r = some .eq by
    obtain ⟨r, h1, h2, h3⟩ := h1
    have e : wide x = r := by unfold wide; rw [h1]; rfl
    rw [e]; exact ⟨h1, h2, h3⟩
  unfold floatToFloatBits
  rw [if_neg (by decide)]
  cases hr : FloatKind.f32.decode x with
  | nan s f =>
    have : Ieee.single.read x = .nan s f := hr
    simp [fin32, this, Ieee.Datum.isNaN] at h
  | infinity s =>
    refine ⟨_, rfl, ?_, ?_⟩
    · cases s <;> decide
    · cases s <;> decide
  | number s m e =>
    obtain ⟨hm, _, he⟩ := read_num (x := x) hr
    obtain ⟨k, hk, hn⟩ := double_nearest s m e hm he
    obtain ⟨m', e', hw⟩ := double_read_word s k hk
    have henc : FloatKind.f64.encode (.number s m e) = Ieee.double.word s k := hn
    have hdec : FloatKind.f64.decode (Ieee.double.word s k) = .number s m' e' := hw
    simp only [henc, hdec, Ieee.Datum.isInfinity]
    refine ⟨_, rfl, ?_, ?_⟩
    · have hi : Ieee.double.infRung = 9218868437227405312 := by decide
      have hsw : Ieee.double.signWeight = 9223372036854775808 := by decide
      unfold Ieee.Format.word
      rw [hsw]
      split <;> omega
    · show (Ieee.double.read (Ieee.double.word s k)).order (Ieee.double.read (Ieee.double.word s k)) = some .eq
      rw [hw]; exact order_refl _ rfl

/-- Which doubles are equal to 0. -/
theorem zero_of_order (r : Nat) (h : r < 18446744073709551616) (h0 : FloatKind.f64.format.order r 0 = some .eq) : r = 0 ∨ r = 9223372036854775808 := by
  have hb : Ieee.double.binade = 4503599627370496 := by decide
  have hi : Ieee.double.infRung = 9218868437227405312 := by decide
  have hl : Ieee.double.leastPlace = -1074 := by decide
  have hw : Ieee.double.signWeight = 9223372036854775808 := by decide
  have hz : Ieee.double.read 0 = .number false 0 (-1074) := by decide
  change (Ieee.double.read r).order (Ieee.double.read 0) = some .eq at h0
  rw [hz] at h0
  have hsg : ∀ (s : Bool) (m u : Nat), Ieee.signed s m u = 0 → m = 0 := by
    intro s m u hh
    unfold Ieee.signed at hh
    rw [Nat.shiftLeft_eq] at hh
    have hp : 0 < 2 ^ u := Nat.two_pow_pos u
    have : m * 2 ^ u = 0 := by split at hh <;> omega
    rcases Nat.mul_eq_zero.1 this with h | h
    · exact h
    · omega
  have hnum : ∀ s m e, Ieee.double.read r = .number s m e → m = 0 := by
    intro s m e hr
    rw [hr] at h0
    simp only [Ieee.Datum.order, Option.some.injEq] at h0
    have h1 := Int.compare_eq_eq.1 h0 
    have h2 : Ieee.signed false 0 ((-1074 : Int) - min e (-1074)).toNat = 0 := by simp [Ieee.signed]
    rw [h2] at h1
    exact hsg _ _ _ h1
  unfold Ieee.Format.read at hnum h0
  simp only [hb, hi, hl, hw] at hnum h0
  by_cases c1 : r % 9223372036854775808 < 4503599627370496
  · rw [if_pos c1] at hnum
    have := hnum _ _ _ rfl
    omega
  · rw [if_neg c1] at hnum h0
    by_cases c2 : r % 9223372036854775808 < 9218868437227405312
    · rw [if_pos c2] at hnum
      have := hnum _ _ _ rfl
      omega
    · rw [if_neg c2] at h0
      by_cases c3 : r % 9223372036854775808 = 9218868437227405312
      · rw [if_pos c3] at h0
        simp only [Ieee.Datum.order, Option.some.injEq] at h0
        split at h0 <;> cases h0
      · rw [if_neg c3] at h0
        simp [Ieee.Datum.order] at h0

end Go.Proofs.YtdbleddcnknmiaaGreatDoor

namespace Go.Proofs.YtdbleddcnknmiaaGreatDoor
open Go

def num32 (x : Nat) : Bool := match Ieee.single.read x with | .number .. => true | _ => false

theorem num32_get {x : Nat} (h : num32 x = true) : ∃ s m e, Ieee.single.read x = .number s m e := by
  unfold num32 at h
  cases hr : Ieee.single.read x with
  | number s m e => exact ⟨s, m, e, rfl⟩
  | infinity s => rw [hr] at h; cases h
  | nan s f => rw [hr] at h; cases h

theorem single_read_word (s : Bool) (k : Nat) (h : k ≤ Ieee.single.infRung) : (Ieee.single.read (Ieee.single.word s k)).isNaN = false := by
  have hi : Ieee.single.infRung = 2139095040 := by decide
  have hw : Ieee.single.signWeight = 2147483648 := by decide
  rw [hi] at h
  unfold Ieee.Format.read Ieee.Format.word
  simp only [hi, hw]
  have hk : k % 2147483648 = k := Nat.mod_eq_of_lt (by omega)
  have hs1 : (2147483648 + k) % 2147483648 = k := by omega
  cases s
  · simp only [Bool.false_eq_true, if_false, hk]
    split
    · rfl
    · split
      · rfl
      · rw [if_pos (by omega)]; rfl
  · simp only [if_true, hs1]
    split
    · rfl
    · split
      · rfl
      · rw [if_pos (by omega)]; rfl

theorem nearest_fin (s : Bool) (m : Nat) (e : Int) : fin32 (Ieee.single.nearest s m e) = true := by
  unfold fin32
  rw [Bool.not_eq_true']
  unfold Ieee.Format.nearest
  split
  · exact single_read_word s 0 (Nat.zero_le _)
  · exact single_read_word s _ (Nat.min_le_right _ _)

theorem write_fin (d : Ieee.Datum) (h : d.isNaN = false) : fin32 (Ieee.single.write d) = true := by
  cases d with
  | number s m e => exact nearest_fin s m e
  | infinity s => unfold fin32; rw [Bool.not_eq_true']; exact single_read_word s _ (Nat.le_refl _)
  | nan s f => cases h

/-- A product of two numbers is made without a draw, and is no NaN. -/
theorem mul_ok {x y : Nat} (hx : num32 x = true) (hy : num32 y = true) : floatBits .mul .f32 x y = some (fmul x y) ∧ fin32 (fmul x y) = true := by
  obtain ⟨s, m, e, hr⟩ := num32_get hx
  obtain ⟨t, n, j, hq⟩ := num32_get hy
  have h : Ieee.single.mul x y = some (Ieee.single.write (.number (s ^^ t) (m * n) (e + j))) := by
    unfold Ieee.Format.mul
    rw [hr, hq]; rfl
  have e1 : fmul x y = Ieee.single.write (.number (s ^^ t) (m * n) (e + j)) := by unfold fmul; rw [h]; rfl
  rw [e1]
  exact ⟨h, write_fin _ rfl⟩

theorem order_some {x y : Nat} (hx : fin32 x = true) (hy : fin32 y = true) : ∃ o, FloatKind.f32.format.order x y = some o := by
  unfold fin32 at hx hy
  rw [Bool.not_eq_true'] at hx hy
  show ∃ o, (Ieee.single.read x).order (Ieee.single.read y) = some o
  generalize Ieee.single.read x = a at *
  generalize Ieee.single.read y = b at *
  cases a <;> cases b <;> first | (cases hx; done) | (cases hy; done) | exact ⟨_, rfl⟩

theorem num_fin {x : Nat} (h : num32 x = true) : fin32 x = true := by
  obtain ⟨s, m, e, hr⟩ := num32_get h
  unfold fin32; rw [hr]; rfl

theorem sineB_num_nat : ∀ n : Nat, n < 256 → num32 (sineB (n : Int)) = true := by decide +kernel
theorem sineB_num (a : Int) : num32 (sineB (angB a)) = true := by
  have h0 := angB_lo a
  have h1 := angB_hi a
  generalize angB a = n at *
  obtain ⟨m, rfl⟩ := Int.eq_ofNat_of_zero_le h0
  exact sineB_num_nat m (by omega)
theorem cosB_num (a : Int) : num32 (cosB a) = true := sineB_num _

/-- The light on the ground at a height; the light on a window at a height and a turn less a facing. -/
def groundB (x : Int) : Nat := if 0 < x then sineB x else 0
def litB (l : Nat) : Nat := if FloatKind.f32.format.order l 0 = some .gt then l else 0
def fallB (x d : Int) : Nat := if 0 < x then litB (fmul (cosB x) (cosB d)) else 0

theorem zero_fin : fin32 0 = true := by decide
theorem angB_id (a : Int) (h0 : 0 ≤ a) (h1 : a ≤ 255) : angB a = a := by unfold angB; omega
theorem groundB_fin (x : Int) (h : x ≤ 64) : fin32 (groundB x) = true := by
  unfold groundB
  split
  · rw [← angB_id x (by omega) (by omega)]; exact num_fin (sineB_num x)
  · exact zero_fin
theorem litB_fin (l : Nat) (h : fin32 l = true) : fin32 (litB l) = true := by
  unfold litB
  split
  · exact h
  · exact zero_fin
theorem fallB_fin (x d : Int) : fin32 (fallB x d) = true := by
  unfold fallB
  split
  · exact litB_fin _ (mul_ok (cosB_num _) (cosB_num _)).2
  · exact zero_fin

end Go.Proofs.YtdbleddcnknmiaaGreatDoor

namespace Go.Proofs.YtdbleddcnknmiaaGreatDoor
open Go

/-- The step above a number, and a number, in units of the least one. -/
def ulp (r : Nat) : Nat := 2 ^ (r / 8388608 - 1)
def rv (r : Nat) : Nat := if r < 8388608 then r else (8388608 + r % 8388608) * 2 ^ (r / 8388608 - 1)

theorem ulp_pos (r : Nat) : 0 < ulp r := Nat.two_pow_pos _

theorem rv_block (L k : Nat) (hk : k ≤ 16777216) (h : L = 0 ∨ 8388608 ≤ k) : rv (L * 8388608 + k) = k * 2 ^ L := by
  unfold rv
  by_cases c : k = 16777216
  · subst c
    rw [if_neg (by omega), show (L * 8388608 + 16777216) % 8388608 = 0 by omega, show (L * 8388608 + 16777216) / 8388608 - 1 = L + 1 by omega, Nat.pow_succ]
    omega
  · by_cases c2 : 8388608 ≤ k
    · rw [if_neg (by omega), show (L * 8388608 + k) % 8388608 = k - 8388608 by omega, show (L * 8388608 + k) / 8388608 - 1 = L by omega, show 8388608 + (k - 8388608) = k by omega]
    · obtain rfl : L = 0 := by omega
      rw [if_pos (by omega)]; simp

theorem ulp_block (L k : Nat) (hk : k < 16777216) (h : L = 0 ∨ 8388608 ≤ k) : ulp (L * 8388608 + k) = 2 ^ L := by
  unfold ulp
  congr 1
  omega

theorem rv_split (r : Nat) : ∃ L k, r = L * 8388608 + k ∧ k < 16777216 ∧ (L = 0 ∨ 8388608 ≤ k) := by
  refine ⟨r / 8388608 - 1, r - (r / 8388608 - 1) * 8388608, by omega, by omega, ?_⟩
  by_cases h : r / 8388608 - 1 = 0
  · exact .inl h
  · right; omega

theorem rv_succ (r : Nat) : rv (r + 1) = rv r + ulp r := by
  obtain ⟨L, k, rfl, hk, h⟩ := rv_split r
  rw [Nat.add_assoc, rv_block L (k + 1) (by omega) (by omega), rv_block L k (by omega) h, ulp_block L k hk h, Nat.succ_mul]

theorem rv_lt_add (r d : Nat) : rv r < rv (r + (d + 1)) := by
  induction d with
  | zero => rw [Nat.zero_add, rv_succ]; have := ulp_pos r; omega
  | succ d ih => rw [← Nat.add_assoc r (d + 1) 1, rv_succ]; omega
theorem rv_lt {r s : Nat} (h : r < s) : rv r < rv s := by
  obtain ⟨d, rfl⟩ := Nat.exists_eq_add_of_lt h
  rw [Nat.add_assoc]; exact rv_lt_add r d
theorem rv_le {r s : Nat} (h : r ≤ s) : rv r ≤ rv s := by
  rcases Nat.eq_or_lt_of_le h with rfl | h
  · exact Nat.le_refl _
  · exact Nat.le_of_lt (rv_lt h)
theorem rv_lt_iff {r s : Nat} : rv r < rv s ↔ r < s :=
  ⟨fun h => Nat.lt_of_not_le fun c => by have := rv_le c; omega, rv_lt⟩
theorem rv_le_iff {r s : Nat} : rv r ≤ rv s ↔ r ≤ s :=
  ⟨fun h => Nat.le_of_not_lt fun c => by have := rv_lt c; omega, rv_le⟩
theorem rv_inj {r s : Nat} (h : rv r = rv s) : r = s := by
  have h1 := rv_le_iff (r := r) (s := s)
  have h2 := rv_le_iff (r := s) (s := r)
  omega
theorem rv_zero : rv 0 = 0 := rfl
theorem rv_pos {r : Nat} (h : 0 < r) : 0 < rv r := by have := rv_lt h; rw [rv_zero] at this; exact this

theorem cutg (n g k : Nat) (hg : 0 < g) : k + 1 ≤ n / g + (decide (g < 2 * (n % g)) || (g == 2 * (n % g) && n / g % 2 == 1)).toNat ↔ (2 * k + 1) * g < 2 * n ∨ ((2 * k + 1) * g = 2 * n ∧ k % 2 = 1) := by
  have hn : g * (n / g) + n % g = n := Nat.div_add_mod n g
  have hr : n % g < g := Nat.mod_lt _ hg
  generalize n / g = low at *
  generalize n % g = rest at *
  have e1 : (2 * k + 1) * g = 2 * (g * k) + g := by rw [Nat.add_mul, Nat.mul_assoc, Nat.mul_comm k g]; omega
  rw [e1]
  have hb : ∀ b : Bool, b.toNat ≤ 1 := by decide
  rcases Nat.lt_trichotomy k low with c | c | c
  · have h1 : g * (k + 1) ≤ g * low := Nat.mul_le_mul_left g c
    rw [Nat.mul_succ] at h1
    constructor
    · intro _; left; omega
    · intro _; omega
  · subst c
    by_cases h2 : g < 2 * rest
    · simp only [h2, decide_true, Bool.true_or, Bool.toNat_true]
      constructor
      · intro _; left; omega
      · intro _; omega
    · by_cases h3 : g = 2 * rest
      · by_cases h4 : k % 2 = 1
        · have e : (decide (g < 2 * rest) || (g == 2 * rest && k % 2 == 1)) = true := by simp [h3, h4]
          rw [e]
          constructor
          · intro _; right; omega
          · intro _; simp
        · have e : (decide (g < 2 * rest) || (g == 2 * rest && k % 2 == 1)) = false := by simp [h3]; omega
          rw [e]
          constructor
          · intro h; simp only [Bool.toNat_false, Nat.add_zero] at h; omega
          · intro h; omega
      · have e : (decide (g < 2 * rest) || (g == 2 * rest && k % 2 == 1)) = false := by simp [h2, h3]
        rw [e]
        constructor
        · intro h; simp only [Bool.toNat_false, Nat.add_zero] at h; omega
        · intro h; omega
  · have h1 : g * (low + 1) ≤ g * k := Nat.mul_le_mul_left g c
    rw [Nat.mul_succ] at h1
    have := hb (decide (g < 2 * rest) || (g == 2 * rest && low % 2 == 1))
    constructor
    · intro h; omega
    · intro h; omega

theorem cut_step (s : Bool) (n d k : Nat) : k + 1 ≤ Ieee.Toward.even.cut s n d ↔ (2 * k + 1) * 2 ^ d < 2 * n ∨ ((2 * k + 1) * 2 ^ d = 2 * n ∧ k % 2 = 1) := by
  have hc := cutg n (1 <<< min d (n.log2 + 2)) k (by rw [Nat.one_shiftLeft]; exact Nat.two_pow_pos _)
  have e : Ieee.Toward.even.cut s n d = n / (1 <<< min d (n.log2 + 2)) + (decide ((1 <<< min d (n.log2 + 2)) < 2 * (n % (1 <<< min d (n.log2 + 2)))) || ((1 <<< min d (n.log2 + 2)) == 2 * (n % (1 <<< min d (n.log2 + 2))) && n / (1 <<< min d (n.log2 + 2)) % 2 == 1)).toNat := rfl
  rw [e, hc, Nat.one_shiftLeft]
  by_cases h : d ≤ n.log2 + 2
  · rw [Nat.min_eq_left h]
  · rw [Nat.min_eq_right (by omega)]
    have hl : n < 2 ^ (n.log2 + 1) := Nat.lt_log2_self
    have h2 : 2 ^ (n.log2 + 2) = 2 * 2 ^ (n.log2 + 1) := by rw [Nat.pow_succ 2 (n.log2 + 1)]; omega
    have h3 : 2 ^ (n.log2 + 2) ≤ 2 ^ d := Nat.pow_le_pow_right (by decide) (by omega)
    have h4 : 2 ^ d ≤ (2 * k + 1) * 2 ^ d := Nat.le_mul_of_pos_left _ (by omega)
    have h5 : 2 ^ (n.log2 + 2) ≤ (2 * k + 1) * 2 ^ (n.log2 + 2) := Nat.le_mul_of_pos_left _ (by omega)
    constructor
    · intro h; omega
    · intro h; omega

theorem cut_le {s : Bool} {n d K : Nat} (h : n ≤ K * 2 ^ d) : Ieee.Toward.even.cut s n d ≤ K := by
  refine Nat.le_of_not_lt fun c => ?_
  have h1 := (cut_step s n d K).1 c
  have h2 : (2 * K + 1) * 2 ^ d = 2 * (K * 2 ^ d) + 2 ^ d := by rw [Nat.add_mul, Nat.mul_assoc]; omega
  have h3 : 0 < 2 ^ d := Nat.two_pow_pos d
  omega

theorem le_cut {s : Bool} {n d K : Nat} (h : K * 2 ^ d ≤ n) : K ≤ Ieee.Toward.even.cut s n d := by
  cases K with
  | zero => exact Nat.zero_le _
  | succ k =>
    refine (cut_step s n d k).2 (.inl ?_)
    have h2 : (2 * k + 1) * 2 ^ d = 2 * (k * 2 ^ d) + 2 ^ d := by rw [Nat.add_mul, Nat.mul_assoc]; omega
    have h3 : 0 < 2 ^ d := Nat.two_pow_pos d
    rw [Nat.succ_mul] at h
    omega

/-- w is the nearest to num / den, in units of the least number; of a number too great, infinity. -/
def Rnd (num den w : Nat) : Prop :=
  w ≤ 2139095040 ∧ ∀ r, r < 2139095040 → (r + 1 ≤ w ↔ (2 * rv r + ulp r) * den < 2 * num ∨ ((2 * rv r + ulp r) * den = 2 * num ∧ r % 2 = 1))

theorem scale_iff (A B t k : Nat) (ht : 0 < t) : (A * t < B * t ∨ (A * t = B * t ∧ k % 2 = 1)) ↔ (A < B ∨ (A = B ∧ k % 2 = 1)) := by
  rw [Nat.mul_lt_mul_right ht, Nat.mul_left_inj (by omega)]

theorem nearest_rnd (m : Nat) (e : Int) (a b : Nat) (hab : (a : Int) - b = e + 149) : Rnd (m * 2 ^ a) (2 ^ b) (Ieee.single.nearest false m e) := by
  have hb : Ieee.single.binade = 8388608 := by decide
  have hi : Ieee.single.infRung = 2139095040 := by decide
  have hl : Ieee.single.leastPlace = -149 := by decide
  have hf : (Ieee.single.fractionBits : Int) = 23 := by decide
  have hw : ∀ k, Ieee.single.word false k = k := fun _ => rfl
  have hpb : 0 < 2 ^ b := Nat.two_pow_pos b
  unfold Ieee.Format.nearest
  by_cases h0 : m = 0
  · rw [if_pos h0, hw]
    subst h0
    refine ⟨Nat.zero_le _, fun r _ => ?_⟩
    have h1 := ulp_pos r
    have h2 : 0 < (2 * rv r + ulp r) * 2 ^ b := Nat.mul_pos (by omega) hpb
    constructor
    · intro h; omega
    · intro h; omega
  rw [if_neg h0]
  dsimp only
  rw [hb, hi, hl, hf, hw]
  have hm1 : m < 2 ^ (m.log2 + 1) := Nat.lt_log2_self
  have hm2 : 2 ^ m.log2 ≤ m := Nat.log2_self_le h0
  generalize m.log2 = lg at *
  generalize hlast : max (e + (lg : Int) - 23) (-149) = last
  obtain ⟨L, hL⟩ : ∃ L : Nat, last = (L : Int) - 149 := ⟨(last + 149).toNat, by omega⟩
  have hLL : (last - -149).toNat = L := by omega
  rw [hLL]
  generalize hu : (e - last).toNat = u
  generalize hd : (last - e).toNat = d
  have hsum : a + d = b + u + L := by omega
  rw [Nat.shiftLeft_eq]
  -- the kept number, between its bounds
  have hup : m * 2 ^ u < 2 ^ (24 + d) := by
    have h1 : m * 2 ^ u < 2 ^ (lg + 1) * 2 ^ u := Nat.mul_lt_mul_of_pos_right hm1 (Nat.two_pow_pos _)
    rw [← Nat.pow_add] at h1
    exact Nat.lt_of_lt_of_le h1 (Nat.pow_le_pow_right (by decide) (by omega))
  have hlo : L = 0 ∨ 2 ^ (23 + d) ≤ m * 2 ^ u := by
    by_cases c : L = 0
    · exact .inl c
    · right
      have h1 : 2 ^ lg * 2 ^ u ≤ m * 2 ^ u := Nat.mul_le_mul_right _ hm2
      rw [← Nat.pow_add] at h1
      exact Nat.le_trans (Nat.pow_le_pow_right (by decide) (by omega)) h1
  have hstep := cut_step false (m * 2 ^ u) d
  have hKup : Ieee.Toward.even.cut false (m * 2 ^ u) d ≤ 16777216 := cut_le (by rw [Nat.pow_add] at hup; exact Nat.le_of_lt hup)
  have hKlo : L = 0 ∨ 8388608 ≤ Ieee.Toward.even.cut false (m * 2 ^ u) d := hlo.imp id (fun h => le_cut (by rw [Nat.pow_add] at h; exact h))
  generalize Ieee.Toward.even.cut false (m * 2 ^ u) d = K at *
  -- the value, in the units of num and den
  have hval : m * 2 ^ a * 2 ^ d = m * 2 ^ u * 2 ^ (b + L) := by
    rw [Nat.mul_assoc, ← Nat.pow_add, hsum, Nat.mul_assoc, ← Nat.pow_add]
    congr 2; omega
  have hpd : 0 < 2 ^ d := Nat.two_pow_pos d
  have hVup : m * 2 ^ a < 16777216 * 2 ^ (b + L) := by
    have h1 : m * 2 ^ u * 2 ^ (b + L) < 2 ^ (24 + d) * 2 ^ (b + L) := Nat.mul_lt_mul_of_pos_right hup (Nat.two_pow_pos _)
    have e24 : 2 ^ (24 + d) * 2 ^ (b + L) = 16777216 * 2 ^ (b + L) * 2 ^ d := by
      rw [Nat.pow_add 2 24 d, Nat.mul_assoc, Nat.mul_comm (2 ^ d), ← Nat.mul_assoc]
    rw [← hval, e24] at h1
    exact Nat.lt_of_mul_lt_mul_right h1
  have hVlo : L = 0 ∨ 8388608 * 2 ^ (b + L) ≤ m * 2 ^ a := hlo.imp id fun h => by
    have h1 : 2 ^ (23 + d) * 2 ^ (b + L) ≤ m * 2 ^ u * 2 ^ (b + L) := Nat.mul_le_mul_right _ h
    have e23 : 2 ^ (23 + d) * 2 ^ (b + L) = 8388608 * 2 ^ (b + L) * 2 ^ d := by
      rw [Nat.pow_add 2 23 d, Nat.mul_assoc, Nat.mul_comm (2 ^ d), ← Nat.mul_assoc]
    rw [← hval, e23] at h1
    exact Nat.le_of_mul_le_mul_right h1 hpd
  refine ⟨Nat.min_le_right _ _, fun r hr => ?_⟩
  have hmin : r + 1 ≤ min (L * 8388608 + K) 2139095040 ↔ r + 1 ≤ L * 8388608 + K := by
    rw [Nat.le_min]; exact ⟨fun h => h.1, fun h => ⟨h, hr⟩⟩
  rw [hmin]
  by_cases c1 : L * 8388608 + 16777216 ≤ r
  · -- above
    have h1 : 16777216 * 2 ^ L ≤ rv r := by rw [← rv_block L 16777216 (Nat.le_refl _) (.inr (by decide))]; exact rv_le c1
    have h2 : 16777216 * 2 ^ L * 2 ^ b ≤ rv r * 2 ^ b := Nat.mul_le_mul_right _ h1
    rw [Nat.mul_assoc, ← Nat.pow_add, Nat.add_comm L b] at h2
    have h3 : (2 * rv r + ulp r) * 2 ^ b = 2 * (rv r * 2 ^ b) + ulp r * 2 ^ b := by rw [Nat.add_mul, Nat.mul_assoc]
    rw [h3]
    constructor
    · intro h; omega
    · intro h; omega
  by_cases c2 : L = 0 ∨ L * 8388608 + 8388608 ≤ r
  · -- within
    obtain ⟨k, rfl⟩ : ∃ k, r = L * 8388608 + k := ⟨r - L * 8388608, by omega⟩
    have hk : k < 16777216 := by omega
    have hk2 : L = 0 ∨ 8388608 ≤ k := by omega
    rw [rv_block L k (by omega) hk2, ulp_block L k hk hk2]
    have h1 : L * 8388608 + k + 1 ≤ L * 8388608 + K ↔ k + 1 ≤ K := by omega
    rw [h1, hstep k]
    have e1 : (2 * (k * 2 ^ L) + 2 ^ L) * 2 ^ b = (2 * k + 1) * 2 ^ (b + L) := by
      rw [← Nat.mul_assoc, ← Nat.succ_mul, Nat.mul_assoc, ← Nat.pow_add, Nat.add_comm L b]
    rw [e1, show (L * 8388608 + k) % 2 = k % 2 by omega]
    rw [← scale_iff ((2 * k + 1) * 2 ^ d) (2 * (m * 2 ^ u)) (2 ^ (b + L)) k (Nat.two_pow_pos _), ← scale_iff ((2 * k + 1) * 2 ^ (b + L)) (2 * (m * 2 ^ a)) (2 ^ d) k hpd]
    have e2 : 2 * (m * 2 ^ a) * 2 ^ d = 2 * (m * 2 ^ u) * 2 ^ (b + L) := by rw [Nat.mul_assoc 2, hval, ← Nat.mul_assoc]
    have e3 : (2 * k + 1) * 2 ^ d * 2 ^ (b + L) = (2 * k + 1) * 2 ^ (b + L) * 2 ^ d := by rw [Nat.mul_assoc, Nat.mul_comm (2 ^ d), ← Nat.mul_assoc]
    rw [e2, e3]
  · -- below
    have hL0 : L ≠ 0 := fun h => c2 (.inl h)
    have hr2 : r + 1 ≤ L * 8388608 + 8388608 := by omega
    have h1 : rv (r + 1) ≤ 8388608 * 2 ^ L := by rw [← rv_block L 8388608 (by decide) (.inr (Nat.le_refl _))]; exact rv_le hr2
    rw [rv_succ] at h1
    have hu0 := ulp_pos r
    have h2 : (2 * rv r + ulp r) < 2 * (8388608 * 2 ^ L) := by omega
    have h3 : (2 * rv r + ulp r) * 2 ^ b < 2 * (8388608 * 2 ^ L) * 2 ^ b := Nat.mul_lt_mul_of_pos_right h2 hpb
    have e1 : 2 * (8388608 * 2 ^ L) * 2 ^ b = 2 * (8388608 * 2 ^ (b + L)) := by rw [Nat.mul_assoc, Nat.mul_assoc, ← Nat.pow_add, Nat.add_comm L b]
    rw [e1] at h3
    have h4 := hVlo.resolve_left hL0
    have h5 := hKlo.resolve_left hL0
    constructor
    · intro _; left; omega
    · intro _; omega

/-! ### What follows of being the nearest -/
theorem rnd_mono {n1 d1 w1 n2 d2 w2 : Nat} (h1 : Rnd n1 d1 w1) (h2 : Rnd n2 d2 w2) (hd1 : 0 < d1) (hd2 : 0 < d2) (h : n1 * d2 ≤ n2 * d1) : w1 ≤ w2 := by
  refine Nat.le_of_not_lt fun c => ?_
  have hlt : w2 < 2139095040 := Nat.lt_of_lt_of_le c h1.1
  have a1 := (h1.2 w2 hlt).1 c
  have a2 : ¬ (w2 + 1 ≤ w2) := by omega
  rw [h2.2 w2 hlt] at a2
  generalize 2 * rv w2 + ulp w2 = M at *
  have e1 : M * d1 * d2 = M * d2 * d1 := by rw [Nat.mul_assoc, Nat.mul_comm d1, ← Nat.mul_assoc]
  rcases a1 with a1 | ⟨a1, a3⟩
  · have b1 : M * d1 * d2 < 2 * n1 * d2 := Nat.mul_lt_mul_of_pos_right a1 hd2
    have b2 : ¬ (M * d2 < 2 * n2) := fun h => a2 (.inl h)
    have b3 : 2 * n2 * d1 ≤ M * d2 * d1 := Nat.mul_le_mul_right _ (by omega)
    have f1 : 2 * n1 * d2 = 2 * (n1 * d2) := Nat.mul_assoc 2 n1 d2
    have f2 : 2 * n2 * d1 = 2 * (n2 * d1) := Nat.mul_assoc 2 n2 d1
    omega
  · have b1 : M * d1 * d2 = 2 * n1 * d2 := by rw [a1]
    have b2 : M * d2 * d1 ≤ 2 * n2 * d1 := by rw [← e1, b1, Nat.mul_assoc, Nat.mul_assoc]; omega
    have b3 : M * d2 ≤ 2 * n2 := Nat.le_of_mul_le_mul_right b2 hd1
    rcases Nat.eq_or_lt_of_le b3 with b4 | b4
    · exact a2 (.inr ⟨b4, a3⟩)
    · exact a2 (.inl b4)

theorem rnd_ge {n d w r : Nat} (h : Rnd n d w) (hr : r ≤ 2139095040) (hd : 0 < d) (hn : rv r * d ≤ n) : r ≤ w := by
  cases r with
  | zero => exact Nat.zero_le _
  | succ r =>
    refine (h.2 r (by omega)).2 (.inl ?_)
    rw [rv_succ, Nat.add_mul] at hn
    rw [Nat.add_mul, Nat.mul_assoc]
    have : 0 < ulp r * d := Nat.mul_pos (ulp_pos r) hd
    omega

theorem rnd_le {n d w r : Nat} (h : Rnd n d w) (hd : 0 < d) (hn : n ≤ rv r * d) : w ≤ r := by
  refine Nat.le_of_not_lt fun c => ?_
  have hlt : r < 2139095040 := Nat.lt_of_lt_of_le c h.1
  have a1 := (h.2 r hlt).1 c
  rw [Nat.add_mul, Nat.mul_assoc] at a1
  have : 0 < ulp r * d := Nat.mul_pos (ulp_pos r) hd
  omega

theorem rnd_exact {n d w r : Nat} (h : Rnd n d w) (hr : r ≤ 2139095040) (hd : 0 < d) (hn : n = rv r * d) : w = r :=
  Nat.le_antisymm (rnd_le h hd (Nat.le_of_eq hn)) (rnd_ge h hr hd (Nat.le_of_eq hn.symm))

theorem rnd_uniq {n d w v : Nat} (h1 : Rnd n d w) (h2 : Rnd n d v) (hd : 0 < d) : w = v :=
  Nat.le_antisymm (rnd_mono h1 h2 hd hd (Nat.le_refl _)) (rnd_mono h2 h1 hd hd (Nat.le_refl _))

/-! ### The operations -/
theorem read_pos {x : Nat} (h : x < 2139095040) : ∃ m i : Nat, Ieee.single.read x = .number false m (-149 + (i : Int)) ∧ m * 2 ^ i = rv x := by
  have hb : Ieee.single.binade = 8388608 := by decide
  have hi : Ieee.single.infRung = 2139095040 := by decide
  have hl : Ieee.single.leastPlace = -149 := by decide
  have hw : Ieee.single.signWeight = 2147483648 := by decide
  unfold Ieee.Format.read rv
  simp only [hb, hi, hl, hw]
  rw [Nat.mod_eq_of_lt (show x < 2147483648 by omega), Nat.div_eq_of_lt (show x < 2147483648 by omega)]
  by_cases c : x < 8388608
  · rw [if_pos c, if_pos c]; exact ⟨x, 0, rfl, by simp⟩
  · rw [if_neg c, if_pos h, if_neg c]; exact ⟨_, _, rfl, rfl⟩

theorem mul_rnd {x y : Nat} (hx : x < 2139095040) (hy : y < 2139095040) : floatBits .mul .f32 x y = some (fmul x y) ∧ Rnd (rv x * rv y) (2 ^ 149) (fmul x y) := by
  obtain ⟨m, i, hr, hm⟩ := read_pos hx
  obtain ⟨n, j, hq, hn⟩ := read_pos hy
  have h : Ieee.single.mul x y = some (Ieee.single.nearest false (m * n) ((-149 + (i : Int)) + (-149 + (j : Int)))) := by
    unfold Ieee.Format.mul
    rw [hr, hq]; rfl
  have e1 : fmul x y = Ieee.single.nearest false (m * n) ((-149 + (i : Int)) + (-149 + (j : Int))) := by unfold fmul; rw [h]; rfl
  rw [e1]
  refine ⟨h, ?_⟩
  have e2 : rv x * rv y = m * n * 2 ^ (i + j) := by rw [← hm, ← hn, Nat.pow_add, Nat.mul_mul_mul_comm]
  rw [e2]
  exact nearest_rnd _ _ _ _ (by omega)

theorem signed_false (m u : Nat) : Ieee.signed false m u = ((m * 2 ^ u : Nat) : Int) := by
  unfold Ieee.signed
  rw [if_neg (by decide), Nat.shiftLeft_eq]

theorem add_rnd {x y : Nat} (hx : x < 2139095040) (hy : y < 2139095040) : floatBits .add .f32 x y = some (fadd x y) ∧ Rnd (rv x + rv y) 1 (fadd x y) := by
  obtain ⟨m, i, hr, hm⟩ := read_pos hx
  obtain ⟨n, j, hq, hn⟩ := read_pos hy
  have h : Ieee.single.add x y = some (Ieee.single.nearest false (m * 2 ^ (i - min i j) + n * 2 ^ (j - min i j)) (-149 + ((min i j : Nat) : Int))) := by
    unfold Ieee.Format.add
    rw [hr, hq]
    have e0 : min (-149 + (i : Int)) (-149 + (j : Int)) = -149 + ((min i j : Nat) : Int) := by omega
    simp only [Ieee.Datum.sum, Option.map_some, Ieee.Format.write, e0, signed_false]
    have e1 : (-149 + (i : Int) - (-149 + ((min i j : Nat) : Int))).toNat = i - min i j := by omega
    have e2 : (-149 + (j : Int) - (-149 + ((min i j : Nat) : Int))).toNat = j - min i j := by omega
    rw [e1, e2, ← Int.natCast_add, Int.natAbs_natCast]
    have e3 : (if ((m * 2 ^ (i - min i j) + n * 2 ^ (j - min i j) : Nat) : Int) = 0 then (false && false) else decide (((m * 2 ^ (i - min i j) + n * 2 ^ (j - min i j) : Nat) : Int) < 0)) = false := by
      split
      · rfl
      · exact decide_eq_false (by omega)
    rw [e3]
  have e1 : fadd x y = Ieee.single.nearest false (m * 2 ^ (i - min i j) + n * 2 ^ (j - min i j)) (-149 + ((min i j : Nat) : Int)) := by unfold fadd; rw [h]; rfl
  rw [e1]
  refine ⟨h, ?_⟩
  have e2 : rv x + rv y = (m * 2 ^ (i - min i j) + n * 2 ^ (j - min i j)) * 2 ^ (min i j) := by
    rw [← hm, ← hn, Nat.add_mul, Nat.mul_assoc, Nat.mul_assoc, ← Nat.pow_add, ← Nat.pow_add, Nat.sub_add_cancel (Nat.min_le_left _ _), Nat.sub_add_cancel (Nat.min_le_right _ _)]
  rw [e2]
  exact nearest_rnd _ _ _ 0 (by omega)

theorem sub_rnd {x y : Nat} (hx : x < 2139095040) (hy : y ≤ x) : floatBits .sub .f32 x y = some (fsub x y) ∧ Rnd (rv x - rv y) 1 (fsub x y) := by
  obtain ⟨m, i, hr, hm⟩ := read_pos hx
  obtain ⟨n, j, hq, hn⟩ := read_pos (Nat.lt_of_le_of_lt hy hx)
  have hle : n * 2 ^ (j - min i j) ≤ m * 2 ^ (i - min i j) := by
    have h1 := rv_le hy
    rw [← hm, ← hn] at h1
    have e1 : n * 2 ^ j = n * 2 ^ (j - min i j) * 2 ^ (min i j) := by rw [Nat.mul_assoc, ← Nat.pow_add, Nat.sub_add_cancel (Nat.min_le_right _ _)]
    have e2 : m * 2 ^ i = m * 2 ^ (i - min i j) * 2 ^ (min i j) := by rw [Nat.mul_assoc, ← Nat.pow_add, Nat.sub_add_cancel (Nat.min_le_left _ _)]
    rw [e1, e2] at h1
    exact Nat.le_of_mul_le_mul_right h1 (Nat.two_pow_pos _)
  have h : Ieee.single.sub x y = some (Ieee.single.nearest false (m * 2 ^ (i - min i j) - n * 2 ^ (j - min i j)) (-149 + ((min i j : Nat) : Int))) := by
    unfold Ieee.Format.sub
    rw [hr, hq]
    have e0 : min (-149 + (i : Int)) (-149 + (j : Int)) = -149 + ((min i j : Nat) : Int) := by omega
    have e1 : (-149 + (i : Int) - (-149 + ((min i j : Nat) : Int))).toNat = i - min i j := by omega
    have e2 : (-149 + (j : Int) - (-149 + ((min i j : Nat) : Int))).toNat = j - min i j := by omega
    have e3 : Ieee.signed (!false) n (j - min i j) = -((n * 2 ^ (j - min i j) : Nat) : Int) := by
      unfold Ieee.signed; rw [if_pos (by decide), Nat.shiftLeft_eq]
    simp only [Ieee.Datum.opposite, Ieee.Datum.sum, Option.map_some, Ieee.Format.write, e0, signed_false, e1, e2, e3]
    have e4 : ((m * 2 ^ (i - min i j) : Nat) : Int) + -((n * 2 ^ (j - min i j) : Nat) : Int) = ((m * 2 ^ (i - min i j) - n * 2 ^ (j - min i j) : Nat) : Int) := by omega
    rw [e4, Int.natAbs_natCast]
    have e5 : (if ((m * 2 ^ (i - min i j) - n * 2 ^ (j - min i j) : Nat) : Int) = 0 then (false && !false) else decide (((m * 2 ^ (i - min i j) - n * 2 ^ (j - min i j) : Nat) : Int) < 0)) = false := by
      split
      · rfl
      · exact decide_eq_false (by omega)
    rw [e5]
  have e1 : fsub x y = Ieee.single.nearest false (m * 2 ^ (i - min i j) - n * 2 ^ (j - min i j)) (-149 + ((min i j : Nat) : Int)) := by unfold fsub; rw [h]; rfl
  rw [e1]
  refine ⟨h, ?_⟩
  have e2 : rv x - rv y = (m * 2 ^ (i - min i j) - n * 2 ^ (j - min i j)) * 2 ^ (min i j) := by
    rw [← hm, ← hn, Nat.sub_mul, Nat.mul_assoc, Nat.mul_assoc, ← Nat.pow_add, ← Nat.pow_add, Nat.sub_add_cancel (Nat.min_le_left _ _), Nat.sub_add_cancel (Nat.min_le_right _ _)]
  rw [e2]
  exact nearest_rnd _ _ _ 0 (by omega)

/-- A quotient with its rest told by one more digit rounds as the quotient itself. -/
theorem quot_iff (M A B D n r : Nat) (hn : 0 < n) (hA : ∃ p, A = 2 ^ p) (hB : ∃ p, B = 2 ^ p) (hM : ∃ k L, M = (2 * k + 1) * 2 ^ L ∧ k < 16777216) (hbig : 16777216 * n ≤ D) :
    (M * (B * 2) < 2 * ((2 * (D / n) + (D % n != 0).toNat) * A) ∨ (M * (B * 2) = 2 * ((2 * (D / n) + (D % n != 0).toNat) * A) ∧ r % 2 = 1)) ↔
    (M * B * n < 2 * (D * A) ∨ (M * B * n = 2 * (D * A) ∧ r % 2 = 1)) := by
  obtain ⟨p, rfl⟩ := hA
  obtain ⟨q, rfl⟩ := hB
  obtain ⟨k, L, rfl, hk⟩ := hM
  have hq : n * (D / n) + D % n = D := Nat.div_add_mod D n
  have hr : D % n < n := Nat.mod_lt _ hn
  have hqb : 16777216 ≤ D / n := (Nat.le_div_iff_mul_le hn).2 hbig
  have hs : (D % n != 0).toNat = if D % n = 0 then 0 else 1 := by
    by_cases c : D % n = 0
    · simp [c]
    · simp [c]
  rw [hs]
  generalize D / n = Q at *
  generalize D % n = R at *
  have e0 : (2 * k + 1) * 2 ^ L * (2 ^ q * 2) = 2 * ((2 * k + 1) * 2 ^ (L + q)) := by
    rw [Nat.pow_add, Nat.mul_assoc, ← Nat.mul_assoc (2 ^ L), Nat.mul_comm _ 2, ← Nat.mul_assoc (2 * k + 1), Nat.mul_comm (2 * k + 1) 2, Nat.mul_assoc]
  have e1 : (2 * k + 1) * 2 ^ L * 2 ^ q * n = (2 * k + 1) * 2 ^ (L + q) * n := by rw [Nat.pow_add, Nat.mul_assoc (2 * k + 1)]
  rw [e0, e1]
  by_cases c : p + 1 ≤ L + q
  · -- the midpoint is a multiple of two units
    obtain ⟨t, ht⟩ : ∃ t, (2 * k + 1) * 2 ^ (L + q) = 2 * t * 2 ^ p := by
      refine ⟨(2 * k + 1) * 2 ^ (L + q - (p + 1)), ?_⟩
      have : 2 ^ (L + q) = 2 ^ (L + q - (p + 1)) * (2 ^ p * 2) := by rw [← Nat.pow_succ, ← Nat.pow_add]; congr 1; omega
      rw [this]
      generalize 2 ^ (L + q - (p + 1)) = X
      generalize 2 * k + 1 = Y
      ac_rfl
    rw [ht]
    have hp : 0 < 2 ^ p := Nat.two_pow_pos p
    have e2 : 2 * (2 * t * 2 ^ p) = (2 * (2 * t)) * 2 ^ p := (Nat.mul_assoc 2 (2 * t) (2 ^ p)).symm
    have e3 : 2 * ((2 * Q + if R = 0 then 0 else 1) * 2 ^ p) = (2 * (2 * Q + if R = 0 then 0 else 1)) * 2 ^ p := (Nat.mul_assoc 2 _ (2 ^ p)).symm
    have e4 : 2 * t * 2 ^ p * n = (2 * (t * n)) * 2 ^ p := by rw [Nat.mul_assoc (2 * t), Nat.mul_comm (2 ^ p), ← Nat.mul_assoc, Nat.mul_assoc 2]
    have e5 : 2 * (D * 2 ^ p) = (2 * D) * 2 ^ p := (Nat.mul_assoc 2 D (2 ^ p)).symm
    rw [e2, e3, e4, e5, scale_iff _ _ _ _ hp, scale_iff _ _ _ _ hp]
    have key : (t < Q → t * n + n ≤ n * Q) ∧ (t = Q → t * n = n * Q) ∧ (Q < t → n * Q + n ≤ t * n) := by
      refine ⟨fun h => ?_, fun h => ?_, fun h => ?_⟩
      · rw [← Nat.succ_mul, Nat.mul_comm]; exact Nat.mul_le_mul_left n h
      · rw [h, Nat.mul_comm]
      · rw [← Nat.mul_succ, Nat.mul_comm t]; exact Nat.mul_le_mul_left n h
    obtain ⟨k1, k2, k3⟩ := key
    split
    · rcases Nat.lt_trichotomy t Q with h | h | h
      · have := k1 h; constructor <;> intro _ <;> omega
      · have := k2 h; constructor <;> intro _ <;> omega
      · have := k3 h; constructor <;> intro _ <;> omega
    · rcases Nat.lt_trichotomy t Q with h | h | h
      · have := k1 h; constructor <;> intro _ <;> omega
      · have := k2 h; constructor <;> intro _ <;> omega
      · have := k3 h; constructor <;> intro _ <;> omega
  · -- the midpoint is far below
    have h1 : 2 ^ (L + q) ≤ 2 ^ p := Nat.pow_le_pow_right (by decide) (by omega)
    have h2 : (2 * k + 1) * 2 ^ (L + q) ≤ (2 * k + 1) * 2 ^ p := Nat.mul_le_mul_left _ h1
    have h3 : (2 * k + 1) * 2 ^ p < 33554432 * 2 ^ p := Nat.mul_lt_mul_of_pos_right (by omega) (Nat.two_pow_pos _)
    have h4 : 33554432 * 2 ^ p ≤ (2 * Q + if R = 0 then 0 else 1) * 2 ^ p := Nat.mul_le_mul_right _ (by omega)
    have h5 : (2 * k + 1) * 2 ^ (L + q) * n < 33554432 * 2 ^ p * n := Nat.mul_lt_mul_of_pos_right (by omega) hn
    have h6 : 33554432 * 2 ^ p * n ≤ 2 * (D * 2 ^ p) := by
      have : 16777216 * n * 2 ^ p ≤ D * 2 ^ p := Nat.mul_le_mul_right _ hbig
      have e : 33554432 * 2 ^ p * n = 2 * (16777216 * n * 2 ^ p) := by
        rw [Nat.mul_assoc 33554432, Nat.mul_comm (2 ^ p) n, Nat.mul_assoc 16777216]; omega
      omega
    constructor
    · intro _; left; omega
    · intro _; left; omega

theorem mid_form (r : Nat) : ∃ k L, 2 * rv r + ulp r = (2 * k + 1) * 2 ^ L ∧ k < 16777216 := by
  obtain ⟨L, k, rfl, hk, h⟩ := rv_split r
  refine ⟨k, L, ?_, hk⟩
  rw [rv_block L k (by omega) h, ulp_block L k hk h, ← Nat.mul_assoc, ← Nat.succ_mul]

theorem div_rnd {x y : Nat} (hx : x < 2139095040) (hy : y < 2139095040) (hy0 : 0 < y) : floatBits .quo .f32 x y = some (fdiv x y) ∧ Rnd (rv x * 2 ^ 149) (rv y) (fdiv x y) := by
  obtain ⟨m, i, hr, hm⟩ := read_pos hx
  obtain ⟨n, j, hq, hn⟩ := read_pos hy
  have hn0 : n ≠ 0 := by
    intro h; rw [h, Nat.zero_mul] at hn; have := rv_pos hy0; omega
  have h : Ieee.single.div x y = some (Ieee.single.nearest false (2 * (m <<< (25 + n.log2 - m.log2) / n) + (m <<< (25 + n.log2 - m.log2) % n != 0).toNat) ((-149 + (i : Int)) - (-149 + (j : Int)) - ((25 + n.log2 - m.log2 : Nat) : Int) - 1)) := by
    unfold Ieee.Format.div
    rw [hr, hq]
    have hf : Ieee.single.fractionBits + 2 = 25 := by decide
    simp only [hf, Ieee.Datum.quotient, if_neg hn0, Option.map_some, Ieee.Format.write]
    rfl
  have e1 : fdiv x y = Ieee.single.nearest false (2 * (m <<< (25 + n.log2 - m.log2) / n) + (m <<< (25 + n.log2 - m.log2) % n != 0).toNat) ((-149 + (i : Int)) - (-149 + (j : Int)) - ((25 + n.log2 - m.log2 : Nat) : Int) - 1) := by unfold fdiv; rw [h]; rfl
  rw [e1]
  refine ⟨h, ?_⟩
  rw [← hm, ← hn]
  clear h e1 hr hq hm hn
  by_cases hm0 : m = 0
  · subst hm0
    have e : ∀ t : Nat, (2 * (0 <<< t / n) + (0 <<< t % n != 0).toNat) = 0 := by intro t; simp
    rw [e]
    have hz : ∀ e : Int, Ieee.single.nearest false 0 e = 0 := fun _ => rfl
    rw [hz]
    refine ⟨Nat.zero_le _, fun r _ => ?_⟩
    have h1 := ulp_pos r
    have h2 : 0 < (2 * rv r + ulp r) * (n * 2 ^ j) := Nat.mul_pos (by omega) (Nat.mul_pos (by omega) (Nat.two_pow_pos _))
    constructor
    · intro h; omega
    · intro h; omega
  have hmore : m.log2 ≤ 25 + n.log2 ∨ 25 + n.log2 < m.log2 := by omega
  generalize hmo : 25 + n.log2 - m.log2 = more
  rw [Nat.shiftLeft_eq]
  have hbig : 16777216 * n ≤ m * 2 ^ more := by
    have h1 : 2 ^ m.log2 ≤ m := Nat.log2_self_le hm0
    have h2 : n < 2 ^ (n.log2 + 1) := Nat.lt_log2_self
    have h3 : 2 ^ m.log2 * 2 ^ more ≤ m * 2 ^ more := Nat.mul_le_mul_right _ h1
    rw [← Nat.pow_add] at h3
    have h4 : 2 ^ (24 + (n.log2 + 1)) ≤ 2 ^ (m.log2 + more) := Nat.pow_le_pow_right (by decide) (by omega)
    rw [Nat.pow_add] at h4
    have h5 : 2 ^ 24 * n ≤ 2 ^ 24 * 2 ^ (n.log2 + 1) := Nat.mul_le_mul_left _ (by omega)
    omega
  have hR := nearest_rnd (2 * (m * 2 ^ more / n) + (m * 2 ^ more % n != 0).toNat) ((-149 + (i : Int)) - (-149 + (j : Int)) - (more : Int) - 1) (i + 149) (j + more + 1) (by omega)
  generalize hD : m * 2 ^ more = D at *
  refine ⟨hR.1, fun r hr => ?_⟩
  rw [hR.2 r hr]
  obtain ⟨k, L, hM, hk⟩ := mid_form r
  have hq := quot_iff (2 * rv r + ulp r) (2 ^ (i + 149)) (2 ^ (j + more)) D n r (by omega) ⟨_, rfl⟩ ⟨_, rfl⟩ ⟨k, L, hM, hk⟩ hbig
  rw [Nat.pow_succ, hq]
  generalize 2 * rv r + ulp r = M
  have e1 : M * 2 ^ (j + more) * n = M * (n * 2 ^ j) * 2 ^ more := by
    rw [Nat.pow_add, Nat.mul_assoc, Nat.mul_assoc, Nat.mul_assoc]
    congr 1
    rw [Nat.mul_comm (2 ^ more) n, ← Nat.mul_assoc, Nat.mul_comm (2 ^ j) n, Nat.mul_assoc]
  have e2 : 2 * (D * 2 ^ (i + 149)) = 2 * (m * 2 ^ i * 2 ^ 149) * 2 ^ more := by
    rw [← hD, Nat.pow_add, Nat.mul_assoc 2]
    congr 1
    rw [Nat.mul_assoc m, Nat.mul_comm (2 ^ more), ← Nat.mul_assoc, ← Nat.mul_assoc]
  rw [e1, e2, scale_iff _ _ _ _ (Nat.two_pow_pos _)]

/-! ### The order -/
theorem order_pos {x y : Nat} (hx : x < 2139095040) (hy : y < 2139095040) : FloatKind.f32.format.order x y = some (compare x y) := by
  obtain ⟨m, i, hr, hm⟩ := read_pos hx
  obtain ⟨n, j, hq, hn⟩ := read_pos hy
  show (Ieee.single.read x).order (Ieee.single.read y) = _
  rw [hr, hq]
  have e0 : min (-149 + (i : Int)) (-149 + (j : Int)) = -149 + ((min i j : Nat) : Int) := by omega
  have e1 : (-149 + (i : Int) - (-149 + ((min i j : Nat) : Int))).toNat = i - min i j := by omega
  have e2 : (-149 + (j : Int) - (-149 + ((min i j : Nat) : Int))).toNat = j - min i j := by omega
  simp only [Ieee.Datum.order, e0, e1, e2, signed_false]
  have f1 : rv x = m * 2 ^ (i - min i j) * 2 ^ (min i j) := by rw [← hm, Nat.mul_assoc, ← Nat.pow_add, Nat.sub_add_cancel (Nat.min_le_left _ _)]
  have f2 : rv y = n * 2 ^ (j - min i j) * 2 ^ (min i j) := by rw [← hn, Nat.mul_assoc, ← Nat.pow_add, Nat.sub_add_cancel (Nat.min_le_right _ _)]
  have hp : 0 < 2 ^ (min i j) := Nat.two_pow_pos _
  generalize m * 2 ^ (i - min i j) = a at *
  generalize n * 2 ^ (j - min i j) = b at *
  congr 1
  rcases Nat.lt_trichotomy x y with c | c | c
  · have h1 := rv_lt c
    rw [f1, f2] at h1
    have h2 : a < b := Nat.lt_of_mul_lt_mul_right h1
    rw [Nat.compare_eq_lt.2 c, Int.compare_eq_lt.2 (by omega)]
  · subst c
    have h2 : a = b := Nat.eq_of_mul_eq_mul_right hp (by rw [← f1, ← f2])
    rw [Nat.compare_eq_eq.2 rfl, Int.compare_eq_eq.2 (by omega)]
  · have h1 := rv_lt c
    rw [f1, f2] at h1
    have h2 : b < a := Nat.lt_of_mul_lt_mul_right h1
    rw [Nat.compare_eq_gt.2 c, Int.compare_eq_gt.2 (by omega)]

end Go.Proofs.YtdbleddcnknmiaaGreatDoor

namespace Go.Proofs.YtdbleddcnknmiaaGreatDoor
open Go

/-- A finite word. -/
def isNum (x : Nat) : Prop := x < 2139095040 ∨ (2147483648 ≤ x ∧ x < 2147483648 + 2139095040)
/-- Its value, in units of the least number. -/
def sv (x : Nat) : Int := if x < 2147483648 then (rv x : Int) else -(rv (x - 2147483648) : Int)

theorem isNum_pos {x : Nat} (h : x < 2139095040) : isNum x := .inl h
theorem sv_pos {x : Nat} (h : x < 2147483648) : sv x = rv x := if_pos h
theorem sv_neg (r : Nat) : sv (2147483648 + r) = -(rv r : Int) := by
  unfold sv
  rw [if_neg (by omega), Nat.add_sub_cancel_left]

theorem read_neg {r : Nat} (h : r < 2139095040) : ∃ m i : Nat, Ieee.single.read (2147483648 + r) = .number true m (-149 + (i : Int)) ∧ m * 2 ^ i = rv r := by
  have hb : Ieee.single.binade = 8388608 := by decide
  have hi : Ieee.single.infRung = 2139095040 := by decide
  have hl : Ieee.single.leastPlace = -149 := by decide
  have hw : Ieee.single.signWeight = 2147483648 := by decide
  unfold Ieee.Format.read rv
  simp only [hb, hi, hl, hw]
  rw [show (2147483648 + r) % 2147483648 = r by omega, show (2147483648 + r) / 2147483648 = 1 by omega]
  by_cases c : r < 8388608
  · rw [if_pos c, if_pos c]; exact ⟨r, 0, rfl, by simp⟩
  · rw [if_neg c, if_pos h, if_neg c]; exact ⟨_, _, rfl, rfl⟩

theorem read_num32 {x : Nat} (h : isNum x) : ∃ (s : Bool) (m i : Nat), Ieee.single.read x = .number s m (-149 + (i : Int)) ∧ sv x = (if s then -((m * 2 ^ i : Nat) : Int) else ((m * 2 ^ i : Nat) : Int)) := by
  rcases h with h | ⟨h1, h2⟩
  · obtain ⟨m, i, hr, hm⟩ := read_pos h
    exact ⟨false, m, i, hr, by rw [sv_pos (by omega), ← hm]; rfl⟩
  · obtain ⟨r, rfl⟩ : ∃ r, x = 2147483648 + r := ⟨x - 2147483648, by omega⟩
    obtain ⟨m, i, hr, hm⟩ := read_neg (r := r) (by omega)
    exact ⟨true, m, i, hr, by rw [sv_neg, ← hm]; rfl⟩

theorem num_of_isNum {x : Nat} (h : isNum x) : num32 x = true := by
  obtain ⟨s, m, i, hr, _⟩ := read_num32 h
  unfold num32; rw [hr]

theorem signed_scale (s : Bool) (m i b : Nat) (h : b ≤ i) : Ieee.signed s m (i - b) * ((2 ^ b : Nat) : Int) = (if s then -((m * 2 ^ i : Nat) : Int) else ((m * 2 ^ i : Nat) : Int)) := by
  have e : m * 2 ^ i = m * 2 ^ (i - b) * 2 ^ b := by rw [Nat.mul_assoc, ← Nat.pow_add, Nat.sub_add_cancel h]
  unfold Ieee.signed
  rw [Nat.shiftLeft_eq, e]
  cases s
  · rw [if_neg (by decide), if_neg (by decide), Int.natCast_mul (m * 2 ^ (i - b))]
  · rw [if_pos rfl, if_pos rfl, Int.natCast_mul (m * 2 ^ (i - b)), Int.neg_mul]

theorem compare_scale (a b : Int) (t : Nat) (ht : 0 < t) : compare (a * (t : Int)) (b * (t : Int)) = compare a b := by
  have ht' : (0 : Int) < (t : Int) := by omega
  rcases Int.lt_trichotomy a b with h | h | h
  · rw [Int.compare_eq_lt.2 h, Int.compare_eq_lt.2 (Int.mul_lt_mul_of_pos_right h ht')]
  · subst h; rw [Int.compare_eq_eq.2 rfl, Int.compare_eq_eq.2 rfl]
  · rw [Int.compare_eq_gt.2 h, Int.compare_eq_gt.2 (Int.mul_lt_mul_of_pos_right h ht')]

/-- Finite numbers are ordered as their values. -/
theorem order_num {x y : Nat} (hx : isNum x) (hy : isNum y) : FloatKind.f32.format.order x y = some (compare (sv x) (sv y)) := by
  obtain ⟨s, m, i, hr, hm⟩ := read_num32 hx
  obtain ⟨t, n, j, hq, hn⟩ := read_num32 hy
  show (Ieee.single.read x).order (Ieee.single.read y) = _
  rw [hr, hq]
  have e0 : min (-149 + (i : Int)) (-149 + (j : Int)) = -149 + ((min i j : Nat) : Int) := by omega
  have e1 : (-149 + (i : Int) - (-149 + ((min i j : Nat) : Int))).toNat = i - min i j := by omega
  have e2 : (-149 + (j : Int) - (-149 + ((min i j : Nat) : Int))).toNat = j - min i j := by omega
  simp only [Ieee.Datum.order, e0, e1, e2]
  rw [hm, hn, ← signed_scale s m i (min i j) (Nat.min_le_left _ _), ← signed_scale t n j (min i j) (Nat.min_le_right _ _), compare_scale _ _ _ (Nat.two_pow_pos _)]

/-- What every word is. -/
theorem word_cases (x : Nat) (h : x < 4294967296) : isNum x ∨ x = 2139095040 ∨ x = 4286578688 ∨ ∃ s f, Ieee.single.read x = .nan s f := by
  by_cases c1 : x < 2139095040
  · exact .inl (.inl c1)
  by_cases c2 : x = 2139095040
  · exact .inr (.inl c2)
  by_cases c3 : 2147483648 ≤ x ∧ x < 2147483648 + 2139095040
  · exact .inl (.inr c3)
  by_cases c4 : x = 4286578688
  · exact .inr (.inr (.inl c4))
  refine .inr (.inr (.inr ?_))
  have hb : Ieee.single.binade = 8388608 := by decide
  have hi : Ieee.single.infRung = 2139095040 := by decide
  have hw : Ieee.single.signWeight = 2147483648 := by decide
  unfold Ieee.Format.read
  simp only [hb, hi, hw]
  rw [if_neg (by omega), if_neg (by omega), if_neg (by omega)]
  exact ⟨_, _, rfl⟩

theorem inf_order (y : Nat) (hy : isNum y) : FloatKind.f32.format.order 2139095040 y = some .gt ∧ FloatKind.f32.format.order 4286578688 y = some .lt := by
  obtain ⟨t, n, j, hq, hn⟩ := read_num32 hy
  have h1 : Ieee.single.read 2139095040 = .infinity false := by decide +kernel
  have h2 : Ieee.single.read 4286578688 = .infinity true := by decide +kernel
  constructor
  · show (Ieee.single.read 2139095040).order (Ieee.single.read y) = _
    rw [h1, hq]; rfl
  · show (Ieee.single.read 4286578688).order (Ieee.single.read y) = _
    rw [h2, hq]; rfl

theorem nan_order {x : Nat} (h : ∃ s f, Ieee.single.read x = .nan s f) (y : Nat) : FloatKind.f32.format.order x y = none := by
  obtain ⟨s, f, h⟩ := h
  show (Ieee.single.read x).order (Ieee.single.read y) = none
  rw [h]
  cases Ieee.single.read y <;> rfl

def ge0 (o : Option Ordering) : Bool := o == some .gt || o == some .eq
def le0 (o : Option Ordering) : Bool := o == some .lt || o == some .eq
def betw (a lo hi : Nat) : Bool := ge0 (FloatKind.f32.format.order a lo) && le0 (FloatKind.f32.format.order a hi)

theorem ge0_compare (a b : Int) : ge0 (some (compare a b)) = decide (b ≤ a) := by
  rcases Int.lt_trichotomy a b with h | h | h
  · rw [Int.compare_eq_lt.2 h, decide_eq_false (by omega)]; rfl
  · rw [Int.compare_eq_eq.2 h, decide_eq_true (by omega)]; rfl
  · rw [Int.compare_eq_gt.2 h, decide_eq_true (by omega)]; rfl
theorem le0_compare (a b : Int) : le0 (some (compare a b)) = decide (a ≤ b) := by
  rcases Int.lt_trichotomy a b with h | h | h
  · rw [Int.compare_eq_lt.2 h, decide_eq_true (by omega)]; rfl
  · rw [Int.compare_eq_eq.2 h, decide_eq_true (by omega)]; rfl
  · rw [Int.compare_eq_gt.2 h, decide_eq_false (by omega)]; rfl

theorem betw_num {a lo hi : Nat} (ha : isNum a) (hl : isNum lo) (hh : isNum hi) : betw a lo hi = (decide (sv lo ≤ sv a) && decide (sv a ≤ sv hi)) := by
  unfold betw
  rw [order_num ha hl, order_num ha hh, ge0_compare, le0_compare]

/-- What lies between two finite numbers is finite, and its value lies between theirs. -/
theorem betw_get {a lo hi : Nat} (hw : (Lit.float .f32 a).wf = true) (hl : isNum lo) (hh : isNum hi) (h : betw a lo hi = true) : isNum a ∧ sv lo ≤ sv a ∧ sv a ≤ sv hi := by
  have hw' : a < 4294967296 := by simpa [Lit.wf] using hw
  rcases word_cases a hw' with c | c | c | c
  · rw [betw_num c hl hh] at h
    simp only [Bool.and_eq_true, decide_eq_true_eq] at h
    exact ⟨c, h⟩
  · subst c
    unfold betw at h
    rw [(inf_order lo hl).1, (inf_order hi hh).1] at h
    cases h
  · subst c
    unfold betw at h
    rw [(inf_order lo hl).2, (inf_order hi hh).2] at h
    cases h
  · unfold betw at h
    rw [nan_order c, nan_order c] at h
    cases h

theorem sv_neg_le (r : Nat) : sv (2147483648 + r) ≤ 0 := by rw [sv_neg]; omega

/-- A number between two that are above 0. -/
theorem betw_above {a lo hi : Nat} (hw : (Lit.float .f32 a).wf = true) (h0 : 0 < lo) (hlh : lo ≤ hi) (hh : hi < 2139095040) (h : betw a lo hi = true) : lo ≤ a ∧ a ≤ hi := by
  obtain ⟨hn, h1, h2⟩ := betw_get hw (.inl (by omega)) (.inl hh) h
  rw [sv_pos (x := lo) (by omega)] at h1
  rw [sv_pos (x := hi) (by omega)] at h2
  have h3 := rv_pos h0
  rcases hn with hn | ⟨hn1, hn2⟩
  · rw [sv_pos (x := a) (by omega)] at h1 h2
    rw [← rv_le_iff (r := lo), ← rv_le_iff (r := a)]
    omega
  · obtain ⟨r, rfl⟩ : ∃ r, a = 2147483648 + r := ⟨a - 2147483648, by omega⟩
    have := sv_neg_le r
    omega

/-- A number from 0 on, -0 among them. -/
theorem betw_zero {a hi : Nat} (hw : (Lit.float .f32 a).wf = true) (hh : hi < 2139095040) (h : betw a 0 hi = true) : a ≤ hi ∨ a = 2147483648 := by
  obtain ⟨hn, h1, h2⟩ := betw_get hw (.inl (by omega)) (.inl hh) h
  have e0 : sv 0 = 0 := rfl
  rw [e0] at h1
  rw [sv_pos (x := hi) (by omega)] at h2
  rcases hn with hn | ⟨hn1, hn2⟩
  · rw [sv_pos (x := a) (by omega)] at h1 h2
    left
    rw [← rv_le_iff (r := a)]
    omega
  · obtain ⟨r, rfl⟩ : ∃ r, a = 2147483648 + r := ⟨a - 2147483648, by omega⟩
    rw [sv_neg] at h1
    by_cases c : r = 0
    · right; omega
    · have := rv_pos (r := r) (by omega)
      omega

end Go.Proofs.YtdbleddcnknmiaaGreatDoor

namespace Go.Proofs.YtdbleddcnknmiaaGreatDoor
open Go.ChangeShapes Go.WideShapes Go.ChangeAt Go.RowKit Go.Deep Go.Joins

attribute [local go_sem] run_store_f

def inI (lo hi x : Int) : Bool := decide (lo ≤ x) && decide (x ≤ hi)

theorem inI_get {lo hi x : Int} (h : inI lo hi x = true) : lo ≤ x ∧ x ≤ hi := by
  simpa [inI] using h

def lenB (a : Nat) : Bool := betw a 1031798784 1115684864

def partB (a : Nat) : Bool := betw a 0 1065353216

def okBl (n : Int) (wd gp : Nat) (t : Int) (sh : Nat) : Bool := inI 1 60 n && lenB wd && lenB gp && inI (-64) 64 t && partB sh

set_option maxHeartbeats 1000000 in
theorem isLength_any (a : Nat) (w : World) :
    Calls Tryz.prog 90 #[.float .f32 a] w fun e w' => e = .returned (.bool (lenB a)) ∧ w = w' := by
  unfold lenB betw
  rcases h0 : FloatKind.f32.format.order a 1031798784 with _ | (_ | _ | _)
  all_goals
    rcases h1 : FloatKind.f32.format.order a 1115684864 with _ | (_ | _ | _)
    all_goals
      go_enter Tryz.func90, Tryz.ntmps90
      go_wp2
      go_ret
      exact ⟨rfl, rfl⟩

set_option maxHeartbeats 1000000 in
theorem l02Length_any (a : Nat) (w : World) :
    Calls Tryz.prog 62 #[.float .f32 a] w fun e w' => e = .returned (.bool (lenB a)) ∧ w = w' := by
  unfold lenB betw
  rcases h0 : FloatKind.f32.format.order a 1031798784 with _ | (_ | _ | _)
  all_goals
    rcases h1 : FloatKind.f32.format.order a 1115684864 with _ | (_ | _ | _)
    all_goals
      go_enter Tryz.func62, Tryz.ntmps62
      go_wp2
      go_ret
      exact ⟨rfl, rfl⟩

set_option maxHeartbeats 1000000 in
theorem isPart_any (a : Nat) (w : World) :
    Calls Tryz.prog 36 #[.float .f32 a] w fun e w' => e = .returned (.bool (partB a)) ∧ w = w' := by
  unfold partB betw
  rcases h0 : FloatKind.f32.format.order a 0 with _ | (_ | _ | _)
  all_goals
    rcases h1 : FloatKind.f32.format.order a 1065353216 with _ | (_ | _ | _)
    all_goals
      go_enter Tryz.func36, Tryz.ntmps36
      go_wp2
      go_ret
      exact ⟨rfl, rfl⟩

set_option maxHeartbeats 1000000 in
theorem l01Part_any (a : Nat) (w : World) :
    Calls Tryz.prog 34 #[.float .f32 a] w fun e w' => e = .returned (.bool (partB a)) ∧ w = w' := by
  unfold partB betw
  rcases h0 : FloatKind.f32.format.order a 0 with _ | (_ | _ | _)
  all_goals
    rcases h1 : FloatKind.f32.format.order a 1065353216 with _ | (_ | _ | _)
    all_goals
      go_enter Tryz.func34, Tryz.ntmps34
      go_wp2
      go_ret
      exact ⟨rfl, rfl⟩

set_option maxHeartbeats 1000000 in
theorem isTilt_any (a : Int) (w : World) :
    Calls Tryz.prog 91 #[.int .i64 a] w fun e w' => e = .returned (.bool (inI (-64) 64 a)) ∧ w = w' := by
  unfold inI
  by_cases h0 : (-64) ≤ a
  · by_cases h1 : a ≤ 64
    · go_enter Tryz.func91, Tryz.ntmps91
      go_wp2
      go_ret
      first | (simp; done) | (simp; omega)
    · go_enter Tryz.func91, Tryz.ntmps91
      go_wp2
      go_ret
      first | (simp; done) | (simp; omega)
  · go_enter Tryz.func91, Tryz.ntmps91
    go_wp2
    go_ret
    first | (simp; done) | (simp; omega)

set_option maxHeartbeats 1000000 in
theorem l02Tilt_any (a : Int) (w : World) :
    Calls Tryz.prog 63 #[.int .i64 a] w fun e w' => e = .returned (.bool (inI (-64) 64 a)) ∧ w = w' := by
  unfold inI
  by_cases h0 : (-64) ≤ a
  · by_cases h1 : a ≤ 64
    · go_enter Tryz.func63, Tryz.ntmps63
      go_wp2
      go_ret
      first | (simp; done) | (simp; omega)
    · go_enter Tryz.func63, Tryz.ntmps63
      go_wp2
      go_ret
      first | (simp; done) | (simp; omega)
  · go_enter Tryz.func63, Tryz.ntmps63
    go_wp2
    go_ret
    first | (simp; done) | (simp; omega)

set_option maxHeartbeats 1000000 in
theorem l00In_ban (a lo hi : Int) (w : World) :
    Calls Tryz.prog 47 #[.int .i64 a, .int .i64 lo, .int .i64 hi] w fun e w' => e = .returned (.bool (inI lo hi a)) ∧ w = w' := by
  unfold inI
  by_cases h0 : lo ≤ a
  · by_cases h1 : a ≤ hi
    · go_enter Tryz.func47, Tryz.ntmps47
      go_wp2
      go_ret
      first | (simp; done) | (simp; omega)
    · go_enter Tryz.func47, Tryz.ntmps47
      go_wp2
      go_ret
      first | (simp; done) | (simp; omega)
  · go_enter Tryz.func47, Tryz.ntmps47
    go_wp2
    go_ret
    first | (simp; done) | (simp; omega)

theorem inI_mk {lo hi x : Int} : inI lo hi x = (decide (lo ≤ x) && decide (x ≤ hi)) := rfl

set_option maxRecDepth 100000 in
set_option maxHeartbeats 1000000 in
theorem ValidBlind_any (n : Int) (wd gp : Nat) (t : Int) (sh : Nat) (t0 : -32768 ≤ t) (t1 : t ≤ 32767) (w : World) :
    Calls Tryz.prog 78 #[.agg (blindC n wd gp t sh)] w fun e w' => e = .returned (.bool (okBl n wd gp t sh)) ∧ Below w.heap.size w w' := by
  unfold blindC
  go_enter Tryz.func78, Tryz.ntmps78
  go_wp2_with (first | (go_at_call 90; refine (isLength_any _ _).mono ?_; rintro e w' ⟨rfl, rfl⟩) | (go_at_call 91; refine (isTilt_any _ _).mono ?_; rintro e w' ⟨rfl, rfl⟩) | (go_at_call 36; refine (isPart_any _ _).mono ?_; rintro e w' ⟨rfl, rfl⟩))
  all_goals
    go_ret
    refine ⟨?_, by (repeat' first | exact Below.refl _ _ | assumption | refine Below.alloc ?_ (by first | omega | (simp; done) | (simp; omega)) _ | refine Below.setCell ?_ (by first | omega | (simp; done) | (simp; omega)) _ | refine Below.drew ?_)⟩
    by_cases hn : 1 ≤ n ∧ n ≤ 60
    · have e : inI 1 60 n = true := by simp only [inI, Bool.and_eq_true, decide_eq_true_eq]; exact hn
      first | (simp [okBl, *]; done) | omega
    · have e : inI 1 60 n = false := by simp only [inI, Bool.and_eq_false_iff, decide_eq_false_iff_not]; omega
      first | omega | (simp [okBl, *]; done)

set_option maxRecDepth 100000 in
set_option maxHeartbeats 1000000 in
theorem l02Ok_any (n : Int) (wd gp : Nat) (t : Int) (sh : Nat) (t0 : -32768 ≤ t) (t1 : t ≤ 32767) (n0 : -128 ≤ n) (n1 : n ≤ 127) (g : Nat) (T : TypeId) (fr : Nat × Nat) (w : World) (hg : w.heap[g]? = some (.cells (blindC n wd gp t sh) T fr)) :
    Calls Tryz.prog 44 #[.pointer (some ⟨g, 0, none⟩)] w fun e w' => e = .returned (.bool (okBl n wd gp t sh)) ∧ w = w' := by
  unfold blindC at hg
  have c0 : w.cell? ⟨g, 0, none⟩ = some (.int .i8 n) := by rw [cell_of_row w _ _ _ _ _ hg]; rfl
  have c1 : w.cell? ⟨g, 1, none⟩ = some (.float .f32 wd) := by rw [cell_of_row w _ _ _ _ _ hg]; rfl
  have c2 : w.cell? ⟨g, 2, none⟩ = some (.float .f32 gp) := by rw [cell_of_row w _ _ _ _ _ hg]; rfl
  have c3 : w.cell? ⟨g, 3, none⟩ = some (.int .i16 t) := by rw [cell_of_row w _ _ _ _ _ hg]; rfl
  have c4 : w.cell? ⟨g, 4, none⟩ = some (.float .f32 sh) := by rw [cell_of_row w _ _ _ _ _ hg]; rfl
  clear hg
  go_enter Tryz.func44, Tryz.ntmps44
  go_wp2_with (first | (go_at_call 62; refine (l02Length_any _ _).mono ?_; rintro e w' ⟨rfl, rfl⟩) | (go_at_call 63; refine (l02Tilt_any _ _).mono ?_; rintro e w' ⟨rfl, rfl⟩) | (go_at_call 34; refine (l01Part_any _ _).mono ?_; rintro e w' ⟨rfl, rfl⟩) | (go_at_call 47; refine (l00In_ban _ _ _ _).mono ?_; rintro e w' ⟨rfl, rfl⟩))
  all_goals
    go_ret
    refine ⟨?_, rfl⟩
    simp [okBl, *]

end Go.Proofs.YtdbleddcnknmiaaGreatDoor

namespace Go.Proofs.YtdbleddcnknmiaaGreatDoor
open Go

/-- The size of a number. -/
def sizeB (x : Nat) : Nat := if 2147483648 < x then x - 2147483648 else x

theorem sub_neg {r : Nat} (h : r < 2139095040) : floatBits .sub .f32 0 (2147483648 + r) = some r := by
  obtain ⟨m, i, hr, hm⟩ := read_neg h
  have hz : Ieee.single.read 0 = .number false 0 (-149) := by decide
  show Ieee.single.sub 0 (2147483648 + r) = some r
  unfold Ieee.Format.sub
  rw [hz, hr]
  have e0 : min (-149 : Int) (-149 + (i : Int)) = -149 := by omega
  have e2 : (-149 + (i : Int) - (-149 : Int)).toNat = i := by omega
  simp only [Ieee.Datum.opposite, Ieee.Datum.sum, Option.map_some, Ieee.Format.write, e0, e2, Bool.not_true, signed_false]
  have e3 : (((0 * 2 ^ (-149 - (-149 : Int)).toNat : Nat) : Int) + ((m * 2 ^ i : Nat) : Int)) = ((m * 2 ^ i : Nat) : Int) := by simp
  rw [e3, Int.natAbs_natCast]
  have e5 : (if ((m * 2 ^ i : Nat) : Int) = 0 then (false && false) else decide (((m * 2 ^ i : Nat) : Int) < 0)) = false := by
    split
    · rfl
    · exact decide_eq_false (by omega)
  rw [e5]
  have hR := nearest_rnd (m * 2 ^ i) (-149) 0 0 (by omega)
  rw [hm] at hR ⊢
  rw [rnd_exact hR (r := r) (by omega) (by decide) rfl]

theorem neg_neg {r : Nat} (h : r < 2147483648) : Op.negFloat .f32 (2147483648 + r) = r := by
  show (2147483648 + r) ^^^ 2 ^ 31 = r
  have e : 2147483648 + r = 2 ^ 31 ||| r := by
    have := Nat.two_pow_add_eq_or_of_lt (i := 31) (b := r) h 1
    simpa using this
  rw [e]
  apply Nat.eq_of_testBit_eq
  intro j
  rw [Nat.testBit_xor, Nat.testBit_or, Nat.testBit_two_pow]
  by_cases c : 31 = j
  · subst c
    rw [Nat.testBit_lt_two_pow h]; decide
  · simp [c]

theorem sizeB_neg {r : Nat} (h : 0 < r) : sizeB (2147483648 + r) = r := by
  unfold sizeB
  rw [if_pos (by omega)]; omega
theorem sizeB_pos {x : Nat} (h : x ≤ 2147483648) : sizeB x = x := if_neg (by omega)

/-- A finite number is below 0, or it is its own size. -/
theorem size_cases {x : Nat} (h : isNum x) : (∃ r, 0 < r ∧ r < 2139095040 ∧ x = 2147483648 + r ∧ FloatKind.f32.format.order x 0 = some .lt) ∨ (x ≤ 2147483648 ∧ (FloatKind.f32.format.order x 0 = some .eq ∨ FloatKind.f32.format.order x 0 = some .gt)) := by
  have h0 : sv 0 = 0 := rfl
  rcases h with h | ⟨h1, h2⟩
  · right
    refine ⟨by omega, ?_⟩
    rw [order_num (.inl h) (.inl (by decide)), h0, sv_pos (by omega)]
    by_cases c : rv x = 0
    · left; rw [c]; rfl
    · right; congr 1; exact Int.compare_eq_gt.2 (by omega)
  · obtain ⟨r, rfl⟩ : ∃ r, x = 2147483648 + r := ⟨x - 2147483648, by omega⟩
    by_cases c : r = 0
    · subst c
      right
      exact ⟨Nat.le_refl _, .inl (by decide +kernel)⟩
    · left
      refine ⟨r, by omega, by omega, rfl, ?_⟩
      rw [order_num (.inr ⟨h1, h2⟩) (.inl (by decide)), h0, sv_neg]
      have := rv_pos (r := r) (by omega)
      congr 1; exact Int.compare_eq_lt.2 (by omega)

theorem sine_size_nat : ∀ n : Nat, n < 256 → (decide (sineB (n : Int) < 2139095040) || decide (2147483648 ≤ sineB (n : Int) ∧ sineB (n : Int) < 4286578688)) = true ∧ sizeB (sineB (n : Int)) ≤ 1065353216 := by decide +kernel
theorem sine_isNum (a : Int) : isNum (sineB (angB a)) := by
  have h0 := angB_lo a
  have h1 := angB_hi a
  generalize angB a = n at *
  obtain ⟨m, rfl⟩ := Int.eq_ofNat_of_zero_le h0
  have h := (sine_size_nat m (by omega)).1
  simp only [Bool.or_eq_true, decide_eq_true_eq] at h
  exact h
theorem sine_size (a : Int) : sizeB (sineB (angB a)) ≤ 1065353216 := by
  have h0 := angB_lo a
  have h1 := angB_hi a
  generalize angB a = n at *
  obtain ⟨m, rfl⟩ := Int.eq_ofNat_of_zero_le h0
  exact (sine_size_nat m (by omega)).2

theorem cos_high_nat : ∀ n : Nat, n < 63 → 1019794704 ≤ cosB ((n : Int) + 1) ∧ cosB ((n : Int) + 1) ≤ 1065353216 := by decide +kernel
theorem cos_high (h : Int) (h0 : 1 ≤ h) (h1 : h < 64) : 1019794704 ≤ cosB h ∧ cosB h ≤ 1065353216 := by
  obtain ⟨n, rfl⟩ : ∃ n : Nat, h = (n : Int) + 1 := ⟨(h - 1).toNat, by omega⟩
  exact cos_high_nat n (by omega)
theorem cos_top : cosB 64 = 0 := by decide +kernel

/-! ### Products, quotients and sums grow with their operands -/
theorem mul_mono {x X y Y : Nat} (hX : X < 2139095040) (hY : Y < 2139095040) (hx : x ≤ X) (hy : y ≤ Y) : fmul x y ≤ fmul X Y :=
  rnd_mono (mul_rnd (by omega) (by omega)).2 (mul_rnd hX hY).2 (Nat.two_pow_pos _) (Nat.two_pow_pos _) (Nat.mul_le_mul_right _ (Nat.mul_le_mul (rv_le hx) (rv_le hy)))
theorem div_mono {x X y Y : Nat} (hX : X < 2139095040) (hy' : y < 2139095040) (hY : 0 < Y) (hx : x ≤ X) (hy : Y ≤ y) : fdiv x y ≤ fdiv X Y := by
  refine rnd_mono (div_rnd (by omega) hy' (by omega)).2 (div_rnd hX (by omega) hY).2 (rv_pos (by omega)) (rv_pos hY) ?_
  exact Nat.mul_le_mul (Nat.mul_le_mul_right _ (rv_le hx)) (rv_le hy)
theorem add_mono {x X y Y : Nat} (hX : X < 2139095040) (hY : Y < 2139095040) (hx : x ≤ X) (hy : y ≤ Y) : fadd x y ≤ fadd X Y :=
  rnd_mono (add_rnd (by omega) (by omega)).2 (add_rnd hX hY).2 (by decide) (by decide) (by rw [Nat.mul_one, Nat.mul_one]; exact Nat.add_le_add (rv_le hx) (rv_le hy))
theorem sub_mono {x X y Y : Nat} (hX : X < 2139095040) (hxX : x ≤ X) (hYy : Y ≤ y) (hyx : y ≤ x) : fsub x y ≤ fsub X Y := by
  refine rnd_mono (sub_rnd (by omega) hyx).2 (sub_rnd hX (by omega)).2 (by decide) (by decide) ?_
  rw [Nat.mul_one, Nat.mul_one]
  have h1 := rv_le hxX
  have h2 := rv_le hYy
  omega

/-! ### What is blocked -/
def min1 (q : Nat) : Nat := if 1065353216 < q then 1065353216 else q
def quoB (wd gp : Nat) (t h : Int) : Nat := fdiv (fmul wd (sizeB (sineB (angB (h + t))))) (fmul gp (cosB h))
def blkB (wd gp : Nat) (t h : Int) : Nat := if h = 64 then 1065353216 else min1 (quoB wd gp t h)
def opnB (wd gp : Nat) (t h : Int) : Nat := fsub 1065353216 (blkB wd gp t h)
def bncB (wd gp : Nat) (t : Int) (sh : Nat) (h : Int) : Nat := fdiv (fmul (fmul (blkB wd gp t h) sh) (opnB wd gp t 1)) 1073741824
def pasB (wd gp : Nat) (t : Int) (sh : Nat) (h : Int) : Nat := fadd (opnB wd gp t h) (bncB wd gp t sh h)

theorem blk_facts {wd gp : Nat} {t h : Int} (w0 : 1031798784 ≤ wd) (w1 : wd ≤ 1115684864) (g0 : 1031798784 ≤ gp) (g1 : gp ≤ 1115684864) (h0 : 1 ≤ h) (h1 : h < 64) :
    floatBits .mul .f32 wd (sizeB (sineB (angB (h + t)))) = some (fmul wd (sizeB (sineB (angB (h + t))))) ∧ floatBits .mul .f32 gp (cosB h) = some (fmul gp (cosB h)) ∧
    floatBits .quo .f32 (fmul wd (sizeB (sineB (angB (h + t))))) (fmul gp (cosB h)) = some (quoB wd gp t h) ∧ quoB wd gp t h < 2139095040 ∧ 0 < fmul gp (cosB h) ∧ fmul gp (cosB h) < 2139095040 := by
  have hs := sine_size (h + t)
  obtain ⟨c0, c1⟩ := cos_high h h0 h1
  unfold quoB
  generalize sizeB (sineB (angB (h + t))) = s at *
  generalize cosB h = c at *
  have m1 := mul_mono (x := wd) (X := 1115684864) (y := s) (Y := 1065353216) (by decide) (by decide) w1 hs
  have m2 := mul_mono (x := gp) (X := 1115684864) (y := c) (Y := 1065353216) (by decide) (by decide) g1 c1
  have m3 := mul_mono (x := 1031798784) (X := gp) (y := 1019794704) (Y := c) (by omega) (by omega) g0 c0
  have e1 : fmul 1115684864 1065353216 = 1115684864 := by decide +kernel
  have e3 : fmul 1031798784 1019794704 = 986240272 := by decide +kernel
  rw [e1] at m1 m2
  rw [e3] at m3
  have d := div_mono (x := fmul wd s) (X := 1115684864) (y := fmul gp c) (Y := 986240272) (by decide) (by omega) (by decide) m1 m3
  have e4 : fdiv 1115684864 986240272 < 2139095040 := by decide +kernel
  exact ⟨(mul_rnd (by omega) (by omega)).1, (mul_rnd (by omega) (by omega)).1, (div_rnd (by omega) (by omega) (by omega)).1, by omega, by omega, by omega⟩

theorem blk_le (wd gp : Nat) (t h : Int) : blkB wd gp t h ≤ 1065353216 := by
  unfold blkB min1
  split
  · exact Nat.le_refl _
  · split <;> omega

theorem one_sub_facts {b : Nat} (hb : b ≤ 1065353216) : floatBits .sub .f32 1065353216 b = some (fsub 1065353216 b) ∧ fsub 1065353216 b ≤ 1065353216 := by
  refine ⟨(sub_rnd (by decide) hb).1, ?_⟩
  refine rnd_le (sub_rnd (x := 1065353216) (by decide) hb).2 (by decide) ?_
  omega

theorem opn_facts (wd gp : Nat) (t h : Int) : floatBits .sub .f32 1065353216 (blkB wd gp t h) = some (opnB wd gp t h) ∧ opnB wd gp t h ≤ 1065353216 := one_sub_facts (blk_le wd gp t h)

theorem one_mul {x : Nat} (hx : x < 2139095040) : fmul x 1065353216 = x := by
  refine rnd_exact (mul_rnd hx (y := 1065353216) (by decide)).2 (by omega) (Nat.two_pow_pos _) ?_
  have : rv 1065353216 = 2 ^ 149 := by decide +kernel
  rw [this]
theorem mul_le_one {x y : Nat} (hx : x < 2139095040) (hy : y ≤ 1065353216) : fmul x y ≤ x := by
  have := mul_mono (x := x) (X := x) (y := y) (Y := 1065353216) hx (by decide) (Nat.le_refl _) hy
  rwa [one_mul hx] at this

/-- A product with -0. -/
theorem mul_neg0 {x : Nat} (hx : x < 2139095040) : floatBits .mul .f32 x 2147483648 = some 2147483648 ∧ floatBits .mul .f32 2147483648 x = some 2147483648 := by
  obtain ⟨m, i, hr, hm⟩ := read_pos hx
  have hz : Ieee.single.read 2147483648 = .number true 0 (-149) := by decide +kernel
  constructor
  · show Ieee.single.mul x 2147483648 = _
    unfold Ieee.Format.mul
    rw [hr, hz]; rfl
  · show Ieee.single.mul 2147483648 x = _
    unfold Ieee.Format.mul
    rw [hr, hz]
    simp only [Ieee.Datum.product, Nat.zero_mul, Option.map_some, Ieee.Format.write]
    rfl

theorem add_neg0 {x : Nat} (hx : x < 2139095040) : floatBits .add .f32 x 2147483648 = some x := by
  obtain ⟨m, i, hr, hm⟩ := read_pos hx
  have hz : Ieee.single.read 2147483648 = .number true 0 (-149) := by decide +kernel
  show Ieee.single.add x 2147483648 = _
  unfold Ieee.Format.add
  rw [hr, hz]
  have e0 : min (-149 + (i : Int)) (-149) = -149 := by omega
  have e2 : (-149 + (i : Int) - (-149 : Int)).toNat = i := by omega
  have e4 : Ieee.signed true 0 (-149 - (-149 : Int)).toNat = 0 := by decide
  simp only [Ieee.Datum.sum, Option.map_some, Ieee.Format.write, e0, e2, e4, signed_false, Int.add_zero, Int.natAbs_natCast]
  have e5 : (if ((m * 2 ^ i : Nat) : Int) = 0 then (false && true) else decide (((m * 2 ^ i : Nat) : Int) < 0)) = false := by
    split
    · rfl
    · exact decide_eq_false (by omega)
  rw [e5]
  have hR := nearest_rnd (m * 2 ^ i) (-149) 0 0 (by omega)
  rw [hm] at hR ⊢
  rw [rnd_exact hR (r := x) (by omega) (by decide) rfl]

theorem fget {op : BinOp} {x y r : Nat} {g : Nat → Nat → Nat} (hg : ∀ x y, g x y = (floatBits op .f32 x y).getD 0) (h : floatBits op .f32 x y = some r) : g x y = r := by rw [hg, h]; rfl
theorem fmul_get {x y r : Nat} (h : floatBits .mul .f32 x y = some r) : fmul x y = r := fget (g := fmul) (fun _ _ => rfl) h
theorem fadd_get {x y r : Nat} (h : floatBits .add .f32 x y = some r) : fadd x y = r := fget (g := fadd) (fun _ _ => rfl) h
theorem fsub_get {x y r : Nat} (h : floatBits .sub .f32 x y = some r) : fsub x y = r := fget (g := fsub) (fun _ _ => rfl) h
theorem fdiv_get {x y r : Nat} (h : floatBits .quo .f32 x y = some r) : fdiv x y = r := fget (g := fdiv) (fun _ _ => rfl) h

/-- Every step of what passes has an answer, and the answer is from 0 to .. -/
theorem pas_facts (wd gp : Nat) (t : Int) {sh : Nat} (hs : sh ≤ 1065353216 ∨ sh = 2147483648) (h : Int) :
    floatBits .mul .f32 (blkB wd gp t h) sh = some (fmul (blkB wd gp t h) sh) ∧ floatBits .mul .f32 (fmul (blkB wd gp t h) sh) (opnB wd gp t 1) = some (fmul (fmul (blkB wd gp t h) sh) (opnB wd gp t 1)) ∧
    floatBits .quo .f32 (fmul (fmul (blkB wd gp t h) sh) (opnB wd gp t 1)) 1073741824 = some (bncB wd gp t sh h) ∧ floatBits .add .f32 (opnB wd gp t h) (bncB wd gp t sh h) = some (pasB wd gp t sh h) ∧ pasB wd gp t sh h < 2139095040 := by
  have hb := blk_le wd gp t h
  have ho := (opn_facts wd gp t h).2
  have hv := (opn_facts wd gp t 1).2
  unfold pasB bncB
  generalize blkB wd gp t h = b at *
  generalize opnB wd gp t h = o at *
  generalize opnB wd gp t 1 = v at *
  rcases hs with hs | rfl
  · have m1 := mul_le_one (x := b) (y := sh) (by omega) hs
    have m2 := mul_le_one (x := fmul b sh) (y := v) (by omega) hv
    have d1 := div_mono (x := fmul (fmul b sh) v) (X := 1065353216) (y := 1073741824) (Y := 1073741824) (by decide) (by decide) (by decide) (by omega) (Nat.le_refl _)
    have e1 : fdiv 1065353216 1073741824 = 1056964608 := by decide +kernel
    rw [e1] at d1
    have a1 := add_mono (x := o) (X := 1065353216) (y := fdiv (fmul (fmul b sh) v) 1073741824) (Y := 1056964608) (by decide) (by decide) ho d1
    have e2 : fadd 1065353216 1056964608 = 1069547520 := by decide +kernel
    rw [e2] at a1
    exact ⟨(mul_rnd (by omega) (by omega)).1, (mul_rnd (by omega) (by omega)).1, (div_rnd (by omega) (by decide) (by decide)).1, (add_rnd (by omega) (by omega)).1, by omega⟩
  · have m1 := (mul_neg0 (x := b) (by omega)).1
    have m2 := (mul_neg0 (x := v) (by omega)).2
    rw [fmul_get m1, fmul_get m2]
    have d1 : floatBits .quo .f32 2147483648 1073741824 = some 2147483648 := by decide +kernel
    rw [fdiv_get d1]
    have a1 := add_neg0 (x := o) (by omega)
    rw [fadd_get a1]
    exact ⟨m1, m2, d1, a1, by omega⟩

theorem fin_of_lt {x : Nat} (h : x < 2139095040) : fin32 x = true := num_fin (num_of_isNum (.inl h))

end Go.Proofs.YtdbleddcnknmiaaGreatDoor

namespace Go.Proofs.YtdbleddcnknmiaaGreatDoor
open Go.ChangeShapes Go.WideShapes Go.ChangeAt Go.RowKit Go.Deep Go.Joins

def okP (ps : List Int) : Bool := ps.all (fun x => inI (-64) 64 x)

theorem okP_get {ps : List Int} (h : okP ps = true) {x : Int} (hx : x ∈ ps) : -64 ≤ x ∧ x ≤ 64 := inI_get (List.all_eq_true.1 h x hx)

theorem okP_iff (ps : List Int) (hp : ps.length = 24) : okP ps = true ↔ ∀ k, k < 24 → inI (-64) 64 (ps[k]?.getD 0) = true := by
  unfold okP
  rw [List.all_eq_true]
  constructor
  · intro h k hk
    have e : ps[k]? = some (ps[k]'(by omega)) := List.getElem?_eq_getElem (by omega)
    rw [e]; exact h _ (List.getElem_mem _)
  · intro h x hx
    obtain ⟨k, hk, rfl⟩ := List.mem_iff_getElem.1 hx
    have := h k (by omega)
    rw [List.getElem?_eq_getElem hk] at this
    exact this

theorem okP_false {ps : List Int} (hp : ps.length = 24) (k : Nat) (hk : k < 24) (h : inI (-64) 64 (ps[k]?.getD 0) = false) : okP ps = false := by
  rw [Bool.eq_false_iff]
  intro ha
  have := (okP_iff ps hp).1 ha k hk
  rw [h] at this; cases this

set_option maxRecDepth 100000 in
set_option maxHeartbeats 1000000 in
theorem l07Plan_any (b : Nat) (ps : List Int) (hp : ps.length = 24) (pb : ∀ x ∈ ps, -32768 ≤ x ∧ x ≤ 32767) (t : TypeId) (fr : Nat × Nat) (w : World) (hg : w.heap[b]? = some (.cells (i16s ps) t fr)) :
    Calls Tryz.prog 46 #[.pointer (some ⟨b, 0, none⟩)] w fun e w' => e = .returned (.bool (okP ps)) ∧ w = w' := by
  have Hp := Lib.hid hp
  have Hg := Lib.hid hg
  have Rb := Lib.hid pb
  clear hp hg pb
  go_enter Tryz.func46, Tryz.ntmps46
  go_wp2
  go_loop [3] (fun i => ∃ k : Nat, k ≤ 24 ∧ i = .int .i64 k ∧ Hid (∀ j, j < k → inI (-64) 64 (ps[j]?.getD 0) = true)) (fun i => 24 - (intOf i).toNat)
  case atStart => exact ⟨0, Nat.zero_le _, rfl, Lib.hid (fun j h => absurd h (by omega))⟩
  case round =>
    obtain ⟨k, hk, rfl, hj⟩ := hrel
    by_cases hlt : k < 24
    · have c0 := cell_of_i16s Hg.out k (by rw [Hp.out]; exact hlt)
      have hxb := rb_get Rb.out k
      generalize hA : ps[k]?.getD 0 = x at *
      have HA := Lib.hid hA
      clear hA
      obtain ⟨hx0, hx1⟩ := hxb
      by_cases h1 : inI (-64) 64 x = true
      · go_wp2_with (go_at_call 63; refine (l02Tilt_any _ _).mono ?_; rintro e w' ⟨rfl, rfl⟩)
        go_round
        case rel =>
          refine ⟨k + 1, by omega, by go_num, Lib.hid fun j hj' => ?_⟩
          by_cases e : j = k
          · subst e; rw [HA.out]; exact h1
          · exact hj.out j (by omega)
        case measure => simp [intOf]; omega
      · have h1' : inI (-64) 64 x = false := by simpa using h1
        have hno := Lib.hid (okP_false Hp.out k hlt (by rw [HA.out]; exact h1'))
        clear h1
        go_wp2_with (go_at_call 63; refine (l02Tilt_any _ _).mono ?_; rintro e w' ⟨rfl, rfl⟩)
        go_ret
        rw [hno.out]; exact ⟨rfl, rfl⟩
    · obtain rfl : k = 24 := by omega
      have hyes := Lib.hid ((okP_iff ps Hp.out).2 hj.out)
      go_wp2
      go_ret
      rw [hyes.out]; exact ⟨rfl, rfl⟩

end Go.Proofs.YtdbleddcnknmiaaGreatDoor
