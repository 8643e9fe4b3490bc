/-
  TrB, PkP, Sun, Hours, Eq, Round, Held, TrP, MapOp, Near, Keys, Law, TrA, TrK, TrV, TrS, AwA, Box.
-/
import Derived.Test.YtpcmcopfdghdgaaDoorRow
import Derived.Laws.BitsAllLaws
import Derived.IntWalk
import Derived.Test.YtpcmcopfdghdgaaDoorRows
import Derived.WalkKit
import Derived.WalkSpells
import Derived.WalkLawsBesides
import Derived.Lib.Hide
import Derived.Deep.Cut
import Derived.Deep.DeepCutAuto
import Derived.RangeFuncNested
import Derived.RangeFuncBound
import Derived.RangeFuncCalls
import Derived.RangeFuncLeaves
import Derived.RangeFuncFrom
import Derived.RangeFuncWrites
import Derived.Shelf.Abstract
import Derived.Shelf.RegionOpen
import Derived.OwnWalkIn
import Derived.TacticsInMore
import Derived.LoopNIn
import Derived.LoopIn
import Derived.Laws.StructEq
import Derived.Deep.RegionHeld3
import Derived.OrdersIn
import Derived.StillTail
import Derived.StillTailTactics
import Derived.RangeFuncKeeps
import Derived.Maps.Keyed
import Derived.DeepKeys4
import Derived.MapViews
import Derived.Carry
import Derived.OwnWalk
import Derived.Test.YtpcmcopfdghdgaaDoorTake
import Derived.Test.YtpcmcopfdghdgaaDoorBlk
import Derived.Laws.AppendOwn
import Derived.ProofKit
import Derived.OpenShut
import Derived.Test.YtpcmcopfdghdgaaDoorRoomE
import Derived.Test.YtpcmcopfdghdgaaDoorPart
import Derived.Test.YtpcmcopfdghdgaaDoorRoomF
import Derived.Test.YtpcmcopfdghdgaaDoorAgg

namespace Go.Proofs.YtpcmcopfdghdgaaDoor

/-- The hours before n that are told, as the bits of a number. -/
def maskN (q : Nat → Bool) : Nat → Nat
  | 0 => 0
  | n + 1 => if q n then maskN q n ||| 2 ^ n else maskN q n
theorem mask_bit (q : Nat → Bool) : ∀ n k, (maskN q n).testBit k = (decide (k < n) && q k)
  | 0, k => by simp [maskN]
  | n + 1, k => by
    unfold maskN
    by_cases hk : k = n
    · subst hk
      split
      · rename_i h; simp [Nat.testBit_or, mask_bit q k k, h]
      · rename_i h; simp [mask_bit q k k, h]
    · have e : decide (k < n + 1) = decide (k < n) := by rw [Bool.eq_iff_iff, decide_eq_true_iff, decide_eq_true_iff]; omega
      rw [e]
      split
      · rw [Nat.testBit_or, mask_bit q n k, Nat.testBit_two_pow_of_ne (Ne.symm hk), Bool.or_false]
      · exact mask_bit q n k
theorem mask_lt (q : Nat → Bool) (n : Nat) : maskN q n < 2 ^ n := by
  refine Nat.lt_pow_two_of_testBit _ fun k hk => ?_
  rw [mask_bit, decide_eq_false (by omega), Bool.false_and]
theorem mask_or (p q : Nat → Bool) (n : Nat) : maskN p n ||| maskN q n = maskN (fun k => p k || q k) n := by
  refine Nat.eq_of_testBit_eq fun k => ?_
  rw [Nat.testBit_or, mask_bit, mask_bit, mask_bit, ← Bool.and_or_distrib_left]
theorem mask_congr {p q : Nat → Bool} {n : Nat} (h : ∀ k, k < n → p k = q k) : maskN p n = maskN q n := by
  refine Nat.eq_of_testBit_eq fun k => ?_
  rw [mask_bit, mask_bit]
  by_cases hk : k < n
  · rw [h k hk]
  · rw [decide_eq_false hk, Bool.false_and, Bool.false_and]
theorem mask_step_hit (m : Nat) {q : Nat → Bool} {n : Nat} (h : q n = true) : (m ||| maskN q n) ||| 2 ^ n = m ||| maskN q (n + 1) := by
  rw [maskN, if_pos h, Nat.or_assoc]
theorem mask_step_miss (m : Nat) {q : Nat → Bool} {n : Nat} (h : q n = false) : m ||| maskN q n = m ||| maskN q (n + 1) := by
  rw [maskN, if_neg (by rw [h]; decide)]
theorem mask_shift (q : Nat → Bool) (n k : Nat) (hk : k < n) : maskN q n / 2 ^ k % 2 = if q k then 1 else 0 := by
  have := mask_bit q n k
  rw [decide_eq_true hk, Bool.true_and, Nat.testBit_eq_decide_div_mod_eq] at this
  cases hq : q k
  · rw [hq] at this
    have := of_decide_eq_false this
    simp; omega
  · rw [hq] at this
    simpa using of_decide_eq_true this

end Go.Proofs.YtpcmcopfdghdgaaDoor

namespace Go.Proofs.YtpcmcopfdghdgaaDoor
open Go.RowKit

def packP (p : Nat → Bool) : Nat → Nat
  | 0 => 0
  | k + 1 => if p k then packP p k ||| 2 ^ k else packP p k

theorem packP_lt (p : Nat → Bool) : ∀ k, packP p k < 2 ^ k
  | 0 => by show 0 < 1; decide
  | k + 1 => by
    have ih := packP_lt p k
    have h2 : 2 ^ (k + 1) = 2 * 2 ^ k := by rw [Nat.pow_succ]; omega
    rw [packP]
    split
    · exact Nat.or_lt_two_pow (by omega) (by omega)
    · omega

theorem packP_congr {p q : Nat → Bool} : ∀ k, (∀ j, j < k → p j = q j) → packP p k = packP q k
  | 0, _ => rfl
  | k + 1, h => by rw [packP, packP, h k (by omega), packP_congr k (fun j hj => h j (by omega))]

theorem packP_bit (p : Nat → Bool) (j : Nat) : ∀ k, (packP p k).testBit j = (decide (j < k) && p j)
  | 0 => by simp [packP]
  | k + 1 => by
    have ih := packP_bit p j k
    rw [packP]
    split
    · next h =>
      rw [Nat.testBit_or, ih, Nat.testBit_two_pow]
      by_cases e : k = j
      · subst e; simp [h]
      · have : decide (k = j) = false := decide_eq_false e
        rw [this, Bool.or_false]
        have : decide (j < k + 1) = decide (j < k) := by simp; omega
        rw [this]
    · next h =>
      rw [ih]
      by_cases e : j = k
      · subst e; simp [h]
      · have : decide (j < k + 1) = decide (j < k) := by simp; omega
        rw [this]

theorem two32 (k : Nat) (h : k ≤ 31) : 2 ^ k < 4294967296 := by
  have : 2 ^ k ≤ 2 ^ 31 := Nat.pow_le_pow_right (by decide) h
  omega

theorem packP_32 (p : Nat → Bool) (k : Nat) (h : k ≤ 32) : packP p k < 4294967296 := by
  have h1 := packP_lt p k
  have : 2 ^ k ≤ 2 ^ 32 := Nat.pow_le_pow_right (by decide) h
  omega

theorem packP_step (p : Nat → Bool) (k : Nat) (h : k ≤ 31) :
    (p k = true → packP p (k + 1) = (packP p k ||| 2 ^ k)) ∧ (p k = false → packP p (k + 1) = packP p k) ∧ (2 : Int) ^ k % 4294967296 = (2 : Int) ^ k ∧ bits .or .u32 (packP p k : Int) ((2 : Int) ^ k) = ((packP p k ||| 2 ^ k : Nat) : Int) := by
  have h2 := two32 k h
  have hp := packP_32 p k (by omega)
  have ec : (2 : Int) ^ k = ((2 ^ k : Nat) : Int) := by rw [Int.natCast_pow]; rfl
  refine ⟨fun hg => by rw [packP, hg, if_pos rfl], fun hg => by rw [packP, hg, if_neg (by decide)], ?_, ?_⟩
  · rw [ec]
    have h3 : (0 : Int) ≤ ((2 ^ k : Nat) : Int) := Int.natCast_nonneg _
    have h4 : ((2 ^ k : Nat) : Int) < ((4294967296 : Nat) : Int) := Int.ofNat_lt.2 h2
    exact Int.emod_eq_of_lt h3 h4
  · rw [ec]; exact u32_or_nat _ _ hp h2

end Go.Proofs.YtpcmcopfdghdgaaDoor

namespace Go.Proofs.YtpcmcopfdghdgaaDoor
open Go.RowKit

/-- Numbers of 16 bits as cells. -/
def i16s (xs : List Int) : Array Value := (xs.map (Value.int .i16)).toArray
@[simp] theorem i16s_size (xs : List Int) : (i16s xs).size = xs.length := by simp [i16s]

theorem i16s_get (xs : List Int) (k : Nat) (h : k < xs.length) : (i16s xs)[k]? = some (.int .i16 (xs[k]?.getD 0)) := by
  simp [i16s, h]

theorem i16s_one (xs : List Int) : ∀ v ∈ i16s xs, v.oneCell' = true := by
  intro v hv
  simp only [i16s, List.mem_toArray, List.mem_map] at hv
  obtain ⟨x, _, rfl⟩ := hv
  rfl

theorem i16s_set (xs : List Int) (k : Nat) (n : Int) : (i16s xs).setIfInBounds k (.int .i16 n) = i16s (xs.set k n) := by
  apply Array.ext'
  simp [i16s, List.map_set]

theorem copy_step (xs : List Int) (k : Nat) (hx : xs.length = 24) (hk : k < 24) :
    (xs.take k ++ List.replicate (24 - k) 0).set k (xs[k]?.getD 0) = xs.take (k + 1) ++ List.replicate (24 - (k + 1)) 0 := by
  apply List.ext_getElem?
  intro j
  simp only [List.getElem?_set, List.getElem?_append, List.length_take, List.getElem?_take, List.getElem?_replicate, List.length_append, List.length_replicate]
  by_cases h1 : k = j
  · subst h1
    simp [show k < 24 from hk, hx, show min k 24 + (24 - k) = 24 by omega, show min (k+1) 24 = k + 1 by omega]
  · rw [if_neg h1]
    by_cases h2 : j < k
    · simp [hx, show j < min k 24 by omega, show j < min (k+1) 24 by omega, show j < k + 1 by omega, h2]
    · simp only [hx, show ¬ j < min k 24 by omega, if_false, show ¬ j < min (k+1) 24 by omega]
      congr 1
      simp
      omega

theorem cell_of_i16s {w : World} {g : Nat} {xs : List Int} {t : TypeId} {fr : Nat × Nat} (hg : w.heap[g]? = some (.cells (i16s xs) t fr)) (k : Nat) (h : k < xs.length) :
    w.cell? ⟨g, k, none⟩ = some (.int .i16 (xs[k]?.getD 0)) := by
  rw [cell_of_row w g k _ t fr hg, i16s_get xs k h]

set_option maxRecDepth 100000 in
theorem info_arr : (Tryd.prog.info? 27).map (·.size) = some 24 := by kernel_rfl

theorem zeros24 : (#[.int .i16 0, .int .i16 0, .int .i16 0, .int .i16 0, .int .i16 0, .int .i16 0, .int .i16 0, .int .i16 0, .int .i16 0, .int .i16 0, .int .i16 0, .int .i16 0, .int .i16 0, .int .i16 0, .int .i16 0, .int .i16 0, .int .i16 0, .int .i16 0, .int .i16 0, .int .i16 0, .int .i16 0, .int .i16 0, .int .i16 0, .int .i16 0] : Array Value) = i16s (List.replicate 24 0) := rfl

theorem i16s_all (xs : List Int) (n : Nat) (h : xs.length = n) : (i16s xs).extract 0 (0 + n) = i16s xs := by
  have e : n = (i16s xs).size := by simp [h]
  rw [Nat.zero_add, e, Array.extract_size]

theorem laid_all (cs vs : Array Value) (h : cs.size = vs.size) : laid cs vs 0 = vs := by
  apply Array.ext'
  simp [laid]
  rw [← h]; simp

theorem heap_alloc (w : World) (o : Obj) (i : Nat) : (w.alloc o).heap[i]? = if i = w.heap.size then some o else w.heap[i]? := by
  show (w.heap.push o)[i]? = _
  exact Array.getElem?_push

set_option maxRecDepth 100000 in
set_option maxHeartbeats 400000 in
theorem toA_any (xs : List Int) (hx : xs.length = 24) (w : World) :
    Calls Tryd.prog 34 #[.agg (i16s xs)] w fun e w' => e = .returned (.agg (i16s xs)) ∧ Below w.heap.size w w' := by
  have Hx := Lib.hid hx
  clear hx
  go_enter Tryd.func34, Tryd.ntmps34
  go_wp2
  go_loopw [4] (fun i wr => ∃ k : Nat, k ≤ 24 ∧ i = .int .i64 k ∧ Below w.heap.size w wr ∧ wr.heap.size = w.heap.size + 3 ∧ wr.heap[w.heap.size]? = some (.cells (i16s xs) 27 (0, 0)) ∧ wr.heap[w.heap.size + 1]? = some (.cells (i16s (List.replicate 24 0)) 27 (0, 0)) ∧ wr.heap[w.heap.size + 1 + 1]? = some (.cells (i16s (xs.take k ++ List.replicate (24 - k) 0)) 27 (0, 0))) (fun i _ => 24 - (intOf i).toNat)
  case atStart =>
    refine ⟨0, Nat.zero_le _, rfl, ?_, ?_, ?_, ?_, ?_⟩
    · exact (((Below.refl _ _).alloc (Nat.le_refl _) _).alloc (by simp) _).alloc (by simp; omega) _
    · simp
    all_goals simp only [heap_alloc, World.size_alloc]
    · rw [if_neg (by omega), if_neg (by omega), if_true]
    · rw [if_neg (by omega), if_true]; rfl
    · rw [if_true]; rfl
  case round =>
    obtain ⟨k, hk, rfl, hb, hs, h0, h1, h2⟩ := hrel
    by_cases hlt : k < 24
    · have hc := cell_of_i16s h0 k (by rw [Hx.out]; exact hlt)
      have hl2 : (xs.take k ++ List.replicate (24 - k) (0 : Int)).length = 24 := by simp [Hx.out]; omega
      have hd := cell_of_i16s h2 k (by rw [hl2]; exact hlt)
      have hf := frozen_of_row wr (w.heap.size + 1 + 1) k _ _ h2
      have H2 := Lib.hid h2
      have H0 := Lib.hid h0
      have H1 := Lib.hid h1
      have Hl2 := Lib.hid hl2
      have Hs := Lib.hid hs
      clear h0 h1 h2 hl2 hs
      go_wp2
      go_roundw
      case rel =>
        refine ⟨k + 1, by omega, by go_num, hb.setCell (by simp; omega) _, ?_, ?_, ?_, ?_⟩
        · rw [← Hs.out]; simp
        · rw [heap_setCell_other _ _ _ _ (by simp; omega)]; exact H0.out
        · rw [heap_setCell_other _ _ _ _ (by simp)]; exact H1.out
        · rw [heap_setCell_same _ _ _ _ _ _ H2.out, i16s_set, copy_step xs k Hx.out hlt]
      case measure => simp [intOf]; omega
    · obtain rfl : k = 24 := by omega
      have e24 : xs.take 24 ++ List.replicate (24 - 24) (0 : Int) = xs := by simp [← Hx.out]
      rw [e24] at h2
      have H2 := Lib.hid h2
      have H1 := Lib.hid h1
      have Hs := Lib.hid hs
      clear h0 h1 h2 hs e24 hlt hk
      go_wp2_with (first | (refine wpList_load_part rfl 27 _ rfl _ _ 24 rfl _ _ _ _ H2.out Tryd.underlying27 rfl info_arr ?hsz _ (i16s_all xs 24 Hx.out) ?_; case hsz => simp [Hx.out]) | (refine wpList_store_part rfl 27 _ _ rfl _ _ _ rfl rfl _ _ H1.out (by rw [i16s_size, Hx.out]; exact info_arr) (by simp [Hx.out]) (i16s_one _) ?_; rw [laid_all _ _ (by simp [Hx.out])]))
      exact bodyPost_ret (results_cell_row rfl _ _ _ _ _ _ _ rfl (setRow_heap _ _ _ _ _ _ H1.out) Tryd.underlying27 rfl (by rw [i16s_size, Hx.out]; exact info_arr)) rfl ⟨rfl, below_setRow hb (by omega) _⟩


/-- A sun as a value: 24 heights, 24 turns. -/
def sunC (hs ts : List Int) : Array Value := i16s (hs ++ ts)

theorem sunC_size (hs ts : List Int) (h : hs.length = 24) (t : ts.length = 24) : (sunC hs ts).size = 48 := by simp [sunC, h, t]

theorem sun_fits (hs ts : List Int) (h : hs.length = 24) (t : ts.length = 24) : 0 + 48 ≤ (sunC hs ts).size := by rw [sunC_size _ _ h t]; decide

theorem sun_all (hs ts : List Int) (h : hs.length = 24) (t : ts.length = 24) : (sunC hs ts).extract 0 (0 + 48) = sunC hs ts := i16s_all _ 48 (by rw [List.length_append, h, t])

theorem sunC_fst (hs ts : List Int) (h : hs.length = 24) : (sunC hs ts).extract 0 (0 + 24) = i16s hs := by
  apply Array.ext'
  simp [sunC, i16s, ← h]

theorem sunC_snd (hs ts : List Int) (h : hs.length = 24) (t : ts.length = 24) : (sunC hs ts).extract 24 (24 + 24) = i16s ts := by
  apply Array.ext'
  have e : 24 = (List.map (Value.int .i16) ts).length := by simp [t]
  simp only [sunC, i16s, List.map_append, List.extract_toArray, List.extract_eq_take_drop]
  rw [List.drop_append_of_le_length (by simp [h]), List.drop_of_length_le (by simp [h]), List.nil_append, List.take_of_length_le (by simp [t])]

theorem laid_fst (hs ts us : List Int) (h : hs.length = 24) (u : us.length = 24) : laid (sunC hs ts) (i16s us) 0 = sunC us ts := by
  apply Array.ext'
  simp [laid, sunC, i16s, u, h]

theorem laid_snd (hs ts us : List Int) (h : hs.length = 24) (t : ts.length = 24) (u : us.length = 24) : laid (sunC hs ts) (i16s us) 24 = sunC hs us := by
  apply Array.ext'
  simp [laid, sunC, i16s, u, h, t]

set_option maxRecDepth 100000 in
theorem info_sunL : (Tryd.prog.info? 29).map (·.size) = some 48 := by kernel_rfl

set_option maxRecDepth 100000 in
theorem info_sun : (Tryd.prog.info? 37).map (·.size) = some 48 := by kernel_rfl

def zer : List Int := List.replicate 24 0

theorem zer_length : zer.length = 24 := rfl

theorem abs_code {P : Program} {c : Code} {Q : Exit → Act → World → Prop} {a : Act} {w : World} (R : World → Prop) (hw : R w) (h : ∀ W, R W → Code.wp P c Q a W) : Code.wp P c Q a w := h w hw

set_option maxRecDepth 100000 in
set_option maxHeartbeats 400000 in
theorem toSun_any (hs ts : List Int) (hh : hs.length = 24) (ht : ts.length = 24) (w : World) :
    Calls Tryd.prog 10 #[.agg (sunC hs ts)] w fun e w' => e = .returned (.agg (sunC hs ts)) ∧ Below w.heap.size w w' := by
  have Hh := Lib.hid hh
  have Ht := Lib.hid ht
  clear hh ht
  go_enter Tryd.func10, Tryd.ntmps10
  go_upto_region 2 with (fail)
  refine abs_code (fun W => Below w.heap.size w W ∧ w.heap.size + 3 ≤ W.heap.size ∧ W.heap[w.heap.size]? = some (.cells (sunC hs ts) 29 (0, 0)) ∧ W.heap[w.heap.size + 1]? = some (.cells (sunC zer zer) 37 (0, 0)) ∧ W.heap[w.heap.size + 1 + 1]? = some (.cells (sunC zer zer) 37 (0, 0))) ?_ ?_
  · refine ⟨(((Below.refl _ _).alloc (Nat.le_refl _) _).alloc (by simp) _).alloc (by simp; omega) _, by simp, ?_, ?_, ?_⟩
    all_goals simp only [heap_alloc, World.size_alloc]
    · rw [if_neg (by omega), if_neg (by omega), if_true]
    · rw [if_neg (by omega), if_true]; rfl
    · rw [if_true]; rfl
  rintro W ⟨hb, hs0, h0, h1, h2⟩
  have H0 := Lib.hid h0
  have H1 := Lib.hid h1
  have H2 := Lib.hid h2
  clear h0 h1 h2
  go_upto_region 3 with (first | (refine wpList_load_part rfl 27 _ rfl w.heap.size 0 24 rfl 29 (sunC hs ts) (0, 0) _ H0.out Tryd.underlying27 rfl info_arr (by rw [sunC_size _ _ Hh.out Ht.out]; decide) _ (sunC_fst hs ts Hh.out) ?_) | (go_at_call 34; refine (toA_any hs Hh.out _).mono ?_; rintro e W1 ⟨rfl, hb1⟩; replace H0 := Lib.hid (below_row hb1 H0.out); replace H1 := Lib.hid (below_row hb1 H1.out); replace H2 := Lib.hid (below_row hb1 H2.out); replace hs0 := Nat.le_trans hs0 hb1.size; replace hb := hb.trans (hb1.mono hb.size); clear hb1) | (refine wpList_store_part rfl 27 _ _ rfl (w.heap.size + 1 + 1) 0 (i16s hs) rfl rfl 37 (sunC zer zer) H2.out (by rw [i16s_size, Hh.out]; exact info_arr) (by rw [i16s_size, sunC_size _ _ zer_length zer_length, Hh.out]; decide) (i16s_one _) ?_; rw [laid_fst _ _ _ zer_length Hh.out]))
  refine abs_code (fun W => Below w.heap.size w W ∧ w.heap.size + 3 ≤ W.heap.size ∧ W.heap[w.heap.size]? = some (.cells (sunC hs ts) 29 (0, 0)) ∧ W.heap[w.heap.size + 1]? = some (.cells (sunC zer zer) 37 (0, 0)) ∧ W.heap[w.heap.size + 1 + 1]? = some (.cells (sunC hs zer) 37 (0, 0))) ?_ ?_
  · exact ⟨below_setRow hb (by omega) _, by simpa using hs0, (setRow_other _ _ _ _ (by omega)).trans H0.out, (setRow_other _ _ _ _ (by omega)).trans H1.out, setRow_heap _ _ _ _ _ _ H2.out⟩
  clear H0 H1 H2 hb hs0
  rintro W ⟨hb, hs0, h0, h1, h2⟩
  have H0 := Lib.hid h0
  have H1 := Lib.hid h1
  have H2 := Lib.hid h2
  clear h0 h1 h2
  go_upto_region 4 with (first | (refine wpList_load_part rfl 27 _ rfl w.heap.size 24 24 rfl 29 (sunC hs ts) (0, 0) _ H0.out Tryd.underlying27 rfl info_arr (by rw [sunC_size _ _ Hh.out Ht.out]; decide) _ (sunC_snd hs ts Hh.out Ht.out) ?_) | (go_at_call 34; refine (toA_any ts Ht.out _).mono ?_; rintro e W1 ⟨rfl, hb1⟩; replace H0 := Lib.hid (below_row hb1 H0.out); replace H1 := Lib.hid (below_row hb1 H1.out); replace H2 := Lib.hid (below_row hb1 H2.out); replace hs0 := Nat.le_trans hs0 hb1.size; replace hb := hb.trans (hb1.mono hb.size); clear hb1) | (refine wpList_store_part rfl 27 _ _ rfl (w.heap.size + 1 + 1) 24 (i16s ts) rfl rfl 37 (sunC hs zer) H2.out (by rw [i16s_size, Ht.out]; exact info_arr) (by rw [i16s_size, sunC_size _ _ Hh.out zer_length, Ht.out]; decide) (i16s_one _) ?_; rw [laid_snd _ _ _ Hh.out zer_length Ht.out]))
  refine abs_code (fun W => Below w.heap.size w W ∧ w.heap.size + 3 ≤ W.heap.size ∧ W.heap[w.heap.size]? = some (.cells (sunC hs ts) 29 (0, 0)) ∧ W.heap[w.heap.size + 1]? = some (.cells (sunC zer zer) 37 (0, 0)) ∧ W.heap[w.heap.size + 1 + 1]? = some (.cells (sunC hs ts) 37 (0, 0))) ?_ ?_
  · exact ⟨below_setRow hb (by omega) _, by simpa using hs0, (setRow_other _ _ _ _ (by omega)).trans H0.out, (setRow_other _ _ _ _ (by omega)).trans H1.out, setRow_heap _ _ _ _ _ _ H2.out⟩
  clear H0 H1 H2 hb hs0
  rintro W ⟨hb, hs0, h0, h1, h2⟩
  have H1 := Lib.hid h1
  have H2 := Lib.hid h2
  clear h0 h1 h2
  have Hsz := Lib.hid (sunC_size hs ts Hh.out Ht.out)
  go_wp2_with (first | (refine wpList_load_part rfl 37 _ rfl (w.heap.size + 1 + 1) 0 48 rfl 37 (sunC hs ts) (0, 0) _ H2.out Tryd.underlying37 rfl info_sun (by rw [Hsz.out]; decide) _ (i16s_all _ 48 (by simpa [sunC] using Hsz.out)) ?_) | (refine wpList_store_part rfl 37 _ _ rfl (w.heap.size + 1) 0 (i16s (hs ++ ts)) rfl rfl 37 (sunC zer zer) H1.out (by rw [i16s_size, List.length_append, Hh.out, Ht.out]; exact info_sun) (by simp [sunC, zer_length, Hh.out, Ht.out]) (i16s_one _) ?_; rw [laid_all _ _ (by simp [sunC, zer_length, Hh.out, Ht.out])]))
  exact bodyPost_ret (v := .agg (i16s (hs ++ ts))) (results_cell_row rfl _ _ _ _ _ _ _ rfl (setRow_heap _ _ _ _ _ _ H1.out) Tryd.underlying37 rfl (by rw [i16s_size, List.length_append, Hh.out, Ht.out]; exact info_sun)) rfl ⟨rfl, below_setRow hb (by omega) _⟩

end Go.Proofs.YtpcmcopfdghdgaaDoor

namespace Go.Proofs.YtpcmcopfdghdgaaDoor
open Go.RowKit Go.Shelf

/-- An hour of a day. -/
abbrev Hr := { h : Int // 0 ≤ h ∧ h < 24 }

def hr (k : Nat) : Hr := ⟨(k % 24 : Nat), by omega⟩

theorem hr_val (k : Nat) (h : k < 24) : (hr k).1 = (k : Int) := by simp [hr, Nat.mod_eq_of_lt h]

def hrs (k : Nat) : List Hr := (List.range k).map hr

theorem hrs_succ (k : Nat) : hrs (k + 1) = hrs k ++ [hr k] := by simp [hrs, List.range_succ]
@[simp] theorem hrs_length (k : Nat) : (hrs k).length = k := by simp [hrs]

set_option maxRecDepth 100000 in
set_option maxHeartbeats 1000000 in
theorem eachHour_in (F : Fence) (n : Nat) (hF : F.fn 53) (hro : F.round = none) (hn : 1 ≤ n) (l n₀ : Nat) (J Jx : List Hr → World → Prop)
    (hY : ∀ pre x W, J pre W → pre.length < 24 → YieldAt F (n - 1) Tryd.prog l #[.int .i64 x.1] W fun e W' =>
      (e = .returned (.bool true) ∧ J (pre ++ [x]) W' ∧ Below n₀ W W') ∨ (e = .returned (.bool false) ∧ Jx (pre ++ [x]) W'))
    (W : World) (h0 : J [] W) :
    CallsIn F n Tryd.prog 53 #[.func (.yield l) #[] #[]] W fun e W' => (∃ v, e = .returned v) ∧
      ((∃ xs, xs = hrs 24 ∧ J xs W') ∨ (∃ pre, (∃ k, k ≤ 24 ∧ pre = hrs k) ∧ Jx pre W')) := by
  refine callsIn_of_wp Tryd.func53 rfl hF ?_ hro
  simp only [Tryd.ntmps53, List.size_toArray, List.length_cons, List.length_nil, Nat.reduceAdd, Nat.reduceSub, Array.replicate_succ, Array.replicate_zero, List.push_toArray, List.append_toArray, List.nil_append, List.cons_append]
  gi_wp2
  gi_loopw [3] (fun i wr => ∃ k : Nat, k ≤ 24 ∧ i = .int .i64 k ∧ J (hrs k) wr ∧ Below n₀ W wr) (fun i _ => 24 - (intOf i).toNat)
  case atStart => exact ⟨0, Nat.zero_le _, rfl, h0, Below.refl _ _⟩
  case round =>
    obtain ⟨k, hk, rfl, hJs, hnx⟩ := hrel
    by_cases hlt : k < 24
    · obtain ⟨fn, tmps, assign, body, hy, hR⟩ := hY _ (hr k) wr hJs (by rw [hrs_length]; exact hlt)
      rw [hr_val k hlt] at hy
      gi_wp2
      refine hR.mono ?_
      rintro e W3 (⟨rfl, hJ3, hk3⟩ | ⟨rfl, hJx3⟩)
      · gi_wp2
        go_roundw
        case rel => exact ⟨k + 1, by omega, by simp, by rw [hrs_succ]; exact hJ3, hnx.trans hk3⟩
        case measure => simp [intOf]; omega
      · gi_wp2
        refine bodyPost_ret (results_none rfl _ _ _) rfl ?_
        exact ⟨⟨_, rfl⟩, .inr ⟨_, ⟨k + 1, by omega, (hrs_succ _).symm⟩, hJx3⟩⟩
    · obtain rfl : k = 24 := by omega
      gi_wp2
      go_end0
      exact ⟨⟨_, rfl⟩, .inl ⟨_, rfl, hJs⟩⟩

theorem eachHour_stops (F : Fence) (n : Nat) (hF : F.fn 53) (hro : F.round = none) (hn : 1 ≤ n) (n₀ : Nat) (w : World) :
    SeqStopsK F n Tryd.prog 53 #[] (fun x : Hr => #[Value.int .i64 x.1]) (Below n₀) (fun xs => xs = hrs 24) (fun pre => ∃ k, k ≤ 24 ∧ pre = hrs k) 24 w := fun l J Jx W _ _ _ hY h0 =>
  eachHour_in F n hF hro hn l n₀ J Jx hY W h0

end Go.Proofs.YtpcmcopfdghdgaaDoor

namespace Go.Proofs.YtpcmcopfdghdgaaDoor
open Go Go.RowKit

set_option maxRecDepth 100000 in
theorem size_i16 (w : World) : (sizeOf 26).run Tryd.prog w = .ok 1 w := by kernel_rfl

set_option maxRecDepth 100000 in
theorem agg_i16 (w : World) : (isAgg 26).run Tryd.prog w = .ok false w := by kernel_rfl

set_option maxRecDepth 100000 in
theorem agg_arr (w : World) : (isAgg 27).run Tryd.prog w = .ok true w := by kernel_rfl

set_option maxRecDepth 100000 in
theorem size_arr (w : World) : (sizeOf 27).run Tryd.prog w = .ok 24 w := by kernel_rfl

theorem part_i16 (xs : List Int) (i : Nat) (h : i < xs.length) (w : World) : (part 26 (i16s xs) i).run Tryd.prog w = .ok (.int .i16 (xs[i]?.getD 0)) w := by
  unfold part
  rw [Sem.run_bind, agg_i16]
  simp only [Result.andThen_ok, Bool.false_eq_true, if_false, i16s_get xs i h]
  rfl

theorem part_arr (cs : Array Value) (o : Nat) (w : World) : (part 27 cs o).run Tryd.prog w = .ok (.agg (cs.extract o (o + 24))) w := by
  unfold part
  rw [Sem.run_bind, agg_arr]
  simp only [Result.andThen_ok, if_true]
  rw [Sem.run_bind, size_arr]
  rfl

theorem eq_loop (d : Nat) (xs ys : List Int) (w : World) : ∀ (is : List Nat), (∀ i ∈ is, i < xs.length ∧ i < ys.length) →
    (forIn is ((none, ()) : Option Bool × Unit) (fun i _ => do
      if (!(← Op.equalIn (d + 1) 26 (← part 26 (i16s xs) (i * 1)) (← part 26 (i16s ys) (i * 1)))) = true then pure (ForInStep.done (some false, ()))
      else pure (ForInStep.yield (none, ())))).run Tryd.prog w = .ok (if is.all (fun i => xs[i]?.getD 0 == ys[i]?.getD 0) then (none, ()) else (some false, ())) w
  | [], _ => rfl
  | i :: is, h => by
    have hi := h i (by simp)
    have ih := eq_loop d xs ys w is (fun j hj => h j (by simp [hj]))
    rw [List.forIn_cons]
    simp only [Nat.mul_one] at ih ⊢
    simp only [Sem.run_bind, part_i16 xs i hi.1, part_i16 ys i hi.2, Result.andThen_ok, run_equalIn_int w d 26 .i16 .i16 _ _ Tryd.underlying26]
    cases hc : (xs[i]?.getD 0 == ys[i]?.getD 0)
    · simp [hc]
    · simp only [Bool.not_true, Bool.false_eq_true, if_false, Sem.run_pure, Result.andThen_ok, List.all_cons, hc, Bool.true_and]
      exact ih

theorem all_eq (xs ys : List Int) (n : Nat) (hx : xs.length = n) (hy : ys.length = n) : (List.range' 0 n).all (fun i => xs[i]?.getD 0 == ys[i]?.getD 0) = (xs == ys) := by
  rw [Bool.eq_iff_iff]
  simp only [List.all_eq_true, beq_iff_eq]
  constructor
  · intro h
    apply List.ext_getElem?
    intro i
    by_cases hi : i < n
    · have h1 := h i (by simp [List.mem_range']; omega)
      rw [List.getElem?_eq_getElem (by omega), List.getElem?_eq_getElem (by omega)] at h1 ⊢
      simpa using h1
    · rw [List.getElem?_eq_none (by omega), List.getElem?_eq_none (by omega)]
  · intro h i _
    rw [h]

theorem run_eq_arr (d : Nat) (xs ys : List Int) (hx : xs.length = 24) (hy : ys.length = 24) (w : World) :
    (Op.equalIn (d + 1 + 1) 27 (.agg (i16s xs)) (.agg (i16s ys))).run Tryd.prog w = .ok (xs == ys) w := by
  have hl := eq_loop d xs ys w (List.range' 0 24) (fun i hi => by simp [List.mem_range'] at hi; omega)
  rw [all_eq xs ys 24 hx hy] at hl
  rw [Op.equalIn.eq_def]
  simp only [Sem.run_bind, run_underlying Tryd.underlying27, Result.andThen_ok, size_i16]
  rw [Std.Legacy.Range.forIn_eq_forIn_range']
  have e : (Std.Legacy.Range.mk 0 24 1 (by decide)).size = 24 := by decide
  simp only [e]
  erw [hl]
  cases xs == ys <;> rfl


theorem run_eql_arr (xs ys : List Int) (hx : xs.length = 24) (hy : ys.length = 24) (w : World) :
    (Op.equalIn 10000 27 (.agg (i16s xs)) (.agg (i16s ys))).run Tryd.prog w = .ok (xs == ys) w := run_eq_arr 9998 xs ys hx hy w

set_option maxRecDepth 100000 in
theorem fields_sun : Tryd.prog.underlying 37 = some (.struct (Tryd.prog.fieldsOf 37)) := by kernel_rfl

set_option maxRecDepth 100000 in
theorem stood_sun : Tryd.prog.stoodInHeld 37 = false := by kernel_rfl

theorem fold_and (a b : Bool) (w : World) : (if (!a) = true then Sem.run Tryd.prog (pure false) w else ((Sem.run Tryd.prog (pure b) w).andThen fun r w' => Sem.run Tryd.prog (if (!r) = true then pure false else pure true) w')) = .ok (a && b) w := by
  cases a <;> cases b <;> rfl

set_option maxRecDepth 100000 in
theorem run_eql_sun (h1 t1 h2 t2 : List Int) (a1 : h1.length = 24) (b1 : t1.length = 24) (a2 : h2.length = 24) (b2 : t2.length = 24) (w : World) :
    (Op.equalIn 10000 37 (.agg (sunC h1 t1)) (.agg (sunC h2 t2))).run Tryd.prog w = .ok (h1 == h2 && t1 == t2) w := by
  rw [run_equalIn_agg w 9999 37 _ _ fields_sun stood_sun]
  have hf : (Tryd.prog.fieldsOf 37).toList.map (fun f => (f.name, f.type, f.offset)) = [("Height", 27, 0), ("Turns", 27, 24)] := by kernel_rfl
  generalize (Tryd.prog.fieldsOf 37).toList = fs at hf
  have hlen : fs.length = 2 := by simpa using congrArg List.length hf
  match fs, hlen, hf with
  | [f0, f1], _, hf =>
    simp only [List.map_cons, List.map_nil, List.cons.injEq, Prod.mk.injEq, and_true] at hf
    obtain ⟨⟨n0, ty0, o0⟩, n1, ty1, o1⟩ := hf
    simp only [Op.eqFields, n0, n1, ty0, ty1, o0, o1]
    rw [if_pos (by decide), if_pos (by decide)]
    simp only [Sem.run_bind, part_arr, Result.andThen_ok, sunC_fst _ _ a1, sunC_fst _ _ a2, sunC_snd _ _ a1 b1, sunC_snd _ _ a2 b2, run_eq_arr 9997 _ _ a1 a2, Sem.run_ite, run_eq_arr 9997 _ _ b1 b2]
    cases h1 == h2 <;> cases t1 == t2 <;> rfl

end Go.Proofs.YtpcmcopfdghdgaaDoor

namespace Go.Proofs.YtpcmcopfdghdgaaDoor
open Go Go.RowKit

section

variable {P : Program}

theorem op_round {l n : Nat} {o : Oper} {a : Act} {w : World} {K : Act → World → Prop} {Q : Exit → Act → World → Prop} (hd : ∀ c, o.op ≠ .defer c) (h : o.wp P a w K Q) :
    o.wpIn (Fence.wide.inRound l) n P a w K Q := by
  refine ⟨fun _ _ => trivial, ?_⟩
  rw [Oper.semAt_eq _ _ _ hd]
  unfold Oper.wp at h
  generalize (execOp a.eval o).run P w = r at *
  cases r with
  | ok x w' =>
    cases x <;> simp only [Oper.upon, Oper.uponIn] at h ⊢
    case value => exact h
    case skip => exact h
    case defer => exact h
    case enter f args => exact ⟨fun h => (by cases h), CallsIn.inRound l (callsIn_wide.2 (h.mono fun e w' he => by cases e <;> exact he))⟩
    case row row args => exact ⟨fun h => (by cases h), fun c cs _ => let ⟨v, w', r, s⟩ := h c cs; ⟨v, w', r, stepsIn_wide.2 s⟩⟩
  | halt x w' => cases x <;> simp only [Oper.upon, Oper.uponIn] at h ⊢ <;> exact h


theorem any_round {l n : Nat} {md : Region.Mode} {ops : Array Oper} {Q : Exit → Act → World → Prop} (hd : ∀ (i : Nat) (o : Oper), ops[i]? = some o → ∀ c, o.op ≠ .defer c) (hlo : ¬ LetsOut Q) :
    ∀ (fuel : Nat) (listed : Array Bool) (a : Act) (w : World), wpAny P md ops Q fuel listed a w → wpAnyIn (Fence.wide.inRound l) n P md ops Q fuel listed a w
  | 0, _, _, _, h => h
  | fuel + 1, listed, a, w, h => by
    refine ⟨h.1, fun i hi => ?_⟩
    have h1 := h.2 i hi
    unfold wpOp at h1
    unfold wpOpIn
    cases ho : ops[i]? with
    | none => simp only [ho] at h1; exact any_round hd hlo fuel _ _ _ h1
    | some o =>
      simp only [ho] at h1 ⊢
      split
      · rename_i hw
        rw [if_pos hw] at h1
        have h2 := h1.resolve_right (fun h => hlo h.2)
        exact Oper.wpIn_mono (fun a w h => any_round hd hlo fuel _ a w h) (op_round (hd i o ho) h2)
      · rename_i hw
        rw [if_neg hw] at h1
        exact ⟨fun _ _ => trivial, any_round hd hlo fuel _ _ _ h1⟩

/-- A region that draws its order, in a round: from the law for a region under a held condition. -/
theorem region_round {l n id : Nat} {ops : Array Oper} {Q : Exit → Act → World → Prop} {S : World → Prop} {a : Act} {w : World} (hm : P.follows .mixedOrders = true)
    (hd : ∀ (i : Nat) (o : Oper), ops[i]? = some o → ∀ c, o.op ≠ .defer c) (hlo : ¬ LetsOut Q) (hS : S w.drew)
    (h : S w.drew → wpAnyH P .any ops Q S ops.size (Array.replicate ops.size false) a w.drew) : (Code.region id ops true).wpIn (Fence.wide.inRound l) n P Q a w :=
  wpIn_region_any hm (any_round hd hlo _ _ _ _ (wpAny_of_held _ _ _ _ (h hS)))

/-- Reads before one store, in a round. -/
theorem still_tail_round {l n id k : Nat} {Q : Exit → Act → World → Prop} {a : Act} {w : World} {os : List Oper} (hm : P.follows .mixedOrders = true) (hB : Region.lexTailB .any os.toArray k = true)
    (hd : ∀ (i : Nat) (o : Oper), os.toArray[i]? = some o → ∀ c, o.op ≠ .defer c) (hlo : ¬ LetsOut Q)
    (h : wpStill P os.toArray w.drew (fun a' => wpList P os.toArray Q (os.drop k) a' w.drew) (os.take k) a) : (Code.region id os.toArray true).wpIn (Fence.wide.inRound l) n P Q a w := by
  refine wpIn_region_any hm (any_round hd hlo _ _ _ _ ?_)
  simp only [Region.lexTailB, Bool.and_eq_true, decide_eq_true_eq] at hB
  obtain ⟨⟨⟨⟨hsel, hk⟩, hs⟩, hc⟩, hlex⟩ := hB
  have hk' : k < os.length := by simpa using hk
  have htl : (os.take k).length = k := by simp; omega
  have hdl : (os.drop k).length = os.toArray.size - k := by simp
  have inv0 : HeadInv .any os.toArray k (Array.replicate os.toArray.size false) :=
    ⟨by simp, fun j oj _ hl => (by rw [getD_replicate_false] at hl; cases hl), fun t _ ht => getD_in (by simpa using ht) (getD_replicate_false _ _)⟩
  have H := wpAnyL_lex (md := .any) (g := os.toArray.size - k) hsel hs hc hk (os.take k) 0 _ a (fun j hj => by
    have hj' : j < k := by rw [htl] at hj; exact hj
    simp [hj']) (by simpa using htl) inv0 (by rw [htl]; exact hlex) h
  have H2 := wpAny_of_head (Q' := Q) (g := os.toArray.size - k) (fun listed a' hL => by
    have h3 := wpAny_of_seq (md := .any) (Q' := Q) (os.drop k) k listed a' w.drew (fun j => by simp [List.getElem?_drop]) (by rw [hdl]; exact hL.1) hL.2
    rwa [hdl] at h3) _ _ _ H
  rw [htl, show k + (os.toArray.size - k) = os.toArray.size by omega] at H2
  exact H2

theorem no_defer {ops : List Oper} (h : ops.all (fun o => match o.op with | .defer _ => false | _ => true) = true) : ∀ (i : Nat) (o : Oper), ops.toArray[i]? = some o → ∀ c, o.op ≠ .defer c := by
  intro i o ho c hc
  have hm : o ∈ ops := List.mem_iff_getElem?.2 ⟨i, by simpa using ho⟩
  have := List.all_eq_true.1 h o hm
  rw [hc] at this
  cases this

end

end Go.Proofs.YtpcmcopfdghdgaaDoor

namespace Go.Proofs.YtpcmcopfdghdgaaDoor
open Go.RowKit Go.Shelf

attribute [local go_sem] Oper.semAt_some

theorem heap_kept {W W' : World} {row : Option Nat} {b : Nat} {cs : Array Value} {t : TypeId} {fr : Nat × Nat} (h : W.heap[b]? = some (.cells cs t fr)) (hg : W.grownBy W' row)
    (hr : ∀ r, row = some r → ∃ o : Obj, W.heap[r]? = some o ∧ o.isCells = false) : W'.heap[b]? = some (.cells cs t fr) := by
  have hlt := (Array.getElem?_eq_some_iff.1 h).1
  rw [← h]
  refine hg.block b hlt fun e => ?_
  obtain ⟨o, ho, hc⟩ := hr b e.symm
  rw [h] at ho
  cases ho
  cases hc

/-- A number between two bounds. -/
def clampI (lo hi y : Int) : Int := if hi < (if lo > y then lo else y) then hi else (if lo > y then lo else y)

/-- The list whose first numbers are held. -/
def clampTo (lo hi : Int) (xs : List Int) (k : Nat) : List Int := (xs.take k).map (clampI lo hi) ++ xs.drop k

def Good (pre : List Hr) : Prop := pre = hrs pre.length

theorem good_snoc {pre : List Hr} {x : Hr} (h : Good (pre ++ [x])) (hl : pre.length < 24) : Good pre ∧ x.1 = (pre.length : Int) := by
  unfold Good at h
  rw [List.length_append, List.length_singleton, hrs_succ] at h
  have h1 := List.append_inj_left h (by simp)
  have h2 := List.append_inj_right h (by simp)
  refine ⟨h1, ?_⟩
  injection h2 with h3
  rw [h3, hr_val _ hl]

theorem good_all : Good (hrs 24) := by unfold Good; rw [hrs_length]

theorem clampTo_get (lo hi : Int) (xs : List Int) (k : Nat) (hx : xs.length = 24) (hk : k < 24) : (clampTo lo hi xs k)[k]?.getD 0 = xs[k]?.getD 0 := by
  unfold clampTo
  rw [List.getElem?_append_right (by simp; omega), List.getElem?_drop]
  congr 2
  simp; omega

theorem clampTo_step (lo hi : Int) (xs : List Int) (k : Nat) (hx : xs.length = 24) (hk : k < 24) :
    (clampTo lo hi xs k).set k (clampI lo hi (xs[k]?.getD 0)) = clampTo lo hi xs (k + 1) := by
  apply List.ext_getElem?
  intro j
  unfold clampTo
  simp only [List.getElem?_set, List.getElem?_append, List.length_map, List.length_take, List.getElem?_map, List.getElem?_take, List.getElem?_drop, List.length_append, List.length_drop, hx]
  by_cases h1 : k = j
  · subst h1
    rw [if_pos rfl, if_pos (by omega), if_pos (by omega), if_pos (by omega), List.getElem?_eq_getElem (by omega)]
    rfl
  · rw [if_neg h1]
    by_cases h2 : j < k
    · rw [if_pos (by omega), if_pos (by omega), if_pos (by omega), if_pos (by omega)]
    · rw [if_neg (by omega), if_neg (by omega)]
      congr 1
      omega

theorem clampTo_all (lo hi : Int) (xs : List Int) (hx : xs.length = 24) : clampTo lo hi xs 24 = xs.map (clampI lo hi) := by
  unfold clampTo
  rw [List.take_of_length_le (by omega), List.drop_of_length_le (by omega), List.append_nil]

theorem clampTo_none (lo hi : Int) (xs : List Int) : clampTo lo hi xs 0 = xs := rfl

def HeldI (w : World) (lo hi : Int) (xs : List Int) (pre : List Hr) (W : World) : Prop :=
  ∃ ys : List Int, ys.length = 24 ∧ W.heap[w.heap.size]? = some (.cells (i16s ys) 27 (0, 0)) ∧ W.heap[w.heap.size + 1]? = some (.cells #[.int .i16 lo] 26 (0, 0)) ∧ W.heap[w.heap.size + 1 + 1]? = some (.cells #[.int .i16 hi] 26 (0, 0)) ∧ W.heap[w.heap.size + 1 + 1 + 1]? = some (.cells (i16s zer) 27 (0, 0)) ∧ (Good pre → ys = clampTo lo hi xs pre.length) ∧ Below w.heap.size w W

theorem heldI_own (w : World) (lo hi : Int) (xs : List Int) (B : Nat) (hB : w.heap.size ≤ B) : OwnFrom B (HeldI w lo hi xs) := by
  intro s W W' row ⟨ys, hy, h0, h1, h2, h3, hg, hb⟩ hg' hr
  have hr2 := fun r e => (hr r e).2
  exact ⟨ys, hy, heap_kept h0 hg' hr2, heap_kept h1 hg' hr2, heap_kept h2 hg' hr2, heap_kept h3 hg' hr2, hg, ownFrom_below (β := Unit) (Nat.le_refl _) hB () W W' row hb hg' hr⟩

theorem held_step {w W : World} {lo hi : Int} {xs ys : List Int} {pre : List Hr} {k : Nat} {h01 : 0 ≤ (k : Int) ∧ (k : Int) < 24} (hx : xs.length = 24) (hy : ys.length = 24) (hl : pre.length < 24)
    (h0 : W.heap[w.heap.size]? = some (.cells (i16s ys) 27 (0, 0))) (h1 : W.heap[w.heap.size + 1]? = some (.cells #[.int .i16 lo] 26 (0, 0))) (h2 : W.heap[w.heap.size + 1 + 1]? = some (.cells #[.int .i16 hi] 26 (0, 0)))
    (h3 : W.heap[w.heap.size + 1 + 1 + 1]? = some (.cells (i16s zer) 27 (0, 0))) (hg : Good pre → ys = clampTo lo hi xs pre.length) (hb : Below w.heap.size w W) (v : Int) (hv : v = clampI lo hi (ys[k]?.getD 0)) :
    KeepsOthers W (W.setCell ⟨w.heap.size, k, none⟩ (.int .i16 v)).drew ∧ Below w.heap.size W (W.setCell ⟨w.heap.size, k, none⟩ (.int .i16 v)).drew ∧ HeldI w lo hi xs (pre ++ [⟨k, h01⟩]) (W.setCell ⟨w.heap.size, k, none⟩ (.int .i16 v)).drew := by
  have hk : k < 24 := by have := h01.2; omega
  refine ⟨(KeepsOthers.setCell _ _ _).trans (KeepsOthers.drew _), ((Below.refl w.heap.size W).setCell (p := ⟨w.heap.size, k, none⟩) (Nat.le_refl _) _).drew, ys.set k v, by simp [hy], ?_, ?_, ?_, ?_, ?_, (hb.setCell (p := ⟨w.heap.size, k, none⟩) (Nat.le_refl _) _).drew⟩
  · rw [heap_drew, heap_setCell_same _ _ _ _ _ _ h0, i16s_set]
  · rw [heap_drew, heap_setCell_other _ _ _ _ (by simp)]; exact h1
  · rw [heap_drew, heap_setCell_other _ _ _ _ (by simp; omega)]; exact h2
  · rw [heap_drew, heap_setCell_other _ _ _ _ (by simp; omega)]; exact h3
  · intro hgs
    obtain ⟨hgp, hxk⟩ := good_snoc hgs hl
    have hkl : k = pre.length := by have : (k : Int) = (pre.length : Int) := hxk; omega
    have hys := hg hgp
    rw [List.length_append, List.length_singleton, hv, hys, hkl, clampTo_get lo hi xs _ hx hl, clampTo_step lo hi xs _ hx hl]

theorem arrU : Tryd.prog.follows .mixedOrders = true := by kernel_rfl

set_option maxRecDepth 100000 in
set_option maxHeartbeats 2000000 in
theorem held_any (xs : List Int) (hx : xs.length = 24) (lo hi : Int) (w : World) :
    Calls Tryd.prog 63 #[.agg (i16s xs), .int .i16 lo, .int .i16 hi] w fun e w' => e = .returned (.agg (i16s (xs.map (clampI lo hi)))) ∧ Below w.heap.size w w' := by
  refine (callsIn_wide (n := 4)).1 ?_
  have Hx := Lib.hid hx
  clear hx
  refine callsIn_of_wp_marks Tryd.func63 rfl trivial ?_ rfl
  simp only [Tryd.ntmps63, List.size_toArray, List.length_cons, List.length_nil, Nat.reduceAdd, Nat.reduceSub, Array.replicate_succ, Array.replicate_zero, List.push_toArray, List.append_toArray, List.nil_append, List.cons_append]
  gi_wp2
  refine wpIn_rangeFunc_ownF rfl (by decide) (gf := 53) (lb := #[]) rfl trivial (enters_of Tryd.func53 (by kernel_rfl) rfl)
    (eachHour_stops Fence.wide _ trivial rfl (by decide) w.heap.size _) belowK_t (belowK_b (by simp; omega)) (Below.refl _ _) (fun _ => rfl)
    (HeldI w lo hi xs)
    (fun _ _ _ => False) (heldI_own w lo hi xs _ (by simp; omega)) (fun _ _ _ _ _ hs _ _ => hs) ?h0
    (fun x => { tmps := #[.agg (i16s xs), .int .i16 lo, .int .i16 hi, .pointer (some ⟨w.heap.size, 0, none⟩), .pointer (some ⟨w.heap.size + 1, 0, none⟩), .pointer (some ⟨w.heap.size + 1 + 1, 0, none⟩), .pointer (some ⟨w.heap.size + 1 + 1 + 1, 0, none⟩), .int .i64 x.1, .int .i64 x.1, undef, undef, undef, undef, undef, undef, undef, undef, undef, undef], defers := [] }) ?assign ?body ?done ?stop
  case h0 =>
    refine ⟨xs, Hx.out, ?_, ?_, ?_, ?_, fun _ => rfl, ((((Below.refl _ _).alloc (Nat.le_refl _) _).alloc (by simp) _).alloc (by simp; omega) _).alloc (by simp; omega) _⟩
    all_goals simp only [heap_alloc, World.size_alloc]
    · rw [if_neg (by omega), if_neg (by omega), if_neg (by omega), if_true]
    · rw [if_neg (by omega), if_neg (by omega), if_true]
    · rw [if_neg (by omega), if_true]
    · rw [if_true]; rfl
  case assign =>
    intro l x W K hK
    gi_wp2
    exact hK
  case body =>
    rintro l pre x W ⟨ys, hy, h0, h1, h2, h3, hg, hb⟩ hl
    have hmx := arrU
    obtain ⟨x, hx0, hx1⟩ := x
    obtain ⟨k, rfl⟩ := Int.eq_ofNat_of_zero_le hx0
    have hk : k < 24 := by omega
    have c0 := cell_of_i16s h0 k (by rw [hy]; exact hk)
    have c1 : W.cell? ⟨w.heap.size + 1, 0, none⟩ = some (.int .i16 lo) := by rw [cell_of_row W _ _ _ _ _ h1]; rfl
    have c2 : W.cell? ⟨w.heap.size + 1 + 1, 0, none⟩ = some (.int .i16 hi) := by rw [cell_of_row W _ _ _ _ _ h2]; rfl
    have f0 := frozen_of_row W w.heap.size k _ _ h0
    have H0 := Lib.hid h0
    have H1 := Lib.hid h1
    have H2 := Lib.hid h2
    have H3 := Lib.hid h3
    have HG := Lib.hid hg
    have Hy := Lib.hid hy
    clear h0 h1 h2 h3 hg hy
    gi_wp2
    refine still_tail_round (k := 9) hmx (by kernel_rfl) (no_defer (by rfl)) (fun ⟨_, _, h⟩ => h) ?_
    simp only [List.take_succ_cons, List.take_zero, List.drop_succ_cons, List.drop_zero]
    repeat still_step
    refine wpStill_nil ?_
    go_wp2
    all_goals refine held_step Hx.out Hy.out hl H0.out H1.out H2.out H3.out HG.out hb _ ?_
    all_goals (unfold clampI; clear H0 H1 H2 H3 HG Hy c0 f0)
    all_goals (repeat (first | rw [if_pos (by omega)] | rw [if_neg (by omega)]))
  case done =>
    rintro D zs W hD rfl ⟨ys, hy, h0, h1, h2, h3, hg, hb⟩ hK
    rename_i K hcont
    have hD' : w.heap.size + 4 ≤ D := by simpa using hD
    have hys : ys = xs.map (clampI lo hi) := by rw [hg good_all, hrs_length, clampTo_all lo hi xs Hx.out]
    subst hys
    clear hg hD h1 h2
    have H0 := Lib.hid h0
    have H3 := Lib.hid h3
    have HK := Lib.hid hK
    have Hy := Lib.hid hy
    clear h0 h3 hK hy
    refine hcont _ _ ?_
    refine wpIn_wide.2 ?_
    go_wp2_with (first | (refine wpList_load_part rfl 27 _ rfl w.heap.size 0 24 rfl 27 (i16s (xs.map (clampI lo hi))) (0, 0) _ H0.out Tryd.underlying27 rfl info_arr (by rw [i16s_size, Hy.out]; decide) (i16s (xs.map (clampI lo hi))) (i16s_all _ 24 Hy.out) ?_) | (refine wpList_store_part rfl 27 _ _ rfl (w.heap.size + 1 + 1 + 1) 0 (i16s (xs.map (clampI lo hi))) rfl rfl 27 (i16s zer) H3.out (by rw [i16s_size, Hy.out]; exact info_arr) (by rw [i16s_size, i16s_size, Hy.out]; decide) (i16s_one _) ?_; rw [laid_all _ _ (by rw [i16s_size, i16s_size, Hy.out]; rfl)]))
    have hK2 : (W.setRow (w.heap.size + 1 + 1 + 1) (i16s (xs.map (clampI lo hi)))).heap[D]? = some (.deferred (some [])) := (setRow_other _ _ _ _ (by omega)).trans HK.out
    have hR := setRow_heap W (w.heap.size + 1 + 1 + 1) _ (i16s (xs.map (clampI lo hi))) _ _ H3.out
    refine ⟨by simp, .inl ⟨_, _, rfl, run_takeDeferred hK2, ?_⟩⟩
    refine ⟨.agg (i16s (xs.map (clampI lo hi))), results_cell_row rfl _ _ (w.heap.size + 1 + 1 + 1) 27 _ (0, 0) _ rfl ((World.putObj_heap_other (by omega)).trans hR) Tryd.underlying27 rfl (by rw [i16s_size, Hy.out]; exact info_arr), rfl, ?_⟩
    exact (below_setRow hb (by omega) _).trans (belowK_b (w := w) (Nat.le_refl _) _ D _ _ (by omega) hK2 rfl rfl)
  case stop =>
    rintro D c pre W _ _ h _
    exact h.elim

end Go.Proofs.YtpcmcopfdghdgaaDoor

namespace Go.Proofs.YtpcmcopfdghdgaaDoor
open Go.RowKit Go.Shelf

def mkD (D : Nat) : Deferred := { target := .collected D, args := #[] }

/-- The marks that the ranges of a loop have left. -/
def MarksAt (w : World) (lo : Nat) (Ds : List Nat) : Prop := Ds.Nodup ∧ ∀ D ∈ Ds, lo ≤ D ∧ w.heap[D]? = some (.deferred (some []))

theorem marks_nil (w : World) (lo : Nat) : MarksAt w lo [] := ⟨List.nodup_nil, fun D h => by cases h⟩

theorem marks_to {w w' : World} {lo : Nat} {Ds : List Nat} (h : MarksAt w lo Ds) (hk : ∀ D ∈ Ds, w.heap[D]? = some (.deferred (some [])) → w'.heap[D]? = some (.deferred (some []))) : MarksAt w' lo Ds :=
  ⟨h.1, fun D hD => ⟨(h.2 D hD).1, hk D hD (h.2 D hD).2⟩⟩

theorem marks_cons {w w' : World} {lo D : Nat} {Ds : List Nat} (h : MarksAt w lo Ds) (hD : w.heap.size ≤ D) (hl : lo ≤ D) (hr : w'.heap[D]? = some (.deferred (some []))) (hk : ∀ E ∈ Ds, w.heap[E]? = some (.deferred (some [])) → w'.heap[E]? = some (.deferred (some []))) : MarksAt w' lo (D :: Ds) := by
  refine ⟨List.nodup_cons.2 ⟨fun hm => ?_, h.1⟩, fun E hE => ?_⟩
  · have := (Array.getElem?_eq_some_iff.1 (h.2 D hm).2).1
    omega
  · rcases List.mem_cons.1 hE with rfl | hE
    · exact ⟨hl, hr⟩
    · exact ⟨(h.2 E hE).1, hk E hE (h.2 E hE).2⟩

theorem below_putO {lo : Nat} {w0 w : World} (h : Below lo w0 w) {D : Nat} (hl : lo ≤ D) (o : Obj) : Below lo w0 (w.putObj D o) :=
  ⟨h.os, h.tape, h.output, by rw [World.putObj_size]; exact h.size, fun k hk => (World.putObj_heap_other (by omega)).trans (h.block k hk)⟩

/-- All marks are taken over one after the other. -/
theorem leaves_marks {P : Program} {F : Fence} {n : Nat} {fn : Func} {tmps : Array Value} {R : Ending → World → Prop} {lo : Nat} {w0 : World} :
    ∀ (Ds : List Nat) (w : World), MarksAt w lo Ds → Below lo w0 w → (∀ w', Below lo w0 w' → LeavesIn F n P fn tmps R [] .returning w') → LeavesInM F n P fn tmps R (Ds.map mkD) .returning w
  | [], w, _, hb, h => h w hb
  | D :: Ds, w, hm, hb, h => by
    obtain ⟨hnd, hall⟩ := hm
    rw [List.nodup_cons] at hnd
    obtain ⟨h1, h2⟩ := hall D List.mem_cons_self
    refine ⟨by simp, .inl ⟨D, w.putObj D (.deferred none), rfl, run_takeDeferred h2, leaves_marks Ds _ ⟨hnd.2, fun E hE => ?_⟩ (below_putO hb h1 _) h⟩⟩
    obtain ⟨k1, k2⟩ := hall E (List.mem_cons_of_mem _ hE)
    exact ⟨k1, (World.putObj_heap_other (by rintro rfl; exact hnd.1 hE)).trans k2⟩

/-- What lay before stays, but for one cell. -/
def HidI (w0 : World) (lo : Nat) (We : World) (g : Nat) (q : Nat → Bool) (m : Nat) (pre : List Hr) (W : World) : Prop :=
  ∃ z : Nat, z < 4294967296 ∧ W.heap[g]? = some (.cells #[.int .u32 (z : Int)] 50 (0, 0)) ∧ (Good pre → z = m ||| maskN q pre.length) ∧ (∀ (b : Nat) (o : Obj), We.heap[b]? = some o → b ≠ g → W.heap[b]? = some o) ∧ We.heap.size ≤ W.heap.size ∧ Below lo w0 W

theorem hidI_own (w0 : World) (lo : Nat) (We : World) (g : Nat) (q : Nat → Bool) (m : Nat) (hlo : lo ≤ w0.heap.size) (hg : g < We.heap.size) (hle : lo ≤ We.heap.size) : OwnFrom We.heap.size (HidI w0 lo We g q m) := by
  intro pre W W' row ⟨z, hz, hc, hgd, hk, hs, hb⟩ hgr hr
  have hne : ∀ b, b < We.heap.size → some b ≠ row := fun b hb' e => by have := (hr b e.symm).1; omega
  have gl := (Array.getElem?_eq_some_iff.1 hc).1
  refine ⟨z, hz, (hgr.block g gl (hne g hg)).trans hc, hgd, fun b o ho hbg => ?_, Nat.le_trans hs hgr.size, ownFrom_below (β := Unit) hlo hle () W W' row hb hgr hr⟩
  have h1 := (Array.getElem?_eq_some_iff.1 ho).1
  have h2 := hk b o ho hbg
  exact (hgr.block b (Array.getElem?_eq_some_iff.1 h2).1 (hne b h1)).trans h2

theorem keeps_below {W W1 : World} (hb : Below W.heap.size W W1) : KeepsOthers W W1 :=
  ⟨hb.size, fun b _ ho _ => (hb.block b (Array.getElem?_eq_some_iff.1 ho).1).trans ho⟩

/-- A round in which nothing is hit. -/
theorem hid_miss {w0 : World} {lo : Nat} {We W W1 : World} {g : Nat} {q : Nat → Bool} {m : Nat} {pre : List Hr} {k : Nat} {h01 : 0 ≤ (k : Int) ∧ (k : Int) < 24} (hl : pre.length < 24) (hI : HidI w0 lo We g q m pre W) (hW : Below W.heap.size W W1) (hq : q k = false) (hlo : lo ≤ w0.heap.size) :
    KeepsOthers W W1 ∧ Below lo W W1 ∧ HidI w0 lo We g q m (pre ++ [⟨k, h01⟩]) W1 := by
  obtain ⟨z, hz, hc, hgd, hk, hs, hb⟩ := hI
  refine ⟨keeps_below hW, hW.mono (by have := hb.size; omega), z, hz, below_row hW hc, fun hgs => ?_, fun b o ho hbg => ?_, by have := hW.size; omega, hb.trans (hW.mono (by have := hb.size; omega))⟩
  · obtain ⟨hgp, hxk⟩ := good_snoc hgs hl
    have hkl : k = pre.length := by have : (k : Int) = (pre.length : Int) := hxk; omega
    rw [List.length_append, List.length_singleton, hgd hgp]
    exact mask_step_miss m (hkl ▸ hq)
  · have h2 := hk b o ho hbg
    exact (hW.block b (Array.getElem?_eq_some_iff.1 h2).1).trans h2

theorem or_lt32 {z k : Nat} (hz : z < 4294967296) (hk : k < 24) : z ||| 2 ^ k < 4294967296 := by
  have h1 : 2 ^ k < 2 ^ 32 := Nat.pow_lt_pow_right (by decide) (by omega)
  exact Nat.or_lt_two_pow (n := 32) hz h1

/-- A round in which the hour is hit. -/
theorem hid_hit {w0 : World} {lo : Nat} {We W W1 : World} {g : Nat} {q : Nat → Bool} {m : Nat} {pre : List Hr} {k z : Nat} {h01 : 0 ≤ (k : Int) ∧ (k : Int) < 24} (hl : pre.length < 24) (hz : z < 4294967296) (hc : W.heap[g]? = some (.cells #[.int .u32 (z : Int)] 50 (0, 0))) (hgd : Good pre → z = m ||| maskN q pre.length) (hk : ∀ (b : Nat) (o : Obj), We.heap[b]? = some o → b ≠ g → W.heap[b]? = some o) (hs : We.heap.size ≤ W.heap.size) (hb : Below lo w0 W) (hW : Below W.heap.size W W1) (hq : q k = true) (hlg : lo ≤ g) (hlo : lo ≤ w0.heap.size) :
    KeepsOthers W (W1.setCell ⟨g, 0, none⟩ (.int .u32 ((z ||| 2 ^ k : Nat) : Int))) ∧ Below lo W (W1.setCell ⟨g, 0, none⟩ (.int .u32 ((z ||| 2 ^ k : Nat) : Int))) ∧ HidI w0 lo We g q m (pre ++ [⟨k, h01⟩]) (W1.setCell ⟨g, 0, none⟩ (.int .u32 ((z ||| 2 ^ k : Nat) : Int))) := by
  have hk24 : k < 24 := by omega
  have hb1 : Below lo W W1 := hW.mono (by have := hb.size; omega)
  refine ⟨(keeps_below hW).trans (KeepsOthers.setCell _ _ _), hb1.setCell (p := ⟨g, 0, none⟩) hlg _, z ||| 2 ^ k, or_lt32 hz hk24, ?_, fun hgs => ?_, fun b o ho hbg => ?_, by have := hW.size; simp; omega, (hb.trans hb1).setCell (p := ⟨g, 0, none⟩) hlg _⟩
  · rw [heap_setCell_same _ _ _ _ _ _ (below_row hW hc)]; rfl
  · obtain ⟨hgp, hxk⟩ := good_snoc hgs hl
    have hkl : k = pre.length := by have : (k : Int) = (pre.length : Int) := hxk; omega
    rw [List.length_append, List.length_singleton, hgd hgp, hkl]
    exact mask_step_hit m (hkl ▸ hq)
  · have h2 := hk b o ho hbg
    exact (heap_setCell_other _ _ _ _ hbg).trans ((hW.block b (Array.getElem?_eq_some_iff.1 h2).1).trans h2)

theorem or_u32 {z k : Nat} (hz : z < 4294967296) (hk : k < 24) : bits .or .u32 (z : Int) ((2 : Int) ^ k) = ((z ||| 2 ^ k : Nat) : Int) ∧ (2 : Int) ^ k % 4294967296 = (2 : Int) ^ k := by
  have h2 := two32 k (by omega)
  have ec : (2 : Int) ^ k = ((2 ^ k : Nat) : Int) := by rw [Int.natCast_pow]; rfl
  refine ⟨by rw [ec]; exact u32_or_nat _ _ hz h2, ?_⟩
  rw [ec]
  have h3 : (0 : Int) ≤ ((2 ^ k : Nat) : Int) := Int.natCast_nonneg _
  have h4 : ((2 ^ k : Nat) : Int) < ((4294967296 : Nat) : Int) := Int.ofNat_lt.2 h2
  exact Int.emod_eq_of_lt h3 h4

end Go.Proofs.YtpcmcopfdghdgaaDoor

namespace Go.Proofs.YtpcmcopfdghdgaaDoor
open Go Go.RowKit Go.ChangeMaps Go.MapKept
open Go.Maps (Keyed)

section
variable {P : Program}

theorem wpList_mapUpdate_new {w : World} {ops : Array Oper} {rest : List Oper} {o : Oper} {a : Act} {Q : Exit → Act → World → Prop}
    (hg : o.guard = none) (m x v : Operand) (t : TypeId) (hop : o.op = Op.mapUpdate t m x v)
    (k e : TypeId) (K : Keyed P k) (ht : P.underlying t = some (.map k e)) (b : Nat) (es : Array MapEntry) (clock : Nat) (hb : w.heap[b]? = some (.map es clock))
    (hm : a.eval m = .map (some b)) (key val : Value) (hx : a.eval x = key) (hv : a.eval v = val) (hkey : ∃ l, keyOf P k key = some l)
    (hes : ∀ y ∈ es.toList, ∃ l, keyOf P k y.key = some l) (hne : ∀ y ∈ es.toList, y.key ≠ key)
    (h : wpList P ops Q rest (a.put o.dst undef) (setBlock w b (.map (es.push { key, val, born := clock }) (clock + 1)))) : wpList P ops Q (o :: rest) a w := by
  obtain ⟨kl, hkey⟩ := hkey
  refine wpList_plain hg fun K' hK' => ?_
  have h1 : (Instr.findKey k key es.toList).run P w = .ok none w := by
    rcases K.find w hkey es.toList hes with ⟨h1, _⟩ | ⟨j, e0, _, h2, h3⟩
    · exact h1
    · exact absurd h3 (hne _ (List.mem_of_getElem? h2))
  have hrun : (Instr.mapUpdate t (.map (some b)) key val).run P w = .ok () (setBlock w b (.map (es.push { key, val, born := clock }) (clock + 1))) := by
    simp [Instr.mapUpdate, run_underlying ht, MapKept.run_getObj_map hb, K.check w false hkey, h1, MapKept.run_setObj_map _ hb, Result.andThen, setBlock]
  unfold Oper.wp
  simp [execOp, hop, hm, hx, hv, hrun, Result.andThen]
  exact hK' _ _ h

theorem run_lookup_cases {w : World} {t k e : TypeId} (K : Keyed P k) (ht : P.underlying t = some (.map k e)) {b : Nat} {es : Array MapEntry} {clock : Nat} (hb : w.heap[b]? = some (.map es clock))
    {key : Value} (hkey : ∃ l, keyOf P k key = some l) (hes : ∀ y ∈ es.toList, ∃ l, keyOf P k y.key = some l) {z : Value} (hz : (zeroValue e).run P w = .ok z w) (c : Bool) :
    (∃ e0 ∈ es.toList, e0.key = key ∧ (Instr.lookup t (.map (some b)) key c).run P w = .ok (if c then .tuple #[e0.val, .bool true] else e0.val) w) ∨
    ((∀ y ∈ es.toList, y.key ≠ key) ∧ (Instr.lookup t (.map (some b)) key c).run P w = .ok (if c then .tuple #[z, .bool false] else z) w) := by
  obtain ⟨kl, hkey⟩ := hkey
  rcases K.find w hkey es.toList hes with ⟨h1, h2⟩ | ⟨j, e1, h1, h2, h3⟩
  · exact .inr ⟨h2, by simp [Instr.lookup, run_underlying ht, MapKept.run_getObj_map hb, K.check w _ hkey, h1, hz, Result.andThen]⟩
  · exact .inl ⟨e1, List.mem_of_getElem? h2, h3, by simp [Instr.lookup, run_underlying ht, MapKept.run_getObj_map hb, K.check w _ hkey, h1, Result.andThen]⟩

theorem wpList_lookup_run {w : World} {ops : Array Oper} {rest : List Oper} {o : Oper} {a : Act} {Q : Exit → Act → World → Prop}
    (hg : o.guard = none) (m x : Operand) (t : TypeId) (c : Bool) (hop : o.op = Op.lookup t m x c) (mv key val : Value) (hm : a.eval m = mv) (hx : a.eval x = key)
    (hrun : (Instr.lookup t mv key c).run P w = .ok val w) (h : wpList P ops Q rest (a.put o.dst val) w) : wpList P ops Q (o :: rest) a w := by
  refine wpList_plain hg fun K' hK' => ?_
  unfold Oper.wp
  simp [execOp, hop, hm, hx, hrun, Result.andThen]
  exact hK' _ _ h

theorem below_setBlock {B : Nat} {a w : World} (h : Below B a w) {b : Nat} {es : Array MapEntry} {clock : Nat} {o' : Obj} (hp : B ≤ b) (hb : w.heap[b]? = some (.map es clock)) : Below B a (setBlock w b o') :=
  ⟨h.os, h.tape, h.output, by simpa [setBlock] using h.size, fun k hk => (heap_setBlock_other hb _ (by omega)).trans (h.block k hk)⟩
end

end Go.Proofs.YtpcmcopfdghdgaaDoor

namespace Go.Proofs.YtpcmcopfdghdgaaDoor
open Go

theorem cut_sign (s : Bool) (n d : Nat) : Ieee.Toward.even.cut s n d = Ieee.Toward.even.cut false n d := by
  unfold Ieee.Toward.cut
  rfl

theorem nearest_sign (s : Bool) (m : Nat) (e : Int) : Ieee.single.nearest s m e = if s then 2147483648 + Ieee.single.nearest false m e else Ieee.single.nearest false m e := by
  have hw : Ieee.single.signWeight = 2147483648 := by decide
  have hword : ∀ r, Ieee.single.word s r = if s then 2147483648 + Ieee.single.word false r else Ieee.single.word false r := by
    intro r
    unfold Ieee.Format.word
    rw [hw]
    cases s <;> rfl
  unfold Ieee.Format.nearest
  by_cases hm : m = 0
  · rw [if_pos hm, if_pos hm]
    exact hword 0
  · rw [if_neg hm, if_neg hm]
    dsimp only
    rw [cut_sign s]
    exact hword _

theorem signed_not (t : Bool) (n k : Nat) : Ieee.signed (!t) n k = - Ieee.signed t n k := by
  unfold Ieee.signed
  cases t <;> simp

theorem sub_num {x y B C : Nat} (hx : isNum x) (hy : isNum y) (hX : (sv x).natAbs ≤ rv B) (hY : (sv y).natAbs ≤ rv B) (hBC : 2 * rv B ≤ rv C) (hC : C < 2139095040) :
    floatBits .sub .f32 x y = some (fsub x y) ∧ isNum (fsub x y) := by
  obtain ⟨s, m, i, hr, hm⟩ := read_num32 hx
  obtain ⟨t, n, j, hq, hn⟩ := read_num32 hy
  rw [← signed_scale s m i (min i j) (Nat.min_le_left _ _)] at hm
  rw [← signed_scale t n j (min i j) (Nat.min_le_right _ _)] at hn
  have h : Ieee.single.sub x y = some (Ieee.single.nearest (if Ieee.signed s m (i - min i j) - Ieee.signed t n (j - min i j) = 0 then (s && !t) else decide (Ieee.signed s m (i - min i j) - Ieee.signed t n (j - min i j) < 0)) (Ieee.signed s m (i - min i j) - Ieee.signed t n (j - min i j)).natAbs (-149 + ((min i j : Nat) : Int))) := by
    unfold Ieee.Format.sub
    rw [hr, hq]
    have e0 : min (-149 + (i : Int)) (-149 + (j : Int)) = -149 + ((min i j : Nat) : Int) := by omega
    have e1 : (-149 + (i : Int) - (-149 + ((min i j : Nat) : Int))).toNat = i - min i j := by omega
    have e2 : (-149 + (j : Int) - (-149 + ((min i j : Nat) : Int))).toNat = j - min i j := by omega
    simp only [Ieee.Datum.opposite, Ieee.Datum.sum, Option.map_some, Ieee.Format.write, e0, e1, e2, signed_not, ← Int.sub_eq_add_neg]
  refine ⟨by unfold fsub; rw [h]; exact h, ?_⟩
  have e1 : fsub x y = (Ieee.single.sub x y).getD 0 := rfl
  rw [h, Option.getD_some] at e1
  generalize hT : Ieee.signed s m (i - min i j) - Ieee.signed t n (j - min i j) = T at *
  have hsv : T * ((2 ^ min i j : Nat) : Int) = sv x - sv y := by rw [← hT, Int.sub_mul, hm, hn]
  have habs : T.natAbs * 2 ^ min i j ≤ rv C := by
    have h1 : (T * ((2 ^ min i j : Nat) : Int)).natAbs = T.natAbs * 2 ^ min i j := by rw [Int.natAbs_mul, Int.natAbs_natCast]
    rw [← h1, hsv]
    omega
  have hR := nearest_rnd T.natAbs (-149 + ((min i j : Nat) : Int)) (min i j) 0 (by omega)
  have hle := rnd_le hR (r := C) (by decide) (by simpa using habs)
  rw [e1]
  generalize (if T = 0 then (s && !t) else decide (T < 0)) = sg
  rw [nearest_sign]
  cases sg
  · rw [if_neg (by simp)]; exact .inl (by omega)
  · rw [if_pos rfl]; exact .inr ⟨by omega, by omega⟩

theorem size_isNum {x : Nat} (h : isNum x) : isNum (sizeB x) := by
  unfold sizeB
  split
  · rcases h with h | ⟨h1, h2⟩
    · exact .inl (by omega)
    · exact .inl (by omega)
  · exact h

/-- Whether a number is less than another one. -/
def ltF (a b : Nat) : Bool := FloatKind.f32.format.order a b == some .lt
/-- The first of several numbers that is least. -/
def firstMin (d : Nat → Nat) : Nat → Nat
  | 0 => 0
  | k + 1 => if ltF (d (k + 1)) (d (firstMin d k)) then k + 1 else firstMin d k
theorem firstMin_le (d : Nat → Nat) : ∀ k, firstMin d k ≤ k
  | 0 => Nat.le_refl _
  | k + 1 => by
    have := firstMin_le d k
    unfold firstMin
    split <;> omega
theorem firstMin_hit {d : Nat → Nat} {k : Nat} (h : ltF (d (k + 1)) (d (firstMin d k)) = true) : firstMin d (k + 1) = k + 1 := by rw [firstMin, if_pos h]
theorem firstMin_miss {d : Nat → Nat} {k : Nat} (h : ltF (d (k + 1)) (d (firstMin d k)) = false) : firstMin d (k + 1) = firstMin d k := by rw [firstMin, if_neg (by rw [h]; decide)]
/-- The order of two finite numbers. -/
theorem order_cases {x y : Nat} (hx : isNum x) (hy : isNum y) : (FloatKind.f32.format.order x y = some .lt ∧ ltF x y = true) ∨ (FloatKind.f32.format.order x y = some .eq ∧ ltF x y = false) ∨ (FloatKind.f32.format.order x y = some .gt ∧ ltF x y = false) := by
  unfold ltF
  rw [order_num hx hy]
  cases compare (sv x) (sv y) <;> simp
theorem order_self {x : Nat} (hx : isNum x) : FloatKind.f32.format.order x x = some .eq := by
  rw [order_num hx hx, Int.compare_eq_eq.2 rfl]

/-- The same, with the first one looked at twice. -/
def bestK (d : Nat → Nat) (k : Nat) : Nat := if k = 0 then 0 else firstMin d (k - 1)
theorem bestK_hit {d : Nat → Nat} {k : Nat} (h : ltF (d k) (d (bestK d k)) = true) : bestK d (k + 1) = k := by
  cases k with
  | zero => rfl
  | succ k => exact firstMin_hit h
theorem bestK_miss {d : Nat → Nat} {k : Nat} (h : ltF (d k) (d (bestK d k)) = false) : bestK d (k + 1) = bestK d k := by
  cases k with
  | zero => rfl
  | succ k => exact firstMin_miss h
theorem bestK_lt (d : Nat → Nat) {k n : Nat} (h : k ≤ n) (hn : 0 < n) : bestK d k < n := by
  unfold bestK
  split
  · exact hn
  · have := firstMin_le d (k - 1)
    omega
theorem bestK_end (d : Nat → Nat) {n : Nat} (hn : 0 < n) : bestK d n = firstMin d (n - 1) := by
  unfold bestK
  rw [if_neg (by omega)]

end Go.Proofs.YtpcmcopfdghdgaaDoor

namespace Go.Proofs.YtpcmcopfdghdgaaDoor
open Go Go.RowKit Go.ChangeMaps Go.MapKept
open Go.Maps (Keyed)

/-- The entries of a map from the first n keys to numbers. -/
def ents (n : Nat) (kc : Nat → Array Value) (val : Nat → Nat) : Array MapEntry := ((List.range n).map fun i => ({ key := .agg (kc i), val := .float .f32 (val i), born := i } : MapEntry)).toArray
theorem ents_zero (kc : Nat → Array Value) (val : Nat → Nat) : ents 0 kc val = #[] := rfl
theorem ents_push (n : Nat) (kc : Nat → Array Value) (val : Nat → Nat) : (ents n kc val).push { key := .agg (kc n), val := .float .f32 (val n), born := n } = ents (n + 1) kc val := by
  simp [ents, List.range_succ]
theorem mem_ents {n : Nat} {kc : Nat → Array Value} {val : Nat → Nat} {y : MapEntry} (h : y ∈ (ents n kc val).toList) : ∃ i, i < n ∧ y.key = .agg (kc i) ∧ y.val = .float .f32 (val i) := by
  simp only [ents, List.mem_map, List.mem_range] at h
  obtain ⟨i, hi, rfl⟩ := h
  exact ⟨i, hi, rfl, rfl⟩

/-- Keys that can be told apart. -/
structure KeysOk (P : Program) (k : TypeId) (N : Nat) (kc : Nat → Array Value) : Prop where
  key : ∀ i, i < N → ∃ l, keyOf P k (.agg (kc i)) = some l
  inj : ∀ i j, i < N → j < N → kc i = kc j → i = j

section
variable {P : Program}
theorem look_ents {w : World} {t k e : TypeId} (K : Keyed P k) (ht : P.underlying t = some (.map k e)) {z : Value} (hz : (zeroValue e).run P w = .ok z w) {N n b : Nat} {kc : Nat → Array Value} {val : Nat → Nat}
    (hb : w.heap[b]? = some (.map (ents n kc val) n)) (hk : KeysOk P k N kc) (hn : n ≤ N) (i : Nat) (hi : i < n) : (Instr.lookup t (.map (some b)) (.agg (kc i)) false).run P w = .ok (.float .f32 (val i)) w := by
  rcases run_lookup_cases K ht hb (hk.key i (by omega)) (fun y hy => by obtain ⟨j, hj, h1, _⟩ := mem_ents hy; rw [h1]; exact hk.key j (by omega)) hz false with ⟨e0, he, h1, h2⟩ | ⟨h1, _⟩
  · obtain ⟨j, hj, h3, h4⟩ := mem_ents he
    rw [h3] at h1
    obtain rfl := hk.inj j i (by omega) (by omega) (by simpa using h1)
    rw [h2, h4]; rfl
  · refine absurd rfl (h1 ({ key := .agg (kc i), val := .float .f32 (val i), born := i } : MapEntry) ?_)
    simp only [ents, List.mem_map, List.mem_range]
    exact ⟨i, hi, rfl⟩

theorem new_ents {w : World} {t k e : TypeId} (K : Keyed P k) (ht : P.underlying t = some (.map k e)) {N n b : Nat} {kc : Nat → Array Value} {val : Nat → Nat}
    (hb : w.heap[b]? = some (.map (ents n kc val) n)) (hk : KeysOk P k N kc) (hn : n < N) :
    (Instr.mapUpdate t (.map (some b)) (.agg (kc n)) (.float .f32 (val n))).run P w = .ok () (setBlock w b (.map (ents (n + 1) kc val) (n + 1))) := by
  obtain ⟨kl, hkey⟩ := hk.key n hn
  have hes : ∀ y ∈ (ents n kc val).toList, ∃ l, keyOf P k y.key = some l := fun y hy => by obtain ⟨j, hj, h1, _⟩ := mem_ents hy; rw [h1]; exact hk.key j (by omega)
  have h1 : (Instr.findKey k (.agg (kc n)) (ents n kc val).toList).run P w = .ok none w := by
    rcases K.find w hkey (ents n kc val).toList hes with ⟨h1, _⟩ | ⟨j, e0, _, h2, h3⟩
    · exact h1
    · obtain ⟨j', hj', h4, _⟩ := mem_ents (List.mem_of_getElem? h2)
      rw [h4] at h3
      have := hk.inj j' n (by omega) hn (by simpa using h3)
      omega
  rw [← ents_push]
  simp [Instr.mapUpdate, run_underlying ht, MapKept.run_getObj_map hb, K.check w false hkey, h1, MapKept.run_setObj_map _ hb, Result.andThen, setBlock]
end

section
variable {P : Program}
/-- What a key of three whole numbers reads as. -/
theorem keyOf_three {k : TypeId} {f0 f1 f2 : Field} {q0 q1 q2 : IntKind} {a b c : Int} (hu : P.underlying k = some (.struct #[f0, f1, f2])) (ht : P.keyType k = true) (hf : Value.formed P k (.agg #[.int q0 a, .int q1 b, .int q2 c]) = true)
    (hc : P.cellsOf k = 3) (o0 : f0.offset = 0) (o1 : f1.offset = 1) (o2 : f2.offset = 2) (u0 : P.underlying f0.type = some (.int q0)) (u1 : P.underlying f1.type = some (.int q1)) (u2 : P.underlying f2.type = some (.int q2))
    (c0 : P.cellsOf f0.type = 1) (c1 : P.cellsOf f1.type = 1) (c2 : P.cellsOf f2.type = 1) (n0 : f0.name ≠ "_") (n1 : f1.name ≠ "_") (n2 : f2.name ≠ "_")
    (w0 : (Lit.int q0 a).wf = true) (w1 : (Lit.int q1 b).wf = true) (w2 : (Lit.int q2 c).wf = true) (hs : 0 < P.types.size) : ∃ l, keyOf P k (.agg #[.int q0 a, .int q1 b, .int q2 c]) = some l := by
  obtain ⟨d, hd⟩ : ∃ d, P.types.size = d + 1 := ⟨P.types.size - 1, by omega⟩
  unfold keyOf
  rw [hu]
  simp [ht, hf, Value.cells, Program.keyLits, hd, hu, u0, u1, u2, hc, o0, o1, o2, c0, c1, c2, n0, n1, n2, w0, w1, w2]

/-- What a key of five whole numbers reads as. -/
theorem keyOf_five {k : TypeId} {f0 f1 f2 f3 f4 : Field} {q0 q1 q2 q3 q4 : IntKind} {a b c d e : Int} (hu : P.underlying k = some (.struct #[f0, f1, f2, f3, f4])) (ht : P.keyType k = true) (hf : Value.formed P k (.agg #[.int q0 a, .int q1 b, .int q2 c, .int q3 d, .int q4 e]) = true)
    (hc : P.cellsOf k = 5) (o0 : f0.offset = 0) (o1 : f1.offset = 1) (o2 : f2.offset = 2) (o3 : f3.offset = 3) (o4 : f4.offset = 4) (u0 : P.underlying f0.type = some (.int q0)) (u1 : P.underlying f1.type = some (.int q1)) (u2 : P.underlying f2.type = some (.int q2)) (u3 : P.underlying f3.type = some (.int q3)) (u4 : P.underlying f4.type = some (.int q4))
    (c0 : P.cellsOf f0.type = 1) (c1 : P.cellsOf f1.type = 1) (c2 : P.cellsOf f2.type = 1) (c3 : P.cellsOf f3.type = 1) (c4 : P.cellsOf f4.type = 1) (n0 : f0.name ≠ "_") (n1 : f1.name ≠ "_") (n2 : f2.name ≠ "_") (n3 : f3.name ≠ "_") (n4 : f4.name ≠ "_")
    (w0 : (Lit.int q0 a).wf = true) (w1 : (Lit.int q1 b).wf = true) (w2 : (Lit.int q2 c).wf = true) (w3 : (Lit.int q3 d).wf = true) (w4 : (Lit.int q4 e).wf = true) (hs : 0 < P.types.size) : ∃ l, keyOf P k (.agg #[.int q0 a, .int q1 b, .int q2 c, .int q3 d, .int q4 e]) = some l := by
  obtain ⟨z, hd⟩ : ∃ z, P.types.size = z + 1 := ⟨P.types.size - 1, by omega⟩
  unfold keyOf
  rw [hu]
  simp [ht, hf, Value.cells, Program.keyLits, hd, hu, u0, u1, u2, u3, u4, hc, o0, o1, o2, o3, o4, c0, c1, c2, c3, c4, n0, n1, n2, n3, n4, w0, w1, w2, w3, w4]
end

/-- A list of keys, each of s cells, that lie behind each other. -/
def KeysAt (E : TypeId) (s : Nat) (w : World) (v : Value) (n : Nat) (kc : Nat → Array Value) : Prop :=
  ∃ g cap cur, v = .slice (some ⟨g, 0, none⟩) n cap ∧ n ≤ cap ∧ cap ≤ maxLen ∧ w.heap[g]? = some (.cells cur E (0, 0)) ∧ n * s ≤ cur.size ∧ ∀ i, i < n → cur.extract (i * s) (i * s + s) = kc i
theorem keysAt_below {E : TypeId} {s n : Nat} {w w' : World} {v : Value} {kc : Nat → Array Value} (h : KeysAt E s w v n kc) (hb : Below w.heap.size w w') : KeysAt E s w' v n kc := by
  obtain ⟨g, cap, cur, h1, h2, h3, h4, h5, h6⟩ := h
  exact ⟨g, cap, cur, h1, h2, h3, below_row hb h4, h5, h6⟩

/-- The cells of the first n keys. -/
def flat (n : Nat) (kc : Nat → Array Value) : List Value := (List.range n).flatMap fun i => (kc i).toList
theorem flat_succ (n : Nat) (kc : Nat → Array Value) : flat (n + 1) kc = flat n kc ++ (kc n).toList := by simp [flat, List.range_succ]
theorem flat_len {s : Nat} {kc : Nat → Array Value} (hs : ∀ i, (kc i).size = s) : ∀ n, (flat n kc).length = n * s
  | 0 => by simp [flat]
  | n + 1 => by rw [flat_succ, List.length_append, flat_len hs n, Array.length_toList, hs, Nat.succ_mul]
theorem flat_get {s : Nat} {kc : Nat → Array Value} (hs : ∀ i, (kc i).size = s) : ∀ n i, i < n → ((flat n kc).drop (i * s)).take s = (kc i).toList
  | 0, i, h => by omega
  | n + 1, i, h => by
    rw [flat_succ]
    by_cases c : i < n
    · have hl := flat_len hs n
      have hm : i * s + s ≤ n * s := by rw [← Nat.succ_mul]; exact Nat.mul_le_mul_right _ c
      rw [List.drop_append_of_le_length (by omega), List.take_append_of_le_length (by simp; omega)]
      exact flat_get hs n i c
    · have e : i = n := by omega
      subst e
      have hl := flat_len hs i
      rw [← hl, List.drop_left, List.take_of_length_le (by simp [hs])]

theorem row_ne {W : World} {g : Nat} {o : Obj} {e : TypeId} (h : W.heap[g]? = some o) (hne : ∀ cs fr, o ≠ .cells cs e fr) {base size k : Nat} {v : Value} {xs : List Value} (hr : W.ownsRow base e size v k xs) : some g ≠ v.ownBlock := by
  rcases hr.2 with ⟨rfl, _⟩ | ⟨g', cap, cur, rfl, _, hgb, _⟩
  · simp [Value.ownBlock]
  · intro e'
    obtain rfl : g = g' := by simpa [Value.ownBlock] using e'
    rw [h] at hgb
    exact hne _ _ (Option.some.inj hgb)
theorem cells_new (w : World) (cs : Array Value) (t : TypeId) : ∀ j u, cs.toList[j]? = some u → (w.alloc (.cells cs t)).cell? ((⟨w.heap.size, 0, none⟩ : Addr).add j) = some u := by
  intro j u hj
  rw [addr_add, cell_of_row _ _ _ _ _ _ (heap_alloc_new _ _), Nat.zero_add]
  simpa using hj

theorem keysAt_of_row {E : TypeId} {s n base : Nat} {w : World} {v : Value} {kc : Nat → Array Value} (hs : ∀ i, (kc i).size = s) (hn : 0 < n) (h : w.ownsRow base E s v n (flat n kc)) : KeysAt E s w v n kc := by
  rcases h.2 with ⟨rfl, hz⟩ | ⟨g, cap, cur, rfl, hbg, hg, hnc, hcm, hsz, htk⟩
  · omega
  · refine ⟨g, cap, cur, rfl, hnc, hcm, hg, ?_, fun i hi => ?_⟩
    · have hl := flat_len hs n
      have : (cur.toList.take (n * s)).length = n * s := by rw [htk, hl]
      simp at this
      omega
    · have hm : i * s + s ≤ n * s := by rw [← Nat.succ_mul]; exact Nat.mul_le_mul_right _ hi
      apply Array.ext'
      rw [Array.toList_extract, ← flat_get hs n i hi, ← htk, List.extract_eq_take_drop, Nat.add_sub_cancel_left, List.drop_take, List.take_take, Nat.min_eq_left (by omega)]

end Go.Proofs.YtpcmcopfdghdgaaDoor

namespace Go.Proofs.YtpcmcopfdghdgaaDoor
open Go.ChangeShapes Go.WideShapes Go.ChangeAt Go.RowKit

set_option maxRecDepth 100000 in
theorem law_own : ownKnob Tryd.prog.godebug = none := by kernel_rfl
set_option maxRecDepth 100000 in
theorem law_laidOut : laidOutB Tryd.prog = true := by kernel_rfl

theorem trodAll_below {H : Type} {enc : TypeId × Value → H} {P : Program} (hl : laidOutB P = true) {W W' : World} (hb : Below W.heap.size W W') :
    ∀ (ts : List TypeId) (vs : List Value) (ds : List (DataW H)) (ps : List MemPlace), (∀ t ∈ ts, P.readableRec t = true ∧ t < P.types.size) →
      DataW.TrodAll enc P W 0 (fun _ => true) true ts vs ds ps → (∀ x ∈ ps, x.block < W.heap.size) → DataW.TrodAll enc P W' 0 (fun b => decide (b < W.heap.size)) true ts vs ds ps
  | [], vs, ds, ps, _, h, _ => by
    obtain ⟨rfl, rfl, rfl⟩ := trodAll_nil h
    exact trodAll_mk0
  | t :: ts, vs, ds, ps, hr, h, hlt => by
    obtain ⟨v, vs', d, ds', p, q, rfl, rfl, rfl, h0, r0⟩ := trodAll_cons h
    have ht := hr t (by simp)
    exact trodAll_cons_mk (Below.trod hl ht.1 ht.2 h0 hb (fun x hx => hlt x (by simp [hx]))) (trodAll_below hl hb ts vs' ds' q (fun t ht => hr t (by simp [ht])) r0 (fun x hx => hlt x (by simp [hx])))

set_option maxRecDepth 100000 in
theorem law_lifted (F : FuncId) (fn : Func) (s : ChangeSpec) (conds : List PathCond) (os : Os) (started : os.Started) (H : Type) (enc : TypeId × Value → H)
    (hno : Tryd.checked.prog.inits.idxOf? F = none) (hfn : Tryd.checked.prog.funcs[F]? = some fn) (hv : s.vars = []) (hr : fn.resultTypes = #[4])
    (hts : ∀ t ∈ fn.params.toList, Tryd.prog.readableRec t = true ∧ t < Tryd.prog.types.size)
    (hspec : ∀ ds : List (DataW H), ds.length = fn.params.size → s.fn H (ds ++ []) = { results := [.lit (.bool true)], args := ds })
    (wit : ∃ (w : World) (tape : Tape) (i : Input), w.os = os ∧ (w.forCall tape i).Shaped Tryd.checked.prog ∧ i.vars = [] ∧ Input.okWide Tryd.checked.prog (w.forCall tape i) .any w.heap.size F i ∧
      s.pre6 enc Tryd.checked.prog fn conds false (w.forCall tape i).memory i.args ∧ ({} : Assume).holds Tryd.checked.prog (lone (Frame.enter Tryd.checked.prog F i.args .normal) [] (w.forCall tape i)))
    (walk : ∀ (W : World) (base : Nat) (args : Array Value) (ds : List (DataW H)) (p : List MemPlace),
      (∀ (j : Nat) t v, fn.params[j]? = some t → args[j]? = some v → Value.okWide Tryd.prog W .any base t v) →
      DataW.TrodAll enc Tryd.prog W 0 (fun _ => true) true fn.params.toList args.toList ds p →
      Calls Tryd.prog F args W fun e W' => e = .returned (.bool true) ∧ Below W.heap.size W W') :
    ReturnsInHanded {} Tryd.checked os F .any (s.pre6 enc Tryd.prog fn conds false) (s.post enc Tryd.prog fn false true false false) := by
  refine returnsInHanded_of_change (C := Tryd.checked) law_own started hno hfn wit ?_
  intro W base args ds gs before hval0 hW hcnd _
  have hW' := hW
  obtain ⟨p, q, hA0, hV, rfl, hfz, hnd⟩ := hW
  rw [hv] at hV
  obtain ⟨rfl, rfl⟩ := trodVars_none hV
  have hlen : ds.length = fn.params.size := by
    have key : ∀ (ts : List TypeId) (vs : List Value) (ds : List (DataW H)) (ps : List MemPlace), DataW.TrodAll enc Tryd.checked.prog W 0 (fun _ => true) true ts vs ds ps → ds.length = ts.length := by
      intro ts
      induction ts with
      | nil => intro vs ds ps h; obtain ⟨_, rfl, _⟩ := trodAll_nil h; rfl
      | cons t ts ih => intro vs ds ps h; obtain ⟨v, vs', d, ds', p, q, _, rfl, _, _, r0⟩ := trodAll_cons h; simp [ih _ _ _ r0]
    simpa using key _ _ _ _ hA0
  refine (walk W base args ds p hval0 hA0).mono fun e W' ⟨he, hg⟩ => ?_
  subst he
  have hlt : ∀ x ∈ p, x.block < W.heap.size := fun x hx => hW'.lt x (by simp [hx])
  refine ⟨_, rfl, _, _, _, [], p, [], hW', ?_, ?_, ?_, hg.frame _, fun h => by cases h⟩
  · rw [hspec ds hlen, hr]
    exact trodAll_mk1 (shut_bool Tryd.underlying4 _)
  · rw [hspec ds hlen]
    exact trodAll_below law_laidOut hg _ _ _ _ hts hA0 hlt
  · rw [hspec ds hlen, hv]
    rfl

end Go.Proofs.YtpcmcopfdghdgaaDoor

namespace Go.Proofs.YtpcmcopfdghdgaaDoor
open Go.ChangeShapes Go.WideShapes Go.ChangeAt Go.RowKit Go.Deep Go.Joins

attribute [local go_sem] run_store_f

/-- A tree: where it stands, how wide it is, how high. -/
abbrev Tr := Int × Int × Int
def treeC (x : Tr) : Array Value := #[.int .i16 x.1, .int .i16 x.2.1, .int .i16 x.2.2]
def I16 (z : Int) : Prop := -32768 ≤ z ∧ z ≤ 32767
def TrWf (x : Tr) : Prop := I16 x.1 ∧ I16 x.2.1 ∧ I16 x.2.2
def TreesAt (W : World) (v : Value) (ws : List Tr) : Prop :=
  ∃ a cap, v = .slice a ws.length cap ∧ ws.length ≤ cap ∧ cap ≤ maxLen ∧ ∀ i x, ws[i]? = some x → ∃ g o, a = some ⟨g, o, none⟩ ∧
    W.cell? ⟨g, o + i * 3, none⟩ = some (.int .i16 x.1) ∧ W.cell? ⟨g, o + i * 3 + 1, none⟩ = some (.int .i16 x.2.1) ∧ W.cell? ⟨g, o + i * 3 + 2, none⟩ = some (.int .i16 x.2.2)
theorem trees_below {W W' : World} {v : Value} {ws : List Tr} (h : TreesAt W v ws) (hb : Below W.heap.size W W') : TreesAt W' v ws := by
  obtain ⟨a, cap, h1, h2, h3, h4⟩ := h
  refine ⟨a, cap, h1, h2, h3, fun i x hx => ?_⟩
  obtain ⟨g, o, e, c0, c1, c2⟩ := h4 i x hx
  exact ⟨g, o, e, cell_below hb c0, cell_below hb c1, cell_below hb c2⟩
theorem wf_i16 {z : Int} (h : (Lit.int .i16 z).wf = true) : -32768 ≤ z ∧ z ≤ 32767 := by
  simp [Lit.wf, IntKind.min, IntKind.max, IntKind.signed, IntKind.bits] at h
  omega
set_option maxRecDepth 100000 in
theorem under_treeL : ∃ f0 f1 f2 : Field, Tryd.prog.underlying 87 = some (.struct #[f0, f1, f2]) ∧ f0.type = 26 ∧ f1.type = 26 ∧ f2.type = 26 ∧ oneCellFields Tryd.prog #[f0, f1, f2] = true :=
  ⟨_, _, _, Tryd.underlying87, rfl, rfl, rfl, by kernel_rfl⟩
theorem cells_treeL : Tryd.prog.cellsOf 87 = 3 := by kernel_rfl
set_option maxRecDepth 100000 in
theorem open_trees {H : Type} {enc : TypeId × Value → H} {W : World} {base : Nat} {spare : Nat → Bool} {held : Bool} {fuel : Nat} {v : Value} {x : DataW H × List MemPlace}
    (h : DataW.trod enc Tryd.prog W base spare held fuel 42 [v] = some x) : ∃ ws, TreesAt W v ws ∧ ∀ x ∈ ws, TrWf x := by
  obtain ⟨f0, f1, f2, hu, e0, e1, e2, hone⟩ := under_treeL
  rcases open_slice Tryd.underlying42 h with ⟨hc, _⟩ | ⟨a, len, cap, m, n, D, Pl, hc, _, hl, hm, hmm, _, hi⟩
  · obtain rfl : v = .slice none 0 0 := by simpa using hc
    exact ⟨[], ⟨none, 0, rfl, Nat.le_refl _, by unfold maxLen; omega, fun i x hx => by simp at hx⟩, fun x hx => by cases hx⟩
  · obtain rfl : v = .slice (some a) len cap := by simpa using hc
    have hspot : 0 < len → a.spot = none := by
      intro h0
      obtain ⟨cs', hcs, _⟩ := hi 0 (by rw [hmm]; split <;> omega)
      rw [cells_treeL] at hcs
      obtain ⟨_, hcl, hat⟩ := World.cells?_some hcs
      have g0 := hat 0 (by omega)
      rw [List.getElem?_eq_getElem (by omega)] at g0
      have := World.cell?_spot g0
      simpa [Addr.add] using this
    have key : ∀ i, i < len → ∃ x : Tr, TrWf x ∧ ∃ g o, some a = some ⟨g, o, none⟩ ∧
        W.cell? ⟨g, o + i * 3, none⟩ = some (.int .i16 x.1) ∧ W.cell? ⟨g, o + i * 3 + 1, none⟩ = some (.int .i16 x.2.1) ∧ W.cell? ⟨g, o + i * 3 + 2, none⟩ = some (.int .i16 x.2.2) := by
      intro i hlt
      have him : i < m := by rw [hmm]; split <;> omega
      obtain ⟨cs', hcs, ht⟩ := hi i him
      rw [cells_treeL] at hcs
      obtain ⟨_, hcl, hat⟩ := World.cells?_some hcs
      obtain ⟨y0, y1, y2, n', _, _, h0, h1, h2⟩ := trod_struct3 hu ht
      obtain ⟨o0, k0⟩ := hone_of hone 0 f0 rfl
      obtain ⟨o1, k1⟩ := hone_of hone 1 f1 rfl
      obtain ⟨o2, k2⟩ := hone_of hone 2 f2 rfl
      match cs', hcl with
      | [c0, c1, c2], _ =>
        rw [o0, k0, e0] at h0
        rw [o1, k1, e1] at h1
        rw [o2, k2, e2] at h2
        obtain ⟨z0, q0, _, w0⟩ := DataW.trod_int Tryd.underlying26 h0
        obtain ⟨z1, q1, _, w1⟩ := DataW.trod_int Tryd.underlying26 h1
        obtain ⟨z2, q2, _, w2⟩ := DataW.trod_int Tryd.underlying26 h2
        simp at q0 q1 q2
        subst q0 q1 q2
        have g0 := hat 0 (by omega)
        have g1 := hat 1 (by omega)
        have g2 := hat 2 (by omega)
        have hsp := hspot (by omega)
        obtain ⟨g, o, spot⟩ := a
        obtain rfl : spot = none := hsp
        simp only [addr_add, Nat.add_zero] at g0 g1 g2
        exact ⟨(z0, z1, z2), ⟨wf_i16 w0, wf_i16 w1, wf_i16 w2⟩, g, o, rfl, g0, g1, g2⟩
    obtain ⟨ws, hlen, hall⟩ := list_of len key
    subst hlen
    refine ⟨ws, ⟨some a, cap, rfl, hl, hm, fun i x hx => (hall i x hx).2⟩, fun x hx => ?_⟩
    obtain ⟨i, hi⟩ := List.mem_iff_getElem?.1 hx
    exact (hall i x hi).1
theorem info_tree : (Tryd.prog.info? 85).map (·.size) = some 3 := by kernel_rfl
theorem info_treeL : (Tryd.prog.info? 87).map (·.size) = some 3 := by kernel_rfl
theorem tree_fits (x : Tr) : 0 + 3 ≤ (treeC x).size := Nat.le_refl _
theorem tree_all (x : Tr) : (treeC x).extract 0 (0 + 3) = treeC x := rfl
theorem tree_one (x : Tr) : ∀ v ∈ treeC x, v.oneCell' = true := by
  intro v hv
  simp only [treeC, List.mem_toArray, List.mem_cons, List.not_mem_nil, or_false] at hv
  rcases hv with rfl | rfl | rfl <;> rfl
theorem tree_cells {x : Tr} {W : World} {g : Nat} {T : TypeId} {fr : Nat × Nat} (h : W.heap[g]? = some (.cells (treeC x) T fr)) :
    W.cell? ⟨g, 0, none⟩ = some (.int .i16 x.1) ∧ W.cell? ⟨g, 1, none⟩ = some (.int .i16 x.2.1) ∧ W.cell? ⟨g, 2, none⟩ = some (.int .i16 x.2.2) :=
  ⟨by rw [cell_of_row W _ _ _ _ _ h]; rfl, by rw [cell_of_row W _ _ _ _ _ h]; rfl, by rw [cell_of_row W _ _ _ _ _ h]; rfl⟩
theorem tree_at {W : World} {a : Option Addr} {n cap : Nat} {ws : List Tr} (h : TreesAt W (.slice a n cap) ws) {k : Nat} {x : Tr} (hx : ws[k]? = some x) :
    ∃ g o, a = some ⟨g, o, none⟩ ∧ ∀ j v, (treeC x)[j]? = some v → W.cell? ⟨g, o + k * 3 + j, none⟩ = some v := by
  obtain ⟨a', cap', e, _, _, h4⟩ := h
  injection e with e1 e2 e3
  subst e1
  obtain ⟨g, o, rfl, c0, c1, c2⟩ := h4 k x hx
  refine ⟨g, o, rfl, fun j v hv => ?_⟩
  match j, hv with
  | 0, hv => simp [treeC] at hv; subst hv; exact c0
  | 1, hv => simp [treeC] at hv; subst hv; exact c1
  | 2, hv => simp [treeC] at hv; subst hv; exact c2
  | j + 3, hv => simp [treeC] at hv
theorem trees_len {W : World} {a : Option Addr} {n cap : Nat} {ws : List Tr} (h : TreesAt W (.slice a n cap) ws) : n = ws.length ∧ n ≤ cap ∧ cap ≤ maxLen := by
  obtain ⟨a', cap', e, h2, h3, _⟩ := h
  injection e with e1 e2 e3
  subst e2; subst e3
  exact ⟨rfl, h2, h3⟩
def OwnT (w : World) (b : Nat) (v : Value) (ws : List Tr) : Prop :=
  ∃ g cur, v = .slice (some ⟨g, 0, none⟩) ws.length ws.length ∧ b ≤ g ∧ w.heap[g]? = some (.cells cur 85 (0, 0)) ∧ cur.size = ws.length * 3 ∧ ws.length ≤ 1048576 ∧ ∀ k x, ws[k]? = some x → cur.extract (k * 3) (k * 3 + 3) = treeC x
theorem ownT_below {w w' : World} {b B : Nat} {v : Value} {ws : List Tr} (h : OwnT w b v ws) (hb : Below w.heap.size w w') (hB : B ≤ b) : OwnT w' B v ws := by
  obtain ⟨g, cur, h1, h2, h3, h4, h5, h6⟩ := h
  exact ⟨g, cur, h1, by omega, below_row hb h3, h4, h5, h6⟩
theorem ownT_at {w : World} {b : Nat} {v : Value} {ws : List Tr} (h : OwnT w b v ws) : TreesAt w v ws := by
  obtain ⟨g, cur, rfl, h2, h3, h4, h5, h6⟩ := h
  refine ⟨_, _, rfl, Nat.le_refl _, by unfold maxLen; omega, fun k x hx => ⟨g, 0, rfl, ?_, ?_, ?_⟩⟩
  all_goals
    have hk : k < ws.length := (List.getElem?_eq_some_iff.1 hx).1
    have he := h6 k x hx
    rw [cell_of_row w _ _ _ _ _ h3]
  · have : (cur.extract (k * 3) (k * 3 + 3))[0]? = some (.int .i16 x.1) := by rw [he]; rfl
    rw [Array.getElem?_extract] at this
    split at this
    · simpa using this
    · cases this
  · have : (cur.extract (k * 3) (k * 3 + 3))[1]? = some (.int .i16 x.2.1) := by rw [he]; rfl
    rw [Array.getElem?_extract] at this
    split at this
    · simpa using this
    · cases this
  · have : (cur.extract (k * 3) (k * 3 + 3))[2]? = some (.int .i16 x.2.2) := by rw [he]; rfl
    rw [Array.getElem?_extract] at this
    split at this
    · simpa using this
    · cases this
set_option maxRecDepth 100000 in
set_option maxHeartbeats 1000000 in
theorem szTreeS_any (a : Option Addr) (n cap : Nat) (left : Int) (hn : n ≤ 9223372036854775807) (h0 : 0 ≤ left) (h1 : left ≤ 1048576) (w : World) :
    Calls Tryd.prog 15 #[.slice a n cap, .int .i64 left] w fun e w' => e = .returned (.int .i64 (leftI n left)) ∧ w = w' := by
  unfold leftI
  by_cases h : left - (n : Int) < 0
  · rw [if_pos h]
    go_enter Tryd.func15, Tryd.ntmps15
    go_wp2
    go_ret
    exact ⟨rfl, rfl⟩
  · rw [if_neg h]
    go_enter Tryd.func15, Tryd.ntmps15
    go_wp2
    go_ret
    exact ⟨rfl, rfl⟩
set_option maxHeartbeats 400000 in
theorem toTree_any (x : Tr) (w : World) :
    Calls Tryd.prog 49 #[.agg (treeC x)] w fun e w' => e = .returned (.agg (treeC x)) ∧ Below w.heap.size w w' := by
  unfold treeC
  go_enter Tryd.func49, Tryd.ntmps49
  go_wp2
  refine bodyPost_ret (v := .agg #[.int .i16 x.1, .int .i16 x.2.1, .int .i16 x.2.2]) (by simp [results, Tryd.results49, go_sem]) rfl ⟨rfl, ?_⟩
  (repeat' first | exact Below.refl _ _ | assumption | refine Below.alloc ?_ (by first | omega | (simp; done) | (simp; omega)) _ | refine Below.setCell ?_ (by first | omega | (simp; done) | (simp; omega)) _ | refine Below.drew ?_)
theorem infoTI : (Tryd.prog.info? 85).map (fun i => (i.zero, i.size, i.bytes)) = some (some (.agg #[.int .i16 0, .int .i16 0, .int .i16 0]), 3, 6) := by kernel_rfl
theorem make_trees (n : Nat) (hn : n ≤ 1048576) (w : World) : (Instr.makeSlice 46 (.int .i64 (n : Int)) (.int .i64 (n : Int))).run Tryd.prog w = .ok (.slice (some ⟨w.heap.size, 0, none⟩) n n) (w.alloc (.cells (madeCells #[.int .i16 0, .int .i16 0, .int .i16 0] (n * 3)) 85)) := by
  obtain ⟨i0, hi, hz0, hz1, hz2⟩ := info_parts infoTI
  have h := run_make (P := Tryd.prog) w 46 85 i0 _ Tryd.underlying46 hi hz0 .i64 .i64 (n : Int) (n : Int) (by omega) (Int.le_refl _) (by rw [hz2]; omega) (by omega)
  rw [hz1] at h
  simpa [Value.cells] using h
def RetT (w : World) (ws : List Tr) (e : Ending) (w' : World) : Prop := (∃ v, e = .returned v ∧ OwnT w' w.heap.size v ws) ∧ Below w.heap.size w w'
set_option maxRecDepth 100000 in
set_option maxHeartbeats 1000000 in
theorem toTreeS_any (sv : Value) (ws : List Tr) (hlen : ws.length ≤ 1048576) (w : World) (hws : TreesAt w sv ws) :
    Calls Tryd.prog 17 #[sv] w fun e w' => RetT w ws e w' := by
  have HW := Lib.hid hws
  obtain ⟨a, cap, rfl, hl1, hl2, _⟩ := hws
  unfold maxLen at hl2
  generalize hn : ws.length = n at *
  have HN := Lib.hid hn
  have hmk := fun w => make_trees n hlen w
  clear hn
  go_enter Tryd.func17, Tryd.ntmps17
  go_wp2
  go_loopw [4] (fun i wr => ∃ k : Nat, k ≤ n ∧ i = .int .i64 k ∧ Below w.heap.size w wr ∧ ∃ cur, wr.heap[w.heap.size]? = some (.cells cur 85 (0, 0)) ∧ cur.size = n * 3 ∧ ∀ j x, j < k → ws[j]? = some x → cur.extract (j * 3) (j * 3 + 3) = treeC x) (fun i _ => n - (intOf i).toNat)
  case atStart => exact ⟨0, Nat.zero_le _, rfl, (Below.refl _ _).alloc (Nat.le_refl _) _, _, heap_alloc_new _ _, size_madeCells _ _, fun j x hj => by omega⟩
  case round =>
    clear hmk
    obtain ⟨k, hk, rfl, hb, cur, hg, hs, hp⟩ := hrel
    have HP := Lib.hid hp
    have HG := Lib.hid hg
    have hgl := row_lt hg
    clear hp hg
    by_cases hlt : k < n
    · have hx : ws[k]? = some (ws[k]'(by rw [HN.out]; exact hlt)) := List.getElem?_eq_getElem _
      obtain ⟨g, o, rfl, hc⟩ := tree_at (trees_below HW.out hb) hx
      have HC := Lib.hid hc
      generalize (ws[k]'(by rw [HN.out]; exact hlt)) = x at *
      have HX := Lib.hid hx
      have hks : k * 3 + 3 ≤ cur.size := by omega
      have z1 : (k : Int) < (n : Int) := by omega
      have z2 : (0 : Int) ≤ (k : Int) := by omega
      clear hc hx
      go_wp2_with (first | (refine wpList_load_cells rfl 87 _ rfl g (o + k * 3) 3 rfl _ Tryd.underlying87 rfl info_treeL (treeC x) rfl HC.out ?_) | (go_at_call 49; refine (toTree_any _ _).mono ?_; rintro e W1 ⟨rfl, hb1⟩) | (refine wpList_store_part rfl 85 _ _ rfl w.heap.size (k * 3) (treeC x) rfl rfl 85 cur (below_row hb1 HG.out) (by kernel_rfl) hks (tree_one _) ?_))
      go_roundw
      case rel =>
        refine ⟨k + 1, by omega, by go_num, below_setRow (hb.trans (hb1.mono hb.size)) (Nat.le_refl _) _, _, setRow_heap _ _ _ _ _ _ (below_row hb1 HG.out), by rw [laid_size _ _ _ hks]; exact hs, fun j y hj hy => ?_⟩
        by_cases e : j = k
        · subst e
          rw [HX.out] at hy
          obtain rfl := Option.some.inj hy
          exact laid_here cur (treeC x) (j * 3) hks
        · rw [laid_there cur (treeC x) (k * 3) (j * 3) 3 hks (by omega)]
          exact HP.out j y (by omega) hy
      case measure => simp [intOf]; omega
    · obtain rfl : k = n := by omega
      have HR : Hid (OwnT wr w.heap.size (.slice (some ⟨w.heap.size, 0, none⟩) k k) ws) := by
        refine ⟨_, cur, by rw [HN.out], Nat.le_refl _, HG.out, by rw [HN.out]; exact hs, by rw [HN.out]; exact hlen, fun j x hx => ?_⟩
        have := (List.getElem?_eq_some_iff.1 hx).1
        exact HP.out j x (by have := HN.out; omega) hx
      go_wp2
      go_ret
      exact ⟨⟨_, rfl, HR.out⟩, hb⟩
set_option maxRecDepth 100000 in
set_option maxHeartbeats 1000000 in
theorem eqTree_any (x : Tr) (w : World) : Calls Tryd.prog 52 #[.agg (treeC x), .agg (treeC x)] w fun e w' => e = .returned (.bool true) ∧ Below w.heap.size w w' := by
  have HA := Lib.hid (two_at w (.cells (treeC x) 85) (.cells (treeC x) 85))
  go_enter Tryd.func52, Tryd.ntmps52
  go_upto_region 1 with (fail)
  refine abs_world (fun W => W.heap[w.heap.size]? = some (.cells (treeC x) 85 (0, 0)) ∧ W.heap[w.heap.size + 1]? = some (.cells (treeC x) 85 (0, 0)) ∧ Below w.heap.size w W) HA.out ?_
  clear HA
  rintro W ⟨h0, h1, hb⟩
  obtain ⟨k0, k1, k2⟩ := tree_cells h0
  obtain ⟨p0, p1, p2⟩ := tree_cells h1
  have z1 : (x.1 != x.1) = false := by simp
  have z2 : (x.2.1 != x.2.1) = false := by simp
  have z3 : (x.2.2 != x.2.2) = false := by simp
  clear h0 h1
  go_wp2
  go_ret
  exact ⟨rfl, hb⟩
set_option maxRecDepth 100000 in
set_option maxHeartbeats 1000000 in
theorem eqTreeS_any (v1 v2 : Value) (ws : List Tr) (w : World) (hv1 : TreesAt w v1 ws) (hv2 : TreesAt w v2 ws) :
    Calls Tryd.prog 19 #[v1, v2] w fun e w' => e = .returned (.bool true) ∧ Below w.heap.size w w' := by
  have HW1 := Lib.hid hv1
  have HW2 := Lib.hid hv2
  obtain ⟨a1, c1, rfl, hl1, hm1, _⟩ := hv1
  obtain ⟨a2, c2, rfl, hl2, hm2, _⟩ := hv2
  unfold maxLen at hm1 hm2
  generalize hn : ws.length = n at *
  have HN := Lib.hid hn
  have zn : ((n : Int) != (n : Int)) = false := by simp
  clear hn
  go_enter Tryd.func19, Tryd.ntmps19
  go_wp2
  go_loopw [5] (fun i wr => ∃ k : Nat, k ≤ n ∧ i = .int .i64 k ∧ Below w.heap.size w wr) (fun i _ => n - (intOf i).toNat)
  case atStart => exact ⟨0, Nat.zero_le _, rfl, Below.refl _ _⟩
  case round =>
    obtain ⟨k, hk, rfl, hb⟩ := hrel
    by_cases hlt : k < n
    · have hx : ws[k]? = some (ws[k]'(by rw [HN.out]; exact hlt)) := List.getElem?_eq_getElem _
      obtain ⟨g1, o1, rfl, hc1⟩ := tree_at (trees_below HW1.out hb) hx
      obtain ⟨g2, o2, rfl, hc2⟩ := tree_at (trees_below HW2.out hb) hx
      have HC1 := Lib.hid hc1
      have HC2 := Lib.hid hc2
      generalize (ws[k]'(by rw [HN.out]; exact hlt)) = x at *
      have z1 : (k : Int) < (n : Int) := by omega
      have z2 : (0 : Int) ≤ (k : Int) := by omega
      have z3 : decide ((k : Int) < (n : Int)) = true := decide_eq_true z1
      clear hc1 hc2 hx
      go_wp2
      refine wp_region_held_drew (S := (fun W => (∀ j v, (treeC x)[j]? = some v → W.cell? ⟨g1, o1 + k * 3 + j, none⟩ = some v) ∧ (∀ j v, (treeC x)[j]? = some v → W.cell? ⟨g2, o2 + k * 3 + j, none⟩ = some v) ∧ Below w.heap.size w W)) (by kernel_rfl) ⟨HC1.out, HC2.out, hb.drew⟩ (fun hHeld => ?_)
      refine take_op (i := 0) (d := 17) (v := ?_) rfl rfl (by kernel_rfl) (by kernel_rfl) (by kernel_rfl) (fun _ _ _ h => h) (Or.inl ⟨by rfl, ?hy0u1⟩) hHeld ?rest0u1
      case hy0u1 =>
        intro w' hS'
        go_simp
        try with_reducible rfl
      simp only [List.setIfInBounds_toArray, List.set_cons_zero, List.set_cons_succ]
      refine take_op (i := 1) (d := 18) (v := ?_) rfl rfl (by kernel_rfl) (by kernel_rfl) (by kernel_rfl) (fun _ _ _ h => h) (Or.inl ⟨by rfl, ?hy1u2⟩) hHeld ?rest1u2
      case hy1u2 =>
        intro w' hS'
        go_simp
        try with_reducible rfl
      simp only [List.setIfInBounds_toArray, List.set_cons_zero, List.set_cons_succ]
      refine take_op (i := 2) (d := 19) (v := ?_) rfl rfl (by kernel_rfl) (by kernel_rfl) (by kernel_rfl) (fun _ _ _ h => h) (Or.inl ⟨by rfl, ?hy2u3⟩) hHeld ?rest2u3
      case hy2u3 =>
        intro w' hS'
        go_simp
        try with_reducible rfl
      simp only [List.setIfInBounds_toArray, List.set_cons_zero, List.set_cons_succ]
      refine take_op (i := 3) (d := 20) (v := .agg (treeC x)) rfl rfl (by kernel_rfl) (by kernel_rfl) (by kernel_rfl) (fun _ _ _ h => h) (yields_cells (by rfl) 85 (.tmp 19) (by rfl) g1 (o1 + k * 3) 3 (by rfl) _ Tryd.underlying85 rfl info_tree (treeC x) rfl (fun W h => h.1)) hHeld ?_
      simp only [List.setIfInBounds_toArray, List.set_cons_zero, List.set_cons_succ]
      refine take_op (i := 4) (d := 21) (v := ?_) rfl rfl (by kernel_rfl) (by kernel_rfl) (by kernel_rfl) (fun _ _ _ h => h) (Or.inl ⟨by rfl, ?hy4u4⟩) hHeld ?rest4u4
      case hy4u4 =>
        intro w' hS'
        go_simp
        try with_reducible rfl
      simp only [List.setIfInBounds_toArray, List.set_cons_zero, List.set_cons_succ]
      refine take_op (i := 5) (d := 22) (v := ?_) rfl rfl (by kernel_rfl) (by kernel_rfl) (by kernel_rfl) (fun _ _ _ h => h) (Or.inl ⟨by rfl, ?hy5u5⟩) hHeld ?rest5u5
      case hy5u5 =>
        intro w' hS'
        go_simp
        try with_reducible rfl
      simp only [List.setIfInBounds_toArray, List.set_cons_zero, List.set_cons_succ]
      refine take_op (i := 6) (d := 23) (v := ?_) rfl rfl (by kernel_rfl) (by kernel_rfl) (by kernel_rfl) (fun _ _ _ h => h) (Or.inl ⟨by rfl, ?hy6u6⟩) hHeld ?rest6u6
      case hy6u6 =>
        intro w' hS'
        go_simp
        try with_reducible rfl
      simp only [List.setIfInBounds_toArray, List.set_cons_zero, List.set_cons_succ]
      refine take_op (i := 7) (d := 24) (v := .agg (treeC x)) rfl rfl (by kernel_rfl) (by kernel_rfl) (by kernel_rfl) (fun _ _ _ h => h) (yields_cells (by rfl) 85 (.tmp 23) (by rfl) g2 (o2 + k * 3) 3 (by rfl) _ Tryd.underlying85 rfl info_tree (treeC x) rfl (fun W h => h.2.1)) hHeld ?_
      simp only [List.setIfInBounds_toArray, List.set_cons_zero, List.set_cons_succ]
      refine wpAnyH_ready (rs := [8]) (by kernel_rfl) (by simp) ?_
      refine AllReadyH.cons rfl (fun K hK => ?_) AllReadyH.nil
      go_simp
      refine (eqTree_any x _).mono ?_
      rintro e W1 ⟨rfl, hb1⟩
      refine hK.out _ _ (⟨fun j v h => cell_below hb1 (hHeld.1 j v h), fun j v h => cell_below hb1 (hHeld.2.1 j v h), hHeld.2.2.trans (hb1.mono hHeld.2.2.size)⟩) (fun hHeld2 => ?_)
      clear hK K
      replace hHeld := hHeld2
      clear hHeld2
      refine take_op (i := 9) (d := 26) (v := ?_) rfl rfl (by kernel_rfl) (by kernel_rfl) (by kernel_rfl) (fun _ _ _ h => h) (Or.inl ⟨by rfl, ?hy9u7⟩) hHeld ?rest9u7
      case hy9u7 =>
        intro w' hS'
        go_simp
        try with_reducible rfl
      simp only [List.setIfInBounds_toArray, List.set_cons_zero, List.set_cons_succ]
      refine wpAnyH_done (by kernel_rfl) ?_ _
      have hbx := hHeld.2.2
      clear hHeld hb
      go_wp2
      go_roundw
      case rel => exact ⟨k + 1, by omega, by go_num, hbx⟩
      case measure => simp [intOf]; omega
    · obtain rfl : k = n := by omega
      go_wp2
      go_ret
      exact ⟨rfl, hb⟩

end Go.Proofs.YtpcmcopfdghdgaaDoor

namespace Go.Proofs.YtpcmcopfdghdgaaDoor
open Go Go.RowKit Go.ChangeMaps Go.MapKept

theorem treeC_inj {x y : Tr} (h : treeC x = treeC y) : x = y := by
  obtain ⟨a, b, c⟩ := x
  obtain ⟨d, e, f⟩ := y
  simp only [treeC, Array.mk.injEq, List.cons.injEq, Value.int.injEq, true_and, and_true] at h
  simp [h.1, h.2.1, h.2.2]
set_option maxRecDepth 100000 in
theorem kT_law : Go.Maps.Keyed Tryd.prog 85 := Go.Maps.Keyed.of_law (deep_law_laid law_laidOut (m := 2) (by omega) (of_decide_eq_true (by kernel_rfl)) (by kernel_rfl) (by kernel_rfl))
theorem kT_zero (w : World) : (zeroValue 4).run Tryd.prog w = .ok (.bool false) w := by kernel_rfl
set_option maxRecDepth 100000 in
theorem kT_type : Tryd.prog.keyType 85 = true := by kernel_rfl
set_option maxRecDepth 100000 in
theorem kT_cells : Tryd.prog.cellsOf 85 = 3 := by kernel_rfl
set_option maxRecDepth 100000 in
theorem kT_formed (x : Tr) : Value.formed Tryd.prog 85 (.agg (treeC x)) = true := by
  unfold treeC
  kernel_rfl
theorem wf_of16 {z : Int} (h : I16 z) : (Lit.int .i16 z).wf = true := by
  obtain ⟨h0, h1⟩ := h
  simp [Lit.wf, IntKind.min, IntKind.max, IntKind.signed, IntKind.bits]; omega
set_option maxRecDepth 100000 in
theorem kT_key {x : Tr} (h : TrWf x) : ∃ l, keyOf Tryd.prog 85 (.agg (treeC x)) = some l :=
  keyOf_three Tryd.underlying85 kT_type (kT_formed x) kT_cells rfl rfl rfl Tryd.underlying26 Tryd.underlying26 Tryd.underlying26 (by kernel_rfl) (by kernel_rfl) (by kernel_rfl) (by decide) (by decide) (by decide) (wf_of16 h.1) (wf_of16 h.2.1) (wf_of16 h.2.2) (of_decide_eq_true (by kernel_rfl))

/-- The trees that a map holds, each with true. -/
structure Looked (es : Array MapEntry) (seen : List Tr) : Prop where
  all : ∀ y ∈ es.toList, ∃ x ∈ seen, y.key = .agg (treeC x) ∧ y.val = .bool true
  mem : ∀ x ∈ seen, ∃ y ∈ es.toList, y.key = .agg (treeC x)
  wf : ∀ x ∈ seen, TrWf x
theorem looked_nil : Looked #[] [] := ⟨fun y hy => (by simp at hy), fun x hx => (by cases hx), fun x hx => (by cases hx)⟩
theorem looked_push {es : Array MapEntry} {seen : List Tr} {x : Tr} (h : Looked es seen) (hx : TrWf x) (n : Nat) : Looked (es.push { key := .agg (treeC x), val := .bool true, born := n }) (seen ++ [x]) := by
  refine ⟨fun y hy => ?_, fun z hz => ?_, fun z hz => ?_⟩
  · rw [Array.toList_push, List.mem_append, List.mem_singleton] at hy
    rcases hy with hy | rfl
    · obtain ⟨z, hz, h1, h2⟩ := h.all y hy
      exact ⟨z, List.mem_append.2 (.inl hz), h1, h2⟩
    · exact ⟨x, List.mem_append.2 (.inr (List.mem_singleton.2 rfl)), rfl, rfl⟩
  · rw [List.mem_append, List.mem_singleton] at hz
    rw [Array.toList_push]
    rcases hz with hz | rfl
    · obtain ⟨y, hy, h1⟩ := h.mem z hz
      exact ⟨y, List.mem_append.2 (.inl hy), h1⟩
    · exact ⟨_, List.mem_append.2 (.inr (List.mem_singleton.2 rfl)), rfl⟩
  · rw [List.mem_append, List.mem_singleton] at hz
    rcases hz with hz | rfl
    · exact h.wf z hz
    · exact hx
theorem looked_keys {es : Array MapEntry} {seen : List Tr} (h : Looked es seen) : ∀ y ∈ es.toList, ∃ l, keyOf Tryd.prog 85 y.key = some l := fun y hy => by
  obtain ⟨x, hx, h1, _⟩ := h.all y hy
  rw [h1]
  exact kT_key (h.wf x hx)
theorem looked_ne {es : Array MapEntry} {seen : List Tr} {x : Tr} (h : Looked es seen) (hx : x ∉ seen) : ∀ y ∈ es.toList, y.key ≠ .agg (treeC x) := fun y hy e => by
  obtain ⟨z, hz, h1, _⟩ := h.all y hy
  rw [h1] at e
  injection e with e
  exact hx (treeC_inj e ▸ hz)
theorem look_tree {w : World} {b clock : Nat} {es : Array MapEntry} {seen : List Tr} (h : Looked es seen) (hb : w.heap[b]? = some (.map es clock)) {x : Tr} (hx : TrWf x) :
    (x ∈ seen ∧ (Instr.lookup 111 (.map (some b)) (.agg (treeC x)) false).run Tryd.prog w = .ok (.bool true) w) ∨ (x ∉ seen ∧ (Instr.lookup 111 (.map (some b)) (.agg (treeC x)) false).run Tryd.prog w = .ok (.bool false) w) := by
  rcases run_lookup_cases kT_law Tryd.underlying111 hb (kT_key hx) (looked_keys h) (kT_zero w) false with ⟨e0, he, h1, h2⟩ | ⟨h1, h2⟩
  · obtain ⟨z, hz, h3, h4⟩ := h.all e0 he
    rw [h3] at h1
    injection h1 with h1
    refine .inl ⟨treeC_inj h1 ▸ hz, ?_⟩
    rw [h2, h4]; rfl
  · refine .inr ⟨fun hm => ?_, h2⟩
    obtain ⟨y, hy, h3⟩ := h.mem x hm
    exact h1 y hy h3

end Go.Proofs.YtpcmcopfdghdgaaDoor

namespace Go.Proofs.YtpcmcopfdghdgaaDoor
open Go.RowKit

attribute [local go_sem] run_store_f

/-- A tree is valid; a list of trees is valid. -/
def fitT (x : Tr) : Bool := inI 0 255 x.1 && (inI 0 128 x.2.1 && inI 0 64 x.2.2)
def okTs (ts : List Tr) : Bool := decide (ts.length ≤ 8) && ts.all fitT

set_option maxHeartbeats 1000000 in
theorem facT_any (a : Int) (w : World) : Calls Tryd.prog 39 #[.int .i64 a] w fun e w' => e = .returned (.bool (inI 0 255 a)) ∧ w = w' := by
  by_cases h0 : 0 ≤ a
  · by_cases h1 : a < 256
    · have e : inI 0 255 a = true := by simp [inI, h0]; omega
      rw [e]
      go_enter Tryd.func39, Tryd.ntmps39
      go_wp2
      go_ret
      exact ⟨rfl, rfl⟩
    · have e : inI 0 255 a = false := by simp [inI]; omega
      rw [e]
      have h1' : 256 ≤ a := by omega
      go_enter Tryd.func39, Tryd.ntmps39
      go_wp2
      go_ret
      exact ⟨rfl, rfl⟩
  · have e : inI 0 255 a = false := by simp [inI]; omega
    rw [e]
    have h0' : a < 0 := by omega
    go_enter Tryd.func39, Tryd.ntmps39
    go_wp2
    go_ret
    exact ⟨rfl, rfl⟩
theorem facT_is (a : Int) (r : Bool) (h : inI 0 255 a = r) (w : World) : Calls Tryd.prog 39 #[.int .i64 a] w fun e w' => e = .returned (.bool r) ∧ w = w' := by subst h; exact facT_any a w

set_option maxHeartbeats 1000000 in
theorem facedT_any (a : Int) (w : World) : Calls Tryd.prog 29 #[.int .i64 a] w fun e w' => e = .returned (.bool (inI 0 255 a)) ∧ w = w' := by
  go_enter Tryd.func29, Tryd.ntmps29
  go_wp2_with (go_at_call 55; refine (l00In_ban _ _ _ _).mono ?_; rintro e w' ⟨rfl, rfl⟩)
  go_ret
  exact ⟨rfl, rfl⟩

set_option maxRecDepth 100000 in
set_option maxHeartbeats 1000000 in
theorem vtree_F (x : Tr) (hx : TrWf x) (r : Bool) (hf : inI 0 255 x.1 = r) (e : r = false) (w : World) :
    Calls Tryd.prog 85 #[.agg (treeC x)] w fun e w' => e = .returned (.bool false) ∧ Below w.heap.size w w' := by
  obtain ⟨⟨x0, x1⟩, ⟨y0, y1⟩, z0, z1⟩ := hx
  have HF := Lib.hid hf
  subst e; clear hf
  go_enter Tryd.func85, Tryd.ntmps85
  go_upto_region 1 with (fail)
  refine abs_world (fun W => Below w.heap.size w W ∧ W.heap[w.heap.size]? = some (.cells (treeC x) 85 (0, 0))) ⟨(Below.refl _ _).alloc (Nat.le_refl _) _, heap_alloc_new _ _⟩ ?_
  rintro W ⟨hb, h1⟩
  obtain ⟨k0, k1, k2⟩ := tree_cells h1
  clear h1
  go_wp2_with (go_at_call 39; refine (facT_is _ _ HF.out _).mono ?_; rintro e w' ⟨rfl, rfl⟩)
  go_ret
  first | exact ⟨rfl, hb⟩ | exact ⟨ret_boolR (decide_eq_false (by omega)), hb⟩

set_option maxRecDepth 100000 in
set_option maxHeartbeats 1000000 in
theorem vtree_A (x : Tr) (hx : TrWf x) (r : Bool) (hf : inI 0 255 x.1 = r) (e : r = true) (h : x.2.1 < 0) (w : World) :
    Calls Tryd.prog 85 #[.agg (treeC x)] w fun e w' => e = .returned (.bool false) ∧ Below w.heap.size w w' := by
  obtain ⟨⟨x0, x1⟩, ⟨y0, y1⟩, z0, z1⟩ := hx
  have HF := Lib.hid hf
  subst e; clear hf
  go_enter Tryd.func85, Tryd.ntmps85
  go_upto_region 1 with (fail)
  refine abs_world (fun W => Below w.heap.size w W ∧ W.heap[w.heap.size]? = some (.cells (treeC x) 85 (0, 0))) ⟨(Below.refl _ _).alloc (Nat.le_refl _) _, heap_alloc_new _ _⟩ ?_
  rintro W ⟨hb, h1⟩
  obtain ⟨k0, k1, k2⟩ := tree_cells h1
  clear h1
  go_wp2_with (go_at_call 39; refine (facT_is _ _ HF.out _).mono ?_; rintro e w' ⟨rfl, rfl⟩)
  go_ret
  first | exact ⟨rfl, hb⟩ | exact ⟨ret_boolR (decide_eq_false (by omega)), hb⟩

set_option maxRecDepth 100000 in
set_option maxHeartbeats 1000000 in
theorem vtree_B (x : Tr) (hx : TrWf x) (r : Bool) (hf : inI 0 255 x.1 = r) (e : r = true) (h0 : 0 ≤ x.2.1) (h : 128 < x.2.1) (w : World) :
    Calls Tryd.prog 85 #[.agg (treeC x)] w fun e w' => e = .returned (.bool false) ∧ Below w.heap.size w w' := by
  obtain ⟨⟨x0, x1⟩, ⟨y0, y1⟩, z0, z1⟩ := hx
  have HF := Lib.hid hf
  subst e; clear hf
  go_enter Tryd.func85, Tryd.ntmps85
  go_upto_region 1 with (fail)
  refine abs_world (fun W => Below w.heap.size w W ∧ W.heap[w.heap.size]? = some (.cells (treeC x) 85 (0, 0))) ⟨(Below.refl _ _).alloc (Nat.le_refl _) _, heap_alloc_new _ _⟩ ?_
  rintro W ⟨hb, h1⟩
  obtain ⟨k0, k1, k2⟩ := tree_cells h1
  clear h1
  go_wp2_with (go_at_call 39; refine (facT_is _ _ HF.out _).mono ?_; rintro e w' ⟨rfl, rfl⟩)
  go_ret
  first | exact ⟨rfl, hb⟩ | exact ⟨ret_boolR (decide_eq_false (by omega)), hb⟩

set_option maxRecDepth 100000 in
set_option maxHeartbeats 1000000 in
theorem vtree_C (x : Tr) (hx : TrWf x) (r : Bool) (hf : inI 0 255 x.1 = r) (e : r = true) (h0 : 0 ≤ x.2.1) (h1 : x.2.1 ≤ 128) (h : x.2.2 < 0) (w : World) :
    Calls Tryd.prog 85 #[.agg (treeC x)] w fun e w' => e = .returned (.bool false) ∧ Below w.heap.size w w' := by
  obtain ⟨⟨x0, x1⟩, ⟨y0, y1⟩, z0, z1⟩ := hx
  have HF := Lib.hid hf
  subst e; clear hf
  go_enter Tryd.func85, Tryd.ntmps85
  go_upto_region 1 with (fail)
  refine abs_world (fun W => Below w.heap.size w W ∧ W.heap[w.heap.size]? = some (.cells (treeC x) 85 (0, 0))) ⟨(Below.refl _ _).alloc (Nat.le_refl _) _, heap_alloc_new _ _⟩ ?_
  rintro W ⟨hb, h1⟩
  obtain ⟨k0, k1, k2⟩ := tree_cells h1
  clear h1
  go_wp2_with (go_at_call 39; refine (facT_is _ _ HF.out _).mono ?_; rintro e w' ⟨rfl, rfl⟩)
  go_ret
  first | exact ⟨rfl, hb⟩ | exact ⟨ret_boolR (decide_eq_false (by omega)), hb⟩

set_option maxRecDepth 100000 in
set_option maxHeartbeats 1000000 in
theorem vtree_D (x : Tr) (hx : TrWf x) (r : Bool) (hf : inI 0 255 x.1 = r) (e : r = true) (h0 : 0 ≤ x.2.1) (h1 : x.2.1 ≤ 128) (h2 : 0 ≤ x.2.2) (h : 64 < x.2.2) (w : World) :
    Calls Tryd.prog 85 #[.agg (treeC x)] w fun e w' => e = .returned (.bool false) ∧ Below w.heap.size w w' := by
  obtain ⟨⟨x0, x1⟩, ⟨y0, y1⟩, z0, z1⟩ := hx
  have HF := Lib.hid hf
  subst e; clear hf
  go_enter Tryd.func85, Tryd.ntmps85
  go_upto_region 1 with (fail)
  refine abs_world (fun W => Below w.heap.size w W ∧ W.heap[w.heap.size]? = some (.cells (treeC x) 85 (0, 0))) ⟨(Below.refl _ _).alloc (Nat.le_refl _) _, heap_alloc_new _ _⟩ ?_
  rintro W ⟨hb, h1⟩
  obtain ⟨k0, k1, k2⟩ := tree_cells h1
  clear h1
  go_wp2_with (go_at_call 39; refine (facT_is _ _ HF.out _).mono ?_; rintro e w' ⟨rfl, rfl⟩)
  go_ret
  first | exact ⟨rfl, hb⟩ | exact ⟨ret_boolR (decide_eq_false (by omega)), hb⟩

set_option maxRecDepth 100000 in
set_option maxHeartbeats 1000000 in
theorem vtree_E (x : Tr) (hx : TrWf x) (r : Bool) (hf : inI 0 255 x.1 = r) (e : r = true) (h0 : 0 ≤ x.2.1) (h1 : x.2.1 ≤ 128) (h2 : 0 ≤ x.2.2) (h : x.2.2 ≤ 64) (w : World) :
    Calls Tryd.prog 85 #[.agg (treeC x)] w fun e w' => e = .returned (.bool true) ∧ Below w.heap.size w w' := by
  obtain ⟨⟨x0, x1⟩, ⟨y0, y1⟩, z0, z1⟩ := hx
  have HF := Lib.hid hf
  subst e; clear hf
  go_enter Tryd.func85, Tryd.ntmps85
  go_upto_region 1 with (fail)
  refine abs_world (fun W => Below w.heap.size w W ∧ W.heap[w.heap.size]? = some (.cells (treeC x) 85 (0, 0))) ⟨(Below.refl _ _).alloc (Nat.le_refl _) _, heap_alloc_new _ _⟩ ?_
  rintro W ⟨hb, h1⟩
  obtain ⟨k0, k1, k2⟩ := tree_cells h1
  clear h1
  go_wp2_with (go_at_call 39; refine (facT_is _ _ HF.out _).mono ?_; rintro e w' ⟨rfl, rfl⟩)
  go_ret
  first | exact ⟨rfl, hb⟩ | exact ⟨ret_boolR (decide_eq_false (by omega)), hb⟩

theorem vtree_any (x : Tr) (hx : TrWf x) (w : World) :
    Calls Tryd.prog 85 #[.agg (treeC x)] w fun e w' => e = .returned (.bool (fitT x)) ∧ Below w.heap.size w w' := by
  unfold fitT
  cases hf : inI 0 255 x.1 with
  | false => exact vtree_F x hx _ hf rfl w
  | true =>
    rw [Bool.true_and]
    by_cases h0 : 0 ≤ x.2.1
    · by_cases h1 : x.2.1 ≤ 128
      · have e1 : inI 0 128 x.2.1 = true := by simp [inI, h0, h1]
        rw [e1, Bool.true_and]
        by_cases h2 : 0 ≤ x.2.2
        · by_cases h3 : x.2.2 ≤ 64
          · have e2 : inI 0 64 x.2.2 = true := by simp [inI, h2, h3]
            rw [e2]; exact vtree_E x hx _ hf rfl h0 h1 h2 h3 w
          · have e2 : inI 0 64 x.2.2 = false := by simp [inI]; omega
            rw [e2]; exact vtree_D x hx _ hf rfl h0 h1 h2 (by omega) w
        · have e2 : inI 0 64 x.2.2 = false := by simp [inI]; omega
          rw [e2]; exact vtree_C x hx _ hf rfl h0 h1 (by omega) w
      · have e1 : inI 0 128 x.2.1 = false := by simp [inI]; omega
        rw [e1, Bool.false_and]; exact vtree_B x hx _ hf rfl h0 (by omega) w
    · have e1 : inI 0 128 x.2.1 = false := by simp [inI]; omega
      rw [e1, Bool.false_and]; exact vtree_A x hx _ hf rfl (by omega) w

set_option maxRecDepth 100000 in
set_option maxHeartbeats 1000000 in
theorem validTr_any (x : Tr) (hx : TrWf x) (w : World) :
    Calls Tryd.prog 84 #[.agg (treeC x)] w fun e w' => e = .returned (.bool (!fitT x)) ∧ Below w.heap.size w w' := by
  have HX := Lib.hid hx
  clear hx
  go_enter Tryd.func84, Tryd.ntmps84
  go_upto_region 1 with (fail)
  refine abs_world (fun W => Below w.heap.size w W ∧ W.heap[w.heap.size]? = some (.cells (treeC x) 85 (0, 0))) ⟨(Below.refl _ _).alloc (Nat.le_refl _) _, heap_alloc_new _ _⟩ ?_
  rintro W ⟨hb, h1⟩
  have H1 := Lib.hid h1
  clear h1
  go_wp2_with (first | (refine wpList_load_part rfl 85 _ rfl w.heap.size 0 3 rfl 85 (treeC x) (0, 0) _ H1.out Tryd.underlying85 rfl info_tree (tree_fits _) _ (tree_all _) ?_) | (go_at_call 85; refine (vtree_any x HX.out _).mono ?_; rintro e W1 ⟨rfl, hb1⟩))
  go_ret
  exact ⟨rfl, hb.trans (hb1.mono hb.size)⟩

/-- What looking for a tree that is not valid finds. -/
def FoundT (ts : List Tr) (w : World) (e : Ending) (w' : World) : Prop := ∃ r : Int, e = .returned (.int .i64 r) ∧ decide (0 ≤ r) = !ts.all fitT ∧ Below w.heap.size w w'
set_option maxRecDepth 100000 in
set_option maxHeartbeats 1000000 in
theorem indexTr_any (sv : Value) (ws : List Tr) (hwf : ∀ x ∈ ws, TrWf x) (w : World) (hws : TreesAt w sv ws) :
    Calls Tryd.prog 92 #[sv, .func (.func 84) #[] #[]] w fun e w' => FoundT ws w e w' := by
  have hws' := hws
  obtain ⟨a, cap, rfl, hl1, hl2, _⟩ := hws'
  have HW := Lib.hid hws
  have HWF := Lib.hid hwf
  clear hws hwf
  unfold maxLen at hl2
  generalize hn : ws.length = n at *
  go_enter Tryd.func92, Tryd.ntmps92
  go_wp2
  go_loopw [8] (fun i wr => ∃ k : Nat, k ≤ n ∧ i = .int .i64 k ∧ Below w.heap.size w wr ∧ (ws.take k).all fitT = true) (fun i _ => n - (intOf i).toNat)
  case atStart => exact ⟨0, Nat.zero_le _, rfl, Below.refl _ _, rfl⟩
  case round =>
    obtain ⟨k, hk, rfl, hb, hall⟩ := hrel
    have HA := Lib.hid hall
    clear hall
    by_cases hlt : k < n
    · have hx : ws[k]? = some ws[k] := List.getElem?_eq_getElem (by omega)
      obtain ⟨g, o, rfl, hc⟩ := tree_at (trees_below HW.out hb) hx
      have HC := Lib.hid hc
      have hts : ws.take (k + 1) = ws.take k ++ [ws[k]] := by rw [List.take_succ_eq_append_getElem (by omega)]
      have HT := Lib.hid hts
      have hdx := HW.out
      generalize ws[k] = x at *
      have HD : Hid (ws[k]? = some x) := Lib.hid hx
      have HWx := Lib.hid (HWF.out x (List.mem_of_getElem? hx))
      have z1 : (k : Int) < (n : Int) := by omega
      have z2 : (0 : Int) ≤ (k : Int) := by omega
      clear hc hts hx hdx
      cases hf : fitT x with
      | true =>
        have hnf : (!fitT x) = false := by rw [hf]; rfl
        go_wp2_with (first | (refine wpList_load_cells rfl 85 _ rfl g (o + k * 3) 3 rfl _ Tryd.underlying85 rfl info_tree (treeC x) rfl HC.out ?_) | (go_at_call 84; refine (validTr_any x HWx.out _).mono ?_; rw [hnf]; rintro e W1 ⟨rfl, hb1⟩))
        go_roundw
        case rel => exact ⟨k + 1, by omega, by go_num, hb.trans (hb1.mono hb.size), by rw [HT.out, List.all_append, HA.out]; simp [hf]⟩
        case measure => simp [intOf]; omega
      | false =>
        have hnf : (!fitT x) = true := by rw [hf]; rfl
        go_wp2_with (first | (refine wpList_load_cells rfl 85 _ rfl g (o + k * 3) 3 rfl _ Tryd.underlying85 rfl info_tree (treeC x) rfl HC.out ?_) | (go_at_call 84; refine (validTr_any x HWx.out _).mono ?_; rw [hnf]; rintro e W1 ⟨rfl, hb1⟩))
        go_ret
        refine ⟨k, rfl, ?_, hb.trans (hb1.mono hb.size)⟩
        have hmem := List.mem_of_getElem? HD.out
        have hall : ws.all fitT = false := by
          rw [Bool.eq_false_iff]
          intro ha
          have := List.all_eq_true.1 ha x hmem
          rw [hf] at this; cases this
        rw [hall]; simp
    · obtain rfl : k = n := by omega
      go_wp2
      go_ret
      refine ⟨-1, rfl, ?_, hb⟩
      have hall := HA.out
      rw [List.take_of_length_le (by omega)] at hall
      rw [hall]; rfl
set_option maxRecDepth 100000 in
set_option maxHeartbeats 1000000 in
theorem containsTr_any (sv : Value) (ws : List Tr) (hwf : ∀ x ∈ ws, TrWf x) (w : World) (hws : TreesAt w sv ws) :
    Calls Tryd.prog 86 #[sv, .func (.func 84) #[] #[]] w fun e w' => e = .returned (.bool (!ws.all fitT)) ∧ Below w.heap.size w w' := by
  have HC := indexTr_any sv ws hwf w hws
  clear hwf hws
  go_enter Tryd.func86, Tryd.ntmps86
  go_wp2_with (go_at_call 92; refine HC.mono ?_; rintro e W1 ⟨r, rfl, hd, hb1⟩)
  go_ret
  first | exact ⟨ret_boolR hd, hb1⟩ | exact ⟨rfl, hb1⟩

set_option maxRecDepth 100000 in
set_option maxHeartbeats 1000000 in
theorem implValidTrees_any (sv : Value) (ts : List Tr) (hwf : ∀ x ∈ ts, TrWf x) (w : World) (hts : TreesAt w sv ts) :
    Calls Tryd.prog 71 #[sv] w fun e w' => e = .returned (.bool (okTs ts)) ∧ Below w.heap.size w w' := by
  have HC := Lib.hid (fun w h => containsTr_any sv ts hwf w h)
  have HW := Lib.hid hts
  obtain ⟨a, cap, rfl, hl1, hl2, _⟩ := hts
  unfold maxLen at hl2
  clear hwf
  by_cases h8 : ts.length ≤ 8
  · have eo : okTs ts = ts.all fitT := by simp [okTs, h8]
    rw [eo]
    generalize ts.all fitT = ok at *
    have z8 : ((ts.length : Nat) : Int) ≤ 8 := by omega
    clear eo
    go_enter Tryd.func71, Tryd.ntmps71
    go_wp2_with (go_at_call 86; refine (HC.out _ HW.out).mono ?_; rintro e W1 ⟨rfl, hb1⟩)
    go_ret
    exact ⟨ret_boolR (by simp), hb1⟩
  · have eo : okTs ts = false := by simp [okTs, h8]
    rw [eo]
    have z8 : (8 : Int) < ((ts.length : Nat) : Int) := by omega
    clear eo HC
    go_enter Tryd.func71, Tryd.ntmps71
    go_wp2
    go_ret
    exact ⟨rfl, Below.refl _ _⟩

end Go.Proofs.YtpcmcopfdghdgaaDoor

namespace Go.Proofs.YtpcmcopfdghdgaaDoor
open Go.RowKit

attribute [local go_sem] run_store_f

theorem fit_split (x : Tr) : (inI 0 255 x.1 = false ∧ fitT x = false) ∨ (inI 0 255 x.1 = true ∧ inI 0 128 x.2.1 = false ∧ fitT x = false) ∨ (inI 0 255 x.1 = true ∧ inI 0 128 x.2.1 = true ∧ inI 0 64 x.2.2 = fitT x) := by
  unfold fitT
  cases inI 0 255 x.1 <;> cases inI 0 128 x.2.1 <;> simp
theorem okTs_all {ts : List Tr} (h : ts.all fitT = true) : okTs ts = decide ((ts.length : Int) ≤ 8) := by
  unfold okTs
  rw [h, Bool.and_true, Bool.eq_iff_iff, decide_eq_true_iff, decide_eq_true_iff]; omega
theorem okTs_bad {ts : List Tr} {x : Tr} {k : Nat} (h : ts[k]? = some x) (hf : fitT x = false) : okTs ts = false := by
  unfold okTs
  have hall : ts.all fitT = false := by
    rw [Bool.eq_false_iff]
    intro ha
    have := List.all_eq_true.1 ha x (List.mem_of_getElem? h)
    rw [hf] at this; cases this
  rw [hall, Bool.and_false]
theorem l00In_tr (a lo hi : Int) (r : Bool) (h : inI lo hi a = r) (w : World) : Calls Tryd.prog 55 #[.int .i64 a, .int .i64 lo, .int .i64 hi] w fun e w' => e = .returned (.bool r) ∧ w = w' := by subst h; exact l00In_ban a lo hi w
theorem facedT_is (a : Int) (r : Bool) (h : inI 0 255 a = r) (w : World) : Calls Tryd.prog 29 #[.int .i64 a] w fun e w' => e = .returned (.bool r) ∧ w = w' := by subst h; exact facedT_any a w

set_option maxRecDepth 100000 in
set_option maxHeartbeats 8000000 in
theorem l04Trees_any (sv : Value) (ts : List Tr) (hwf : ∀ x ∈ ts, TrWf x) (w : World) (hts : TreesAt w sv ts) :
    Calls Tryd.prog 69 #[sv] w fun e w' => e = .returned (.bool (okTs ts)) ∧ Below w.heap.size w w' := by
  have HW := Lib.hid hts
  have HF := Lib.hid hwf
  obtain ⟨a, cap, rfl, hl1, hl2, _⟩ := hts
  unfold maxLen at hl2
  generalize hn : ts.length = n at *
  have HN := Lib.hid hn
  clear hn hwf
  go_enter Tryd.func69, Tryd.ntmps69
  go_wp2
  go_loopw [3] (fun i wr => ∃ k : Nat, k ≤ n ∧ i = .int .i64 k ∧ Below w.heap.size w wr ∧ (ts.take k).all fitT = true) (fun i _ => n - (intOf i).toNat)
  case atStart => exact ⟨0, Nat.zero_le _, rfl, Below.refl _ _, rfl⟩
  case round =>
    obtain ⟨k, hk, rfl, hb, hall⟩ := hrel
    have HA := Lib.hid hall
    clear hall
    by_cases hlt : k < n
    · have hx : ts[k]? = some (ts[k]'(by rw [HN.out]; exact hlt)) := List.getElem?_eq_getElem _
      obtain ⟨g, o, rfl, hc⟩ := tree_at (trees_below HW.out hb) hx
      have HC := Lib.hid hc
      have hts : ts.take (k + 1) = ts.take k ++ [ts[k]'(by rw [HN.out]; exact hlt)] := by rw [List.take_succ_eq_append_getElem]
      have HT := Lib.hid hts
      have hwx := HF.out _ (List.mem_of_getElem? hx)
      generalize (ts[k]'(by rw [HN.out]; exact hlt)) = x at *
      have HD := Lib.hid hx
      obtain ⟨⟨x0, x1⟩, ⟨y0, y1⟩, u0, u1⟩ := hwx
      have z1 : (k : Int) < (n : Int) := by omega
      have z2 : (0 : Int) ≤ (k : Int) := by omega
      clear hc hts hx
      rcases fit_split x with ⟨e0, ef⟩ | ⟨e0, e1, ef⟩ | ⟨e0, e1, ef⟩
      · have E0 := Lib.hid e0
        have EF := Lib.hid ef
        clear e0 ef
        go_upto_region 5 with (first | (refine wpList_load_cells rfl 85 _ rfl g (o + k * 3) 3 rfl _ Tryd.underlying85 rfl info_tree (treeC x) rfl HC.out ?_) | (refine wpList_store_part rfl 85 _ _ rfl _ 0 (treeC x) rfl rfl 85 _ (heap_alloc_new _ _) (by kernel_rfl) (Nat.le_refl _) (tree_one _) ?_; rw [laid_allr _ _ (by rfl)]))
        refine abs_world (fun V => Below w.heap.size w V ∧ V.heap[wr.heap.size]? = some (.cells (treeC x) 85 (0, 0))) ⟨below_setRow (hb.alloc hb.size _) hb.size _, setRow_heap _ _ _ _ _ _ (heap_alloc_new _ _)⟩ ?_
        rintro V ⟨hbv, hr⟩
        obtain ⟨k0, k1, k2⟩ := tree_cells hr
        clear hr
        generalize wr.heap.size = tb at *
        go_wp2_with (go_at_call 29; refine (facedT_is _ _ E0.out _).mono ?_; rintro e w' ⟨rfl, rfl⟩)
        go_ret
        exact ⟨by rw [okTs_bad HD.out EF.out]; rfl, hbv⟩
      · have E0 := Lib.hid e0
        have E1 := Lib.hid e1
        have EF := Lib.hid ef
        have E2 := E1
        clear e0 e1 ef
        go_upto_region 5 with (first | (refine wpList_load_cells rfl 85 _ rfl g (o + k * 3) 3 rfl _ Tryd.underlying85 rfl info_tree (treeC x) rfl HC.out ?_) | (refine wpList_store_part rfl 85 _ _ rfl _ 0 (treeC x) rfl rfl 85 _ (heap_alloc_new _ _) (by kernel_rfl) (Nat.le_refl _) (tree_one _) ?_; rw [laid_allr _ _ (by rfl)]))
        refine abs_world (fun V => Below w.heap.size w V ∧ V.heap[wr.heap.size]? = some (.cells (treeC x) 85 (0, 0))) ⟨below_setRow (hb.alloc hb.size _) hb.size _, setRow_heap _ _ _ _ _ _ (heap_alloc_new _ _)⟩ ?_
        rintro V ⟨hbv, hr⟩
        obtain ⟨k0, k1, k2⟩ := tree_cells hr
        clear hr
        generalize wr.heap.size = tb at *
        go_wp2_with (first | (go_at_call 29; refine (facedT_is _ _ E0.out _).mono ?_; rintro e w' ⟨rfl, rfl⟩) | (go_at_call 55; refine (l00In_ban _ _ _ _).mono ?_; (first | rw [E1.out] | rw [E2.out]); rintro e w' ⟨rfl, rfl⟩))
        go_ret
        exact ⟨by rw [okTs_bad HD.out EF.out]; rfl, hbv⟩
      · cases hft : fitT x with
        | true =>
          rw [hft] at ef
          have E0 := Lib.hid e0
          have E1 := Lib.hid e1
          have E2 := Lib.hid ef
          have EF := Lib.hid hft
          clear e0 e1 ef hft
          go_upto_region 5 with (first | (refine wpList_load_cells rfl 85 _ rfl g (o + k * 3) 3 rfl _ Tryd.underlying85 rfl info_tree (treeC x) rfl HC.out ?_) | (refine wpList_store_part rfl 85 _ _ rfl _ 0 (treeC x) rfl rfl 85 _ (heap_alloc_new _ _) (by kernel_rfl) (Nat.le_refl _) (tree_one _) ?_; rw [laid_allr _ _ (by rfl)]))
          refine abs_world (fun V => Below w.heap.size w V ∧ V.heap[wr.heap.size]? = some (.cells (treeC x) 85 (0, 0))) ⟨below_setRow (hb.alloc hb.size _) hb.size _, setRow_heap _ _ _ _ _ _ (heap_alloc_new _ _)⟩ ?_
          rintro V ⟨hbv, hr⟩
          obtain ⟨k0, k1, k2⟩ := tree_cells hr
          clear hr
          generalize wr.heap.size = tb at *
          go_wp2_with (first | (go_at_call 29; refine (facedT_is _ _ E0.out _).mono ?_; rintro e w' ⟨rfl, rfl⟩) | (go_at_call 55; refine (l00In_ban _ _ _ _).mono ?_; (first | rw [E1.out] | rw [E2.out]); rintro e w' ⟨rfl, rfl⟩))
          go_roundw
          case rel => exact ⟨k + 1, by omega, by go_num, hbv, by rw [HT.out, List.all_append, HA.out]; simp [EF.out]⟩
          case measure => simp [intOf]; omega
        | false =>
          rw [hft] at ef
          have E0 := Lib.hid e0
          have E1 := Lib.hid e1
          have E2 := Lib.hid ef
          have EF := Lib.hid hft
          clear e0 e1 ef hft
          go_upto_region 5 with (first | (refine wpList_load_cells rfl 85 _ rfl g (o + k * 3) 3 rfl _ Tryd.underlying85 rfl info_tree (treeC x) rfl HC.out ?_) | (refine wpList_store_part rfl 85 _ _ rfl _ 0 (treeC x) rfl rfl 85 _ (heap_alloc_new _ _) (by kernel_rfl) (Nat.le_refl _) (tree_one _) ?_; rw [laid_allr _ _ (by rfl)]))
          refine abs_world (fun V => Below w.heap.size w V ∧ V.heap[wr.heap.size]? = some (.cells (treeC x) 85 (0, 0))) ⟨below_setRow (hb.alloc hb.size _) hb.size _, setRow_heap _ _ _ _ _ _ (heap_alloc_new _ _)⟩ ?_
          rintro V ⟨hbv, hr⟩
          obtain ⟨k0, k1, k2⟩ := tree_cells hr
          clear hr
          generalize wr.heap.size = tb at *
          go_wp2_with (first | (go_at_call 29; refine (facedT_is _ _ E0.out _).mono ?_; rintro e w' ⟨rfl, rfl⟩) | (go_at_call 55; refine (l00In_ban _ _ _ _).mono ?_; (first | rw [E1.out] | rw [E2.out]); rintro e w' ⟨rfl, rfl⟩))
          go_ret
          exact ⟨by rw [okTs_bad HD.out EF.out]; rfl, hbv⟩
    · obtain rfl : k = n := by omega
      have hall := HA.out
      rw [List.take_of_length_le (by rw [HN.out]; exact Nat.le_refl _)] at hall
      have HL := Lib.hid (okTs_all hall)
      have hnn := HN.out
      rw [hnn] at HL
      clear hall hnn
      go_wp2
      go_ret
      exact ⟨ret_boolR HL.out.symm, hb⟩

end Go.Proofs.YtpcmcopfdghdgaaDoor

namespace Go.Proofs.YtpcmcopfdghdgaaDoor
open Go.ChangeShapes Go.WideShapes Go.ChangeAt Go.RowKit Go.Deep Go.Joins

attribute [local go_sem] run_store_f

/-- Awning, as cells. -/
def awC (o : Nat) (dr : Nat) (gp : Nat) (tl : Nat) : Array Value := #[.float .f32 o, .float .f32 dr, .float .f32 gp, .float .f32 tl]

def AwWf (o : Nat) (dr : Nat) (gp : Nat) (tl : Nat) : Prop := (Lit.float .f32 o).wf = true ∧ (Lit.float .f32 dr).wf = true ∧ (Lit.float .f32 gp).wf = true ∧ (Lit.float .f32 tl).wf = true





theorem aw_fits (o : Nat) (dr : Nat) (gp : Nat) (tl : Nat) : 0 + 4 ≤ (awC o dr gp tl).size := Nat.le_refl _

theorem aw_all (o : Nat) (dr : Nat) (gp : Nat) (tl : Nat) : (awC o dr gp tl).extract 0 (0 + 4) = awC o dr gp tl := rfl

theorem aw_one (o : Nat) (dr : Nat) (gp : Nat) (tl : Nat) : ∀ v ∈ awC o dr gp tl, v.oneCell' = true := by
  intro v hv
  simp only [awC, List.mem_toArray, List.mem_cons, List.not_mem_nil, or_false] at hv
  rcases hv with rfl | rfl | rfl | rfl <;> rfl

theorem aw_cells {o : Nat} {dr : Nat} {gp : Nat} {tl : Nat} {W : World} {b : Nat} {T : TypeId} {fr : Nat × Nat} (h : W.heap[b]? = some (.cells (awC o dr gp tl) T fr)) :
    W.cell? ⟨b, 0, none⟩ = some (.float .f32 o) ∧ W.cell? ⟨b, 1, none⟩ = some (.float .f32 dr) ∧ W.cell? ⟨b, 2, none⟩ = some (.float .f32 gp) ∧ W.cell? ⟨b, 3, none⟩ = some (.float .f32 tl) :=
  ⟨by rw [cell_of_row W _ _ _ _ _ h]; rfl, by rw [cell_of_row W _ _ _ _ _ h]; rfl, by rw [cell_of_row W _ _ _ _ _ h]; rfl, by rw [cell_of_row W _ _ _ _ _ h]; rfl⟩

end Go.Proofs.YtpcmcopfdghdgaaDoor

namespace Go.Proofs.YtpcmcopfdghdgaaDoor
open Go Go.RowKit

theorem alloc_at (w : World) (o : Obj) (i : Nat) : (w.alloc o).heap[i]? = if i = w.heap.size then some o else w.heap[i]? := by
  show (w.heap.push o)[i]? = _
  exact Array.getElem?_push
theorem box2 (w : World) (a b : Obj) : ((w.alloc a).alloc b).heap[w.heap.size]? = some a ∧ ((w.alloc a).alloc b).heap[w.heap.size + 1]? = some b ∧ Below w.heap.size w ((w.alloc a).alloc b) := by
  refine ⟨?_, ?_, ((Below.refl _ _).alloc (Nat.le_refl _) _).alloc (by simp) _⟩
  all_goals simp only [alloc_at, World.size_alloc]
  · rw [if_neg (by omega), if_true]
  · rw [if_true]
theorem box3 (w : World) (a b c : Obj) : (((w.alloc a).alloc b).alloc c).heap[w.heap.size]? = some a ∧ (((w.alloc a).alloc b).alloc c).heap[w.heap.size + 1]? = some b ∧ (((w.alloc a).alloc b).alloc c).heap[w.heap.size + 1 + 1]? = some c ∧ Below w.heap.size w (((w.alloc a).alloc b).alloc c) := by
  refine ⟨?_, ?_, ?_, (((Below.refl _ _).alloc (Nat.le_refl _) _).alloc (by simp) _).alloc (by simp; omega) _⟩
  all_goals simp only [alloc_at, World.size_alloc]
  · rw [if_neg (by omega), if_neg (by omega), if_true]
  · rw [if_neg (by omega), if_true]
  · rw [if_true]
theorem box4 (w : World) (a b c d : Obj) : ((((w.alloc a).alloc b).alloc c).alloc d).heap[w.heap.size]? = some a ∧ ((((w.alloc a).alloc b).alloc c).alloc d).heap[w.heap.size + 1]? = some b ∧ ((((w.alloc a).alloc b).alloc c).alloc d).heap[w.heap.size + 1 + 1]? = some c ∧ ((((w.alloc a).alloc b).alloc c).alloc d).heap[w.heap.size + 1 + 1 + 1]? = some d ∧ Below w.heap.size w ((((w.alloc a).alloc b).alloc c).alloc d) := by
  refine ⟨?_, ?_, ?_, ?_, ((((Below.refl _ _).alloc (Nat.le_refl _) _).alloc (by simp) _).alloc (by simp; omega) _).alloc (by simp; omega) _⟩
  all_goals simp only [alloc_at, World.size_alloc]
  · rw [if_neg (by omega), if_neg (by omega), if_neg (by omega), if_true]
  · rw [if_neg (by omega), if_neg (by omega), if_true]
  · rw [if_neg (by omega), if_true]
  · rw [if_true]
theorem cell_belowB {W W' : World} (hb : Below W.heap.size W W') {a : Addr} {v : Value} (h : W.cell? a = some v) : W'.cell? a = some v :=
  (hb.cell (World.block_lt_of_cell? W a h)).trans h

theorem wpList_load_partG {P : Program} {ops : Array Oper} {rest : List Oper} {o : Oper} {a : Act} {w : World} {Q : Exit → Act → World → Prop} (ty : TypeId) (x : Operand) (ho : o.op = .load ty x)
    (g off n : Nat) (hx : a.eval x = .pointer (some ⟨g, off, none⟩)) (hw : Region.wanted o (yielded ops a.tmps) = true) (t : TypeId) (cs : Array Value) (fr : Nat × Nat) (d : TypeDesc) (hg : w.heap[g]? = some (.cells cs t fr))
    (hu : P.underlying ty = some d) (hd : (match d with | .struct _ | .array _ _ => true | _ => false) = true) (hi : (P.info? ty).map (·.size) = some n) (hn : off + n ≤ cs.size)
    (vs : Array Value) (hvs : cs.extract off (off + n) = vs) (h : wpList P ops Q rest (a.put o.dst (.agg vs)) w) : wpList P ops Q (o :: rest) a w := by
  subst hvs
  refine wpList_step fun K hK => ?_
  simp only [hw, if_true]
  unfold Oper.wp execOp
  simp only [ho, hx, Instr.loadAt, Instr.sureAddr, Sem.run_bind, Sem.run_pure, Result.andThen_ok, run_loadVar_part w g off n t ty cs fr d hg hu hd hi hn]
  exact hK _ _ h

end Go.Proofs.YtpcmcopfdghdgaaDoor
