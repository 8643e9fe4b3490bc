/-
  Bsame, SameF, BgA, BgE, Near, BgB, BgC, EtJ, Open.
-/
import Derived.Test.YtdccmdcgbembpaaDoorLaw
import Derived.WalkSpells
import Derived.WalkLawsBesides
import Derived.Lib.Hide
import Derived.Great.BuildSlice
import Derived.Laws.StructEq
import Derived.StillTailTactics
import Derived.Test.YtdccmdcgbembpaaDoorEtH
import Derived.Test.YtdccmdcgbembpaaDoorEtF
import Derived.Test.YtdccmdcgbembpaaDoorTake
import Derived.Test.YtdccmdcgbembpaaDoorBlk
import Derived.Test.YtdccmdcgbembpaaDoorRoomV
import Derived.Test.YtdccmdcgbembpaaDoorCode
import Derived.Test.YtdccmdcgbembpaaDoorEtD
import Derived.Test.YtdccmdcgbembpaaDoorEtI
import Derived.Test.YtdccmdcgbembpaaDoorEtG
import Derived.Test.YtdccmdcgbembpaaDoorSameN
import Derived.Test.YtdccmdcgbembpaaDoorSun

namespace Go.Proofs.YtdccmdcgbembpaaDoor
open Go.ChangeShapes Go.WideShapes Go.ChangeAt Go.RowKit

theorem run_bits (a : Nat) (w : World) : (callFunc 143 #[.float .f32 a]).run Tryd.prog w = .ok (.value (.int .u32 a)) w := by kernel_rfl

theorem order_selfB (a : Nat) : FloatKind.f32.format.order a a = some .eq ∨ FloatKind.f32.format.order a a = none := by
  show (Ieee.single.read a).order (Ieee.single.read a) = some .eq ∨ _
  generalize hd : Ieee.single.read a = d
  have e : FloatKind.f32.format.order a a = d.order d := by show (Ieee.single.read a).order (Ieee.single.read a) = _; rw [hd]
  rw [e]
  cases d with
  | number s m e => left; simp [Ieee.Datum.order]
  | infinity s => left; simp [Ieee.Datum.order]
  | nan s f => right; rfl

set_option maxHeartbeats 400000 in
theorem numberBits_num (a : Nat) (h : FloatKind.f32.format.order a a = some .eq) (w : World) :
    Calls Tryd.prog 135 #[.float .f32 a] w fun e w' => e = .returned (.int .u32 a) ∧ w = w' := by
  have hb := run_bits a
  go_enter Tryd.func135, Tryd.ntmps135
  go_wp2
  go_ret
  exact ⟨rfl, rfl⟩

set_option maxHeartbeats 400000 in
theorem numberBits_nan (a : Nat) (h : FloatKind.f32.format.order a a = none) (w : World) :
    Calls Tryd.prog 135 #[.float .f32 a] w fun e w' => e = .returned (.int .u32 2143289344) ∧ w = w' := by
  go_enter Tryd.func135, Tryd.ntmps135
  go_wp2
  go_ret
  exact ⟨rfl, rfl⟩

theorem not_nan {a : Nat} (h : FloatKind.f32.format.order a a = some .eq) : ((a : Int) == 2143289344) = false ∧ ((2143289344 : Int) == (a : Int)) = false := by
  have hn : FloatKind.f32.format.order 2143289344 2143289344 = none := by decide +kernel
  have hne : (a : Int) ≠ 2143289344 := fun e => by
    have e' : a = 2143289344 := by omega
    rw [e', hn] at h; cases h
  exact ⟨beq_eq_false_iff_ne.2 hne, beq_eq_false_iff_ne.2 (Ne.symm hne)⟩

end Go.Proofs.YtdccmdcgbembpaaDoor

namespace Go.Proofs.YtdccmdcgbembpaaDoor
open Go.RowKit

/-- The bits of a number, those of every NaN being told. -/
def nbB (a : Nat) : Int := if FloatKind.f32.format.order a a = some .eq then (a : Int) else 2143289344

def sameB (a b : Nat) : Bool := nbB a == nbB b

theorem nbB_num {a : Nat} (h : FloatKind.f32.format.order a a = some .eq) : nbB a = a := if_pos h

theorem nbB_nan {a : Nat} (h : FloatKind.f32.format.order a a = none) : nbB a = 2143289344 := if_neg (by rw [h]; decide)

theorem numberBits_is (a : Nat) (w : World) : Calls Tryd.prog 135 #[.float .f32 a] w fun e w' => e = .returned (.int .u32 (nbB a)) ∧ w = w' := by
  rcases order_selfB a with h | h
  · rw [nbB_num h]; exact numberBits_num a h w
  · rw [nbB_nan h]; exact numberBits_nan a h w

/-- Whether the numbers of two lists are the same, one by one. -/
def sameL (xs ys : List Nat) : Bool := (xs.zip ys).all fun p => sameB p.1 p.2

theorem sameL_take {xs ys : List Nat} {k : Nat} {x y : Nat} (hx : xs[k]? = some x) (hy : ys[k]? = some y) : sameL (xs.take (k + 1)) (ys.take (k + 1)) = (sameL (xs.take k) (ys.take k) && sameB x y) := by
  obtain ⟨h1, rfl⟩ := List.getElem?_eq_some_iff.1 hx
  obtain ⟨h2, rfl⟩ := List.getElem?_eq_some_iff.1 hy
  unfold sameL
  rw [List.take_succ_eq_append_getElem h1, List.take_succ_eq_append_getElem h2, List.zip_append (by simp; omega)]
  simp

theorem sameL_miss {xs ys : List Nat} {k : Nat} {x y : Nat} (hx : xs[k]? = some x) (hy : ys[k]? = some y) (h : sameB x y = false) : sameL xs ys = false := by
  unfold sameL
  rw [Bool.eq_false_iff]
  intro ha
  have hm : (x, y) ∈ xs.zip ys := List.mem_iff_getElem?.2 ⟨k, by rw [List.getElem?_zip_eq_some]; exact ⟨hx, hy⟩⟩
  have := List.all_eq_true.1 ha _ hm
  rw [h] at this
  cases this

end Go.Proofs.YtdccmdcgbembpaaDoor

namespace Go.Proofs.YtdccmdcgbembpaaDoor
open Go.ChangeShapes Go.WideShapes Go.ChangeAt Go.RowKit Go.Deep Go.Joins

attribute [local go_sem] run_store_floatE

def u32m (xs : List Int) : Array Value := (xs.map (Value.int .u32)).toArray

theorem u32m_size (xs : List Int) : (u32m xs).size = xs.length := by simp [u32m]

theorem u32m_get (xs : List Int) (k : Nat) (h : k < xs.length) : (u32m xs)[k]? = some (.int .u32 (xs[k]?.getD 0)) := by simp [u32m, h]

theorem u32m_one (xs : List Int) : ∀ v ∈ u32m xs, v.oneCell' = true := by
  intro v hv
  simp only [u32m, List.mem_toArray, List.mem_map] at hv
  obtain ⟨x, _, rfl⟩ := hv
  rfl

theorem u32m_set (xs : List Int) (k : Nat) (n : Int) : (u32m xs).setIfInBounds k (.int .u32 n) = u32m (xs.set k n) := by
  apply Array.ext'
  simp [u32m, List.map_set]

theorem u32m_all (xs : List Int) (n : Nat) (h : xs.length = n) : (u32m xs).extract 0 (0 + n) = u32m xs := by
  rw [Nat.zero_add, ← h, ← u32m_size, Array.extract_size]

theorem info_u2 : (Tryd.prog.info? 164).map (·.size) = some 100 := by kernel_rfl

def rowI (xs : List Int) (k : Nat) : List Int := (xs.drop (k * 10)).take 10

theorem rowI_len (xs : List Int) (hx : xs.length = 100) (k : Nat) (hk : k < 10) : (rowI xs k).length = 10 := by
  unfold rowI
  rw [List.length_take, List.length_drop, hx]
  omega

theorem rowI_all (xs : List Int) (k : Nat) : (u32m xs).extract (k * 10) (k * 10 + 10) = u32m (rowI xs k) := by
  apply Array.ext'
  simp only [u32m, rowI, Array.toList_extract, List.map_take, List.map_drop]
  simp

theorem rowI_get (xs : List Int) (k x : Nat) (hx : x < 10) : (rowI xs k)[x]? = xs[k * 10 + x]? := by
  unfold rowI
  rw [List.getElem?_take_of_lt hx, List.getElem?_drop]

theorem rowM_get (xs : List Nat) (k x : Nat) (hx : x < 10) : (rowM xs k)[x]? = xs[k * 10 + x]? := by
  unfold rowM
  rw [List.getElem?_take_of_lt hx, List.getElem?_drop]

theorem size_f32G (w : World) : (sizeOf 29).run Tryd.prog w = .ok 1 w := by kernel_rfl

theorem agg_f32G (w : World) : (isAgg 29).run Tryd.prog w = .ok false w := by kernel_rfl

theorem size_rowG (w : World) : (sizeOf 92).run Tryd.prog w = .ok 10 w := by kernel_rfl

theorem agg_rowG (w : World) : (isAgg 92).run Tryd.prog w = .ok true w := by kernel_rfl

theorem size_u32G (w : World) : (sizeOf 141).run Tryd.prog w = .ok 1 w := by kernel_rfl

theorem agg_u32G (w : World) : (isAgg 141).run Tryd.prog w = .ok false w := by kernel_rfl

theorem size_u1G (w : World) : (sizeOf 163).run Tryd.prog w = .ok 10 w := by kernel_rfl

theorem agg_u1G (w : World) : (isAgg 163).run Tryd.prog w = .ok true w := by kernel_rfl

theorem run_index_rowG (xs : List Nat) (k : Nat) (hk : k < 10) (w : World) : (Instr.index 94 (.agg (mpC xs)) (.int .i64 (k : Int))).run Tryd.prog w = .ok (.agg (mpC (rowM xs k))) w := by
  have h0 : (0 : Int) ≤ (k : Int) ∧ (k : Int) < ((10 : Nat) : Int) := ⟨Int.natCast_nonneg _, by omega⟩
  unfold Instr.index
  simp only [asIntOf, Sem.run_bind, Sem.run_pure, Result.andThen_ok, run_underlying Tryd.underlying94, if_pos h0, size_rowG, Int.toNat_natCast]
  unfold part
  rw [Sem.run_bind, agg_rowG]
  simp only [Result.andThen_ok, if_true]
  rw [Sem.run_bind, size_rowG]
  rw [← rowM_all]
  rfl

theorem run_index_f10 (xs : List Nat) (hx : xs.length = 10) (k : Nat) (hk : k < 10) (w : World) : (Instr.index 92 (.agg (mpC xs)) (.int .i64 (k : Int))).run Tryd.prog w = .ok (.float .f32 (xs[k]?.getD 0)) w := by
  have h0 : (0 : Int) ≤ (k : Int) ∧ (k : Int) < ((10 : Nat) : Int) := ⟨Int.natCast_nonneg _, by omega⟩
  have hg : (mpC xs)[k]? = some (.float .f32 (xs[k]?.getD 0)) := by simp [mpC, hx, hk]
  unfold Instr.index
  simp only [asIntOf, Sem.run_bind, Sem.run_pure, Result.andThen_ok, run_underlying Tryd.underlying92, if_pos h0, size_f32G, Int.toNat_natCast, Nat.mul_one]
  unfold part
  rw [Sem.run_bind, agg_f32G]
  simp only [Result.andThen_ok, Bool.false_eq_true, if_false, hg]
  rfl

theorem part_u32G (xs : List Int) (i : Nat) (h : i < xs.length) (w : World) : (part 141 (u32m xs) i).run Tryd.prog w = .ok (.int .u32 (xs[i]?.getD 0)) w := by
  unfold part
  rw [Sem.run_bind, agg_u32G]
  simp only [Result.andThen_ok, Bool.false_eq_true, if_false, u32m_get xs i h]
  rfl

theorem part_u1G (xs : List Int) (i : Nat) (w : World) : (part 163 (u32m xs) (i * 10)).run Tryd.prog w = .ok (.agg (u32m (rowI xs i))) w := by
  unfold part
  rw [Sem.run_bind, agg_u1G]
  simp only [Result.andThen_ok, if_true]
  rw [Sem.run_bind, size_u1G]
  rw [← rowI_all]
  rfl

theorem eq_loopG (d : Nat) (xs ys : List Int) (w : World) : ∀ (is : List Nat), (∀ i ∈ is, i < xs.length ∧ i < ys.length) →
    (forIn is ((none, ()) : Option Bool × Unit) (fun i _ => do
      if (!(← Op.equalIn (d + 1) 141 (← part 141 (u32m xs) (i * 1)) (← part 141 (u32m ys) (i * 1)))) = true then pure (ForInStep.done (some false, ()))
      else pure (ForInStep.yield (none, ())))).run Tryd.prog w = .ok (if is.all (fun i => xs[i]?.getD 0 == ys[i]?.getD 0) then (none, ()) else (some false, ())) w
  | [], _ => rfl
  | i :: is, h => by
    have hi := h i (by simp)
    have ih := eq_loopG d xs ys w is (fun j hj => h j (by simp [hj]))
    rw [List.forIn_cons]
    simp only [Nat.mul_one] at ih ⊢
    simp only [Sem.run_bind, part_u32G xs i hi.1, part_u32G ys i hi.2, Result.andThen_ok, run_equalIn_int w d 141 .u32 .u32 _ _ Tryd.underlying141]
    cases hc : (xs[i]?.getD 0 == ys[i]?.getD 0)
    · simp [hc]
    · simp only [Bool.not_true, Bool.false_eq_true, if_false, Sem.run_pure, Result.andThen_ok, List.all_cons, hc, Bool.true_and]
      exact ih

def eqR (xs ys : List Int) : Bool := (List.range' 0 10).all (fun i => xs[i]?.getD 0 == ys[i]?.getD 0)

theorem run_eql_r (xs ys : List Int) (hx : xs.length = 10) (hy : ys.length = 10) (w : World) :
    (Op.equalIn 9999 163 (.agg (u32m xs)) (.agg (u32m ys))).run Tryd.prog w = .ok (eqR xs ys) w := by
  have hl := eq_loopG 9997 xs ys w (List.range' 0 10) (fun i hi => by simp [List.mem_range'] at hi; omega)
  rw [Op.equalIn.eq_def]
  simp only [Sem.run_bind, run_underlying Tryd.underlying163, Result.andThen_ok, size_u32G]
  rw [Std.Legacy.Range.forIn_eq_forIn_range']
  have e : (Std.Legacy.Range.mk 0 10 1 (by decide)).size = 10 := by decide
  simp only [e]
  erw [hl]
  unfold eqR
  cases (List.range' 0 10).all (fun i => xs[i]?.getD 0 == ys[i]?.getD 0) <;> rfl

theorem eq_loopM (xs ys : List Int) (hx : xs.length = 100) (hy : ys.length = 100) (w : World) : ∀ (is : List Nat), (∀ i ∈ is, i < 10) →
    (forIn is ((none, ()) : Option Bool × Unit) (fun i _ => do
      if (!(← Op.equalIn 9999 163 (← part 163 (u32m xs) (i * 10)) (← part 163 (u32m ys) (i * 10)))) = true then pure (ForInStep.done (some false, ()))
      else pure (ForInStep.yield (none, ())))).run Tryd.prog w = .ok (if is.all (fun i => eqR (rowI xs i) (rowI ys i)) then (none, ()) else (some false, ())) w
  | [], _ => rfl
  | i :: is, h => by
    have hi := h i (by simp)
    have ih := eq_loopM xs ys hx hy w is (fun j hj => h j (by simp [hj]))
    rw [List.forIn_cons]
    simp only [Sem.run_bind, part_u1G, Result.andThen_ok, run_eql_r _ _ (rowI_len xs hx i hi) (rowI_len ys hy i hi)]
    cases hc : eqR (rowI xs i) (rowI ys i)
    · simp [hc]
    · simp only [Bool.not_true, Bool.false_eq_true, if_false, Sem.run_pure, Result.andThen_ok, List.all_cons, hc, Bool.true_and]
      simpa only [Sem.run_bind, part_u1G, Result.andThen_ok] using ih

def eqMp (xs ys : List Int) : Bool := (List.range' 0 10).all (fun i => eqR (rowI xs i) (rowI ys i))

theorem run_eql_m (xs ys : List Int) (hx : xs.length = 100) (hy : ys.length = 100) (w : World) :
    (Op.equalIn 10000 164 (.agg (u32m xs)) (.agg (u32m ys))).run Tryd.prog w = .ok (eqMp xs ys) w := by
  have hl := eq_loopM xs ys hx hy w (List.range' 0 10) (fun i hi => by simp [List.mem_range'] at hi; omega)
  rw [Op.equalIn.eq_def]
  simp only [Sem.run_bind, run_underlying Tryd.underlying164, Result.andThen_ok, size_u1G]
  rw [Std.Legacy.Range.forIn_eq_forIn_range']
  have e : (Std.Legacy.Range.mk 0 10 1 (by decide)).size = 10 := by decide
  simp only [e]
  erw [hl]
  unfold eqMp
  cases (List.range' 0 10).all (fun i => eqR (rowI xs i) (rowI ys i)) <;> rfl

theorem eqMp_get {xs ys : List Int} (h : eqMp xs ys = true) {y x : Nat} (hy : y < 10) (hx : x < 10) : xs[y * 10 + x]?.getD 0 = ys[y * 10 + x]?.getD 0 := by
  unfold eqMp at h
  have h1 := List.all_eq_true.1 h y (by simp [List.mem_range']; omega)
  unfold eqR at h1
  have h2 := List.all_eq_true.1 h1 x (by simp [List.mem_range']; omega)
  rw [rowI_get _ _ _ hx, rowI_get _ _ _ hx] at h2
  exact beq_iff_eq.1 h2

/-- The bits of the first numbers, and noughts. -/
def ubK (xs : List Nat) (k : Nat) : List Int := (xs.take k).map nbB ++ List.replicate (100 - k) 0

theorem ubK_len {xs : List Nat} (hx : xs.length = 100) {k : Nat} (hk : k ≤ 100) : (ubK xs k).length = 100 := by
  unfold ubK
  simp [hx]
  omega

theorem ubK_step {xs : List Nat} (hx : xs.length = 100) {k : Nat} (hk : k < 100) : (ubK xs k).set k (nbB (xs[k]?.getD 0)) = ubK xs (k + 1) := by
  unfold ubK
  have e : xs[k]? = some (xs[k]'(by omega)) := List.getElem?_eq_getElem (by omega)
  rw [e, Option.getD_some, List.take_succ_eq_append_getElem (by omega), List.map_append, List.set_append_right _ _ (by simp [hx]; omega)]
  have e2 : 100 - k = (100 - (k + 1)) + 1 := by omega
  have e3 : k - (List.map nbB (List.take k xs)).length = 0 := by simp [hx]; omega
  rw [e3, e2, List.replicate_succ, List.set_cons_zero, List.append_assoc]
  rfl

theorem ubK_all {xs : List Nat} (hx : xs.length = 100) : ubK xs 100 = xs.map nbB := by
  unfold ubK
  rw [List.take_of_length_le (by omega)]
  simp

theorem ubK_zero (xs : List Nat) : ubK xs 0 = List.replicate 100 0 := by simp [ubK]

theorem nbStill (a : Nat) (w : World) : Calls Tryd.prog 135 #[.float .f32 a] w fun e w' => e = .returned (.int .u32 (nbB a)) ∧ w' = w := (numberBits_is a w).mono fun _ _ ⟨h, k⟩ => ⟨h, k.symm⟩

theorem zerosM2 : (Array.replicate 100 (Value.int .u32 0)) = u32m (List.replicate 100 0) := by
  apply Array.ext'
  simp [u32m]

set_option maxRecDepth 100000 in
set_option maxHeartbeats 4000000 in
theorem mbits_any (xs : List Nat) (hx : xs.length = 100) (w : World) :
    Calls Tryd.prog 106 #[.agg (mpC xs)] w fun e w' => e = .returned (.agg (u32m (xs.map nbB))) ∧ Below w.heap.size w w' := by
  have Hx := Lib.hid hx
  clear hx
  go_enter Tryd.func106, Tryd.ntmps106
  go_upto_region 2 with (fail)
  refine abs_code (fun V => V.heap[w.heap.size]? = some (.cells (mpC xs) 94 (0, 0)) ∧ V.heap[w.heap.size + 1]? = some (.cells (u32m (List.replicate 100 0)) 164 (0, 0)) ∧ V.heap[w.heap.size + 1 + 1]? = some (.cells (u32m (List.replicate 100 0)) 164 (0, 0)) ∧ Below w.heap.size w V) ⟨(three_new _ _ _ _).1, (three_new _ _ _ _).2.1, (three_new _ _ _ _).2.2.1, (three_new _ _ _ _).2.2.2⟩ ?_
  rintro V ⟨h0, h1, h2, hb⟩
  have n01 : w.heap.size < w.heap.size + 1 := by omega
  have n12 : w.heap.size + 1 < w.heap.size + 1 + 1 := by omega
  generalize w.heap.size + 1 + 1 = b3 at *
  generalize w.heap.size + 1 = b2 at *
  have H0 := Lib.hid h0
  have H1 := Lib.hid h1
  have H2 := Lib.hid h2
  clear h0 h1 h2
  go_upto_region 3 with (refine wpList_load_part rfl 94 _ rfl w.heap.size 0 100 rfl 94 (mpC xs) (0, 0) _ H0.out Tryd.underlying94 rfl info_lm (by rw [mpC_size, Hx.out]; decide) (mpC xs) (mpC_all _ 100 Hx.out) ?_)
  go_loopw [9] (fun i wr => ∃ y : Nat, y ≤ 10 ∧ i = .int .i64 (y : Int) ∧ wr.heap[b2]? = some (.cells (u32m (List.replicate 100 0)) 164 (0, 0)) ∧ wr.heap[b3]? = some (.cells (u32m (ubK xs (y * 10))) 164 (0, 0)) ∧ Below w.heap.size w wr) (fun i _ => 10 - (intOf i).toNat)
  case atStart => exact ⟨0, Nat.zero_le _, rfl, H1.out, by rw [Nat.zero_mul, ubK_zero]; exact H2.out, hb⟩
  case round =>
    clear H0 H1 H2 hb
    obtain ⟨y, hy, rfl, h1, h2, hb⟩ := hrel
    have H1 := Lib.hid h1
    have H2 := Lib.hid h2
    clear h1 h2
    by_cases hlt : y < 10
    · have hir := fun w => run_index_rowG xs y hlt w
      have HRL := Lib.hid (rowM_len xs Hx.out y hlt)
      have HRG := Lib.hid (fun x (hx : x < 10) => rowM_get xs y x hx)
      have z1 : (y : Int) < 10 := by omega
      have z2 : (0 : Int) ≤ (y : Int) := by omega
      go_upto_region 6 with (first | (refine wpList_store_part rfl 92 _ _ rfl _ 0 (mpC (rowM xs y)) rfl rfl 92 _ (heap_alloc_new _ _) (by rw [mpC_size, HRL.out]; exact info_a1) (by rw [mpC_size, HRL.out]; decide) (mpC_one _) ?_; rw [laid_allwE _ _ (by rw [mpC_size, HRL.out]; rfl)]) | (refine wpList_load_part rfl 92 _ rfl wr.heap.size 0 10 rfl 92 (mpC (rowM xs y)) (0, 0) _ (setRow_heap _ _ _ _ _ _ (heap_alloc_new _ _)) Tryd.underlying92 rfl info_a1 (by rw [mpC_size, HRL.out]; decide) (mpC (rowM xs y)) (mpC_all _ 10 HRL.out) ?_))
      refine abs_world (fun X => X.heap[b2]? = some (.cells (u32m (List.replicate 100 0)) 164 (0, 0)) ∧ X.heap[b3]? = some (.cells (u32m (ubK xs (y * 10))) 164 (0, 0)) ∧ Below w.heap.size w X) ⟨below_row (zbelE _ _ _) H1.out, below_row (zbelE _ _ _) H2.out, hb.trans ((zbelE _ _ _).mono hb.size)⟩ ?_
      clear H1 H2 hb hir
      rintro X ⟨h1, h2, hb⟩
      go_loopw [14] (fun j wq => ∃ x : Nat, x ≤ 10 ∧ j = .int .i64 (x : Int) ∧ wq.heap[b2]? = some (.cells (u32m (List.replicate 100 0)) 164 (0, 0)) ∧ wq.heap[b3]? = some (.cells (u32m (ubK xs (y * 10 + x))) 164 (0, 0)) ∧ Below w.heap.size w wq) (fun j _ => 10 - (intOf j).toNat)
      case atStart => exact ⟨0, Nat.zero_le _, rfl, h1, h2, hb⟩
      case round =>
        clear h1 h2 hb
        obtain ⟨x, hxl, rfl, h1, h2, hb⟩ := hrel
        have H1 := Lib.hid h1
        have H2 := Lib.hid h2
        by_cases hlx : x < 10
        · have hix := fun w => run_index_f10 (rowM xs y) HRL.out x hlx w
          rw [HRG.out x hlx] at hix
          have y1 : (x : Int) < 10 := by omega
          have y2 : (0 : Int) ≤ (x : Int) := by omega
          have HST := Lib.hid (ubK_step Hx.out (show y * 10 + x < 100 by omega))
          have HLN := Lib.hid (ubK_len Hx.out (show y * 10 + x ≤ 100 by omega))
          have hd : wr.cell? ⟨b3, y * 10 + x, none⟩ = some (.int .u32 ((ubK xs (y * 10 + x))[y * 10 + x]?.getD 0)) := by rw [cell_of_row wr _ _ _ _ _ h2, u32m_get _ _ (by rw [HLN.out]; omega)]
          have hf := frozen_of_row wr b3 (y * 10 + x) _ _ h2
          generalize xs[y * 10 + x]?.getD 0 = v at *
          generalize ubK xs (y * 10 + x) = ub at *
          have HVD : Hid (Below wr.heap.size wr wr.drew) := Lib.hid (Below.refl wr.heap.size wr).drew
          clear h1 h2
          go_upto_region 8 with (fail)
          refine wp_region_still_tail 6 (by kernel_rfl) (by kernel_rfl) ?_
          simp only [List.take_succ_cons, List.take_zero, List.drop_succ_cons, List.drop_zero]
          iterate 3 still_step
          still_call (nbStill _ _)
          iterate 2 still_step
          refine wpStill_nil ?_
          go_wp2
          go_roundw
          case rel => exact ⟨x + 1, by omega, by go_num, (heap_setCell_other _ _ _ _ (by simp; omega)).trans H1.out, by show (wr.setCell ⟨b3, y * 10 + x, none⟩ _).heap[b3]? = _; rw [heap_setCell_same _ _ _ _ _ _ H2.out, u32m_set, HST.out]; rfl, (hb.trans (HVD.out.mono hb.size)).setCell (p := ⟨b3, y * 10 + x, none⟩) (by simp; omega) _⟩
          case measure => simp [intOf]; omega
        · obtain rfl : x = 10 := by omega
          go_wp2
          go_roundw
          case rel => exact ⟨y + 1, by omega, by go_num, H1.out, by rw [Nat.add_mul, Nat.one_mul]; exact H2.out, hb⟩
          case measure => simp [intOf]; omega
    · obtain rfl : y = 10 := by omega
      have e24 := ubK_all Hx.out
      have h2 := H2.out
      rw [show 10 * 10 = 100 from rfl, e24] at h2
      have hm : (xs.map nbB).length = 100 := by rw [List.length_map]; exact Hx.out
      have Hm := Lib.hid hm
      replace H2 := Lib.hid h2
      clear h2 e24 hlt hy hm
      obtain ⟨us, hus⟩ : ∃ us, us = xs.map nbB := ⟨_, rfl⟩
      rw [← hus] at H2 Hm
      have HU := Lib.hid hus
      clear hus
      go_wp2_with (first | (refine wpList_load_part rfl 164 _ rfl b3 0 100 rfl 164 (u32m us) (0, 0) _ H2.out Tryd.underlying164 rfl info_u2 (by rw [u32m_size, Hm.out]; decide) (u32m us) (u32m_all _ 100 Hm.out) ?_) | (refine wpList_store_part rfl 164 _ _ rfl b2 0 (u32m us) rfl rfl 164 _ H1.out (by rw [u32m_size, Hm.out]; exact info_u2) (by simp [u32m_size, Hm.out]) (u32m_one _) ?_; rw [laid_allwE _ _ (by simp [u32m_size, Hm.out])]))
      exact bodyPost_ret (results_cell_row rfl _ _ _ _ _ _ _ rfl (setRow_heap _ _ _ _ _ _ H1.out) Tryd.underlying164 rfl (by rw [u32m_size, Hm.out]; exact info_u2)) rfl ⟨by rw [HU.out], below_setRow hb (by omega) _⟩

end Go.Proofs.YtdccmdcgbembpaaDoor

namespace Go.Proofs.YtdccmdcgbembpaaDoor
open Go.ChangeShapes Go.WideShapes Go.ChangeAt Go.RowKit Go.Deep Go.Joins

attribute [local go_sem] run_store_floatE

theorem wpList_buildMM {P : Program} {ops : Array Oper} {rest : List Oper} {o : Oper} {a : Act} {w : World} {Q : Exit → Act → World → Prop} (hg : o.guard = none) (t : TypeId) (parts : Array (Nat × Operand)) (ho : o.op = .build t parts)
    (d : Option Tmp) (hd : o.dst = d) (l : List (Nat × Value)) (hp : parts.toList.map (fun x => (x.1, a.eval x.2)) = l) (cells : Array Value) (hf : P.built t l = some cells)
    (h : wpList P ops Q rest (a.put d (.agg cells)) w) : wpList P ops Q (o :: rest) a w := by
  refine wpList_buildTo hg t parts ho d hd cells ?_ h
  rw [Array.toList_map, ← hf, ← hp]

set_option maxRecDepth 100000 in
set_option maxHeartbeats 4000000 in
theorem isDark_core (xs zm : List Nat) (us zs : List Int) (r : Bool) (hx : xs.length = 100)
    (hq : ∀ w, (Op.equalIn 10000 164 (.agg (u32m us)) (.agg (u32m zs))).run Tryd.prog w = .ok r w)
    (hb1 : ∀ w, Calls Tryd.prog 106 #[.agg (mpC xs)] w fun e w' => e = .returned (.agg (u32m us)) ∧ Below w.heap.size w w')
    (hb2 : ∀ w, Calls Tryd.prog 106 #[.agg (mpC zm)] w fun e w' => e = .returned (.agg (u32m zs)) ∧ Below w.heap.size w w')
    (hzb : Tryd.prog.built 94 [] = some (mpC zm)) (w : World) :
    Calls Tryd.prog 52 #[.agg (mpC xs)] w fun e w' => e = .returned (.bool r) ∧ Below w.heap.size w w' := by
  have hgd := fun w => run_eqGuard_agg (P := Tryd.prog) w .eql 164 (.tmp 4) (.tmp 6) (u32m us) (u32m zs) (by kernel_rfl)
  have HB1 := Lib.hid hb1
  have HB2 := Lib.hid hb2
  have HZB := Lib.hid hzb
  have Hx := Lib.hid hx
  clear hx hb1 hb2 hzb
  go_enter Tryd.func52, Tryd.ntmps52
  go_upto_region 1 with (fail)
  refine abs_code (fun V => V.heap[w.heap.size]? = some (.cells (mpC xs) 94 (0, 0)) ∧ Below w.heap.size w V) ⟨heap_alloc_new _ _, (Below.refl _ _).alloc (Nat.le_refl _) _⟩ ?_
  rintro V ⟨h0, hb⟩
  have H0 := Lib.hid h0
  clear h0
  go_wp2_with (first | (refine wpList_load_part rfl 94 _ rfl w.heap.size 0 100 rfl 94 (mpC xs) (0, 0) _ H0.out Tryd.underlying94 rfl info_lm (by rw [mpC_size, Hx.out]; decide) (mpC xs) (mpC_all _ 100 Hx.out) ?_) | (refine wpList_buildMM rfl 94 _ rfl _ rfl [] rfl (mpC zm) HZB.out ?_) | (go_at_call 106; first | (with_reducible refine (HB1.out _).mono ?_; rintro e W1 ⟨rfl, hb1⟩; replace hb := hb.trans (hb1.mono hb.size); clear hb1) | (with_reducible refine (HB2.out _).mono ?_; rintro e W1 ⟨rfl, hb1⟩; replace hb := hb.trans (hb1.mono hb.size); clear hb1)))
  go_ret
  exact ⟨rfl, hb⟩

theorem isDark_any (xs : List Nat) (hx : xs.length = 100) (w : World) :
    Calls Tryd.prog 52 #[.agg (mpC xs)] w fun e w' => e = .returned (.bool (eqMp (xs.map nbB) (zM.map nbB))) ∧ Below w.heap.size w w' :=
  isDark_core xs zM _ _ _ hx (run_eql_m (xs.map nbB) (zM.map nbB) (by rw [List.length_map]; exact hx) (by rw [List.length_map]; exact zM_len)) (mbits_any xs hx) (mbits_any zM zM_len) (by kernel_rfl) w

/-- A map that is dark has no light. -/
theorem dark_zero {xs : List Nat} (h : eqMp (xs.map nbB) (zM.map nbB) = true) (hx : xs.length = 100) {y x : Nat} (hy : y < 10) (hxl : x < 10) (hn : FloatKind.f32.format.order (xs[y * 10 + x]?.getD 0) (xs[y * 10 + x]?.getD 0) = some .eq) : xs[y * 10 + x]?.getD 0 = 0 := by
  have h1 := eqMp_get h hy hxl
  have hk : y * 10 + x < 100 := by omega
  have e0 : nbB 0 = 0 := by decide +kernel
  have e1 : xs[y * 10 + x]? = some (xs[y * 10 + x]'(by omega)) := List.getElem?_eq_getElem (by omega)
  have e2 : zM[y * 10 + x]? = some 0 := by
    unfold zM
    rw [List.getElem?_replicate]
    rw [if_pos (by omega)]
  rw [List.getElem?_map, List.getElem?_map, e1, e2] at h1
  rw [e1] at hn ⊢
  simp only [Option.map_some, Option.getD_some] at h1 hn ⊢
  rw [nbB_num hn, e0] at h1
  omega

end Go.Proofs.YtdccmdcgbembpaaDoor

namespace Go.Proofs.YtdccmdcgbembpaaDoor
open Go

theorem cut_sign (s : Bool) (n d : Nat) : Ieee.Toward.even.cut s n d = Ieee.Toward.even.cut false n d := by
  unfold Ieee.Toward.cut
  rfl

theorem nearest_sign (s : Bool) (m : Nat) (e : Int) : Ieee.single.nearest s m e = if s then 2147483648 + Ieee.single.nearest false m e else Ieee.single.nearest false m e := by
  have hw : Ieee.single.signWeight = 2147483648 := by decide
  have hword : ∀ r, Ieee.single.word s r = if s then 2147483648 + Ieee.single.word false r else Ieee.single.word false r := by
    intro r
    unfold Ieee.Format.word
    rw [hw]
    cases s <;> rfl
  unfold Ieee.Format.nearest
  by_cases hm : m = 0
  · rw [if_pos hm, if_pos hm]
    exact hword 0
  · rw [if_neg hm, if_neg hm]
    dsimp only
    rw [cut_sign s]
    exact hword _

theorem signed_not (t : Bool) (n k : Nat) : Ieee.signed (!t) n k = - Ieee.signed t n k := by
  unfold Ieee.signed
  cases t <;> simp

theorem sub_num {x y B C : Nat} (hx : isNum x) (hy : isNum y) (hX : (sv x).natAbs ≤ rv B) (hY : (sv y).natAbs ≤ rv B) (hBC : 2 * rv B ≤ rv C) (hC : C < 2139095040) :
    floatBits .sub .f32 x y = some (fsub x y) ∧ isNum (fsub x y) := by
  obtain ⟨s, m, i, hr, hm⟩ := read_num32 hx
  obtain ⟨t, n, j, hq, hn⟩ := read_num32 hy
  rw [← signed_scale s m i (min i j) (Nat.min_le_left _ _)] at hm
  rw [← signed_scale t n j (min i j) (Nat.min_le_right _ _)] at hn
  have h : Ieee.single.sub x y = some (Ieee.single.nearest (if Ieee.signed s m (i - min i j) - Ieee.signed t n (j - min i j) = 0 then (s && !t) else decide (Ieee.signed s m (i - min i j) - Ieee.signed t n (j - min i j) < 0)) (Ieee.signed s m (i - min i j) - Ieee.signed t n (j - min i j)).natAbs (-149 + ((min i j : Nat) : Int))) := by
    unfold Ieee.Format.sub
    rw [hr, hq]
    have e0 : min (-149 + (i : Int)) (-149 + (j : Int)) = -149 + ((min i j : Nat) : Int) := by omega
    have e1 : (-149 + (i : Int) - (-149 + ((min i j : Nat) : Int))).toNat = i - min i j := by omega
    have e2 : (-149 + (j : Int) - (-149 + ((min i j : Nat) : Int))).toNat = j - min i j := by omega
    simp only [Ieee.Datum.opposite, Ieee.Datum.sum, Option.map_some, Ieee.Format.write, e0, e1, e2, signed_not, ← Int.sub_eq_add_neg]
  refine ⟨by unfold fsub; rw [h]; exact h, ?_⟩
  have e1 : fsub x y = (Ieee.single.sub x y).getD 0 := rfl
  rw [h, Option.getD_some] at e1
  generalize hT : Ieee.signed s m (i - min i j) - Ieee.signed t n (j - min i j) = T at *
  have hsv : T * ((2 ^ min i j : Nat) : Int) = sv x - sv y := by rw [← hT, Int.sub_mul, hm, hn]
  have habs : T.natAbs * 2 ^ min i j ≤ rv C := by
    have h1 : (T * ((2 ^ min i j : Nat) : Int)).natAbs = T.natAbs * 2 ^ min i j := by rw [Int.natAbs_mul, Int.natAbs_natCast]
    rw [← h1, hsv]
    omega
  have hR := nearest_rnd T.natAbs (-149 + ((min i j : Nat) : Int)) (min i j) 0 (by omega)
  have hle := rnd_le hR (r := C) (by decide) (by simpa using habs)
  rw [e1]
  generalize (if T = 0 then (s && !t) else decide (T < 0)) = sg
  rw [nearest_sign]
  cases sg
  · rw [if_neg (by simp)]; exact .inl (by omega)
  · rw [if_pos rfl]; exact .inr ⟨by omega, by omega⟩

theorem size_isNum {x : Nat} (h : isNum x) : isNum (sizeB x) := by
  unfold sizeB
  split
  · rcases h with h | ⟨h1, h2⟩
    · exact .inl (by omega)
    · exact .inl (by omega)
  · exact h

/-- Whether a number is less than another one. -/
def ltF (a b : Nat) : Bool := FloatKind.f32.format.order a b == some .lt
/-- The first of several numbers that is least. -/
def firstMin (d : Nat → Nat) : Nat → Nat
  | 0 => 0
  | k + 1 => if ltF (d (k + 1)) (d (firstMin d k)) then k + 1 else firstMin d k
theorem firstMin_le (d : Nat → Nat) : ∀ k, firstMin d k ≤ k
  | 0 => Nat.le_refl _
  | k + 1 => by
    have := firstMin_le d k
    unfold firstMin
    split <;> omega
theorem firstMin_hit {d : Nat → Nat} {k : Nat} (h : ltF (d (k + 1)) (d (firstMin d k)) = true) : firstMin d (k + 1) = k + 1 := by rw [firstMin, if_pos h]
theorem firstMin_miss {d : Nat → Nat} {k : Nat} (h : ltF (d (k + 1)) (d (firstMin d k)) = false) : firstMin d (k + 1) = firstMin d k := by rw [firstMin, if_neg (by rw [h]; decide)]
/-- The order of two finite numbers. -/
theorem order_cases {x y : Nat} (hx : isNum x) (hy : isNum y) : (FloatKind.f32.format.order x y = some .lt ∧ ltF x y = true) ∨ (FloatKind.f32.format.order x y = some .eq ∧ ltF x y = false) ∨ (FloatKind.f32.format.order x y = some .gt ∧ ltF x y = false) := by
  unfold ltF
  rw [order_num hx hy]
  cases compare (sv x) (sv y) <;> simp
theorem order_self {x : Nat} (hx : isNum x) : FloatKind.f32.format.order x x = some .eq := by
  rw [order_num hx hx, Int.compare_eq_eq.2 rfl]

/-- The same, with the first one looked at twice. -/
def bestK (d : Nat → Nat) (k : Nat) : Nat := if k = 0 then 0 else firstMin d (k - 1)
theorem bestK_hit {d : Nat → Nat} {k : Nat} (h : ltF (d k) (d (bestK d k)) = true) : bestK d (k + 1) = k := by
  cases k with
  | zero => rfl
  | succ k => exact firstMin_hit h
theorem bestK_miss {d : Nat → Nat} {k : Nat} (h : ltF (d k) (d (bestK d k)) = false) : bestK d (k + 1) = bestK d k := by
  cases k with
  | zero => rfl
  | succ k => exact firstMin_miss h
theorem bestK_lt (d : Nat → Nat) {k n : Nat} (h : k ≤ n) (hn : 0 < n) : bestK d k < n := by
  unfold bestK
  split
  · exact hn
  · have := firstMin_le d (k - 1)
    omega
theorem bestK_end (d : Nat → Nat) {n : Nat} (hn : 0 < n) : bestK d n = firstMin d (n - 1) := by
  unfold bestK
  rw [if_neg (by omega)]

end Go.Proofs.YtdccmdcgbembpaaDoor

namespace Go.Proofs.YtdccmdcgbembpaaDoor
open Go.ChangeShapes Go.WideShapes Go.ChangeAt Go.RowKit Go.Deep Go.Joins Go.Shelf

attribute [local go_sem] Oper.semAt_some run_store_floatE

def gtB (x y : Nat) : Bool := FloatKind.f32.format.order x y == some .gt

/-- The first of the greatest. -/
def bstK (g : Nat → Nat) : Nat → Nat
  | 0 => 0
  | k + 1 => if gtB (g k) (g (bstK g k)) then k else bstK g k

theorem bstK_lt (g : Nat → Nat) {n : Nat} (hn : 0 < n) : ∀ k, k ≤ n → bstK g k < n
  | 0, _ => hn
  | k + 1, h => by
    rw [bstK]
    split
    · omega
    · exact bstK_lt g hn k (by omega)

theorem bstK_zero {g : Nat → Nat} (n : Nat) (h : ∀ k, k < n → g k = 0) : ∀ k, k ≤ n → bstK g k = 0
  | 0, _ => rfl
  | k + 1, hk => by
    have ih := bstK_zero n h k (by omega)
    rw [bstK, ih, h k (by omega), h 0 (by omega)]
    rw [if_neg (by decide +kernel)]

theorem results_t3 {fn : Func} {p u v : Tmp} (h : fn.results = #[.cell p 28, .tmp u, .tmp v]) (tmps : Array Value) (w : World) (g : Nat) (x y : Int) (hp : tmps.getD p undef = .pointer (some ⟨g, 0, none⟩)) (hg : w.heap[g]? = some (.cells (tileC x y) 28 (0, 0))) :
    (results fn tmps).run Tryd.prog w = .ok (.tuple #[.agg (tileC x y), tmps.getD u undef, tmps.getD v undef]) w := by
  have e := run_loadVar_row w g 28 28 (tileC x y) (0, 0) _ hg Tryd.underlying28 rfl info_tile
  have e0 : (results fn tmps).run Tryd.prog w =
      ((asAddr (tmps.getD p undef)).run Tryd.prog w).andThen fun a w₁ => ((loadVar 28 a).run Tryd.prog w₁).andThen fun x w₂ => .ok (.tuple #[x, tmps.getD u undef, tmps.getD v undef]) w₂ := by
    simp only [results, h]
    simp [Sem.run_bind, Result.andThen]
  rw [e0, hp]
  simp only [asAddr, Sem.run_pure, Result.andThen_ok, e]

theorem run_store_rowG {P : Program} (w : World) (g : Nat) (t : TypeId) (vs old : Array Value) (hg : w.heap[g]? = some (.cells old t (0, 0))) (hs : old.size = vs.size) (h1 : ∀ v ∈ vs, v.oneCell' = true) :
    (storeCells ⟨g, 0, none⟩ vs.toList).run P w = .ok () (w.setRow g vs) := by
  have hst := run_storeCells_at P g 0 t vs.toList 0 old w hg (by simp; omega) (fun v hv => h1 v (by simpa using hv))
  have hl := laid_allwE old vs hs
  unfold laid at hl
  simp only [Nat.add_zero] at hst
  rw [hst]
  simp at hl ⊢
  rw [hl]

theorem wp_onlyG {P : Program} {c : Code} {K : Act → World → Prop} {Q : Exit → Act → World → Prop} {a : Act} {w : World} (h : c.wp P (Exit.then K (fun _ _ _ => False)) a w) : c.wp P (Exit.then K Q) a w :=
  Code.wp_mono (fun e a w h => by cases e <;> first | exact h | exact h.elim) h

theorem tile_z : Tryd.prog.built 28 [] = some (tileC 0 0) := by kernel_rfl

set_option maxRecDepth 100000 in
set_option maxHeartbeats 2000000 in
theorem iBr_n (wd hg : Int) (sv : Value) (ws : List Wn) (e0 e1 e2 e3 : Addr) (w : World) (hws : WinsAt w sv ws) (hE : ErrsAt w e0 e1 e2 e3) (hv : okRm wd hg ws = false) :
    Calls Tryd.prog 14 #[.agg (roomC wd hg sv)] w fun e w' => e = .returned (.tuple #[.agg (tileC 0 0), .float .f32 0, .int .i64 1]) ∧ Below w.heap.size w w' := by
  have HVR : Hid (∀ V, WinsAt V sv ws → Calls Tryd.prog 49 #[.agg (roomC wd hg sv)] V fun e w' => e = .returned (.bool false) ∧ Below V.heap.size V w') := Lib.hid (fun V h => by have := ValidRoom_any wd hg sv ws V h; rw [hv] at this; exact this)
  have HRF : Hid (∀ V, ErrsAt V e0 e1 e2 e3 → Calls Tryd.prog 48 #[.bool false, .bool true, .bool true] V fun e w' => e = .returned (.iface 211 (.pointer (some e0))) ∧ V = w') := Lib.hid (fun V h => refusal_any h false true true)
  have HW := Lib.hid hws
  have HX := Lib.hid hE
  have hn := fun w => run_neq_held_nil (P := Tryd.prog) (w := w) 88 211 (.pointer (some e0)) (by kernel_rfl)
  clear hws hE hv
  go_enter Tryd.func14, Tryd.ntmps14
  go_upto_region 1 with (fail)
  refine abs_world (fun V => V.heap[w.heap.size]? = some (.cells (roomC wd hg sv) 34 (0, 0)) ∧ V.heap[w.heap.size + 1]? = some (.cells (tileC 0 0) 28 (0, 0)) ∧ Below w.heap.size w V) (two_at w (.cells (roomC wd hg sv) 34) (.cells (tileC 0 0) 28)) ?_
  rintro V ⟨h0, h1, hb⟩
  have H0 := Lib.hid h0
  have H1 := Lib.hid h1
  have HV := Lib.hid (wins_below HW.out hb)
  replace HX := Lib.hid (errs_below HX.out hb)
  have n01 : w.heap.size < w.heap.size + 1 := by omega
  have hle1 : w.heap.size ≤ w.heap.size + 1 := by omega
  generalize w.heap.size + 1 = b1 at *
  clear h0 h1
  go_wp2_with (first | (refine wpList_load_part rfl 34 _ rfl w.heap.size 0 3 rfl 34 (roomC wd hg sv) (0, 0) _ H0.out Tryd.underlying34 rfl info_room (room_fits _ _ _) _ (room_all _ _ _) ?_) | (go_at_call 49; refine (HVR.out _ HV.out).mono ?_; rintro e W1 ⟨rfl, hb1⟩; replace H0 := Lib.hid (below_row hb1 H0.out); replace H1 := Lib.hid (below_row hb1 H1.out); replace HV := Lib.hid (wins_below HV.out hb1); replace HX := Lib.hid (errs_below HX.out hb1); replace hb := hb.trans (hb1.mono hb.size); clear hb1) | (go_at_call 48; refine (HRF.out _ HX.out).mono ?_; rintro e W3 ⟨rfl, rfl⟩) | (go_at_call 50; refine (codeOf_any HX.out 1).mono ?_; rintro e W4 ⟨rfl, rfl⟩) | (refine wpList_buildMM rfl 28 _ rfl _ rfl [] rfl (tileC 0 0) tile_z ?_) | (refine wpList_store_part rfl 28 _ _ rfl b1 0 (tileC 0 0) rfl rfl 28 (tileC 0 0) H1.out info_tile (Nat.le_refl _) (tile_one _ _) ?_; rw [laid_allwE _ _ (by rfl)]))
  refine bodyPost_ret (results_t3 rfl _ _ b1 0 0 rfl (setRow_heap _ _ _ _ _ _ H1.out)) rfl ?_
  exact ⟨rfl, below_setRow hb hle1 _⟩

def BgI (W H : Nat) (hW : 0 < W) (hH : 0 < H) (gk : Nat → Nat) (w : World) (sv : Value) (b1 b6 b7 gb : Nat) (mp : List Nat) (pre : List (Tt W H)) (V : World) : Prop :=
  ∃ b : Nat, b < W * H ∧ V.heap[w.heap.size]? = some (.cells (roomC (W : Int) (H : Int) sv) 34 (0, 0)) ∧ V.heap[b1]? = some (.cells (tileC 0 0) 28 (0, 0)) ∧ V.heap[b6]? = some (.cells (mpC mp) 94 (0, 0)) ∧ V.heap[b7]? = some (.cells (tileC ((b % W : Nat) : Int) ((b / W : Nat) : Int)) 28 (0, 0)) ∧ V.heap[gb]? = some (.cells (roomC (W : Int) (H : Int) sv) 34 (0, 0)) ∧ (GoodT W H hW hH pre → b = bstK gk pre.length) ∧ Below w.heap.size w V

theorem bgI_own (W H : Nat) (hW : 0 < W) (hH : 0 < H) (gk : Nat → Nat) (w : World) (sv : Value) (b1 b6 b7 gb : Nat) (mp : List Nat) (B : Nat) (hB : w.heap.size ≤ B) : OwnFrom B (BgI W H hW hH gk w sv b1 b6 b7 gb mp) := by
  intro s V V' row ⟨b, hx, h0, h1, h2, h3, h4, hg, hb⟩ hg' hr
  have hr2 := fun r e => (hr r e).2
  exact ⟨b, hx, heap_keptWE h0 hg' hr2, heap_keptWE h1 hg' hr2, heap_keptWE h2 hg' hr2, heap_keptWE h3 hg' hr2, heap_keptWE h4 hg' hr2, hg, ownFrom_below (β := Unit) (Nat.le_refl _) hB () V V' row hb hg' hr⟩

set_option maxRecDepth 100000 in
set_option maxHeartbeats 8000000 in
theorem iBr_dark (W H : Nat) (hW : 0 < W) (hH : 0 < H) (sv : Value) (ws : List Wn) (hwf : ∀ x ∈ ws, WnWf x) (g : Int × Int → Nat) (hgd : g = fun t => litW (W : Int) (H : Int) t (fun _ => true) ws) (mp : List Nat) (hmp : mp = mpK g W H (W * H)) (gk : Nat → Nat) (hgk : gk = fun k => g (tk W H hW hH k).1) (hcap : ∀ x y : Nat, x < W → y < H → g ((x : Int), (y : Int)) ≤ floatOfInt .f32 (12 : Int)) (e0 e1 e2 e3 : Addr) (w : World) (hws : WinsAt w sv ws) (hE : ErrsAt w e0 e1 e2 e3) (hv : okRm (W : Int) (H : Int) ws = true) (hdk : eqMp (mp.map nbB) (zM.map nbB) = true) :
    Calls Tryd.prog 14 #[.agg (roomC (W : Int) (H : Int) sv)] w fun e w' => e = .returned (.tuple #[.agg (tileC (((bstK gk (W * H)) % W : Nat) : Int) (((bstK gk (W * H)) / W : Nat) : Int)), .float .f32 (gk (bstK gk (W * H))), .int .i64 0]) ∧ Below w.heap.size w w' := by
  have ok := okRm_get hv
  have hW1 : W ≤ 10 := by have := ok.w1; omega
  have hH1 : H ≤ 10 := by have := ok.h1; omega
  have hn0 : 0 < W * H := Nat.mul_pos hW hH
  have HVR : Hid (∀ V, WinsAt V sv ws → Calls Tryd.prog 49 #[.agg (roomC (W : Int) (H : Int) sv)] V fun e w' => e = .returned (.bool true) ∧ Below V.heap.size V w') := Lib.hid (fun V h => by have := ValidRoom_any (W : Int) (H : Int) sv ws V h; rw [hv] at this; exact this)
  have HRF : Hid (∀ V, ErrsAt V e0 e1 e2 e3 → Calls Tryd.prog 48 #[.bool true, .bool true, .bool true] V fun e w' => e = .returned .nilIface ∧ V = w') := Lib.hid (fun V h => refusal_any h true true true)
  have HMO : Hid (∀ V, WinsAt V sv ws → Calls Tryd.prog 51 #[.agg (roomC (W : Int) (H : Int) sv)] V fun e w' => e = .returned (.agg (mpC mp)) ∧ Below V.heap.size V w') := by
    rw [hmp]
    exact fun V h => mapOf_any W H hW hH sv ws ok hwf g hgd V h
  have LM : Hid (mp.length = 100) := by rw [hmp]; exact mpK_len g W H (W * H)
  have HDK : Hid (∀ V, Calls Tryd.prog 52 #[.agg (mpC mp)] V fun e w' => e = .returned (.bool true) ∧ Below V.heap.size V w') := Lib.hid (fun V => by have := isDark_any mp LM.out V; rw [hdk] at this; exact this)
  have HZ : Hid (gk (bstK gk (W * H)) = 0 ∧ bstK gk (W * H) = 0) := Lib.hid (by
    have hz : ∀ k, k < W * H → gk k = 0 := by
      intro k hk
      obtain ⟨x, y, hx, hy, -, e⟩ := tk_split W H hW hH hk
      have hget := mpK_get g W H hW1 hH1 hx hy
      have hc := hcap x y hx hy
      have h12 := cap12
      rw [← hmp] at hget
      have hd := dark_zero hdk LM.out (show y < 10 by omega) (show x < 10 by omega) (by rw [hget]; exact order_self (.inl (by omega)))
      rw [hget] at hd
      rw [hgk]
      show g (tk W H hW hH k).1 = 0
      rw [e]
      exact hd
    have hb := bstK_zero (W * H) hz (W * H) (Nat.le_refl _)
    exact ⟨by rw [hb]; exact hz 0 hn0, hb⟩)
  have HW := Lib.hid hws
  have HX := Lib.hid hE
  have hn := fun w => run_neq_nil_nil (P := Tryd.prog) (w := w) 88 (by kernel_rfl)
  clear hws hE hv hwf hgd ok hmp hgk hcap hdk
  go_enter Tryd.func14, Tryd.ntmps14
  go_upto_region 1 with (fail)
  refine abs_world (fun V => V.heap[w.heap.size]? = some (.cells (roomC (W : Int) (H : Int) sv) 34 (0, 0)) ∧ V.heap[w.heap.size + 1]? = some (.cells (tileC 0 0) 28 (0, 0)) ∧ Below w.heap.size w V) (two_at w (.cells (roomC (W : Int) (H : Int) sv) 34) (.cells (tileC 0 0) 28)) ?_
  rintro V ⟨h0, h1, hb⟩
  have H0 := Lib.hid h0
  have H1 := Lib.hid h1
  have HV := Lib.hid (wins_below HW.out hb)
  replace HX := Lib.hid (errs_below HX.out hb)
  have n01 : w.heap.size < w.heap.size + 1 := by omega
  have hle1 : w.heap.size ≤ w.heap.size + 1 := by omega
  generalize w.heap.size + 1 = b1 at *
  clear h0 h1
  go_upto_region 4 with (first | (refine wpList_load_part rfl 34 _ rfl w.heap.size 0 3 rfl 34 (roomC (W : Int) (H : Int) sv) (0, 0) _ H0.out Tryd.underlying34 rfl info_room (room_fits _ _ _) _ (room_all _ _ _) ?_) | (go_at_call 49; refine (HVR.out _ HV.out).mono ?_; rintro e W1 ⟨rfl, hb1⟩; replace H0 := Lib.hid (below_row hb1 H0.out); replace H1 := Lib.hid (below_row hb1 H1.out); replace HV := Lib.hid (wins_below HV.out hb1); replace HX := Lib.hid (errs_below HX.out hb1); replace hb := hb.trans (hb1.mono hb.size); clear hb1) | (go_at_call 48; refine (HRF.out _ HX.out).mono ?_; rintro e W3 ⟨rfl, rfl⟩))
  clear HX
  go_upto_region 5 with (first | (refine wpList_load_part rfl 34 _ rfl w.heap.size 0 3 rfl 34 (roomC (W : Int) (H : Int) sv) (0, 0) _ H0.out Tryd.underlying34 rfl info_room (room_fits _ _ _) _ (room_all _ _ _) ?_) | (go_at_call 51; refine (HMO.out _ HV.out).mono ?_; rintro e W4 ⟨rfl, hb1⟩; replace H0 := Lib.hid (below_row hb1 H0.out); replace H1 := Lib.hid (below_row hb1 H1.out); replace hb := hb.trans (hb1.mono hb.size); clear hb1) | (refine wpList_store_part rfl 94 _ _ rfl _ 0 (mpC mp) rfl rfl 94 _ (heap_alloc_new _ _) (by rw [mpC_size, LM.out]; exact info_lm) (by rw [mpC_size, LM.out]; decide) (mpC_one _) ?_; rw [laid_allwE _ _ (by rw [mpC_size, LM.out]; rfl)]))
  refine abs_world (fun X => X.heap[w.heap.size]? = some (.cells (roomC (W : Int) (H : Int) sv) 34 (0, 0)) ∧ X.heap[b1]? = some (.cells (tileC 0 0) 28 (0, 0)) ∧ X.heap[W4.heap.size]? = some (.cells (mpC mp) 94 (0, 0)) ∧ Below w.heap.size w X) ⟨below_row (zbelE _ _ _) H0.out, below_row (zbelE _ _ _) H1.out, setRow_heap _ _ _ _ _ _ (heap_alloc_new _ _), below_setRow (hb.alloc hb.size _) hb.size _⟩ ?_
  have l1 := row_lt H1.out
  clear H0 H1 HV hb
  generalize W4.heap.size = b6 at *
  rintro X ⟨h0, h1, h6, hb⟩
  have H0 := Lib.hid h0
  have H1 := Lib.hid h1
  have H6 := Lib.hid h6
  clear h0 h1 h6
  go_wp2_with (first | (refine wpList_load_part rfl 94 _ rfl b6 0 100 rfl 94 (mpC mp) (0, 0) _ H6.out Tryd.underlying94 rfl info_lm (by rw [mpC_size, LM.out]; decide) (mpC mp) (mpC_all _ 100 LM.out) ?_) | (go_at_call 52; refine (HDK.out _).mono ?_; rintro e W5 ⟨rfl, hb1⟩; replace H0 := Lib.hid (below_row hb1 H0.out); replace H1 := Lib.hid (below_row hb1 H1.out); replace H6 := Lib.hid (below_row hb1 H6.out); replace hb := hb.trans (hb1.mono hb.size); clear hb1) | (refine wpList_buildMM rfl 28 _ rfl _ rfl [] rfl (tileC 0 0) tile_z ?_) | (refine wpList_store_part rfl 28 _ _ rfl b1 0 (tileC 0 0) rfl rfl 28 (tileC 0 0) H1.out info_tile (Nat.le_refl _) (tile_one _ _) ?_; rw [laid_allwE _ _ (by rfl)]))
  refine bodyPost_ret (results_t3 rfl _ _ b1 0 0 rfl (setRow_heap _ _ _ _ _ _ H1.out)) rfl ?_
  obtain ⟨e1, e2⟩ := HZ.out
  exact ⟨by rw [e1, e2]; simp, below_setRow hb hle1 _⟩

set_option maxRecDepth 100000 in
set_option maxHeartbeats 8000000 in
theorem iBr_lit (W H : Nat) (hW : 0 < W) (hH : 0 < H) (sv : Value) (ws : List Wn) (hwf : ∀ x ∈ ws, WnWf x) (g : Int × Int → Nat) (hgd : g = fun t => litW (W : Int) (H : Int) t (fun _ => true) ws) (mp : List Nat) (hmp : mp = mpK g W H (W * H)) (gk : Nat → Nat) (hgk : gk = fun k => g (tk W H hW hH k).1) (e0 e1 e2 e3 : Addr) (w : World) (hws : WinsAt w sv ws) (hE : ErrsAt w e0 e1 e2 e3) (hv : okRm (W : Int) (H : Int) ws = true) (hdk : eqMp (mp.map nbB) (zM.map nbB) = false) :
    Calls Tryd.prog 14 #[.agg (roomC (W : Int) (H : Int) sv)] w fun e w' => e = .returned (.tuple #[.agg (tileC (((bstK gk (W * H)) % W : Nat) : Int) (((bstK gk (W * H)) / W : Nat) : Int)), .float .f32 (gk (bstK gk (W * H))), .int .i64 0]) ∧ Below w.heap.size w w' := by
  refine (callsIn_wide (n := 4)).1 ?_
  have ok := okRm_get hv
  have hW1 : W ≤ 10 := by have := ok.w1; omega
  have hH1 : H ≤ 10 := by have := ok.h1; omega
  have hn0 : 0 < W * H := Nat.mul_pos hW hH
  have HVR : Hid (∀ V, WinsAt V sv ws → Calls Tryd.prog 49 #[.agg (roomC (W : Int) (H : Int) sv)] V fun e w' => e = .returned (.bool true) ∧ Below V.heap.size V w') := Lib.hid (fun V h => by have := ValidRoom_any (W : Int) (H : Int) sv ws V h; rw [hv] at this; exact this)
  have HRF : Hid (∀ V, ErrsAt V e0 e1 e2 e3 → Calls Tryd.prog 48 #[.bool true, .bool true, .bool true] V fun e w' => e = .returned .nilIface ∧ V = w') := Lib.hid (fun V h => refusal_any h true true true)
  have HMO : Hid (∀ V, WinsAt V sv ws → Calls Tryd.prog 51 #[.agg (roomC (W : Int) (H : Int) sv)] V fun e w' => e = .returned (.agg (mpC mp)) ∧ Below V.heap.size V w') := by
    rw [hmp]
    exact fun V h => mapOf_any W H hW hH sv ws ok hwf g hgd V h
  have LM : Hid (mp.length = 100) := by rw [hmp]; exact mpK_len g W H (W * H)
  have HDK : Hid (∀ V, Calls Tryd.prog 52 #[.agg (mpC mp)] V fun e w' => e = .returned (.bool false) ∧ Below V.heap.size V w') := Lib.hid (fun V => by have := isDark_any mp LM.out V; rw [hdk] at this; exact this)
  have HGT : Hid (∀ x y : Nat, x < W → y < H → mp[y * 10 + x]?.getD 0 = g ((x : Int), (y : Int))) := by rw [hmp]; exact fun x y hx hy => mpK_get g W H hW1 hH1 hx hy
  have HGK : Hid (∀ x y : Nat, x < W → y < H → gk (y * W + x) = g ((x : Int), (y : Int))) := by rw [hgk]; exact fun x y hx hy => by show g (tk W H hW hH (y * W + x)).1 = _; rw [tk_at W H hW hH hx hy]
  have HBL := Lib.hid (bstK_lt gk hn0 (W * H) (Nat.le_refl _))
  have HW := Lib.hid hws
  have HX := Lib.hid hE
  have hn := fun w => run_neq_nil_nil (P := Tryd.prog) (w := w) 88 (by kernel_rfl)
  clear hws hE hv hwf hgd ok hmp hgk hdk
  refine callsIn_of_wp_marks Tryd.func14 rfl trivial ?_ rfl
  simp only [Tryd.ntmps14, List.size_toArray, List.length_cons, List.length_nil, Nat.reduceAdd, Nat.reduceSub, Array.replicate_succ, Array.replicate_zero, List.push_toArray, List.append_toArray, List.nil_append, List.cons_append]
  refine wpIn_wide.2 ?_
  go_upto_region 1 with (fail)
  refine abs_world (fun V => V.heap[w.heap.size]? = some (.cells (roomC (W : Int) (H : Int) sv) 34 (0, 0)) ∧ V.heap[w.heap.size + 1]? = some (.cells (tileC 0 0) 28 (0, 0)) ∧ Below w.heap.size w V) (two_at w (.cells (roomC (W : Int) (H : Int) sv) 34) (.cells (tileC 0 0) 28)) ?_
  rintro V ⟨h0, h1, hb⟩
  have H0 := Lib.hid h0
  have H1 := Lib.hid h1
  have HV := Lib.hid (wins_below HW.out hb)
  replace HX := Lib.hid (errs_below HX.out hb)
  have n01 : w.heap.size < w.heap.size + 1 := by omega
  have hle1 : w.heap.size ≤ w.heap.size + 1 := by omega
  generalize w.heap.size + 1 = b1 at *
  clear h0 h1
  go_upto_region 4 with (first | (refine wpList_load_part rfl 34 _ rfl w.heap.size 0 3 rfl 34 (roomC (W : Int) (H : Int) sv) (0, 0) _ H0.out Tryd.underlying34 rfl info_room (room_fits _ _ _) _ (room_all _ _ _) ?_) | (go_at_call 49; refine (HVR.out _ HV.out).mono ?_; rintro e W1 ⟨rfl, hb1⟩; replace H0 := Lib.hid (below_row hb1 H0.out); replace H1 := Lib.hid (below_row hb1 H1.out); replace HV := Lib.hid (wins_below HV.out hb1); replace HX := Lib.hid (errs_below HX.out hb1); replace hb := hb.trans (hb1.mono hb.size); clear hb1) | (go_at_call 48; refine (HRF.out _ HX.out).mono ?_; rintro e W3 ⟨rfl, rfl⟩))
  clear HX
  go_upto_region 5 with (first | (refine wpList_load_part rfl 34 _ rfl w.heap.size 0 3 rfl 34 (roomC (W : Int) (H : Int) sv) (0, 0) _ H0.out Tryd.underlying34 rfl info_room (room_fits _ _ _) _ (room_all _ _ _) ?_) | (go_at_call 51; refine (HMO.out _ HV.out).mono ?_; rintro e W4 ⟨rfl, hb1⟩; replace H0 := Lib.hid (below_row hb1 H0.out); replace H1 := Lib.hid (below_row hb1 H1.out); replace hb := hb.trans (hb1.mono hb.size); clear hb1) | (refine wpList_store_part rfl 94 _ _ rfl _ 0 (mpC mp) rfl rfl 94 _ (heap_alloc_new _ _) (by rw [mpC_size, LM.out]; exact info_lm) (by rw [mpC_size, LM.out]; decide) (mpC_one _) ?_; rw [laid_allwE _ _ (by rw [mpC_size, LM.out]; rfl)]))
  refine abs_world (fun X => X.heap[w.heap.size]? = some (.cells (roomC (W : Int) (H : Int) sv) 34 (0, 0)) ∧ X.heap[b1]? = some (.cells (tileC 0 0) 28 (0, 0)) ∧ X.heap[W4.heap.size]? = some (.cells (mpC mp) 94 (0, 0)) ∧ Below w.heap.size w X) ⟨below_row (zbelE _ _ _) H0.out, below_row (zbelE _ _ _) H1.out, setRow_heap _ _ _ _ _ _ (heap_alloc_new _ _), below_setRow (hb.alloc hb.size _) hb.size _⟩ ?_
  have l1 := row_lt H1.out
  clear H0 H1 HV hb
  generalize W4.heap.size = b6 at *
  rintro X ⟨h0, h1, h6, hb⟩
  have H0 := Lib.hid h0
  have H1 := Lib.hid h1
  have H6 := Lib.hid h6
  clear h0 h1 h6
  go_upto_region 7 with (first | (refine wpList_load_part rfl 94 _ rfl b6 0 100 rfl 94 (mpC mp) (0, 0) _ H6.out Tryd.underlying94 rfl info_lm (by rw [mpC_size, LM.out]; decide) (mpC mp) (mpC_all _ 100 LM.out) ?_) | (go_at_call 52; refine (HDK.out _).mono ?_; rintro e W5 ⟨rfl, hb1⟩; replace H0 := Lib.hid (below_row hb1 H0.out); replace H1 := Lib.hid (below_row hb1 H1.out); replace H6 := Lib.hid (below_row hb1 H6.out); replace hb := hb.trans (hb1.mono hb.size); clear hb1))
  go_upto_region 8 with (fail)
  refine abs_world (fun Y => Y.heap[w.heap.size]? = some (.cells (roomC (W : Int) (H : Int) sv) 34 (0, 0)) ∧ Y.heap[b1]? = some (.cells (tileC 0 0) 28 (0, 0)) ∧ Y.heap[b6]? = some (.cells (mpC mp) 94 (0, 0)) ∧ Y.heap[W5.heap.size]? = some (.cells (tileC 0 0) 28 (0, 0)) ∧ Below w.heap.size w Y) ⟨below_row ((Below.refl W5.heap.size _).alloc (Nat.le_refl _) _) H0.out, below_row ((Below.refl W5.heap.size _).alloc (Nat.le_refl _) _) H1.out, below_row ((Below.refl W5.heap.size _).alloc (Nat.le_refl _) _) H6.out, heap_alloc_new _ _, hb.alloc hb.size _⟩ ?_
  have l6 := row_lt H6.out
  clear H0 H1 H6 hb
  generalize W5.heap.size = b7 at *
  rintro W0 ⟨h0, h1, h6, h7, hb⟩
  have H0 := Lib.hid h0
  have H1 := Lib.hid h1
  have H6 := Lib.hid h6
  have H7 := Lib.hid h7
  have HB := Lib.hid hb
  have l7 := row_lt h7
  have hle : w.heap.size ≤ W0.heap.size := hb.size
  clear h0 h1 h6 h7 hb HVR HRF HMO HDK hn
  go_wp2_with (first | (refine wpList_load_part rfl 34 _ rfl w.heap.size 0 3 rfl 34 (roomC (W : Int) (H : Int) sv) (0, 0) _ H0.out Tryd.underlying34 rfl info_room (room_fits _ _ _) _ (room_all _ _ _) ?_) | (go_at_call 53; refine (eachTile_any _ _ _ _).mono ?_; rintro e w' ⟨rfl, rfl⟩))
  refine (wpIn_wide (n := 4)).1 ?_
  refine wpIn_rangeFunc_ownH rfl (by decide) (gf := 107) (lb := #[.pointer (some ⟨W0.heap.size, 0, none⟩)]) rfl trivial (enters_of Tryd.func107 (by kernel_rfl) rfl)
    (eachTile_stops W H hW hH hW1 hH1 sv W0.heap.size _ (heap_alloc_new _ _)) keepsAt_t (keepsAt_b (by simp)) (Below.refl _ _) (fun _ => rfl)
    (BgI W H hW hH gk w sv b1 b6 b7 W0.heap.size mp) (fun _ _ _ => False) (bgI_own W H hW hH gk w sv b1 b6 b7 _ mp _ (by simp; omega)) (fun _ _ _ _ _ hs _ _ => hs) ?h0
    (fun x a' V => ∃ b8 : Nat, W0.heap.size < b8 ∧ a' = { tmps := #[.agg (roomC (W : Int) (H : Int) sv), .pointer (some ⟨w.heap.size, 0, none⟩), .pointer (some ⟨b1, 0, none⟩), .float .f32 0, .int .i64 0, .nilIface, .pointer (some ⟨b6, 0, none⟩), .pointer (some ⟨b7, 0, none⟩), .pointer (some ⟨b8, 0, none⟩), .agg (roomC (W : Int) (H : Int) sv), .bool true, .nilIface, .nilIface, .bool false, undef, undef, undef, .agg (roomC (W : Int) (H : Int) sv), .agg (mpC mp), .agg (mpC mp), .bool false, undef, .agg (roomC (W : Int) (H : Int) sv), .func (.func 107) #[] #[.pointer (some ⟨W0.heap.size, 0, none⟩)], .agg (tileC x.1.1 x.1.2), undef, undef, undef, undef, undef, undef, undef, undef, undef, undef, undef, undef, undef, undef, undef, undef, undef, undef, undef, undef, undef, undef, undef, undef], defers := [] } ∧ V.heap[b8]? = some (.cells (tileC x.1.1 x.1.2) 28 (0, 0)))
    (fun x a' s V V' row hx hg hr => by obtain ⟨b4, l4, e, h⟩ := hx; exact ⟨b4, l4, e, heap_keptWE h hg (fun r e => (hr r e).2)⟩) ?assign ?body ?done ?stop
  case h0 =>
    exact ⟨0, hn0, below_row ((Below.refl W0.heap.size _).alloc (Nat.le_refl _) _) H0.out, below_row ((Below.refl W0.heap.size _).alloc (Nat.le_refl _) _) H1.out, below_row ((Below.refl W0.heap.size _).alloc (Nat.le_refl _) _) H6.out, by rw [Nat.zero_mod, Nat.zero_div]; exact below_row ((Below.refl W0.heap.size _).alloc (Nat.le_refl _) _) H7.out, heap_alloc_new _ _, fun _ => rfl, HB.out.alloc hle _⟩
  case assign =>
    rintro l pre x W2 K hI hK
    have hgl : W0.heap.size < W2.heap.size := by obtain ⟨_, _, _, _, _, _, h5, _⟩ := hI; exact row_lt h5
    refine region_plain_round (by rfl) (fun ⟨_, _, h⟩ => h) ?_
    go_wp2_with (refine wpList_store_part rfl 28 _ _ rfl _ 0 (tileC x.1.1 x.1.2) rfl rfl 28 _ (heap_alloc_new _ _) info_tile (Nat.le_refl _) (tile_one _ _) ?_; rw [laid_allwE _ _ (by rfl)])
    have hbn : ∀ o, Below W2.heap.size W2 ((W2.alloc o).setRow W2.heap.size (tileC x.1.1 x.1.2)) := fun o => below_setRow ((Below.refl _ _).alloc (Nat.le_refl _) _) (Nat.le_refl _) _
    exact hK _ _ ((keeps_of_belowWE (hbn _)).from _) (fun _ ho => below_row (hbn _) ho) (bgI_own W H hW hH gk w sv b1 b6 b7 _ mp _ (Nat.le_refl _) _ _ _ none hI (grown_of_belowE (hbn _) none) (fun r e => by cases e)) ⟨_, hgl, rfl, setRow_heap _ _ _ _ _ _ (heap_alloc_new _ _)⟩
  case body =>
    clear H0 H1 H6 H7 HB HBL
    rintro l pre ⟨⟨a1, a2⟩, ha⟩ a' V hl0 hlr ⟨b, hbl, h0, h1, h6, h7, hgr, hgd, hbw⟩ ⟨b8, hl8, rfl, h8⟩ hl
    have ha2 := ha
    obtain ⟨p0, p1, p2, p3⟩ := ha2
    dsimp only at p0 p1 p2 p3
    obtain ⟨x, rfl⟩ := Int.eq_ofNat_of_zero_le p0
    obtain ⟨y, rfl⟩ := Int.eq_ofNat_of_zero_le p2
    have hxl1 : x < W := by omega
    have hyl : y < H := by omega
    have hbx : b % W < W := Nat.mod_lt b hW
    have hby : b / W < H := Nat.div_lt_of_lt_mul hbl
    have hbe : b / W * W + b % W = b := by rw [Nat.mul_comm]; exact Nat.div_add_mod b W
    have hyx : y * W + x < W * H := by
      have h2 : (y + 1) * W ≤ H * W := Nat.mul_le_mul_right W (by omega)
      rw [Nat.add_mul, Nat.one_mul] at h2
      rw [Nat.mul_comm W H]
      omega
    have HGX := Lib.hid (HGT.out x y hxl1 hyl)
    have HGB := Lib.hid (HGT.out (b % W) (b / W) hbx hby)
    have hk1 := HGK.out x y hxl1 hyl
    have hk2 := HGK.out (b % W) (b / W) hbx hby
    rw [hbe] at hk2
    have HM : Hid (GoodT W H hW hH (pre ++ [⟨((x : Int), (y : Int)), ha⟩]) → (if gtB (g ((x : Int), (y : Int))) (g (((b % W : Nat) : Int), ((b / W : Nat) : Int))) then y * W + x else b) = bstK gk (pre ++ [(⟨((x : Int), (y : Int)), ha⟩ : Tt W H)]).length) := Lib.hid (fun hgs => by
      obtain ⟨hgp, hxk⟩ := goodT_snoc hgs
      obtain ⟨x', y', hx', hy', hk', htk⟩ := tk_split W H hW hH hl
      have e : ((x : Int), (y : Int)) = ((x' : Int), (y' : Int)) := by rw [← htk, ← hxk]
      have e1 : x = x' := by have := congrArg Prod.fst e; simp at this; omega
      have e2 : y = y' := by have := congrArg Prod.snd e; simp at this; omega
      subst e1 e2
      rw [List.length_append, List.length_singleton, bstK, ← hgd hgp, hk', hk1, hk2])
    unfold gtB at HM
    generalize g ((x : Int), (y : Int)) = gv at *
    generalize g (((b % W : Nat) : Int), ((b / W : Nat) : Int)) = gb at *
    have H0 := Lib.hid h0
    have H1 := Lib.hid h1
    have H6 := Lib.hid h6
    have H7 := Lib.hid h7
    have H8 := Lib.hid h8
    have HG := Lib.hid hgr
    have HBW := Lib.hid hbw
    have z1 : (x : Int) < 10 := by omega
    have z2 : (0 : Int) ≤ (x : Int) := by omega
    have z3 : (y : Int) < 10 := by omega
    have z4 : (0 : Int) ≤ (y : Int) := by omega
    have HVD : Hid (Below V.heap.size V V.drew) := Lib.hid (Below.refl V.heap.size V).drew
    have qy : V.cell? ⟨b8, 1, none⟩ = some (.int .i8 (y : Int)) := by rw [cell_of_row _ _ _ _ _ _ h8]; rfl
    have qx : V.cell? ⟨b8, 0, none⟩ = some (.int .i8 (x : Int)) := by rw [cell_of_row _ _ _ _ _ _ h8]; rfl
    have HE1 : Hid (y * W + x < W * H) := hyx
    have HE2 : Hid (((y * W + x) % W : Nat) = x ∧ (y * W + x) / W = y) := Lib.hid ⟨by rw [Nat.mul_comm, Nat.mul_add_mod]; exact Nat.mod_eq_of_lt hxl1, by rw [Nat.mul_comm, Nat.mul_add_div hW, Nat.div_eq_of_lt hxl1, Nat.add_zero]⟩
    have HBL := Lib.hid hbl
    generalize hbm : b % W = bx at *
    generalize hbd : b / W = bY at *
    have y1 : ((bx : Nat) : Int) < 10 := by omega
    have y2 : (0 : Int) ≤ ((bx : Nat) : Int) := by omega
    have y3 : ((bY : Nat) : Int) < 10 := by omega
    have y4 : (0 : Int) ≤ ((bY : Nat) : Int) := by omega
    have ry : V.cell? ⟨b7, 1, none⟩ = some (.int .i8 (bY : Int)) := by rw [cell_of_row _ _ _ _ _ _ h7]; rfl
    have rx : V.cell? ⟨b7, 0, none⟩ = some (.int .i8 (bx : Int)) := by rw [cell_of_row _ _ _ _ _ _ h7]; rfl
    have f70 := frozen_of_row V b7 0 _ _ h7
    have h7s : (V.setCell ⟨b7, 0, none⟩ (.int .i8 (x : Int))).heap[b7]? = some (.cells #[.int .i8 (x : Int), .int .i8 (bY : Int)] 28 (0, 0)) := by rw [heap_setCell_same _ _ _ _ _ _ h7]; rfl
    have f71 := frozen_of_row (V.setCell ⟨b7, 0, none⟩ (.int .i8 (x : Int))) b7 1 _ _ h7s
    have H7S : Hid (((V.setCell ⟨b7, 0, none⟩ (.int .i8 (x : Int))).setCell ⟨b7, 1, none⟩ (.int .i8 (y : Int))).heap[b7]? = some (.cells (tileC (x : Int) (y : Int)) 28 (0, 0))) := Lib.hid (by rw [heap_setCell_same _ _ _ _ _ _ h7s]; rfl)
    clear h7s
    have qm := mpC_cell h6 (y * 10 + x) (by rw [LM.out]; omega)
    rw [HGX.out] at qm
    have rm := mpC_cell h6 (bY * 10 + bx) (by rw [LM.out]; omega)
    rw [HGB.out] at rm
    have HBM := Lib.hid hbm
    have HBD := Lib.hid hbd
    clear hgd h0 h1 h6 h7 h8 hgr hbw p0 p1 p2 p3 HGT HGK hk1 hk2 hbe hyx hbm hbd hbl
    generalize hp : (FloatKind.f32.format.order gv gb == some Ordering.gt) = p at *
    dsimp only
    refine wpIn_block (wpIn_seq ?_)
    refine still_tail_round (k := 14) arrU (by kernel_rfl) (no_defer (by rfl)) (fun ⟨_, _, h⟩ => h) ?_
    simp only [List.take_succ_cons, List.take_zero, List.drop_succ_cons, List.drop_zero]
    repeat still_step
    refine wpStill_nil ?_
    cases p with
    | false =>
      go_wp2
      gi_wp2
      exact ⟨(keeps_of_belowWE HVD.out).from _, fun o ho => ho, b, HBL.out, H0.out, H1.out, H6.out, by rw [HBM.out, HBD.out]; exact H7.out, HG.out, fun hg => by have := HM.out hg; simpa using this, HBW.out.trans (HVD.out.mono HBW.out.size)⟩
    | true =>
      go_wp2
      gi_wp2
      have hb7 : w.heap.size ≤ b7 := by omega
      have hbn : Below w.heap.size w ((V.setCell ⟨b7, 0, none⟩ (.int .i8 (x : Int))).setCell ⟨b7, 1, none⟩ (.int .i8 (y : Int))).drew := ((HBW.out.setCell (p := ⟨b7, 0, none⟩) hb7 _).setCell (p := ⟨b7, 1, none⟩) hb7 _).drew
      have hko : ∀ (g : Nat) (o : Obj), g ≠ b7 → V.heap[g]? = some o → ((V.setCell ⟨b7, 0, none⟩ (.int .i8 (x : Int))).setCell ⟨b7, 1, none⟩ (.int .i8 (y : Int))).drew.heap[g]? = some o := fun g o hg ho => (heap_setCell_other _ _ _ _ (by simp; omega)).trans ((heap_setCell_other _ _ _ _ (by simp; omega)).trans ho)
      exact ⟨(((KeepsOthers.setCell _ _ _).trans (KeepsOthers.setCell _ _ _)).trans (KeepsOthers.drew _)).from _, fun o ho => hko _ o (by omega) ho, y * W + x, HE1.out, hko _ _ (by omega) H0.out, hko _ _ (by omega) H1.out, hko _ _ (by omega) H6.out, by rw [HE2.out.1, HE2.out.2]; exact H7S.out, hko _ _ (by omega) HG.out, fun hg => by have := HM.out hg; simpa using this, hbn⟩
  case done =>
    clear H0 H1 H6 H7 HB
    rintro D zs V hD rfl ⟨b, hbl, h0, h1, h6, h7, hgr, hgd, hb⟩ hK
    rename_i K hcont
    have hD' : w.heap.size ≤ D := by first | omega | (simp at hD; omega)
    have hDb : D ≠ b1 := by first | omega | (simp at hD; omega)
    have hM := hgd (goodT_all W H hW hH (W * H))
    rw [tks_length] at hM
    have hbx : b % W < W := Nat.mod_lt b hW
    have hby : b / W < H := Nat.div_lt_of_lt_mul hbl
    have hbe : b / W * W + b % W = b := by rw [Nat.mul_comm]; exact Nat.div_add_mod b W
    have HGB := Lib.hid (HGT.out (b % W) (b / W) hbx hby)
    have hk2 := HGK.out (b % W) (b / W) hbx hby
    rw [hbe] at hk2
    have HMM := Lib.hid hM
    have HK2 := Lib.hid hk2
    have HBM : Hid (b % W = b % W) := Lib.hid rfl
    clear hgd hgr h0 hD hM hk2 hbe
    generalize hbm : b % W = bx at *
    generalize hbd : b / W = bY at *
    generalize g ((bx : Int), (bY : Int)) = gb at *
    have y1 : ((bx : Nat) : Int) < 10 := by omega
    have y2 : (0 : Int) ≤ ((bx : Nat) : Int) := by omega
    have y3 : ((bY : Nat) : Int) < 10 := by omega
    have y4 : (0 : Int) ≤ ((bY : Nat) : Int) := by omega
    have ry : V.cell? ⟨b7, 1, none⟩ = some (.int .i8 (bY : Int)) := by rw [cell_of_row _ _ _ _ _ _ h7]; rfl
    have rx : V.cell? ⟨b7, 0, none⟩ = some (.int .i8 (bx : Int)) := by rw [cell_of_row _ _ _ _ _ _ h7]; rfl
    have rm := mpC_cell h6 (bY * 10 + bx) (by rw [LM.out]; omega)
    rw [HGB.out] at rm
    have H6 := Lib.hid h6
    have H7 := Lib.hid h7
    have H1 := Lib.hid h1
    have HK := Lib.hid hK
    have HBD := Lib.hid (And.intro hbm hbd)
    have HVD : Hid (Below w.heap.size w V.drew) := Lib.hid hb.drew
    clear h1 h6 h7 hK hb hbm hbd HBM
    refine hcont _ _ ?_
    have hle1 : w.heap.size ≤ b1 := by omega
    go_wp2
    refine wp_onlyG ?_
    refine wp_region_held_drew (S := (fun X => X.heap[b7]? = some (.cells (tileC (bx : Int) (bY : Int)) 28 (0, 0)) ∧ X.heap[b6]? = some (.cells (mpC mp) 94 (0, 0)) ∧ X.heap[D]? = some (.deferred (some [])) ∧ (∃ cs : Array Value, cs.size = 2 ∧ X.heap[b1]? = some (.cells cs 28 (0, 0))) ∧ Below w.heap.size w X)) (by kernel_rfl) ⟨H7.out, H6.out, HK.out, ⟨_, rfl, H1.out⟩, HVD.out⟩ (fun hHeld => ?_)
    refine take_op (i := 0) (d := 41) (v := .agg (tileC (bx : Int) (bY : Int))) rfl rfl (by kernel_rfl) (by kernel_rfl) (by kernel_rfl) (fun _ _ _ h => h) (yields_row (by rfl) 28 (.tmp 7) (by rfl) b7 0 2 (by rfl) 28 (tileC (bx : Int) (bY : Int)) (0, 0) _ (fun _ h => h.1) Tryd.underlying28 rfl info_tile (tile_fits _ _) (tileC (bx : Int) (bY : Int)) (tile_all _ _)) hHeld ?_
    simp only [List.setIfInBounds_toArray, List.set_cons_zero, List.set_cons_succ]
    refine take_op (i := 1) (d := 42) (v := ?_) rfl rfl (by kernel_rfl) (by kernel_rfl) (by kernel_rfl) (fun _ _ _ h => h) (Or.inl ⟨by rfl, ?hy1e30⟩) hHeld ?rest1e30
    case hy1e30 =>
      intro w' hS'
      go_simp
      try with_reducible rfl
    simp only [List.setIfInBounds_toArray, List.set_cons_zero, List.set_cons_succ]
    refine take_op (i := 2) (d := 43) (v := ?_) rfl rfl (by kernel_rfl) (by kernel_rfl) (by kernel_rfl) (fun _ _ _ h => h) (Or.inl ⟨by rfl, ?hy2e31⟩) hHeld ?rest2e31
    case hy2e31 =>
      intro w' hS'
      have q : w'.cell? ⟨b7, 1, none⟩ = some (.int .i8 (bY : Int)) := by rw [cell_of_row _ _ _ _ _ _ hS'.1]; rfl
      go_simp
      try with_reducible rfl
    simp only [List.setIfInBounds_toArray, List.set_cons_zero, List.set_cons_succ]
    refine take_op (i := 3) (d := 44) (v := ?_) rfl rfl (by kernel_rfl) (by kernel_rfl) (by kernel_rfl) (fun _ _ _ h => h) (Or.inl ⟨by rfl, ?hy3e32⟩) hHeld ?rest3e32
    case hy3e32 =>
      intro w' hS'
      go_simp
      try with_reducible rfl
    simp only [List.setIfInBounds_toArray, List.set_cons_zero, List.set_cons_succ]
    refine take_op (i := 4) (d := 45) (v := ?_) rfl rfl (by kernel_rfl) (by kernel_rfl) (by kernel_rfl) (fun _ _ _ h => h) (Or.inl ⟨by rfl, ?hy4e33⟩) hHeld ?rest4e33
    case hy4e33 =>
      intro w' hS'
      have q : w'.cell? ⟨b7, 0, none⟩ = some (.int .i8 (bx : Int)) := by rw [cell_of_row _ _ _ _ _ _ hS'.1]; rfl
      go_simp
      try with_reducible rfl
    simp only [List.setIfInBounds_toArray, List.set_cons_zero, List.set_cons_succ]
    refine take_op (i := 5) (d := 46) (v := ?_) rfl rfl (by kernel_rfl) (by kernel_rfl) (by kernel_rfl) (fun _ _ _ h => h) (Or.inl ⟨by rfl, ?hy5e34⟩) hHeld ?rest5e34
    case hy5e34 =>
      intro w' hS'
      go_simp
      try with_reducible rfl
    simp only [List.setIfInBounds_toArray, List.set_cons_zero, List.set_cons_succ]
    refine take_op (i := 6) (d := 47) (v := ?_) rfl rfl (by kernel_rfl) (by kernel_rfl) (by kernel_rfl) (fun _ _ _ h => h) (Or.inl ⟨by rfl, ?hy6e35⟩) hHeld ?rest6e35
    case hy6e35 =>
      intro w' hS'
      go_simp
      try with_reducible rfl
    simp only [List.setIfInBounds_toArray, List.set_cons_zero, List.set_cons_succ]
    refine take_op (i := 7) (d := 48) (v := ?_) rfl rfl (by kernel_rfl) (by kernel_rfl) (by kernel_rfl) (fun _ _ _ h => h) (Or.inl ⟨by rfl, ?hy7e36⟩) hHeld ?rest7e36
    case hy7e36 =>
      intro w' hS'
      have q := mpC_cell hS'.2.1 (bY * 10 + bx) (by rw [LM.out]; omega)
      rw [HGB.out] at q
      go_simp
      try with_reducible rfl
    simp only [List.setIfInBounds_toArray, List.set_cons_zero, List.set_cons_succ]
    obtain ⟨cs, hcs, h1c⟩ := hHeld.2.2.2.1
    have H1C := Lib.hid h1c
    have hst := run_store_rowG (P := Tryd.prog) _ b1 28 (tileC (bx : Int) (bY : Int)) _ H1C.out hcs (tile_one _ _)
    clear h1c
    refine wpAnyH_ready (rs := [8]) (by kernel_rfl) (by simp) ?_
    refine AllReadyH.cons rfl (fun K hK => ?_) AllReadyH.nil
    go_simp
    refine hK.out _ _ ⟨(setRow_other _ _ _ _ (by omega)).trans hHeld.1, (setRow_other _ _ _ _ (by omega)).trans hHeld.2.1, (setRow_other _ _ _ _ hDb).trans hHeld.2.2.1, ⟨_, rfl, setRow_heap _ _ _ _ _ _ H1C.out⟩, below_setRow hHeld.2.2.2.2 hle1 _⟩ (fun hHeld2 => ?_)
    clear hK K hst
    have HR1 := Lib.hid (setRow_heap _ _ _ (tileC (bx : Int) (bY : Int)) _ _ H1C.out)
    replace hHeld := hHeld2
    clear hHeld2
    refine take_op (i := 9) (d := 3) (v := ?_) rfl rfl (by kernel_rfl) (by kernel_rfl) (by kernel_rfl) (fun _ _ _ h => h) (Or.inl ⟨by rfl, ?hy9e37⟩) hHeld ?rest9e37
    case hy9e37 =>
      intro w' hS'
      go_simp
      try with_reducible rfl
    refine take_op (i := 10) (d := 4) (v := ?_) rfl rfl (by kernel_rfl) (by kernel_rfl) (by kernel_rfl) (fun _ _ _ h => h) (Or.inl ⟨by rfl, ?hy10e38⟩) hHeld ?rest10e38
    case hy10e38 =>
      intro w' hS'
      go_simp
      try with_reducible rfl
    refine wpAnyH_done (by kernel_rfl) ?_ _
    have hKD := hHeld.2.2.1
    have hbz := hHeld.2.2.2.2
    clear hHeld
    go_wp2
    refine ⟨by simp, .inl ⟨_, _, rfl, run_takeDeferred hKD, ?_⟩⟩
    refine ⟨_, results_t3 (fn := Tryd.f14) rfl _ _ b1 (bx : Int) (bY : Int) rfl ((World.putObj_heap_other (Ne.symm hDb)).trans HR1.out), ?_, hbz.trans (belowK_b (w := w) (Nat.le_refl _) _ D _ _ hD' hKD rfl rfl)⟩
    rw [← HMM.out, HK2.out, HBD.out.1, HBD.out.2]
    rfl
  case stop =>
    rintro D c pre V _ _ h _
    exact h.elim

end Go.Proofs.YtdccmdcgbembpaaDoor

namespace Go.Proofs.YtdccmdcgbembpaaDoor
open Go.ChangeShapes Go.WideShapes Go.ChangeAt Go.RowKit Go.Deep Go.Joins

attribute [local go_sem] run_store_floatE

set_option maxRecDepth 100000 in
set_option maxHeartbeats 2000000 in
theorem sBr_n (wd hg : Int) (iw : I8 wd) (ih : I8 hg) (sv : Value) (ws : List Wn) (hwf : ∀ x ∈ ws, WnWf x) (w : World) (hws : WinsAt w sv ws) (hv : okRm wd hg ws = false) :
    Calls Tryd.prog 12 #[.agg (roomC wd hg sv)] w fun e w' => e = .returned (.tuple #[.agg (tileC 0 0), .float .f32 0, .int .i64 1]) ∧ Below w.heap.size w w' := by
  have HOK : Hid (∀ V, V.heap[w.heap.size]? = some (.cells (roomC wd hg sv) 34 (0, 0)) → WinsAt V sv ws → Calls Tryd.prog 44 #[.pointer (some ⟨w.heap.size, 0, none⟩)] V fun e w' => e = .returned (.bool false) ∧ Below V.heap.size V w') := Lib.hid (fun V q h => by have := l03Ok_any wd hg iw ih sv ws hwf w.heap.size 34 (0, 0) V q h; rw [hv] at this; exact this)
  have HW := Lib.hid hws
  clear hws hv hwf iw ih
  go_enter Tryd.func12, Tryd.ntmps12
  go_upto_region 1 with (fail)
  refine abs_world (fun V => V.heap[w.heap.size]? = some (.cells (roomC wd hg sv) 34 (0, 0)) ∧ V.heap[w.heap.size + 1]? = some (.cells (tileC 0 0) 28 (0, 0)) ∧ Below w.heap.size w V) (two_at w (.cells (roomC wd hg sv) 34) (.cells (tileC 0 0) 28)) ?_
  rintro V ⟨h0, h1, hb⟩
  have H0 := Lib.hid h0
  have H1 := Lib.hid h1
  have HV := Lib.hid (wins_below HW.out hb)
  have n01 : w.heap.size < w.heap.size + 1 := by omega
  have hle1 : w.heap.size ≤ w.heap.size + 1 := by omega
  generalize w.heap.size + 1 = b1 at *
  clear h0 h1
  go_wp2_with (first | (go_at_call 44; refine (HOK.out _ H0.out HV.out).mono ?_; rintro e W1 ⟨rfl, hb1⟩; replace H0 := Lib.hid (below_row hb1 H0.out); replace H1 := Lib.hid (below_row hb1 H1.out); replace HV := Lib.hid (wins_below HV.out hb1); replace hb := hb.trans (hb1.mono hb.size); clear hb1) | (refine wpList_buildMM rfl 28 _ rfl _ rfl [] rfl (tileC 0 0) tile_z ?_) | (refine wpList_store_part rfl 28 _ _ rfl b1 0 (tileC 0 0) rfl rfl 28 (tileC 0 0) H1.out info_tile (Nat.le_refl _) (tile_one _ _) ?_; rw [laid_allwE _ _ (by rfl)]))
  refine bodyPost_ret (results_t3 rfl _ _ b1 0 0 rfl (setRow_heap _ _ _ _ _ _ H1.out)) rfl ?_
  exact ⟨rfl, below_setRow hb hle1 _⟩

set_option maxRecDepth 100000 in
set_option maxHeartbeats 8000000 in
theorem sBr_y (W H : Nat) (hW : 0 < W) (hH : 0 < H) (sv : Value) (ws : List Wn) (hwf : ∀ x ∈ ws, WnWf x) (g : Int × Int → Nat) (hgd : g = fun t => litW (W : Int) (H : Int) t (fun _ => true) ws) (gk : Nat → Nat) (hgk : gk = fun k => g (tk W H hW hH k).1) (w : World) (hws : WinsAt w sv ws) (hv : okRm (W : Int) (H : Int) ws = true) :
    Calls Tryd.prog 12 #[.agg (roomC (W : Int) (H : Int) sv)] w fun e w' => e = .returned (.tuple #[.agg (tileC (((bstK gk (W * H)) % W : Nat) : Int) (((bstK gk (W * H)) / W : Nat) : Int)), .float .f32 (gk (bstK gk (W * H))), .int .i64 0]) ∧ Below w.heap.size w w' := by
  have ok := okRm_get hv
  have hW1 : W ≤ 10 := by have := ok.w1; omega
  have hH1 : H ≤ 10 := by have := ok.h1; omega
  have iw : I8 (W : Int) := by unfold I8; omega
  have ih : I8 (H : Int) := by unfold I8; omega
  have HOK : Hid (∀ V, V.heap[w.heap.size]? = some (.cells (roomC (W : Int) (H : Int) sv) 34 (0, 0)) → WinsAt V sv ws → Calls Tryd.prog 44 #[.pointer (some ⟨w.heap.size, 0, none⟩)] V fun e w' => e = .returned (.bool true) ∧ Below V.heap.size V w') := Lib.hid (fun V q h => by have := l03Ok_any (W : Int) (H : Int) iw ih sv ws hwf w.heap.size 34 (0, 0) V q h; rw [hv] at this; exact this)
  have HTI : Hid (∀ V, V.heap[w.heap.size]? = some (.cells (roomC (W : Int) (H : Int) sv) 34 (0, 0)) → Calls Tryd.prog 45 #[.pointer (some ⟨w.heap.size, 0, none⟩)] V fun e w' => (∃ v, e = .returned v ∧ w'.ownsRow V.heap.size 28 2 v (W * H) (tC W (W * H))) ∧ Below V.heap.size V w') := Lib.hid (fun V q => l03Tiles_any W H hW hW1 hH1 sv w.heap.size V q)
  have HLT : Hid (∀ (a1 a2 : Int), inRoom (W : Int) (H : Int) (a1, a2) → ∀ V, V.heap[w.heap.size]? = some (.cells (roomC (W : Int) (H : Int) sv) 34 (0, 0)) → WinsAt V sv ws → Calls Tryd.prog 46 #[.pointer (some ⟨w.heap.size, 0, none⟩), .agg (tileC a1 a2)] V fun e V' => e = .returned (.float .f32 (g (a1, a2))) ∧ Below V.heap.size V V') := by
    rw [hgd]
    exact fun a1 a2 ha V q hV => l03Light_any (W : Int) (H : Int) sv ws ok hwf a1 a2 ha w.heap.size 34 (0, 0) V q hV
  have HW := Lib.hid hws
  have hn0 : 0 < W * H := Nat.mul_pos hW hH
  have hn1 : W * H ≤ 100 := Nat.mul_le_mul hW1 hH1
  have HSP := Lib.hid (fun k (hk : k < W * H) => tk_split W H hW hH hk)
  have HGK : Hid (∀ x y : Nat, x < W → y < H → gk (y * W + x) = g ((x : Int), (y : Int))) := by rw [hgk]; exact fun x y hx hy => by show g (tk W H hW hH (y * W + x)).1 = _; rw [tk_at W H hW hH hx hy]
  have hg00 := HGK.out 0 0 hW hH
  rw [Nat.zero_mul, Nat.zero_add] at hg00
  have HL0 := Lib.hid (HLT.out 0 0 ⟨by show (0 : Int) ≤ 0; decide, by show (0 : Int) < (W : Int); omega, by show (0 : Int) ≤ 0; decide, by show (0 : Int) < (H : Int); omega⟩)
  have HG0 : Hid (g (0, 0) = gk 0) := Lib.hid hg00.symm
  rw [HG0.out] at HL0
  have HB1 : Hid (bstK gk 1 = 0) := Lib.hid (by rw [bstK, bstK]; split <;> rfl)
  have HBL := Lib.hid (fun k (hk : k ≤ W * H) => bstK_lt gk hn0 k hk)
  clear hws hv hwf iw ih ok hgd hgk hg00
  go_enter Tryd.func12, Tryd.ntmps12
  go_upto_region 1 with (fail)
  refine abs_world (fun V => V.heap[w.heap.size]? = some (.cells (roomC (W : Int) (H : Int) sv) 34 (0, 0)) ∧ V.heap[w.heap.size + 1]? = some (.cells (tileC 0 0) 28 (0, 0)) ∧ Below w.heap.size w V) (two_at w (.cells (roomC (W : Int) (H : Int) sv) 34) (.cells (tileC 0 0) 28)) ?_
  rintro V ⟨h0, h1, hb⟩
  have H0 := Lib.hid h0
  have H1 := Lib.hid h1
  have HV := Lib.hid (wins_below HW.out hb)
  have n01 : w.heap.size < w.heap.size + 1 := by omega
  have hle1 : w.heap.size ≤ w.heap.size + 1 := by omega
  generalize w.heap.size + 1 = b1 at *
  clear h0 h1
  go_upto_region 4 with (first | (go_at_call 44; refine (HOK.out _ H0.out HV.out).mono ?_; rintro e W1 ⟨rfl, hb1⟩; replace H0 := Lib.hid (below_row hb1 H0.out); replace H1 := Lib.hid (below_row hb1 H1.out); replace HV := Lib.hid (wins_below HV.out hb1); replace hb := hb.trans (hb1.mono hb.size); clear hb1) | (go_at_call 45; have l0 := row_lt H0.out; have l1 := row_lt H1.out; refine (HTI.out _ H0.out).mono ?_; rintro e W1 ⟨⟨v, rfl, hv0⟩, hb1⟩; have HV0 := Lib.hid hv0; clear hv0; replace H0 := Lib.hid (below_row hb1 H0.out); replace H1 := Lib.hid (below_row hb1 H1.out); replace HV := Lib.hid (wins_below HV.out hb1); replace hb := hb.trans (hb1.mono hb.size); clear hb1))
  rcases HV0.out.2 with ⟨_, hz⟩ | ⟨gs, cap, cur, rfl, hbg, hg, hnc, hcm, hsz, htk⟩
  · omega
  have hgs0 : w.heap.size < gs := by omega
  have hgs1 : b1 < gs := by omega
  have HT := Lib.hid hg
  have HTK := Lib.hid htk
  have HGT0 : Hid (∀ V, TilesAt V gs cur → V.cell? ⟨gs, 0, none⟩ = some (.int .i8 ((0 : Nat) : Int)) ∧ V.cell? ⟨gs, 0 + 1, none⟩ = some (.int .i8 ((0 : Nat) : Int)) ∧ cur.extract 0 (0 + 2) = tileC ((0 : Nat) : Int) ((0 : Nat) : Int) ∧ 0 + 2 ≤ cur.size) := Lib.hid (fun V h => by have := tiles_get (x := 0) (y := 0) h HTK.out hW hW (by omega); rw [Nat.zero_mul, Nat.zero_add, Nat.zero_mul] at this; exact this)
  have hz0 : (0 : Int) < ((W * H : Nat) : Int) := by omega
  clear hg htk hbg l0 l1 HV0 HTI hsz HOK
  go_upto_region 5 with (first | (refine wpList_load_part rfl 28 _ rfl gs 0 2 rfl 28 cur (0, 0) _ HT.out Tryd.underlying28 rfl info_tile (HGT0.out _ HT.out).2.2.2 (tileC 0 0) (HGT0.out _ HT.out).2.2.1 ?_) | (refine wpList_store_part rfl 28 _ _ rfl _ 0 (tileC 0 0) rfl rfl 28 _ (heap_alloc_new _ _) info_tile (Nat.le_refl _) (tile_one _ _) ?_; rw [laid_allwE _ _ (by rfl)]))
  refine abs_world (fun X => X.heap[w.heap.size]? = some (.cells (roomC (W : Int) (H : Int) sv) 34 (0, 0)) ∧ X.heap[b1]? = some (.cells (tileC 0 0) 28 (0, 0)) ∧ X.heap[W1.heap.size]? = some (.cells (tileC 0 0) 28 (0, 0)) ∧ TilesAt X gs cur ∧ Below w.heap.size w X) ⟨below_row (zbelE _ _ _) H0.out, below_row (zbelE _ _ _) H1.out, setRow_heap _ _ _ _ _ _ (heap_alloc_new _ _), below_row (zbelE _ _ _) HT.out, below_setRow (hb.alloc hb.size _) hb.size _⟩ ?_
  have hgl := row_lt HT.out
  clear H0 H1 HT HV hb
  generalize W1.heap.size = b6 at *
  rintro X ⟨h0, h1, h6, ht, hb⟩
  have H0 := Lib.hid h0
  have H1 := Lib.hid h1
  have H6 := Lib.hid h6
  have HT := Lib.hid ht
  have HV := Lib.hid (wins_below HW.out hb)
  clear h0 h1 h6 ht
  go_upto_region 7 with (first | (refine wpList_load_part rfl 28 _ rfl b6 0 2 rfl 28 (tileC 0 0) (0, 0) _ H6.out Tryd.underlying28 rfl info_tile (tile_fits _ _) _ (tile_all _ _) ?_) | (go_at_call 46; refine (HL0.out _ H0.out HV.out).mono ?_; rintro e W2 ⟨rfl, hb2⟩; replace H0 := Lib.hid (below_row hb2 H0.out); replace H1 := Lib.hid (below_row hb2 H1.out); replace H6 := Lib.hid (below_row hb2 H6.out); replace HT := Lib.hid (below_row hb2 HT.out); replace hb := hb.trans (hb2.mono hb.size); clear hb2))
  clear HL0 HGT0 HG0
  go_loopw [7, 8] (fun m i wr => ∃ k : Nat, 1 ≤ k ∧ k ≤ W * H ∧ i = .int .i64 (k : Int) ∧ m = .float .f32 (gk (bstK gk k)) ∧ wr.heap[w.heap.size]? = some (.cells (roomC (W : Int) (H : Int) sv) 34 (0, 0)) ∧ wr.heap[b1]? = some (.cells (tileC 0 0) 28 (0, 0)) ∧ wr.heap[b6]? = some (.cells (tileC ((bstK gk k % W : Nat) : Int) ((bstK gk k / W : Nat) : Int)) 28 (0, 0)) ∧ TilesAt wr gs cur ∧ Below w.heap.size w wr) (fun _ i _ => (W * H : Nat) - (intOf i).toNat)
  case atStart => exact ⟨1, Nat.le_refl _, hn0, rfl, by rw [HB1.out], H0.out, H1.out, by rw [HB1.out, Nat.zero_mod, Nat.zero_div]; exact H6.out, HT.out, hb⟩
  case round =>
    clear H0 H1 H6 HV HT hb HB1
    obtain ⟨k, hk1, hk, rfl, rfl, h0, h1, h6, ht, hb⟩ := hrel
    have H0 := Lib.hid h0
    have H1 := Lib.hid h1
    have H6 := Lib.hid h6
    have HT := Lib.hid ht
    have HV := Lib.hid (wins_below HW.out hb)
    clear h0 h1 h6 ht
    by_cases hlt : k < W * H
    · obtain ⟨x, y, hx, hy, hkk, -⟩ := HSP.out k hlt
      have hgv := HGK.out x y hx hy
      have HLA := Lib.hid (HLT.out (x : Int) (y : Int) ⟨by show (0 : Int) ≤ (x : Int); omega, by show (x : Int) < (W : Int); omega, by show (0 : Int) ≤ (y : Int); omega, by show (y : Int) < (H : Int); omega⟩)
      rw [← hgv] at HLA
      have HGT := Lib.hid (fun V (h : TilesAt V gs cur) => tiles_get h HTK.out hW hx (by rw [← hkk]; exact hlt))
      have HE2 : Hid ((k % W : Nat) = x ∧ k / W = y) := Lib.hid (by rw [hkk]; exact ⟨by rw [Nat.mul_comm, Nat.mul_add_mod]; exact Nat.mod_eq_of_lt hx, by rw [Nat.mul_comm, Nat.mul_add_div hW, Nat.div_eq_of_lt hx, Nat.add_zero]⟩)
      rw [← hkk] at HGT HLA
      have HBS : Hid (bstK gk (k + 1) = if gtB (gk k) (gk (bstK gk k)) then k else bstK gk k) := Lib.hid rfl
      unfold gtB at HBS
      have z1 : (k : Int) < ((W * H : Nat) : Int) := by omega
      have z2 : (0 : Int) ≤ (k : Int) := by omega
      clear hkk hgv HSP HGK HLT HBL
      generalize hnn : W * H = nn at *
      generalize hbk : bstK gk k = b at *
      generalize hbx : b % W = bx at *
      generalize hbY : b / W = bY at *
      have HBX := Lib.hid (And.intro hbx hbY)
      clear hnn hbk hbx hbY
      generalize hp : (FloatKind.f32.format.order (gk k) (gk b) == some Ordering.gt) = p at *
      cases p with
      | false =>
        go_wp2_with (first | (refine wpList_load_part rfl 28 _ rfl gs (k * 2) 2 rfl 28 cur (0, 0) _ HT.out Tryd.underlying28 rfl info_tile (HGT.out _ HT.out).2.2.2 (tileC (x : Int) (y : Int)) (HGT.out _ HT.out).2.2.1 ?_) | (go_at_call 46; refine (HLA.out _ H0.out HV.out).mono ?_; rintro e W2 ⟨rfl, hb2⟩; replace H0 := Lib.hid (below_row hb2 H0.out); replace H1 := Lib.hid (below_row hb2 H1.out); replace H6 := Lib.hid (below_row hb2 H6.out); replace HT := Lib.hid (below_row hb2 HT.out); replace hb := hb.trans (hb2.mono hb.size); clear hb2))
        go_roundw
        case rel => exact ⟨k + 1, by omega, by omega, by first | (simp; done) | (simp; omega), by rw [HBS.out]; simp, H0.out, H1.out, by rw [HBS.out]; simp only [Bool.false_eq_true, if_false]; rw [HBX.out.1, HBX.out.2]; exact H6.out, HT.out, hb⟩
        case measure => simp [intOf]; omega
      | true =>
        go_wp2_with (first | (refine wpList_load_part rfl 28 _ rfl gs (k * 2) 2 rfl 28 cur (0, 0) _ HT.out Tryd.underlying28 rfl info_tile (HGT.out _ HT.out).2.2.2 (tileC (x : Int) (y : Int)) (HGT.out _ HT.out).2.2.1 ?_) | (go_at_call 46; refine (HLA.out _ H0.out HV.out).mono ?_; rintro e W2 ⟨rfl, hb2⟩; replace H0 := Lib.hid (below_row hb2 H0.out); replace H1 := Lib.hid (below_row hb2 H1.out); replace H6 := Lib.hid (below_row hb2 H6.out); replace HT := Lib.hid (below_row hb2 HT.out); replace hb := hb.trans (hb2.mono hb.size); clear hb2) | (refine wpList_store_part rfl 28 _ _ rfl b6 0 (tileC (x : Int) (y : Int)) rfl rfl 28 (tileC ((bx : Nat) : Int) ((bY : Nat) : Int)) H6.out info_tile (Nat.le_refl _) (tile_one _ _) ?_; rw [laid_allwE _ _ (by rfl)]))
        go_roundw
        case rel => exact ⟨k + 1, by omega, by omega, by first | (simp; done) | (simp; omega), by rw [HBS.out]; simp, (setRow_other _ _ _ _ (by omega)).trans H0.out, (setRow_other _ _ _ _ (by omega)).trans H1.out, by rw [HBS.out]; simp only [if_true]; rw [HE2.out.1, HE2.out.2]; exact setRow_heap _ _ _ _ _ _ H6.out, (setRow_other _ _ _ _ (by omega)).trans HT.out, below_setRow hb (by omega) _⟩
        case measure => simp [intOf]; omega
    · obtain rfl : k = W * H := by omega
      have z1 : ¬ (((W * H : Nat) : Int) < ((W * H : Nat) : Int)) := Int.lt_irrefl _
      clear hlt hk HSP HGK HLT HBL
      have hn9 : w.heap.size ≤ b1 := hle1
      obtain ⟨b, hbd⟩ : ∃ b, b = bstK gk (W * H) := ⟨_, rfl⟩
      rw [← hbd] at H6 ⊢
      have HBD := Lib.hid hbd
      clear hbd
      obtain ⟨bx, hbx⟩ : ∃ bx : Int, bx = ((b % W : Nat) : Int) := ⟨_, rfl⟩
      obtain ⟨bY, hbY⟩ : ∃ bY : Int, bY = ((b / W : Nat) : Int) := ⟨_, rfl⟩
      rw [← hbx, ← hbY] at H6
      have HBX := Lib.hid (And.intro hbx hbY)
      clear hbx hbY
      go_wp2_with (first | (refine wpList_load_part rfl 28 _ rfl b6 0 2 rfl 28 (tileC bx bY) (0, 0) _ H6.out Tryd.underlying28 rfl info_tile (tile_fits _ _) _ (tile_all _ _) ?_) | (refine wpList_store_part rfl 28 _ _ rfl b1 0 (tileC bx bY) rfl rfl 28 (tileC 0 0) H1.out info_tile (Nat.le_refl _) (tile_one _ _) ?_; rw [laid_allwE _ _ (by rfl)]))
      refine bodyPost_ret (results_t3 rfl _ _ b1 bx bY rfl (setRow_heap _ _ _ _ _ _ H1.out)) rfl ?_
      exact ⟨by rw [← HBD.out, HBX.out.1, HBX.out.2]; rfl, below_setRow hb hle1 _⟩

end Go.Proofs.YtdccmdcgbembpaaDoor

namespace Go.Proofs.YtdccmdcgbembpaaDoor
open Go.ChangeShapes Go.WideShapes Go.ChangeAt Go.RowKit Go.Deep Go.Joins

attribute [local go_sem] run_store_floatE

theorem lit_cap {wd hg : Int} {ws : List Wn} (ok : RmOk wd hg ws) (hwf : ∀ x ∈ ws, WnWf x) {a1 a2 : Int} (ha : inRoom wd hg (a1, a2)) : litW wd hg (a1, a2) (fun _ => true) ws ≤ floatOfInt .f32 (12 : Int) :=
  sumL_num (qsW_ok ok.w0 ok.w1 ok.h0 ok.h1 ha (fun y hy => fit_get (hwf y hy) (ok.all y hy))) (Nat.le_trans (qsW_len _ _ _ _ _) ok.len)

end Go.Proofs.YtdccmdcgbembpaaDoor

namespace Go.Proofs.YtdccmdcgbembpaaDoor
open Go.ChangeShapes Go.WideShapes Go.ChangeAt Go.RowKit

set_option maxRecDepth 100000 in
theorem cells_sunL : Tryd.prog.cellsOf 67 = 48 := by kernel_rfl

set_option maxRecDepth 100000 in
theorem cells_arr : Tryd.prog.cellsOf 65 = 24 := by kernel_rfl

set_option maxRecDepth 100000 in
theorem cells_i16 : Tryd.prog.cellsOf 64 = 1 := by kernel_rfl

def rd16 : Value → Int | .int _ n => n | _ => 0

set_option maxRecDepth 100000 in
theorem open_arr {H : Type} {enc : TypeId × Value → H} {W : World} {base : Nat} {spare : Nat → Bool} {held : Bool} {fuel : Nat} {cs : List Value} {x : DataW H × List MemPlace}
    (h : DataW.trod enc Tryd.prog W base spare held fuel 65 cs = some x) : ∀ i, i < 24 → ∃ n, cs[i]? = some (.int .i16 n) ∧ -32768 ≤ n ∧ n ≤ 32767 := by
  obtain ⟨xs, m, _, _, hl, hlen, hf⟩ := Go.DataW.trod_array Tryd.underlying65 h
  rw [cells_arr] at hl
  intro i hi
  have h1 := hf i hi
  rw [cells_i16, Nat.mul_one] at h1
  rw [List.getElem?_eq_getElem (by omega : i < xs.length)] at h1
  obtain ⟨n, hn, _, hw⟩ := DataW.trod_int Tryd.underlying64 h1
  refine ⟨n, ?_, ?_⟩
  · have h2 : ((cs.drop i).take 1)[0]? = some (.int .i16 n) := by rw [hn]; rfl
    rw [List.getElem?_take_of_lt (by decide), List.getElem?_drop] at h2
    simpa using h2
  · simp [Lit.wf, IntKind.min, IntKind.max, IntKind.signed, IntKind.bits] at hw
    omega

set_option maxRecDepth 100000 in
theorem open_sun {H : Type} {enc : TypeId × Value → H} {W : World} {b0 base : Nat} {spare : Nat → Bool} {held : Bool} {r : Reach} {v : Value} {d : DataW H} {p : List MemPlace}
    (hv : Value.okWide Tryd.prog W r b0 67 v) (h : DataW.Trod enc Tryd.prog W base spare held 67 v d p) :
    ∃ hs ts : List Int, hs.length = 24 ∧ ts.length = 24 ∧ (∀ x ∈ hs ++ ts, -32768 ≤ x ∧ x ≤ 32767) ∧ v = .agg (sunC hs ts) := by
  obtain ⟨cs, rfl, hsz⟩ := okWide_struct Tryd.underlying67 hv
  rw [cells_sunL] at hsz
  obtain ⟨fuel, hf⟩ := h
  obtain ⟨y0, y1, n, hx, _, h0, h1⟩ := trod_struct2 Tryd.underlying67 hf
  have hall : ∀ i, i < 48 → ∃ n, cs.toList[i]? = some (.int .i16 n) ∧ -32768 ≤ n ∧ n ≤ 32767 := by
    intro i hi
    by_cases c : i < 24
    · obtain ⟨n, hn, hb⟩ := open_arr h0 i c
      refine ⟨n, ?_, hb⟩
      simp only [Value.cells, cells_arr, List.drop_zero] at hn
      rwa [List.getElem?_take_of_lt c] at hn
    · obtain ⟨n, hn, hb⟩ := open_arr h1 (i - 24) (by omega)
      refine ⟨n, ?_, hb⟩
      simp only [Value.cells, cells_arr] at hn
      rw [List.getElem?_take_of_lt (by omega), List.getElem?_drop] at hn
      rwa [show 24 + (i - 24) = i by omega] at hn
  have hlen : cs.toList.length = 48 := by simpa using hsz
  have hcs : cs = i16s (cs.toList.map rd16) := by
    apply Array.ext'
    simp only [i16s, List.map_map]
    apply List.ext_getElem?
    intro i
    by_cases c : i < 48
    · obtain ⟨n, hn, _⟩ := hall i c
      rw [hn, List.getElem?_map, hn]; rfl
    · rw [List.getElem?_eq_none (by omega), List.getElem?_eq_none (by simp; omega)]
  refine ⟨(cs.toList.map rd16).take 24, (cs.toList.map rd16).drop 24, by simp; omega, by simp; omega, ?_, ?_⟩
  · rw [List.take_append_drop]
    intro x hx
    obtain ⟨i, hi, rfl⟩ := List.mem_iff_getElem.1 hx
    simp only [List.length_map] at hi
    obtain ⟨n, hn, hb⟩ := hall i (by omega)
    rw [List.getElem?_eq_getElem hi] at hn
    simp only [List.getElem_map]
    have : cs.toList[i] = .int .i16 n := by injection hn
    rw [this]; exact hb
  · unfold sunC
    rw [List.take_append_drop, ← hcs]

end Go.Proofs.YtdccmdcgbembpaaDoor
