/-
  The bits of a floor's numbers; whether two floors are the same.
-/
import Derived.Test.YtmniodfdoidffaaDoorFoA
import Derived.Test.YtmniodfdoidffaaDoorSameF
import Derived.Test.YtmniodfdoidffaaDoorTake
import Derived.Test.YtmniodfdoidffaaDoorEq
namespace Go.Proofs.YtmniodfdoidffaaDoor
open Go.ChangeShapes Go.WideShapes Go.ChangeAt Go.RowKit Go.Deep Go.Joins

attribute [local go_sem] run_store_f

/-- Numbers of 32 bits as cells. -/
def u32s (xs : List Int) : Array Value := (xs.map (Value.int .u32)).toArray
@[simp] theorem u32s_size (xs : List Int) : (u32s xs).size = xs.length := by simp [u32s]

theorem u32s_get (xs : List Int) (k : Nat) (h : k < xs.length) : (u32s xs)[k]? = some (.int .u32 (xs[k]?.getD 0)) := by
  simp [u32s, h]

theorem u32s_one (xs : List Int) : ∀ v ∈ u32s xs, v.oneCell' = true := by
  intro v hv
  simp only [u32s, List.mem_toArray, List.mem_map] at hv
  obtain ⟨x, _, rfl⟩ := hv
  rfl

theorem u32s_set (xs : List Int) (k : Nat) (n : Int) : (u32s xs).setIfInBounds k (.int .u32 n) = u32s (xs.set k n) := by
  apply Array.ext'
  simp [u32s, List.map_set]

set_option maxRecDepth 100000 in
theorem info_uarr : (Tryd.prog.info? 231).map (·.size) = some 24 := by kernel_rfl

theorem zerosU : (#[.int .u32 0, .int .u32 0, .int .u32 0, .int .u32 0, .int .u32 0, .int .u32 0, .int .u32 0, .int .u32 0, .int .u32 0, .int .u32 0, .int .u32 0, .int .u32 0, .int .u32 0, .int .u32 0, .int .u32 0, .int .u32 0, .int .u32 0, .int .u32 0, .int .u32 0, .int .u32 0, .int .u32 0, .int .u32 0, .int .u32 0, .int .u32 0] : Array Value) = u32s (List.replicate 24 0) := rfl

theorem u32s_all (xs : List Int) (n : Nat) (h : xs.length = n) : (u32s xs).extract 0 (0 + n) = u32s xs := by
  have e : n = (u32s xs).size := by simp [h]
  rw [Nat.zero_add, e, Array.extract_size]

set_option maxRecDepth 100000 in
theorem size_f32 (w : World) : (sizeOf 25).run Tryd.prog w = .ok 1 w := by kernel_rfl

set_option maxRecDepth 100000 in
theorem agg_f32 (w : World) : (isAgg 25).run Tryd.prog w = .ok false w := by kernel_rfl

set_option maxRecDepth 100000 in
theorem size_u32 (w : World) : (sizeOf 56).run Tryd.prog w = .ok 1 w := by kernel_rfl

set_option maxRecDepth 100000 in
theorem agg_u32 (w : World) : (isAgg 56).run Tryd.prog w = .ok false w := by kernel_rfl

theorem part_f32 (xs : List Nat) (i : Nat) (h : i < xs.length) (w : World) : (part 25 (f32s xs) i).run Tryd.prog w = .ok (.float .f32 (xs[i]?.getD 0)) w := by
  unfold part
  rw [Sem.run_bind, agg_f32]
  simp only [Result.andThen_ok, Bool.false_eq_true, if_false, f32s_get xs i h]
  rfl

/-- A number of a floor that is a value. -/
theorem run_index_f (xs : List Nat) (hx : xs.length = 24) (k : Nat) (hk : k < 24) (w : World) : (Instr.index 61 (.agg (f32s xs)) (.int .i64 (k : Int))).run Tryd.prog w = .ok (.float .f32 (xs[k]?.getD 0)) w := by
  have h0 : (0 : Int) ≤ (k : Int) ∧ (k : Int) < ((24 : Nat) : Int) := ⟨Int.natCast_nonneg _, by omega⟩
  unfold Instr.index
  simp only [asIntOf, Sem.run_bind, Sem.run_pure, Result.andThen_ok, run_underlying Tryd.underlying61, if_pos h0, size_f32, Int.toNat_natCast, Nat.mul_one]
  exact part_f32 xs k (by omega) w

theorem part_u32 (xs : List Int) (i : Nat) (h : i < xs.length) (w : World) : (part 56 (u32s xs) i).run Tryd.prog w = .ok (.int .u32 (xs[i]?.getD 0)) w := by
  unfold part
  rw [Sem.run_bind, agg_u32]
  simp only [Result.andThen_ok, Bool.false_eq_true, if_false, u32s_get xs i h]
  rfl

theorem eq_loopU (d : Nat) (xs ys : List Int) (w : World) : ∀ (is : List Nat), (∀ i ∈ is, i < xs.length ∧ i < ys.length) →
    (forIn is ((none, ()) : Option Bool × Unit) (fun i _ => do
      if (!(← Op.equalIn (d + 1) 56 (← part 56 (u32s xs) (i * 1)) (← part 56 (u32s ys) (i * 1)))) = true then pure (ForInStep.done (some false, ()))
      else pure (ForInStep.yield (none, ())))).run Tryd.prog w = .ok (if is.all (fun i => xs[i]?.getD 0 == ys[i]?.getD 0) then (none, ()) else (some false, ())) w
  | [], _ => rfl
  | i :: is, h => by
    have hi := h i (by simp)
    have ih := eq_loopU d xs ys w is (fun j hj => h j (by simp [hj]))
    rw [List.forIn_cons]
    simp only [Nat.mul_one] at ih ⊢
    simp only [Sem.run_bind, part_u32 xs i hi.1, part_u32 ys i hi.2, Result.andThen_ok, run_equalIn_int w d 56 .u32 .u32 _ _ Tryd.underlying56]
    cases hc : (xs[i]?.getD 0 == ys[i]?.getD 0)
    · simp [hc]
    · simp only [Bool.not_true, Bool.false_eq_true, if_false, Sem.run_pure, Result.andThen_ok, List.all_cons, hc, Bool.true_and]
      exact ih

theorem run_eql_uarr (xs ys : List Int) (hx : xs.length = 24) (hy : ys.length = 24) (w : World) :
    (Op.equalIn 10000 231 (.agg (u32s xs)) (.agg (u32s ys))).run Tryd.prog w = .ok (xs == ys) w := by
  have hl := eq_loopU 9998 xs ys w (List.range' 0 24) (fun i hi => by simp [List.mem_range'] at hi; omega)
  rw [all_eq xs ys 24 hx hy] at hl
  rw [Op.equalIn.eq_def]
  simp only [Sem.run_bind, run_underlying Tryd.underlying231, Result.andThen_ok, size_u32]
  rw [Std.Legacy.Range.forIn_eq_forIn_range']
  have e : (Std.Legacy.Range.mk 0 24 1 (by decide)).size = 24 := by decide
  simp only [e]
  erw [hl]
  cases xs == ys <;> rfl

/-- The bits of the first numbers, and noughts. -/
def bitsK (xs : List Nat) (k : Nat) : List Int := (xs.take k).map nbB ++ List.replicate (24 - k) 0

theorem bitsK_len {xs : List Nat} (hx : xs.length = 24) {k : Nat} (hk : k ≤ 24) : (bitsK xs k).length = 24 := by
  unfold bitsK
  simp [hx]
  omega

theorem bitsK_step {xs : List Nat} (hx : xs.length = 24) {k : Nat} (hk : k < 24) : (bitsK xs k).set k (nbB (xs[k]?.getD 0)) = bitsK xs (k + 1) := by
  unfold bitsK
  have e : xs[k]? = some (xs[k]'(by omega)) := List.getElem?_eq_getElem (by omega)
  rw [e, Option.getD_some, List.take_succ_eq_append_getElem (by omega), List.map_append, List.set_append_right _ _ (by simp [hx]; omega)]
  have e2 : 24 - k = (24 - (k + 1)) + 1 := by omega
  have e3 : k - (List.map nbB (List.take k xs)).length = 0 := by simp [hx]; omega
  rw [e3, e2, List.replicate_succ, List.set_cons_zero, List.append_assoc]
  rfl

theorem bitsK_all {xs : List Nat} (hx : xs.length = 24) : bitsK xs 24 = xs.map nbB := by
  unfold bitsK
  rw [List.take_of_length_le (by omega)]
  simp

theorem sameL_bits : ∀ (xs ys : List Nat), xs.length = ys.length → (xs.map nbB == ys.map nbB) = sameL xs ys
  | [], [], _ => rfl
  | x :: xs, y :: ys, h => by
    have ih := sameL_bits xs ys (by simpa using h)
    unfold sameL at ih ⊢
    rw [List.map_cons, List.map_cons, List.zip_cons_cons, List.all_cons, ← ih]
    rfl

set_option maxRecDepth 100000 in
set_option maxHeartbeats 2000000 in
theorem bits_any (xs : List Nat) (hx : xs.length = 24) (w : World) :
    Calls Tryd.prog 182 #[.agg (f32s xs)] w fun e w' => e = .returned (.agg (u32s (xs.map nbB))) ∧ Below w.heap.size w w' := by
  have Hx := Lib.hid hx
  have HI := Lib.hid (fun k hk w => run_index_f xs hx k hk w)
  clear hx
  go_enter Tryd.func182, Tryd.ntmps182
  go_upto_region 3 with (refine wpList_load_part rfl 61 _ rfl w.heap.size 0 24 rfl 61 (f32s xs) (0, 0) _ (by simp only [heap_alloc, World.size_alloc]; rw [if_neg (by omega), if_neg (by omega), if_true]) Tryd.underlying61 rfl info_floor (by rw [f32s_size, Hx.out]; decide) (f32s xs) (f32s_all _ 24 Hx.out) ?_)
  go_loopw [7] (fun i wr => ∃ k : Nat, k ≤ 24 ∧ i = .int .i64 k ∧ Below w.heap.size w wr ∧ wr.heap.size = w.heap.size + 3 ∧ wr.heap[w.heap.size + 1]? = some (.cells (u32s (List.replicate 24 0)) 231 (0, 0)) ∧ wr.heap[w.heap.size + 1 + 1]? = some (.cells (u32s (bitsK xs k)) 231 (0, 0))) (fun i _ => 24 - (intOf i).toNat)
  case atStart =>
    refine ⟨0, Nat.zero_le _, rfl, ?_, ?_, ?_, ?_⟩
    · exact (((Below.refl _ _).alloc (Nat.le_refl _) _).alloc (by simp) _).alloc (by simp; omega) _
    · simp
    all_goals simp only [heap_alloc, World.size_alloc]
    · rw [if_neg (by omega), if_true]; rfl
    · rw [if_true]; rfl
  case round =>
    obtain ⟨k, hk, rfl, hb, hs, h1, h2⟩ := hrel
    by_cases hlt : k < 24
    · have hi := HI.out k hlt
      have hN := fun w => numberBits_is (xs[k]?.getD 0) w
      have hst := bitsK_step Hx.out hlt
      have hf := frozen_of_row wr (w.heap.size + 1 + 1) k _ _ h2
      have hl2 := bitsK_len Hx.out hk
      have hd : wr.cell? ⟨w.heap.size + 1 + 1, k, none⟩ = some (.int .u32 ((bitsK xs k)[k]?.getD 0)) := by rw [cell_of_row wr _ _ _ _ _ h2, u32s_get _ _ (by omega)]
      have H2 := Lib.hid h2
      have H1 := Lib.hid h1
      have Hs := Lib.hid hs
      have Hst := Lib.hid hst
      have HN := Lib.hid hN
      have z1 : (k : Int) < 24 := by omega
      have z2 : (0 : Int) ≤ (k : Int) := by omega
      generalize xs[k]?.getD 0 = x at *
      generalize nbB x = bx at *
      clear h1 h2 hs hst hl2 hN
      go_wp2_with (go_at_call 62; refine (HN.out _).mono ?_; rintro e w' ⟨rfl, rfl⟩)
      go_roundw
      case rel =>
        refine ⟨k + 1, by omega, by go_num, hb.setCell (by simp; omega) _, ?_, ?_, ?_⟩
        · rw [← Hs.out]; simp
        · rw [heap_setCell_other _ _ _ _ (by simp)]; exact H1.out
        · rw [heap_setCell_same _ _ _ _ _ _ H2.out, u32s_set, Hst.out]
      case measure => simp [intOf]; omega
    · obtain rfl : k = 24 := by omega
      have e24 := bitsK_all Hx.out
      rw [e24] at h2
      have hm : (xs.map nbB).length = 24 := by rw [List.length_map]; exact Hx.out
      have Hm := Lib.hid hm
      have H2 := Lib.hid h2
      have H1 := Lib.hid h1
      have Hs := Lib.hid hs
      clear h1 h2 hs e24 hlt hk hm HI
      go_wp2_with (first | (refine wpList_load_part rfl 231 _ rfl _ _ 24 rfl _ _ _ _ H2.out Tryd.underlying231 rfl info_uarr (by rw [u32s_size, Hm.out]; decide) _ (u32s_all _ 24 Hm.out) ?_) | (refine wpList_store_part rfl 231 _ _ rfl _ _ _ rfl rfl _ _ H1.out (by rw [u32s_size, Hm.out]; exact info_uarr) (by simp [Hx.out]) (u32s_one _) ?_; rw [laid_all _ _ (by simp [Hx.out])]))
      exact bodyPost_ret (results_cell_row rfl _ _ _ _ _ _ _ rfl (setRow_heap _ _ _ _ _ _ H1.out) Tryd.underlying231 rfl (by rw [u32s_size, Hm.out]; exact info_uarr)) rfl ⟨rfl, below_setRow hb (by omega) _⟩

set_option maxRecDepth 100000 in
set_option maxHeartbeats 2000000 in
theorem SameFloor_any (xs ys : List Nat) (hx : xs.length = 24) (hy : ys.length = 24) (w : World) :
    Calls Tryd.prog 138 #[.agg (f32s xs), .agg (f32s ys)] w fun e w' => e = .returned (.bool (sameL xs ys)) ∧ Below w.heap.size w w' := by
  have hq1 := run_eql_uarr (xs.map nbB) (ys.map nbB) (by simpa using hx) (by simpa using hy)
  rw [sameL_bits xs ys (by omega)] at hq1
  have hgd1 := fun w => run_eqGuard_agg (P := Tryd.prog) w .eql 231 (.tmp 6) (.tmp 8) (u32s (xs.map nbB)) (u32s (ys.map nbB)) (by kernel_rfl)
  have Hx := Lib.hid hx
  have Hy := Lib.hid hy
  clear hx hy
  go_enter Tryd.func138, Tryd.ntmps138
  go_upto_region 1 with (fail)
  refine abs_code (fun W => W.heap[w.heap.size]? = some (.cells (f32s xs) 61 (0, 0)) ∧ W.heap[w.heap.size + 1]? = some (.cells (f32s ys) 61 (0, 0)) ∧ Below w.heap.size w W) ⟨heap_alloc2_old _ _ _, heap_alloc2_new _ _ _, ((Below.refl _ _).alloc (Nat.le_refl _) _).alloc (by simp) _⟩ ?_
  rintro W ⟨h0, h1, hb⟩
  generalize w.heap.size + 1 = b1 at *
  refine wp_region_held_drew (S := (fun W => W.heap[w.heap.size]? = some (.cells (f32s xs) 61 (0, 0)) ∧ W.heap[b1]? = some (.cells (f32s ys) 61 (0, 0)) ∧ Below w.heap.size w W)) (by kernel_rfl) ⟨h0, h1, hb.drew⟩ (fun hHeld => ?_)
  refine take_op (i := 0) (d := 5) (v := .agg (f32s xs)) rfl rfl (by kernel_rfl) (by kernel_rfl) (by kernel_rfl) (fun _ _ _ h => h) (yields_row (by rfl) 61 (.tmp 2) (by rfl) w.heap.size 0 24 (by rfl) 61 (f32s xs) (0, 0) _ (fun _ h => h.1) Tryd.underlying61 rfl info_floor (by rw [f32s_size, Hx.out]; decide) (f32s xs) (f32s_all _ 24 Hx.out)) hHeld ?_
  simp only [List.setIfInBounds_toArray, List.set_cons_zero, List.set_cons_succ]
  refine take_op (i := 2) (d := 7) (v := .agg (f32s ys)) rfl rfl (by kernel_rfl) (by kernel_rfl) (by kernel_rfl) (fun _ _ _ h => h) (yields_row (by rfl) 61 (.tmp 3) (by rfl) b1 0 24 (by rfl) 61 (f32s ys) (0, 0) _ (fun _ h => h.2.1) Tryd.underlying61 rfl info_floor (by rw [f32s_size, Hy.out]; decide) (f32s ys) (f32s_all _ 24 Hy.out)) hHeld ?_
  simp only [List.setIfInBounds_toArray, List.set_cons_zero, List.set_cons_succ]
  refine wpAnyH_ready (rs := [1]) (by kernel_rfl) (by simp) ?_
  refine AllReadyH.cons rfl (fun K hK => ?_) AllReadyH.nil
  go_simp
  refine (bits_any xs Hx.out _).mono ?_
  rintro e W1 ⟨rfl, hb1⟩
  refine hK.out _ _ (⟨below_row hb1 hHeld.1, below_row hb1 hHeld.2.1, hHeld.2.2.trans (hb1.mono hHeld.2.2.size)⟩) (fun hHeld2 => ?_)
  clear hK K
  replace hHeld := hHeld2
  clear hHeld2
  refine wpAnyH_ready (rs := [3]) (by kernel_rfl) (by simp) ?_
  refine AllReadyH.cons rfl (fun K hK => ?_) AllReadyH.nil
  go_simp
  refine (bits_any ys Hy.out _).mono ?_
  rintro e W1 ⟨rfl, hb1⟩
  refine hK.out _ _ (⟨below_row hb1 hHeld.1, below_row hb1 hHeld.2.1, hHeld.2.2.trans (hb1.mono hHeld.2.2.size)⟩) (fun hHeld2 => ?_)
  clear hK K
  replace hHeld := hHeld2
  clear hHeld2
  refine take_op (i := 4) (d := 9) (v := ?_) rfl rfl (by kernel_rfl) (by kernel_rfl) (by kernel_rfl) (fun _ _ _ h => h) (Or.inl ⟨by rfl, ?hy4u1⟩) hHeld ?rest4u1
  case hy4u1 =>
    intro w' hS'
    go_simp
    try with_reducible rfl
  simp only [List.setIfInBounds_toArray, List.set_cons_zero, List.set_cons_succ]
  refine take_op (i := 5) (d := 4) (v := ?_) rfl rfl (by kernel_rfl) (by kernel_rfl) (by kernel_rfl) (fun _ _ _ h => h) (Or.inl ⟨by rfl, ?hy5u2⟩) hHeld ?rest5u2
  case hy5u2 =>
    intro w' hS'
    go_simp
    try with_reducible rfl
  simp only [List.setIfInBounds_toArray, List.set_cons_zero, List.set_cons_succ]
  refine wpAnyH_done (by kernel_rfl) ?_ _
  have hbx := hHeld.2.2
  clear hHeld h0 h1 hb
  go_wp2
  go_ret
  exact ⟨rfl, hbx⟩

theorem l01Same_is6a (a b : Nat) (r : Bool) (hr : sameB a b = r) (w : World) : Calls Tryd.prog 56 #[.float .f32 a, .float .f32 b] w fun e w' => e = .returned (.bool r) ∧ w = w' := by subst hr; exact l01Same_is a b w

end Go.Proofs.YtmniodfdoidffaaDoor
