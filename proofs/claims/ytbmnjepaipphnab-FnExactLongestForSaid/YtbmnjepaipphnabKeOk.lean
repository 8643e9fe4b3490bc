/-
  Which keepers are valid: contracts of the program and of the model.
-/
import Derived.Test.YtbmnjepaipphnabKeA
import Derived.Test.YtbmnjepaipphnabPlainN
import Derived.Test.YtbmnjepaipphnabLaw
namespace Go.Proofs.Ytbmnjepaipphnab
open Go.ChangeShapes Go.WideShapes Go.ChangeAt Go.RowKit Go.Deep Go.Joins

attribute [local go_sem] run_store_f

def inI (lo hi x : Int) : Bool := decide (lo ≤ x) && decide (x ≤ hi)
def frcB (a : Nat) : Bool := plainB a && ge0 (FloatKind.f32.format.order a 0)
def okKe (hd cm : Nat) (wt : Int) : Bool := frcB hd && frcB cm && le0 (FloatKind.f32.format.order cm hd) && inI 1 24 wt

theorem ret_boolA {a b : Bool} (h : a = b) : Ending.returned (.bool a) = .returned (.bool b) := by rw [h]

set_option maxHeartbeats 1000000 in
theorem isForce_any (a : Nat) (w : World) :
    Calls Try.prog 63 #[.float .f32 a] w fun e w' => e = .returned (.bool (frcB a)) ∧ w = w' := by
  unfold frcB
  cases h : plainB a with
  | true =>
    rcases h0 : FloatKind.f32.format.order a 0 with _ | (_ | _ | _)
    all_goals
      go_enter Try.func63, Try.ntmps63
      go_wp2_with (go_at_call 105; refine (isPlain_any _ _).mono ?_; rw [h]; rintro e w' ⟨rfl, rfl⟩)
      go_ret
      exact ⟨rfl, rfl⟩
  | false =>
    go_enter Try.func63, Try.ntmps63
    go_wp2_with (go_at_call 105; refine (isPlain_any _ _).mono ?_; rw [h]; rintro e w' ⟨rfl, rfl⟩)
    go_ret
    exact ⟨rfl, rfl⟩

set_option maxHeartbeats 1000000 in
theorem l04Gust_any (a : Nat) (w : World) :
    Calls Try.prog 64 #[.float .f32 a] w fun e w' => e = .returned (.bool (frcB a)) ∧ w = w' := by
  unfold frcB
  cases h : plainB a with
  | true =>
    rcases h0 : FloatKind.f32.format.order a 0 with _ | (_ | _ | _)
    all_goals
      go_enter Try.func64, Try.ntmps64
      go_wp2_with (go_at_call 106; refine (l01Plain_any _ _).mono ?_; rw [h]; rintro e w' ⟨rfl, rfl⟩)
      go_ret
      exact ⟨rfl, rfl⟩
  | false =>
    go_enter Try.func64, Try.ntmps64
    go_wp2_with (go_at_call 106; refine (l01Plain_any _ _).mono ?_; rw [h]; rintro e w' ⟨rfl, rfl⟩)
    go_ret
    exact ⟨rfl, rfl⟩

set_option maxHeartbeats 1000000 in
theorem l00In_ke (a lo hi : Int) (w : World) :
    Calls Try.prog 102 #[.int .i64 a, .int .i64 lo, .int .i64 hi] w fun e w' => e = .returned (.bool (inI lo hi a)) ∧ w = w' := by
  unfold inI
  by_cases h0 : lo ≤ a
  · by_cases h1 : a ≤ hi
    all_goals
      go_enter Try.func102, Try.ntmps102
      go_wp2
      go_ret
      first | (simp; done) | (simp; omega)
  · go_enter Try.func102, Try.ntmps102
    go_wp2
    go_ret
    first | (simp; done) | (simp; omega)

set_option maxRecDepth 100000 in
set_option maxHeartbeats 1000000 in
theorem implValidKeeper_any (hd cm : Nat) (wt : Int) (w : World) :
    Calls Try.prog 25 #[.agg (keC hd cm wt)] w fun e w' => e = .returned (.bool (okKe hd cm wt)) ∧ Below w.heap.size w w' := by
  go_enter Try.func25, Try.ntmps25
  go_upto_region 1 with (fail)
  refine abs_world (fun W => Below w.heap.size w W ∧ W.heap[w.heap.size]? = some (.cells (keC hd cm wt) 42 (0, 0))) ⟨(Below.refl _ _).alloc (Nat.le_refl _) _, heap_alloc_new _ _⟩ ?_
  rintro W ⟨hb, h0⟩
  obtain ⟨c0, c1, c2⟩ := ke_cells h0
  clear h0
  go_wp2_with (go_at_call 63; refine (isForce_any _ _).mono ?_; rintro e w' ⟨rfl, rfl⟩)
  all_goals
    go_ret
    refine ⟨ret_boolA ?_, hb⟩
    first | (simp only [okKe, inI, le0, Bool.and_assoc]; done) | (simp [okKe, inI, le0, *]; done) | (simp [okKe, inI, le0, *]; omega)

set_option maxRecDepth 100000 in
set_option maxHeartbeats 1000000 in
theorem l04Keeper_any (hd cm : Nat) (wt : Int) (w0 : -128 ≤ wt) (w1 : wt ≤ 127) (w : World) :
    Calls Try.prog 62 #[.agg (keC hd cm wt)] w fun e w' => e = .returned (.bool (okKe hd cm wt)) ∧ Below w.heap.size w w' := by
  go_enter Try.func62, Try.ntmps62
  go_upto_region 1 with (fail)
  refine abs_world (fun W => Below w.heap.size w W ∧ W.heap[w.heap.size]? = some (.cells (keC hd cm wt) 42 (0, 0))) ⟨(Below.refl _ _).alloc (Nat.le_refl _) _, heap_alloc_new _ _⟩ ?_
  rintro W ⟨hb, h0⟩
  obtain ⟨c0, c1, c2⟩ := ke_cells h0
  clear h0
  go_wp2_with (first | (go_at_call 64; refine (l04Gust_any _ _).mono ?_; rintro e w' ⟨rfl, rfl⟩) | (go_at_call 102; refine (l00In_ke _ _ _ _).mono ?_; rintro e w' ⟨rfl, rfl⟩))
  all_goals
    go_ret
    refine ⟨ret_boolA ?_, hb⟩
    first | (simp only [okKe, le0, Bool.and_assoc]; done) | (simp [okKe, le0, *]; done)

set_option maxRecDepth 100000 in
set_option maxHeartbeats 1000000 in
theorem specValidKeeper_any (hd cm : Nat) (wt : Int) (w0 : -128 ≤ wt) (w1 : wt ≤ 127) (w : World) :
    Calls Try.prog 23 #[.agg (keC hd cm wt)] w fun e w' => e = .returned (.bool (okKe hd cm wt)) ∧ Below w.heap.size w w' := by
  go_enter Try.func23, Try.ntmps23
  go_upto_region 1 with (fail)
  refine abs_world (fun W => Below w.heap.size w W ∧ W.heap[w.heap.size]? = some (.cells (keC hd cm wt) 42 (0, 0))) ⟨(Below.refl _ _).alloc (Nat.le_refl _) _, heap_alloc_new _ _⟩ ?_
  rintro W ⟨hb, h0⟩
  have H0 := Lib.hid h0
  clear h0
  go_wp2_with (first | (refine wpList_load_part rfl 42 _ rfl w.heap.size 0 3 rfl 42 (keC hd cm wt) (0, 0) _ H0.out Try.underlying42 rfl info_ke (ke_fits _ _ _) _ (ke_all _ _ _) ?_) | (go_at_call 62; refine (l04Keeper_any _ _ _ w0 w1 _).mono ?_; rintro e W1 ⟨rfl, hb1⟩; replace hb := hb.trans (hb1.mono hb.size); clear hb1))
  go_ret
  exact ⟨rfl, hb⟩

end Go.Proofs.Ytbmnjepaipphnab
