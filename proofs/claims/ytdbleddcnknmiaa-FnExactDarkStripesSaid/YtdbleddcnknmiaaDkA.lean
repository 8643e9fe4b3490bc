/-
  The stripes of a floor that are darker than a bound: the program and the model.
-/
import Derived.Test.YtdbleddcnknmiaaFoB
import Derived.Test.YtdbleddcnknmiaaPkP
import Derived.Test.YtdbleddcnknmiaaBok
namespace Go.Proofs.Ytdbleddcnknmiaa
open Go.ChangeShapes Go.WideShapes Go.ChangeAt Go.RowKit Go.Deep Go.Joins

attribute [local go_sem] run_store_f

/-- Whether a number is less. -/
def ltF (a b : Nat) : Bool := FloatKind.f32.format.order a b == some .lt

theorem lt_cases (a b : Nat) : (FloatKind.f32.format.order a b = some .lt ∧ ltF a b = true) ∨ (FloatKind.f32.format.order a b = some .eq ∧ ltF a b = false) ∨ (FloatKind.f32.format.order a b = some .gt ∧ ltF a b = false) ∨ (FloatKind.f32.format.order a b = none ∧ ltF a b = false) := by
  unfold ltF
  rcases FloatKind.f32.format.order a b with _ | (_ | _ | _) <;> simp <;> rfl

def darkP (xs : List Nat) (b : Nat) (k : Nat) : Bool := ltF (xs[k]?.getD 0) b

set_option maxRecDepth 100000 in
set_option maxHeartbeats 1000000 in
theorem iDark_no (xs : List Nat) (b : Nat) (hb0 : partB b = false) (w : World) :
    Calls Try.prog 18 #[.agg (f32s xs), .float .f32 b] w fun e w' => e = .returned (.tuple #[.int .u32 0, .int .i64 2]) ∧ Below w.heap.size w w' := by
  have HB := Lib.hid (fun w => isPart_any b w)
  rw [hb0] at HB
  clear hb0
  go_enter Try.func18, Try.ntmps18
  go_wp2_with (go_at_call 34; refine (HB.out _).mono ?_; rintro e w' ⟨rfl, rfl⟩)
  go_ret2
  exact ⟨rfl, (Below.refl _ _).alloc (Nat.le_refl _) _⟩

set_option maxRecDepth 100000 in
set_option maxHeartbeats 1000000 in
theorem sDark_no (xs : List Nat) (b : Nat) (hb0 : partB b = false) (w : World) :
    Calls Try.prog 17 #[.agg (f32s xs), .float .f32 b] w fun e w' => e = .returned (.tuple #[.int .u32 0, .int .i64 2]) ∧ Below w.heap.size w w' := by
  have HB := Lib.hid (fun w => l01Part_any b w)
  rw [hb0] at HB
  clear hb0
  go_enter Try.func17, Try.ntmps17
  go_wp2_with (go_at_call 33; refine (HB.out _).mono ?_; rintro e w' ⟨rfl, rfl⟩)
  go_ret2
  exact ⟨rfl, (Below.refl _ _).alloc (Nat.le_refl _) _⟩

set_option maxRecDepth 100000 in
set_option maxHeartbeats 4000000 in
theorem iDark_yes (xs : List Nat) (hx : xs.length = 24) (b : Nat) (hb0 : partB b = true) (w : World) :
    Calls Try.prog 18 #[.agg (f32s xs), .float .f32 b] w fun e w' => e = .returned (.tuple #[.int .u32 (packP (darkP xs b) 24 : Int), .int .i64 0]) ∧ Below w.heap.size w w' := by
  have HB := Lib.hid (fun w => isPart_any b w)
  rw [hb0] at HB
  have Hx := Lib.hid hx
  have HI := Lib.hid (fun k hk w => run_index_f xs hx k hk w)
  have HP : Hid (∀ k, k ≤ 31 → (ltF (xs[k]?.getD 0) b = true → packP (darkP xs b) (k + 1) = (packP (darkP xs b) k ||| 2 ^ k)) ∧ (ltF (xs[k]?.getD 0) b = false → packP (darkP xs b) (k + 1) = packP (darkP xs b) k) ∧ (2 : Int) ^ k % 4294967296 = (2 : Int) ^ k ∧ bits .or .u32 (packP (darkP xs b) k : Int) ((2 : Int) ^ k) = ((packP (darkP xs b) k ||| 2 ^ k : Nat) : Int)) := fun k hk => packP_step (darkP xs b) k hk
  clear hx hb0
  go_enter Try.func18, Try.ntmps18
  go_upto_region 5 with (first | (go_at_call 34; refine (HB.out _).mono ?_; rintro e w' ⟨rfl, rfl⟩) | (refine wpList_load_part rfl 34 _ rfl w.heap.size 0 24 rfl 34 (f32s xs) (0, 0) _ (heap_alloc_new _ _) Try.underlying34 rfl info_floor (by rw [f32s_size, Hx.out]; decide) (f32s xs) (f32s_all _ 24 Hx.out) ?_))
  clear HB
  go_loopw [6, 13] (fun s i wr => ∃ k : Nat, k ≤ 24 ∧ i = .int .i64 k ∧ s = .int .u32 (packP (darkP xs b) k : Int) ∧ Below w.heap.size w wr) (fun _ i _ => 24 - (intOf i).toNat)
  case atStart => exact ⟨0, Nat.zero_le _, rfl, rfl, (Below.refl _ _).alloc (Nat.le_refl _) _⟩
  case round =>
    obtain ⟨k, hk, rfl, rfl, hb⟩ := hrel
    by_cases hlt : k < 24
    · have z1 : (k : Int) < 24 := by omega
      have z2 : (0 : Int) ≤ (k : Int) := by omega
      have hi := HI.out k hlt
      obtain ⟨s1, s2, s3, s4⟩ := HP.out k (by omega)
      have hg := lt_cases (xs[k]?.getD 0) b
      have S1 := Lib.hid s1
      have S2 := Lib.hid s2
      have S3 := Lib.hid s3
      have S4 := Lib.hid s4
      clear s1 s2 s3 s4
      generalize xs[k]?.getD 0 = x at *
      have z4 : IntKind.u64.wrap (k : Int) = (k : Int) := by rw [IntWalk.u64_in _ (by omega)]
      have z5 : (k : Int) ≤ 32 := by omega
      rcases hg with ⟨hg, e⟩ | ⟨hg, e⟩ | ⟨hg, e⟩ | ⟨hg, e⟩
      · have E := Lib.hid e
        clear e
        go_wp2
        go_roundw
        case rel => exact ⟨k + 1, by omega, by go_num, by rw [S3.out, S4.out, S1.out E.out], hb⟩
        case measure => simp [intOf]; omega
      · have E := Lib.hid e
        clear e
        go_wp2
        go_roundw
        case rel => exact ⟨k + 1, by omega, by go_num, by rw [S2.out E.out], hb⟩
        case measure => simp [intOf]; omega
      · have E := Lib.hid e
        clear e
        go_wp2
        go_roundw
        case rel => exact ⟨k + 1, by omega, by go_num, by rw [S2.out E.out], hb⟩
        case measure => simp [intOf]; omega
      · have E := Lib.hid e
        clear e
        go_wp2
        go_roundw
        case rel => exact ⟨k + 1, by omega, by go_num, by rw [S2.out E.out], hb⟩
        case measure => simp [intOf]; omega
    · obtain rfl : k = 24 := by omega
      go_wp2
      go_ret2
      exact ⟨rfl, hb⟩

set_option maxRecDepth 100000 in
set_option maxHeartbeats 4000000 in
theorem sDark_yes (xs : List Nat) (hx : xs.length = 24) (b : Nat) (hb0 : partB b = true) (w : World) :
    Calls Try.prog 17 #[.agg (f32s xs), .float .f32 b] w fun e w' => e = .returned (.tuple #[.int .u32 (packP (darkP xs b) 24 : Int), .int .i64 0]) ∧ Below w.heap.size w w' := by
  have HB := Lib.hid (fun w => l01Part_any b w)
  rw [hb0] at HB
  have Hx := Lib.hid hx
  have HI := Lib.hid (fun k hk w => run_index_f xs hx k hk w)
  have HP : Hid (∀ k, k ≤ 31 → (ltF (xs[k]?.getD 0) b = true → packP (darkP xs b) (k + 1) = (packP (darkP xs b) k ||| 2 ^ k)) ∧ (ltF (xs[k]?.getD 0) b = false → packP (darkP xs b) (k + 1) = packP (darkP xs b) k) ∧ (2 : Int) ^ k % 4294967296 = (2 : Int) ^ k ∧ bits .or .u32 (packP (darkP xs b) k : Int) ((2 : Int) ^ k) = ((packP (darkP xs b) k ||| 2 ^ k : Nat) : Int)) := fun k hk => packP_step (darkP xs b) k hk
  clear hx hb0
  go_enter Try.func17, Try.ntmps17
  go_upto_region 4 with (go_at_call 33; refine (HB.out _).mono ?_; rintro e w' ⟨rfl, rfl⟩)
  go_upto_region 5 with (fail)
  clear HB
  go_loopw [6, 7] (fun s i wr => ∃ k : Nat, k ≤ 24 ∧ i = .int .i64 k ∧ s = .int .u32 (packP (darkP xs b) k : Int) ∧ Below w.heap.size w wr ∧ wr.heap[w.heap.size]? = some (.cells (f32s xs) 34 (0, 0))) (fun _ i _ => 24 - (intOf i).toNat)
  case atStart => exact ⟨0, Nat.zero_le _, rfl, rfl, (Below.refl _ _).alloc (Nat.le_refl _) _, heap_alloc_new _ _⟩
  case round =>
    obtain ⟨k, hk, rfl, rfl, hb, h0⟩ := hrel
    by_cases hlt : k < 24
    · have z1 : (k : Int) < 24 := by omega
      have z2 : (0 : Int) ≤ (k : Int) := by omega
      have hi := cell_of_f32s h0 k (by rw [Hx.out]; exact hlt)
      obtain ⟨s1, s2, s3, s4⟩ := HP.out k (by omega)
      have hg := lt_cases (xs[k]?.getD 0) b
      have S1 := Lib.hid s1
      have S2 := Lib.hid s2
      have S3 := Lib.hid s3
      have S4 := Lib.hid s4
      clear s1 s2 s3 s4
      generalize xs[k]?.getD 0 = x at *
      have z4 : IntKind.u64.wrap (k : Int) = (k : Int) := by rw [IntWalk.u64_in _ (by omega)]
      have z5 : (k : Int) ≤ 32 := by omega
      rcases hg with ⟨hg, e⟩ | ⟨hg, e⟩ | ⟨hg, e⟩ | ⟨hg, e⟩
      · have E := Lib.hid e
        clear e
        go_wp2
        go_roundw
        case rel => exact ⟨k + 1, by omega, by go_num, by rw [S3.out, S4.out, S1.out E.out], hb, h0⟩
        case measure => simp [intOf]; omega
      · have E := Lib.hid e
        clear e
        go_wp2
        go_roundw
        case rel => exact ⟨k + 1, by omega, by go_num, by rw [S2.out E.out], hb, h0⟩
        case measure => simp [intOf]; omega
      · have E := Lib.hid e
        clear e
        go_wp2
        go_roundw
        case rel => exact ⟨k + 1, by omega, by go_num, by rw [S2.out E.out], hb, h0⟩
        case measure => simp [intOf]; omega
      · have E := Lib.hid e
        clear e
        go_wp2
        go_roundw
        case rel => exact ⟨k + 1, by omega, by go_num, by rw [S2.out E.out], hb, h0⟩
        case measure => simp [intOf]; omega
    · obtain rfl : k = 24 := by omega
      go_wp2
      go_ret2
      exact ⟨rfl, hb⟩

end Go.Proofs.Ytdbleddcnknmiaa
