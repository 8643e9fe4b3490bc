/-
  Whether two numbers are the same: contracts of the program and of the model.
-/
import Derived.Test.YtmniodfdoidffaaDoorBsame
namespace Go.Proofs.YtmniodfdoidffaaDoor
open Go.RowKit

/-- The bits of a number, those of every NaN being told. -/
def nbB (a : Nat) : Int := if FloatKind.f32.format.order a a = some .eq then (a : Int) else 2143289344

def sameB (a b : Nat) : Bool := nbB a == nbB b

theorem nbB_num {a : Nat} (h : FloatKind.f32.format.order a a = some .eq) : nbB a = a := if_pos h

theorem nbB_nan {a : Nat} (h : FloatKind.f32.format.order a a = none) : nbB a = 2143289344 := if_neg (by rw [h]; decide)

theorem numberBits_is (a : Nat) (w : World) : Calls Tryd.prog 62 #[.float .f32 a] w fun e w' => e = .returned (.int .u32 (nbB a)) ∧ w = w' := by
  rcases order_selfB a with h | h
  · rw [nbB_num h]; exact numberBits_num a h w
  · rw [nbB_nan h]; exact numberBits_nan a h w

set_option maxHeartbeats 400000 in
theorem SameNumber_is (a b : Nat) (w : World) : Calls Tryd.prog 20 #[.float .f32 a, .float .f32 b] w fun e w' => e = .returned (.bool (sameB a b)) ∧ w = w' := by
  unfold sameB
  have HA := Lib.hid (fun w => numberBits_is a w)
  have HB := Lib.hid (fun w => numberBits_is b w)
  generalize nbB a = x at *
  generalize nbB b = y at *
  go_enter Tryd.func20, Tryd.ntmps20
  go_wp2_with (go_at_call 62; (first | (with_reducible refine (HA.out _).mono ?_) | (with_reducible refine (HB.out _).mono ?_)); rintro e w' ⟨rfl, rfl⟩)
  go_ret
  exact ⟨rfl, rfl⟩

set_option maxHeartbeats 1000000 in
theorem l01Same_is (a b : Nat) (w : World) : Calls Tryd.prog 56 #[.float .f32 a, .float .f32 b] w fun e w' => e = .returned (.bool (sameB a b)) ∧ w = w' := by
  have ra := run_bits a
  have rb := run_bits b
  unfold sameB
  rcases order_selfB a with ha | ha <;> rcases order_selfB b with hb | hb
  · rw [nbB_num ha, nbB_num hb]
    go_enter Tryd.func56, Tryd.ntmps56
    go_wp2
    go_ret
    exact ⟨rfl, rfl⟩
  · rw [nbB_num ha, nbB_nan hb, (not_nan ha).1]
    go_enter Tryd.func56, Tryd.ntmps56
    go_wp2
    go_ret
    exact ⟨rfl, rfl⟩
  · rw [nbB_nan ha, nbB_num hb, (not_nan hb).2]
    go_enter Tryd.func56, Tryd.ntmps56
    go_wp2
    go_ret
    exact ⟨rfl, rfl⟩
  · rw [nbB_nan ha, nbB_nan hb]
    go_enter Tryd.func56, Tryd.ntmps56
    go_wp2
    go_ret
    exact ⟨rfl, rfl⟩

/-- Whether the numbers of two lists are the same, one by one. -/
def sameL (xs ys : List Nat) : Bool := (xs.zip ys).all fun p => sameB p.1 p.2

theorem sameL_take {xs ys : List Nat} {k : Nat} {x y : Nat} (hx : xs[k]? = some x) (hy : ys[k]? = some y) : sameL (xs.take (k + 1)) (ys.take (k + 1)) = (sameL (xs.take k) (ys.take k) && sameB x y) := by
  obtain ⟨h1, rfl⟩ := List.getElem?_eq_some_iff.1 hx
  obtain ⟨h2, rfl⟩ := List.getElem?_eq_some_iff.1 hy
  unfold sameL
  rw [List.take_succ_eq_append_getElem h1, List.take_succ_eq_append_getElem h2, List.zip_append (by simp; omega)]
  simp

theorem sameL_miss {xs ys : List Nat} {k : Nat} {x y : Nat} (hx : xs[k]? = some x) (hy : ys[k]? = some y) (h : sameB x y = false) : sameL xs ys = false := by
  unfold sameL
  rw [Bool.eq_false_iff]
  intro ha
  have hm : (x, y) ∈ xs.zip ys := List.mem_iff_getElem?.2 ⟨k, by rw [List.getElem?_zip_eq_some]; exact ⟨hx, hy⟩⟩
  have := List.all_eq_true.1 ha _ hm
  rw [h] at this
  cases this

end Go.Proofs.YtmniodfdoidffaaDoor
