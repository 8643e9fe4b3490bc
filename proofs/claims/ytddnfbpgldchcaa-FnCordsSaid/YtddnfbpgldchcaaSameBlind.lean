/-
  For every two blinds, valid or not: whether they are the same is what the model says. No conditions.
-/
import Derived.Test.YtddnfbpgldchcaaBlind
import Derived.Test.YtddnfbpgldchcaaLaw
import Derived.Test.YtddnfbpgldchcaaSgn
import Derived.Laws.StructEq
import Derived.StillTailTactics
import Derived.Test.YtddnfbpgldchcaaTake
namespace Go.Proofs.Ytddnfbpgldchcaa
open Go.ChangeShapes Go.WideShapes Go.ChangeAt Go.RowKit Go.Deep Go.Joins

theorem run_bits2 (a : Nat) (w : World) : (callFunc 52 #[.float .f32 a]).run Try.prog w = .ok (.value (.int .u32 a)) w := by kernel_rfl

/-- The bits of a number, one pattern for every NaN. -/
def nbits (a : Nat) : Nat := if FloatKind.f32.format.order a a = some .eq then a else 2143289344
theorem ret_bool {a b : Bool} (h : a = b) : Ending.returned (.bool a) = .returned (.bool b) := by rw [h]
theorem cast_beq (a b : Nat) : ((a : Int) == (b : Int)) = (a == b) := by
  rw [Bool.eq_iff_iff]; simp only [beq_iff_eq]; omega
def sameB (a b : Nat) : Bool := nbits a == nbits b

theorem order_self2 (a : Nat) : FloatKind.f32.format.order a a = some .eq ∨ FloatKind.f32.format.order a a = none := by
  show (Ieee.single.read a).order (Ieee.single.read a) = some .eq ∨ _
  generalize hd : Ieee.single.read a = d
  have e : FloatKind.f32.format.order a a = d.order d := by show (Ieee.single.read a).order (Ieee.single.read a) = _; rw [hd]
  rw [e]
  cases d with
  | number s m e => left; simp [Ieee.Datum.order]
  | infinity s => left; simp [Ieee.Datum.order]
  | nan s f => right; rfl

set_option maxHeartbeats 400000 in
theorem numberBits_any (a : Nat) (w : World) :
    Calls Try.prog 54 #[.float .f32 a] w fun e w' => e = .returned (.int .u32 (nbits a : Int)) ∧ w = w' := by
  have hb := run_bits2 a
  unfold nbits
  rcases order_self2 a with h | h
  · rw [if_pos h]
    go_enter Try.func54, Try.ntmps54
    go_wp2
    go_ret
    exact ⟨rfl, rfl⟩
  · rw [if_neg (by rw [h]; intro h; cases h)]
    go_enter Try.func54, Try.ntmps54
    go_wp2
    go_ret
    exact ⟨rfl, rfl⟩

theorem nbits_eq {a : Nat} (h : FloatKind.f32.format.order a a = some .eq) : nbits a = a := if_pos h
theorem nbits_nan {a : Nat} (h : FloatKind.f32.format.order a a = none) : nbits a = 2143289344 := if_neg (by rw [h]; intro h; cases h)
theorem not_nan2 {a : Nat} (h : FloatKind.f32.format.order a a = some .eq) : a ≠ 2143289344 := by
  have hn : FloatKind.f32.format.order 2143289344 2143289344 = none := by decide +kernel
  intro e
  rw [e, hn] at h; cases h

set_option maxHeartbeats 1000000 in
theorem l01Same_any (a b : Nat) (w : World) :
    Calls Try.prog 32 #[.float .f32 a, .float .f32 b] w fun e w' => e = .returned (.bool (sameB a b)) ∧ w = w' := by
  have ra := run_bits2 a
  have rb := run_bits2 b
  unfold sameB
  rcases order_self2 a with ha | ha <;> rcases order_self2 b with hb | hb
  · rw [nbits_eq ha, nbits_eq hb]
    go_enter Try.func32, Try.ntmps32
    go_wp2
    go_ret
    exact ⟨ret_bool (cast_beq a b), rfl⟩
  · rw [nbits_eq ha, nbits_nan hb, beq_false_of_ne (not_nan2 ha)]
    go_enter Try.func32, Try.ntmps32
    go_wp2
    go_ret
    exact ⟨rfl, rfl⟩
  · rw [nbits_nan ha, nbits_eq hb, beq_false_of_ne (Ne.symm (not_nan2 hb))]
    go_enter Try.func32, Try.ntmps32
    go_wp2
    go_ret
    exact ⟨rfl, rfl⟩
  · rw [nbits_nan ha, nbits_nan hb]
    go_enter Try.func32, Try.ntmps32
    go_wp2
    go_ret
    exact ⟨rfl, rfl⟩

def sameBl (n : Int) (wd gp : Nat) (t : Int) (sh : Nat) (n' : Int) (wd' gp' : Nat) (t' : Int) (sh' : Nat) : Bool :=
  n == n' && sameB wd wd' && sameB gp gp' && t == t' && sameB sh sh'

/-- What tells a blind. -/
def bitsC (n : Int) (wd gp : Nat) (t : Int) (sh : Nat) : Array Value := #[.int .i8 n, .int .u32 (nbits wd : Int), .int .u32 (nbits gp : Int), .int .i16 t, .int .u32 (nbits sh : Int)]

theorem nb_still (a : Nat) (w : World) : Calls Try.prog 54 #[.float .f32 a] w fun e w' => e = .returned (.int .u32 (nbits a : Int)) ∧ w' = w := (numberBits_any a w).mono fun _ _ ⟨h, k⟩ => ⟨h, k.symm⟩
theorem laid_all2 (cs vs : Array Value) (h : cs.size = vs.size) : laid cs vs 0 = vs := by
  apply Array.ext'
  simp [laid]
  rw [← h]; simp
theorem bits_one (n : Int) (wd gp : Nat) (t : Int) (sh : Nat) : ∀ v ∈ bitsC n wd gp t sh, v.oneCell' = true := by
  intro v hv
  simp only [bitsC, List.mem_toArray, List.mem_cons, List.not_mem_nil, or_false] at hv
  rcases hv with rfl | rfl | rfl | rfl | rfl <;> rfl

end Go.Proofs.Ytddnfbpgldchcaa
