/-
  The comparison of two numbers, each of which is a NaN that has been widened.

-/
import Derived.Test.YtmbgmpeiicjlaaaSame
import Derived.Test.YtmbgmpeiicjlaaaSgn

namespace Go.Proofs.Ytmbgmpeiicjlaaa

open Go.RowKit

/-- The word that a NaN is widened to. -/
def nanW (x : Nat) (w : World) : Nat := (Question.nanConv .f64 x).cut (w.tape w.drawn (.nanConv .f64 x))

theorem read_nan64 (s r : Nat) (hr : r < 4503599627370495) : ∃ a b, Ieee.double.read (s * 9223372036854775808 + 9218868437227405312 + 1 + r) = .nan a b := by
  have hb : Ieee.double.binade = 4503599627370496 := by decide
  have hi : Ieee.double.infRung = 9218868437227405312 := by decide
  have hw : Ieee.double.signWeight = 9223372036854775808 := by decide
  have em : (s * 9223372036854775808 + 9218868437227405312 + 1 + r) % 9223372036854775808 = 9218868437227405313 + r := by omega
  unfold Ieee.Format.read
  rw [hw, hb, hi]
  dsimp only
  rw [em, if_neg (by omega), if_neg (by omega), if_neg (by omega)]
  exact ⟨_, _, rfl⟩

theorem nanW_nan (x : Nat) (w : World) : FloatKind.f64.format.order (nanW x w) (nanW x w) = none := by
  have key : ∀ t, (Question.nanConv .f64 x).cut t = (t % 2) * 9223372036854775808 + 9218868437227405312 + 1 + (t / 2) % 4503599627370495 := fun t => rfl
  unfold nanW
  rw [key]
  generalize w.tape w.drawn (.nanConv .f64 x) = t
  obtain ⟨s, g, e⟩ := read_nan64 (t % 2) ((t / 2) % 4503599627370495) (Nat.mod_lt _ (by omega))
  generalize t % 2 * 9223372036854775808 + 9218868437227405312 + 1 + t / 2 % 4503599627370495 = p at *
  show (Ieee.double.read p).order (Ieee.double.read p) = none
  rw [e]; rfl

theorem run_wide_nan (x : Nat) (h : fin32 x = false) (w : World) : (convert 23 28 (.float .f32 x)).run Try.prog w = .ok (.float .f64 (nanW x w)) w.drew := by
  have hn : ∃ s g, FloatKind.f32.decode x = .nan s g := by
    unfold fin32 at h
    show ∃ s g, Ieee.single.read x = .nan s g
    cases hr : Ieee.single.read x with
    | nan s g => exact ⟨s, g, rfl⟩
    | infinity s => rw [hr] at h; cases h
    | number s m e => rw [hr] at h; cases h
  obtain ⟨s, g, hn⟩ := hn
  simp [convert, run_underlying Try.underlying23, run_underlying Try.underlying28, Conv.floatToFloat, hn, Question.forced, nanW]

set_option maxHeartbeats 400000 in
theorem same_nan (a b : Nat) (ha : FloatKind.f64.format.order a a = none) (hb : FloatKind.f64.format.order b b = none) (w : World) :
    Calls Try.prog 7 #[.float .f64 a, .float .f64 b] w fun e w' => e = .returned (.bool true) ∧ w = w' := by
  go_enter Try.func7, Try.ntmps7
  go_wp2
  go_ret
  exact ⟨rfl, rfl⟩

end Go.Proofs.Ytmbgmpeiicjlaaa
