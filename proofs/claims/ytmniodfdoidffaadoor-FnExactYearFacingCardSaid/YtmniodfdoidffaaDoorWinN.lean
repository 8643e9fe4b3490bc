/-
  The light that passes into a window at an hour: the number, the program's and the model's.
-/
import Derived.Test.YtmniodfdoidffaaDoorPasser
import Derived.Test.YtmniodfdoidffaaDoorFallOn
import Derived.Test.YtmniodfdoidffaaDoorAdd
import Derived.Test.YtmniodfdoidffaaDoorFallN
namespace Go.Proofs.YtmniodfdoidffaaDoor
open Go.RowKit

/-- The light into a window. -/
def winB (wd gp : Nat) (t : Int) (sh : Nat) (hs ts : List Int) (hour facing : Int) : Nat := if 0 < atH hs hour then fmul (fallOf hs ts hour facing) (pasB wd gp t sh (atH hs hour)) else 0

theorem win_ok (wd gp : Nat) (t : Int) {sh : Nat} (hs : sh ≤ 1065353216 ∨ sh = 2147483648) (x d : Int) (h0 : 0 < x) (h1 : x ≤ 64) :
    floatBits .mul .f32 (fallB x d) (pasB wd gp t sh x) = some (fmul (fallB x d) (pasB wd gp t sh x)) ∧ pos32 (fmul (fallB x d) (pasB wd gp t sh x)) = true := by
  have hn := fall_num x d h0 h1
  have hp := fallB_pos x d
  have hq := (pas_facts wd gp t hs x).2.2.2.2
  generalize fallB x d = F at *
  generalize pasB wd gp t sh x = P at *
  obtain ⟨k, j, hk, _⟩ := read_pos (x := P) hq
  obtain ⟨s, m, e, hr⟩ := num32_get hn
  have hs : s = false := by
    unfold pos32 at hp
    rw [hr] at hp
    simpa using hp
  subst hs
  have h : Ieee.single.mul F P = some (Ieee.single.write (.number (false ^^ false) (m * k) (e + (-149 + (j : Int))))) := by
    unfold Ieee.Format.mul
    rw [hr, hk]; rfl
  have e1 : fmul F P = Ieee.single.write (.number (false ^^ false) (m * k) (e + (-149 + (j : Int)))) := by unfold fmul; rw [h]; rfl
  rw [e1]
  exact ⟨h, pos_nearest _ _⟩
theorem winB_pos (wd gp : Nat) (t : Int) {sh : Nat} (hsh : sh ≤ 1065353216 ∨ sh = 2147483648) (hs ts : List Int) (hour facing : Int) (h1 : atH hs hour ≤ 64) : pos32 (winB wd gp t sh hs ts hour facing) = true := by
  unfold winB
  split
  · rename_i h0
    exact (win_ok wd gp t hsh _ _ h0 h1).2
  · decide

end Go.Proofs.YtmniodfdoidffaaDoor
