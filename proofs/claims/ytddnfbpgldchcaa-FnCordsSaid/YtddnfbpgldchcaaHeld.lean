/-
  Whether a sun is valid: the program's way, by numbers that are held between bounds, and the model's way, hour by hour.
-/
import Derived.Test.YtddnfbpgldchcaaHours
import Derived.Test.YtddnfbpgldchcaaEq
import Derived.Test.YtddnfbpgldchcaaRound
namespace Go.Proofs.Ytddnfbpgldchcaa
open Go.RowKit Go.Shelf

attribute [local go_sem] Oper.semAt_some

theorem heap_kept {W W' : World} {row : Option Nat} {b : Nat} {cs : Array Value} {t : TypeId} {fr : Nat × Nat} (h : W.heap[b]? = some (.cells cs t fr)) (hg : W.grownBy W' row)
    (hr : ∀ r, row = some r → ∃ o : Obj, W.heap[r]? = some o ∧ o.isCells = false) : W'.heap[b]? = some (.cells cs t fr) := by
  have hlt := (Array.getElem?_eq_some_iff.1 h).1
  rw [← h]
  refine hg.block b hlt fun e => ?_
  obtain ⟨o, ho, hc⟩ := hr b e.symm
  rw [h] at ho
  cases ho
  cases hc

/-- A number between two bounds. -/
def clampI (lo hi y : Int) : Int := if hi < (if lo > y then lo else y) then hi else (if lo > y then lo else y)

/-- The list whose first numbers are held. -/
def clampTo (lo hi : Int) (xs : List Int) (k : Nat) : List Int := (xs.take k).map (clampI lo hi) ++ xs.drop k

def Good (pre : List Hr) : Prop := pre = hrs pre.length

theorem good_snoc {pre : List Hr} {x : Hr} (h : Good (pre ++ [x])) (hl : pre.length < 24) : Good pre ∧ x.1 = (pre.length : Int) := by
  unfold Good at h
  rw [List.length_append, List.length_singleton, hrs_succ] at h
  have h1 := List.append_inj_left h (by simp)
  have h2 := List.append_inj_right h (by simp)
  refine ⟨h1, ?_⟩
  injection h2 with h3
  rw [h3, hr_val _ hl]

theorem good_all : Good (hrs 24) := by unfold Good; rw [hrs_length]

theorem clampTo_get (lo hi : Int) (xs : List Int) (k : Nat) (hx : xs.length = 24) (hk : k < 24) : (clampTo lo hi xs k)[k]?.getD 0 = xs[k]?.getD 0 := by
  unfold clampTo
  rw [List.getElem?_append_right (by simp; omega), List.getElem?_drop]
  congr 2
  simp; omega

theorem clampTo_step (lo hi : Int) (xs : List Int) (k : Nat) (hx : xs.length = 24) (hk : k < 24) :
    (clampTo lo hi xs k).set k (clampI lo hi (xs[k]?.getD 0)) = clampTo lo hi xs (k + 1) := by
  apply List.ext_getElem?
  intro j
  unfold clampTo
  simp only [List.getElem?_set, List.getElem?_append, List.length_map, List.length_take, List.getElem?_map, List.getElem?_take, List.getElem?_drop, List.length_append, List.length_drop, hx]
  by_cases h1 : k = j
  · subst h1
    rw [if_pos rfl, if_pos (by omega), if_pos (by omega), if_pos (by omega), List.getElem?_eq_getElem (by omega)]
    rfl
  · rw [if_neg h1]
    by_cases h2 : j < k
    · rw [if_pos (by omega), if_pos (by omega), if_pos (by omega), if_pos (by omega)]
    · rw [if_neg (by omega), if_neg (by omega)]
      congr 1
      omega

theorem clampTo_all (lo hi : Int) (xs : List Int) (hx : xs.length = 24) : clampTo lo hi xs 24 = xs.map (clampI lo hi) := by
  unfold clampTo
  rw [List.take_of_length_le (by omega), List.drop_of_length_le (by omega), List.append_nil]

theorem clampTo_none (lo hi : Int) (xs : List Int) : clampTo lo hi xs 0 = xs := rfl







theorem arrU : Try.prog.follows .mixedOrders = true := by kernel_rfl

end Go.Proofs.Ytddnfbpgldchcaa
