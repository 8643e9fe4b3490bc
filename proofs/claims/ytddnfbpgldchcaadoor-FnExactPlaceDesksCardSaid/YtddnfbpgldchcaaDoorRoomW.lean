/-
  Whether a room is valid: the model's contracts.
-/
import Derived.Test.YtddnfbpgldchcaaDoorRoomV
namespace Go.Proofs.YtddnfbpgldchcaaDoor
open Go.RowKit

attribute [local go_sem] run_store_f

set_option maxHeartbeats 1000000 in
theorem l03Wall_any (a : Int) (w : World) : Calls Tryd.prog 54 #[.int .i64 a] w fun e w' => e = .returned (.bool (inI 0 3 a)) ∧ w = w' := by
  go_enter Tryd.func54, Tryd.ntmps54
  go_wp2_with (go_at_call 16; refine (l00In_ban _ _ _ _).mono ?_; rintro e w' ⟨rfl, rfl⟩)
  go_ret
  exact ⟨rfl, rfl⟩

set_option maxRecDepth 100000 in
set_option maxHeartbeats 1000000 in
theorem l03Window_any (wd hg : Int) (iw : I8 wd) (ih : I8 hg) (sv : Value) (x : Wn) (hx : WnWf x) (gb : Nat) (T : TypeId) (fr : Nat × Nat) (w : World) (hb0 : w.heap[gb]? = some (.cells (roomC wd hg sv) T fr)) :
    Calls Tryd.prog 43 #[.pointer (some ⟨gb, 0, none⟩), .agg (winC x)] w fun e w' => e = .returned (.bool (fitB wd hg x)) ∧ Below w.heap.size w w' := by
  obtain ⟨iw0, iw1⟩ := iw
  obtain ⟨ih0, ih1⟩ := ih
  obtain ⟨⟨x0, x1⟩, ⟨y0, y1⟩, _⟩ := hx
  have H0 := Lib.hid hb0
  clear hb0
  go_enter Tryd.func43, Tryd.ntmps43
  go_upto_region 1 with (fail)
  refine abs_world (fun W => Below w.heap.size w W ∧ W.heap[w.heap.size]? = some (.cells (winC x) 68 (0, 0))) ⟨(Below.refl _ _).alloc (Nat.le_refl _) _, heap_alloc_new _ _⟩ ?_
  rintro W ⟨hb, h1⟩
  replace H0 := Lib.hid (below_row hb H0.out)
  obtain ⟨k0, k1, k2⟩ := room_cells H0.out
  obtain ⟨p0, p1, p2⟩ := win_cells h1
  clear h1 H0
  by_cases hk : x.1 = 1 ∨ x.1 = 3
  · have el : lastW wd hg x.1 = hg := if_pos hk
    have ef : fitB wd hg x = (inI 0 3 x.1 && (inI 0 (hg - 1) x.2.1 && partB x.2.2)) := by rw [fitB, el]
    have EF := Lib.hid ef
    clear el ef
    by_cases h1 : x.1 = 1
    · have e1 : inI 0 3 x.1 = true := by rw [h1]; rfl
      have d1 : (x.1 == 1) = true := by rw [h1]; rfl
      have E1 := Lib.hid e1
      clear hk h1 e1
      go_wp2_with (first | (go_at_call 54; refine (l03Wall_any _ _).mono ?_; rw [E1.out]; rintro e w' ⟨rfl, rfl⟩) | (go_at_call 16; refine (l00In_ban _ _ _ _).mono ?_; rintro e w' ⟨rfl, rfl⟩) | (go_at_call 55; refine (l01Part_any _ _).mono ?_; rintro e w' ⟨rfl, rfl⟩))
      all_goals
        go_ret
        refine ⟨ret_boolR ?_, hb⟩
        rw [EF.out, E1.out]
        simp [*]
    · have h3 : x.1 = 3 := by omega
      have e1 : inI 0 3 x.1 = true := by rw [h3]; rfl
      have d1 : (x.1 == 1) = false := by rw [h3]; rfl
      have d3 : (x.1 == 3) = true := by rw [h3]; rfl
      have E1 := Lib.hid e1
      clear hk h1 h3 e1
      go_wp2_with (first | (go_at_call 54; refine (l03Wall_any _ _).mono ?_; rw [E1.out]; rintro e w' ⟨rfl, rfl⟩) | (go_at_call 16; refine (l00In_ban _ _ _ _).mono ?_; rintro e w' ⟨rfl, rfl⟩) | (go_at_call 55; refine (l01Part_any _ _).mono ?_; rintro e w' ⟨rfl, rfl⟩))
      all_goals
        go_ret
        refine ⟨ret_boolR ?_, hb⟩
        rw [EF.out, E1.out]
        simp [*]
  · have el : lastW wd hg x.1 = wd := if_neg hk
    have ef : fitB wd hg x = (inI 0 3 x.1 && (inI 0 (wd - 1) x.2.1 && partB x.2.2)) := by rw [fitB, el]
    have EF := Lib.hid ef
    have d1 : (x.1 == 1) = false := by simp; omega
    have d3 : (x.1 == 3) = false := by simp; omega
    clear el ef hk
    cases hw : inI 0 3 x.1
    all_goals
      have E1 := Lib.hid hw
      clear hw
      go_wp2_with (first | (go_at_call 54; refine (l03Wall_any _ _).mono ?_; rw [E1.out]; rintro e w' ⟨rfl, rfl⟩) | (go_at_call 16; refine (l00In_ban _ _ _ _).mono ?_; rintro e w' ⟨rfl, rfl⟩) | (go_at_call 55; refine (l01Part_any _ _).mono ?_; rintro e w' ⟨rfl, rfl⟩))
      all_goals
        go_ret
        refine ⟨ret_boolR ?_, hb⟩
        rw [EF.out, E1.out]
        simp [*]

end Go.Proofs.YtddnfbpgldchcaaDoor
