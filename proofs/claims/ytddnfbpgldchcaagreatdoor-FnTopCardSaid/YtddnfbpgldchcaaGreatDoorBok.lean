/-
  What is asked of a blind: contracts of the program and of the model.

-/
import Derived.Test.YtddnfbpgldchcaaGreatDoorBlind
import Derived.Test.YtddnfbpgldchcaaGreatDoorSgn

namespace Go.Proofs.YtddnfbpgldchcaaGreatDoor

open Go.ChangeShapes Go.WideShapes Go.ChangeAt Go.RowKit Go.Deep Go.Joins

attribute [local go_sem] run_store_f

def inI (lo hi x : Int) : Bool := decide (lo ≤ x) && decide (x ≤ hi)

theorem inI_get {lo hi x : Int} (h : inI lo hi x = true) : lo ≤ x ∧ x ≤ hi := by
  simpa [inI] using h

def lenB (a : Nat) : Bool := betw a 1031798784 1115684864

def partB (a : Nat) : Bool := betw a 0 1065353216

def okBl (n : Int) (wd gp : Nat) (t : Int) (sh : Nat) : Bool := inI 1 60 n && lenB wd && lenB gp && inI (-64) 64 t && partB sh

set_option maxHeartbeats 1000000 in
theorem isLength_any (a : Nat) (w : World) :
    Calls Tryz.prog 152 #[.float .f32 a] w fun e w' => e = .returned (.bool (lenB a)) ∧ w = w' := by
  unfold lenB betw
  rcases h0 : FloatKind.f32.format.order a 1031798784 with _ | (_ | _ | _)
  all_goals
    rcases h1 : FloatKind.f32.format.order a 1115684864 with _ | (_ | _ | _)
    all_goals
      go_enter Tryz.func152, Tryz.ntmps152
      go_wp2
      go_ret
      exact ⟨rfl, rfl⟩

set_option maxHeartbeats 1000000 in
theorem l02Length_any (a : Nat) (w : World) :
    Calls Tryz.prog 141 #[.float .f32 a] w fun e w' => e = .returned (.bool (lenB a)) ∧ w = w' := by
  unfold lenB betw
  rcases h0 : FloatKind.f32.format.order a 1031798784 with _ | (_ | _ | _)
  all_goals
    rcases h1 : FloatKind.f32.format.order a 1115684864 with _ | (_ | _ | _)
    all_goals
      go_enter Tryz.func141, Tryz.ntmps141
      go_wp2
      go_ret
      exact ⟨rfl, rfl⟩

set_option maxHeartbeats 1000000 in
theorem isPart_any (a : Nat) (w : World) :
    Calls Tryz.prog 65 #[.float .f32 a] w fun e w' => e = .returned (.bool (partB a)) ∧ w = w' := by
  unfold partB betw
  rcases h0 : FloatKind.f32.format.order a 0 with _ | (_ | _ | _)
  all_goals
    rcases h1 : FloatKind.f32.format.order a 1065353216 with _ | (_ | _ | _)
    all_goals
      go_enter Tryz.func65, Tryz.ntmps65
      go_wp2
      go_ret
      exact ⟨rfl, rfl⟩

set_option maxHeartbeats 1000000 in
theorem l01Part_any (a : Nat) (w : World) :
    Calls Tryz.prog 72 #[.float .f32 a] w fun e w' => e = .returned (.bool (partB a)) ∧ w = w' := by
  unfold partB betw
  rcases h0 : FloatKind.f32.format.order a 0 with _ | (_ | _ | _)
  all_goals
    rcases h1 : FloatKind.f32.format.order a 1065353216 with _ | (_ | _ | _)
    all_goals
      go_enter Tryz.func72, Tryz.ntmps72
      go_wp2
      go_ret
      exact ⟨rfl, rfl⟩

set_option maxHeartbeats 1000000 in
theorem isTilt_any (a : Int) (w : World) :
    Calls Tryz.prog 153 #[.int .i64 a] w fun e w' => e = .returned (.bool (inI (-64) 64 a)) ∧ w = w' := by
  unfold inI
  by_cases h0 : (-64) ≤ a
  · by_cases h1 : a ≤ 64
    · go_enter Tryz.func153, Tryz.ntmps153
      go_wp2
      go_ret
      first | (simp; done) | (simp; omega)
    · go_enter Tryz.func153, Tryz.ntmps153
      go_wp2
      go_ret
      first | (simp; done) | (simp; omega)
  · go_enter Tryz.func153, Tryz.ntmps153
    go_wp2
    go_ret
    first | (simp; done) | (simp; omega)

set_option maxHeartbeats 1000000 in
theorem l02Tilt_any (a : Int) (w : World) :
    Calls Tryz.prog 142 #[.int .i64 a] w fun e w' => e = .returned (.bool (inI (-64) 64 a)) ∧ w = w' := by
  unfold inI
  by_cases h0 : (-64) ≤ a
  · by_cases h1 : a ≤ 64
    · go_enter Tryz.func142, Tryz.ntmps142
      go_wp2
      go_ret
      first | (simp; done) | (simp; omega)
    · go_enter Tryz.func142, Tryz.ntmps142
      go_wp2
      go_ret
      first | (simp; done) | (simp; omega)
  · go_enter Tryz.func142, Tryz.ntmps142
    go_wp2
    go_ret
    first | (simp; done) | (simp; omega)

set_option maxHeartbeats 1000000 in
theorem isHeight_any (a : Int) (w : World) :
    Calls Tryz.prog 82 #[.int .i64 a] w fun e w' => e = .returned (.bool (inI 1 64 a)) ∧ w = w' := by
  unfold inI
  by_cases h0 : 1 ≤ a
  · by_cases h1 : a ≤ 64
    · go_enter Tryz.func82, Tryz.ntmps82
      go_wp2
      go_ret
      first | (simp; done) | (simp; omega)
    · go_enter Tryz.func82, Tryz.ntmps82
      go_wp2
      go_ret
      first | (simp; done) | (simp; omega)
  · go_enter Tryz.func82, Tryz.ntmps82
    go_wp2
    go_ret
    first | (simp; done) | (simp; omega)

set_option maxHeartbeats 1000000 in
theorem l02Up_any (a : Int) (w : World) :
    Calls Tryz.prog 86 #[.int .i64 a] w fun e w' => e = .returned (.bool (inI 1 64 a)) ∧ w = w' := by
  unfold inI
  by_cases h0 : 1 ≤ a
  · by_cases h1 : a ≤ 64
    · go_enter Tryz.func86, Tryz.ntmps86
      go_wp2
      go_ret
      first | (simp; done) | (simp; omega)
    · go_enter Tryz.func86, Tryz.ntmps86
      go_wp2
      go_ret
      first | (simp; done) | (simp; omega)
  · go_enter Tryz.func86, Tryz.ntmps86
    go_wp2
    go_ret
    first | (simp; done) | (simp; omega)

set_option maxHeartbeats 1000000 in
theorem l00In_ban (a lo hi : Int) (w : World) :
    Calls Tryz.prog 98 #[.int .i64 a, .int .i64 lo, .int .i64 hi] w fun e w' => e = .returned (.bool (inI lo hi a)) ∧ w = w' := by
  unfold inI
  by_cases h0 : lo ≤ a
  · by_cases h1 : a ≤ hi
    · go_enter Tryz.func98, Tryz.ntmps98
      go_wp2
      go_ret
      first | (simp; done) | (simp; omega)
    · go_enter Tryz.func98, Tryz.ntmps98
      go_wp2
      go_ret
      first | (simp; done) | (simp; omega)
  · go_enter Tryz.func98, Tryz.ntmps98
    go_wp2
    go_ret
    first | (simp; done) | (simp; omega)

set_option maxRecDepth 100000 in
set_option maxHeartbeats 1000000 in
theorem ValidBlind_any (n : Int) (wd gp : Nat) (t : Int) (sh : Nat) (t0 : -32768 ≤ t) (t1 : t ≤ 32767) (w : World) :
    Calls Tryz.prog 110 #[.agg (blindC n wd gp t sh)] w fun e w' => e = .returned (.bool (okBl n wd gp t sh)) ∧ Below w.heap.size w w' := by
  unfold blindC
  go_enter Tryz.func110, Tryz.ntmps110
  go_wp2_with (first | (go_at_call 152; refine (isLength_any _ _).mono ?_; rintro e w' ⟨rfl, rfl⟩) | (go_at_call 153; refine (isTilt_any _ _).mono ?_; rintro e w' ⟨rfl, rfl⟩) | (go_at_call 65; refine (isPart_any _ _).mono ?_; rintro e w' ⟨rfl, rfl⟩))
  all_goals
    go_ret
    refine ⟨?_, by (repeat' first | exact Below.refl _ _ | assumption | refine Below.alloc ?_ (by first | omega | (simp; done) | (simp; omega)) _ | refine Below.setCell ?_ (by first | omega | (simp; done) | (simp; omega)) _ | refine Below.drew ?_)⟩
    by_cases hn : 1 ≤ n ∧ n ≤ 60
    · have e : inI 1 60 n = true := by simp only [inI, Bool.and_eq_true, decide_eq_true_eq]; exact hn
      first | (simp [okBl, *]; done) | omega
    · have e : inI 1 60 n = false := by simp only [inI, Bool.and_eq_false_iff, decide_eq_false_iff_not]; omega
      first | omega | (simp [okBl, *]; done)

set_option maxRecDepth 100000 in
set_option maxHeartbeats 1000000 in
theorem l02Ok_any (n : Int) (wd gp : Nat) (t : Int) (sh : Nat) (t0 : -32768 ≤ t) (t1 : t ≤ 32767) (n0 : -128 ≤ n) (n1 : n ≤ 127) (g : Nat) (T : TypeId) (fr : Nat × Nat) (w : World) (hg : w.heap[g]? = some (.cells (blindC n wd gp t sh) T fr)) :
    Calls Tryz.prog 85 #[.pointer (some ⟨g, 0, none⟩)] w fun e w' => e = .returned (.bool (okBl n wd gp t sh)) ∧ w = w' := by
  unfold blindC at hg
  have c0 : w.cell? ⟨g, 0, none⟩ = some (.int .i8 n) := by rw [cell_of_row w _ _ _ _ _ hg]; rfl
  have c1 : w.cell? ⟨g, 1, none⟩ = some (.float .f32 wd) := by rw [cell_of_row w _ _ _ _ _ hg]; rfl
  have c2 : w.cell? ⟨g, 2, none⟩ = some (.float .f32 gp) := by rw [cell_of_row w _ _ _ _ _ hg]; rfl
  have c3 : w.cell? ⟨g, 3, none⟩ = some (.int .i16 t) := by rw [cell_of_row w _ _ _ _ _ hg]; rfl
  have c4 : w.cell? ⟨g, 4, none⟩ = some (.float .f32 sh) := by rw [cell_of_row w _ _ _ _ _ hg]; rfl
  clear hg
  go_enter Tryz.func85, Tryz.ntmps85
  go_wp2_with (first | (go_at_call 141; refine (l02Length_any _ _).mono ?_; rintro e w' ⟨rfl, rfl⟩) | (go_at_call 142; refine (l02Tilt_any _ _).mono ?_; rintro e w' ⟨rfl, rfl⟩) | (go_at_call 72; refine (l01Part_any _ _).mono ?_; rintro e w' ⟨rfl, rfl⟩) | (go_at_call 98; refine (l00In_ban _ _ _ _).mono ?_; rintro e w' ⟨rfl, rfl⟩))
  all_goals
    go_ret
    refine ⟨?_, rfl⟩
    simp [okBl, *]

end Go.Proofs.YtddnfbpgldchcaaGreatDoor
