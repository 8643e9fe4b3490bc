/-
  Cords: as values, and what is asked of them: contracts of the program and of the model.
-/
import Derived.Test.YtddnfbpgldchcaaCordP
import Derived.Test.YtddnfbpgldchcaaBok
import Derived.Test.YtddnfbpgldchcaaTake
import Derived.Test.YtddnfbpgldchcaaLaw
import Derived.Test.YtddnfbpgldchcaaSame
namespace Go.Proofs.Ytddnfbpgldchcaa
open Go.ChangeShapes Go.WideShapes Go.ChangeAt Go.RowKit Go.Deep Go.Joins

attribute [local go_sem] run_store_f

/-- A cord: how long, how much it stretches, how many stops it has. -/
def cordC (ln st : Nat) (sp : Int) : Array Value := #[.float .f32 ln, .float .f32 st, .int .i8 sp]
theorem info_cord : (Try.prog.info? 27).map (·.size) = some 3 := by kernel_rfl
theorem cord_fits (ln st : Nat) (sp : Int) : 0 + 3 ≤ (cordC ln st sp).size := Nat.le_refl _
theorem cord_all (ln st : Nat) (sp : Int) : (cordC ln st sp).extract 0 (0 + 3) = cordC ln st sp := rfl
theorem cord_cells {ln st : Nat} {sp : Int} {W : World} {g : Nat} {T : TypeId} {fr : Nat × Nat} (h : W.heap[g]? = some (.cells (cordC ln st sp) T fr)) :
    W.cell? ⟨g, 0, none⟩ = some (.float .f32 ln) ∧ W.cell? ⟨g, 1, none⟩ = some (.float .f32 st) ∧ W.cell? ⟨g, 2, none⟩ = some (.int .i8 sp) :=
  ⟨by rw [cell_of_row W _ _ _ _ _ h]; rfl, by rw [cell_of_row W _ _ _ _ _ h]; rfl, by rw [cell_of_row W _ _ _ _ _ h]; rfl⟩
def CoWf (ln st : Nat) (sp : Int) : Prop := (Lit.float .f32 ln).wf = true ∧ (Lit.float .f32 st).wf = true ∧ (Lit.int .i8 sp).wf = true
theorem cowf_s {ln st : Nat} {sp : Int} (h : CoWf ln st sp) : -128 ≤ sp ∧ sp ≤ 127 := by
  have := h.2.2
  simp [Lit.wf, IntKind.min, IntKind.max, IntKind.signed, IntKind.bits] at this
  omega

def okCo (ln st : Nat) (sp : Int) : Bool := lenB ln && partB st && inI 1 100 sp
/-- The bounds of a cord that is valid. -/
def CoOk (ln st : Nat) (sp : Int) : Prop := 1031798784 ≤ ln ∧ ln ≤ 1115684864 ∧ (st ≤ 1065353216 ∨ st = 2147483648) ∧ 1 ≤ sp ∧ sp ≤ 100
theorem cook_of {ln st : Nat} {sp : Int} (cw : CoWf ln st sp) (h : okCo ln st sp = true) : CoOk ln st sp := by
  simp only [okCo, Bool.and_eq_true] at h
  obtain ⟨⟨h1, h2⟩, h3⟩ := h
  obtain ⟨a1, a2⟩ := betw_above cw.1 (by decide) (by decide) (by decide) h1
  obtain ⟨b1, b2⟩ := inI_get h3
  exact ⟨a1, a2, betw_zero cw.2.1 (by decide) h2, b1, b2⟩

set_option maxRecDepth 100000 in
set_option maxHeartbeats 1000000 in
theorem ValidCord_any (ln st : Nat) (sp : Int) (w : World) :
    Calls Try.prog 11 #[.agg (cordC ln st sp)] w fun e w' => e = .returned (.bool (okCo ln st sp)) ∧ Below w.heap.size w w' := by
  unfold cordC
  go_enter Try.func11, Try.ntmps11
  go_wp2_with (first | (go_at_call 33; refine (isLength_any _ _).mono ?_; rintro e w' ⟨rfl, rfl⟩) | (go_at_call 27; refine (isPart_any _ _).mono ?_; rintro e w' ⟨rfl, rfl⟩))
  all_goals
    go_ret
    refine ⟨?_, by (repeat' first | exact Below.refl _ _ | assumption | refine Below.alloc ?_ (by first | omega | (simp; done) | (simp; omega)) _ | refine Below.setCell ?_ (by first | omega | (simp; done) | (simp; omega)) _ | refine Below.drew ?_)⟩
    by_cases hn : 1 ≤ sp ∧ sp ≤ 100
    · have e : inI 1 100 sp = true := by simp only [inI, Bool.and_eq_true, decide_eq_true_eq]; exact hn
      first | (simp [okCo, *]; done) | omega
    · have e : inI 1 100 sp = false := by simp only [inI, Bool.and_eq_false_iff, decide_eq_false_iff_not]; omega
      first | omega | (simp [okCo, *]; done) | (simp [okCo, *]; omega)

set_option maxRecDepth 100000 in
set_option maxHeartbeats 1000000 in
theorem l02Cord_any (ln st : Nat) (sp : Int) (s0 : -128 ≤ sp) (s1 : sp ≤ 127) (g : Nat) (T : TypeId) (fr : Nat × Nat) (w : World) (hg : w.heap[g]? = some (.cells (cordC ln st sp) T fr)) :
    Calls Try.prog 51 #[.pointer (some ⟨g, 0, none⟩)] w fun e w' => e = .returned (.bool (okCo ln st sp)) ∧ w = w' := by
  obtain ⟨k0, k1, k2⟩ := cord_cells hg
  clear hg
  go_enter Try.func51, Try.ntmps51
  go_wp2_with (first | (go_at_call 62; refine (l02Length_any _ _).mono ?_; rintro e w' ⟨rfl, rfl⟩) | (go_at_call 30; refine (l01Part_any _ _).mono ?_; rintro e w' ⟨rfl, rfl⟩) | (go_at_call 41; refine (l00In_ban _ _ _ _).mono ?_; rintro e w' ⟨rfl, rfl⟩))
  all_goals
    go_ret
    refine ⟨?_, rfl⟩
    simp [okCo, *]

def codeD (ok fine : Bool) : Int := if !ok then 1 else if !fine then 2 else 0
theorem codeD_ne {ok fine : Bool} (h : ¬ (ok = true ∧ fine = true)) : codeD ok fine ≠ 0 := by
  cases ok <;> cases fine <;> simp_all [codeD]

set_option maxRecDepth 100000 in
set_option maxHeartbeats 1000000 in
theorem checkCord_is (ln st : Nat) (sp : Int) (fine : Bool) (c : Int) (hc : codeD (okCo ln st sp) fine = c) (w : World) :
    Calls Try.prog 26 #[.agg (cordC ln st sp), .bool fine] w fun e w' => e = .returned (.int .i64 c) ∧ Below w.heap.size w w' := by
  subst hc
  have HV := Lib.hid (fun w => ValidCord_any ln st sp w)
  generalize okCo ln st sp = ok at *
  cases ok <;> cases fine
  all_goals
    go_enter Try.func26, Try.ntmps26
    go_upto_region 1 with (fail)
    refine abs_world (fun W => Below w.heap.size w W ∧ W.heap[w.heap.size]? = some (.cells (cordC ln st sp) 27 (0, 0))) ⟨(Below.refl _ _).alloc (Nat.le_refl _) _, heap_alloc_new _ _⟩ ?_
    rintro W ⟨hb, h0⟩
    have H0 := Lib.hid h0
    obtain ⟨k0, k1, k2⟩ := cord_cells h0
    clear h0
    go_wp2_with (first | (refine wpList_load_part rfl 27 _ rfl w.heap.size 0 3 rfl 27 (cordC ln st sp) (0, 0) _ H0.out Try.underlying27 rfl info_cord (cord_fits _ _ _) _ (cord_all _ _ _) ?_) | (go_at_call 11; refine (HV.out _).mono ?_; rintro e W1 ⟨rfl, hb1⟩; replace H0 := Lib.hid (below_row hb1 H0.out); replace hb := hb.trans (hb1.mono hb.size); clear hb1; clear k0 k1 k2; obtain ⟨k0, k1, k2⟩ := cord_cells H0.out))
    go_ret
    exact ⟨rfl, hb⟩

set_option maxRecDepth 100000 in
set_option maxHeartbeats 1000000 in
theorem l02Loaded_is (ln st : Nat) (sp : Int) (s0 : -128 ≤ sp) (s1 : sp ≤ 127) (g : Nat) (T : TypeId) (fr : Nat × Nat) (fine : Bool) (c : Int) (hc : codeD (okCo ln st sp) fine = c) (w : World) (hg : w.heap[g]? = some (.cells (cordC ln st sp) T fr)) :
    Calls Try.prog 29 #[.pointer (some ⟨g, 0, none⟩), .bool fine] w fun e w' => e = .returned (.int .i64 c) ∧ w = w' := by
  subst hc
  have HV := Lib.hid (l02Cord_any ln st sp s0 s1 g T fr w hg)
  clear s0 s1 hg
  generalize okCo ln st sp = ok at *
  cases ok <;> cases fine
  all_goals
    go_enter Try.func29, Try.ntmps29
    go_wp2_with (go_at_call 51; refine (HV.out).mono ?_; rintro e w' ⟨rfl, rfl⟩)
    go_ret
    exact ⟨rfl, rfl⟩

theorem isPart_is (x : Nat) (fine : Bool) (hi : partB x = fine) (w : World) : Calls Try.prog 27 #[.float .f32 x] w fun e w' => e = .returned (.bool fine) ∧ w = w' := by
  rw [← hi]; exact isPart_any x w
theorem l01Part_is (x : Nat) (fine : Bool) (hi : partB x = fine) (w : World) : Calls Try.prog 30 #[.float .f32 x] w fun e w' => e = .returned (.bool fine) ∧ w = w' := by
  rw [← hi]; exact l01Part_any x w

end Go.Proofs.Ytddnfbpgldchcaa
