/-
  Blinds as values of five numbers.

-/
import Derived.Test.YtddnfbpgldchcaaGreatDoorAgg
import Derived.Test.YtddnfbpgldchcaaGreatDoorRow
import Derived.Deep.Cut
import Derived.Deep.DeepCutAuto
import Derived.Test.YtddnfbpgldchcaaGreatDoorRows
import Derived.WalkSpells
import Derived.WalkLawsBesides
import Derived.Lib.Hide

namespace Go.Proofs.YtddnfbpgldchcaaGreatDoor

open Go.ChangeShapes Go.WideShapes Go.ChangeAt Go.RowKit Go.Deep Go.Joins

attribute [local go_sem] run_store_f

/-- A blind: how many slats, how wide, how far apart, how tilted, how shiny. -/
def blindC (n : Int) (wd gp : Nat) (t : Int) (sh : Nat) : Array Value := #[.int .i8 n, .float .f32 wd, .float .f32 gp, .int .i16 t, .float .f32 sh]

theorem info_blind : (Tryz.prog.info? 32).map (·.size) = some 5 := by kernel_rfl

theorem blind_fits (n : Int) (wd gp : Nat) (t : Int) (sh : Nat) : 0 + 5 ≤ (blindC n wd gp t sh).size := Nat.le_refl _

theorem blind_all (n : Int) (wd gp : Nat) (t : Int) (sh : Nat) : (blindC n wd gp t sh).extract 0 (0 + 5) = blindC n wd gp t sh := rfl

theorem blind_cells {n : Int} {wd gp : Nat} {t : Int} {sh : Nat} {W : World} {g : Nat} {T : TypeId} {fr : Nat × Nat} (h : W.heap[g]? = some (.cells (blindC n wd gp t sh) T fr)) :
    W.cell? ⟨g, 0, none⟩ = some (.int .i8 n) ∧ W.cell? ⟨g, 1, none⟩ = some (.float .f32 wd) ∧ W.cell? ⟨g, 2, none⟩ = some (.float .f32 gp) ∧ W.cell? ⟨g, 3, none⟩ = some (.int .i16 t) ∧ W.cell? ⟨g, 4, none⟩ = some (.float .f32 sh) :=
  ⟨by rw [cell_of_row W _ _ _ _ _ h]; rfl, by rw [cell_of_row W _ _ _ _ _ h]; rfl, by rw [cell_of_row W _ _ _ _ _ h]; rfl, by rw [cell_of_row W _ _ _ _ _ h]; rfl, by rw [cell_of_row W _ _ _ _ _ h]; rfl⟩

/-- The numbers fit their kinds. -/
def BlWf (n : Int) (wd gp : Nat) (t : Int) (sh : Nat) : Prop := (Lit.int .i8 n).wf = true ∧ (Lit.float .f32 wd).wf = true ∧ (Lit.float .f32 gp).wf = true ∧ (Lit.int .i16 t).wf = true ∧ (Lit.float .f32 sh).wf = true

theorem blwf_n {n : Int} {wd gp : Nat} {t : Int} {sh : Nat} (h : BlWf n wd gp t sh) : -128 ≤ n ∧ n ≤ 127 := by
  have := h.1
  simp [Lit.wf, IntKind.min, IntKind.max, IntKind.signed, IntKind.bits] at this
  omega

theorem blwf_t {n : Int} {wd gp : Nat} {t : Int} {sh : Nat} (h : BlWf n wd gp t sh) : -32768 ≤ t ∧ t ≤ 32767 := by
  have := h.2.2.2.1
  simp [Lit.wf, IntKind.min, IntKind.max, IntKind.signed, IntKind.bits] at this
  omega

end Go.Proofs.YtddnfbpgldchcaaGreatDoor
