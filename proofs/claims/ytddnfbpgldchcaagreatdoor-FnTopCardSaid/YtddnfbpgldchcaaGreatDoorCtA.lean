/-
  Controls, states and ticks as values.

-/
import Derived.Test.YtddnfbpgldchcaaGreatDoorAgg
import Derived.Test.YtddnfbpgldchcaaGreatDoorRow
import Derived.Deep.Cut
import Derived.Deep.DeepCutAuto
import Derived.Test.YtddnfbpgldchcaaGreatDoorRows
import Derived.WalkSpells
import Derived.WalkLawsBesides
import Derived.Lib.Hide

namespace Go.Proofs.YtddnfbpgldchcaaGreatDoor

open Go.ChangeShapes Go.WideShapes Go.ChangeAt Go.RowKit Go.Deep Go.Joins

attribute [local go_sem] run_store_f

/-- Control, as cells. -/
def ctC (lo : Nat) (hi : Nat) (wi : Nat) (st : Int) (de : Int) (ca : Int) : Array Value := #[.float .f32 lo, .float .f32 hi, .float .f32 wi, .int .i8 st, .int .i8 de, .int .i8 ca]

def CtWf (lo : Nat) (hi : Nat) (wi : Nat) (st : Int) (de : Int) (ca : Int) : Prop := (Lit.float .f32 lo).wf = true ∧ (Lit.float .f32 hi).wf = true ∧ (Lit.float .f32 wi).wf = true ∧ (Lit.int .i8 st).wf = true ∧ (Lit.int .i8 de).wf = true ∧ (Lit.int .i8 ca).wf = true

theorem info_ct : (Tryz.prog.info? 40).map (·.size) = some 6 := by kernel_rfl

theorem ct_fits (lo : Nat) (hi : Nat) (wi : Nat) (st : Int) (de : Int) (ca : Int) : 0 + 6 ≤ (ctC lo hi wi st de ca).size := Nat.le_refl _

theorem ct_all (lo : Nat) (hi : Nat) (wi : Nat) (st : Int) (de : Int) (ca : Int) : (ctC lo hi wi st de ca).extract 0 (0 + 6) = ctC lo hi wi st de ca := rfl

theorem ct_cells {lo : Nat} {hi : Nat} {wi : Nat} {st : Int} {de : Int} {ca : Int} {W : World} {b : Nat} {T : TypeId} {fr : Nat × Nat} (h : W.heap[b]? = some (.cells (ctC lo hi wi st de ca) T fr)) :
    W.cell? ⟨b, 0, none⟩ = some (.float .f32 lo) ∧ W.cell? ⟨b, 1, none⟩ = some (.float .f32 hi) ∧ W.cell? ⟨b, 2, none⟩ = some (.float .f32 wi) ∧ W.cell? ⟨b, 3, none⟩ = some (.int .i8 st) ∧ W.cell? ⟨b, 4, none⟩ = some (.int .i8 de) ∧ W.cell? ⟨b, 5, none⟩ = some (.int .i8 ca) :=
  ⟨by rw [cell_of_row W _ _ _ _ _ h]; rfl, by rw [cell_of_row W _ _ _ _ _ h]; rfl, by rw [cell_of_row W _ _ _ _ _ h]; rfl, by rw [cell_of_row W _ _ _ _ _ h]; rfl, by rw [cell_of_row W _ _ _ _ _ h]; rfl, by rw [cell_of_row W _ _ _ _ _ h]; rfl⟩

/-- State, as cells. -/
def saC (ti : Int) (wt : Int) (sm : Int) : Array Value := #[.int .i16 ti, .int .i8 wt, .int .i8 sm]

def SaWf (ti : Int) (wt : Int) (sm : Int) : Prop := (Lit.int .i16 ti).wf = true ∧ (Lit.int .i8 wt).wf = true ∧ (Lit.int .i8 sm).wf = true

theorem info_sa : (Tryz.prog.info? 43).map (·.size) = some 3 := by kernel_rfl

theorem sa_fits (ti : Int) (wt : Int) (sm : Int) : 0 + 3 ≤ (saC ti wt sm).size := Nat.le_refl _

theorem sa_all (ti : Int) (wt : Int) (sm : Int) : (saC ti wt sm).extract 0 (0 + 3) = saC ti wt sm := rfl

theorem sa_one (ti : Int) (wt : Int) (sm : Int) : ∀ v ∈ saC ti wt sm, v.oneCell' = true := by
  intro v hv
  simp only [saC, List.mem_toArray, List.mem_cons, List.not_mem_nil, or_false] at hv
  rcases hv with rfl | rfl | rfl <;> rfl

theorem sa_cells {ti : Int} {wt : Int} {sm : Int} {W : World} {b : Nat} {T : TypeId} {fr : Nat × Nat} (h : W.heap[b]? = some (.cells (saC ti wt sm) T fr)) :
    W.cell? ⟨b, 0, none⟩ = some (.int .i16 ti) ∧ W.cell? ⟨b, 1, none⟩ = some (.int .i8 wt) ∧ W.cell? ⟨b, 2, none⟩ = some (.int .i8 sm) :=
  ⟨by rw [cell_of_row W _ _ _ _ _ h]; rfl, by rw [cell_of_row W _ _ _ _ _ h]; rfl, by rw [cell_of_row W _ _ _ _ _ h]; rfl⟩

/-- Tick, as cells. -/
def tkC (lg : Nat) (gu : Nat) (hg : Int) : Array Value := #[.float .f32 lg, .float .f32 gu, .int .i8 hg]

def TkWf (lg : Nat) (gu : Nat) (hg : Int) : Prop := (Lit.float .f32 lg).wf = true ∧ (Lit.float .f32 gu).wf = true ∧ (Lit.int .i8 hg).wf = true

theorem info_tk : (Tryz.prog.info? 47).map (·.size) = some 3 := by kernel_rfl

theorem tk_fits (lg : Nat) (gu : Nat) (hg : Int) : 0 + 3 ≤ (tkC lg gu hg).size := Nat.le_refl _

theorem tk_all (lg : Nat) (gu : Nat) (hg : Int) : (tkC lg gu hg).extract 0 (0 + 3) = tkC lg gu hg := rfl

theorem tk_cells {lg : Nat} {gu : Nat} {hg : Int} {W : World} {b : Nat} {T : TypeId} {fr : Nat × Nat} (h : W.heap[b]? = some (.cells (tkC lg gu hg) T fr)) :
    W.cell? ⟨b, 0, none⟩ = some (.float .f32 lg) ∧ W.cell? ⟨b, 1, none⟩ = some (.float .f32 gu) ∧ W.cell? ⟨b, 2, none⟩ = some (.int .i8 hg) :=
  ⟨by rw [cell_of_row W _ _ _ _ _ h]; rfl, by rw [cell_of_row W _ _ _ _ _ h]; rfl, by rw [cell_of_row W _ _ _ _ _ h]; rfl⟩

theorem ctwf_st {lo hi wi : Nat} {st de ca : Int} (h : CtWf lo hi wi st de ca) : -128 ≤ st ∧ st ≤ 127 := by
  have := h.2.2.2.1
  simp [Lit.wf, IntKind.min, IntKind.max, IntKind.signed, IntKind.bits] at this
  omega

theorem ctwf_de {lo hi wi : Nat} {st de ca : Int} (h : CtWf lo hi wi st de ca) : -128 ≤ de ∧ de ≤ 127 := by
  have := h.2.2.2.2.1
  simp [Lit.wf, IntKind.min, IntKind.max, IntKind.signed, IntKind.bits] at this
  omega

theorem ctwf_ca {lo hi wi : Nat} {st de ca : Int} (h : CtWf lo hi wi st de ca) : -128 ≤ ca ∧ ca ≤ 127 := by
  have := h.2.2.2.2.2
  simp [Lit.wf, IntKind.min, IntKind.max, IntKind.signed, IntKind.bits] at this
  omega

theorem sawf_b {ti wt sm : Int} (h : SaWf ti wt sm) : (-32768 ≤ ti ∧ ti ≤ 32767) ∧ (-128 ≤ wt ∧ wt ≤ 127) ∧ (-128 ≤ sm ∧ sm ≤ 127) := by
  obtain ⟨h0, h1, h2⟩ := h
  simp [Lit.wf, IntKind.min, IntKind.max, IntKind.signed, IntKind.bits] at h0 h1 h2
  omega

theorem tkwf_b {lg gu : Nat} {hg : Int} (h : TkWf lg gu hg) : -128 ≤ hg ∧ hg ≤ 127 := by
  have h2 := h.2.2
  simp [Lit.wf, IntKind.min, IntKind.max, IntKind.signed, IntKind.bits] at h2
  omega

end Go.Proofs.YtddnfbpgldchcaaGreatDoor
