/-
  Persons as values.
-/
import Derived.Test.YtckkemknajggpaaGreatDoorAgg
import Derived.Test.YtckkemknajggpaaGreatDoorRow
import Derived.Deep.Cut
import Derived.Deep.DeepCutAuto
import Derived.Test.YtckkemknajggpaaGreatDoorRows
import Derived.WalkSpells
import Derived.WalkLawsBesides
import Derived.Lib.Hide
namespace Go.Proofs.YtckkemknajggpaaGreatDoor
open Go.ChangeShapes Go.WideShapes Go.ChangeAt Go.RowKit Go.Deep Go.Joins

attribute [local go_sem] run_store_f

/-- A person: the least light, the most light, the most glare. -/
def persC (l m g : Nat) : Array Value := #[.float .f32 l, .float .f32 m, .float .f32 g]
def PeWf (l m g : Nat) : Prop := (Lit.float .f32 l).wf = true ∧ (Lit.float .f32 m).wf = true ∧ (Lit.float .f32 g).wf = true
theorem info_persL : (Tryz.prog.info? 74).map (·.size) = some 3 := by kernel_rfl
theorem info_pers : (Tryz.prog.info? 72).map (·.size) = some 3 := by kernel_rfl
theorem pers_fits (l m g : Nat) : 0 + 3 ≤ (persC l m g).size := Nat.le_refl _
theorem pers_all (l m g : Nat) : (persC l m g).extract 0 (0 + 3) = persC l m g := rfl
theorem pers_cells {l m g : Nat} {W : World} {b : Nat} {T : TypeId} {fr : Nat × Nat} (h : W.heap[b]? = some (.cells (persC l m g) T fr)) :
    W.cell? ⟨b, 0, none⟩ = some (.float .f32 l) ∧ W.cell? ⟨b, 1, none⟩ = some (.float .f32 m) ∧ W.cell? ⟨b, 2, none⟩ = some (.float .f32 g) :=
  ⟨by rw [cell_of_row W _ _ _ _ _ h]; rfl, by rw [cell_of_row W _ _ _ _ _ h]; rfl, by rw [cell_of_row W _ _ _ _ _ h]; rfl⟩

set_option maxRecDepth 100000 in
theorem under_persL : ∃ f0 f1 f2 : Field, Tryz.prog.underlying 74 = some (.struct #[f0, f1, f2]) ∧ f0.type = 70 ∧ f1.type = 70 ∧ f2.type = 70 ∧ oneCellFields Tryz.prog #[f0, f1, f2] = true :=
  ⟨_, _, _, Tryz.underlying74, rfl, rfl, rfl, by kernel_rfl⟩

set_option maxRecDepth 100000 in
theorem open_person {H : Type} {enc : TypeId × Value → H} {W : World} {b0 base : Nat} {spare : Nat → Bool} {held : Bool} {r : Reach} {v : Value} {d : DataW H} {p : List MemPlace}
    (hv : Value.okWide Tryz.prog W r b0 74 v) (h : DataW.Trod enc Tryz.prog W base spare held 74 v d p) : ∃ l m g : Nat, PeWf l m g ∧ v = .agg (persC l m g) := by
  obtain ⟨f0, f1, f2, hu, e0, e1, e2, hone⟩ := under_persL
  obtain ⟨cs, n, rfl, hl, hf⟩ := open_aggN hu hone (by kernel_rfl) hv h
  match cs, hl with
  | [c0, c1, c2], _ =>
    obtain ⟨c, y, hc, h0⟩ := hf 0 f0 rfl
    obtain rfl : c0 = c := by simpa using hc
    obtain ⟨c, y, hc, h1⟩ := hf 1 f1 rfl
    obtain rfl : c1 = c := by simpa using hc
    obtain ⟨c, y, hc, h2⟩ := hf 2 f2 rfl
    obtain rfl : c2 = c := by simpa using hc
    rw [e0] at h0; rw [e1] at h1; rw [e2] at h2
    obtain ⟨n0, q0, w0⟩ := trod_f Tryz.underlying70 h0
    obtain ⟨n1, q1, w1⟩ := trod_f Tryz.underlying70 h1
    obtain ⟨n2, q2, w2⟩ := trod_f Tryz.underlying70 h2
    simp only [List.cons.injEq, and_true] at q0 q1 q2
    subst q0 q1 q2
    exact ⟨n0, n1, n2, ⟨w0, w1, w2⟩, rfl⟩

set_option maxHeartbeats 400000 in
theorem toPerson_any (l m g : Nat) (w : World) :
    Calls Tryz.prog 26 #[.agg (persC l m g)] w fun e w' => e = .returned (.agg (persC l m g)) ∧ Below w.heap.size w w' := by
  unfold persC
  go_enter Tryz.func26, Tryz.ntmps26
  go_wp2
  refine bodyPost_ret (v := .agg #[.float .f32 l, .float .f32 m, .float .f32 g]) (by simp [results, Tryz.results26, go_sem]) rfl ⟨rfl, ?_⟩
  (repeat' first | exact Below.refl _ _ | assumption | refine Below.alloc ?_ (by first | omega | (simp; done) | (simp; omega)) _ | refine Below.setCell ?_ (by first | omega | (simp; done) | (simp; omega)) _ | refine Below.drew ?_)

end Go.Proofs.YtckkemknajggpaaGreatDoor
