/-
  Awnings as values.
-/
import Derived.Test.YthpimcfmgefkkaaDoorAgg
import Derived.Test.YthpimcfmgefkkaaDoorRow
import Derived.Deep.Cut
import Derived.Deep.DeepCutAuto
import Derived.Test.YthpimcfmgefkkaaDoorRows
import Derived.WalkSpells
import Derived.WalkLawsBesides
import Derived.Lib.Hide
namespace Go.Proofs.YthpimcfmgefkkaaDoor
open Go.ChangeShapes Go.WideShapes Go.ChangeAt Go.RowKit Go.Deep Go.Joins

attribute [local go_sem] run_store_f

/-- Awning, as cells. -/
def awC (o : Nat) (dr : Nat) (gp : Nat) (tl : Nat) : Array Value := #[.float .f32 o, .float .f32 dr, .float .f32 gp, .float .f32 tl]

def AwWf (o : Nat) (dr : Nat) (gp : Nat) (tl : Nat) : Prop := (Lit.float .f32 o).wf = true ∧ (Lit.float .f32 dr).wf = true ∧ (Lit.float .f32 gp).wf = true ∧ (Lit.float .f32 tl).wf = true

theorem info_awL : (Tryd.prog.info? 24).map (·.size) = some 4 := by kernel_rfl

theorem info_aw : (Tryd.prog.info? 31).map (·.size) = some 4 := by kernel_rfl

theorem aw_fits (o : Nat) (dr : Nat) (gp : Nat) (tl : Nat) : 0 + 4 ≤ (awC o dr gp tl).size := Nat.le_refl _

theorem aw_all (o : Nat) (dr : Nat) (gp : Nat) (tl : Nat) : (awC o dr gp tl).extract 0 (0 + 4) = awC o dr gp tl := rfl

theorem aw_one (o : Nat) (dr : Nat) (gp : Nat) (tl : Nat) : ∀ v ∈ awC o dr gp tl, v.oneCell' = true := by
  intro v hv
  simp only [awC, List.mem_toArray, List.mem_cons, List.not_mem_nil, or_false] at hv
  rcases hv with rfl | rfl | rfl | rfl <;> rfl

theorem aw_cells {o : Nat} {dr : Nat} {gp : Nat} {tl : Nat} {W : World} {b : Nat} {T : TypeId} {fr : Nat × Nat} (h : W.heap[b]? = some (.cells (awC o dr gp tl) T fr)) :
    W.cell? ⟨b, 0, none⟩ = some (.float .f32 o) ∧ W.cell? ⟨b, 1, none⟩ = some (.float .f32 dr) ∧ W.cell? ⟨b, 2, none⟩ = some (.float .f32 gp) ∧ W.cell? ⟨b, 3, none⟩ = some (.float .f32 tl) :=
  ⟨by rw [cell_of_row W _ _ _ _ _ h]; rfl, by rw [cell_of_row W _ _ _ _ _ h]; rfl, by rw [cell_of_row W _ _ _ _ _ h]; rfl, by rw [cell_of_row W _ _ _ _ _ h]; rfl⟩

set_option maxRecDepth 100000 in
theorem under_awL : ∃ f0 f1 f2 f3 : Field, Tryd.prog.underlying 24 = some (.struct #[f0, f1, f2, f3]) ∧ f0.type = 22 ∧ f1.type = 22 ∧ f2.type = 22 ∧ f3.type = 22 ∧ oneCellFields Tryd.prog #[f0, f1, f2, f3] = true :=
  ⟨_, _, _, _, Tryd.underlying24, rfl, rfl, rfl, rfl, by kernel_rfl⟩

set_option maxRecDepth 100000 in
theorem open_aw {H : Type} {enc : TypeId × Value → H} {W : World} {b0 base : Nat} {spare : Nat → Bool} {held : Bool} {r : Reach} {v : Value} {d : DataW H} {p : List MemPlace}
    (hv : Value.okWide Tryd.prog W r b0 24 v) (h : DataW.Trod enc Tryd.prog W base spare held 24 v d p) : ∃ (o : Nat) (dr : Nat) (gp : Nat) (tl : Nat), AwWf o dr gp tl ∧ v = .agg (awC o dr gp tl) := by
  obtain ⟨f0, f1, f2, f3, hu, e0, e1, e2, e3, hone⟩ := under_awL
  obtain ⟨cs, n, rfl, hl, hf⟩ := open_aggN hu hone (by kernel_rfl) hv h
  match cs, hl with
  | [c0, c1, c2, c3], _ =>
    obtain ⟨c, y, hc, h0⟩ := hf 0 f0 rfl
    obtain rfl : c0 = c := by simpa using hc
    obtain ⟨c, y, hc, h1⟩ := hf 1 f1 rfl
    obtain rfl : c1 = c := by simpa using hc
    obtain ⟨c, y, hc, h2⟩ := hf 2 f2 rfl
    obtain rfl : c2 = c := by simpa using hc
    obtain ⟨c, y, hc, h3⟩ := hf 3 f3 rfl
    obtain rfl : c3 = c := by simpa using hc
    rw [e0] at h0; rw [e1] at h1; rw [e2] at h2; rw [e3] at h3
    obtain ⟨n0, q0, w0⟩ := trod_f Tryd.underlying22 h0
    obtain ⟨n1, q1, w1⟩ := trod_f Tryd.underlying22 h1
    obtain ⟨n2, q2, w2⟩ := trod_f Tryd.underlying22 h2
    obtain ⟨n3, q3, w3⟩ := trod_f Tryd.underlying22 h3
    simp only [List.cons.injEq, and_true] at q0 q1 q2 q3
    subst q0 q1 q2 q3
    exact ⟨n0, n1, n2, n3, ⟨w0, w1, w2, w3⟩, rfl⟩

set_option maxHeartbeats 400000 in
theorem toAwning_any (o : Nat) (dr : Nat) (gp : Nat) (tl : Nat) (w : World) :
    Calls Tryd.prog 5 #[.agg (awC o dr gp tl)] w fun e w' => e = .returned (.agg (awC o dr gp tl)) ∧ Below w.heap.size w w' := by
  unfold awC
  go_enter Tryd.func5, Tryd.ntmps5
  go_wp2
  refine bodyPost_ret (v := .agg #[.float .f32 o, .float .f32 dr, .float .f32 gp, .float .f32 tl]) (by simp [results, Tryd.results5, go_sem]) rfl ⟨rfl, ?_⟩
  (repeat' first | exact Below.refl _ _ | assumption | refine Below.alloc ?_ (by first | omega | (simp; done) | (simp; omega)) _ | refine Below.setCell ?_ (by first | omega | (simp; done) | (simp; omega)) _ | refine Below.drew ?_)

end Go.Proofs.YthpimcfmgefkkaaDoor
