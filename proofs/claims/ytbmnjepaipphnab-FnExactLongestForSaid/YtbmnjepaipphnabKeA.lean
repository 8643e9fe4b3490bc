/-
  Keepers as values.
-/
import Derived.Test.YtbmnjepaipphnabAgg
import Derived.Test.YtbmnjepaipphnabRow
import Derived.Deep.Cut
import Derived.Deep.DeepCutAuto
import Derived.Test.YtbmnjepaipphnabRows
import Derived.WalkSpells
import Derived.WalkLawsBesides
import Derived.Lib.Hide
namespace Go.Proofs.Ytbmnjepaipphnab
open Go.ChangeShapes Go.WideShapes Go.ChangeAt Go.RowKit Go.Deep Go.Joins

attribute [local go_sem] run_store_f

/-- Keeper, as cells. -/
def keC (hd : Nat) (cm : Nat) (wt : Int) : Array Value := #[.float .f32 hd, .float .f32 cm, .int .i8 wt]
def KeWf (hd : Nat) (cm : Nat) (wt : Int) : Prop := (Lit.float .f32 hd).wf = true ∧ (Lit.float .f32 cm).wf = true ∧ (Lit.int .i8 wt).wf = true
theorem info_keL : (Try.prog.info? 40).map (·.size) = some 3 := by kernel_rfl
theorem info_ke : (Try.prog.info? 42).map (·.size) = some 3 := by kernel_rfl
theorem ke_fits (hd : Nat) (cm : Nat) (wt : Int) : 0 + 3 ≤ (keC hd cm wt).size := Nat.le_refl _
theorem ke_all (hd : Nat) (cm : Nat) (wt : Int) : (keC hd cm wt).extract 0 (0 + 3) = keC hd cm wt := rfl
theorem ke_one (hd : Nat) (cm : Nat) (wt : Int) : ∀ v ∈ keC hd cm wt, v.oneCell' = true := by
  intro v hv
  simp only [keC, List.mem_toArray, List.mem_cons, List.not_mem_nil, or_false] at hv
  rcases hv with rfl | rfl | rfl <;> rfl
theorem ke_cells {hd : Nat} {cm : Nat} {wt : Int} {W : World} {b : Nat} {T : TypeId} {fr : Nat × Nat} (h : W.heap[b]? = some (.cells (keC hd cm wt) T fr)) :
    W.cell? ⟨b, 0, none⟩ = some (.float .f32 hd) ∧ W.cell? ⟨b, 1, none⟩ = some (.float .f32 cm) ∧ W.cell? ⟨b, 2, none⟩ = some (.int .i8 wt) :=
  ⟨by rw [cell_of_row W _ _ _ _ _ h]; rfl, by rw [cell_of_row W _ _ _ _ _ h]; rfl, by rw [cell_of_row W _ _ _ _ _ h]; rfl⟩

set_option maxRecDepth 100000 in
theorem under_keL : ∃ f0 f1 f2 : Field, Try.prog.underlying 40 = some (.struct #[f0, f1, f2]) ∧ f0.type = 22 ∧ f1.type = 22 ∧ f2.type = 38 ∧ oneCellFields Try.prog #[f0, f1, f2] = true :=
  ⟨_, _, _, Try.underlying40, rfl, rfl, rfl, by kernel_rfl⟩

set_option maxRecDepth 100000 in
theorem open_ke {H : Type} {enc : TypeId × Value → H} {W : World} {b0 base : Nat} {spare : Nat → Bool} {held : Bool} {r : Reach} {v : Value} {d : DataW H} {p : List MemPlace}
    (hv : Value.okWide Try.prog W r b0 40 v) (h : DataW.Trod enc Try.prog W base spare held 40 v d p) : ∃ (hd : Nat) (cm : Nat) (wt : Int), KeWf hd cm wt ∧ v = .agg (keC hd cm wt) := by
  obtain ⟨f0, f1, f2, hu, e0, e1, e2, hone⟩ := under_keL
  obtain ⟨cs, n, rfl, hl, hf⟩ := open_aggN hu hone (by kernel_rfl) hv h
  match cs, hl with
  | [c0, c1, c2], _ =>
    obtain ⟨c, y, hc, h0⟩ := hf 0 f0 rfl
    obtain rfl : c0 = c := by simpa using hc
    obtain ⟨c, y, hc, h1⟩ := hf 1 f1 rfl
    obtain rfl : c1 = c := by simpa using hc
    obtain ⟨c, y, hc, h2⟩ := hf 2 f2 rfl
    obtain rfl : c2 = c := by simpa using hc
    rw [e0] at h0; rw [e1] at h1; rw [e2] at h2
    obtain ⟨n0, q0, w0⟩ := trod_f Try.underlying22 h0
    obtain ⟨n1, q1, w1⟩ := trod_f Try.underlying22 h1
    obtain ⟨n2, q2, _, w2⟩ := DataW.trod_int Try.underlying38 h2
    simp only [List.cons.injEq, and_true] at q0 q1 q2
    subst q0 q1 q2
    exact ⟨n0, n1, n2, ⟨w0, w1, w2⟩, rfl⟩

set_option maxHeartbeats 400000 in
theorem toKeeper_any (hd : Nat) (cm : Nat) (wt : Int) (w : World) :
    Calls Try.prog 24 #[.agg (keC hd cm wt)] w fun e w' => e = .returned (.agg (keC hd cm wt)) ∧ Below w.heap.size w w' := by
  unfold keC
  go_enter Try.func24, Try.ntmps24
  go_wp2
  refine bodyPost_ret (v := .agg #[.float .f32 hd, .float .f32 cm, .int .i8 wt]) (by simp [results, Try.results24, go_sem]) rfl ⟨rfl, ?_⟩
  (repeat' first | exact Below.refl _ _ | assumption | refine Below.alloc ?_ (by first | omega | (simp; done) | (simp; omega)) _ | refine Below.setCell ?_ (by first | omega | (simp; done) | (simp; omega)) _ | refine Below.drew ?_)

end Go.Proofs.Ytbmnjepaipphnab
