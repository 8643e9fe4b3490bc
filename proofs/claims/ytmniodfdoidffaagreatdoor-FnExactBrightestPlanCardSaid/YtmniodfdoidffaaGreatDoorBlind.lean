/-
  Blinds as values of five numbers.
-/
import Derived.Test.YtmniodfdoidffaaGreatDoorAgg
import Derived.Test.YtmniodfdoidffaaGreatDoorRow
import Derived.Deep.Cut
import Derived.Deep.DeepCutAuto
import Derived.Test.YtmniodfdoidffaaGreatDoorRows
import Derived.WalkSpells
import Derived.WalkLawsBesides
import Derived.Lib.Hide
namespace Go.Proofs.YtmniodfdoidffaaGreatDoor
open Go.ChangeShapes Go.WideShapes Go.ChangeAt Go.RowKit Go.Deep Go.Joins

attribute [local go_sem] run_store_f

/-- A blind: how many slats, how wide, how far apart, how tilted, how shiny. -/
def blindC (n : Int) (wd gp : Nat) (t : Int) (sh : Nat) : Array Value := #[.int .i8 n, .float .f32 wd, .float .f32 gp, .int .i16 t, .float .f32 sh]

theorem info_blindL : (Tryz.prog.info? 26).map (·.size) = some 5 := by kernel_rfl

theorem info_blind : (Tryz.prog.info? 33).map (·.size) = some 5 := by kernel_rfl

theorem blind_fits (n : Int) (wd gp : Nat) (t : Int) (sh : Nat) : 0 + 5 ≤ (blindC n wd gp t sh).size := Nat.le_refl _

theorem blind_all (n : Int) (wd gp : Nat) (t : Int) (sh : Nat) : (blindC n wd gp t sh).extract 0 (0 + 5) = blindC n wd gp t sh := rfl

theorem blind_cells {n : Int} {wd gp : Nat} {t : Int} {sh : Nat} {W : World} {g : Nat} {T : TypeId} {fr : Nat × Nat} (h : W.heap[g]? = some (.cells (blindC n wd gp t sh) T fr)) :
    W.cell? ⟨g, 0, none⟩ = some (.int .i8 n) ∧ W.cell? ⟨g, 1, none⟩ = some (.float .f32 wd) ∧ W.cell? ⟨g, 2, none⟩ = some (.float .f32 gp) ∧ W.cell? ⟨g, 3, none⟩ = some (.int .i16 t) ∧ W.cell? ⟨g, 4, none⟩ = some (.float .f32 sh) :=
  ⟨by rw [cell_of_row W _ _ _ _ _ h]; rfl, by rw [cell_of_row W _ _ _ _ _ h]; rfl, by rw [cell_of_row W _ _ _ _ _ h]; rfl, by rw [cell_of_row W _ _ _ _ _ h]; rfl, by rw [cell_of_row W _ _ _ _ _ h]; rfl⟩

/-- The numbers fit their kinds. -/
def BlWf (n : Int) (wd gp : Nat) (t : Int) (sh : Nat) : Prop := (Lit.int .i8 n).wf = true ∧ (Lit.float .f32 wd).wf = true ∧ (Lit.float .f32 gp).wf = true ∧ (Lit.int .i16 t).wf = true ∧ (Lit.float .f32 sh).wf = true

theorem blwf_n {n : Int} {wd gp : Nat} {t : Int} {sh : Nat} (h : BlWf n wd gp t sh) : -128 ≤ n ∧ n ≤ 127 := by
  have := h.1
  simp [Lit.wf, IntKind.min, IntKind.max, IntKind.signed, IntKind.bits] at this
  omega

theorem blwf_t {n : Int} {wd gp : Nat} {t : Int} {sh : Nat} (h : BlWf n wd gp t sh) : -32768 ≤ t ∧ t ≤ 32767 := by
  have := h.2.2.2.1
  simp [Lit.wf, IntKind.min, IntKind.max, IntKind.signed, IntKind.bits] at this
  omega

set_option maxRecDepth 100000 in
theorem under_blindL : ∃ f0 f1 f2 f3 f4 : Field, Tryz.prog.underlying 26 = some (.struct #[f0, f1, f2, f3, f4]) ∧ f0.type = 22 ∧ f1.type = 23 ∧ f2.type = 23 ∧ f3.type = 24 ∧ f4.type = 23 ∧ oneCellFields Tryz.prog #[f0, f1, f2, f3, f4] = true :=
  ⟨_, _, _, _, _, Tryz.underlying26, rfl, rfl, rfl, rfl, rfl, by kernel_rfl⟩

set_option maxRecDepth 100000 in
theorem open_blind {H : Type} {enc : TypeId × Value → H} {W : World} {b0 base : Nat} {spare : Nat → Bool} {held : Bool} {r : Reach} {v : Value} {d : DataW H} {p : List MemPlace}
    (hv : Value.okWide Tryz.prog W r b0 26 v) (h : DataW.Trod enc Tryz.prog W base spare held 26 v d p) :
    ∃ (n : Int) (wd gp : Nat) (t : Int) (sh : Nat), BlWf n wd gp t sh ∧ v = .agg (blindC n wd gp t sh) := by
  obtain ⟨f0, f1, f2, f3, f4, hu, e0, e1, e2, e3, e4, hone⟩ := under_blindL
  obtain ⟨cs, n, rfl, hl, hf⟩ := open_aggN hu hone (by kernel_rfl) hv h
  match cs, hl with
  | [c0, c1, c2, c3, c4], _ =>
    obtain ⟨c, y, hc, h0⟩ := hf 0 f0 rfl
    obtain rfl : c0 = c := by simpa using hc
    obtain ⟨c, y, hc, h1⟩ := hf 1 f1 rfl
    obtain rfl : c1 = c := by simpa using hc
    obtain ⟨c, y, hc, h2⟩ := hf 2 f2 rfl
    obtain rfl : c2 = c := by simpa using hc
    obtain ⟨c, y, hc, h3⟩ := hf 3 f3 rfl
    obtain rfl : c3 = c := by simpa using hc
    obtain ⟨c, y, hc, h4⟩ := hf 4 f4 rfl
    obtain rfl : c4 = c := by simpa using hc
    rw [e0] at h0; rw [e1] at h1; rw [e2] at h2; rw [e3] at h3; rw [e4] at h4
    obtain ⟨n0, q0, _, w0⟩ := DataW.trod_int Tryz.underlying22 h0
    obtain ⟨n1, q1, w1⟩ := trod_f Tryz.underlying23 h1
    obtain ⟨n2, q2, w2⟩ := trod_f Tryz.underlying23 h2
    obtain ⟨n3, q3, _, w3⟩ := DataW.trod_int Tryz.underlying24 h3
    obtain ⟨n4, q4, w4⟩ := trod_f Tryz.underlying23 h4
    simp only [List.cons.injEq, and_true] at q0 q1 q2 q3 q4
    subst q0 q1 q2 q3 q4
    exact ⟨n0, n1, n2, n3, n4, ⟨w0, w1, w2, w3, w4⟩, rfl⟩

set_option maxHeartbeats 400000 in
theorem toBlind_any (n : Int) (wd gp : Nat) (t : Int) (sh : Nat) (w : World) :
    Calls Tryz.prog 6 #[.agg (blindC n wd gp t sh)] w fun e w' => e = .returned (.agg (blindC n wd gp t sh)) ∧ Below w.heap.size w w' := by
  unfold blindC
  go_enter Tryz.func6, Tryz.ntmps6
  go_wp2
  refine bodyPost_ret (v := .agg #[.int .i8 n, .float .f32 wd, .float .f32 gp, .int .i16 t, .float .f32 sh]) (by simp [results, Tryz.results6, go_sem]) rfl ⟨rfl, ?_⟩
  (repeat' first | exact Below.refl _ _ | assumption | refine Below.alloc ?_ (by first | omega | (simp; done) | (simp; omega)) _ | refine Below.setCell ?_ (by first | omega | (simp; done) | (simp; omega)) _ | refine Below.drew ?_)

end Go.Proofs.YtmniodfdoidffaaGreatDoor
