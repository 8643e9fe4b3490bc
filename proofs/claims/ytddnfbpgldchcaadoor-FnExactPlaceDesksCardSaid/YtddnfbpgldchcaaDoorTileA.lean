/-
  Tiles, windows and desks as values: how such arguments are opened.
-/
import Derived.Test.YtddnfbpgldchcaaDoorRoomA
namespace Go.Proofs.YtddnfbpgldchcaaDoor
open Go.ChangeShapes Go.WideShapes Go.ChangeAt Go.RowKit Go.Deep Go.Joins

def tileC (x y : Int) : Array Value := #[.int .i8 x, .int .i8 y]
def deskC (x y wl : Int) : Array Value := #[.int .i8 x, .int .i8 y, .int .i8 wl]
def I8 (z : Int) : Prop := -128 ≤ z ∧ z ≤ 127

set_option maxRecDepth 100000 in
theorem open_window {H : Type} {enc : TypeId × Value → H} {W : World} {b0 base : Nat} {spare : Nat → Bool} {held : Bool} {r : Reach} {v : Value} {d : DataW H} {p : List MemPlace}
    (hv : Value.okWide Tryd.prog W r b0 70 v) (h : DataW.Trod enc Tryd.prog W base spare held 70 v d p) : ∃ x : Wn, WnWf x ∧ v = .agg (winC x) := by
  obtain ⟨f0, f1, f2, hu, e0, e1, e2, hone⟩ := under_winL
  obtain ⟨cs, n, rfl, hl, hf⟩ := open_aggN hu hone (by kernel_rfl) hv h
  match cs, hl with
  | [c0, c1, c2], _ =>
    obtain ⟨c, y, hc, h0⟩ := hf 0 f0 rfl
    obtain rfl : c0 = c := by simpa using hc
    obtain ⟨c, y, hc, h1⟩ := hf 1 f1 rfl
    obtain rfl : c1 = c := by simpa using hc
    obtain ⟨c, y, hc, h2⟩ := hf 2 f2 rfl
    obtain rfl : c2 = c := by simpa using hc
    rw [e0] at h0; rw [e1] at h1; rw [e2] at h2
    obtain ⟨n0, q0, _, w0⟩ := DataW.trod_int Tryd.underlying22 h0
    obtain ⟨n1, q1, _, w1⟩ := DataW.trod_int Tryd.underlying22 h1
    obtain ⟨n2, q2, w2⟩ := trod_f Tryd.underlying26 h2
    simp only [List.cons.injEq, and_true] at q0 q1 q2
    subst q0 q1 q2
    exact ⟨(n0, n1, n2), ⟨wf_i8 w0, wf_i8 w1, w2⟩, rfl⟩

end Go.Proofs.YtddnfbpgldchcaaDoor
