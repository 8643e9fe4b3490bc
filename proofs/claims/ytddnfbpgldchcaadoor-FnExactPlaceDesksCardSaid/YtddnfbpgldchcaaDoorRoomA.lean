/-
  Rooms as values: two whole numbers and a list of windows that lie in memory. How such an argument is opened.
-/
import Derived.Test.YtddnfbpgldchcaaDoorAgg
import Derived.Test.YtddnfbpgldchcaaDoorRow
import Derived.Deep.Slices
import Derived.Deep.Strs
import Derived.Deep.Cut
import Derived.Deep.DeepCutAuto
import Derived.Test.YtddnfbpgldchcaaDoorRows
import Derived.WalkSpells
import Derived.WalkLawsBesides
import Derived.Lib.Hide
namespace Go.Proofs.YtddnfbpgldchcaaDoor
open Go.ChangeShapes Go.WideShapes Go.ChangeAt Go.RowKit Go.Deep Go.Joins

/-- A window: its wall, where it is, its light. -/
abbrev Wn := Int × Int × Nat
def winC (x : Wn) : Array Value := #[.int .i8 x.1, .int .i8 x.2.1, .float .f32 x.2.2]
def roomC (wide high : Int) (v : Value) : Array Value := #[.int .i8 wide, .int .i8 high, v]
def WnWf (x : Wn) : Prop := (-128 ≤ x.1 ∧ x.1 ≤ 127) ∧ (-128 ≤ x.2.1 ∧ x.2.1 ≤ 127) ∧ (Lit.float .f32 x.2.2).wf = true

/-- The windows that a slice holds. -/
def WinsAt (W : World) (v : Value) (ws : List Wn) : Prop :=
  ∃ a cap, v = .slice a ws.length cap ∧ ws.length ≤ cap ∧ cap ≤ maxLen ∧ ∀ i x, ws[i]? = some x → ∃ g o, a = some ⟨g, o, none⟩ ∧
    W.cell? ⟨g, o + i * 3, none⟩ = some (.int .i8 x.1) ∧ W.cell? ⟨g, o + i * 3 + 1, none⟩ = some (.int .i8 x.2.1) ∧ W.cell? ⟨g, o + i * 3 + 2, none⟩ = some (.float .f32 x.2.2)

theorem cell_below {W W' : World} (hb : Below W.heap.size W W') {a : Addr} {v : Value} (h : W.cell? a = some v) : W'.cell? a = some v :=
  (hb.cell (World.block_lt_of_cell? W a h)).trans h

theorem wins_below {W W' : World} {v : Value} {ws : List Wn} (h : WinsAt W v ws) (hb : Below W.heap.size W W') : WinsAt W' v ws := by
  obtain ⟨a, cap, h1, h2, h3, h4⟩ := h
  refine ⟨a, cap, h1, h2, h3, fun i x hx => ?_⟩
  obtain ⟨g, o, e, c0, c1, c2⟩ := h4 i x hx
  exact ⟨g, o, e, cell_below hb c0, cell_below hb c1, cell_below hb c2⟩

theorem list_of {α : Type} {Pr : Nat → α → Prop} : ∀ n, (∀ i, i < n → ∃ x, Pr i x) → ∃ l : List α, l.length = n ∧ ∀ i x, l[i]? = some x → Pr i x
  | 0, _ => ⟨[], rfl, fun i x h => by simp at h⟩
  | n + 1, h => by
    obtain ⟨l, hl, hp⟩ := list_of n (fun i hi => h i (by omega))
    obtain ⟨x, hx⟩ := h n (by omega)
    refine ⟨l ++ [x], by simp [hl], fun i y hy => ?_⟩
    by_cases c : i < l.length
    · rw [List.getElem?_append_left c] at hy
      exact hp i y hy
    · rw [List.getElem?_append_right (by omega)] at hy
      have hi := (List.getElem?_eq_some_iff.1 hy).1
      simp only [List.length_cons, List.length_nil] at hi
      have e0 : i - l.length = 0 := by omega
      rw [e0] at hy
      simp only [List.getElem?_cons_zero, Option.some.injEq] at hy
      subst hy
      have e1 : i = n := by omega
      subst e1
      exact hx

theorem wf_i8 {z : Int} (h : (Lit.int .i8 z).wf = true) : -128 ≤ z ∧ z ≤ 127 := by
  simp [Lit.wf, IntKind.min, IntKind.max, IntKind.signed, IntKind.bits] at h
  omega

set_option maxRecDepth 100000 in
theorem under_winL : ∃ f0 f1 f2 : Field, Tryd.prog.underlying 70 = some (.struct #[f0, f1, f2]) ∧ f0.type = 22 ∧ f1.type = 22 ∧ f2.type = 26 ∧ oneCellFields Tryd.prog #[f0, f1, f2] = true :=
  ⟨_, _, _, Tryd.underlying70, rfl, rfl, rfl, by kernel_rfl⟩
set_option maxRecDepth 100000 in
theorem under_roomL : ∃ f0 f1 f2 : Field, Tryd.prog.underlying 25 = some (.struct #[f0, f1, f2]) ∧ f0.type = 22 ∧ f1.type = 22 ∧ f2.type = 23 ∧ oneCellFields Tryd.prog #[f0, f1, f2] = true :=
  ⟨_, _, _, Tryd.underlying25, rfl, rfl, rfl, by kernel_rfl⟩
theorem cells_winL : Tryd.prog.cellsOf 70 = 3 := by kernel_rfl

set_option maxRecDepth 100000 in
theorem open_wins {H : Type} {enc : TypeId × Value → H} {W : World} {base : Nat} {spare : Nat → Bool} {held : Bool} {fuel : Nat} {v : Value} {x : DataW H × List MemPlace}
    (h : DataW.trod enc Tryd.prog W base spare held fuel 23 [v] = some x) : ∃ ws, WinsAt W v ws ∧ ∀ x ∈ ws, WnWf x := by
  obtain ⟨f0, f1, f2, hu, e0, e1, e2, hone⟩ := under_winL
  rcases open_slice Tryd.underlying23 h with ⟨hc, _⟩ | ⟨a, len, cap, m, n, D, Pl, hc, _, hl, hm, hmm, _, hi⟩
  · obtain rfl : v = .slice none 0 0 := by simpa using hc
    exact ⟨[], ⟨none, 0, rfl, Nat.le_refl _, by unfold maxLen; omega, fun i x hx => by simp at hx⟩, fun x hx => by cases hx⟩
  · obtain rfl : v = .slice (some a) len cap := by simpa using hc
    have hspot : 0 < len → a.spot = none := by
      intro h0
      obtain ⟨cs', hcs, _⟩ := hi 0 (by rw [hmm]; split <;> omega)
      rw [cells_winL] at hcs
      obtain ⟨_, hcl, hat⟩ := World.cells?_some hcs
      have g0 := hat 0 (by omega)
      rw [List.getElem?_eq_getElem (by omega)] at g0
      have := World.cell?_spot g0
      simpa [Addr.add] using this
    have key : ∀ i, i < len → ∃ x : Wn, WnWf x ∧ ∃ g o, some a = some ⟨g, o, none⟩ ∧
        W.cell? ⟨g, o + i * 3, none⟩ = some (.int .i8 x.1) ∧ W.cell? ⟨g, o + i * 3 + 1, none⟩ = some (.int .i8 x.2.1) ∧ W.cell? ⟨g, o + i * 3 + 2, none⟩ = some (.float .f32 x.2.2) := by
      intro i hlt
      have him : i < m := by rw [hmm]; split <;> omega
      obtain ⟨cs', hcs, ht⟩ := hi i him
      rw [cells_winL] at hcs
      obtain ⟨_, hcl, hat⟩ := World.cells?_some hcs
      obtain ⟨y0, y1, y2, n', _, _, h0, h1, h2⟩ := trod_struct3 hu ht
      obtain ⟨o0, k0⟩ := hone_of hone 0 f0 rfl
      obtain ⟨o1, k1⟩ := hone_of hone 1 f1 rfl
      obtain ⟨o2, k2⟩ := hone_of hone 2 f2 rfl
      match cs', hcl with
      | [c0, c1, c2], _ =>
        rw [o0, k0, e0] at h0
        rw [o1, k1, e1] at h1
        rw [o2, k2, e2] at h2
        obtain ⟨z0, q0, _, w0⟩ := DataW.trod_int Tryd.underlying22 h0
        obtain ⟨z1, q1, _, w1⟩ := DataW.trod_int Tryd.underlying22 h1
        obtain ⟨z2, q2, w2⟩ := trod_f Tryd.underlying26 h2
        simp at q0 q1 q2
        subst q0 q1 q2
        have g0 := hat 0 (by omega)
        have g1 := hat 1 (by omega)
        have g2 := hat 2 (by omega)
        have hsp := hspot (by omega)
        obtain ⟨g, o, spot⟩ := a
        obtain rfl : spot = none := hsp
        simp only [addr_add, Nat.add_zero] at g0 g1 g2
        exact ⟨(z0, z1, z2), ⟨wf_i8 w0, wf_i8 w1, w2⟩, g, o, rfl, g0, g1, g2⟩
    obtain ⟨ws, hlen, hall⟩ := list_of len key
    subst hlen
    refine ⟨ws, ⟨some a, cap, rfl, hl, hm, fun i x hx => (hall i x hx).2⟩, fun x hx => ?_⟩
    obtain ⟨i, hi⟩ := List.mem_iff_getElem?.1 hx
    exact (hall i x hi).1

def RmWf (wide high : Int) (ws : List Wn) : Prop := (-128 ≤ wide ∧ wide ≤ 127) ∧ (-128 ≤ high ∧ high ≤ 127) ∧ ∀ x ∈ ws, WnWf x

set_option maxRecDepth 100000 in
theorem open_room {H : Type} {enc : TypeId × Value → H} {W : World} {b0 base : Nat} {spare : Nat → Bool} {held : Bool} {r : Reach} {v : Value} {d : DataW H} {p : List MemPlace}
    (hv : Value.okWide Tryd.prog W r b0 25 v) (h : DataW.Trod enc Tryd.prog W base spare held 25 v d p) :
    ∃ (wide high : Int) (sv : Value) (ws : List Wn), v = .agg (roomC wide high sv) ∧ RmWf wide high ws ∧ WinsAt W sv ws := by
  obtain ⟨f0, f1, f2, hu, e0, e1, e2, hone⟩ := under_roomL
  obtain ⟨cs, n, rfl, hl, hf⟩ := open_aggN hu hone (by kernel_rfl) hv h
  match cs, hl with
  | [c0, c1, c2], _ =>
    obtain ⟨c, y, hc, h0⟩ := hf 0 f0 rfl
    obtain rfl : c0 = c := by simpa using hc
    obtain ⟨c, y, hc, h1⟩ := hf 1 f1 rfl
    obtain rfl : c1 = c := by simpa using hc
    obtain ⟨c, y, hc, h2⟩ := hf 2 f2 rfl
    obtain rfl : c2 = c := by simpa using hc
    rw [e0] at h0; rw [e1] at h1; rw [e2] at h2
    obtain ⟨n0, q0, _, w0⟩ := DataW.trod_int Tryd.underlying22 h0
    obtain ⟨n1, q1, _, w1⟩ := DataW.trod_int Tryd.underlying22 h1
    obtain ⟨ws, hws, hwf⟩ := open_wins h2
    simp only [List.cons.injEq, and_true] at q0 q1
    subst q0 q1
    exact ⟨n0, n1, c2, ws, rfl, ⟨wf_i8 w0, wf_i8 w1, hwf⟩, hws⟩

end Go.Proofs.YtddnfbpgldchcaaDoor
