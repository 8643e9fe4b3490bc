/-
  The sentinel errors of the rooms' chapter: what the listed variables hold when a call begins, and what that gives a walk.
-/
import Derived.Test.YtddnfbpgldchcaaDoorRows
import Derived.Stop.LaidTwo
import Derived.LaidEql
import Derived.LaidMore
import Derived.LaidHandle
import Derived.WalkKit
import Derived.ProofKit
import Derived.OpenShut
import Derived.RowKitTokens
import Derived.Test.YtddnfbpgldchcaaDoorRow
namespace Go.Proofs.YtddnfbpgldchcaaDoor
open Go.ChangeShapes Go.WideShapes Go.ChangeAt Go.RowKit

theorem laidMet_skip {P : Program} {x y : String × DataW Unit} {r : List (String × DataW Unit)} {w : World} (h : laidMet P (x :: y :: r) w) : laidMet P (x :: r) w := by
  obtain ⟨ps, hv, hnd, hrows⟩ := h
  obtain ⟨n, d⟩ := x
  obtain ⟨m, e⟩ := y
  obtain ⟨g, t, cs, fuel, p, q, h1, h2, h3, h4, hq, rfl⟩ := hv
  obtain ⟨g', t', cs', fuel', p', q', _, _, _, _, hq', rfl⟩ := hq
  refine ⟨MemPlace.row ⟨g, 0, none⟩ cs.size ++ p ++ q', ⟨g, t, cs, fuel, p, q', h1, h2, h3, h4, hq', rfl⟩, ?_, fun b off hm => hrows b off ?_⟩
  · exact hnd.sublist (List.Sublist.append (List.Sublist.refl _) (List.sublist_append_right _ _))
  · rcases List.mem_append.1 hm with hm | hm
    · exact List.mem_append_left _ hm
    · exact List.mem_append_right _ (List.mem_append_right _ hm)

/-- The variables that the rows list, and what they hold. -/
def lst : List (String × DataW Unit) := [("loop.example/g01367/impl.errInvalid", Rows.laid_loop_example_g01367_impl_errInvalid), ("loop.example/g01367/impl.errRange", Rows.laid_loop_example_g01367_impl_errRange), ("loop.example/g01367/impl.errLimit", Rows.laid_loop_example_g01367_impl_errLimit), ("loop.example/g01367/impl.errNotFound", Rows.laid_loop_example_g01367_impl_errNotFound)]

theorem star_err : ("*" ++ "errors.errorString") = "*errors.errorString" := by decide
theorem row_err (u : TypeId) (h : Tryd.prog.typeName? 3 u = some "*errors.errorString") : u = 122 :=
  typeName_ptr_named (nm := "errors.errorString") (by rw [star_err]; kernel_rfl) (by kernel_rfl) (by decide) u (by rw [star_err]; exact h)
theorem g_inv : Tryd.prog.globalNamed "loop.example/g01367/impl.errInvalid" = some 0 := by kernel_rfl
theorem g_ran : Tryd.prog.globalNamed "loop.example/g01367/impl.errRange" = some 1 := by kernel_rfl
theorem g_lim : Tryd.prog.globalNamed "loop.example/g01367/impl.errLimit" = some 2 := by kernel_rfl
theorem g_not : Tryd.prog.globalNamed "loop.example/g01367/impl.errNotFound" = some 3 := by kernel_rfl
theorem gt_inv : (Tryd.prog.globals[0]?).map (·.type) = some 53 := by kernel_rfl
theorem gt_ran : (Tryd.prog.globals[1]?).map (·.type) = some 53 := by kernel_rfl
theorem gt_lim : (Tryd.prog.globals[2]?).map (·.type) = some 53 := by kernel_rfl
theorem gt_not : (Tryd.prog.globals[3]?).map (·.type) = some 53 := by kernel_rfl

/-- A sentinel's value. -/
def errV (a : Addr) : Value := .iface 122 (.pointer (some a))
/-- A place whose block is a row of cells that is not marked. -/
def Plain0 (W : World) (a : Addr) : Prop := ∃ c t, W.heap[a.block]? = some (.cells c t (0, 0))

/-- The four sentinels, each at a place of its own. -/
structure ErrsAt (W : World) (a0 a1 a2 a3 : Addr) : Prop where
  v0 : W.cell? ⟨0, 0, none⟩ = some (errV a0)
  v1 : W.cell? ⟨1, 0, none⟩ = some (errV a1)
  v2 : W.cell? ⟨2, 0, none⟩ = some (errV a2)
  v3 : W.cell? ⟨3, 0, none⟩ = some (errV a3)
  b0 : Plain0 W a0
  b1 : Plain0 W a1
  b2 : Plain0 W a2
  b3 : Plain0 W a3
  n01 : a0 ≠ a1
  n02 : a0 ≠ a2
  n03 : a0 ≠ a3
  n12 : a1 ≠ a2
  n13 : a1 ≠ a3
  n23 : a2 ≠ a3

theorem plain0_below {W W' : World} {a : Addr} (hb : Below W.heap.size W W') (h : Plain0 W a) : Plain0 W' a := by
  obtain ⟨c, t, h⟩ := h
  exact ⟨c, t, (hb.block _ (Array.getElem?_eq_some_iff.1 h).1).trans h⟩
theorem errs_below {W W' : World} {a0 a1 a2 a3 : Addr} (h : ErrsAt W a0 a1 a2 a3) (hb : Below W.heap.size W W') : ErrsAt W' a0 a1 a2 a3 :=
  have cb : ∀ {a : Addr} {v : Value}, W.cell? a = some v → W'.cell? a = some v := fun {a _} h => (hb.cell (World.block_lt_of_cell? W a h)).trans h
  ⟨cb h.v0, cb h.v1, cb h.v2, cb h.v3, plain0_below hb h.b0, plain0_below hb h.b1, plain0_below hb h.b2, plain0_below hb h.b3, h.n01, h.n02, h.n03, h.n12, h.n13, h.n23⟩

theorem two_of {n0 n1 : String} {t0 t1 : List UInt8} {r : List (String × DataW Unit)} {W : World} {g0 g1 : Nat}
    (h : laidMet Tryd.prog ((n0, .iface "*errors.errorString" (.ptr (.agg [.lit (.string t0)]))) :: (n1, .iface "*errors.errorString" (.ptr (.agg [.lit (.string t1)]))) :: r) W)
    (hg0 : Tryd.prog.globalNamed n0 = some g0) (ht0 : (Tryd.prog.globals[g0]?).map (·.type) = some 53) (hg1 : Tryd.prog.globalNamed n1 = some g1) (ht1 : (Tryd.prog.globals[g1]?).map (·.type) = some 53) :
    ∃ a0 a1, W.cell? ⟨g0, 0, none⟩ = some (errV a0) ∧ W.cell? ⟨g1, 0, none⟩ = some (errV a1) ∧ a0 ≠ a1 ∧ Plain0 W a0 ∧ Plain0 W a1 := by
  obtain ⟨a0, a1, s0, s1, c0, c1, u0, u1, v0, v1, _, _, _, _, _, _, hne, hb0, hb1⟩ := laid_sentinels2 h hg0 ht0 hg1 ht1 Tryd.underlying53 row_err Tryd.underlying122 Tryd.underlying148 rfl rfl Tryd.underlying9 (by kernel_rfl) (by kernel_rfl)
  exact ⟨a0, a1, by simpa [errV] using World.var?_cell hg0 v0 0, by simpa [errV] using World.var?_cell hg1 v1 0, hne, ⟨_, _, hb0⟩, ⟨_, _, hb1⟩⟩

theorem errV_inj {W : World} {p : Addr} {a b : Addr} (h : W.cell? p = some (errV a)) (k : W.cell? p = some (errV b)) : b = a := by
  rw [h] at k
  simp only [errV, Option.some.injEq, Value.iface.injEq, Value.pointer.injEq, true_and] at k
  exact k.symm

theorem errs_of {W : World} (h : laidMetH Tryd.prog lst W) : ∃ a0 a1 a2 a3, ErrsAt W a0 a1 a2 a3 := by
  have h' : laidMet Tryd.prog lst W := h
  obtain ⟨a0, a1, v0, v1, n01, b0, b1⟩ := two_of h' g_inv gt_inv g_ran gt_ran
  obtain ⟨x0, a2, w0, v2, n02, _, b2⟩ := two_of (laidMet_skip h') g_inv gt_inv g_lim gt_lim
  obtain ⟨y0, a3, z0, v3, n03, _, b3⟩ := two_of (laidMet_skip (laidMet_skip h')) g_inv gt_inv g_not gt_not
  obtain ⟨x1, x2, w1, w2, n12, _, _⟩ := two_of h'.tail g_ran gt_ran g_lim gt_lim
  obtain ⟨y1, x3, z1, w3, n13, _, _⟩ := two_of (laidMet_skip h'.tail) g_ran gt_ran g_not gt_not
  obtain ⟨y2, y3, z2, z3, n23, _, _⟩ := two_of h'.tail.tail g_lim gt_lim g_not gt_not
  obtain rfl := errV_inj v0 w0
  obtain rfl := errV_inj v0 z0
  obtain rfl := errV_inj v1 w1
  obtain rfl := errV_inj v1 z1
  obtain rfl := errV_inj v2 w2
  obtain rfl := errV_inj v2 z2
  obtain rfl := errV_inj v3 w3
  obtain rfl := errV_inj v3 z3
  exact ⟨_, _, _, _, v0, v1, v2, v3, b0, b1, b2, b3, n01, n02, n03, n12, n13, n23⟩

end Go.Proofs.YtddnfbpgldchcaaDoor
