/-
  The mirrored sun: the model's side.
-/
import Derived.Test.YtmniodfdoidffaaMirrorLaw
namespace Go.Proofs.Ytmniodfdoidffaa
open Go.ChangeShapes Go.WideShapes Go.ChangeAt Go.RowKit

theorem info_zz : (Try.prog.info? 59).map (·.size) = some (sunC zer zer).size := by kernel_rfl
theorem sun_set_h {W : World} {g : Nat} {a b : List Int} {t : TypeId} (h : W.heap[g]? = some (.cells (sunC a b) t (0, 0))) (k : Nat) (hk : k < a.length) (x : Int) : (W.setCell ⟨g, k, none⟩ (.int .i16 x)).heap[g]? = some (.cells (sunC (a.set k x) b) t (0, 0)) := by
  rw [heap_setCell_same _ _ _ _ _ _ h, sunC, i16s_set, List.set_append_left _ _ hk]; rfl
theorem sun_set_t {W : World} {g : Nat} {a b : List Int} {t : TypeId} (h : W.heap[g]? = some (.cells (sunC a b) t (0, 0))) (ha : a.length = 24) (k : Nat) (x : Int) : (W.setCell ⟨g, 24 + k, none⟩ (.int .i16 x)).heap[g]? = some (.cells (sunC a (b.set k x)) t (0, 0)) := by
  rw [heap_setCell_same _ _ _ _ _ _ h, sunC, i16s_set, List.set_append_right _ _ (by omega), ha, Nat.add_sub_cancel_left]; rfl
theorem results_sun {fn : Func} {p u : Tmp} (h : fn.results = #[.cell p 59, .tmp u]) (tmps : Array Value) (w : World) (g : Nat) (a b : List Int) (ha : a.length = 24) (hb : b.length = 24) (hp : tmps.getD p undef = .pointer (some ⟨g, 0, none⟩)) (hg : w.heap[g]? = some (.cells (sunC a b) 59 (0, 0))) :
    (results fn tmps).run Try.prog w = .ok (.tuple #[.agg (sunC a b), tmps.getD u undef]) w := by
  rw [results_cell_tmp h, hp]
  have e := run_loadVar_row w g 59 59 (sunC a b) (0, 0) _ hg Try.underlying59 rfl (by rw [sunC_size _ _ ha hb]; exact info_sun)
  simp only [asAddr, Sem.run_pure, Result.andThen_ok, e]

/-- Each hour's numbers are those of the hour on the other side of noon. -/
def Mirrors (hs ts a b : List Int) (k : Nat) : Prop := ∀ j, j < k → a[j]?.getD 0 = hs[23 - j]?.getD 0 ∧ b[j]?.getD 0 = angB (-(ts[23 - j]?.getD 0))
def mirH (hs : List Int) : List Int := (List.range 24).map (fun j => hs[23 - j]?.getD 0)
def mirT (ts : List Int) : List Int := (List.range 24).map (fun j => angB (-(ts[23 - j]?.getD 0)))
theorem mirH_len (hs : List Int) : (mirH hs).length = 24 := by simp [mirH]
theorem mirT_len (ts : List Int) : (mirT ts).length = 24 := by simp [mirT]
theorem list_of_getD {a : List Int} (ha : a.length = 24) {g : Nat → Int} (h : ∀ j, j < 24 → a[j]?.getD 0 = g j) : a = (List.range 24).map g := by
  apply List.ext_getElem (by simp [ha])
  intro i h1 h2
  have := h i (by omega)
  rw [List.getElem?_eq_getElem h1, Option.getD_some] at this
  simp [this]
theorem mirrors_all {hs ts a b : List Int} (ha : a.length = 24) (hb : b.length = 24) (h : Mirrors hs ts a b 24) : a = mirH hs ∧ b = mirT ts :=
  ⟨list_of_getD ha (fun j hj => (h j hj).1), list_of_getD hb (fun j hj => (h j hj).2)⟩
theorem set_getD (a : List Int) (k : Nat) (x : Int) (hk : k < a.length) (j : Nat) : (a.set k x)[j]?.getD 0 = if j = k then x else a[j]?.getD 0 := by
  rw [List.getElem?_set]
  by_cases e : k = j
  · subst e; simp [hk]
  · rw [if_neg e, if_neg (fun h => e h.symm)]
theorem mirrors_step {hs ts a b : List Int} {k m : Nat} (ha : a.length = 24) (hb : b.length = 24) (hk : k < 24) (hm : m + k = 23) (h : Mirrors hs ts a b k) : Mirrors hs ts (a.set k (hs[m]?.getD 0)) (b.set k (angB (-(ts[m]?.getD 0)))) (k + 1) := by
  intro j hj
  rw [set_getD _ _ _ (by omega), set_getD _ _ _ (by omega)]
  by_cases e : j = k
  · have : 23 - j = m := by omega
    rw [if_pos e, if_pos e, this]; exact ⟨rfl, rfl⟩
  · rw [if_neg e, if_neg e]; exact h j (by omega)

end Go.Proofs.Ytmniodfdoidffaa
