/-
  Lists of hours: what the walks need.
-/
import Derived.RangeFuncBox
import Derived.Maps.AppendAt
import Derived.Test.YtnienahjfocalaaDoorSumD
import Derived.Test.YtnienahjfocalaaDoorList
import Derived.Test.YtnienahjfocalaaDoorNew
import Derived.Test.YtnienahjfocalaaDoorPart
import Derived.Test.YtnienahjfocalaaDoorGus
namespace Go.Proofs.YtnienahjfocalaaDoor
open Go.RowKit Go.Shelf

/-- The hours of a list that are wanted. -/
def wantH (p : Int → Bool) (pre : List Hr) : List Int := (pre.map (·.1)).filter p
theorem wantH_hit (p : Int → Bool) (pre : List Hr) (x : Hr) (h : p x.1 = true) : wantH p (pre ++ [x]) = wantH p pre ++ [x.1] := by simp [wantH, h]
theorem wantH_miss (p : Int → Bool) (pre : List Hr) (x : Hr) (h : p x.1 = false) : wantH p (pre ++ [x]) = wantH p pre := by simp [wantH, h]
theorem wantH_len (p : Int → Bool) (pre : List Hr) : (wantH p pre).length ≤ pre.length := by
  have := List.length_filter_le p (pre.map (·.1))
  rw [List.length_map] at this
  exact this
/-- Whether there is enough shade at an hour. -/
def enoA (o dr gp tl : Nat) (hs ts : List Int) (fc : Int) (le : Nat) (x : Int) : Bool := FloatKind.f32.format.order (fallOf hs ts x fc) 0 == some .gt && (FloatKind.f32.format.order (shB o dr gp tl (atH hs x) (fallOf hs ts x fc)) le == some .gt || FloatKind.f32.format.order (shB o dr gp tl (atH hs x) (fallOf hs ts x fc)) le == some .eq)

theorem grown_of_below {w w' : World} (h : Below w.heap.size w w') (row : Option Nat) : w.grownBy w' row := ⟨h.os, h.tape, h.output, h.size, fun k hk _ => h.block k hk⟩
theorem not_rowW {W : World} {g : Nat} {cs : Array Value} {t e : TypeId} {fr : Nat × Nat} (h : W.heap[g]? = some (.cells cs t fr)) (hte : t ≠ e) {base size k : Nat} {v : Value} {xs : List Value} (hr : W.ownsRow base e size v k xs) : some g ≠ v.ownBlock := by
  rcases hr.2 with ⟨rfl, _⟩ | ⟨g', cap, cur, rfl, _, hgb, _⟩
  · simp [Value.ownBlock]
  · intro e'
    obtain rfl : g = g' := by simpa [Value.ownBlock] using e'
    rw [h] at hgb
    injection hgb with e1
    injection e1 with _ e2 _
    exact hte e2
theorem owns_below {W w1 : World} {base k : Nat} {e : TypeId} {v : Value} {xs : List Value} (h : W.ownsRow base e 1 v k xs) (hb : Below W.heap.size W w1) : w1.ownsRow base e 1 v k xs :=
  h.kept (grown_of_below hb none) (by cases v.ownBlock <;> simp)
theorem own_of_row {α : Type} {W : World} {base : Nat} {e : TypeId} {mk : α → Value} {v : Value} {xs : List α} (h : W.ownsRow base e 1 v xs.length (xs.map mk)) (_ : xs.length ≤ maxLen) : Own W base e mk v xs := by
  rcases h.2 with ⟨rfl, hz⟩ | ⟨g, cap, cur, rfl, hbg, hg, hnc, hcm, hsz, htk⟩
  · exact ⟨none, 0, by rw [hz], Nat.zero_le _, by omega, .inl ⟨rfl, List.eq_nil_of_length_eq_zero hz⟩⟩
  · refine ⟨_, cap, rfl, hcm, hnc, .inr ⟨g, cur, rfl, hbg, hg, fun k hk => ?_⟩⟩
    have h1 : (cur.toList.take (xs.length * 1))[k]? = cur[k]? := by
      rw [List.getElem?_take_of_lt (by omega), Array.getElem?_toList]
    rw [← h1, htk, List.getElem?_map]
theorem infoW : (Tryd.prog.info? 2).map (fun i => (i.zero, i.size, i.bytes)) = some (some (.int .i64 0), 1, 8) := by kernel_rfl
theorem own_base {α : Type} {w : World} {base B : Nat} {E : TypeId} {mk : α → Value} {v : Value} {xs : List α} (h : Own w base E mk v xs) (hB : B ≤ base) : Own w B E mk v xs := own_below h (Below.refl _ _) hB
theorem own_nil {w : World} {base : Nat} : Own w base 2 (Value.int .i64) (.slice none 0 0) [] := ⟨none, 0, rfl, Nat.zero_le _, Nat.le_refl _, .inl ⟨rfl, rfl⟩⟩
theorem row_base {W : World} {base k : Nat} {e : TypeId} {v : Value} {xs : List Value} (h : W.ownsRow base e 1 v k xs) : ∀ j, v.ownBlock = some j → base ≤ j := fun j e => (h.lt j e).1
theorem kept_append2 {W w1 : World} {g base k : Nat} {cs : Array Value} {t e : TypeId} {fr : Nat × Nat} {v : Value} {xs : List Value} {tmp : Obj} (h : W.heap[g]? = some (.cells cs t fr)) (hte : t ≠ e) (hr : W.ownsRow base e 1 v k xs)
    (hg : (W.alloc tmp).grownBy w1 v.ownBlock) : w1.heap[g]? = some (.cells cs t fr) := by
  have h1 : (W.alloc tmp).heap[g]? = some (.cells cs t fr) := below_row ((Below.refl W.heap.size W).alloc (Nat.le_refl _) _) h
  exact (hg.block g (row_lt h1) (not_rowW h hte hr)).trans h1

/-- What the walk keeps: all that lay there, and the hours so far. -/
def HourI (W0 : World) (p : Int → Bool) (pre : List Hr) (W : World) : Prop :=
  (∃ v, Boxed W W0.heap.size 45 v ∧ W.ownsRow W0.heap.size 2 1 v (wantH p pre).length ((wantH p pre).map (Value.int .i64)) ∧ True) ∧ Below W0.heap.size W0 W
theorem hourI_own (W0 : World) (p : Int → Bool) (B : Nat) (hB : W0.heap.size ≤ B) : OwnFrom B (HourI W0 p) := by
  intro s W W' row ⟨h1, h2⟩ hg' hr
  have hr2 := fun r e => (hr r e).2
  exact ⟨Go.holdsRow_own W0.heap.size W0.heap.size 45 2 1 (fun pre => (wantH p pre).length) (fun pre => (wantH p pre).map (Value.int .i64)) (fun _ _ => True) s W W' row h1 hg' hr2, ownFrom_below (β := Unit) (Nat.le_refl _) hB () W W' row h2 hg' hr⟩

theorem own_put {α : Type} {W : World} {base D : Nat} {e : TypeId} {mk : α → Value} {v : Value} {xs : List α} {o o' : Obj} (h : Own W base e mk v xs) (hD : W.heap[D]? = some o) (ho : o.isCells = false) : Own (W.putObj D o') base e mk v xs := by
  obtain ⟨a, c, h1, h2, h3, h4⟩ := h
  refine ⟨a, c, h1, h2, h3, h4.imp id ?_⟩
  rintro ⟨g, cur, ea, hb, hc, hk⟩
  refine ⟨g, cur, ea, hb, ?_, hk⟩
  rw [World.putObj_heap_other ?_]
  · exact hc
  · rintro rfl
    rw [hc] at hD
    injection hD with hD
    subst hD
    cases ho

theorem sh_split {o dr gp tl : Nat} (aw : AwOk o dr gp tl) {hs ts : List Int} {fc : Int} {le : Nat} (hle : fin32 le = true) (k : Int) (q : HrOk hs ts k fc) :
    (FloatKind.f32.format.order (fallOf hs ts k fc) 0 = some .eq ∨ (FloatKind.f32.format.order (fallOf hs ts k fc) 0 = some .gt ∧ ∃ c, FloatKind.f32.format.order (shB o dr gp tl (atH hs k) (fallOf hs ts k fc)) le = some c)) := by
  by_cases x0 : 0 < atH hs k
  · rcases fall_rng (atH hs k) (atH ts k - fc) x0 q.x1 with h | ⟨f0, f1⟩
    · exact .inl (by rw [show fallOf hs ts k fc = 0 from h]; exact fall_eq)
    · exact .inr ⟨fall_gt f0 f1, order_some (pos_fin (pos_le (shB_le aw q))) hle⟩
  · exact .inl (by rw [show fallOf hs ts k fc = 0 from if_neg x0]; exact fall_eq)
theorem part_fin {le : Nat} (hwl : (Lit.float .f32 le).wf = true) (hp : partB le = true) : fin32 le = true := by
  rcases betw_zero hwl (by decide) hp with h | rfl
  · exact num_fin (num_of_isNum (.inl (by omega)))
  · decide

end Go.Proofs.YtnienahjfocalaaDoor
