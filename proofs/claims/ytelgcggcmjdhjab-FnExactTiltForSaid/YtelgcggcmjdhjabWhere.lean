/-
  All tilts with which a blind is as wanted: the program's collecting walk.
-/
import Derived.RangeFuncBox
import Derived.Maps.AppendAt
import Derived.Test.YtelgcggcmjdhjabTilts
import Derived.Test.YtelgcggcmjdhjabList
import Derived.Test.YtelgcggcmjdhjabNew
import Derived.Test.YtelgcggcmjdhjabRoundL
namespace Go.Proofs.Ytelgcggcmjdhjab
open Go.RowKit Go.Shelf

attribute [local go_sem] Oper.semAt_some run_store_f

/-- The tilts of a list that are wanted. -/
def wantT (p : Int → Bool) (pre : List Tl) : List Int := (pre.map (·.1)).filter p
theorem wantT_hit (p : Int → Bool) (pre : List Tl) (x : Tl) (h : p x.1 = true) : wantT p (pre ++ [x]) = wantT p pre ++ [x.1] := by simp [wantT, h]
theorem wantT_miss (p : Int → Bool) (pre : List Tl) (x : Tl) (h : p x.1 = false) : wantT p (pre ++ [x]) = wantT p pre := by simp [wantT, h]
theorem wantT_len (p : Int → Bool) (pre : List Tl) : (wantT p pre).length ≤ pre.length := by
  have := List.length_filter_le p (pre.map (·.1))
  rw [List.length_map] at this
  exact this

theorem heap_keptW {W W' : World} {row : Option Nat} {b : Nat} {cs : Array Value} {t : TypeId} {fr : Nat × Nat} (h : W.heap[b]? = some (.cells cs t fr)) (hg : W.grownBy W' row)
    (hr : ∀ r, row = some r → ∃ o : Obj, W.heap[r]? = some o ∧ o.isCells = false) : W'.heap[b]? = some (.cells cs t fr) := by
  have hlt := (Array.getElem?_eq_some_iff.1 h).1
  rw [← h]
  refine hg.block b hlt fun e => ?_
  obtain ⟨o, ho, hc⟩ := hr b e.symm
  rw [h] at ho
  cases ho
  cases hc
theorem keeps_of_belowW {W W1 : World} (hb : Below W.heap.size W W1) : KeepsOthers W W1 := ⟨hb.size, fun b _ ho _ => (hb.block b (Array.getElem?_eq_some_iff.1 ho).1).trans ho⟩
theorem laid_allw (cs vs : Array Value) (h : cs.size = vs.size) : laid cs vs 0 = vs := by
  apply Array.ext'
  simp [laid]
  rw [← h]; simp
theorem blind_onew (n : Int) (wd gp : Nat) (t : Int) (sh : Nat) : ∀ v ∈ blindC n wd gp t sh, v.oneCell' = true := by
  intro v hv
  simp only [blindC, List.mem_toArray, List.mem_cons, List.not_mem_nil, or_false] at hv
  rcases hv with rfl | rfl | rfl | rfl | rfl <;> rfl

theorem not_rowW {W : World} {g : Nat} {cs : Array Value} {t e : TypeId} {fr : Nat × Nat} (h : W.heap[g]? = some (.cells cs t fr)) (hte : t ≠ e) {base size k : Nat} {v : Value} {xs : List Value} (hr : W.ownsRow base e size v k xs) : some g ≠ v.ownBlock := by
  rcases hr.2 with ⟨rfl, _⟩ | ⟨g', cap, cur, rfl, _, hgb, _⟩
  · simp [Value.ownBlock]
  · intro e'
    obtain rfl : g = g' := by simpa [Value.ownBlock] using e'
    rw [h] at hgb
    injection hgb with e1
    injection e1 with _ e2 _
    exact hte e2
theorem kept_append {W w1 : World} {g b3 base k : Nat} {cs : Array Value} {t e : TypeId} {fr : Nat × Nat} {v u : Value} {xs : List Value} {tmp : Obj} (h : W.heap[g]? = some (.cells cs t fr)) (hte : t ≠ e) (hr : W.ownsRow base e 1 v k xs)
    (hg : (W.alloc tmp).grownBy w1 v.ownBlock) (hne : g ≠ b3) : (w1.setCell ⟨b3, 0, none⟩ u).heap[g]? = some (.cells cs t fr) := by
  rw [heap_setCell_other _ _ _ _ hne]
  have h1 : (W.alloc tmp).heap[g]? = some (.cells cs t fr) := below_row ((Below.refl W.heap.size W).alloc (Nat.le_refl _) _) h
  exact (hg.block g (row_lt h1) (not_rowW h hte hr)).trans h1
theorem owns_below {W w1 : World} {base k : Nat} {e : TypeId} {v : Value} {xs : List Value} (h : W.ownsRow base e 1 v k xs) (hb : Below W.heap.size W w1) : w1.ownsRow base e 1 v k xs :=
  h.kept (grown_of_below hb none) (by cases v.ownBlock <;> simp)

theorem own_of_row {α : Type} {W : World} {base : Nat} {e : TypeId} {mk : α → Value} {v : Value} {xs : List α} (h : W.ownsRow base e 1 v xs.length (xs.map mk)) (_ : xs.length ≤ maxLen) : Own W base e mk v xs := by
  rcases h.2 with ⟨rfl, hz⟩ | ⟨g, cap, cur, rfl, hbg, hg, hnc, hcm, hsz, htk⟩
  · exact ⟨none, 0, by rw [hz], Nat.zero_le _, by omega, .inl ⟨rfl, List.eq_nil_of_length_eq_zero hz⟩⟩
  · refine ⟨_, cap, rfl, hcm, hnc, .inr ⟨g, cur, rfl, hbg, hg, fun k hk => ?_⟩⟩
    have h1 : (cur.toList.take (xs.length * 1))[k]? = cur[k]? := by
      rw [List.getElem?_take_of_lt (by omega), Array.getElem?_toList]
    rw [← h1, htk, List.getElem?_map]
/-- A list cut to its length, behind the turn of a block that is no cells. -/
theorem own_cut {α : Type} {W : World} {base g cap D : Nat} {e : TypeId} {mk : α → Value} {xs : List α} {o o' : Obj} (h : Own W base e mk (.slice (some ⟨g, 0, none⟩) xs.length cap) xs) (hD : W.heap[D]? = some o) (ho : o.isCells = false) :
    Own (W.putObj D o') base e mk (.slice (some ⟨g, 0, none⟩) xs.length xs.length) xs := by
  obtain ⟨a, c, h1, h2, h3, h4⟩ := h
  injection h1 with e1 e2 e3
  refine ⟨_, _, rfl, by omega, Nat.le_refl _, ?_⟩
  rcases h4 with ⟨ea, _⟩ | ⟨g', cur, ea, hb, hc, hk⟩
  · rw [ea] at e1; cases e1
  · rw [ea] at e1
    injection e1 with e1
    injection e1 with e1
    subst e1
    refine .inr ⟨g, cur, rfl, hb, ?_, hk⟩
    rw [World.putObj_heap_other ?_]
    · exact hc
    · rintro rfl
      rw [hc] at hD
      injection hD with hD
      subst hD
      cases ho

/-- What the walk over the tilts keeps: the tilts so far, what asks, the blind that the iterator holds. -/
def WhereI (n : Int) (wd gp : Nat) (t : Int) (sh : Nat) (p : Int → Bool) (w : World) (b1 b3 gb : Nat) (fv : Value) (pre : List Tl) (W : World) : Prop :=
  (∃ v, Boxed W b3 52 v ∧ W.ownsRow w.heap.size 2 1 v (wantT p pre).length ((wantT p pre).map (Value.int .i64)) ∧ True) ∧ Boxed W b1 107 fv ∧ W.heap[gb]? = some (.cells (blindC n wd gp t sh) 39 (0, 0)) ∧ Below w.heap.size w W

theorem whereI_own (n : Int) (wd gp : Nat) (t : Int) (sh : Nat) (p : Int → Bool) (w : World) (b1 b3 gb : Nat) (fv : Value) (B : Nat) (hB : w.heap.size ≤ B) : OwnFrom B (WhereI n wd gp t sh p w b1 b3 gb fv) := by
  intro s W W' row ⟨h1, h2, h3, h4⟩ hg' hr
  have hr2 := fun r e => (hr r e).2
  refine ⟨Go.holdsRow_own w.heap.size b3 52 2 1 (fun pre => (wantT p pre).length) (fun pre => (wantT p pre).map (Value.int .i64)) (fun _ _ => True) s W W' row h1 hg' hr2, ?_, ?_, ownFrom_below (β := Unit) (Nat.le_refl _) hB () W W' row h4 hg' hr⟩
  · exact boxed_own (β := Unit) b1 107 (fun _ => fv) () W W' row h2 hg' hr2
  · exact heap_keptW h3 hg' hr2

theorem infoW : (Try.prog.info? 2).map (fun i => (i.zero, i.size, i.bytes)) = some (some (.int .i64 0), 1, 8) := by kernel_rfl

set_option maxRecDepth 100000 in
set_option maxHeartbeats 1000000 in
theorem eachTilted_any (n : Int) (wd gp : Nat) (t : Int) (sh : Nat) (w : World) :
    Calls Try.prog 53 #[.agg (blindC n wd gp t sh)] w fun e w' => e = .returned (.func (.func 77) #[] #[.pointer (some ⟨w.heap.size, 0, none⟩)]) ∧ w' = w.alloc (.cells (blindC n wd gp t sh) 39) := by
  go_enter Try.func53, Try.ntmps53
  go_wp2
  go_ret
  exact ⟨rfl, rfl⟩

theorem eachTilted_stops (n : Int) (wd gp : Nat) (t : Int) (sh : Nat) (gb : Nat) (w : World) (hg : w.heap[gb]? = some (.cells (blindC n wd gp t sh) 39 (0, 0))) :
    SeqStopsK Fence.wide 3 Try.prog 77 #[.pointer (some ⟨gb, 0, none⟩)] (fun x : Tl => #[.agg (blindC n wd gp x.1 sh)]) (KeepsAt gb) (fun xs => xs = tls 129) (fun pre => ∃ k, k ≤ 129 ∧ pre = tls k) 129 w := fun l J Jx W hW hJ _ hY h0 =>
  eachTilted_in n wd gp t sh gb 1 l J Jx hY W hJ h0 (below_row hW hg)

end Go.Proofs.Ytelgcggcmjdhjab
