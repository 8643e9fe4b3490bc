/-
  A list of the call's own: its beginning as a list that may be grown, and what lies in it.

-/
import Derived.Test.YtmbgmpeiicjlaaaMvI
import Derived.Maps.AppendAt
import Derived.OwnWalk

namespace Go.Proofs.Ytmbgmpeiicjlaaa

open Go.RowKit Go.Lib

theorem owns_take {W : World} {base g n cap at' : Nat} {e : TypeId} {xs : List Value} (h : W.ownsRow base e 1 (.slice (some ⟨g, 0, none⟩) n cap) n xs) (ha : at' ≤ n) : W.ownsRow base e 1 (.slice (some ⟨g, 0, none⟩) at' cap) at' (xs.take at') := by
  obtain ⟨hl, ⟨he, _⟩ | ⟨g', cap', cur, he, h1, h2, h3, h4, h5, h6⟩⟩ := h
  · cases he
  · injection he with e1 _ e3
    injection e1 with e1
    injection e1 with e1 _
    subst e1
    subst e3
    refine ⟨by rw [List.length_take]; omega, .inr ⟨g, cap, cur, rfl, h1, h2, by omega, h4, h5, ?_⟩⟩
    rw [← h6, List.take_take, Nat.mul_one, Nat.mul_one, Nat.min_eq_left ha]

theorem owns_get {W : World} {base g n cap : Nat} {e : TypeId} {xs : List Value} (h : W.ownsRow base e 1 (.slice (some ⟨g, 0, none⟩) n cap) n xs) {j : Nat} {x : Value} (hx : xs[j]? = some x) : W.cell? ⟨g, j, none⟩ = some x := by
  obtain ⟨hl, ⟨he, _⟩ | ⟨g', cap', cur, he, h1, h2, h3, h4, h5, h6⟩⟩ := h
  · cases he
  · injection he with e1 _ e3
    injection e1 with e1
    injection e1 with e1 _
    subst e1
    have hj := (List.getElem?_eq_some_iff.1 hx).1
    rw [cell_of_row W _ _ _ _ _ h2, ← Array.getElem?_toList]
    rw [← h6, List.getElem?_take_of_lt (by omega)] at hx
    exact hx

theorem owns_base {W : World} {base b n s : Nat} {e : TypeId} {v : Value} {xs : List Value} (h : W.ownsRow base e s v n xs) (hb : b ≤ base) : W.ownsRow b e s v n xs := by
  refine ⟨h.1, h.2.imp id ?_⟩
  rintro ⟨g, cap, cur, e1, hg, hc⟩
  exact ⟨g, cap, cur, e1, by omega, hc⟩

theorem owns_some {W : World} {base n : Nat} {e : TypeId} {v : Value} {xs : List Value} (h : W.ownsRow base e 1 v n xs) (hv : v ≠ .slice none 0 0) : ∃ g cap, v = .slice (some ⟨g, 0, none⟩) n cap ∧ base ≤ g ∧ g < W.heap.size ∧ n ≤ cap ∧ cap ≤ maxLen := by
  rcases h.2 with ⟨rfl, rfl⟩ | ⟨g, cap, cur, rfl, h1, h2, h3, h4, _⟩
  · exact (hv rfl).elim
  · exact ⟨g, cap, rfl, h1, (Array.getElem?_eq_some_iff.1 h2).1, h3, h4⟩

theorem owns_drew {W : World} {base : Nat} {e : TypeId} {s : Nat} {v : Value} {n : Nat} {xs : List Value} (h : W.ownsRow base e s v n xs) (q : Nat) : (W.drewN q).ownsRow base e s v n xs := h

theorem below_drew {B : Nat} {w W : World} (hb : Below B w W) (q : Nat) : Below B w (W.drewN q) := ⟨hb.os, hb.tape, hb.output, hb.size, hb.block⟩

/-- 'append' to a list of the call's own, within its block or in a new one: at the operation itself. -/
theorem wp_append_own_at {P : Program} {o : Oper} {a : Act} {w : World} {K : Act → World → Prop} {Q : Exit → Act → World → Prop} (s x : Operand) (t : TypeId)
    (ho : o.op = .call { callee := .builtin .append, args := #[s, x], argTypes := #[t, t] })
    (base : Nat) (e : TypeId) (i : TypeInfo) (z : Value) (size bytes : Nat) (ht : P.underlying t = some (.slice e)) (hi : P.info? e = some i) (hz : i.zero = some z)
    (hsize : i.size = size) (hby : i.bytes = bytes) (hzs : z.cells.size = size) (hsz : 0 < size)
    (v : Value) (n : Nat) (xs : List Value) (hs : a.eval s = v) (hown : w.ownsRow base e size v n xs)
    (ad : Addr) (m c : Nat) (news : List Value) (hx : a.eval x = .slice (some ad) m c) (hl : news.length = m * size) (hnews : ∀ j u, news[j]? = some u → w.cell? (ad.add j) = some u) (h1 : ∀ u ∈ news, u.oneCell' = true)
    (h63 : n + m ≤ maxLen) (hbytes : (n + m) * bytes ≤ 140737488355328) (hbase : base ≤ w.heap.size)
    (h : ∀ v' w', w'.ownsRow base e size v' (n + m) (xs ++ news) → w.grownBy w' v.ownBlock → (v' = .slice none 0 0 ↔ v = .slice none 0 0 ∧ m = 0) → (v'.ownBlock = v.ownBlock ∨ v'.ownBlock = some w.heap.size) → K (a.put o.dst v') w') : o.wp P a w K Q := by
  obtain ⟨v', w', hr, h2, h3, h4, h5⟩ := run_append_own_at (P := P) w base t o.type e i z size bytes ht hi hz hsize hby hzs hsz v n xs hown ad m c news hl hnews h1 h63 hbytes hbase
  unfold Oper.wp execOp
  simp only [ho, resolve, invoke, builtin, Sem.run_bind, Sem.run_pure, Result.andThen_ok, List.map_toArray, List.map_cons, List.map_nil, hs, hx, hr]
  exact h v' w' h2 h3 h4 h5

end Go.Proofs.Ytmbgmpeiicjlaaa
