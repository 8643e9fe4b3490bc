/-
  MedianVote: the program, at votes that are parts.

-/
import Derived.Test.YtmbgmpeiicjlaaaMvC
import Derived.Test.YtmbgmpeiicjlaaaMvK
import Derived.Test.YtmbgmpeiicjlaaaMvM
import Derived.Test.YtmbgmpeiicjlaaaMvP
import Derived.Test.YtmbgmpeiicjlaaaFlV
import Derived.Lib.OwnBridge

namespace Go.Proofs.Ytmbgmpeiicjlaaa

open Go.RowKit Go.Lib Go.Sort Go.Shelf

def sortV (zs : List Nat) : List Nat := zs.foldl (insL mvLt) []

theorem sortV_len (zs : List Nat) : (sortV zs).length = zs.length := by
  unfold sortV
  rw [fold_len]
  simp

theorem part_pln {x : Nat} (h : PartOk x) : PlnV x := by
  rcases h with h | rfl
  · refine ⟨.inl (by omega), ?_⟩
    unfold mag
    split <;> omega
  · refine ⟨.inr (by decide), ?_⟩
    decide

theorem own_one {α : Type} {W : World} {base : Nat} {E : TypeId} {mk : α → Value} {v : Value} {xs : List α} (h : Own W base E mk v xs) (hne : 1 ≤ xs.length) :
    ∃ g cur cap, v = .slice (some ⟨g, 0, none⟩) xs.length cap ∧ cap ≤ maxLen ∧ xs.length ≤ cap ∧ base ≤ g ∧ W.heap[g]? = some (.cells cur E (0, 0)) ∧ ∀ k, k < xs.length → cur[k]? = (xs[k]?).map mk := by
  obtain ⟨a, cap, rfl, h1, h2, ⟨_, hz⟩ | ⟨g, cur, rfl, hg, hc, hk⟩⟩ := h
  · rw [hz] at hne
    simp at hne
  · exact ⟨g, cur, cap, rfl, h1, h2, hg, hc, hk⟩

theorem holds_own {W : World} {g : Nat} {cur : Array Value} {E : TypeId} {xs : List Nat} (hc : W.heap[g]? = some (.cells cur E (0, 0))) (hk : ∀ k, k < xs.length → cur[k]? = (xs[k]?).map (Value.float .f32)) : Holds mvE W g 0 xs.toArray := fun j hj => by
  have hj2 : j < xs.length := by simpa using hj
  rw [Nat.zero_add]
  refine ⟨?_, frozen_of_row W g j _ _ hc⟩
  rw [cell_of_row W _ _ _ _ _ hc, hk j hj2, List.getElem?_eq_getElem hj2]
  have e : xs.toArray[j]! = xs[j] := by rw [getElem!_pos xs.toArray j hj]; rfl
  rw [e]
  rfl

theorem below_growV {B : Nat} {w0 w : World} {os : Array Obj} (h : Below B w0 w) (hB : B ≤ w.heap.size) : Below B w0 (grow w os) :=
  ⟨h.os, h.tape, h.output, by rw [size_grow]; have := h.size; omega, fun k hk => by
    rw [← h.block k hk]
    show (w.heap ++ os)[k]? = _
    rw [Array.getElem?_append_left (by omega)]⟩

theorem floats_sorted {W : World} {g q cap : Nat} {os : Array Obj} {d s : List Nat} (hH : Holds mvE W g 0 d.toArray) (hg : g < W.heap.size) (hl : s.length = d.length) (h1 : d.length ≤ cap) (h2 : cap ≤ maxLen) :
    FloatsAt (grow (putRow mvE (Sort.ahead W q) g 0 s.toArray) os) (.slice (some ⟨g, 0, none⟩) d.length cap) s := by
  refine ⟨_, cap, by rw [hl], by omega, h2, fun i x hx => ⟨g, 0, rfl, ?_⟩⟩
  have hi := (List.getElem?_eq_some_iff.1 hx).1
  have := (holds_putRow mvE (Sort.ahead W q) g 0 d.toArray s.toArray (holds_ahead _ _ _ _ _ _ hH) (by simpa using hl) i (by simpa using hi)).1
  rw [cell?_grow _ _ _ (by show g < (putRow mvE (Sort.ahead W q) g 0 s.toArray).heap.size; rw [size_putRow]; exact hg), this, getElem!_pos s.toArray i (by simpa using hi)]
  have e := (List.getElem?_eq_some_iff.1 hx).2
  simp [e]

set_option maxRecDepth 100000 in
set_option maxHeartbeats 4000000 in
theorem iMedianVote_yes (sv : Value) (zs : List Nat) (hwf : ∀ z ∈ zs, (Lit.float .f32 z).wf = true) (w : World) (hzs : FloatsAt w sv zs) (hok : okVs zs = true) :
    Calls Try.prog 6 #[sv] w fun e w' => e = .returned (.tuple #[.float .f32 (middS (sortV zs)), .int .i64 0]) ∧ Below w.heap.size w w' := by
  have HC := Lib.hid (areVotes_any sv zs w hzs)
  rw [hok] at HC
  obtain ⟨h1, h12, hp⟩ := okVs_get hwf hok
  have hq : ∀ z ∈ sortV zs, PlnV z := fun z hz => part_pln (hp z ((fold_mem mvLt z zs [] hz).resolve_left (fun h => by cases h)))
  have hst : insertionSort mvLt zs.toArray 0 zs.toArray.size = (sortV zs).toArray := sort_is mvLt zs (fun e => by rw [e] at h1; exact absurd h1 (by decide))
  have HM := Lib.hid (fun v W hv => middleOf_any v (sortV zs) hq (by rw [sortV_len]; exact h1) (by rw [sortV_len]; omega) W hv)
  have HS := Lib.hid (fun g c W hH hb => mv_sliceStable g c zs.toArray W hH hb h1 h12)
  rw [hst] at HS
  obtain ⟨x0, hx0⟩ : ∃ x, zs[0]? = some x := ⟨_, List.getElem?_eq_getElem (by omega)⟩
  obtain ⟨a, cap, rfl, hl1, hl2, h4⟩ := id hzs
  obtain ⟨g, o, rfl, -⟩ := float_at hzs hx0
  have HK := Lib.hid (clone_fls g o zs.length cap zs rfl (by omega) w (fun j x hx => by
    obtain ⟨g', o', e, c0⟩ := h4 j x hx
    injection e with e
    injection e with e1 e2
    subst e1
    subst e2
    exact c0))
  clear h4 hx0 hq hst hp hok hwf hzs
  go_enter Try.func6, Try.ntmps6
  go_wp2_with (first | (go_at_call 10; refine HC.out.mono ?_; rintro e w' ⟨rfl, rfl⟩) | (go_at_call 11; refine HK.out.mono ?_; rintro e w1 ⟨⟨v, rfl, ho⟩, hb1⟩; obtain ⟨g2, cur, cap2, rfl, hcm, hnc, hg2, hrow, hk⟩ := own_one ho h1; have hH := holds_own hrow hk; have hlt := row_lt hrow; clear ho hrow hk) | (go_at_call 12; refine Calls.mono (show Calls Try.prog 12 #[.iface 31 (.slice (some ⟨g2, 0, none⟩) zs.length cap2), .func (.func 13) #[.slice (some ⟨g2, 0, none⟩) zs.length cap2] #[]] w1 _ from HS.out g2 cap2 w1 hH hlt) ?_; rintro e w2 ⟨rfl, q, os, hw⟩; have hb2 : Below w.heap.size w w2 := (by rw [hw]; exact below_growV (below_putRow hb1 hg2) (by have := hb1.size; rw [size_putRow]; exact this)); have hF : FloatsAt w2 (.slice (some ⟨g2, 0, none⟩) zs.length cap2) (sortV zs) := (by rw [hw]; exact floats_sorted hH hlt (sortV_len zs) hnc hcm); clear hw) | (go_at_call 14; refine (HM.out _ w2 hF).mono ?_; rintro e w3 ⟨rfl, hb3⟩))
  go_ret2
  exact ⟨rfl, hb2.trans (hb3.mono hb2.size)⟩

end Go.Proofs.Ytmbgmpeiicjlaaa
