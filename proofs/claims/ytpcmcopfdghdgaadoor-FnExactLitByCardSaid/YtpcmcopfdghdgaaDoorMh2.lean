/-
  Held, EtB, EtC, EtD, EtH, LtA, LtB, RwE, AwA, ShA, Near, Add, FallN, ShadeN, Ok, Valid, Law, Open, LawValid, Fns, Up, Angle, Ground.
-/
import Derived.Test.YtpcmcopfdghdgaaDoorMh1
import Derived.Maps.AppendAt
import Derived.OwnWalk
import Derived.Great.BuildSlice
import Derived.Test.YtpcmcopfdghdgaaDoorSameN
import Derived.Test.YtpcmcopfdghdgaaDoorAgg
import Derived.Test.YtpcmcopfdghdgaaDoorRow
import Derived.Deep.Cut
import Derived.Deep.DeepCutAuto
import Derived.Test.YtpcmcopfdghdgaaDoorRows
import Derived.WalkSpells
import Derived.WalkLawsBesides
import Derived.Lib.Hide
import Derived.Laws.Tables
import Derived.Test.YtpcmcopfdghdgaaDoorTake
import Derived.Test.YtpcmcopfdghdgaaDoorBlk
import Derived.Test.YtpcmcopfdghdgaaDoorMul
import Derived.WalkKit
import Derived.ProofKit
import Derived.OpenShut
import Derived.Test.YtpcmcopfdghdgaaDoorPlain
import Derived.Laws.EntriesVeiled
import Derived.Test.YtpcmcopfdghdgaaDoorSame

namespace Go.Proofs.YtpcmcopfdghdgaaDoor
open Go.RowKit Go.Shelf

attribute [local go_sem] Oper.semAt_some

theorem heap_kept {W W' : World} {row : Option Nat} {b : Nat} {cs : Array Value} {t : TypeId} {fr : Nat × Nat} (h : W.heap[b]? = some (.cells cs t fr)) (hg : W.grownBy W' row)
    (hr : ∀ r, row = some r → ∃ o : Obj, W.heap[r]? = some o ∧ o.isCells = false) : W'.heap[b]? = some (.cells cs t fr) := by
  have hlt := (Array.getElem?_eq_some_iff.1 h).1
  rw [← h]
  refine hg.block b hlt fun e => ?_
  obtain ⟨o, ho, hc⟩ := hr b e.symm
  rw [h] at ho
  cases ho
  cases hc

/-- A number between two bounds. -/
def clampI (lo hi y : Int) : Int := if hi < (if lo > y then lo else y) then hi else (if lo > y then lo else y)

/-- The list whose first numbers are held. -/
def clampTo (lo hi : Int) (xs : List Int) (k : Nat) : List Int := (xs.take k).map (clampI lo hi) ++ xs.drop k

def Good (pre : List Hr) : Prop := pre = hrs pre.length

theorem good_snoc {pre : List Hr} {x : Hr} (h : Good (pre ++ [x])) (hl : pre.length < 24) : Good pre ∧ x.1 = (pre.length : Int) := by
  unfold Good at h
  rw [List.length_append, List.length_singleton, hrs_succ] at h
  have h1 := List.append_inj_left h (by simp)
  have h2 := List.append_inj_right h (by simp)
  refine ⟨h1, ?_⟩
  injection h2 with h3
  rw [h3, hr_val _ hl]

theorem good_all : Good (hrs 24) := by unfold Good; rw [hrs_length]

theorem clampTo_get (lo hi : Int) (xs : List Int) (k : Nat) (hx : xs.length = 24) (hk : k < 24) : (clampTo lo hi xs k)[k]?.getD 0 = xs[k]?.getD 0 := by
  unfold clampTo
  rw [List.getElem?_append_right (by simp; omega), List.getElem?_drop]
  congr 2
  simp; omega

theorem clampTo_step (lo hi : Int) (xs : List Int) (k : Nat) (hx : xs.length = 24) (hk : k < 24) :
    (clampTo lo hi xs k).set k (clampI lo hi (xs[k]?.getD 0)) = clampTo lo hi xs (k + 1) := by
  apply List.ext_getElem?
  intro j
  unfold clampTo
  simp only [List.getElem?_set, List.getElem?_append, List.length_map, List.length_take, List.getElem?_map, List.getElem?_take, List.getElem?_drop, List.length_append, List.length_drop, hx]
  by_cases h1 : k = j
  · subst h1
    rw [if_pos rfl, if_pos (by omega), if_pos (by omega), if_pos (by omega), List.getElem?_eq_getElem (by omega)]
    rfl
  · rw [if_neg h1]
    by_cases h2 : j < k
    · rw [if_pos (by omega), if_pos (by omega), if_pos (by omega), if_pos (by omega)]
    · rw [if_neg (by omega), if_neg (by omega)]
      congr 1
      omega

theorem clampTo_all (lo hi : Int) (xs : List Int) (hx : xs.length = 24) : clampTo lo hi xs 24 = xs.map (clampI lo hi) := by
  unfold clampTo
  rw [List.take_of_length_le (by omega), List.drop_of_length_le (by omega), List.append_nil]

theorem clampTo_none (lo hi : Int) (xs : List Int) : clampTo lo hi xs 0 = xs := rfl

def HeldI (w : World) (lo hi : Int) (xs : List Int) (pre : List Hr) (W : World) : Prop :=
  ∃ ys : List Int, ys.length = 24 ∧ W.heap[w.heap.size]? = some (.cells (i16s ys) 27 (0, 0)) ∧ W.heap[w.heap.size + 1]? = some (.cells #[.int .i16 lo] 26 (0, 0)) ∧ W.heap[w.heap.size + 1 + 1]? = some (.cells #[.int .i16 hi] 26 (0, 0)) ∧ W.heap[w.heap.size + 1 + 1 + 1]? = some (.cells (i16s zer) 27 (0, 0)) ∧ (Good pre → ys = clampTo lo hi xs pre.length) ∧ Below w.heap.size w W

theorem heldI_own (w : World) (lo hi : Int) (xs : List Int) (B : Nat) (hB : w.heap.size ≤ B) : OwnFrom B (HeldI w lo hi xs) := by
  intro s W W' row ⟨ys, hy, h0, h1, h2, h3, hg, hb⟩ hg' hr
  have hr2 := fun r e => (hr r e).2
  exact ⟨ys, hy, heap_kept h0 hg' hr2, heap_kept h1 hg' hr2, heap_kept h2 hg' hr2, heap_kept h3 hg' hr2, hg, ownFrom_below (β := Unit) (Nat.le_refl _) hB () W W' row hb hg' hr⟩

theorem held_step {w W : World} {lo hi : Int} {xs ys : List Int} {pre : List Hr} {k : Nat} {h01 : 0 ≤ (k : Int) ∧ (k : Int) < 24} (hx : xs.length = 24) (hy : ys.length = 24) (hl : pre.length < 24)
    (h0 : W.heap[w.heap.size]? = some (.cells (i16s ys) 27 (0, 0))) (h1 : W.heap[w.heap.size + 1]? = some (.cells #[.int .i16 lo] 26 (0, 0))) (h2 : W.heap[w.heap.size + 1 + 1]? = some (.cells #[.int .i16 hi] 26 (0, 0)))
    (h3 : W.heap[w.heap.size + 1 + 1 + 1]? = some (.cells (i16s zer) 27 (0, 0))) (hg : Good pre → ys = clampTo lo hi xs pre.length) (hb : Below w.heap.size w W) (v : Int) (hv : v = clampI lo hi (ys[k]?.getD 0)) :
    KeepsOthers W (W.setCell ⟨w.heap.size, k, none⟩ (.int .i16 v)).drew ∧ Below w.heap.size W (W.setCell ⟨w.heap.size, k, none⟩ (.int .i16 v)).drew ∧ HeldI w lo hi xs (pre ++ [⟨k, h01⟩]) (W.setCell ⟨w.heap.size, k, none⟩ (.int .i16 v)).drew := by
  have hk : k < 24 := by have := h01.2; omega
  refine ⟨(KeepsOthers.setCell _ _ _).trans (KeepsOthers.drew _), ((Below.refl w.heap.size W).setCell (p := ⟨w.heap.size, k, none⟩) (Nat.le_refl _) _).drew, ys.set k v, by simp [hy], ?_, ?_, ?_, ?_, ?_, (hb.setCell (p := ⟨w.heap.size, k, none⟩) (Nat.le_refl _) _).drew⟩
  · rw [heap_drew, heap_setCell_same _ _ _ _ _ _ h0, i16s_set]
  · rw [heap_drew, heap_setCell_other _ _ _ _ (by simp)]; exact h1
  · rw [heap_drew, heap_setCell_other _ _ _ _ (by simp; omega)]; exact h2
  · rw [heap_drew, heap_setCell_other _ _ _ _ (by simp; omega)]; exact h3
  · intro hgs
    obtain ⟨hgp, hxk⟩ := good_snoc hgs hl
    have hkl : k = pre.length := by have : (k : Int) = (pre.length : Int) := hxk; omega
    have hys := hg hgp
    rw [List.length_append, List.length_singleton, hv, hys, hkl, clampTo_get lo hi xs _ hx hl, clampTo_step lo hi xs _ hx hl]

theorem arrU : Tryd.prog.follows .mixedOrders = true := by kernel_rfl

set_option maxRecDepth 100000 in
set_option maxHeartbeats 2000000 in
theorem held_any (xs : List Int) (hx : xs.length = 24) (lo hi : Int) (w : World) :
    Calls Tryd.prog 63 #[.agg (i16s xs), .int .i16 lo, .int .i16 hi] w fun e w' => e = .returned (.agg (i16s (xs.map (clampI lo hi)))) ∧ Below w.heap.size w w' := by
  refine (callsIn_wide (n := 4)).1 ?_
  have Hx := Lib.hid hx
  clear hx
  refine callsIn_of_wp_marks Tryd.func63 rfl trivial ?_ rfl
  simp only [Tryd.ntmps63, List.size_toArray, List.length_cons, List.length_nil, Nat.reduceAdd, Nat.reduceSub, Array.replicate_succ, Array.replicate_zero, List.push_toArray, List.append_toArray, List.nil_append, List.cons_append]
  gi_wp2
  refine wpIn_rangeFunc_ownF rfl (by decide) (gf := 53) (lb := #[]) rfl trivial (enters_of Tryd.func53 (by kernel_rfl) rfl)
    (eachHour_stops Fence.wide _ trivial rfl (by decide) w.heap.size _) belowK_t (belowK_b (by simp; omega)) (Below.refl _ _) (fun _ => rfl)
    (HeldI w lo hi xs)
    (fun _ _ _ => False) (heldI_own w lo hi xs _ (by simp; omega)) (fun _ _ _ _ _ hs _ _ => hs) ?h0
    (fun x => { tmps := #[.agg (i16s xs), .int .i16 lo, .int .i16 hi, .pointer (some ⟨w.heap.size, 0, none⟩), .pointer (some ⟨w.heap.size + 1, 0, none⟩), .pointer (some ⟨w.heap.size + 1 + 1, 0, none⟩), .pointer (some ⟨w.heap.size + 1 + 1 + 1, 0, none⟩), .int .i64 x.1, .int .i64 x.1, undef, undef, undef, undef, undef, undef, undef, undef, undef, undef], defers := [] }) ?assign ?body ?done ?stop
  case h0 =>
    refine ⟨xs, Hx.out, ?_, ?_, ?_, ?_, fun _ => rfl, ((((Below.refl _ _).alloc (Nat.le_refl _) _).alloc (by simp) _).alloc (by simp; omega) _).alloc (by simp; omega) _⟩
    all_goals simp only [heap_alloc, World.size_alloc]
    · rw [if_neg (by omega), if_neg (by omega), if_neg (by omega), if_true]
    · rw [if_neg (by omega), if_neg (by omega), if_true]
    · rw [if_neg (by omega), if_true]
    · rw [if_true]; rfl
  case assign =>
    intro l x W K hK
    gi_wp2
    exact hK
  case body =>
    rintro l pre x W ⟨ys, hy, h0, h1, h2, h3, hg, hb⟩ hl
    have hmx := arrU
    obtain ⟨x, hx0, hx1⟩ := x
    obtain ⟨k, rfl⟩ := Int.eq_ofNat_of_zero_le hx0
    have hk : k < 24 := by omega
    have c0 := cell_of_i16s h0 k (by rw [hy]; exact hk)
    have c1 : W.cell? ⟨w.heap.size + 1, 0, none⟩ = some (.int .i16 lo) := by rw [cell_of_row W _ _ _ _ _ h1]; rfl
    have c2 : W.cell? ⟨w.heap.size + 1 + 1, 0, none⟩ = some (.int .i16 hi) := by rw [cell_of_row W _ _ _ _ _ h2]; rfl
    have f0 := frozen_of_row W w.heap.size k _ _ h0
    have H0 := Lib.hid h0
    have H1 := Lib.hid h1
    have H2 := Lib.hid h2
    have H3 := Lib.hid h3
    have HG := Lib.hid hg
    have Hy := Lib.hid hy
    clear h0 h1 h2 h3 hg hy
    gi_wp2
    refine still_tail_round (k := 9) hmx (by kernel_rfl) (no_defer (by rfl)) (fun ⟨_, _, h⟩ => h) ?_
    simp only [List.take_succ_cons, List.take_zero, List.drop_succ_cons, List.drop_zero]
    repeat still_step
    refine wpStill_nil ?_
    go_wp2
    all_goals refine held_step Hx.out Hy.out hl H0.out H1.out H2.out H3.out HG.out hb _ ?_
    all_goals (unfold clampI; clear H0 H1 H2 H3 HG Hy c0 f0)
    all_goals (repeat (first | rw [if_pos (by omega)] | rw [if_neg (by omega)]))
  case done =>
    rintro D zs W hD rfl ⟨ys, hy, h0, h1, h2, h3, hg, hb⟩ hK
    rename_i K hcont
    have hD' : w.heap.size + 4 ≤ D := by simpa using hD
    have hys : ys = xs.map (clampI lo hi) := by rw [hg good_all, hrs_length, clampTo_all lo hi xs Hx.out]
    subst hys
    clear hg hD h1 h2
    have H0 := Lib.hid h0
    have H3 := Lib.hid h3
    have HK := Lib.hid hK
    have Hy := Lib.hid hy
    clear h0 h3 hK hy
    refine hcont _ _ ?_
    refine wpIn_wide.2 ?_
    go_wp2_with (first | (refine wpList_load_part rfl 27 _ rfl w.heap.size 0 24 rfl 27 (i16s (xs.map (clampI lo hi))) (0, 0) _ H0.out Tryd.underlying27 rfl info_arr (by rw [i16s_size, Hy.out]; decide) (i16s (xs.map (clampI lo hi))) (i16s_all _ 24 Hy.out) ?_) | (refine wpList_store_part rfl 27 _ _ rfl (w.heap.size + 1 + 1 + 1) 0 (i16s (xs.map (clampI lo hi))) rfl rfl 27 (i16s zer) H3.out (by rw [i16s_size, Hy.out]; exact info_arr) (by rw [i16s_size, i16s_size, Hy.out]; decide) (i16s_one _) ?_; rw [laid_all _ _ (by rw [i16s_size, i16s_size, Hy.out]; rfl)]))
    have hK2 : (W.setRow (w.heap.size + 1 + 1 + 1) (i16s (xs.map (clampI lo hi)))).heap[D]? = some (.deferred (some [])) := (setRow_other _ _ _ _ (by omega)).trans HK.out
    have hR := setRow_heap W (w.heap.size + 1 + 1 + 1) _ (i16s (xs.map (clampI lo hi))) _ _ H3.out
    refine ⟨by simp, .inl ⟨_, _, rfl, run_takeDeferred hK2, ?_⟩⟩
    refine ⟨.agg (i16s (xs.map (clampI lo hi))), results_cell_row rfl _ _ (w.heap.size + 1 + 1 + 1) 27 _ (0, 0) _ rfl ((World.putObj_heap_other (by omega)).trans hR) Tryd.underlying27 rfl (by rw [i16s_size, Hy.out]; exact info_arr), rfl, ?_⟩
    exact (below_setRow hb (by omega) _).trans (belowK_b (w := w) (Nat.le_refl _) _ D _ _ (by omega) hK2 rfl rfl)
  case stop =>
    rintro D c pre W _ _ h _
    exact h.elim

end Go.Proofs.YtpcmcopfdghdgaaDoor

namespace Go.Proofs.YtpcmcopfdghdgaaDoor
open Go.RowKit Go.Shelf

attribute [local go_sem] Oper.semAt_some

theorem heap_keptWE {W W' : World} {row : Option Nat} {b : Nat} {cs : Array Value} {t : TypeId} {fr : Nat × Nat} (h : W.heap[b]? = some (.cells cs t fr)) (hg : W.grownBy W' row)
    (hr : ∀ r, row = some r → ∃ o : Obj, W.heap[r]? = some o ∧ o.isCells = false) : W'.heap[b]? = some (.cells cs t fr) := by
  have hlt := (Array.getElem?_eq_some_iff.1 h).1
  rw [← h]
  refine hg.block b hlt fun e => ?_
  obtain ⟨o, ho, hc⟩ := hr b e.symm
  rw [h] at ho
  cases ho
  cases hc

theorem keeps_of_belowWE {W W1 : World} (hb : Below W.heap.size W W1) : KeepsOthers W W1 := ⟨hb.size, fun b _ ho _ => (hb.block b (Array.getElem?_eq_some_iff.1 ho).1).trans ho⟩

theorem laid_allwE (cs vs : Array Value) (h : cs.size = vs.size) : laid cs vs 0 = vs := by
  apply Array.ext'
  simp [laid]
  rw [← h]; simp

theorem grown_of_belowE {w w' : World} (h : Below w.heap.size w w') (row : Option Nat) : w.grownBy w' row := ⟨h.os, h.tape, h.output, h.size, fun k hk _ => h.block k hk⟩

theorem run_store_floatE (P : Program) (w : World) (a : Addr) (k : FloatKind) (b : Nat) (m : Mode) : (store a (.float k b) m).run P w = stored P w a (.float k b) m := run_store P w a _ m rfl

attribute [local go_sem] run_store_floatE

def mpC (xs : List Nat) : Array Value := (xs.map (Value.float .f32)).toArray

theorem mpC_size (xs : List Nat) : (mpC xs).size = xs.length := by simp [mpC]

theorem mpC_set (xs : List Nat) (k : Nat) (n : Nat) : (mpC xs).setIfInBounds k (.float .f32 n) = mpC (xs.set k n) := by
  apply Array.ext'
  simp [mpC, List.map_set]

theorem mpC_cell {V : World} {g : Nat} {xs : List Nat} {t : TypeId} {fr : Nat × Nat} (hg : V.heap[g]? = some (.cells (mpC xs) t fr)) (k : Nat) (h : k < xs.length) : V.cell? ⟨g, k, none⟩ = some (.float .f32 (xs[k]?.getD 0)) := by
  rw [cell_of_row V _ _ _ _ _ hg]
  simp [mpC, h]

theorem mpC_all (xs : List Nat) (n : Nat) (h : xs.length = n) : (mpC xs).extract 0 (0 + n) = mpC xs := by
  rw [Nat.zero_add, ← h, ← mpC_size, Array.extract_size]

theorem mpC_one (xs : List Nat) : ∀ v ∈ mpC xs, v.oneCell' = true := by
  intro v hv
  simp only [mpC, List.mem_toArray, List.mem_map] at hv
  obtain ⟨x, _, rfl⟩ := hv
  rfl





def zM : List Nat := List.replicate 100 0

theorem zM_len : zM.length = 100 := by simp [zM]

/-- The map of a room, as far as its tiles have been looked at. -/
def mpK (g : Int × Int → Nat) (W H k : Nat) : List Nat := (List.range 100).map (fun i => if i % 10 < W ∧ i / 10 < H ∧ i / 10 * W + i % 10 < k then g (((i % 10 : Nat) : Int), ((i / 10 : Nat) : Int)) else 0)

theorem mpK_len (g : Int × Int → Nat) (W H k : Nat) : (mpK g W H k).length = 100 := by simp [mpK]

theorem mpK_zero (g : Int × Int → Nat) (W H : Nat) : mpK g W H 0 = zM := by
  apply List.ext_getElem
  · simp [mpK, zM]
  · intro i h1 h2
    simp only [mpK, zM, List.getElem_map, List.getElem_range, List.getElem_replicate]
    rw [if_neg (fun h => Nat.not_lt_zero _ h.2.2)]

theorem mpK_step (g : Int × Int → Nat) (W H : Nat) (hW : 0 < W) (hW1 : W ≤ 10) {x y : Nat} (hx : x < W) (hy : y < H) : (mpK g W H (y * W + x)).set (y * 10 + x) (g ((x : Int), (y : Int))) = mpK g W H (y * W + x + 1) := by
  apply List.ext_getElem
  · simp [mpK]
  · intro i h1 h2
    have hi : i < 100 := by simpa [mpK] using h2
    rw [List.getElem_set]
    simp only [mpK, List.getElem_map, List.getElem_range]
    by_cases e : y * 10 + x = i
    · subst e
      have e1 : (y * 10 + x) % 10 = x := by omega
      have e2 : (y * 10 + x) / 10 = y := by omega
      rw [if_pos rfl, e1, e2, if_pos ⟨hx, hy, by omega⟩]
    · rw [if_neg e]
      by_cases hc : i % 10 < W ∧ i / 10 < H
      · have hne : i / 10 * W + i % 10 ≠ y * W + x := by
          intro h
          have a1 : (i / 10 * W + i % 10) % W = i % 10 := by rw [Nat.mul_comm, Nat.mul_add_mod]; exact Nat.mod_eq_of_lt hc.1
          have a2 : (y * W + x) % W = x := by rw [Nat.mul_comm, Nat.mul_add_mod]; exact Nat.mod_eq_of_lt hx
          have a3 : (i / 10 * W + i % 10) / W = i / 10 := by rw [Nat.mul_comm, Nat.mul_add_div hW, Nat.div_eq_of_lt hc.1, Nat.add_zero]
          have a4 : (y * W + x) / W = y := by rw [Nat.mul_comm, Nat.mul_add_div hW, Nat.div_eq_of_lt hx, Nat.add_zero]
          rw [h] at a1 a3
          omega
        by_cases hk : i / 10 * W + i % 10 < y * W + x
        · rw [if_pos ⟨hc.1, hc.2, hk⟩, if_pos ⟨hc.1, hc.2, by omega⟩]
        · rw [if_neg (fun h => hk h.2.2), if_neg (fun h => by have := h.2.2; omega)]
      · rw [if_neg (fun h => hc ⟨h.1, h.2.1⟩), if_neg (fun h => hc ⟨h.1, h.2.1⟩)]

def GoodT (W H : Nat) (hW : 0 < W) (hH : 0 < H) (pre : List (Tt W H)) : Prop := pre = tks W H hW hH pre.length

theorem goodT_snoc {W H : Nat} {hW : 0 < W} {hH : 0 < H} {pre : List (Tt W H)} {x : Tt W H} (h : GoodT W H hW hH (pre ++ [x])) : GoodT W H hW hH pre ∧ x = tk W H hW hH pre.length := by
  unfold GoodT at h
  rw [List.length_append, List.length_singleton, tks_succ] at h
  have := List.append_inj h (by simp)
  exact ⟨this.1, by simpa using this.2⟩

theorem goodT_all (W H : Nat) (hW : 0 < W) (hH : 0 < H) (k : Nat) : GoodT W H hW hH (tks W H hW hH k) := by
  unfold GoodT
  rw [tks_length]

/-- What the k-th tile is. -/
theorem tk_split (W H : Nat) (hW : 0 < W) (hH : 0 < H) {k : Nat} (hk : k < W * H) : ∃ x y : Nat, x < W ∧ y < H ∧ k = y * W + x ∧ (tk W H hW hH k).1 = ((x : Int), (y : Int)) := by
  refine ⟨k % W, k / W, Nat.mod_lt k hW, Nat.div_lt_of_lt_mul hk, ?_, ?_⟩
  · rw [Nat.mul_comm]; exact (Nat.div_add_mod k W).symm
  · have := tk_at W H hW hH (Nat.mod_lt k hW) (Nat.div_lt_of_lt_mul hk)
    rw [Nat.mul_comm (k / W) W, Nat.div_add_mod] at this
    exact this

end Go.Proofs.YtpcmcopfdghdgaaDoor

namespace Go.Proofs.YtpcmcopfdghdgaaDoor
open Go.RowKit Go.Shelf

attribute [local go_sem] Oper.semAt_some

/-- The cells of the first tiles of a room that is W wide. -/
def tC (W k : Nat) : List Value := (List.range k).flatMap (fun i => [.int .i8 ((i % W : Nat) : Int), .int .i8 ((i / W : Nat) : Int)])

theorem tC_succ (W : Nat) (hW : 0 < W) {x y : Nat} (hx : x < W) : tC W (y * W + x + 1) = tC W (y * W + x) ++ [.int .i8 (x : Int), .int .i8 (y : Int)] := by
  have e1 : (y * W + x) % W = x := by rw [Nat.mul_comm, Nat.mul_add_mod]; exact Nat.mod_eq_of_lt hx
  have e2 : (y * W + x) / W = y := by rw [Nat.mul_comm, Nat.mul_add_div hW, Nat.div_eq_of_lt hx, Nat.add_zero]
  unfold tC
  rw [List.range_succ, List.flatMap_append, List.flatMap_cons, List.flatMap_nil, List.append_nil, e1, e2]

theorem infoTE : (Tryd.prog.info? 175).map (fun i => (i.zero, i.size, i.bytes)) = some (some (.agg #[.int .i8 0, .int .i8 0]), 2, 2) := by kernel_rfl

theorem owns_bE {W w1 : World} {base s k : Nat} {e : TypeId} {v : Value} {xs : List Value} (h : W.ownsRow base e s v k xs) (hb : Below W.heap.size W w1) : w1.ownsRow base e s v k xs :=
  h.kept (row := none) ⟨hb.os, hb.tape, hb.output, hb.size, fun k hk _ => hb.block k hk⟩ (by cases v.ownBlock <;> simp)

theorem cells_newE (w : World) (cs : Array Value) (t : TypeId) : ∀ j u, cs.toList[j]? = some u → (w.alloc (.cells cs t)).cell? ((⟨w.heap.size, 0, none⟩ : Addr).add j) = some u := by
  intro j u hj
  have e : (⟨w.heap.size, 0, none⟩ : Addr).add j = ⟨w.heap.size, j, none⟩ := by simp [Addr.add]; exact fun h => h.symm
  rw [e, cell_of_row _ _ _ _ _ _ (heap_alloc_new _ _)]
  simpa using hj

end Go.Proofs.YtpcmcopfdghdgaaDoor

namespace Go.Proofs.YtpcmcopfdghdgaaDoor
open Go.ChangeShapes Go.WideShapes Go.ChangeAt Go.RowKit Go.Deep Go.Joins

attribute [local go_sem] run_store_floatE



theorem zbelE (V : World) (o : Obj) (cs : Array Value) : Below V.heap.size V ((V.alloc o).setRow V.heap.size cs) := below_setRow ((Below.refl _ _).alloc (Nat.le_refl _) _) (Nat.le_refl _) _

end Go.Proofs.YtpcmcopfdghdgaaDoor

namespace Go.Proofs.YtpcmcopfdghdgaaDoor
open Go.RowKit Go.Shelf

attribute [local go_sem] Oper.semAt_some run_store_floatE

def sumM (g : Nat → Nat) (k : Nat) : Nat := (List.range k).foldl (fun s i => fadd s (g i)) 0

theorem sumM_succ (g : Nat → Nat) (k : Nat) : sumM g (k + 1) = fadd (sumM g k) (g k) := by simp [sumM, List.range_succ]

def capM (k : Nat) : Nat := floatOfInt .f32 ((12 * k : Nat) : Int)

theorem capM_dec : ∀ k : Nat, k < 101 → capM k < 2139095040 ∧ fadd (capM k) (floatOfInt .f32 (12 : Int)) = capM (k + 1) := by decide +kernel

theorem cap12 : floatOfInt .f32 (12 : Int) < 2139095040 := by decide +kernel

theorem sumM_step {s x k : Nat} (hs : s ≤ capM k) (hk : k < 100) (hx : x ≤ floatOfInt .f32 (12 : Int)) : floatBits .add .f32 s x = some (fadd s x) ∧ fadd s x ≤ capM (k + 1) := by
  obtain ⟨c1, c2⟩ := capM_dec k (by omega)
  have h12 := cap12
  exact ⟨(add_rnd (by omega) (by omega)).1, by rw [← c2]; exact add_mono c1 h12 hs hx⟩

theorem sumM_cap (g : Nat → Nat) : ∀ k, k ≤ 100 → (∀ j, j < k → g j ≤ floatOfInt .f32 (12 : Int)) → sumM g k ≤ capM k
  | 0, _, _ => by show (0 : Nat) ≤ _; exact Nat.zero_le _
  | k + 1, hk, h => by
    rw [sumM_succ]
    exact (sumM_step (sumM_cap g k (by omega) (fun j hj => h j (by omega))) (by omega) (h k (by omega))).2

def meanM (s n : Nat) : Nat := fdiv s (floatOfInt .f32 ((n : Nat) : Int))

theorem meanM_ok {s k n : Nat} (hs : s ≤ capM k) (hk : k ≤ 100) (h0 : 0 < n) (h1 : n ≤ 100) : floatBits .quo .f32 s (floatOfInt .f32 ((n : Nat) : Int)) = some (meanM s n) ∧ fin32 (meanM s n) = true := by
  obtain ⟨c1, _⟩ := capM_dec k (by omega)
  obtain ⟨m, rfl⟩ : ∃ m, n = m + 1 := ⟨n - 1, by omega⟩
  obtain ⟨d1, d2⟩ := whole_nat m (by omega)
  have e : ((m + 1 : Nat) : Int) = (m : Int) + 1 := by omega
  unfold meanM
  rw [e]
  refine ⟨(div_rnd (by omega) d1 (by omega)).1, fin_of_lt (Nat.lt_of_le_of_lt (div_mono (x := s) (X := capM k) (Y := 1065353216) c1 d1 (by decide) hs d2) ?_)⟩
  have h : ∀ k : Nat, k < 101 → fdiv (capM k) 1065353216 < 2139095040 := by decide +kernel
  exact h k (by omega)

theorem mpK_get (g : Int × Int → Nat) (W H : Nat) {x y : Nat} (hW1 : W ≤ 10) (hH1 : H ≤ 10) (hx : x < W) (hy : y < H) : (mpK g W H (W * H))[y * 10 + x]?.getD 0 = g ((x : Int), (y : Int)) := by
  have e1 : (y * 10 + x) % 10 = x := by omega
  have e2 : (y * 10 + x) / 10 = y := by omega
  have hk : y * W + x < W * H := by
    have h2 : (y + 1) * W ≤ H * W := Nat.mul_le_mul_right W (by omega)
    rw [Nat.add_mul, Nat.one_mul] at h2
    rw [Nat.mul_comm W H]
    omega
  unfold mpK
  rw [List.getElem?_map, List.getElem?_range (by omega : y * 10 + x < 100)]
  simp only [Option.map_some, Option.getD_some, e1, e2]
  rw [if_pos ⟨hx, hy, hk⟩]

end Go.Proofs.YtpcmcopfdghdgaaDoor

namespace Go.Proofs.YtpcmcopfdghdgaaDoor
open Go.RowKit Go.Shelf

attribute [local go_sem] Oper.semAt_some run_store_floatE

def u16s (xs : List Int) : Array Value := (xs.map (Value.int .u16)).toArray

theorem u16s_size (xs : List Int) : (u16s xs).size = xs.length := by simp [u16s]

theorem u16s_cell {V : World} {g : Nat} {xs : List Int} {t : TypeId} {fr : Nat × Nat} (hg : V.heap[g]? = some (.cells (u16s xs) t fr)) (k : Nat) (h : k < xs.length) : V.cell? ⟨g, k, none⟩ = some (.int .u16 (xs[k]?.getD 0)) := by
  rw [cell_of_row V _ _ _ _ _ hg]
  simp [u16s, h]

theorem u16s_set (xs : List Int) (k : Nat) (n : Int) : (u16s xs).setIfInBounds k (.int .u16 n) = u16s (xs.set k n) := by
  apply Array.ext'
  simp [u16s, List.map_set]

theorem u16s_one (xs : List Int) : ∀ v ∈ u16s xs, v.oneCell' = true := by
  intro v hv
  simp only [u16s, List.mem_toArray, List.mem_map] at hv
  obtain ⟨x, _, rfl⟩ := hv
  rfl

theorem u16s_all (xs : List Int) (n : Nat) (h : xs.length = n) : (u16s xs).extract 0 (0 + n) = u16s xs := by
  rw [Nat.zero_add, ← h, ← u16s_size, Array.extract_size]



def zU : List Int := [0, 0, 0, 0, 0, 0, 0, 0, 0, 0]

theorem zU_len : zU.length = 10 := rfl

/-- The bits of lit tiles, as far as they have been looked at. -/
def litN (P : Nat → Bool) (W : Nat) : Nat → List Int
  | 0 => zU
  | k + 1 => if P k then (litN P W k).set (k / W) (bits .or .u16 ((litN P W k)[k / W]?.getD 0) ((2 : Int) ^ (k % W))) else litN P W k

theorem litN_len (P : Nat → Bool) (W : Nat) : ∀ k, (litN P W k).length = 10
  | 0 => rfl
  | k + 1 => by
    rw [litN]
    split
    · rw [List.length_set]; exact litN_len P W k
    · exact litN_len P W k

theorem litN_at {P : Nat → Bool} {W x y : Nat} (hW : 0 < W) (hx : x < W) : litN P W (y * W + x + 1) = if P (y * W + x) then (litN P W (y * W + x)).set y (bits .or .u16 ((litN P W (y * W + x))[y]?.getD 0) ((2 : Int) ^ x)) else litN P W (y * W + x) := by
  have e1 : (y * W + x) % W = x := by rw [Nat.mul_comm, Nat.mul_add_mod]; exact Nat.mod_eq_of_lt hx
  have e2 : (y * W + x) / W = y := by rw [Nat.mul_comm, Nat.mul_add_div hW, Nat.div_eq_of_lt hx, Nat.add_zero]
  rw [litN, e1, e2]

/-- Whether a light is enough. -/
def enB (least x : Nat) : Bool := FloatKind.f32.format.order x least == some .gt || FloatKind.f32.format.order x least == some .eq

theorem pow16 {x : Nat} (h : x < 10) : IntKind.u16.wrap ((2 : Int) ^ x) = (2 : Int) ^ x := by
  have h2 : ∀ x : Nat, x < 10 → IntKind.u16.wrap ((2 : Int) ^ x) = (2 : Int) ^ x := by decide +kernel
  exact h2 x h

end Go.Proofs.YtpcmcopfdghdgaaDoor

namespace Go.Proofs.YtpcmcopfdghdgaaDoor
open Go.ChangeShapes Go.WideShapes Go.ChangeAt Go.RowKit Go.Deep Go.Joins

attribute [local go_sem] run_store_floatE

theorem fin_iffT {b : Nat} : (FloatKind.f32.format.order b b = some .eq ∧ fin32 b = true) ∨ (FloatKind.f32.format.order b b = none ∧ fin32 b = false) := by
  unfold fin32
  show ((Ieee.single.read b).order (Ieee.single.read b) = some .eq ∧ _) ∨ _
  generalize hd : Ieee.single.read b = d
  have e : FloatKind.f32.format.order b b = d.order d := by show (Ieee.single.read b).order (Ieee.single.read b) = _; rw [hd]
  rw [e]
  cases d with
  | number s m e => left; simp [Ieee.Datum.order, Ieee.Datum.isNaN]
  | infinity s => left; simp [Ieee.Datum.order, Ieee.Datum.isNaN]
  | nan s f => right; exact ⟨rfl, rfl⟩

theorem wpList_buildTT {P : Program} {ops : Array Oper} {rest : List Oper} {o : Oper} {a : Act} {w : World} {Q : Exit → Act → World → Prop} (hg : o.guard = none) (t : TypeId) (parts : Array (Nat × Operand)) (ho : o.op = .build t parts)
    (d : Option Tmp) (hd : o.dst = d) (l : List (Nat × Value)) (hp : parts.toList.map (fun x => (x.1, a.eval x.2)) = l) (cells : Array Value) (hf : P.built t l = some cells)
    (h : wpList P ops Q rest (a.put d (.agg cells)) w) : wpList P ops Q (o :: rest) a w := by
  refine wpList_buildTo hg t parts ho d hd cells ?_ h
  rw [Array.toList_map, ← hf, ← hp]

end Go.Proofs.YtpcmcopfdghdgaaDoor

namespace Go.Proofs.YtpcmcopfdghdgaaDoor
open Go.RowKit

attribute [local go_sem] run_store_f

theorem results_rm {fn : Func} {p u : Tmp} (h : fn.results = #[.cell p 33, .tmp u]) (tmps : Array Value) (w : World) (g : Nat) (wd hg : Int) (v : Value) (hp : tmps.getD p undef = .pointer (some ⟨g, 0, none⟩)) (hgr : w.heap[g]? = some (.cells (roomC wd hg v) 33 (0, 0))) :
    (results fn tmps).run Tryd.prog w = .ok (.tuple #[.agg (roomC wd hg v), tmps.getD u undef]) w := by
  have e := run_loadVar_row w g 33 33 (roomC wd hg v) (0, 0) _ hgr Tryd.underlying33 rfl info_room
  have e0 : (results fn tmps).run Tryd.prog w =
      ((asAddr (tmps.getD p undef)).run Tryd.prog w).andThen fun a w₁ => ((loadVar 33 a).run Tryd.prog w₁).andThen fun x w₂ => .ok (.tuple #[x, tmps.getD u undef]) w₂ := by
    simp only [results, h]
    simp [Sem.run_bind, Result.andThen]
  rw [e0, hp]
  simp only [asAddr, Sem.run_pure, Result.andThen_ok, e]

theorem room_oneN (wd hg : Int) : ∀ u ∈ roomC wd hg (.slice none 0 0), u.oneCell' = true := by
  intro u hu
  simp only [roomC, List.mem_toArray, List.mem_cons, List.not_mem_nil, or_false] at hu
  rcases hu with rfl | rfl | rfl <;> rfl

theorem room_oneQ (wd hg : Int) {W : World} {b : Nat} {v : Value} {ws : List Wn} (h : OwnQ W b v ws) : ∀ u ∈ roomC wd hg v, u.oneCell' = true := by
  rcases h with ⟨rfl, _⟩ | ⟨g, cap, cur, rfl, _⟩
  · exact room_oneN wd hg
  · exact room_oneS wd hg _ _ _

end Go.Proofs.YtpcmcopfdghdgaaDoor

namespace Go.Proofs.YtpcmcopfdghdgaaDoor
open Go.ChangeShapes Go.WideShapes Go.ChangeAt Go.RowKit Go.Deep Go.Joins

attribute [local go_sem] run_store_f

/-- Awning, as cells. -/
def awC (o : Nat) (dr : Nat) (gp : Nat) (tl : Nat) : Array Value := #[.float .f32 o, .float .f32 dr, .float .f32 gp, .float .f32 tl]

def AwWf (o : Nat) (dr : Nat) (gp : Nat) (tl : Nat) : Prop := (Lit.float .f32 o).wf = true ∧ (Lit.float .f32 dr).wf = true ∧ (Lit.float .f32 gp).wf = true ∧ (Lit.float .f32 tl).wf = true





theorem aw_fits (o : Nat) (dr : Nat) (gp : Nat) (tl : Nat) : 0 + 4 ≤ (awC o dr gp tl).size := Nat.le_refl _

theorem aw_all (o : Nat) (dr : Nat) (gp : Nat) (tl : Nat) : (awC o dr gp tl).extract 0 (0 + 4) = awC o dr gp tl := rfl

theorem aw_one (o : Nat) (dr : Nat) (gp : Nat) (tl : Nat) : ∀ v ∈ awC o dr gp tl, v.oneCell' = true := by
  intro v hv
  simp only [awC, List.mem_toArray, List.mem_cons, List.not_mem_nil, or_false] at hv
  rcases hv with rfl | rfl | rfl | rfl <;> rfl

theorem aw_cells {o : Nat} {dr : Nat} {gp : Nat} {tl : Nat} {W : World} {b : Nat} {T : TypeId} {fr : Nat × Nat} (h : W.heap[b]? = some (.cells (awC o dr gp tl) T fr)) :
    W.cell? ⟨b, 0, none⟩ = some (.float .f32 o) ∧ W.cell? ⟨b, 1, none⟩ = some (.float .f32 dr) ∧ W.cell? ⟨b, 2, none⟩ = some (.float .f32 gp) ∧ W.cell? ⟨b, 3, none⟩ = some (.float .f32 tl) :=
  ⟨by rw [cell_of_row W _ _ _ _ _ h]; rfl, by rw [cell_of_row W _ _ _ _ _ h]; rfl, by rw [cell_of_row W _ _ _ _ _ h]; rfl, by rw [cell_of_row W _ _ _ _ _ h]; rfl⟩

end Go.Proofs.YtpcmcopfdghdgaaDoor

namespace Go.Proofs.YtpcmcopfdghdgaaDoor
open Go.ChangeShapes Go.WideShapes Go.ChangeAt Go.RowKit Go.Deep Go.Joins

/-- A sun and a facing, and an awning besides, as cells. -/
def fsC (hs ts : List Int) (fc : Int) : Array Value := sunC hs ts ++ #[.int .i64 fc]

def shC (hs ts : List Int) (fc : Int) (o dr gp tl : Nat) : Array Value := fsC hs ts fc ++ awC o dr gp tl

theorem fsC_size (hs ts : List Int) (fc : Int) (h : hs.length = 24) (t : ts.length = 24) : (fsC hs ts fc).size = 49 := by simp [fsC, sunC_size _ _ h t]

theorem shC_size (hs ts : List Int) (fc : Int) (o dr gp tl : Nat) (h : hs.length = 24) (t : ts.length = 24) : (shC hs ts fc o dr gp tl).size = 53 := by simp [shC, fsC_size _ _ fc h t, awC]

theorem fs_fits (hs ts : List Int) (fc : Int) (h : hs.length = 24) (t : ts.length = 24) : 0 + 49 ≤ (fsC hs ts fc).size := by rw [fsC_size _ _ _ h t]; decide

theorem fs_fits48 (hs ts : List Int) (fc : Int) (h : hs.length = 24) (t : ts.length = 24) : 0 + 48 ≤ (fsC hs ts fc).size := by rw [fsC_size _ _ _ h t]; decide

theorem sh_fits (hs ts : List Int) (fc : Int) (o dr gp tl : Nat) (h : hs.length = 24) (t : ts.length = 24) : 0 + 53 ≤ (shC hs ts fc o dr gp tl).size := by rw [shC_size _ _ _ _ _ _ _ h t]; decide

theorem sh_fits49 (hs ts : List Int) (fc : Int) (o dr gp tl : Nat) (h : hs.length = 24) (t : ts.length = 24) : 0 + 49 ≤ (shC hs ts fc o dr gp tl).size := by rw [shC_size _ _ _ _ _ _ _ h t]; decide

theorem extract_left (a b : Array Value) (n : Nat) (h : a.size = n) : (a ++ b).extract 0 (0 + n) = a := by
  subst h; simp

theorem fs_all (hs ts : List Int) (fc : Int) (h : hs.length = 24) (t : ts.length = 24) : (fsC hs ts fc).extract 0 (0 + 49) = fsC hs ts fc := by
  rw [Nat.zero_add, ← fsC_size hs ts fc h t, Array.extract_size]

theorem fs_sun (hs ts : List Int) (fc : Int) (h : hs.length = 24) (t : ts.length = 24) : (fsC hs ts fc).extract 0 (0 + 48) = sunC hs ts := extract_left _ _ _ (sunC_size _ _ h t)

theorem sh_all (hs ts : List Int) (fc : Int) (o dr gp tl : Nat) (h : hs.length = 24) (t : ts.length = 24) : (shC hs ts fc o dr gp tl).extract 0 (0 + 53) = shC hs ts fc o dr gp tl := by
  rw [Nat.zero_add, ← shC_size hs ts fc o dr gp tl h t, Array.extract_size]

theorem sh_fs (hs ts : List Int) (fc : Int) (o dr gp tl : Nat) (h : hs.length = 24) (t : ts.length = 24) : (shC hs ts fc o dr gp tl).extract 0 (0 + 49) = fsC hs ts fc := extract_left _ _ _ (fsC_size _ _ _ h t)

theorem sunC_one (hs ts : List Int) : ∀ v ∈ sunC hs ts, v.oneCell' = true := i16s_one _

theorem fs_one (hs ts : List Int) (fc : Int) : ∀ v ∈ fsC hs ts fc, v.oneCell' = true := by
  intro v hv
  rcases Array.mem_append.1 hv with h | h
  · exact sunC_one _ _ v h
  · simp only [List.mem_toArray, List.mem_cons, List.not_mem_nil, or_false] at h
    subst h; rfl

theorem sh_one (hs ts : List Int) (fc : Int) (o dr gp tl : Nat) : ∀ v ∈ shC hs ts fc o dr gp tl, v.oneCell' = true := by
  intro v hv
  rcases Array.mem_append.1 hv with h | h
  · exact fs_one _ _ _ v h
  · exact aw_one _ _ _ _ v h

theorem fs_48 (hs ts : List Int) (fc : Int) (h : hs.length = 24) (t : ts.length = 24) : (fsC hs ts fc)[48]? = some (.int .i64 fc) := by
  have e : (sunC hs ts).size = 48 := sunC_size _ _ h t
  unfold fsC
  rw [Array.getElem?_append_right (by omega), e]; rfl

theorem fs_cell {hs ts : List Int} {fc : Int} {W : World} {b : Nat} {T : TypeId} {fr : Nat × Nat} (h : hs.length = 24) (t : ts.length = 24) (hg : W.heap[b]? = some (.cells (fsC hs ts fc) T fr)) : W.cell? ⟨b, 48, none⟩ = some (.int .i64 fc) := by
  rw [cell_of_row W _ _ _ _ _ hg, fs_48 _ _ _ h t]

theorem sh_ge (hs ts : List Int) (fc : Int) (o dr gp tl : Nat) (h : hs.length = 24) (t : ts.length = 24) (k : Nat) : (shC hs ts fc o dr gp tl)[49 + k]? = (awC o dr gp tl)[k]? := by
  have e : (fsC hs ts fc).size = 49 := fsC_size _ _ _ h t
  unfold shC
  rw [Array.getElem?_append_right (by omega), e, Nat.add_sub_cancel_left]

theorem sh_cells {hs ts : List Int} {fc : Int} {o dr gp tl : Nat} {W : World} {b : Nat} {T : TypeId} {fr : Nat × Nat} (h : hs.length = 24) (t : ts.length = 24) (hg : W.heap[b]? = some (.cells (shC hs ts fc o dr gp tl) T fr)) :
    W.cell? ⟨b, 49, none⟩ = some (.float .f32 o) ∧ W.cell? ⟨b, 50, none⟩ = some (.float .f32 dr) ∧ W.cell? ⟨b, 51, none⟩ = some (.float .f32 gp) ∧ W.cell? ⟨b, 52, none⟩ = some (.float .f32 tl) :=
  ⟨by rw [cell_of_row W _ _ _ _ _ hg]; exact sh_ge _ _ _ _ _ _ _ h t 0, by rw [cell_of_row W _ _ _ _ _ hg]; exact sh_ge _ _ _ _ _ _ _ h t 1, by rw [cell_of_row W _ _ _ _ _ hg]; exact sh_ge _ _ _ _ _ _ _ h t 2, by rw [cell_of_row W _ _ _ _ _ hg]; exact sh_ge _ _ _ _ _ _ _ h t 3⟩

theorem len24 {xs : List Int} (h : xs.length = 24) : ∃ a0 a1 a2 a3 a4 a5 a6 a7 a8 a9 b0 b1 b2 b3 b4 b5 b6 b7 b8 b9 c0 c1 c2 c3 : Int, xs = [a0, a1, a2, a3, a4, a5, a6, a7, a8, a9, b0, b1, b2, b3, b4, b5, b6, b7, b8, b9, c0, c1, c2, c3] := by
  match xs, h with
  | [a0, a1, a2, a3, a4, a5, a6, a7, a8, a9, b0, b1, b2, b3, b4, b5, b6, b7, b8, b9, c0, c1, c2, c3], _ => exact ⟨_, _, _, _, _, _, _, _, _, _, _, _, _, _, _, _, _, _, _, _, _, _, _, _, rfl⟩

theorem wpList_buildL {P : Program} {ops : Array Oper} {rest : List Oper} {o : Oper} {a : Act} {w : World} {Q : Exit → Act → World → Prop} (hg : o.guard = none) (t : TypeId) (parts : Array (Nat × Operand)) (ho : o.op = .build t parts)
    (d : Option Tmp) (hd : o.dst = d) (l : List (Nat × Value)) (hp : parts.toList.map (fun x => (x.1, a.eval x.2)) = l) (cells : Array Value) (hf : P.built t l = some cells)
    (h : wpList P ops Q rest (a.put d (.agg cells)) w) : wpList P ops Q (o :: rest) a w := by
  refine wpList_buildTo hg t parts ho d hd cells ?_ h
  rw [Array.toList_map, ← hf, ← hp]

end Go.Proofs.YtpcmcopfdghdgaaDoor

namespace Go.Proofs.YtpcmcopfdghdgaaDoor
open Go

theorem cut_sign (s : Bool) (n d : Nat) : Ieee.Toward.even.cut s n d = Ieee.Toward.even.cut false n d := by
  unfold Ieee.Toward.cut
  rfl

theorem nearest_sign (s : Bool) (m : Nat) (e : Int) : Ieee.single.nearest s m e = if s then 2147483648 + Ieee.single.nearest false m e else Ieee.single.nearest false m e := by
  have hw : Ieee.single.signWeight = 2147483648 := by decide
  have hword : ∀ r, Ieee.single.word s r = if s then 2147483648 + Ieee.single.word false r else Ieee.single.word false r := by
    intro r
    unfold Ieee.Format.word
    rw [hw]
    cases s <;> rfl
  unfold Ieee.Format.nearest
  by_cases hm : m = 0
  · rw [if_pos hm, if_pos hm]
    exact hword 0
  · rw [if_neg hm, if_neg hm]
    dsimp only
    rw [cut_sign s]
    exact hword _

theorem signed_not (t : Bool) (n k : Nat) : Ieee.signed (!t) n k = - Ieee.signed t n k := by
  unfold Ieee.signed
  cases t <;> simp

theorem sub_num {x y B C : Nat} (hx : isNum x) (hy : isNum y) (hX : (sv x).natAbs ≤ rv B) (hY : (sv y).natAbs ≤ rv B) (hBC : 2 * rv B ≤ rv C) (hC : C < 2139095040) :
    floatBits .sub .f32 x y = some (fsub x y) ∧ isNum (fsub x y) := by
  obtain ⟨s, m, i, hr, hm⟩ := read_num32 hx
  obtain ⟨t, n, j, hq, hn⟩ := read_num32 hy
  rw [← signed_scale s m i (min i j) (Nat.min_le_left _ _)] at hm
  rw [← signed_scale t n j (min i j) (Nat.min_le_right _ _)] at hn
  have h : Ieee.single.sub x y = some (Ieee.single.nearest (if Ieee.signed s m (i - min i j) - Ieee.signed t n (j - min i j) = 0 then (s && !t) else decide (Ieee.signed s m (i - min i j) - Ieee.signed t n (j - min i j) < 0)) (Ieee.signed s m (i - min i j) - Ieee.signed t n (j - min i j)).natAbs (-149 + ((min i j : Nat) : Int))) := by
    unfold Ieee.Format.sub
    rw [hr, hq]
    have e0 : min (-149 + (i : Int)) (-149 + (j : Int)) = -149 + ((min i j : Nat) : Int) := by omega
    have e1 : (-149 + (i : Int) - (-149 + ((min i j : Nat) : Int))).toNat = i - min i j := by omega
    have e2 : (-149 + (j : Int) - (-149 + ((min i j : Nat) : Int))).toNat = j - min i j := by omega
    simp only [Ieee.Datum.opposite, Ieee.Datum.sum, Option.map_some, Ieee.Format.write, e0, e1, e2, signed_not, ← Int.sub_eq_add_neg]
  refine ⟨by unfold fsub; rw [h]; exact h, ?_⟩
  have e1 : fsub x y = (Ieee.single.sub x y).getD 0 := rfl
  rw [h, Option.getD_some] at e1
  generalize hT : Ieee.signed s m (i - min i j) - Ieee.signed t n (j - min i j) = T at *
  have hsv : T * ((2 ^ min i j : Nat) : Int) = sv x - sv y := by rw [← hT, Int.sub_mul, hm, hn]
  have habs : T.natAbs * 2 ^ min i j ≤ rv C := by
    have h1 : (T * ((2 ^ min i j : Nat) : Int)).natAbs = T.natAbs * 2 ^ min i j := by rw [Int.natAbs_mul, Int.natAbs_natCast]
    rw [← h1, hsv]
    omega
  have hR := nearest_rnd T.natAbs (-149 + ((min i j : Nat) : Int)) (min i j) 0 (by omega)
  have hle := rnd_le hR (r := C) (by decide) (by simpa using habs)
  rw [e1]
  generalize (if T = 0 then (s && !t) else decide (T < 0)) = sg
  rw [nearest_sign]
  cases sg
  · rw [if_neg (by simp)]; exact .inl (by omega)
  · rw [if_pos rfl]; exact .inr ⟨by omega, by omega⟩

theorem size_isNum {x : Nat} (h : isNum x) : isNum (sizeB x) := by
  unfold sizeB
  split
  · rcases h with h | ⟨h1, h2⟩
    · exact .inl (by omega)
    · exact .inl (by omega)
  · exact h

/-- Whether a number is less than another one. -/
def ltF (a b : Nat) : Bool := FloatKind.f32.format.order a b == some .lt
/-- The first of several numbers that is least. -/
def firstMin (d : Nat → Nat) : Nat → Nat
  | 0 => 0
  | k + 1 => if ltF (d (k + 1)) (d (firstMin d k)) then k + 1 else firstMin d k
theorem firstMin_le (d : Nat → Nat) : ∀ k, firstMin d k ≤ k
  | 0 => Nat.le_refl _
  | k + 1 => by
    have := firstMin_le d k
    unfold firstMin
    split <;> omega
theorem firstMin_hit {d : Nat → Nat} {k : Nat} (h : ltF (d (k + 1)) (d (firstMin d k)) = true) : firstMin d (k + 1) = k + 1 := by rw [firstMin, if_pos h]
theorem firstMin_miss {d : Nat → Nat} {k : Nat} (h : ltF (d (k + 1)) (d (firstMin d k)) = false) : firstMin d (k + 1) = firstMin d k := by rw [firstMin, if_neg (by rw [h]; decide)]
/-- The order of two finite numbers. -/
theorem order_cases {x y : Nat} (hx : isNum x) (hy : isNum y) : (FloatKind.f32.format.order x y = some .lt ∧ ltF x y = true) ∨ (FloatKind.f32.format.order x y = some .eq ∧ ltF x y = false) ∨ (FloatKind.f32.format.order x y = some .gt ∧ ltF x y = false) := by
  unfold ltF
  rw [order_num hx hy]
  cases compare (sv x) (sv y) <;> simp
theorem order_self {x : Nat} (hx : isNum x) : FloatKind.f32.format.order x x = some .eq := by
  rw [order_num hx hx, Int.compare_eq_eq.2 rfl]

/-- The same, with the first one looked at twice. -/
def bestK (d : Nat → Nat) (k : Nat) : Nat := if k = 0 then 0 else firstMin d (k - 1)
theorem bestK_hit {d : Nat → Nat} {k : Nat} (h : ltF (d k) (d (bestK d k)) = true) : bestK d (k + 1) = k := by
  cases k with
  | zero => rfl
  | succ k => exact firstMin_hit h
theorem bestK_miss {d : Nat → Nat} {k : Nat} (h : ltF (d k) (d (bestK d k)) = false) : bestK d (k + 1) = bestK d k := by
  cases k with
  | zero => rfl
  | succ k => exact firstMin_miss h
theorem bestK_lt (d : Nat → Nat) {k n : Nat} (h : k ≤ n) (hn : 0 < n) : bestK d k < n := by
  unfold bestK
  split
  · exact hn
  · have := firstMin_le d (k - 1)
    omega
theorem bestK_end (d : Nat → Nat) {n : Nat} (hn : 0 < n) : bestK d n = firstMin d (n - 1) := by
  unfold bestK
  rw [if_neg (by omega)]

end Go.Proofs.YtpcmcopfdghdgaaDoor

namespace Go.Proofs.YtpcmcopfdghdgaaDoor
open Go

/-- No NaN, and no minus sign. -/
def pos32 (x : Nat) : Bool := match Ieee.single.read x with | .number s _ _ => !s | .infinity s => !s | .nan _ _ => false

theorem pos_fin {x : Nat} (h : pos32 x = true) : fin32 x = true := by
  unfold pos32 at h
  unfold fin32
  cases hr : Ieee.single.read x with
  | number s m e => rfl
  | infinity s => rfl
  | nan s f => rw [hr] at h; cases h

theorem pos_word (k : Nat) (h : k ≤ Ieee.single.infRung) : pos32 (Ieee.single.word false k) = true := by
  have hi : Ieee.single.infRung = 2139095040 := by decide
  have hw : Ieee.single.signWeight = 2147483648 := by decide
  rw [hi] at h
  unfold pos32 Ieee.Format.read Ieee.Format.word
  simp only [hi, hw, Bool.false_eq_true, if_false]
  have hk : k % 2147483648 = k := Nat.mod_eq_of_lt (by omega)
  have hd : k / 2147483648 = 0 := Nat.div_eq_of_lt (by omega)
  rw [hk, hd]
  by_cases c1 : k < Ieee.single.binade
  · rw [if_pos c1]; rfl
  · rw [if_neg c1]
    by_cases c2 : k < 2139095040
    · rw [if_pos c2]; rfl
    · rw [if_neg c2, if_pos (by omega)]; rfl

theorem pos_nearest (m : Nat) (e : Int) : pos32 (Ieee.single.nearest false m e) = true := by
  unfold Ieee.Format.nearest
  split
  · exact pos_word 0 (Nat.zero_le _)
  · exact pos_word _ (Nat.min_le_right _ _)

theorem signed_nonneg (m u : Nat) : 0 ≤ Ieee.signed false m u := by
  unfold Ieee.signed
  rw [if_neg (by decide)]
  exact Int.natCast_nonneg _

/-- A sum of such numbers is made without a draw, and is one again. -/
theorem add_ok {x y : Nat} (hx : pos32 x = true) (hy : pos32 y = true) : floatBits .add .f32 x y = some (fadd x y) ∧ pos32 (fadd x y) = true := by
  suffices h : ∃ d, (Ieee.single.read x).sum (Ieee.single.read y) = some d ∧ pos32 (Ieee.single.write d) = true by
    obtain ⟨d, h1, h2⟩ := h
    have h3 : Ieee.single.add x y = some (Ieee.single.write d) := by unfold Ieee.Format.add; rw [h1]; rfl
    have e1 : fadd x y = Ieee.single.write d := by unfold fadd; rw [h3]; rfl
    rw [e1]; exact ⟨h3, h2⟩
  unfold pos32 at hx hy
  cases hr : Ieee.single.read x with
  | nan s f => rw [hr] at hx; cases hx
  | infinity s =>
    rw [hr] at hx
    cases s
    · cases hq : Ieee.single.read y with
      | nan t f => rw [hq] at hy; cases hy
      | infinity t =>
        rw [hq] at hy
        cases t
        · exact ⟨.infinity false, rfl, by decide⟩
        · cases hy
      | number t n j => exact ⟨.infinity false, rfl, by decide⟩
    · cases hx
  | number s m e =>
    rw [hr] at hx
    cases s
    · cases hq : Ieee.single.read y with
      | nan t f => rw [hq] at hy; cases hy
      | infinity t =>
        rw [hq] at hy
        cases t
        · exact ⟨.infinity false, rfl, by decide⟩
        · cases hy
      | number t n j =>
        rw [hq] at hy
        cases t
        · refine ⟨_, rfl, ?_⟩
          have h1 := signed_nonneg m (e - min e j).toNat
          have h2 := signed_nonneg n (j - min e j).toNat
          have h3 : 0 ≤ Ieee.signed false m (e - min e j).toNat + Ieee.signed false n (j - min e j).toNat := Int.add_nonneg h1 h2
          generalize Ieee.signed false m (e - min e j).toNat + Ieee.signed false n (j - min e j).toNat = tot at h3 ⊢
          have hneg : (if tot = 0 then (false && false) else decide (tot < 0)) = false := by
            split
            · rfl
            · exact decide_eq_false (by omega)
          rw [hneg]
          exact pos_nearest _ _
        · cases hy
    · cases hx

/-- The sum of the first numbers of a row, beginning with 0. -/
def sumTo (f : Nat → Nat) (k : Nat) : Nat := (List.range k).foldl (fun s h => fadd s (f h)) 0
theorem sumTo_succ (f : Nat → Nat) (k : Nat) : sumTo f (k + 1) = fadd (sumTo f k) (f k) := by
  simp [sumTo, List.range_succ]
theorem sumTo_pos (f : Nat → Nat) (n : Nat) (hf : ∀ k, k < n → pos32 (f k) = true) : ∀ k, k ≤ n → pos32 (sumTo f k) = true
  | 0, _ => by show pos32 0 = true; decide
  | k + 1, h => by rw [sumTo_succ]; exact (add_ok (sumTo_pos f n hf k (by omega)) (hf k (by omega))).2

theorem sineB_pos_nat : ∀ n : Nat, n < 65 → pos32 (sineB (n : Int)) = true := by decide +kernel
theorem groundB_pos (x : Int) (h : x ≤ 64) : pos32 (groundB x) = true := by
  unfold groundB
  split
  · rename_i h0
    obtain ⟨n, rfl⟩ := Int.eq_ofNat_of_zero_le (by omega : 0 ≤ x)
    exact sineB_pos_nat n (by omega)
  · decide

theorem litB_pos (l : Nat) : pos32 (litB l) = true := by
  unfold litB
  split
  · rename_i h
    have h' : (Ieee.single.read l).order (Ieee.single.read 0) = some .gt := h
    have hz : Ieee.single.read 0 = .number false 0 (-149) := by decide
    rw [hz] at h'
    unfold pos32
    cases hr : Ieee.single.read l with
    | nan s f => rw [hr] at h'; cases h'
    | infinity s => rw [hr] at h'; cases s <;> first | rfl | (simp [Ieee.Datum.order] at h')
    | number s m e =>
      rw [hr] at h'
      cases s
      · rfl
      · exfalso
        simp only [Ieee.Datum.order, Option.some.injEq] at h'
        have h1 : Ieee.signed true m (e - min e (-149)).toNat ≤ 0 := by
          unfold Ieee.signed
          rw [if_pos rfl]
          exact Int.neg_nonpos_of_nonneg (Int.natCast_nonneg _)
        have h2 : Ieee.signed false 0 ((-149 : Int) - min e (-149)).toNat = 0 := by simp [Ieee.signed]
        rw [h2] at h'
        have := Int.compare_eq_gt.1 h'
        omega
  · decide
theorem fallB_pos (x d : Int) : pos32 (fallB x d) = true := by
  unfold fallB
  split
  · exact litB_pos _
  · decide

end Go.Proofs.YtpcmcopfdghdgaaDoor

namespace Go.Proofs.YtpcmcopfdghdgaaDoor
open Go

theorem word_true (k : Nat) : Ieee.single.word true k = 2147483648 + Ieee.single.word false k := by
  unfold Ieee.Format.word
  have hw : Ieee.single.signWeight = 2147483648 := by decide
  simp [hw]
theorem nearest_true (m : Nat) (e : Int) : Ieee.single.nearest true m e = 2147483648 + Ieee.single.nearest false m e := by
  unfold Ieee.Format.nearest
  split
  · exact word_true _
  · exact word_true _
theorem cosB_pos_nat : ∀ n : Nat, n < 65 → cosB (n : Int) ≤ 1065353216 := by decide +kernel
theorem sineB_sgn_nat : ∀ n : Nat, n < 256 → sineB (n : Int) ≤ 1065353216 ∨ (2147483648 ≤ sineB (n : Int) ∧ sineB (n : Int) ≤ 2147483648 + 1065353216) := by decide +kernel
theorem cosB_sgn (a : Int) : cosB a ≤ 1065353216 ∨ (2147483648 ≤ cosB a ∧ cosB a ≤ 2147483648 + 1065353216) := by
  unfold cosB
  have h0 := angB_lo (a + 64)
  have h1 := angB_hi (a + 64)
  generalize angB (a + 64) = n at *
  obtain ⟨m, rfl⟩ := Int.eq_ofNat_of_zero_le h0
  exact sineB_sgn_nat m (by omega)
theorem read_neg_same {x : Nat} (hx : x < 2139095040) {m : Nat} {e : Int} (h : Ieee.single.read x = .number false m e) : Ieee.single.read (2147483648 + x) = .number true m e := by
  unfold Ieee.Format.read at h ⊢
  have hw : Ieee.single.signWeight = 2147483648 := by decide
  have hbi : Ieee.single.binade = 8388608 := by decide
  have hir : Ieee.single.infRung = 2139095040 := by decide
  simp only [hw, hbi, hir] at h ⊢
  have e1 : x % 2147483648 = x := Nat.mod_eq_of_lt (by omega)
  have e2 : (2147483648 + x) % 2147483648 = x := by omega
  rw [e1] at h
  rw [e2]
  have e3 : ¬ (2147483648 ≤ x) := by omega
  have e4 : 2147483648 ≤ 2147483648 + x := by omega
  by_cases h1 : x < 8388608
  · simp_all
    omega
  · have h2 : x < 2139095040 := hx
    simp_all
    rw [if_neg (by omega)]
    have h5 : (x / 2147483648 + 1) % 2 = 1 := by omega
    rw [h5]
    rfl
theorem fall_num (x d : Int) (h0 : 0 < x) (h1 : x ≤ 64) : num32 (fallB x d) = true := by
  unfold fallB
  rw [if_pos h0]
  have hl : num32 (fmul (cosB x) (cosB d)) = true := by
    obtain ⟨n, rfl⟩ := Int.eq_ofNat_of_zero_le (by omega : 0 ≤ x)
    have ha := cosB_pos_nat n (by omega)
    generalize cosB (n : Int) = a at *
    rcases cosB_sgn d with hb | ⟨hb0, hb1⟩
    · exact num_of_isNum (.inl (Nat.lt_of_le_of_lt (mul_le_one (x := a) (y := cosB d) (by omega) hb) (by omega)))
    · obtain ⟨b, hb⟩ : ∃ b, cosB d = 2147483648 + b := ⟨cosB d - 2147483648, by omega⟩
      rw [hb]
      have hbl : b ≤ 1065353216 := by omega
      obtain ⟨m, i, hm, _⟩ := read_pos (x := a) (by omega)
      obtain ⟨k, j, hk, _⟩ := read_pos (x := b) (by omega)
      have hk' := read_neg_same (x := b) (by omega) hk
      have e1 : fmul a b = Ieee.single.write (.number (false ^^ false) (m * k) (-149 + (i : Int) + (-149 + (j : Int)))) := by
        have h : Ieee.single.mul a b = some (Ieee.single.write (.number (false ^^ false) (m * k) (-149 + (i : Int) + (-149 + (j : Int))))) := by
          unfold Ieee.Format.mul
          rw [hm, hk]; rfl
        unfold fmul; rw [h]; rfl
      have e2 : fmul a (2147483648 + b) = Ieee.single.write (.number (false ^^ true) (m * k) (-149 + (i : Int) + (-149 + (j : Int)))) := by
        have h : Ieee.single.mul a (2147483648 + b) = some (Ieee.single.write (.number (false ^^ true) (m * k) (-149 + (i : Int) + (-149 + (j : Int))))) := by
          unfold Ieee.Format.mul
          rw [hm, hk']; rfl
        unfold fmul; rw [h]; rfl
      have e3 : fmul a (2147483648 + b) = 2147483648 + fmul a b := by
        rw [e1, e2]
        exact nearest_true _ _
      have h2 := mul_le_one (x := a) (y := b) (by omega) hbl
      rw [e3]
      exact num_of_isNum (.inr ⟨by omega, by omega⟩)
  unfold litB
  split
  · exact hl
  · decide

theorem fmul_zero {a : Nat} (ha : a < 2139095040) : fmul a 0 = 0 := rnd_exact (mul_rnd ha (y := 0) (by decide)).2 (by decide) (Nat.two_pow_pos _) (by rw [rv_zero]; simp)
theorem zero_fmul {a : Nat} (ha : a < 2139095040) : fmul 0 a = 0 := rnd_exact (mul_rnd (x := 0) (by decide) ha).2 (by decide) (Nat.two_pow_pos _) (by rw [rv_zero]; simp)
theorem mul_negR {a b : Nat} (ha : a < 2139095040) (hb : b < 2139095040) : fmul a (2147483648 + b) = 2147483648 + fmul a b := by
  obtain ⟨m, i, hm, _⟩ := read_pos (x := a) ha
  obtain ⟨k, j, hk, _⟩ := read_pos (x := b) hb
  have hk' := read_neg_same (x := b) hb hk
  have e1 : fmul a b = Ieee.single.write (.number (false ^^ false) (m * k) (-149 + (i : Int) + (-149 + (j : Int)))) := by
    have h : Ieee.single.mul a b = some (Ieee.single.write (.number (false ^^ false) (m * k) (-149 + (i : Int) + (-149 + (j : Int))))) := by
      unfold Ieee.Format.mul
      rw [hm, hk]; rfl
    unfold fmul; rw [h]; rfl
  have e2 : fmul a (2147483648 + b) = Ieee.single.write (.number (false ^^ true) (m * k) (-149 + (i : Int) + (-149 + (j : Int)))) := by
    have h : Ieee.single.mul a (2147483648 + b) = some (Ieee.single.write (.number (false ^^ true) (m * k) (-149 + (i : Int) + (-149 + (j : Int))))) := by
      unfold Ieee.Format.mul
      rw [hm, hk']; rfl
    unfold fmul; rw [h]; rfl
  rw [e1, e2]
  exact nearest_true _ _

theorem litB_word {p : Nat} (h0 : 0 < p) (h1 : p < 2139095040) : litB p = p := by
  unfold litB
  rw [order_pos h1 (by decide), if_pos]
  rw [Nat.compare_eq_gt.2 h0]
theorem litB_zero : litB 0 = 0 := by decide +kernel
theorem litB_under {r : Nat} (h : r < 2139095040) : litB (2147483648 + r) = 0 := by
  unfold litB
  rw [order_num (.inr ⟨by omega, by omega⟩) (.inl (by decide)), if_neg]
  intro h1
  injection h1 with h1
  have h2 := Int.compare_eq_gt.1 h1
  have h3 := sv_neg_le r
  have h4 : sv 0 = 0 := rfl
  omega

theorem sine_step_nat : ∀ n : Nat, n < 256 → sineB (n : Int) = 0 ∨ (1019794704 ≤ sineB (n : Int) ∧ sineB (n : Int) ≤ 1065353216) ∨ (2147483648 ≤ sineB (n : Int) ∧ sineB (n : Int) ≤ 2147483648 + 1065353216) := by decide +kernel
theorem cos_step (a : Int) : cosB a = 0 ∨ (1019794704 ≤ cosB a ∧ cosB a ≤ 1065353216) ∨ (2147483648 ≤ cosB a ∧ cosB a ≤ 2147483648 + 1065353216) := by
  unfold cosB
  have h0 := angB_lo (a + 64)
  have h1 := angB_hi (a + 64)
  generalize angB (a + 64) = n at *
  obtain ⟨m, rfl⟩ := Int.eq_ofNat_of_zero_le h0
  exact sine_step_nat m (by omega)
theorem least_light : fmul 1019794704 1019794704 = 975015322 := by decide +kernel

/-- Light on a window is 0, or not next to it, and at most 1. -/
theorem fall_rng (x d : Int) (h0 : 0 < x) (h1 : x ≤ 64) : fallB x d = 0 ∨ (975015322 ≤ fallB x d ∧ fallB x d ≤ 1065353216) := by
  unfold fallB
  rw [if_pos h0]
  have ha := cos_step x
  have hc : cosB x ≤ 1065353216 := by
    obtain ⟨n, rfl⟩ := Int.eq_ofNat_of_zero_le (by omega : 0 ≤ x)
    exact cosB_pos_nat n (by omega)
  have hb := cos_step d
  generalize cosB x = a at *
  generalize cosB d = b at *
  rcases hb with rfl | ⟨b0, b1⟩ | ⟨b0, b1⟩
  · rw [fmul_zero (by omega), litB_zero]; exact .inl rfl
  · rcases ha with rfl | ⟨a0, a1⟩ | ⟨a0, a1⟩
    · rw [zero_fmul (by omega), litB_zero]; exact .inl rfl
    · have m1 := mul_mono (x := 1019794704) (X := a) (y := 1019794704) (Y := b) (by omega) (by omega) a0 b0
      have m2 := mul_le_one (x := a) (y := b) (by omega) b1
      rw [least_light] at m1
      rw [litB_word (by omega) (by omega)]
      exact .inr ⟨m1, by omega⟩
    · omega
  · obtain ⟨c, rfl⟩ : ∃ c, b = 2147483648 + c := ⟨b - 2147483648, by omega⟩
    have m2 := mul_le_one (x := a) (y := c) (by omega) (by omega)
    rw [mul_negR (by omega) (by omega), litB_under (by omega)]
    exact .inl rfl

theorem pos_of_lt {x : Nat} (h : x < 2139095040) : pos32 x = true := by
  obtain ⟨m, i, hr, _⟩ := read_pos h
  unfold pos32
  rw [hr]; rfl

end Go.Proofs.YtpcmcopfdghdgaaDoor

namespace Go.Proofs.YtpcmcopfdghdgaaDoor
open Go

/-- How far the shade reaches, what that is of the window, and what is shaded. -/
def ratB (x : Int) (f : Nat) : Nat := fdiv (sineB x) f
def depB (o dr : Nat) (x : Int) (f : Nat) : Nat := fadd (fmul o (ratB x f)) dr
def quoA (o dr gp tl : Nat) (x : Int) (f : Nat) : Nat := fdiv (fsub (depB o dr x f) gp) tl
def cutB (q : Nat) : Nat := if FloatKind.f32.format.order q 0 = some .gt then (if FloatKind.f32.format.order q 1065353216 = some .gt then 1065353216 else q) else 0
def shB (o dr gp tl : Nat) (x : Int) (f : Nat) : Nat := if f = 0 then 0 else cutB (quoA o dr gp tl x f)
/-- The light behind an awning. -/
def behB (f p : Nat) : Nat := fsub f (fmul f p)

theorem neg0_add {x : Nat} (hx : x < 2139095040) : floatBits .add .f32 2147483648 x = some x := by
  obtain ⟨m, i, hr, hm⟩ := read_pos hx
  have hz : Ieee.single.read 2147483648 = .number true 0 (-149) := by decide +kernel
  show Ieee.single.add 2147483648 x = _
  unfold Ieee.Format.add
  rw [hr, hz]
  have e0 : min (-149) (-149 + (i : Int)) = -149 := by omega
  have e2 : (-149 + (i : Int) - (-149 : Int)).toNat = i := by omega
  have e4 : Ieee.signed true 0 (-149 - (-149 : Int)).toNat = 0 := by decide
  simp only [Ieee.Datum.sum, Option.map_some, Ieee.Format.write, e0, e2, e4, signed_false, Int.zero_add, Int.natAbs_natCast]
  have e5 : (if ((m * 2 ^ i : Nat) : Int) = 0 then (true && false) else decide (((m * 2 ^ i : Nat) : Int) < 0)) = false := by
    split
    · rfl
    · exact decide_eq_false (by omega)
  rw [e5]
  have hR := nearest_rnd (m * 2 ^ i) (-149) 0 0 (by omega)
  rw [hm] at hR ⊢
  rw [rnd_exact hR (r := x) (by omega) (by decide) rfl]

/-- A sum of two numbers that are not less than 0, or -0. -/
theorem addz {x y X Y : Nat} (hX : X < 2139095040) (hY : Y < 2139095040) (hx : x ≤ X ∨ x = 2147483648) (hy : y ≤ Y ∨ y = 2147483648) :
    floatBits .add .f32 x y = some (fadd x y) ∧ (fadd x y ≤ fadd X Y ∨ fadd x y = 2147483648) := by
  rcases hx with hx | rfl
  · rcases hy with hy | rfl
    · exact ⟨(add_rnd (by omega) (by omega)).1, .inl (add_mono hX hY hx hy)⟩
    · have h := add_neg0 (x := x) (by omega)
      rw [fadd_get h]
      refine ⟨h, .inl ?_⟩
      have m := add_mono (x := x) (X := X) (y := 0) (Y := Y) hX hY hx (Nat.zero_le _)
      have e : fadd x 0 = x := rnd_exact (add_rnd (x := x) (y := 0) (by omega) (by decide)).2 (by omega) (by decide) (by rw [rv_zero]; omega)
      omega
  · rcases hy with hy | rfl
    · have h := neg0_add (x := y) (by omega)
      rw [fadd_get h]
      refine ⟨h, .inl ?_⟩
      have m := add_mono (x := 0) (X := X) (y := y) (Y := Y) hX hY (Nat.zero_le _) hy
      have e : fadd 0 y = y := rnd_exact (add_rnd (x := 0) (y := y) (by decide) (by omega)).2 (by omega) (by decide) (by rw [rv_zero]; omega)
      omega
    · have h : floatBits .add .f32 2147483648 2147483648 = some 2147483648 := by decide +kernel
      rw [fadd_get h]
      exact ⟨h, .inr rfl⟩

theorem div_ok {x y : Nat} (hx : num32 x = true) (hy0 : 0 < y) (hy : y < 2139095040) : floatBits .quo .f32 x y = some (fdiv x y) ∧ fin32 (fdiv x y) = true := by
  obtain ⟨s, m, e, hr⟩ := num32_get hx
  obtain ⟨n, j, hq, hn⟩ := read_pos hy
  have hn0 : n ≠ 0 := by
    intro h; rw [h, Nat.zero_mul] at hn; have := rv_pos hy0; omega
  have h : ∃ d : Ieee.Datum, d.isNaN = false ∧ Ieee.single.div x y = some (Ieee.single.write d) := by
    unfold Ieee.Format.div
    rw [hr, hq]
    simp only [Ieee.Datum.quotient, if_neg hn0, Option.map_some]
    exact ⟨_, rfl, rfl⟩
  obtain ⟨d, hd, h⟩ := h
  have e1 : fdiv x y = Ieee.single.write d := by unfold fdiv; rw [h]; rfl
  rw [e1]
  exact ⟨h, write_fin _ hd⟩

theorem sine_high_nat : ∀ n : Nat, n < 65 → sineB (n : Int) ≤ 1065353216 := by decide +kernel

theorem sv_small {x B : Nat} (h : x ≤ B ∨ x = 2147483648) (hB : B < 2147483648) : (sv x).natAbs ≤ rv B := by
  rcases h with h | rfl
  · rw [sv_pos (by omega)]
    have := rv_le h
    omega
  · have : sv 2147483648 = 0 := by decide +kernel
    rw [this]; exact Nat.zero_le _
theorem isNum_small {x B : Nat} (h : x ≤ B ∨ x = 2147483648) (hB : B < 2139095040) : isNum x := by
  rcases h with h | rfl
  · exact .inl (by omega)
  · exact .inr ⟨by decide, by decide⟩

theorem shade_facts {o dr gp tl : Nat} (ho : o ≤ 1090519040 ∨ o = 2147483648) (hd : dr ≤ 1073741824 ∨ dr = 2147483648) (hg : gp ≤ 1073741824 ∨ gp = 2147483648) (t0 : 1040187392 ≤ tl) (t1 : tl ≤ 1082130432)
    {x : Int} (x0 : 0 < x) (x1 : x ≤ 64) {f : Nat} (f0 : 975015322 ≤ f) (f1 : f ≤ 1065353216) :
    floatBits .quo .f32 (sineB x) f = some (ratB x f) ∧ floatBits .mul .f32 o (ratB x f) = some (fmul o (ratB x f)) ∧ floatBits .add .f32 (fmul o (ratB x f)) dr = some (depB o dr x f) ∧
    floatBits .sub .f32 (depB o dr x f) gp = some (fsub (depB o dr x f) gp) ∧ floatBits .quo .f32 (fsub (depB o dr x f) gp) tl = some (quoA o dr gp tl x f) ∧ fin32 (quoA o dr gp tl x f) = true := by
  have hs : sineB x ≤ 1065353216 := by
    obtain ⟨n, rfl⟩ := Int.eq_ofNat_of_zero_le (by omega : 0 ≤ x)
    exact sine_high_nat n (by omega)
  have r1 := div_rnd (x := sineB x) (y := f) (by omega) (by omega) (by omega)
  have r2 := div_mono (x := sineB x) (X := 1065353216) (y := f) (Y := 975015322) (by decide) (by omega) (by decide) hs f0
  have e1 : fdiv 1065353216 975015322 = 1154480907 := by decide +kernel
  rw [e1] at r2
  have hp : floatBits .mul .f32 o (ratB x f) = some (fmul o (ratB x f)) ∧ (fmul o (ratB x f) ≤ 1179646731 ∨ fmul o (ratB x f) = 2147483648) := by
    have hr : ratB x f ≤ 1154480907 := r2
    rcases ho with ho | rfl
    · have m := mul_mono (x := o) (X := 1090519040) (y := ratB x f) (Y := 1154480907) (by decide) (by decide) ho hr
      have e2 : fmul 1090519040 1154480907 = 1179646731 := by decide +kernel
      rw [e2] at m
      exact ⟨(mul_rnd (by omega) (by omega)).1, .inl m⟩
    · have h := (mul_neg0 (x := ratB x f) (by omega)).2
      rw [fmul_get h]
      exact ⟨h, .inr rfl⟩
  have ha := addz (X := 1179646731) (Y := 1073741824) (by decide) (by decide) hp.2 hd
  have e3 : fadd 1179646731 1073741824 = 1179648779 := by decide +kernel
  rw [e3] at ha
  have hdep : depB o dr x f ≤ 1179648779 ∨ depB o dr x f = 2147483648 := ha.2
  have hg' : gp ≤ 1179648779 ∨ gp = 2147483648 := hg.imp (fun h => by omega) id
  have hsub := sub_num (x := depB o dr x f) (y := gp) (B := 1179648779) (C := 1188037387) (isNum_small hdep (by decide)) (isNum_small hg' (by decide)) (sv_small hdep (by decide)) (sv_small hg' (by decide)) (by decide +kernel) (by decide)
  have hq := div_ok (x := fsub (depB o dr x f) gp) (y := tl) (num_of_isNum hsub.2) (by omega) (by omega)
  exact ⟨r1.1, hp.1, ha.1, hsub.1, hq.1, hq.2⟩

theorem cutB_le {q : Nat} (hq : q < 4294967296) : cutB q ≤ 1065353216 := by
  unfold cutB
  by_cases h0 : FloatKind.f32.format.order q 0 = some .gt
  · rw [if_pos h0]
    by_cases h1 : FloatKind.f32.format.order q 1065353216 = some .gt
    · rw [if_pos h1]; exact Nat.le_refl _
    · rw [if_neg h1]
      rcases word_cases q hq with c | c | c | c
      · rw [order_num c (.inl (by decide))] at h0 h1
        injection h0 with h0
        have k0 := Int.compare_eq_gt.1 h0
        have k1 : ¬ (sv q > sv 1065353216) := fun h => h1 (by rw [Int.compare_eq_gt.2 h])
        have e0 : sv 0 = 0 := rfl
        rw [e0] at k0
        rw [sv_pos (x := 1065353216) (by decide)] at k1
        rcases c with c | ⟨c0, c1⟩
        · rw [sv_pos (x := q) (by omega)] at k1
          rw [← rv_le_iff]
          omega
        · obtain ⟨r, rfl⟩ : ∃ r, q = 2147483648 + r := ⟨q - 2147483648, by omega⟩
          have := sv_neg_le r
          omega
      · subst c
        exact absurd (inf_order 1065353216 (.inl (by decide))).1 h1
      · subst c
        rw [(inf_order 0 (.inl (by decide))).2] at h0
        cases h0
      · rw [nan_order c] at h0
        cases h0
  · rw [if_neg h0]; decide

theorem quoA_lt {o dr gp tl : Nat} {x : Int} {f : Nat} (h : floatBits .quo .f32 (fsub (depB o dr x f) gp) tl = some (quoA o dr gp tl x f)) : quoA o dr gp tl x f < 4294967296 := by
  have := floatBits_wf h
  simpa [Lit.wf] using this

theorem beh_facts {f p : Nat} (f1 : f ≤ 1065353216) (p1 : p ≤ 1065353216) :
    floatBits .mul .f32 f p = some (fmul f p) ∧ floatBits .sub .f32 f (fmul f p) = some (behB f p) ∧ behB f p ≤ f := by
  have m := mul_le_one (x := f) (y := p) (by omega) p1
  refine ⟨(mul_rnd (by omega) (by omega)).1, (sub_rnd (by omega) m).1, ?_⟩
  exact rnd_le (sub_rnd (x := f) (y := fmul f p) (by omega) m).2 (by decide) (by omega)

end Go.Proofs.YtpcmcopfdghdgaaDoor

namespace Go.Proofs.YtpcmcopfdghdgaaDoor
open Go.RowKit

def inB (n lo hi : Int) : Bool := decide (lo ≤ n) && decide (n ≤ hi)

theorem inB_true {n lo hi : Int} (h : inB n lo hi = true) : lo ≤ n ∧ n ≤ hi := by simpa [inB] using h

theorem inB_mk {n lo hi : Int} (h : lo ≤ n ∧ n ≤ hi) : inB n lo hi = true := by simpa [inB] using h

theorem inB_no {n lo hi : Int} (h : ¬ (lo ≤ n ∧ n ≤ hi)) : inB n lo hi = false := by
  cases e : inB n lo hi
  · rfl
  · exact absurd (inB_true e) h

set_option maxHeartbeats 400000 in
theorem l00In_any (n lo hi : Int) (w : World) :
    Calls Tryd.prog 55 #[.int .i64 n, .int .i64 lo, .int .i64 hi] w fun e w' => e = .returned (.bool (inB n lo hi)) ∧ w = w' := by
  unfold inB
  by_cases h1 : lo ≤ n
  · have h1' : decide (lo ≤ n) = true := decide_eq_true h1
    go_enter Tryd.func55, Tryd.ntmps55
    go_wp2
    go_ret
    rw [h1', Bool.true_and]
    exact ⟨rfl, rfl⟩
  · have h1' : decide (lo ≤ n) = false := decide_eq_false h1
    go_enter Tryd.func55, Tryd.ntmps55
    go_wp2
    go_ret
    exact ⟨by simp, rfl⟩

set_option maxHeartbeats 400000 in
theorem l01Height_any (n : Int) (w : World) :
    Calls Tryd.prog 57 #[.int .i64 n] w fun e w' => e = .returned (.bool (inB n (-64) 64)) ∧ w = w' := by
  go_enter Tryd.func57, Tryd.ntmps57
  go_wp2_with (go_at_call 55; refine (l00In_any _ _ _ _).mono ?_; rintro e w' ⟨rfl, rfl⟩)
  go_ret
  exact ⟨rfl, rfl⟩

set_option maxHeartbeats 400000 in
theorem l01Faced_any (n : Int) (w : World) :
    Calls Tryd.prog 29 #[.int .i64 n] w fun e w' => e = .returned (.bool (inB n 0 255)) ∧ w = w' := by
  go_enter Tryd.func29, Tryd.ntmps29
  go_wp2_with (go_at_call 55; refine (l00In_any _ _ _ _).mono ?_; rintro e w' ⟨rfl, rfl⟩)
  go_ret
  exact ⟨rfl, rfl⟩

set_option maxHeartbeats 400000 in
theorem l01Hour_any (n : Int) (w : World) :
    Calls Tryd.prog 28 #[.int .i64 n] w fun e w' => e = .returned (.bool (inB n 0 23)) ∧ w = w' := by
  go_enter Tryd.func28, Tryd.ntmps28
  go_wp2_with (go_at_call 55; refine (l00In_any _ _ _ _).mono ?_; rintro e w' ⟨rfl, rfl⟩)
  go_ret
  exact ⟨rfl, rfl⟩

/-- A sun is valid. -/
def okB (hs ts : List Int) : Bool := hs.all (fun x => inB x (-64) 64) && ts.all (fun x => inB x 0 255)

theorem all_get {p : Int → Bool} {xs : List Int} (n : Nat) (hx : xs.length = n) : xs.all p = true ↔ ∀ k, k < n → p (xs[k]?.getD 0) = true := by
  rw [List.all_eq_true]
  constructor
  · intro h k hk
    rw [List.getElem?_eq_getElem (by omega)]
    exact h _ (List.getElem_mem _)
  · intro h x hm
    obtain ⟨k, hk, rfl⟩ := List.mem_iff_getElem.1 hm
    have := h k (by omega)
    rwa [List.getElem?_eq_getElem hk] at this

theorem okB_iff (hs ts : List Int) (hh : hs.length = 24) (ht : ts.length = 24) : okB hs ts = true ↔ ∀ k, k < 24 → inB (hs[k]?.getD 0) (-64) 64 = true ∧ inB (ts[k]?.getD 0) 0 255 = true := by
  unfold okB
  rw [Bool.and_eq_true, all_get 24 hh, all_get 24 ht]
  constructor
  · intro h k hk; exact ⟨h.1 k hk, h.2 k hk⟩
  · intro h; exact ⟨fun k hk => (h k hk).1, fun k hk => (h k hk).2⟩

theorem okB_false {hs ts : List Int} (hh : hs.length = 24) (ht : ts.length = 24) (k : Nat) (hk : k < 24) (h : inB (hs[k]?.getD 0) (-64) 64 = false ∨ inB (ts[k]?.getD 0) 0 255 = false) : okB hs ts = false := by
  cases e : okB hs ts
  · rfl
  · obtain ⟨h1, h2⟩ := (okB_iff hs ts hh ht).1 e k hk
    rcases h with h | h
    · rw [h] at h1; cases h1
    · rw [h] at h2; cases h2

theorem cell_sun_h {w : World} {b : Nat} {hs ts : List Int} {t : TypeId} {fr : Nat × Nat} (hg : w.heap[b]? = some (.cells (sunC hs ts) t fr)) (hh : hs.length = 24) (k : Nat) (hk : k < 24) :
    w.cell? ⟨b, k, none⟩ = some (.int .i16 (hs[k]?.getD 0)) := by
  rw [cell_of_row w b k _ t fr hg, sunC, i16s_get _ _ (by simp; omega), List.getElem?_append_left (by omega)]

theorem cell_sun_t {w : World} {b : Nat} {hs ts : List Int} {t : TypeId} {fr : Nat × Nat} (hg : w.heap[b]? = some (.cells (sunC hs ts) t fr)) (hh : hs.length = 24) (ht : ts.length = 24) (k : Nat) (hk : k < 24) :
    w.cell? ⟨b, 24 + k, none⟩ = some (.int .i16 (ts[k]?.getD 0)) := by
  rw [cell_of_row w b (24 + k) _ t fr hg, sunC, i16s_get _ _ (by simp; omega), List.getElem?_append_right (by omega)]
  congr 4; omega

theorem rb_get {xs : List Int} (h : ∀ x ∈ xs, -32768 ≤ x ∧ x ≤ 32767) (k : Nat) : -32768 ≤ xs[k]?.getD 0 ∧ xs[k]?.getD 0 ≤ 32767 := by
  by_cases hk : k < xs.length
  · have e : xs[k]? = some xs[k] := List.getElem?_eq_getElem hk
    rw [e]; exact h _ (List.getElem_mem _)
  · rw [List.getElem?_eq_none (by omega)]; decide

set_option maxRecDepth 100000 in
set_option maxHeartbeats 1000000 in
theorem l01Ok_any (b : Nat) (hs ts : List Int) (hh : hs.length = 24) (ht : ts.length = 24) (rb : ∀ x ∈ hs ++ ts, -32768 ≤ x ∧ x ≤ 32767) (t : TypeId) (fr : Nat × Nat) (w : World) (hg : w.heap[b]? = some (.cells (sunC hs ts) t fr)) :
    Calls Tryd.prog 27 #[.pointer (some ⟨b, 0, none⟩)] w fun e w' => e = .returned (.bool (okB hs ts)) ∧ w = w' := by
  have Hh := Lib.hid hh
  have Ht := Lib.hid ht
  have Hg := Lib.hid hg
  have Rb := Lib.hid rb
  clear hh ht hg rb
  go_enter Tryd.func27, Tryd.ntmps27
  go_wp2
  go_loop [3] (fun i => ∃ k : Nat, k ≤ 24 ∧ i = .int .i64 k ∧ Hid (∀ j, j < k → inB (hs[j]?.getD 0) (-64) 64 = true ∧ inB (ts[j]?.getD 0) 0 255 = true)) (fun i => 24 - (intOf i).toNat)
  case atStart => exact ⟨0, Nat.zero_le _, rfl, Lib.hid (fun j h => absurd h (by omega))⟩
  case round =>
    obtain ⟨k, hk, rfl, hj⟩ := hrel
    by_cases hlt : k < 24
    · have c0 := cell_sun_h Hg.out Hh.out k hlt
      have c1 := cell_sun_t Hg.out Hh.out Ht.out k hlt
      have hxb := rb_get (fun x hx => Rb.out x (List.mem_append_left ts hx)) k
      have hyb := rb_get (fun x hx => Rb.out x (List.mem_append_right hs hx)) k
      generalize hA : hs[k]?.getD 0 = x at *
      generalize hB : ts[k]?.getD 0 = y at *
      have HA := Lib.hid hA
      have HB := Lib.hid hB
      clear hA hB
      obtain ⟨hx0, hx1⟩ := hxb
      obtain ⟨hy0, hy1⟩ := hyb
      by_cases h1 : inB x (-64) 64 = true
      · by_cases h2 : inB y 0 255 = true
        · go_wp2_with (first | (go_at_call 57; refine (l01Height_any _ _).mono ?_; rintro e w' ⟨rfl, rfl⟩) | (go_at_call 29; refine (l01Faced_any _ _).mono ?_; rintro e w' ⟨rfl, rfl⟩))
          go_round
          case rel =>
            refine ⟨k + 1, by omega, by go_num, Lib.hid fun j hj' => ?_⟩
            by_cases e : j = k
            · subst e; rw [HA.out, HB.out]; exact ⟨h1, h2⟩
            · exact hj.out j (by omega)
          case measure => simp [intOf]; omega
        · have h2' : inB y 0 255 = false := by simpa using h2
          have hno := Lib.hid (okB_false Hh.out Ht.out k hlt (.inr (by rw [HB.out]; exact h2')))
          clear h2
          go_wp2_with (first | (go_at_call 57; refine (l01Height_any _ _).mono ?_; rintro e w' ⟨rfl, rfl⟩) | (go_at_call 29; refine (l01Faced_any _ _).mono ?_; rintro e w' ⟨rfl, rfl⟩))
          go_ret
          rw [hno.out]; exact ⟨rfl, rfl⟩
      · have h1' : inB x (-64) 64 = false := by simpa using h1
        have hno := Lib.hid (okB_false Hh.out Ht.out k hlt (.inl (by rw [HA.out]; exact h1')))
        clear h1
        go_wp2_with (first | (go_at_call 57; refine (l01Height_any _ _).mono ?_; rintro e w' ⟨rfl, rfl⟩) | (go_at_call 29; refine (l01Faced_any _ _).mono ?_; rintro e w' ⟨rfl, rfl⟩))
        go_ret
        rw [hno.out]; exact ⟨rfl, rfl⟩
    · obtain rfl : k = 24 := by omega
      have hyes := Lib.hid ((okB_iff hs ts Hh.out Ht.out).2 hj.out)
      go_wp2
      go_ret
      rw [hyes.out]; exact ⟨rfl, rfl⟩

end Go.Proofs.YtpcmcopfdghdgaaDoor

namespace Go.Proofs.YtpcmcopfdghdgaaDoor
open Go.RowKit

theorem yields_part {P : Program} {ops : Array Oper} {S : World → Prop} {o : Oper} {a : Act} (hw : Region.wanted o (yielded ops a.tmps) = true) (ty : TypeId) (x : Operand) (ho : o.op = .load ty x)
    (g off n : Nat) (hx : a.eval x = .pointer (some ⟨g, off, none⟩)) (t : TypeId) (cs : Array Value) (fr : Nat × Nat) (d : TypeDesc) (hg : ∀ w, S w → w.heap[g]? = some (.cells cs t fr))
    (hu : P.underlying ty = some d) (hd : (match d with | .struct _ | .array _ _ => true | _ => false) = true) (hi : (P.info? ty).map (·.size) = some n) (hn : off + n ≤ cs.size)
    (vs : Array Value) (hvs : cs.extract off (off + n) = vs) : YieldsIf P ops S o (.agg vs) a :=
  .inl ⟨hw, fun w hw' => by
    subst hvs
    unfold execOp
    simp only [ho, hx, Instr.loadAt, Instr.sureAddr, Sem.run_bind, Sem.run_pure, Result.andThen_ok, run_loadVar_part w g off n t ty cs fr d (hg w hw') hu hd hi hn]⟩

theorem take_at {P : Program} {ops : Array Oper} {Q : Exit → Act → World → Prop} {md : Region.Mode} {S : World → Prop} {i d : Nat} {oi : Oper} {v : Value} {fuel : Nat} {listed : Array Bool} {a : Act} {w : World} (hi : ops[i]? = some oi) (hd : oi.dst = some d)
    (hs : Region.noSelect ops = true) (hf : Region.free md ops listed i = true) (hr : (Region.ready md ops listed).contains i = true)
    (hQ : ∀ c a w, Q (.panic c) (a.put oi.dst v) w → Q (.panic c) a w) (hy : YieldsIf P ops S oi v a) (hS : S w)
    (h : wpAnyH P md ops Q S fuel (listed.setIfInBounds i true) { tmps := a.tmps.setIfInBounds d v, defers := a.defers } w) : wpAnyH P md ops Q S (fuel + 1) listed a w :=
  wpAnyH_take hi hs hf hr hQ hy hS (by rw [hd]; exact h)

theorem clamp_eq (lo hi : Int) (h : lo ≤ hi) (y : Int) : clampI lo hi y = y ↔ inB y lo hi = true := by
  unfold clampI
  constructor
  · intro e
    apply inB_mk
    split at e <;> split at e <;> omega
  · intro e
    have := inB_true e
    have e1 : ¬ lo > y := by omega
    rw [if_neg e1, if_neg (by omega)]

theorem map_clamp (lo hi : Int) (h : lo ≤ hi) (xs : List Int) : (xs.map (clampI lo hi) == xs) = xs.all (fun x => inB x lo hi) := by
  rw [Bool.eq_iff_iff, beq_iff_eq, List.all_eq_true]
  induction xs with
  | nil => simp
  | cons x xs ih =>
    simp only [List.map_cons, List.cons.injEq, List.mem_cons, forall_eq_or_imp]
    rw [ih, clamp_eq lo hi h]

set_option maxRecDepth 100000 in
set_option maxHeartbeats 1000000 in
theorem ValidSun_any (hs ts : List Int) (hh : hs.length = 24) (ht : ts.length = 24) (w : World) :
    Calls Tryd.prog 37 #[.agg (sunC hs ts)] w fun e w' => e = .returned (.bool (okB hs ts)) ∧ Below w.heap.size w w' := by
  have hq1 := run_eql_arr (hs.map (clampI (-64) 64)) hs (by simpa using hh) hh
  have hq2 := run_eql_arr (ts.map (clampI 0 255)) ts (by simpa using ht) ht
  rw [map_clamp _ _ (by decide)] at hq1 hq2
  have hgd1 := fun w => run_eqGuard_agg (P := Tryd.prog) w .eql 27 (.tmp 5) (.tmp 7) (i16s (hs.map (clampI (-64) 64))) (i16s hs) (by kernel_rfl)
  have hgd2 := fun w => run_eqGuard_agg (P := Tryd.prog) w .eql 27 (.tmp 12) (.tmp 14) (i16s (ts.map (clampI 0 255))) (i16s ts) (by kernel_rfl)
  have Hh := Lib.hid hh
  have Ht := Lib.hid ht
  clear hh ht
  unfold okB
  by_cases hb : hs.all (fun x => inB x (-64) 64) = true
  · rw [hb] at hq1
    rw [hb]
    go_enter Tryd.func37, Tryd.ntmps37
    go_wp2
    refine wp_region_held_drew (S := (fun W => W.heap[w.heap.size]? = some (.cells (sunC hs ts) 37 (0, 0)) ∧ Below w.heap.size w W)) (by kernel_rfl) ⟨heap_alloc_new _ _, ((Below.refl _ _).alloc (Nat.le_refl _) _).drew⟩ (fun hHeld => ?_)
    refine take_at (i := 0) (d := 3) (v := ?_) rfl rfl (by kernel_rfl) (by kernel_rfl) (by kernel_rfl) (fun _ _ _ h => h) (Or.inl ⟨by rfl, ?hy0u1⟩) hHeld ?rest0u1
    case hy0u1 =>
      intro w' hS'
      go_simp
      try with_reducible rfl
    simp only [List.setIfInBounds_toArray, List.set_cons_zero, List.set_cons_succ]
    refine take_at (i := 1) (d := 4) (v := .agg (i16s hs)) rfl rfl (by kernel_rfl) (by kernel_rfl) (by kernel_rfl) (fun _ _ _ h => h) (yields_part (by rfl) 27 (.tmp 3) (by rfl) w.heap.size 0 24 (by rfl) 37 (sunC hs ts) (0, 0) _ (fun _ h => h.1) Tryd.underlying27 rfl info_arr (by rw [sunC_size _ _ Hh.out Ht.out]; decide) (i16s hs) (sunC_fst _ _ Hh.out)) hHeld ?_
    simp only [List.setIfInBounds_toArray, List.set_cons_zero, List.set_cons_succ]
    refine take_at (i := 3) (d := 6) (v := ?_) rfl rfl (by kernel_rfl) (by kernel_rfl) (by kernel_rfl) (fun _ _ _ h => h) (Or.inl ⟨by rfl, ?hy3u2⟩) hHeld ?rest3u2
    case hy3u2 =>
      intro w' hS'
      go_simp
      try with_reducible rfl
    simp only [List.setIfInBounds_toArray, List.set_cons_zero, List.set_cons_succ]
    refine take_at (i := 4) (d := 7) (v := .agg (i16s hs)) rfl rfl (by kernel_rfl) (by kernel_rfl) (by kernel_rfl) (fun _ _ _ h => h) (yields_part (by rfl) 27 (.tmp 6) (by rfl) w.heap.size 0 24 (by rfl) 37 (sunC hs ts) (0, 0) _ (fun _ h => h.1) Tryd.underlying27 rfl info_arr (by rw [sunC_size _ _ Hh.out Ht.out]; decide) (i16s hs) (sunC_fst _ _ Hh.out)) hHeld ?_
    simp only [List.setIfInBounds_toArray, List.set_cons_zero, List.set_cons_succ]
    refine wpAnyH_ready (rs := [2]) (by kernel_rfl) (by simp) ?_
    refine AllReadyH.cons rfl (fun K hK => ?_) AllReadyH.nil
    go_simp
    refine (held_any hs Hh.out (-64) 64 _).mono ?_
    rintro e W1 ⟨rfl, hb1⟩
    refine hK.out _ _ (⟨below_row hb1 hHeld.1, hHeld.2.trans (hb1.mono hHeld.2.size)⟩) (fun hHeld2 => ?_)
    clear hK K
    replace hHeld := hHeld2
    clear hHeld2
    refine take_at (i := 5) (d := 8) (v := ?_) rfl rfl (by kernel_rfl) (by kernel_rfl) (by kernel_rfl) (fun _ _ _ h => h) (Or.inl ⟨by rfl, ?hy5u3⟩) hHeld ?rest5u3
    case hy5u3 =>
      intro w' hS'
      go_simp
      try with_reducible rfl
    simp only [List.setIfInBounds_toArray, List.set_cons_zero, List.set_cons_succ]
    refine take_at (i := 6) (d := 9) (v := ?_) rfl rfl (by kernel_rfl) (by kernel_rfl) (by kernel_rfl) (fun _ _ _ h => h) (Or.inl ⟨by rfl, ?hy6u4⟩) hHeld ?rest6u4
    case hy6u4 =>
      intro w' hS'
      go_simp
      try with_reducible rfl
    simp only [List.setIfInBounds_toArray, List.set_cons_zero, List.set_cons_succ]
    refine take_at (i := 7) (d := 10) (v := ?_) rfl rfl (by kernel_rfl) (by kernel_rfl) (by kernel_rfl) (fun _ _ _ h => h) (Or.inl ⟨by rfl, ?hy7u5⟩) hHeld ?rest7u5
    case hy7u5 =>
      intro w' hS'
      go_simp
      try with_reducible rfl
    simp only [List.setIfInBounds_toArray, List.set_cons_zero, List.set_cons_succ]
    refine take_at (i := 8) (d := 11) (v := .agg (i16s ts)) rfl rfl (by kernel_rfl) (by kernel_rfl) (by kernel_rfl) (fun _ _ _ h => h) (yields_part (by rfl) 27 (.tmp 10) (by rfl) w.heap.size 24 24 (by rfl) 37 (sunC hs ts) (0, 0) _ (fun _ h => h.1) Tryd.underlying27 rfl info_arr (by rw [sunC_size _ _ Hh.out Ht.out]; decide) (i16s ts) (sunC_snd _ _ Hh.out Ht.out)) hHeld ?_
    simp only [List.setIfInBounds_toArray, List.set_cons_zero, List.set_cons_succ]
    refine take_at (i := 10) (d := 13) (v := ?_) rfl rfl (by kernel_rfl) (by kernel_rfl) (by kernel_rfl) (fun _ _ _ h => h) (Or.inl ⟨by rfl, ?hy10u6⟩) hHeld ?rest10u6
    case hy10u6 =>
      intro w' hS'
      go_simp
      try with_reducible rfl
    simp only [List.setIfInBounds_toArray, List.set_cons_zero, List.set_cons_succ]
    refine take_at (i := 11) (d := 14) (v := .agg (i16s ts)) rfl rfl (by kernel_rfl) (by kernel_rfl) (by kernel_rfl) (fun _ _ _ h => h) (yields_part (by rfl) 27 (.tmp 13) (by rfl) w.heap.size 24 24 (by rfl) 37 (sunC hs ts) (0, 0) _ (fun _ h => h.1) Tryd.underlying27 rfl info_arr (by rw [sunC_size _ _ Hh.out Ht.out]; decide) (i16s ts) (sunC_snd _ _ Hh.out Ht.out)) hHeld ?_
    simp only [List.setIfInBounds_toArray, List.set_cons_zero, List.set_cons_succ]
    refine wpAnyH_ready (rs := [9]) (by kernel_rfl) (by simp) ?_
    refine AllReadyH.cons rfl (fun K hK => ?_) AllReadyH.nil
    go_simp
    refine (held_any ts Ht.out 0 255 _).mono ?_
    rintro e W1 ⟨rfl, hb1⟩
    refine hK.out _ _ (⟨below_row hb1 hHeld.1, hHeld.2.trans (hb1.mono hHeld.2.size)⟩) (fun hHeld2 => ?_)
    clear hK K
    replace hHeld := hHeld2
    clear hHeld2
    refine take_at (i := 12) (d := 15) (v := ?_) rfl rfl (by kernel_rfl) (by kernel_rfl) (by kernel_rfl) (fun _ _ _ h => h) (Or.inl ⟨by rfl, ?hy12u7⟩) hHeld ?rest12u7
    case hy12u7 =>
      intro w' hS'
      go_simp
      try with_reducible rfl
    simp only [List.setIfInBounds_toArray, List.set_cons_zero, List.set_cons_succ]
    refine take_at (i := 13) (d := 16) (v := ?_) rfl rfl (by kernel_rfl) (by kernel_rfl) (by kernel_rfl) (fun _ _ _ h => h) (Or.inl ⟨by rfl, ?hy13u8⟩) hHeld ?rest13u8
    case hy13u8 =>
      intro w' hS'
      go_simp
      try with_reducible rfl
    simp only [List.setIfInBounds_toArray, List.set_cons_zero, List.set_cons_succ]
    refine take_at (i := 14) (d := 2) (v := ?_) rfl rfl (by kernel_rfl) (by kernel_rfl) (by kernel_rfl) (fun _ _ _ h => h) (Or.inl ⟨by rfl, ?hy14u9⟩) hHeld ?rest14u9
    case hy14u9 =>
      intro w' hS'
      go_simp
      try with_reducible rfl
    simp only [List.setIfInBounds_toArray, List.set_cons_zero, List.set_cons_succ]
    refine wpAnyH_done (by kernel_rfl) ?_ _
    go_wp2
    go_ret
    exact ⟨by rw [Bool.true_and]; rfl, hHeld.2⟩
  · have hb' : hs.all (fun x => inB x (-64) 64) = false := by simpa using hb
    rw [hb'] at hq1
    rw [hb']
    clear hb hb'
    go_enter Tryd.func37, Tryd.ntmps37
    go_wp2
    refine wp_region_held_drew (S := (fun W => W.heap[w.heap.size]? = some (.cells (sunC hs ts) 37 (0, 0)) ∧ Below w.heap.size w W)) (by kernel_rfl) ⟨heap_alloc_new _ _, ((Below.refl _ _).alloc (Nat.le_refl _) _).drew⟩ (fun hHeld => ?_)
    refine take_at (i := 0) (d := 3) (v := ?_) rfl rfl (by kernel_rfl) (by kernel_rfl) (by kernel_rfl) (fun _ _ _ h => h) (Or.inl ⟨by rfl, ?hy0u10⟩) hHeld ?rest0u10
    case hy0u10 =>
      intro w' hS'
      go_simp
      try with_reducible rfl
    simp only [List.setIfInBounds_toArray, List.set_cons_zero, List.set_cons_succ]
    refine take_at (i := 1) (d := 4) (v := .agg (i16s hs)) rfl rfl (by kernel_rfl) (by kernel_rfl) (by kernel_rfl) (fun _ _ _ h => h) (yields_part (by rfl) 27 (.tmp 3) (by rfl) w.heap.size 0 24 (by rfl) 37 (sunC hs ts) (0, 0) _ (fun _ h => h.1) Tryd.underlying27 rfl info_arr (by rw [sunC_size _ _ Hh.out Ht.out]; decide) (i16s hs) (sunC_fst _ _ Hh.out)) hHeld ?_
    simp only [List.setIfInBounds_toArray, List.set_cons_zero, List.set_cons_succ]
    refine take_at (i := 3) (d := 6) (v := ?_) rfl rfl (by kernel_rfl) (by kernel_rfl) (by kernel_rfl) (fun _ _ _ h => h) (Or.inl ⟨by rfl, ?hy3u11⟩) hHeld ?rest3u11
    case hy3u11 =>
      intro w' hS'
      go_simp
      try with_reducible rfl
    simp only [List.setIfInBounds_toArray, List.set_cons_zero, List.set_cons_succ]
    refine take_at (i := 4) (d := 7) (v := .agg (i16s hs)) rfl rfl (by kernel_rfl) (by kernel_rfl) (by kernel_rfl) (fun _ _ _ h => h) (yields_part (by rfl) 27 (.tmp 6) (by rfl) w.heap.size 0 24 (by rfl) 37 (sunC hs ts) (0, 0) _ (fun _ h => h.1) Tryd.underlying27 rfl info_arr (by rw [sunC_size _ _ Hh.out Ht.out]; decide) (i16s hs) (sunC_fst _ _ Hh.out)) hHeld ?_
    simp only [List.setIfInBounds_toArray, List.set_cons_zero, List.set_cons_succ]
    refine wpAnyH_ready (rs := [2]) (by kernel_rfl) (by simp) ?_
    refine AllReadyH.cons rfl (fun K hK => ?_) AllReadyH.nil
    go_simp
    refine (held_any hs Hh.out (-64) 64 _).mono ?_
    rintro e W1 ⟨rfl, hb1⟩
    refine hK.out _ _ (⟨below_row hb1 hHeld.1, hHeld.2.trans (hb1.mono hHeld.2.size)⟩) (fun hHeld2 => ?_)
    clear hK K
    replace hHeld := hHeld2
    clear hHeld2
    refine take_at (i := 5) (d := 8) (v := ?_) rfl rfl (by kernel_rfl) (by kernel_rfl) (by kernel_rfl) (fun _ _ _ h => h) (Or.inl ⟨by rfl, ?hy5u12⟩) hHeld ?rest5u12
    case hy5u12 =>
      intro w' hS'
      go_simp
      try with_reducible rfl
    simp only [List.setIfInBounds_toArray, List.set_cons_zero, List.set_cons_succ]
    refine take_at (i := 6) (d := 9) (v := ?_) rfl rfl (by kernel_rfl) (by kernel_rfl) (by kernel_rfl) (fun _ _ _ h => h) (Or.inl ⟨by rfl, ?hy6u13⟩) hHeld ?rest6u13
    case hy6u13 =>
      intro w' hS'
      go_simp
      try with_reducible rfl
    simp only [List.setIfInBounds_toArray, List.set_cons_zero, List.set_cons_succ]
    refine take_at (i := 7) (d := 10) rfl rfl (by kernel_rfl) (by kernel_rfl) (by kernel_rfl) (fun _ _ _ h => h) (Or.inr ⟨by rfl, rfl⟩) hHeld ?_
    simp only [List.setIfInBounds_toArray, List.set_cons_zero, List.set_cons_succ]
    refine take_at (i := 8) (d := 11) rfl rfl (by kernel_rfl) (by kernel_rfl) (by kernel_rfl) (fun _ _ _ h => h) (Or.inr ⟨by rfl, rfl⟩) hHeld ?_
    simp only [List.setIfInBounds_toArray, List.set_cons_zero, List.set_cons_succ]
    refine take_at (i := 10) (d := 13) rfl rfl (by kernel_rfl) (by kernel_rfl) (by kernel_rfl) (fun _ _ _ h => h) (Or.inr ⟨by rfl, rfl⟩) hHeld ?_
    simp only [List.setIfInBounds_toArray, List.set_cons_zero, List.set_cons_succ]
    refine take_at (i := 11) (d := 14) rfl rfl (by kernel_rfl) (by kernel_rfl) (by kernel_rfl) (fun _ _ _ h => h) (Or.inr ⟨by rfl, rfl⟩) hHeld ?_
    simp only [List.setIfInBounds_toArray, List.set_cons_zero, List.set_cons_succ]
    refine take_at (i := 9) (d := 12) rfl rfl (by kernel_rfl) (by kernel_rfl) (by kernel_rfl) (fun _ _ _ h => h) (Or.inr ⟨by rfl, rfl⟩) hHeld ?_
    simp only [List.setIfInBounds_toArray, List.set_cons_zero, List.set_cons_succ]
    refine take_at (i := 12) (d := 15) rfl rfl (by kernel_rfl) (by kernel_rfl) (by kernel_rfl) (fun _ _ _ h => h) (Or.inr ⟨by rfl, rfl⟩) hHeld ?_
    simp only [List.setIfInBounds_toArray, List.set_cons_zero, List.set_cons_succ]
    refine take_at (i := 13) (d := 16) (v := ?_) rfl rfl (by kernel_rfl) (by kernel_rfl) (by kernel_rfl) (fun _ _ _ h => h) (Or.inl ⟨by rfl, ?hy13u14⟩) hHeld ?rest13u14
    case hy13u14 =>
      intro w' hS'
      go_simp
      try with_reducible rfl
    simp only [List.setIfInBounds_toArray, List.set_cons_zero, List.set_cons_succ]
    refine take_at (i := 14) (d := 2) (v := ?_) rfl rfl (by kernel_rfl) (by kernel_rfl) (by kernel_rfl) (fun _ _ _ h => h) (Or.inl ⟨by rfl, ?hy14u15⟩) hHeld ?rest14u15
    case hy14u15 =>
      intro w' hS'
      go_simp
      try with_reducible rfl
    simp only [List.setIfInBounds_toArray, List.set_cons_zero, List.set_cons_succ]
    refine wpAnyH_done (by kernel_rfl) ?_ _
    go_wp2
    go_ret
    exact ⟨by rw [Bool.false_and]; rfl, hHeld.2⟩

end Go.Proofs.YtpcmcopfdghdgaaDoor

namespace Go.Proofs.YtpcmcopfdghdgaaDoor
open Go.ChangeShapes Go.WideShapes Go.ChangeAt Go.RowKit

set_option maxRecDepth 100000 in
theorem law_own : ownKnob Tryd.prog.godebug = none := by kernel_rfl
set_option maxRecDepth 100000 in
theorem law_laidOut : laidOutB Tryd.prog = true := by kernel_rfl

theorem trodAll_below {H : Type} {enc : TypeId × Value → H} {P : Program} (hl : laidOutB P = true) {W W' : World} (hb : Below W.heap.size W W') :
    ∀ (ts : List TypeId) (vs : List Value) (ds : List (DataW H)) (ps : List MemPlace), (∀ t ∈ ts, P.readableRec t = true ∧ t < P.types.size) →
      DataW.TrodAll enc P W 0 (fun _ => true) true ts vs ds ps → (∀ x ∈ ps, x.block < W.heap.size) → DataW.TrodAll enc P W' 0 (fun b => decide (b < W.heap.size)) true ts vs ds ps
  | [], vs, ds, ps, _, h, _ => by
    obtain ⟨rfl, rfl, rfl⟩ := trodAll_nil h
    exact trodAll_mk0
  | t :: ts, vs, ds, ps, hr, h, hlt => by
    obtain ⟨v, vs', d, ds', p, q, rfl, rfl, rfl, h0, r0⟩ := trodAll_cons h
    have ht := hr t (by simp)
    exact trodAll_cons_mk (Below.trod hl ht.1 ht.2 h0 hb (fun x hx => hlt x (by simp [hx]))) (trodAll_below hl hb ts vs' ds' q (fun t ht => hr t (by simp [ht])) r0 (fun x hx => hlt x (by simp [hx])))

set_option maxRecDepth 100000 in
theorem law_lifted (F : FuncId) (fn : Func) (s : ChangeSpec) (conds : List PathCond) (os : Os) (started : os.Started) (H : Type) (enc : TypeId × Value → H)
    (hno : Tryd.checked.prog.inits.idxOf? F = none) (hfn : Tryd.checked.prog.funcs[F]? = some fn) (hv : s.vars = []) (hr : fn.resultTypes = #[4])
    (hts : ∀ t ∈ fn.params.toList, Tryd.prog.readableRec t = true ∧ t < Tryd.prog.types.size)
    (hspec : ∀ ds : List (DataW H), ds.length = fn.params.size → s.fn H (ds ++ []) = { results := [.lit (.bool true)], args := ds })
    (wit : ∃ (w : World) (tape : Tape) (i : Input), w.os = os ∧ (w.forCall tape i).Shaped Tryd.checked.prog ∧ i.vars = [] ∧ Input.okWide Tryd.checked.prog (w.forCall tape i) .any w.heap.size F i ∧
      s.pre6 enc Tryd.checked.prog fn conds false (w.forCall tape i).memory i.args ∧ ({} : Assume).holds Tryd.checked.prog (lone (Frame.enter Tryd.checked.prog F i.args .normal) [] (w.forCall tape i)))
    (walk : ∀ (W : World) (base : Nat) (args : Array Value) (ds : List (DataW H)) (p : List MemPlace),
      (∀ (j : Nat) t v, fn.params[j]? = some t → args[j]? = some v → Value.okWide Tryd.prog W .any base t v) →
      DataW.TrodAll enc Tryd.prog W 0 (fun _ => true) true fn.params.toList args.toList ds p →
      Calls Tryd.prog F args W fun e W' => e = .returned (.bool true) ∧ Below W.heap.size W W') :
    ReturnsInHanded {} Tryd.checked os F .any (s.pre6 enc Tryd.prog fn conds false) (s.post enc Tryd.prog fn false true false false) := by
  refine returnsInHanded_of_change (C := Tryd.checked) law_own started hno hfn wit ?_
  intro W base args ds gs before hval0 hW hcnd _
  have hW' := hW
  obtain ⟨p, q, hA0, hV, rfl, hfz, hnd⟩ := hW
  rw [hv] at hV
  obtain ⟨rfl, rfl⟩ := trodVars_none hV
  have hlen : ds.length = fn.params.size := by
    have key : ∀ (ts : List TypeId) (vs : List Value) (ds : List (DataW H)) (ps : List MemPlace), DataW.TrodAll enc Tryd.checked.prog W 0 (fun _ => true) true ts vs ds ps → ds.length = ts.length := by
      intro ts
      induction ts with
      | nil => intro vs ds ps h; obtain ⟨_, rfl, _⟩ := trodAll_nil h; rfl
      | cons t ts ih => intro vs ds ps h; obtain ⟨v, vs', d, ds', p, q, _, rfl, _, _, r0⟩ := trodAll_cons h; simp [ih _ _ _ r0]
    simpa using key _ _ _ _ hA0
  refine (walk W base args ds p hval0 hA0).mono fun e W' ⟨he, hg⟩ => ?_
  subst he
  have hlt : ∀ x ∈ p, x.block < W.heap.size := fun x hx => hW'.lt x (by simp [hx])
  refine ⟨_, rfl, _, _, _, [], p, [], hW', ?_, ?_, ?_, hg.frame _, fun h => by cases h⟩
  · rw [hspec ds hlen, hr]
    exact trodAll_mk1 (shut_bool Tryd.underlying4 _)
  · rw [hspec ds hlen]
    exact trodAll_below law_laidOut hg _ _ _ _ hts hA0 hlt
  · rw [hspec ds hlen, hv]
    rfl

end Go.Proofs.YtpcmcopfdghdgaaDoor

namespace Go.Proofs.YtpcmcopfdghdgaaDoor
open Go.ChangeShapes Go.WideShapes Go.ChangeAt Go.RowKit

set_option maxRecDepth 100000 in
theorem cells_sunL : Tryd.prog.cellsOf 29 = 48 := by kernel_rfl

set_option maxRecDepth 100000 in
theorem cells_arr : Tryd.prog.cellsOf 27 = 24 := by kernel_rfl

set_option maxRecDepth 100000 in
theorem cells_i16 : Tryd.prog.cellsOf 26 = 1 := by kernel_rfl

def rd16 : Value → Int | .int _ n => n | _ => 0

set_option maxRecDepth 100000 in
theorem open_arr {H : Type} {enc : TypeId × Value → H} {W : World} {base : Nat} {spare : Nat → Bool} {held : Bool} {fuel : Nat} {cs : List Value} {x : DataW H × List MemPlace}
    (h : DataW.trod enc Tryd.prog W base spare held fuel 27 cs = some x) : ∀ i, i < 24 → ∃ n, cs[i]? = some (.int .i16 n) ∧ -32768 ≤ n ∧ n ≤ 32767 := by
  obtain ⟨xs, m, _, _, hl, hlen, hf⟩ := Go.DataW.trod_array Tryd.underlying27 h
  rw [cells_arr] at hl
  intro i hi
  have h1 := hf i hi
  rw [cells_i16, Nat.mul_one] at h1
  rw [List.getElem?_eq_getElem (by omega : i < xs.length)] at h1
  obtain ⟨n, hn, _, hw⟩ := DataW.trod_int Tryd.underlying26 h1
  refine ⟨n, ?_, ?_⟩
  · have h2 : ((cs.drop i).take 1)[0]? = some (.int .i16 n) := by rw [hn]; rfl
    rw [List.getElem?_take_of_lt (by decide), List.getElem?_drop] at h2
    simpa using h2
  · simp [Lit.wf, IntKind.min, IntKind.max, IntKind.signed, IntKind.bits] at hw
    omega

set_option maxRecDepth 100000 in
theorem open_sun {H : Type} {enc : TypeId × Value → H} {W : World} {b0 base : Nat} {spare : Nat → Bool} {held : Bool} {r : Reach} {v : Value} {d : DataW H} {p : List MemPlace}
    (hv : Value.okWide Tryd.prog W r b0 29 v) (h : DataW.Trod enc Tryd.prog W base spare held 29 v d p) :
    ∃ hs ts : List Int, hs.length = 24 ∧ ts.length = 24 ∧ (∀ x ∈ hs ++ ts, -32768 ≤ x ∧ x ≤ 32767) ∧ v = .agg (sunC hs ts) := by
  obtain ⟨cs, rfl, hsz⟩ := okWide_struct Tryd.underlying29 hv
  rw [cells_sunL] at hsz
  obtain ⟨fuel, hf⟩ := h
  obtain ⟨y0, y1, n, hx, _, h0, h1⟩ := trod_struct2 Tryd.underlying29 hf
  have hall : ∀ i, i < 48 → ∃ n, cs.toList[i]? = some (.int .i16 n) ∧ -32768 ≤ n ∧ n ≤ 32767 := by
    intro i hi
    by_cases c : i < 24
    · obtain ⟨n, hn, hb⟩ := open_arr h0 i c
      refine ⟨n, ?_, hb⟩
      simp only [Value.cells, cells_arr, List.drop_zero] at hn
      rwa [List.getElem?_take_of_lt c] at hn
    · obtain ⟨n, hn, hb⟩ := open_arr h1 (i - 24) (by omega)
      refine ⟨n, ?_, hb⟩
      simp only [Value.cells, cells_arr] at hn
      rw [List.getElem?_take_of_lt (by omega), List.getElem?_drop] at hn
      rwa [show 24 + (i - 24) = i by omega] at hn
  have hlen : cs.toList.length = 48 := by simpa using hsz
  have hcs : cs = i16s (cs.toList.map rd16) := by
    apply Array.ext'
    simp only [i16s, List.map_map]
    apply List.ext_getElem?
    intro i
    by_cases c : i < 48
    · obtain ⟨n, hn, _⟩ := hall i c
      rw [hn, List.getElem?_map, hn]; rfl
    · rw [List.getElem?_eq_none (by omega), List.getElem?_eq_none (by simp; omega)]
  refine ⟨(cs.toList.map rd16).take 24, (cs.toList.map rd16).drop 24, by simp; omega, by simp; omega, ?_, ?_⟩
  · rw [List.take_append_drop]
    intro x hx
    obtain ⟨i, hi, rfl⟩ := List.mem_iff_getElem.1 hx
    simp only [List.length_map] at hi
    obtain ⟨n, hn, hb⟩ := hall i (by omega)
    rw [List.getElem?_eq_getElem hi] at hn
    simp only [List.getElem_map]
    have : cs.toList[i] = .int .i16 n := by injection hn
    rw [this]; exact hb
  · unfold sunC
    rw [List.take_append_drop, ← hcs]

end Go.Proofs.YtpcmcopfdghdgaaDoor

namespace Go.Proofs.YtpcmcopfdghdgaaDoor
open Go.ChangeShapes Go.WideShapes Go.ChangeAt Go.RowKit

end Go.Proofs.YtpcmcopfdghdgaaDoor

namespace Go.Proofs.YtpcmcopfdghdgaaDoor
open Go.RowKit

def inH (n : Int) : Bool := inB n 0 23

def inF (n : Int) : Bool := inB n 0 255

set_option maxHeartbeats 400000 in
theorem isHour_any (n : Int) (w : World) :
    Calls Tryd.prog 38 #[.int .i64 n] w fun e w' => e = .returned (.bool (inH n)) ∧ w = w' := by
  have e : inH n = (decide (0 ≤ n) && decide (n < 24)) := by
    unfold inH inB
    congr 1
    rw [Bool.eq_iff_iff, decide_eq_true_iff, decide_eq_true_iff]; omega
  rw [e]
  clear e
  by_cases h1 : 0 ≤ n
  · have h1' : decide (0 ≤ n) = true := decide_eq_true h1
    go_enter Tryd.func38, Tryd.ntmps38
    go_wp2
    go_ret
    rw [h1', Bool.true_and]
    exact ⟨rfl, rfl⟩
  · have h1' : decide (0 ≤ n) = false := decide_eq_false h1
    go_enter Tryd.func38, Tryd.ntmps38
    go_wp2
    go_ret
    exact ⟨rfl, rfl⟩

set_option maxHeartbeats 400000 in
theorem isFacing_any (n : Int) (w : World) :
    Calls Tryd.prog 39 #[.int .i64 n] w fun e w' => e = .returned (.bool (inF n)) ∧ w = w' := by
  have e : inF n = (decide (0 ≤ n) && decide (n < 256)) := by
    unfold inF inB
    congr 1
    rw [Bool.eq_iff_iff, decide_eq_true_iff, decide_eq_true_iff]; omega
  rw [e]
  clear e
  by_cases h1 : 0 ≤ n
  · have h1' : decide (0 ≤ n) = true := decide_eq_true h1
    go_enter Tryd.func39, Tryd.ntmps39
    go_wp2
    go_ret
    rw [h1', Bool.true_and]
    exact ⟨rfl, rfl⟩
  · have h1' : decide (0 ≤ n) = false := decide_eq_false h1
    go_enter Tryd.func39, Tryd.ntmps39
    go_wp2
    go_ret
    exact ⟨rfl, rfl⟩

/-- The code of a sun, and of what is asked of numbers. -/
def codeB (ok fine : Bool) : Int := if ok then (if fine then 0 else 2) else 1

/-- The height at an hour; the turn at an hour. -/
def atH (xs : List Int) (hour : Int) : Int := xs[hour.toNat]?.getD 0

set_option maxRecDepth 100000 in
set_option maxHeartbeats 400000 in
theorem upAt_any (hs ts : List Int) (hh : hs.length = 24) (hour : Int) (h0 : 0 ≤ hour) (h1 : hour < 24) (w : World) :
    Calls Tryd.prog 65 #[.agg (sunC hs ts), .int .i64 hour] w fun e w' => e = .returned (.bool (decide (0 < atH hs hour))) ∧ Below w.heap.size w w' := by
  obtain ⟨k, rfl⟩ := Int.eq_ofNat_of_zero_le h0
  have hk : k < 24 := by omega
  have hc := cell_sun_h (heap_alloc_new w (.cells (sunC hs ts) 37)) hh k hk
  have ea : atH hs (k : Int) = hs[k]?.getD 0 := by unfold atH; rw [Int.toNat_natCast]
  rw [ea]
  generalize hs[k]?.getD 0 = x at *
  clear ea hh
  go_enter Tryd.func65, Tryd.ntmps65
  go_wp2
  go_ret
  exact ⟨rfl, (Below.refl _ _).alloc (Nat.le_refl _) _⟩

end Go.Proofs.YtpcmcopfdghdgaaDoor

namespace Go.Proofs.YtpcmcopfdghdgaaDoor
open Go.ChangeShapes Go.WideShapes Go.ChangeAt Go.RowKit

theorem isHour_is (n : Int) (b : Bool) (h : inH n = b) (w : World) : Calls Tryd.prog 38 #[.int .i64 n] w fun e w' => e = .returned (.bool b) ∧ w = w' := by
  subst h; exact isHour_any n w

theorem l01Hour_is (n : Int) (b : Bool) (h : inH n = b) (w : World) : Calls Tryd.prog 28 #[.int .i64 n] w fun e w' => e = .returned (.bool b) ∧ w = w' := by
  subst h; exact l01Hour_any n w





theorem inH_bd {n : Int} (h : inH n = true) : 0 ≤ n ∧ n < 24 := by
  have := inB_true h; omega

theorem codeB_ne {ok fine : Bool} (h : ¬ (ok = true ∧ fine = true)) : codeB ok fine ≠ 0 := by
  cases ok <;> cases fine <;> simp_all [codeB]

/-- What is asked of a sun and of other arguments is all right, or the code tells what is not. -/
def upV (hs ts : List Int) (hour : Int) : Bool := okB hs ts && inH hour && decide (0 < atH hs hour)

end Go.Proofs.YtpcmcopfdghdgaaDoor

namespace Go.Proofs.YtpcmcopfdghdgaaDoor
open Go.RowKit

theorem qfacts (a : Int) (h0 : 0 ≤ a) (h1 : a ≤ 64) :
    floatBits .quo .f32 (floatOfInt .f32 a) 1115684864 = some (qx a) ∧ floatBits .mul .f32 (qx a) (qx a) = some (qy a)
    ∧ floatBits .mul .f32 (qy a) 1033109504 = some (qyk a) ∧ floatBits .sub .f32 1059356672 (qyk a) = some (qp a)
    ∧ floatBits .mul .f32 (qy a) (qp a) = some (qyp a) ∧ floatBits .sub .f32 1070137344 (qyp a) = some (qq a)
    ∧ floatBits .mul .f32 (qx a) (qq a) = some (qs a) ∧ floatBits .sub .f32 0 (qs a) = some (qn a) := by
  have h := qOk_all a h0 h1
  simpa [qOk, Bool.and_eq_true, and_assoc] using h

set_option maxHeartbeats 400000 in
theorem firstSine_any (a : Int) (h0 : 0 ≤ a) (h1 : a ≤ 64) (w : World) :
    Calls Tryd.prog 88 #[.int .i16 a] w fun e w' => e = .returned (.float .f32 (qs a)) ∧ w = w' := by
  obtain ⟨e1, e2, e3, e4, e5, e6, e7, _⟩ := qfacts a h0 h1
  have r1 : ∀ t w, (binOp .quo t (.float .f32 (floatOfInt .f32 a)) (.float .f32 1115684864)).run Tryd.prog w = .ok (.float .f32 (qx a)) w := fun t w => run_float_arith w .quo t .f32 _ _ _ e1
  have r2 : ∀ t w, (binOp .mul t (.float .f32 (qx a)) (.float .f32 (qx a))).run Tryd.prog w = .ok (.float .f32 (qy a)) w := fun t w => run_float_arith w .mul t .f32 _ _ _ e2
  have r3 : ∀ t w, (binOp .mul t (.float .f32 (qy a)) (.float .f32 1033109504)).run Tryd.prog w = .ok (.float .f32 (qyk a)) w := fun t w => run_float_arith w .mul t .f32 _ _ _ e3
  have r4 : ∀ t w, (binOp .sub t (.float .f32 1059356672) (.float .f32 (qyk a))).run Tryd.prog w = .ok (.float .f32 (qp a)) w := fun t w => run_float_arith w .sub t .f32 _ _ _ e4
  have r5 : ∀ t w, (binOp .mul t (.float .f32 (qy a)) (.float .f32 (qp a))).run Tryd.prog w = .ok (.float .f32 (qyp a)) w := fun t w => run_float_arith w .mul t .f32 _ _ _ e5
  have r6 : ∀ t w, (binOp .sub t (.float .f32 1070137344) (.float .f32 (qyp a))).run Tryd.prog w = .ok (.float .f32 (qq a)) w := fun t w => run_float_arith w .sub t .f32 _ _ _ e6
  have r7 : ∀ t w, (binOp .mul t (.float .f32 (qx a)) (.float .f32 (qq a))).run Tryd.prog w = .ok (.float .f32 (qs a)) w := fun t w => run_float_arith w .mul t .f32 _ _ _ e7
  clear e1 e2 e3 e4 e5 e6 e7
  go_enter Tryd.func88, Tryd.ntmps88
  go_wp2_with (simp only [r1, r2, r3, r4, r5, r6, r7])
  go_ret
  exact ⟨rfl, rfl⟩


set_option maxHeartbeats 400000 in
theorem secondSine_any (a : Int) (h0 : 64 ≤ a) (h1 : a ≤ 128) (w : World) :
    Calls Tryd.prog 89 #[.int .i16 a] w fun e w' => e = .returned (.float .f32 (qs (128 - a))) ∧ w = w' := by
  go_enter Tryd.func89, Tryd.ntmps89
  go_wp2_with (go_at_call 88; refine (firstSine_any _ (by omega) (by omega) _).mono ?_; rintro e w' ⟨rfl, rfl⟩)
  go_ret
  exact ⟨rfl, rfl⟩

set_option maxHeartbeats 400000 in
theorem thirdSine_any (a : Int) (h0 : 128 ≤ a) (h1 : a ≤ 192) (w : World) :
    Calls Tryd.prog 90 #[.int .i16 a] w fun e w' => e = .returned (.float .f32 (qn (a - 128))) ∧ w = w' := by
  obtain ⟨_, _, _, _, _, _, _, e8⟩ := qfacts (a - 128) (by omega) (by omega)
  have r8 : ∀ t w, (binOp .sub t (.float .f32 0) (.float .f32 (qs (a - 128)))).run Tryd.prog w = .ok (.float .f32 (qn (a - 128))) w := fun t w => run_float_arith w .sub t .f32 _ _ _ e8
  clear e8
  go_enter Tryd.func90, Tryd.ntmps90
  go_wp2_with (go_at_call 88; refine (firstSine_any _ (by omega) (by omega) _).mono ?_; rintro e w' ⟨rfl, rfl⟩)
  go_ret
  exact ⟨rfl, rfl⟩

set_option maxHeartbeats 400000 in
theorem fourthSine_any (a : Int) (h0 : 192 ≤ a) (h1 : a ≤ 255) (w : World) :
    Calls Tryd.prog 91 #[.int .i16 a] w fun e w' => e = .returned (.float .f32 (qn (256 - a))) ∧ w = w' := by
  obtain ⟨_, _, _, _, _, _, _, e8⟩ := qfacts (256 - a) (by omega) (by omega)
  have r8 : ∀ t w, (binOp .sub t (.float .f32 0) (.float .f32 (qs (256 - a)))).run Tryd.prog w = .ok (.float .f32 (qn (256 - a))) w := fun t w => run_float_arith w .sub t .f32 _ _ _ e8
  clear e8
  go_enter Tryd.func91, Tryd.ntmps91
  go_wp2_with (go_at_call 88; refine (firstSine_any _ (by omega) (by omega) _).mono ?_; rintro e w' ⟨rfl, rfl⟩)
  go_ret
  exact ⟨rfl, rfl⟩

theorem ret_int {k : IntKind} {a b : Int} (h : a = b) : Ending.returned (.int k a) = .returned (.int k b) := by rw [h]
theorem ret_f32 {a b : Nat} (h : a = b) : Ending.returned (.float .f32 a) = .returned (.float .f32 b) := by rw [h]

theorem tmod_ang (a : Int) : a.tmod 256 % 256 = angB a := by
  unfold angB
  have h3 : a = 256 * a.tdiv 256 + a.tmod 256 := (Int.mul_tdiv_add_tmod a 256).symm
  omega
theorem tmod_ang2 (a : Int) : (a.tmod 256 + 256) % 256 = angB a := by
  have h := tmod_ang a
  omega

theorem tmod_bd (a : Int) : -256 < a.tmod 256 ∧ a.tmod 256 < 256 :=
  ⟨Int.lt_tmod_of_pos a (b := 256) (by decide), Int.tmod_lt_of_pos a (b := 256) (by decide)⟩

set_option maxHeartbeats 400000 in
theorem angleOf_any (a : Int) (w : World) :
    Calls Tryd.prog 66 #[.int .i64 a] w fun e w' => e = .returned (.int .i16 (angB a)) ∧ w = w' := by
  obtain ⟨h1, h2⟩ := tmod_bd a
  have h3 := angB_lo a
  have h4 := angB_hi a
  go_enter Tryd.func66, Tryd.ntmps66
  go_wp2
  go_ret
  exact ⟨ret_int (tmod_ang a), rfl⟩

set_option maxHeartbeats 400000 in
theorem l01Angle_any (a : Int) (w : World) :
    Calls Tryd.prog 32 #[.int .i64 a] w fun e w' => e = .returned (.int .i64 (angB a)) ∧ w = w' := by
  obtain ⟨h1, h2⟩ := tmod_bd a
  go_enter Tryd.func32, Tryd.ntmps32
  go_wp2
  go_ret
  exact ⟨ret_int (tmod_ang2 a), rfl⟩

theorem i16_in (n : Int) (h0 : -32768 ≤ n) (h1 : n ≤ 32767) : IntKind.i16.wrap n = n := by
  simp [IntKind.wrap, IntKind.signed, IntKind.bits]
  omega
theorem quart (a k : Int) (h0 : 0 ≤ k) (h3 : k ≤ 3) (hl : 64 * k ≤ a) (hh : a < 64 * k + 64) : IntKind.i16.wrap (a.tdiv 64) = k := by
  have h : a.tdiv 64 = k := by
    rw [Int.tdiv_eq_ediv_of_nonneg (by omega)]; omega
  rw [h]; exact i16_in k (by omega) (by omega)

set_option maxHeartbeats 400000 in
theorem sine_q1 (a : Int) (h0 : 0 ≤ a) (h1 : a < 64) (w : World) :
    Calls Tryd.prog 82 #[.int .i16 a] w fun e w' => e = .returned (.float .f32 (qs a)) ∧ Below w.heap.size w w' := by
  have hq := quart a 0 (by omega) (by omega) (by omega) (by omega)
  go_enter Tryd.func82, Tryd.ntmps82
  go_wp2_with (go_at_call 88; refine (firstSine_any _ (by omega) (by omega) _).mono ?_; rintro e w' ⟨rfl, rfl⟩)
  go_ret
  exact ⟨rfl, (Below.refl _ _).alloc (Nat.le_refl _) _⟩

set_option maxHeartbeats 400000 in
theorem sine_q2 (a : Int) (h0 : 64 ≤ a) (h1 : a < 128) (w : World) :
    Calls Tryd.prog 82 #[.int .i16 a] w fun e w' => e = .returned (.float .f32 (qs (128 - a))) ∧ Below w.heap.size w w' := by
  have hq := quart a 1 (by omega) (by omega) (by omega) (by omega)
  go_enter Tryd.func82, Tryd.ntmps82
  go_wp2_with (go_at_call 89; refine (secondSine_any _ (by omega) (by omega) _).mono ?_; rintro e w' ⟨rfl, rfl⟩)
  go_ret
  exact ⟨rfl, (Below.refl _ _).alloc (Nat.le_refl _) _⟩

set_option maxHeartbeats 400000 in
theorem sine_q3 (a : Int) (h0 : 128 ≤ a) (h1 : a < 192) (w : World) :
    Calls Tryd.prog 82 #[.int .i16 a] w fun e w' => e = .returned (.float .f32 (qn (a - 128))) ∧ Below w.heap.size w w' := by
  have hq := quart a 2 (by omega) (by omega) (by omega) (by omega)
  go_enter Tryd.func82, Tryd.ntmps82
  go_wp2_with (go_at_call 90; refine (thirdSine_any _ (by omega) (by omega) _).mono ?_; rintro e w' ⟨rfl, rfl⟩)
  go_ret
  exact ⟨rfl, (Below.refl _ _).alloc (Nat.le_refl _) _⟩

set_option maxHeartbeats 400000 in
theorem sine_q4 (a : Int) (h0 : 192 ≤ a) (h1 : a < 256) (w : World) :
    Calls Tryd.prog 82 #[.int .i16 a] w fun e w' => e = .returned (.float .f32 (qn (256 - a))) ∧ Below w.heap.size w w' := by
  have hq := quart a 3 (by omega) (by omega) (by omega) (by omega)
  go_enter Tryd.func82, Tryd.ntmps82
  go_wp2_with (go_at_call 91; refine (fourthSine_any _ (by omega) (by omega) _).mono ?_; rintro e w' ⟨rfl, rfl⟩)
  go_ret
  exact ⟨rfl, (Below.refl _ _).alloc (Nat.le_refl _) _⟩


theorem qn_0 : qn 0 = qs 0 := by decide +kernel

theorem sine_any (a : Int) (h0 : 0 ≤ a) (h1 : a ≤ 255) (w : World) :
    Calls Tryd.prog 82 #[.int .i16 a] w fun e w' => e = .returned (.float .f32 (sineB a)) ∧ Below w.heap.size w w' := by
  have key : ∀ x, sineB a = x → (Calls Tryd.prog 82 #[.int .i16 a] w fun e w' => e = .returned (.float .f32 x) ∧ Below w.heap.size w w') → Calls Tryd.prog 82 #[.int .i16 a] w fun e w' => e = .returned (.float .f32 (sineB a)) ∧ Below w.heap.size w w' := by
    intro x hx h
    rw [hx]; exact h
  by_cases c1 : a < 64
  · exact key _ (by unfold sineB; rw [if_pos (by omega)]) (sine_q1 a h0 c1 w)
  by_cases c2 : a < 128
  · refine key _ ?_ (sine_q2 a (by omega) c2 w)
    unfold sineB
    by_cases e : a = 64
    · subst e; rfl
    · rw [if_neg (by omega), if_pos (by omega)]
  by_cases c3 : a < 192
  · refine key _ ?_ (sine_q3 a (by omega) c3 w)
    unfold sineB
    by_cases e : a = 128
    · subst e; rw [if_neg (by omega), if_pos (by omega)]; exact qn_0.symm
    · rw [if_neg (by omega), if_neg (by omega), if_pos (by omega)]
  · refine key _ ?_ (sine_q4 a (by omega) (by omega) w)
    unfold sineB
    by_cases e : a = 192
    · subst e; rfl
    · rw [if_neg (by omega), if_neg (by omega), if_neg (by omega)]

set_option maxHeartbeats 400000 in
theorem cosine_any (a : Int) (h0 : -32768 ≤ a) (h1 : a ≤ 32767) (w : World) :
    Calls Tryd.prog 67 #[.int .i16 a] w fun e w' => e = .returned (.float .f32 (cosB a)) ∧ Below w.heap.size w w' := by
  have hl := angB_lo (a + 64)
  have hh := angB_hi (a + 64)
  go_enter Tryd.func67, Tryd.ntmps67
  go_wp2_with (first | (go_at_call 66; refine (angleOf_any _ _).mono ?_; rintro e w' ⟨rfl, rfl⟩) | (go_at_call 82; refine (sine_any _ (by omega) (by omega) _).mono ?_; rintro e w1 ⟨rfl, hb⟩))
  go_ret
  exact ⟨rfl, hb⟩

theorem cosB_ang (a : Int) : cosB (angB a) = cosB a := by
  unfold cosB angB
  congr 1
  omega

/-! ### The model's functions -/
set_option maxHeartbeats 400000 in
theorem l01Quarter_any (a : Int) (h0 : 0 ≤ a) (h1 : a ≤ 64) (w : World) :
    Calls Tryd.prog 87 #[.int .i64 a] w fun e w' => e = .returned (.float .f32 (qs a)) ∧ w = w' := by
  obtain ⟨e1, e2, e3, e4, e5, e6, e7, _⟩ := qfacts a h0 h1
  have r1 : ∀ t w, (binOp .quo t (.float .f32 (floatOfInt .f32 a)) (.float .f32 1115684864)).run Tryd.prog w = .ok (.float .f32 (qx a)) w := fun t w => run_float_arith w .quo t .f32 _ _ _ e1
  have r2 : ∀ t w, (binOp .mul t (.float .f32 (qx a)) (.float .f32 (qx a))).run Tryd.prog w = .ok (.float .f32 (qy a)) w := fun t w => run_float_arith w .mul t .f32 _ _ _ e2
  have r3 : ∀ t w, (binOp .mul t (.float .f32 (qy a)) (.float .f32 1033109504)).run Tryd.prog w = .ok (.float .f32 (qyk a)) w := fun t w => run_float_arith w .mul t .f32 _ _ _ e3
  have r4 : ∀ t w, (binOp .sub t (.float .f32 1059356672) (.float .f32 (qyk a))).run Tryd.prog w = .ok (.float .f32 (qp a)) w := fun t w => run_float_arith w .sub t .f32 _ _ _ e4
  have r5 : ∀ t w, (binOp .mul t (.float .f32 (qy a)) (.float .f32 (qp a))).run Tryd.prog w = .ok (.float .f32 (qyp a)) w := fun t w => run_float_arith w .mul t .f32 _ _ _ e5
  have r6 : ∀ t w, (binOp .sub t (.float .f32 1070137344) (.float .f32 (qyp a))).run Tryd.prog w = .ok (.float .f32 (qq a)) w := fun t w => run_float_arith w .sub t .f32 _ _ _ e6
  have r7 : ∀ t w, (binOp .mul t (.float .f32 (qx a)) (.float .f32 (qq a))).run Tryd.prog w = .ok (.float .f32 (qs a)) w := fun t w => run_float_arith w .mul t .f32 _ _ _ e7
  clear e1 e2 e3 e4 e5 e6 e7
  go_enter Tryd.func87, Tryd.ntmps87
  go_wp2
  go_ret
  exact ⟨rfl, rfl⟩

set_option maxHeartbeats 400000 in
theorem l01Sine_any (a : Int) (w : World) :
    Calls Tryd.prog 75 #[.int .i64 a] w fun e w' => e = .returned (.float .f32 (sineB (angB a))) ∧ w = w' := by
  have hl := angB_lo a
  have hh := angB_hi a
  have hs : ∀ x, (∀ t w, (binOp .sub t (.float .f32 0) (.float .f32 (qs x))).run Tryd.prog w = .ok (.float .f32 (qn x)) w) ∨ ¬ (0 ≤ x ∧ x ≤ 64) := by
    intro x
    by_cases h : 0 ≤ x ∧ x ≤ 64
    · obtain ⟨_, _, _, _, _, _, _, e8⟩ := qfacts x h.1 h.2
      exact .inl fun t w => run_float_arith w .sub t .f32 _ _ _ e8
    · exact .inr h
  generalize hn : angB a = n at *
  have H := Lib.hid hn
  clear hn
  unfold sineB
  by_cases c1 : n ≤ 64
  · rw [if_pos c1]
    clear hs
    go_enter Tryd.func75, Tryd.ntmps75
    go_wp2_with (first | (go_at_call 32; refine (l01Angle_any _ _).mono ?_; rintro e w' ⟨rfl, rfl⟩; rw [H.out]) | (go_at_call 87; refine (l01Quarter_any _ (by omega) (by omega) _).mono ?_; rintro e w1 ⟨rfl, rfl⟩))
    go_ret
    exact ⟨rfl, rfl⟩
  rw [if_neg c1]
  by_cases c2 : n ≤ 128
  · rw [if_pos c2]
    clear hs
    go_enter Tryd.func75, Tryd.ntmps75
    go_wp2_with (first | (go_at_call 32; refine (l01Angle_any _ _).mono ?_; rintro e w' ⟨rfl, rfl⟩; rw [H.out]) | (go_at_call 87; refine (l01Quarter_any _ (by omega) (by omega) _).mono ?_; rintro e w1 ⟨rfl, rfl⟩))
    go_ret
    exact ⟨rfl, rfl⟩
  rw [if_neg c2]
  by_cases c3 : n ≤ 192
  · rw [if_pos c3]
    have r := (hs (n - 128)).resolve_right (by omega)
    clear hs
    go_enter Tryd.func75, Tryd.ntmps75
    go_wp2_with (first | (go_at_call 32; refine (l01Angle_any _ _).mono ?_; rintro e w' ⟨rfl, rfl⟩; rw [H.out]) | (go_at_call 87; refine (l01Quarter_any _ (by omega) (by omega) _).mono ?_; rintro e w1 ⟨rfl, rfl⟩))
    go_ret
    exact ⟨rfl, rfl⟩
  · rw [if_neg c3]
    have r := (hs (256 - n)).resolve_right (by omega)
    clear hs
    go_enter Tryd.func75, Tryd.ntmps75
    go_wp2_with (first | (go_at_call 32; refine (l01Angle_any _ _).mono ?_; rintro e w' ⟨rfl, rfl⟩; rw [H.out]) | (go_at_call 87; refine (l01Quarter_any _ (by omega) (by omega) _).mono ?_; rintro e w1 ⟨rfl, rfl⟩))
    go_ret
    exact ⟨rfl, rfl⟩

theorem cos_ang2 (a : Int) : angB (angB a + 64) = angB (a + 64) := by unfold angB; omega

set_option maxHeartbeats 400000 in
theorem l01Cosine_any (a : Int) (w : World) :
    Calls Tryd.prog 58 #[.int .i64 a] w fun e w' => e = .returned (.float .f32 (cosB a)) ∧ w = w' := by
  have hl := angB_lo a
  have hh := angB_hi a
  have H := Lib.hid (cos_ang2 a)
  go_enter Tryd.func58, Tryd.ntmps58
  go_wp2_with (first | (go_at_call 32; refine (l01Angle_any _ _).mono ?_; rintro e w' ⟨rfl, rfl⟩) | (go_at_call 75; refine (l01Sine_any _ _).mono ?_; rintro e w1 ⟨rfl, rfl⟩))
  go_ret
  exact ⟨ret_f32 (by unfold cosB; rw [H.out]), rfl⟩

end Go.Proofs.YtpcmcopfdghdgaaDoor

namespace Go.Proofs.YtpcmcopfdghdgaaDoor
open Go.ChangeShapes Go.WideShapes Go.ChangeAt Go.RowKit

theorem okB_h {hs ts : List Int} (hh : hs.length = 24) (ht : ts.length = 24) (h : okB hs ts = true) (hour : Int) (h0 : 0 ≤ hour) (h1 : hour < 24) : -64 ≤ atH hs hour ∧ atH hs hour ≤ 64 :=
  inB_true ((okB_iff hs ts hh ht).1 h hour.toNat (by omega)).1

theorem okB_t {hs ts : List Int} (hh : hs.length = 24) (ht : ts.length = 24) (h : okB hs ts = true) (hour : Int) (h0 : 0 ≤ hour) (h1 : hour < 24) : 0 ≤ atH ts hour ∧ atH ts hour ≤ 255 :=
  inB_true ((okB_iff hs ts hh ht).1 h hour.toNat (by omega)).2

end Go.Proofs.YtpcmcopfdghdgaaDoor
