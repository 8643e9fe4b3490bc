/-
  LgA, LgW, ListF, MarkF.
-/
import Derived.Test.YtdbleddcnknmiaaGreatDoorMg4
import Derived.Test.YtdbleddcnknmiaaGreatDoorMg5
import Derived.RangeFuncFrom
import Derived.RangeFuncWrites
import Derived.Test.YtdbleddcnknmiaaGreatDoorLaw
import Derived.Test.YtdbleddcnknmiaaGreatDoorMg1
import Derived.Test.YtdbleddcnknmiaaGreatDoorMg2

namespace Go.Proofs.YtdbleddcnknmiaaGreatDoor
open Go.ChangeShapes Go.WideShapes Go.ChangeAt Go.RowKit Go.Shelf

attribute [local go_sem] Oper.semAt_some run_store_float

/-- Numbers as the cells of a row. -/
def flQ (xs : List Nat) : Array Value := (xs.map (Value.float .f32)).toArray

theorem flQ_size (xs : List Nat) : (flQ xs).size = xs.length := by simp [flQ]

theorem flQ_set (xs : List Nat) (k : Nat) (n : Nat) : (flQ xs).setIfInBounds k (.float .f32 n) = flQ (xs.set k n) := by
  apply Array.ext'
  simp [flQ, List.map_set]

theorem flQ_cell {W : World} {g : Nat} {xs : List Nat} {t : TypeId} {fr : Nat × Nat} (hg : W.heap[g]? = some (.cells (flQ xs) t fr)) (k : Nat) (h : k < xs.length) : W.cell? ⟨g, k, none⟩ = some (.float .f32 (xs[k]?.getD 0)) := by
  rw [cell_of_row W _ _ _ _ _ hg]
  simp [flQ, h]

theorem flQ_store {W : World} {g : Nat} {xs : List Nat} {t : TypeId} (h : W.heap[g]? = some (.cells (flQ xs) t (0, 0))) (k : Nat) (n : Nat) : (W.setCell ⟨g, k, none⟩ (.float .f32 n)).heap[g]? = some (.cells (flQ (xs.set k n)) t (0, 0)) := by
  rw [heap_setCell_same _ _ _ _ _ _ h, flQ_set]

/-- What the walk keeps: the day, the plan, the list's box, the list as far as it is filled. -/
def LgI (w : World) (dc pc : Array Value) (b1 b2 b3 : Nat) (g : Nat → Nat) (pre : List Hr) (W : World) : Prop :=
  ∃ zs : List Nat, zs.length = 24 ∧ (W.heap[w.heap.size]? = some (.cells dc 69 (0, 0)) ∧ W.heap[b1]? = some (.cells pc 37 (0, 0)) ∧ W.heap[b3]? = some (.cells #[.slice (some ⟨b2, 0, none⟩) 24 24] 30 (0, 0))) ∧ W.heap[b2]? = some (.cells (flQ zs) 23 (0, 0)) ∧ (Good pre → ∀ j, j < pre.length → zs[j]? = some (g j)) ∧ Below w.heap.size w W

theorem lgI_own (w : World) (dc pc : Array Value) (b1 b2 b3 : Nat) (g : Nat → Nat) (B : Nat) (hB : w.heap.size ≤ B) : OwnFrom B (LgI w dc pc b1 b2 b3 g) := by
  intro s W W' row ⟨zs, hz, ⟨h0, h1, h3⟩, h2, hg, hb⟩ hg' hr
  have hr2 := fun r e => (hr r e).2
  exact ⟨zs, hz, ⟨heap_kept h0 hg' hr2, heap_kept h1 hg' hr2, heap_kept h3 hg' hr2⟩, heap_kept h2 hg' hr2, hg, ownFrom_below (β := Unit) (Nat.le_refl _) hB () W W' row hb hg' hr⟩

set_option maxRecDepth 100000 in
set_option maxHeartbeats 4000000 in
theorem lights_any (hs ts : List Int) (hh : hs.length = 24) (ht : ts.length = 24) (fc : Int) (lo hi : Nat) (n : Int) (wd gp : Nat) (t : Int) (sh : Nat) (ok : BlOk n wd gp t sh) (dh : DyHr hs ts fc) (ps : List Int) (hp : ps.length = 24) (ho : okP ps = true) (w : World) :
    Calls Tryz.prog 32 #[.agg (dayC hs ts fc lo hi n wd gp t sh), .agg (i16s ps)] w fun e w' => (∃ v, e = .returned v ∧ Own w' w.heap.size 23 (Value.float .f32) v ((List.range 24).map (fun k : Nat => winB wd gp (ps[k]?.getD 0) sh hs ts (k : Int) fc))) ∧ Below w.heap.size w w' := by
  refine (callsIn_wide (n := 4)).1 ?_
  have HKP : Hid (∀ k : Nat, k < 24 → ∀ w, Calls Tryz.prog 51 #[.agg (dayC hs ts fc lo hi n wd gp t sh), .int .i64 (k : Int), .int .i64 (ps[k]?.getD 0)] w fun e w' => e = .returned (.float .f32 (winB wd gp (ps[k]?.getD 0) sh hs ts (k : Int) fc)) ∧ Below w.heap.size w w') := fun k hk w => light_any hs ts hh ht fc lo hi n wd gp t sh ok (k : Int) (ps[k]?.getD 0) (dh.all k hk) (plan_tilt hp ho hk).1 (plan_tilt hp ho hk).2 w
  have HTL := Lib.hid (fun k hk => plan_tilt hp ho (k := k) hk)
  have Hh := Lib.hid hh
  have Ht := Lib.hid ht
  have Hp := Lib.hid hp
  obtain ⟨g, hgd⟩ : ∃ g : Nat → Nat, g = (fun k : Nat => winB wd gp (ps[k]?.getD 0) sh hs ts (k : Int) fc) := ⟨_, rfl⟩
  have HKQ : Hid (∀ k : Nat, k < 24 → ∀ w, Calls Tryz.prog 51 #[.agg (dayC hs ts fc lo hi n wd gp t sh), .int .i64 (k : Int), .int .i64 (ps[k]?.getD 0)] w fun e w' => e = .returned (.float .f32 (g k)) ∧ Below w.heap.size w w') := by rw [hgd]; exact HKP.out
  rw [← hgd]
  clear hh ht ok dh hp ho HKP hgd
  have hmk : ∀ w, (Instr.makeSlice 30 (.int .i64 24) (.int .i64 24)).run Tryz.prog w = .ok (.slice (some ⟨w.heap.size, 0, none⟩) 24 24) (w.alloc (.cells (flQ (List.replicate 24 0)) 23)) := fun _ => by kernel_rfl
  refine callsIn_of_wp_marks Tryz.func32 rfl trivial ?_ rfl
  simp only [Tryz.ntmps32, List.size_toArray, List.length_cons, List.length_nil, Nat.reduceAdd, Nat.reduceSub, Array.replicate_succ, Array.replicate_zero, List.push_toArray, List.append_toArray, List.nil_append, List.cons_append]
  refine wpIn_wide.2 ?_
  go_upto_region 2 with (fail)
  refine abs_world (fun W => W.heap[w.heap.size]? = some (.cells (dayC hs ts fc lo hi n wd gp t sh) 69 (0, 0)) ∧ W.heap[w.heap.size + 1]? = some (.cells (i16s ps) 37 (0, 0)) ∧ W.heap[w.heap.size + 1 + 1]? = some (.cells (flQ (List.replicate 24 0)) 23 (0, 0)) ∧ W.heap[w.heap.size + 1 + 1 + 1]? = some (.cells #[.slice (some ⟨w.heap.size + 1 + 1, 0, none⟩) 24 24] 30 (0, 0)) ∧ Below w.heap.size w W) ⟨(four_new _ _ _ _ _).1, (four_new _ _ _ _ _).2.1, (four_new _ _ _ _ _).2.2.1, (four_new _ _ _ _ _).2.2.2.1, (four_new _ _ _ _ _).2.2.2.2⟩ ?_
  rintro W0 ⟨r0, r1, r2, r3, hb⟩
  have hl3 := row_lt r3
  have n01 : w.heap.size < w.heap.size + 1 := by omega
  have n12 : w.heap.size + 1 < w.heap.size + 1 + 1 := by omega
  have n23 : w.heap.size + 1 + 1 < w.heap.size + 1 + 1 + 1 := by omega
  generalize w.heap.size + 1 + 1 + 1 = b3 at *
  generalize w.heap.size + 1 + 1 = b2 at *
  generalize w.heap.size + 1 = b1 at *
  have hle : w.heap.size ≤ W0.heap.size := hb.size
  have R0 := Lib.hid r0
  have R1 := Lib.hid r1
  have R2 := Lib.hid r2
  have R3 := Lib.hid r3
  have HB := Lib.hid hb
  clear r0 r1 r2 r3 hb hmk
  go_wp2
  refine (wpIn_wide (n := 4)).1 ?_
  refine wpIn_rangeFunc_ownF rfl (by decide) (gf := 50) (lb := #[]) rfl trivial (enters_of Tryz.func50 (by kernel_rfl) rfl)
    (eachHour_stops Fence.wide _ trivial rfl (by decide) w.heap.size _) belowK_t (belowK_b hle) (Below.refl _ _) (fun _ => rfl)
    (LgI w (dayC hs ts fc lo hi n wd gp t sh) (i16s ps) b1 b2 b3 g) (fun _ _ _ => False) (lgI_own w _ _ b1 b2 b3 g _ (by first | (simp; done) | (simp; omega) | exact hle)) (fun _ _ _ _ _ hs _ _ => hs) ?h0
    (fun x => { tmps := #[.agg (dayC hs ts fc lo hi n wd gp t sh), .agg (i16s ps), .pointer (some ⟨w.heap.size, 0, none⟩), .pointer (some ⟨b1, 0, none⟩), .slice none 0 0, .pointer (some ⟨b3, 0, none⟩), .int .i64 x.1, .slice (some ⟨b2, 0, none⟩) 24 24, .int .i64 x.1, undef, undef, undef, undef, undef, undef, undef, undef, undef, undef, undef], defers := [] }) ?assign ?body ?done ?stop
  case h0 => exact ⟨List.replicate 24 0, by simp, ⟨R0.out, R1.out, R3.out⟩, R2.out, fun _ j hj => by simp at hj, HB.out⟩
  case assign =>
    intro l x W K hK
    gi_wp2
    exact hK
  case body =>
    rintro l pre ⟨x, hx0, hx1⟩ W ⟨zs, hz, ⟨h0, h1, h3⟩, h2, hg, hbw⟩ hl
    obtain ⟨k, rfl⟩ := Int.eq_ofNat_of_zero_le hx0
    have hk : k < 24 := by omega
    have H0 := Lib.hid h0
    have H1 := Lib.hid h1
    have H2 := Lib.hid h2
    have H3 := Lib.hid h3
    have hK0 := HKQ.out k hk
    have hT0 := HTL.out k hk
    obtain ⟨tl, hE⟩ : ∃ tl, ps[k]?.getD 0 = tl := ⟨_, rfl⟩
    rw [hE] at hK0 hT0
    have EX := Lib.hid hE
    have hw : IntKind.i64.wrap tl = tl := i64_small _ (by omega) (by omega)
    have hM : Hid (Good (pre ++ [⟨(k : Int), hx0, hx1⟩]) → ∀ j, j < (pre ++ [(⟨(k : Int), hx0, hx1⟩ : Hr)]).length → (zs.set k (g k))[j]? = some (g j)) := by
      intro hgs j hj
      obtain ⟨hgp, hxk⟩ := good_snoc hgs hl
      have hkl : k = pre.length := by have : (k : Int) = (pre.length : Int) := hxk; omega
      rw [List.length_append, List.length_singleton] at hj
      by_cases e : j = k
      · subst e
        rw [List.getElem?_set_self (by omega)]
      · rw [List.getElem?_set_ne (by omega)]
        exact hg hgp j (by omega)
    have HBW := Lib.hid hbw
    have z1 : (k : Int) < 24 := by omega
    have z2 : (0 : Int) ≤ (k : Int) := by omega
    have HK := Lib.hid hK0
    clear hg hE hT0 h0 h1 h2 h3 hbw hK0
    gi_wp2
    refine region_round (S := (fun V => V.heap[w.heap.size]? = some (.cells (dayC hs ts fc lo hi n wd gp t sh) 69 (0, 0)) ∧ V.heap[b1]? = some (.cells (i16s ps) 37 (0, 0)) ∧ V.heap[b3]? = some (.cells #[.slice (some ⟨b2, 0, none⟩) 24 24] 30 (0, 0)))) arrU (no_defer (by rfl)) (fun ⟨_, _, h⟩ => h) ⟨H0.out, H1.out, H3.out⟩ (fun hHeld => ?_)
    refine take_at (i := 0) (d := 9) (v := ?_) rfl rfl (by kernel_rfl) (by kernel_rfl) (by kernel_rfl) (fun _ _ _ h => h) (Or.inl ⟨by rfl, ?hy0u13⟩) hHeld ?rest0u13
    case hy0u13 =>
      intro w' hS'
      have q : w'.cell? ⟨b3, 0, none⟩ = some (.slice (some ⟨b2, 0, none⟩) 24 24) := by rw [cell_of_row _ _ _ _ _ _ hS'.2.2]; rfl
      go_simp
      try with_reducible rfl
    simp only [List.setIfInBounds_toArray, List.set_cons_zero, List.set_cons_succ]
    refine take_at (i := 1) (d := 10) (v := ?_) rfl rfl (by kernel_rfl) (by kernel_rfl) (by kernel_rfl) (fun _ _ _ h => h) (Or.inl ⟨by rfl, ?hy1u14⟩) hHeld ?rest1u14
    case hy1u14 =>
      intro w' hS'
      go_simp
      try with_reducible rfl
    simp only [List.setIfInBounds_toArray, List.set_cons_zero, List.set_cons_succ]
    refine take_at (i := 2) (d := 11) (v := .agg (dayC hs ts fc lo hi n wd gp t sh)) rfl rfl (by kernel_rfl) (by kernel_rfl) (by kernel_rfl) (fun _ _ _ h => h) (yields_part (by rfl) 69 (.tmp 2) (by rfl) w.heap.size 0 56 (by rfl) 69 (dayC hs ts fc lo hi n wd gp t sh) (0, 0) _ (fun _ h => h.1) Tryz.underlying69 rfl info_dy (dy_fits 56 (by decide) hs ts Hh.out Ht.out fc lo hi n wd gp t sh) (dayC hs ts fc lo hi n wd gp t sh) (dy_all hs ts Hh.out Ht.out fc lo hi n wd gp t sh)) hHeld ?_
    simp only [List.setIfInBounds_toArray, List.set_cons_zero, List.set_cons_succ]
    refine take_at (i := 3) (d := 12) (v := ?_) rfl rfl (by kernel_rfl) (by kernel_rfl) (by kernel_rfl) (fun _ _ _ h => h) (Or.inl ⟨by rfl, ?hy3u15⟩) hHeld ?rest3u15
    case hy3u15 =>
      intro w' hS'
      go_simp
      try with_reducible rfl
    simp only [List.setIfInBounds_toArray, List.set_cons_zero, List.set_cons_succ]
    refine take_at (i := 4) (d := 13) (v := ?_) rfl rfl (by kernel_rfl) (by kernel_rfl) (by kernel_rfl) (fun _ _ _ h => h) (Or.inl ⟨by rfl, ?hy4u16⟩) hHeld ?rest4u16
    case hy4u16 =>
      intro w' hS'
      go_simp
      try with_reducible rfl
    simp only [List.setIfInBounds_toArray, List.set_cons_zero, List.set_cons_succ]
    refine take_at (i := 5) (d := 14) (v := ?_) rfl rfl (by kernel_rfl) (by kernel_rfl) (by kernel_rfl) (fun _ _ _ h => h) (Or.inl ⟨by rfl, ?hy5u17⟩) hHeld ?rest5u17
    case hy5u17 =>
      intro w' hS'
      go_simp
      try with_reducible rfl
    simp only [List.setIfInBounds_toArray, List.set_cons_zero, List.set_cons_succ]
    refine take_at (i := 6) (d := 15) (v := ?_) rfl rfl (by kernel_rfl) (by kernel_rfl) (by kernel_rfl) (fun _ _ _ h => h) (Or.inl ⟨by rfl, ?hy6u18⟩) hHeld ?rest6u18
    case hy6u18 =>
      intro w' hS'
      have q := cell_of_i16s hS'.2.1 k (by rw [Hp.out]; exact hk)
      rw [EX.out] at q
      go_simp
      try with_reducible rfl
    simp only [List.setIfInBounds_toArray, List.set_cons_zero, List.set_cons_succ]
    refine take_at (i := 7) (d := 16) (v := ?_) rfl rfl (by kernel_rfl) (by kernel_rfl) (by kernel_rfl) (fun _ _ _ h => h) (Or.inl ⟨by rfl, ?hy7u19⟩) hHeld ?rest7u19
    case hy7u19 =>
      intro w' hS'
      go_simp
      try with_reducible rfl
    simp only [List.setIfInBounds_toArray, List.set_cons_zero, List.set_cons_succ]
    refine wpAnyH_ready (rs := [8]) (by kernel_rfl) (by simp) ?_
    refine AllReadyH.cons rfl (fun K hK => ?_) AllReadyH.nil
    go_simp
    refine (HK.out _).mono ?_
    rintro e W1 ⟨rfl, hb1⟩
    refine hK.out _ _ (⟨below_row hb1 hHeld.1, below_row hb1 hHeld.2.1, below_row hb1 hHeld.2.2⟩) (fun hHeld2 => ?_)
    clear hK K
    replace hHeld := hHeld2
    clear hHeld2
    refine take_at (i := 9) (d := 18) (v := ?_) rfl rfl (by kernel_rfl) (by kernel_rfl) (by kernel_rfl) (fun _ _ _ h => h) (Or.inl ⟨by rfl, ?hy9u20⟩) hHeld ?rest9u20
    case hy9u20 =>
      intro w' hS'
      go_simp
      try with_reducible rfl
    simp only [List.setIfInBounds_toArray, List.set_cons_zero, List.set_cons_succ]
    have HB1 : Hid (Below W.heap.size W W1) := (Below.refl W.heap.size W).drew.trans hb1
    clear hb1
    have h2 : W1.heap[b2]? = some (.cells (flQ zs) 23 (0, 0)) := below_row HB1.out H2.out
    have c2 := flQ_cell h2 k (by omega)
    have f2 := frozen_of_row W1 b2 k _ _ h2
    have H2B := Lib.hid h2
    clear h2
    refine wpAnyH_ready (rs := [10]) (by kernel_rfl) (by simp) ?_
    refine AllReadyH.cons rfl (fun K hK => ?_) AllReadyH.nil
    go_simp
    refine hK.out _ _ ⟨(heap_setCell_other _ _ _ _ (by simp; omega)).trans hHeld.1, (heap_setCell_other _ _ _ _ (by simp; omega)).trans hHeld.2.1, (heap_setCell_other _ _ _ _ (by simp; omega)).trans hHeld.2.2⟩ (fun hHeld2 => ?_)
    clear hK K
    refine wpAnyH_done (by kernel_rfl) ?_ _
    clear hHeld2
    have hwW := HBW.out.size
    gi_wp2
    exact ⟨(keeps_of_below HB1.out).trans (KeepsOthers.setCell _ _ _), (HB1.out.mono hwW).setCell (p := ⟨b2, k, none⟩) (by simp; omega) _, zs.set k (g k), by rw [List.length_set]; exact hz, ⟨(heap_setCell_other _ _ _ _ (by simp; omega)).trans (below_row HB1.out H0.out), (heap_setCell_other _ _ _ _ (by simp; omega)).trans (below_row HB1.out H1.out), (heap_setCell_other _ _ _ _ (by simp; omega)).trans (below_row HB1.out H3.out)⟩, flQ_store H2B.out k (g k), hM.out, (HBW.out.trans (HB1.out.mono hwW)).setCell (p := ⟨b2, k, none⟩) (by simp; omega) _⟩
  case done =>
    rintro D xs W hD rfl ⟨zs, hz, ⟨h0, h1, h3⟩, h2, hg, hbw⟩ hK
    rename_i K hcont
    have hD' : w.heap.size ≤ D := by first | omega | (simp at hD; omega)
    have hDb : D ≠ b2 := by first | omega | (simp at hD; omega)
    have c3 : W.cell? ⟨b3, 0, none⟩ = some (.slice (some ⟨b2, 0, none⟩) 24 24) := by rw [cell_of_row _ _ _ _ _ _ h3]; rfl
    have HQ : Hid (∀ j, j < 24 → zs[j]? = some (g j)) := fun j hj => hg good_all j (by rw [hrs_length]; exact hj)
    have H2 := Lib.hid h2
    have HK := Lib.hid hK
    have HBW := Lib.hid hbw
    clear hg hK h0 h1 h2 h3 hbw
    refine hcont _ _ ?_
    go_wp2
    refine ⟨by simp, .inl ⟨_, _, rfl, run_takeDeferred HK.out, ?_⟩⟩
    refine ⟨_, results_tmp (fn := Tryz.f32) rfl _ _ _, ⟨_, rfl, ?_⟩, HBW.out.trans (belowK_b (w := w) (Nat.le_refl _) W D _ _ hD' HK.out rfl rfl)⟩
    refine ⟨some ⟨b2, 0, none⟩, 24, rfl, by unfold maxLen; omega, by simp, .inr ⟨b2, flQ zs, rfl, by omega, (World.putObj_heap_other (Ne.symm hDb)).trans H2.out, fun j hj => ?_⟩⟩
    have hj' : j < 24 := by simpa using hj
    have hx := HQ.out j hj'
    have hjz : j < zs.length := by omega
    simp only [flQ, List.getElem?_toArray, List.getElem?_map, hx, List.getElem?_range hj', Option.map_some]
  case stop =>
    rintro D c pre W _ _ h _
    exact h.elim

end Go.Proofs.YtdbleddcnknmiaaGreatDoor

namespace Go.Proofs.YtdbleddcnknmiaaGreatDoor
open Go.ChangeShapes Go.WideShapes Go.ChangeAt Go.RowKit Go.Deep Go.Joins

attribute [local go_sem] run_store_f

/-- A list of numbers and a code, the list being the call's own. -/
def RetFQ (xs : List Nat) (c : Int) (w : World) (e : Ending) (w' : World) : Prop := (∃ v, e = .returned (.tuple #[v, .int .i64 c]) ∧ Own w' w.heap.size 23 (Value.float .f32) v xs) ∧ Below w.heap.size w w'

theorem infoQ : (Tryz.prog.info? 23).map (fun i => (i.zero, i.size, i.bytes)) = some (some (.float .f32 0), 1, 4) := by kernel_rfl

theorem row_baseL {W : World} {base k : Nat} {e : TypeId} {v : Value} {xs : List Value} (h : W.ownsRow base e 1 v k xs) : ∀ j, v.ownBlock = some j → base ≤ j := fun j e => (h.lt j e).1

def upTo (g : Nat → Nat) (k : Nat) : List Nat := (List.range k).map g

theorem upTo_len (g : Nat → Nat) (k : Nat) : (upTo g k).length = k := by simp [upTo]

theorem upTo_succ (g : Nat → Nat) (k : Nat) : upTo g (k + 1) = upTo g k ++ [g k] := by simp [upTo, List.range_succ]

set_option maxRecDepth 100000 in
set_option maxHeartbeats 4000000 in
theorem iPlanLight_no (n : Int) (wd gp : Nat) (t : Int) (sh : Nat) (hs ts : List Int) (hh : hs.length = 24) (ht : ts.length = 24) (fc : Int) (ps : List Int) (hp : ps.length = 24) (T0 : -32768 ≤ t) (T1 : t ≤ 32767) (fv : Bool) (hf : inF fc = fv) (c : Int) (hc : cdP (okP ps) (okBl n wd gp t sh) (okB hs ts) fv = c) (hne : c ≠ 0) (w : World) (hE : ErrT w) :
    Calls Tryz.prog 11 #[.agg (blindC n wd gp t sh), .agg (sunC hs ts), .int .i64 fc, .agg (i16s ps)] w (RetFQ [] c w) := by
  have HC := Lib.hid (fun w => checkPlanned_no n wd gp t sh hs ts hh ht ps hp T0 T1 fv c hc hne w)
  have HD := Lib.hid (fun w hE => codeD_call c w hE)
  have HF := Lib.hid hf
  have Hh := Lib.hid hh
  have Ht := Lib.hid ht
  have Hp := Lib.hid hp
  have hn := fun w => run_neq_held_nil (P := Tryz.prog) (w := w) 61 90 (.agg #[.int .i64 c]) (by kernel_rfl)
  have HE0 := Lib.hid hE
  clear hh ht hp hc hne hE hf
  go_enter Tryz.func11, Tryz.ntmps11
  go_upto_region 1 with (fail)
  refine abs_code (fun W => W.heap[w.heap.size]? = some (.cells (blindC n wd gp t sh) 33 (0, 0)) ∧ W.heap[w.heap.size + 1]? = some (.cells (sunC hs ts) 35 (0, 0)) ∧ W.heap[w.heap.size + 1 + 1]? = some (.cells (i16s ps) 37 (0, 0)) ∧ Below w.heap.size w W) ⟨(three_new _ _ _ _).1, (three_new _ _ _ _).2.1, (three_new _ _ _ _).2.2.1, (three_new _ _ _ _).2.2.2⟩ ?_
  rintro W ⟨h0, h1, h2, hb⟩
  generalize w.heap.size + 1 + 1 = b2 at *
  generalize w.heap.size + 1 = b1 at *
  have H0 := Lib.hid h0
  have H1 := Lib.hid h1
  have H2 := Lib.hid h2
  clear h0 h1 h2
  have HE := Lib.hid (errT_below HE0.out hb)
  refine wp_region_held_drew (S := (fun V => Below W.heap.size W V)) (by kernel_rfl) (Below.refl _ _).drew (fun hHeld => ?_)
  refine take_op (i := 0) (d := 11) (v := .agg (blindC n wd gp t sh)) rfl rfl (by kernel_rfl) (by kernel_rfl) (by kernel_rfl) (fun _ _ _ h => h) (yields_row (by rfl) 33 (.tmp 4) (by rfl) w.heap.size 0 5 (by rfl) 33 (blindC n wd gp t sh) (0, 0) _ (fun _ h => below_row h H0.out) Tryz.underlying33 rfl info_blind (blind_fits _ _ _ _ _) (blindC n wd gp t sh) (blind_all _ _ _ _ _)) hHeld ?_
  simp only [List.setIfInBounds_toArray, List.set_cons_zero, List.set_cons_succ]
  refine take_op (i := 1) (d := 12) (v := .agg (sunC hs ts)) rfl rfl (by kernel_rfl) (by kernel_rfl) (by kernel_rfl) (fun _ _ _ h => h) (yields_row (by rfl) 35 (.tmp 5) (by rfl) b1 0 48 (by rfl) 35 (sunC hs ts) (0, 0) _ (fun _ h => below_row h H1.out) Tryz.underlying35 rfl info_sun (sun_fits _ _ Hh.out Ht.out) (sunC hs ts) (sun_all _ _ Hh.out Ht.out)) hHeld ?_
  simp only [List.setIfInBounds_toArray, List.set_cons_zero, List.set_cons_succ]
  refine take_op (i := 2) (d := 13) (v := .agg (i16s ps)) rfl rfl (by kernel_rfl) (by kernel_rfl) (by kernel_rfl) (fun _ _ _ h => h) (yields_row (by rfl) 37 (.tmp 7) (by rfl) b2 0 24 (by rfl) 37 (i16s ps) (0, 0) _ (fun _ h => below_row h H2.out) Tryz.underlying37 rfl info_plan (by rw [i16s_size, Hp.out]; decide) (i16s ps) (i16s_all _ 24 Hp.out)) hHeld ?_
  simp only [List.setIfInBounds_toArray, List.set_cons_zero, List.set_cons_succ]
  refine take_op (i := 3) (d := 14) (v := ?_) rfl rfl (by kernel_rfl) (by kernel_rfl) (by kernel_rfl) (fun _ _ _ h => h) (Or.inl ⟨by rfl, ?hy3u208⟩) hHeld ?rest3u208
  case hy3u208 =>
    intro w' hS'
    go_simp
    try with_reducible rfl
  simp only [List.setIfInBounds_toArray, List.set_cons_zero, List.set_cons_succ]
  refine wpAnyH_ready (rs := [4]) (by kernel_rfl) (by simp) ?_
  refine AllReadyH.cons rfl (fun K hK => ?_) AllReadyH.nil
  go_simp
  refine (isFacing_is fc fv HF.out _).mono ?_
  rintro e w' ⟨rfl, rfl⟩
  refine hK.out _ _ (hHeld) (fun hHeld2 => ?_)
  clear hK K
  replace hHeld := hHeld2
  clear hHeld2
  refine wpAnyH_ready (rs := [5]) (by kernel_rfl) (by simp) ?_
  refine AllReadyH.cons rfl (fun K hK => ?_) AllReadyH.nil
  go_simp
  refine (HC.out _).mono ?_
  rintro e W1 ⟨rfl, hb1⟩
  refine hK.out _ _ (hHeld.trans (hb1.mono hHeld.size)) (fun hHeld2 => ?_)
  clear hK K
  replace hHeld := hHeld2
  clear hHeld2
  clear hb1
  refine take_op (i := 6) (d := 10) (v := ?_) rfl rfl (by kernel_rfl) (by kernel_rfl) (by kernel_rfl) (fun _ _ _ h => h) (Or.inl ⟨by rfl, ?hy6u209⟩) hHeld ?rest6u209
  case hy6u209 =>
    intro w' hS'
    go_simp
    try with_reducible rfl
  simp only [List.setIfInBounds_toArray, List.set_cons_zero, List.set_cons_succ]
  refine wpAnyH_done (by kernel_rfl) ?_ _
  replace H0 := Lib.hid (below_row hHeld H0.out)
  replace H1 := Lib.hid (below_row hHeld H1.out)
  replace H2 := Lib.hid (below_row hHeld H2.out)
  replace hb := hb.trans (hHeld.mono hb.size)
  replace HE := Lib.hid (errT_below HE.out hHeld)
  clear hHeld
  go_wp2_with (go_at_call 30; refine (HD.out _ HE.out).mono ?_; rintro e W9 ⟨rfl, hb1⟩; replace hb := hb.trans (hb1.mono hb.size); clear hb1)
  go_ret2
  exact ⟨⟨_, rfl, ⟨none, 0, rfl, Nat.zero_le _, Nat.le_refl _, .inl ⟨rfl, rfl⟩⟩⟩, hb⟩

set_option maxRecDepth 100000 in
set_option maxHeartbeats 4000000 in
theorem iPlanLight_yes (n : Int) (wd gp : Nat) (t : Int) (sh : Nat) (hs ts : List Int) (hh : hs.length = 24) (ht : ts.length = 24) (fc : Int) (ps : List Int) (hp : ps.length = 24) (bw : BlWf n wd gp t sh) (T0 : -32768 ≤ t) (T1 : t ≤ 32767) (hf : inF fc = true) (hc : cdP (okP ps) (okBl n wd gp t sh) (okB hs ts) true = 0) (w : World) :
    Calls Tryz.prog 11 #[.agg (blindC n wd gp t sh), .agg (sunC hs ts), .int .i64 fc, .agg (i16s ps)] w (RetFQ (upTo (fun k : Nat => winB wd gp (ps[k]?.getD 0) sh hs ts (k : Int) fc) 24) 0 w) := by
  have HC := Lib.hid (fun w => checkPlanned_ok n wd gp t sh hs ts hh ht ps hp T0 T1 true hc w)
  obtain ⟨ho, hk, hos, _⟩ := cdP_yes hc
  have OK := blok_of bw hk
  have dh : DyHr hs ts fc := ⟨fun k hk => hrok_of hh ht hos (by omega) (by omega) hf⟩
  have HDO := Lib.hid (fun w => dayOf_any hs ts hh ht fc 0 0 n wd gp t sh w)
  have HLI := Lib.hid (fun w => lights_any hs ts hh ht fc 0 0 n wd gp t sh OK dh ps hp ho w)
  have HF := Lib.hid hf
  have Hh := Lib.hid hh
  have Ht := Lib.hid ht
  have Hp := Lib.hid hp
  have hn := fun w => run_neq_nil_nil (P := Tryz.prog) (w := w) 61 (by kernel_rfl)
  have hbt : Tryz.prog.built 67 [] = some (bnC 0 0) := by kernel_rfl
  unfold upTo
  generalize (fun k : Nat => winB wd gp (ps[k]?.getD 0) sh hs ts (k : Int) fc) = g at *
  clear hh ht hp hc hf OK dh bw
  go_enter Tryz.func11, Tryz.ntmps11
  go_upto_region 1 with (fail)
  refine abs_code (fun W => W.heap[w.heap.size]? = some (.cells (blindC n wd gp t sh) 33 (0, 0)) ∧ W.heap[w.heap.size + 1]? = some (.cells (sunC hs ts) 35 (0, 0)) ∧ W.heap[w.heap.size + 1 + 1]? = some (.cells (i16s ps) 37 (0, 0)) ∧ Below w.heap.size w W) ⟨(three_new _ _ _ _).1, (three_new _ _ _ _).2.1, (three_new _ _ _ _).2.2.1, (three_new _ _ _ _).2.2.2⟩ ?_
  rintro W ⟨h0, h1, h2, hb⟩
  generalize w.heap.size + 1 + 1 = b2 at *
  generalize w.heap.size + 1 = b1 at *
  have H0 := Lib.hid h0
  have H1 := Lib.hid h1
  have H2 := Lib.hid h2
  clear h0 h1 h2
  refine wp_region_held_drew (S := (fun V => Below W.heap.size W V)) (by kernel_rfl) (Below.refl _ _).drew (fun hHeld => ?_)
  refine take_op (i := 0) (d := 11) (v := .agg (blindC n wd gp t sh)) rfl rfl (by kernel_rfl) (by kernel_rfl) (by kernel_rfl) (fun _ _ _ h => h) (yields_row (by rfl) 33 (.tmp 4) (by rfl) w.heap.size 0 5 (by rfl) 33 (blindC n wd gp t sh) (0, 0) _ (fun _ h => below_row h H0.out) Tryz.underlying33 rfl info_blind (blind_fits _ _ _ _ _) (blindC n wd gp t sh) (blind_all _ _ _ _ _)) hHeld ?_
  simp only [List.setIfInBounds_toArray, List.set_cons_zero, List.set_cons_succ]
  refine take_op (i := 1) (d := 12) (v := .agg (sunC hs ts)) rfl rfl (by kernel_rfl) (by kernel_rfl) (by kernel_rfl) (fun _ _ _ h => h) (yields_row (by rfl) 35 (.tmp 5) (by rfl) b1 0 48 (by rfl) 35 (sunC hs ts) (0, 0) _ (fun _ h => below_row h H1.out) Tryz.underlying35 rfl info_sun (sun_fits _ _ Hh.out Ht.out) (sunC hs ts) (sun_all _ _ Hh.out Ht.out)) hHeld ?_
  simp only [List.setIfInBounds_toArray, List.set_cons_zero, List.set_cons_succ]
  refine take_op (i := 2) (d := 13) (v := .agg (i16s ps)) rfl rfl (by kernel_rfl) (by kernel_rfl) (by kernel_rfl) (fun _ _ _ h => h) (yields_row (by rfl) 37 (.tmp 7) (by rfl) b2 0 24 (by rfl) 37 (i16s ps) (0, 0) _ (fun _ h => below_row h H2.out) Tryz.underlying37 rfl info_plan (by rw [i16s_size, Hp.out]; decide) (i16s ps) (i16s_all _ 24 Hp.out)) hHeld ?_
  simp only [List.setIfInBounds_toArray, List.set_cons_zero, List.set_cons_succ]
  refine take_op (i := 3) (d := 14) (v := ?_) rfl rfl (by kernel_rfl) (by kernel_rfl) (by kernel_rfl) (fun _ _ _ h => h) (Or.inl ⟨by rfl, ?hy3u214⟩) hHeld ?rest3u214
  case hy3u214 =>
    intro w' hS'
    go_simp
    try with_reducible rfl
  simp only [List.setIfInBounds_toArray, List.set_cons_zero, List.set_cons_succ]
  refine wpAnyH_ready (rs := [4]) (by kernel_rfl) (by simp) ?_
  refine AllReadyH.cons rfl (fun K hK => ?_) AllReadyH.nil
  go_simp
  refine (isFacing_is fc true HF.out _).mono ?_
  rintro e w' ⟨rfl, rfl⟩
  refine hK.out _ _ (hHeld) (fun hHeld2 => ?_)
  clear hK K
  replace hHeld := hHeld2
  clear hHeld2
  refine wpAnyH_ready (rs := [5]) (by kernel_rfl) (by simp) ?_
  refine AllReadyH.cons rfl (fun K hK => ?_) AllReadyH.nil
  go_simp
  refine (HC.out _).mono ?_
  rintro e W1 ⟨rfl, hb1⟩
  refine hK.out _ _ (hHeld.trans (hb1.mono hHeld.size)) (fun hHeld2 => ?_)
  clear hK K
  replace hHeld := hHeld2
  clear hHeld2
  clear hb1
  refine take_op (i := 6) (d := 10) (v := ?_) rfl rfl (by kernel_rfl) (by kernel_rfl) (by kernel_rfl) (fun _ _ _ h => h) (Or.inl ⟨by rfl, ?hy6u215⟩) hHeld ?rest6u215
  case hy6u215 =>
    intro w' hS'
    go_simp
    try with_reducible rfl
  simp only [List.setIfInBounds_toArray, List.set_cons_zero, List.set_cons_succ]
  refine wpAnyH_done (by kernel_rfl) ?_ _
  replace H0 := Lib.hid (below_row hHeld H0.out)
  replace H1 := Lib.hid (below_row hHeld H1.out)
  replace H2 := Lib.hid (below_row hHeld H2.out)
  replace hb := hb.trans (hHeld.mono hb.size)
  clear hHeld
  go_upto_region 4 with (fail)
  refine wp_region_held_drew (S := (fun V => Below W1.heap.size W1 V)) (by kernel_rfl) (Below.refl _ _).drew (fun hHeld => ?_)
  refine take_op (i := 0) (d := 21) (v := .agg (blindC n wd gp t sh)) rfl rfl (by kernel_rfl) (by kernel_rfl) (by kernel_rfl) (fun _ _ _ h => h) (yields_row (by rfl) 33 (.tmp 4) (by rfl) w.heap.size 0 5 (by rfl) 33 (blindC n wd gp t sh) (0, 0) _ (fun _ h => below_row h H0.out) Tryz.underlying33 rfl info_blind (blind_fits _ _ _ _ _) (blindC n wd gp t sh) (blind_all _ _ _ _ _)) hHeld ?_
  simp only [List.setIfInBounds_toArray, List.set_cons_zero, List.set_cons_succ]
  refine take_op (i := 1) (d := 22) (v := .agg (sunC hs ts)) rfl rfl (by kernel_rfl) (by kernel_rfl) (by kernel_rfl) (fun _ _ _ h => h) (yields_row (by rfl) 35 (.tmp 5) (by rfl) b1 0 48 (by rfl) 35 (sunC hs ts) (0, 0) _ (fun _ h => below_row h H1.out) Tryz.underlying35 rfl info_sun (sun_fits _ _ Hh.out Ht.out) (sunC hs ts) (sun_all _ _ Hh.out Ht.out)) hHeld ?_
  simp only [List.setIfInBounds_toArray, List.set_cons_zero, List.set_cons_succ]
  refine take_op (i := 2) (d := 23) (v := ?_) rfl rfl (by kernel_rfl) (by kernel_rfl) (by kernel_rfl) (fun _ _ _ h => h) (Or.inl ⟨by rfl, ?hy2u210⟩) hHeld ?rest2u210
  case hy2u210 =>
    intro w' hS'
    go_simp
    try with_reducible rfl
  simp only [List.setIfInBounds_toArray, List.set_cons_zero, List.set_cons_succ]
  refine take_op (i := 3) (d := 24) (v := ?_) rfl rfl (by kernel_rfl) (by kernel_rfl) (by kernel_rfl) (fun _ _ _ h => h) (Or.inl ⟨by rfl, ?hy3u211⟩) hHeld ?rest3u211
  case hy3u211 =>
    intro w' hS'
    go_simp
    try with_reducible rfl
  simp only [List.setIfInBounds_toArray, List.set_cons_zero, List.set_cons_succ]
  refine take_op (i := 5) (d := 26) (v := .agg (i16s ps)) rfl rfl (by kernel_rfl) (by kernel_rfl) (by kernel_rfl) (fun _ _ _ h => h) (yields_row (by rfl) 37 (.tmp 7) (by rfl) b2 0 24 (by rfl) 37 (i16s ps) (0, 0) _ (fun _ h => below_row h H2.out) Tryz.underlying37 rfl info_plan (by rw [i16s_size, Hp.out]; decide) (i16s ps) (i16s_all _ 24 Hp.out)) hHeld ?_
  simp only [List.setIfInBounds_toArray, List.set_cons_zero, List.set_cons_succ]
  refine wpAnyH_ready (rs := [4]) (by kernel_rfl) (by simp) ?_
  refine AllReadyH.cons rfl (fun K hK => ?_) AllReadyH.nil
  go_simp
  refine (HDO.out _).mono ?_
  rintro e W5 ⟨rfl, hb1⟩
  refine hK.out _ _ (hHeld.trans (hb1.mono hHeld.size)) (fun hHeld2 => ?_)
  clear hK K
  replace hHeld := hHeld2
  clear hHeld2
  clear hb1
  have hsz := hHeld.size
  refine wpAnyH_ready (rs := [6]) (by kernel_rfl) (by simp) ?_
  refine AllReadyH.cons rfl (fun K hK => ?_) AllReadyH.nil
  go_simp
  refine (HLI.out _).mono ?_
  rintro e W6 ⟨⟨v, rfl, hv⟩, hb1⟩
  refine hK.out _ _ (hHeld.trans (hb1.mono hHeld.size)) (fun hHeld2 => ?_)
  clear hK K
  replace hHeld := hHeld2
  clear hHeld2
  clear hb1
  refine take_op (i := 7) (d := 8) (v := ?_) rfl rfl (by kernel_rfl) (by kernel_rfl) (by kernel_rfl) (fun _ _ _ h => h) (Or.inl ⟨by rfl, ?hy7u212⟩) hHeld ?rest7u212
  case hy7u212 =>
    intro w' hS'
    go_simp
    try with_reducible rfl
  simp only [List.setIfInBounds_toArray, List.set_cons_zero, List.set_cons_succ]
  refine take_op (i := 8) (d := 9) (v := ?_) rfl rfl (by kernel_rfl) (by kernel_rfl) (by kernel_rfl) (fun _ _ _ h => h) (Or.inl ⟨by rfl, ?hy8u213⟩) hHeld ?rest8u213
  case hy8u213 =>
    intro w' hS'
    go_simp
    try with_reducible rfl
  simp only [List.setIfInBounds_toArray, List.set_cons_zero, List.set_cons_succ]
  refine wpAnyH_done (by kernel_rfl) ?_ _
  have hs2 := hb.size
  replace hb := hb.trans (hHeld.mono hb.size)
  clear hHeld H0 H1 H2
  go_wp2
  go_ret2
  exact ⟨⟨_, rfl, own_below hv (Below.refl _ _) (Nat.le_trans hs2 hsz)⟩, hb⟩

set_option maxRecDepth 100000 in
set_option maxHeartbeats 4000000 in
theorem sPlanLight_no (n : Int) (wd gp : Nat) (t : Int) (sh : Nat) (hs ts : List Int) (hh : hs.length = 24) (ht : ts.length = 24) (fc : Int) (ps : List Int) (hp : ps.length = 24) (T0 : -32768 ≤ t) (T1 : t ≤ 32767) (N0 : -128 ≤ n) (N1 : n ≤ 127) (rb : ∀ x ∈ hs ++ ts, -32768 ≤ x ∧ x ≤ 32767) (pb : ∀ x ∈ ps, -32768 ≤ x ∧ x ≤ 32767) (fv : Bool) (hf : inF fc = fv) (c : Int) (hc : cdP (okP ps) (okBl n wd gp t sh) (okB hs ts) fv = c) (hne : c ≠ 0) (w : World) :
    Calls Tryz.prog 7 #[.agg (blindC n wd gp t sh), .agg (sunC hs ts), .int .i64 fc, .agg (i16s ps)] w (RetFQ [] c w) := by
  have HA := Lib.hid (fun g1 g2 g3 w q1 q2 q3 => l07Asked_is n wd gp t sh hs ts hh ht ps hp T0 T1 N0 N1 rb pb fv c hc g1 g2 g3 w q1 q2 q3)
  have HF := Lib.hid hf
  clear hh ht hp hc hf T0 T1 N0 N1 rb pb
  go_enter Tryz.func7, Tryz.ntmps7
  go_upto_region 1 with (fail)
  refine abs_code (fun W => W.heap[w.heap.size]? = some (.cells (blindC n wd gp t sh) 33 (0, 0)) ∧ W.heap[w.heap.size + 1]? = some (.cells (sunC hs ts) 35 (0, 0)) ∧ W.heap[w.heap.size + 1 + 1]? = some (.cells (i16s ps) 37 (0, 0)) ∧ Below w.heap.size w W) ⟨(three_new _ _ _ _).1, (three_new _ _ _ _).2.1, (three_new _ _ _ _).2.2.1, (three_new _ _ _ _).2.2.2⟩ ?_
  rintro W ⟨h0, h1, h2, hb⟩
  generalize w.heap.size + 1 + 1 = b2 at *
  generalize w.heap.size + 1 = b1 at *
  have H0 := Lib.hid h0
  have H1 := Lib.hid h1
  have H2 := Lib.hid h2
  clear h0 h1 h2
  go_wp2_with (first | (go_at_call 25; refine (l01Faced_is fc fv HF.out _).mono ?_; rintro e w' ⟨rfl, rfl⟩) | (go_at_call 24; refine (HA.out _ _ _ _ H0.out H1.out H2.out).mono ?_; rintro e w' ⟨rfl, rfl⟩))
  go_ret2
  exact ⟨⟨_, rfl, ⟨_, 0, rfl, Nat.zero_le _, Nat.le_refl _, .inr ⟨_, #[], rfl, hb.size, heap_alloc_new _ _, fun k hk => absurd hk (Nat.not_lt_zero k)⟩⟩⟩, hb.alloc hb.size _⟩

set_option maxRecDepth 100000 in
set_option maxHeartbeats 4000000 in
theorem sPlanLight_yes (n : Int) (wd gp : Nat) (t : Int) (sh : Nat) (hs ts : List Int) (hh : hs.length = 24) (ht : ts.length = 24) (fc : Int) (ps : List Int) (hp : ps.length = 24) (bw : BlWf n wd gp t sh) (T0 : -32768 ≤ t) (T1 : t ≤ 32767) (N0 : -128 ≤ n) (N1 : n ≤ 127) (rb : ∀ x ∈ hs ++ ts, -32768 ≤ x ∧ x ≤ 32767) (pb : ∀ x ∈ ps, -32768 ≤ x ∧ x ≤ 32767) (hf : inF fc = true) (hc : cdP (okP ps) (okBl n wd gp t sh) (okB hs ts) true = 0) (w : World) :
    Calls Tryz.prog 7 #[.agg (blindC n wd gp t sh), .agg (sunC hs ts), .int .i64 fc, .agg (i16s ps)] w (RetFQ (upTo (fun k : Nat => winB wd gp (ps[k]?.getD 0) sh hs ts (k : Int) fc) 24) 0 w) := by
  obtain ⟨i0, hin, hz0, hz1, hz2⟩ := info_parts infoQ
  have HA := Lib.hid (fun g1 g2 g3 w q1 q2 q3 => l07Asked_is n wd gp t sh hs ts hh ht ps hp T0 T1 N0 N1 rb pb true 0 hc g1 g2 g3 w q1 q2 q3)
  obtain ⟨ho, hk, hos, _⟩ := cdP_yes hc
  have OK := blok_of bw hk
  have dh : DyHr hs ts fc := ⟨fun k hk => hrok_of hh ht hos (by omega) (by omega) hf⟩
  have HF := Lib.hid hf
  have Hp := Lib.hid hp
  have HTL := Lib.hid (fun k hk => plan_tilt hp ho (k := k) hk)
  obtain ⟨g, hgd⟩ : ∃ g : Nat → Nat, g = (fun k : Nat => winB wd gp (ps[k]?.getD 0) sh hs ts (k : Int) fc) := ⟨_, rfl⟩
  have HO : Hid (∀ k : Nat, k < 24 → ∀ (g1 g2 : Nat) (W : World), W.heap[g1]? = some (.cells (blindC n wd gp t sh) 33 (0, 0)) → W.heap[g2]? = some (.cells (sunC hs ts) 35 (0, 0)) → Calls Tryz.prog 26 #[.pointer (some ⟨g1, 0, none⟩), .pointer (some ⟨g2, 0, none⟩), .int .i64 fc, .int .i64 (k : Int), .int .i64 (ps[k]?.getD 0)] W fun e w' => e = .returned (.float .f32 (g k)) ∧ Below W.heap.size W w') := by
    rw [hgd]
    exact fun k hk g1 g2 W q1 q2 => l07At_any n wd gp t sh hs ts hh ht OK fc (k : Int) (ps[k]?.getD 0) (dh.all k hk) (plan_tilt hp ho hk).1 (plan_tilt hp ho hk).2 g1 g2 W q1 q2
  rw [← hgd]
  clear hh ht hp hc hf OK dh bw T0 T1 N0 N1 rb pb ho hgd hk hos
  go_enter Tryz.func7, Tryz.ntmps7
  go_upto_region 1 with (fail)
  refine abs_code (fun W => W.heap[w.heap.size]? = some (.cells (blindC n wd gp t sh) 33 (0, 0)) ∧ W.heap[w.heap.size + 1]? = some (.cells (sunC hs ts) 35 (0, 0)) ∧ W.heap[w.heap.size + 1 + 1]? = some (.cells (i16s ps) 37 (0, 0)) ∧ Below w.heap.size w W) ⟨(three_new _ _ _ _).1, (three_new _ _ _ _).2.1, (three_new _ _ _ _).2.2.1, (three_new _ _ _ _).2.2.2⟩ ?_
  rintro W ⟨h0, h1, h2, hb⟩
  generalize w.heap.size + 1 + 1 = b2 at *
  generalize w.heap.size + 1 = b1 at *
  have H0 := Lib.hid h0
  have H1 := Lib.hid h1
  have H2 := Lib.hid h2
  clear h0 h1 h2
  go_upto_region 4 with (first | (go_at_call 25; refine (l01Faced_is fc true HF.out _).mono ?_; rintro e w' ⟨rfl, rfl⟩) | (go_at_call 24; refine (HA.out _ _ _ _ H0.out H1.out H2.out).mono ?_; rintro e w' ⟨rfl, rfl⟩))
  go_wp2
  have hrow0 : (W.alloc (.cells #[] 23)).ownsRow W.heap.size 23 1 (.slice (some ⟨W.heap.size, 0, none⟩) 0 0) 0 [] := World.ownsRow_made _ _ _ (Nat.le_refl _) (Nat.zero_le _) rfl
  go_loopw [11, 12] (fun o i wr => ∃ (vo : Value) (k : Nat), vo = o ∧ k ≤ 24 ∧ i = .int .i64 (k : Int) ∧ wr.ownsRow W.heap.size 23 1 o (upTo g k).length ((upTo g k).map (Value.float .f32)) ∧ Below W.heap.size W wr) (fun _ i _ => (24 - intOf i).toNat)
  case atStart => exact ⟨_, 0, rfl, Nat.zero_le _, rfl, hrow0, (Below.refl _ _).alloc (Nat.le_refl _) _⟩
  case round =>
    clear hrow0
    obtain ⟨vo, k, rfl, hk, rfl, hrow, hbw⟩ := hrel
    have hwl := upTo_len g k
    by_cases hlt : k < 24
    · have z0 : (0 : Int) ≤ (k : Int) := by omega
      have z1 : (k : Int) < 24 := by omega
      have HX0 := HO.out k hlt
      have hT0 := HTL.out k hlt
      have q := cell_of_i16s (below_row hbw H2.out) k (by rw [Hp.out]; exact hlt)
      obtain ⟨tl, hE⟩ : ∃ tl, ps[k]?.getD 0 = tl := ⟨_, rfl⟩
      rw [hE] at HX0 hT0 q
      have hw : IntKind.i64.wrap tl = tl := i64_small _ (by omega) (by omega)
      have HX := Lib.hid HX0
      have hsz := hbw.size
      have HN : Hid (upTo g (k + 1) = upTo g k ++ [g k]) := upTo_succ g k
      clear HX0 hE hT0
      go_wp2_with (first | (go_at_call 26; refine (HX.out _ _ _ (below_row hbw H0.out) (below_row hbw H1.out)).mono ?_; rintro e W3 ⟨rfl, hb3⟩; have hrow3 := owns_below hrow hb3; have hbw3 := hbw.trans (hb3.mono hbw.size); have hsz3 := hbw3.size) | (at_builtin; refine wpList_append_own _ rfl _ _ 30 rfl W.heap.size 23 i0 (.float .f32 0) 1 4 Tryz.underlying30 hin hz0 hz1 hz2 rfl (by decide) _ _ _ rfl (hrow3.alloc _) ⟨W3.heap.size, 0, none⟩ 1 1 [.float .f32 (g k)] rfl rfl (cell_one_new _ _ _) (by simp [Value.oneCell']) (by unfold maxLen; omega) (by omega) (by simp; omega) ?_; intro v' w1 hown' hgrow _))
      go_roundw
      case rel => exact ⟨_, k + 1, rfl, by omega, by first | (simp; done) | (simp; omega), by rw [HN.out]; simpa using hown', (hbw3.alloc (by omega) _).grown hgrow (by simp; omega) (row_baseL hrow3)⟩
      case measure => simp [intOf]; omega
    · obtain rfl : k = 24 := by omega
      have HR2 : Hid (Own wr W.heap.size 23 (Value.float .f32) vo (upTo g 24)) := own_of_row hrow (by unfold maxLen; omega)
      clear hrow
      go_wp2
      go_ret2
      exact ⟨⟨_, rfl, own_below HR2.out (Below.refl _ _) hb.size⟩, hb.trans (hbw.mono hb.size)⟩

end Go.Proofs.YtdbleddcnknmiaaGreatDoor

namespace Go.Proofs.YtdbleddcnknmiaaGreatDoor
open Go.RowKit

set_option maxRecDepth 100000 in
set_option maxHeartbeats 1000000 in
theorem eqF_same (xs : List Nat) (hfin : ∀ x ∈ xs, fin32 x = true) (v1 v2 : Value) (b1 b2 : Nat) (w : World) (h1 : Own w b1 23 (Value.float .f32) v1 xs) (h2 : Own w b2 23 (Value.float .f32) v2 xs) :
    Calls Tryz.prog 12 #[v1, v2] w fun e w' => e = .returned (.bool true) ∧ Below w.heap.size w w' := by
  obtain ⟨a1, c1, rfl, hm⟩ := own_len h1
  obtain ⟨a2, c2, rfl, _⟩ := own_len h2
  have HO1 : Hid (∀ wr, Below w.heap.size w wr → Own wr b1 23 (Value.float .f32) (.slice a1 xs.length c1) xs) := fun wr hb => own_below h1 hb (Nat.le_refl _)
  have HO2 : Hid (∀ wr, Below w.heap.size w wr → Own wr b2 23 (Value.float .f32) (.slice a2 xs.length c2) xs) := fun wr hb => own_below h2 hb (Nat.le_refl _)
  have HFI := Lib.hid hfin
  clear h1 h2 hfin
  generalize xs.length = n at *
  unfold maxLen at hm
  go_enter Tryz.func12, Tryz.ntmps12
  go_wp2
  go_loopw [5] (fun i wr => ∃ k : Nat, k ≤ n ∧ i = .int .i64 k ∧ Below w.heap.size w wr) (fun i _ => n - (intOf i).toNat)
  case atStart => exact ⟨0, Nat.zero_le _, rfl, Below.refl _ _⟩
  case round =>
    obtain ⟨k, hk, rfl, hb⟩ := hrel
    by_cases hlt : k < n
    · obtain ⟨g1, cur1, rfl, _, hg1, hc1, hm1, x, hx, hk1⟩ := own_get (HO1.out wr hb) k hlt
      obtain ⟨g2, cur2, rfl, _, hg2, hc2, hm2, y, hy, hk2⟩ := own_get (HO2.out wr hb) k hlt
      obtain rfl : x = y := by rw [hx] at hy; exact Option.some.inj hy
      have hf : fin32 x = true := HFI.out x (List.mem_of_getElem? hx)
      have hw0 := run_wide _ hf
      have Hv0 := Lib.hid hf
      have q1 := cell_k hg1 hk1
      have q2 := cell_k hg2 hk2
      unfold maxLen at hm1 hm2
      clear hg1 hg2 hk1 hk2 hx hy hf
      have z0 : (0 : Int) ≤ (k : Int) := by omega
      have z1 : (k : Int) < (n : Int) := by omega
      have z2 : decide ((k : Int) < (n : Int)) = true := decide_eq_true z1
      go_wp2
      refine wp_region_held_drew (S := (fun W => W.cell? ⟨g1, k, none⟩ = some (.float .f32 x) ∧ W.cell? ⟨g2, k, none⟩ = some (.float .f32 x) ∧ Below w.heap.size w W)) (by kernel_rfl) ⟨by simpa using q1, by simpa using q2, hb.drew⟩ (fun hHeld => ?_)
      refine take_op (i := 0) (d := 17) (v := ?_) rfl rfl (by kernel_rfl) (by kernel_rfl) (by kernel_rfl) (fun _ _ _ h => h) (Or.inl ⟨by rfl, ?hy0u1⟩) hHeld ?rest0u1
      case hy0u1 =>
        intro w' hS'
        obtain ⟨s1, s2, _⟩ := hS'
        go_simp
        try with_reducible rfl
      simp only [List.setIfInBounds_toArray, List.set_cons_zero, List.set_cons_succ]
      refine take_op (i := 1) (d := 18) (v := ?_) rfl rfl (by kernel_rfl) (by kernel_rfl) (by kernel_rfl) (fun _ _ _ h => h) (Or.inl ⟨by rfl, ?hy1u2⟩) hHeld ?rest1u2
      case hy1u2 =>
        intro w' hS'
        obtain ⟨s1, s2, _⟩ := hS'
        go_simp
        try with_reducible rfl
      simp only [List.setIfInBounds_toArray, List.set_cons_zero, List.set_cons_succ]
      refine take_op (i := 2) (d := 19) (v := ?_) rfl rfl (by kernel_rfl) (by kernel_rfl) (by kernel_rfl) (fun _ _ _ h => h) (Or.inl ⟨by rfl, ?hy2u3⟩) hHeld ?rest2u3
      case hy2u3 =>
        intro w' hS'
        obtain ⟨s1, s2, _⟩ := hS'
        go_simp
        try with_reducible rfl
      simp only [List.setIfInBounds_toArray, List.set_cons_zero, List.set_cons_succ]
      refine take_op (i := 3) (d := 20) (v := ?_) rfl rfl (by kernel_rfl) (by kernel_rfl) (by kernel_rfl) (fun _ _ _ h => h) (Or.inl ⟨by rfl, ?hy3u4⟩) hHeld ?rest3u4
      case hy3u4 =>
        intro w' hS'
        obtain ⟨s1, s2, _⟩ := hS'
        go_simp
        try with_reducible rfl
      simp only [List.setIfInBounds_toArray, List.set_cons_zero, List.set_cons_succ]
      refine take_op (i := 4) (d := 21) (v := ?_) rfl rfl (by kernel_rfl) (by kernel_rfl) (by kernel_rfl) (fun _ _ _ h => h) (Or.inl ⟨by rfl, ?hy4u5⟩) hHeld ?rest4u5
      case hy4u5 =>
        intro w' hS'
        obtain ⟨s1, s2, _⟩ := hS'
        go_simp
        try with_reducible rfl
      simp only [List.setIfInBounds_toArray, List.set_cons_zero, List.set_cons_succ]
      refine take_op (i := 5) (d := 22) (v := ?_) rfl rfl (by kernel_rfl) (by kernel_rfl) (by kernel_rfl) (fun _ _ _ h => h) (Or.inl ⟨by rfl, ?hy5u6⟩) hHeld ?rest5u6
      case hy5u6 =>
        intro w' hS'
        obtain ⟨s1, s2, _⟩ := hS'
        go_simp
        try with_reducible rfl
      simp only [List.setIfInBounds_toArray, List.set_cons_zero, List.set_cons_succ]
      refine take_op (i := 6) (d := 23) (v := ?_) rfl rfl (by kernel_rfl) (by kernel_rfl) (by kernel_rfl) (fun _ _ _ h => h) (Or.inl ⟨by rfl, ?hy6u7⟩) hHeld ?rest6u7
      case hy6u7 =>
        intro w' hS'
        obtain ⟨s1, s2, _⟩ := hS'
        go_simp
        try with_reducible rfl
      simp only [List.setIfInBounds_toArray, List.set_cons_zero, List.set_cons_succ]
      refine take_op (i := 7) (d := 24) (v := ?_) rfl rfl (by kernel_rfl) (by kernel_rfl) (by kernel_rfl) (fun _ _ _ h => h) (Or.inl ⟨by rfl, ?hy7u8⟩) hHeld ?rest7u8
      case hy7u8 =>
        intro w' hS'
        obtain ⟨s1, s2, _⟩ := hS'
        go_simp
        try with_reducible rfl
      simp only [List.setIfInBounds_toArray, List.set_cons_zero, List.set_cons_succ]
      refine take_op (i := 8) (d := 25) (v := ?_) rfl rfl (by kernel_rfl) (by kernel_rfl) (by kernel_rfl) (fun _ _ _ h => h) (Or.inl ⟨by rfl, ?hy8u9⟩) hHeld ?rest8u9
      case hy8u9 =>
        intro w' hS'
        obtain ⟨s1, s2, _⟩ := hS'
        go_simp
        try with_reducible rfl
      simp only [List.setIfInBounds_toArray, List.set_cons_zero, List.set_cons_succ]
      refine take_op (i := 9) (d := 26) (v := ?_) rfl rfl (by kernel_rfl) (by kernel_rfl) (by kernel_rfl) (fun _ _ _ h => h) (Or.inl ⟨by rfl, ?hy9u10⟩) hHeld ?rest9u10
      case hy9u10 =>
        intro w' hS'
        obtain ⟨s1, s2, _⟩ := hS'
        go_simp
        try with_reducible rfl
      simp only [List.setIfInBounds_toArray, List.set_cons_zero, List.set_cons_succ]
      refine wpAnyH_ready (rs := [10]) (by kernel_rfl) (by simp) ?_
      refine AllReadyH.cons rfl (fun K hK => ?_) AllReadyH.nil
      go_simp
      refine (same_wide _ Hv0.out _).mono ?_
      rintro e w' ⟨rfl, rfl⟩
      refine hK.out _ _ (hHeld) (fun hHeld2 => ?_)
      clear hK K
      replace hHeld := hHeld2
      clear hHeld2
      refine take_op (i := 11) (d := 28) (v := ?_) rfl rfl (by kernel_rfl) (by kernel_rfl) (by kernel_rfl) (fun _ _ _ h => h) (Or.inl ⟨by rfl, ?hy11u11⟩) hHeld ?rest11u11
      case hy11u11 =>
        intro w' hS'
        go_simp
        try with_reducible rfl
      simp only [List.setIfInBounds_toArray, List.set_cons_zero, List.set_cons_succ]
      refine wpAnyH_done (by kernel_rfl) ?_ _
      have hbx := hHeld.2.2
      clear hHeld q1 q2 hb
      go_wp2
      go_roundw
      case rel => exact ⟨k + 1, by omega, by go_num, hbx⟩
      case measure => simp [intOf]; omega
    · obtain rfl : k = n := by omega
      go_wp2
      go_ret
      exact ⟨rfl, hb⟩

end Go.Proofs.YtdbleddcnknmiaaGreatDoor

namespace Go.Proofs.YtdbleddcnknmiaaGreatDoor
open Go.RowKit

theorem run_store_fl (P : Program) (w : World) (a : Addr) (k : FloatKind) (b : Nat) (m : Mode) : (store a (.float k b) m).run P w = stored P w a (.float k b) m := run_store P w a _ m rfl
attribute [local go_sem] run_store_fl

theorem mark_num_nat : ∀ n : Nat, n < 2001 → floatOfInt .f32 (n : Int) < 2139095040 := by decide +kernel

theorem mark_order (j : Int) (h0 : 0 ≤ j) (h1 : j ≤ 2000) : FloatKind.f32.format.order (floatOfInt .f32 j) (floatOfInt .f32 j) = some .eq := by
  obtain ⟨n, rfl⟩ := Int.eq_ofNat_of_zero_le h0
  have h := mark_num_nat n (by omega)
  rw [order_num (.inl h) (.inl h)]
  simp

def marksF (k : Int) (n : Nat) : List Nat := (List.range n).map (fun i : Nat => floatOfInt .f32 (k + (i : Int)))

theorem marksF_len (k : Int) (n : Nat) : (marksF k n).length = n := by simp [marksF]

theorem marksF_get (k : Int) (n i : Nat) (h : i < n) : (marksF k n)[i]? = some (floatOfInt .f32 (k + (i : Int))) := by simp [marksF, h]

set_option maxRecDepth 100000 in
set_option maxHeartbeats 1000000 in
theorem heldF_same (m : Int) (n : Nat) (v : Value) (b : Nat) (w : World) (hm0 : 0 ≤ m) (hm1 : m ≤ 1000) (hn : n ≤ 1000) (h1 : Own w b 23 (Value.float .f32) v (marksF m n)) :
    Calls Tryz.prog 14 #[v, .int .i64 m] w fun e w' => e = .returned (.int .i64 (m + n)) ∧ Below w.heap.size w w' := by
  obtain ⟨a1, c1, rfl, hm⟩ := own_len h1
  have HO1 : Hid (∀ wr, Below w.heap.size w wr → Own wr b 23 (Value.float .f32) (.slice a1 (marksF m n).length c1) (marksF m n)) := fun wr hb => own_below h1 hb (Nat.le_refl _)
  rw [marksF_len] at HO1 hm ⊢
  clear h1
  unfold maxLen at hm
  go_enter Tryz.func14, Tryz.ntmps14
  go_wp2
  go_loopw [1, 5] (fun q i wr => ∃ k : Nat, k ≤ n ∧ i = .int .i64 k ∧ q = .int .i64 (m + k) ∧ Below w.heap.size w wr) (fun _ i _ => n - (intOf i).toNat)
  case atStart => exact ⟨0, Nat.zero_le _, rfl, by simp, Below.refl _ _⟩
  case round =>
    obtain ⟨k, hk, rfl, rfl, hb⟩ := hrel
    by_cases hlt : k < n
    · obtain ⟨g1, cur1, rfl, _, hg1, hc1, hm1, x, hx, hk1⟩ := own_get (HO1.out wr hb) k hlt
      have ho := mark_order (m + (k : Int)) (by omega) (by omega)
      obtain rfl : floatOfInt .f32 (m + (k : Int)) = x := by rw [marksF_get m n k hlt] at hx; exact Option.some.inj hx
      have q1 := cell_k hg1 hk1
      unfold maxLen at hm1
      clear hg1 hk1 hx
      have z0 : (0 : Int) ≤ (k : Int) := by omega
      have z1 : (k : Int) < (n : Int) := by omega
      go_wp2
      go_roundw
      case rel => exact ⟨k + 1, by omega, by go_num, by go_num, hb⟩
      case measure => simp [intOf]; omega
    · obtain rfl : k = n := by omega
      go_wp2
      go_ret
      exact ⟨rfl, hb⟩

/-- What writing into a list does: it holds other elements, and all else is as it was. -/
def MarkedF (w : World) (E : TypeId) (b : Nat) (v : Value) (m : Int) (n : Nat) (e : Ending) (w' : World) : Prop :=
  e = .returned (.int .i64 (m + n)) ∧ Own w' b E (Value.float .f32) v (marksF m n) ∧ Below b w w' ∧ ∀ k o, w.heap[k]? = some o → (∀ g n c, v = .slice (some ⟨g, 0, none⟩) n c → k ≠ g) → w'.heap[k]? = some o

set_option maxRecDepth 100000 in
set_option maxHeartbeats 1000000 in
theorem markF_any (m : Int) (xs : List Nat) (v : Value) (b : Nat) (w : World) (hm0 : 0 ≤ m) (hm1 : m ≤ 4000000) (hn : xs.length ≤ 2000000) (h1 : Own w b 23 (Value.float .f32) v xs) :
    Calls Tryz.prog 13 #[v, .int .i64 m] w fun e w' => MarkedF w 23 b v m xs.length e w' := by
  by_cases hz : xs.length = 0
  · obtain ⟨a1, c1, rfl, hm⟩ := own_len h1
    have HR : Hid (∀ wr, Below w.heap.size w wr → Own wr b 23 (Value.float .f32) (.slice a1 xs.length c1) (marksF m xs.length)) := by
      intro wr hb
      obtain ⟨a, cap, e1, e2, e3, e4⟩ := own_below h1 hb (Nat.le_refl _)
      refine ⟨a, cap, by rw [marksF_len]; exact e1, e2, by rw [marksF_len]; omega, ?_⟩
      rcases e4 with ⟨ea, _⟩ | ⟨g, cur, ea, eb, ec, _⟩
      · exact .inl ⟨ea, List.eq_nil_of_length_eq_zero (by rw [marksF_len]; exact hz)⟩
      · exact .inr ⟨g, cur, ea, eb, ec, fun k hk => by rw [marksF_len] at hk; omega⟩
    clear h1
    generalize xs.length = n at *
    subst hz
    go_enter Tryz.func13, Tryz.ntmps13
    go_wp2
    go_loopw [1, 5] (fun q i wr => q = .int .i64 m ∧ i = .int .i64 0 ∧ wr = w) (fun _ _ _ => 0)
    case atStart => exact ⟨rfl, rfl, rfl⟩
    case round =>
      obtain ⟨rfl, rfl, rfl⟩ := hrel
      go_wp2
      go_ret
      exact ⟨by simp, HR.out _ (Below.refl _ _), Below.refl _ _, fun k o hk _ => hk⟩
  · obtain ⟨a1, c1, rfl, hm⟩ := own_len h1
    obtain ⟨g, cur0, rfl, hbg, hg0, hc1, hmc, _, _, _⟩ := own_get h1 0 (by omega)
    have hsz : xs.length ≤ cur0.size := by
      obtain ⟨g', cur', e', _, hg0', _, _, x, _, hl⟩ := own_get h1 (xs.length - 1) (by omega)
      injection e' with e'
      injection e' with e'
      subst e'
      rw [hg0] at hg0'
      injection hg0' with e''
      injection e'' with e''
      subst e''
      have := (Array.getElem?_eq_some_iff.1 hl).1
      omega
    have HG := Lib.hid hg0
    clear h1 hg0
    generalize hln : xs.length = n at *
    unfold maxLen at hmc
    go_enter Tryz.func13, Tryz.ntmps13
    go_wp2
    go_loopw [1, 5] (fun q i wr => ∃ k : Nat, k ≤ n ∧ i = .int .i64 k ∧ q = .int .i64 (m + k) ∧ Below b w wr ∧ (∀ j o, w.heap[j]? = some o → j ≠ g → wr.heap[j]? = some o) ∧ ∃ cur : Array Value, wr.heap[g]? = some (.cells cur 23 (0, 0)) ∧ n ≤ cur.size ∧ ∀ j, j < k → cur[j]? = some (.float .f32 (floatOfInt .f32 (m + j)))) (fun _ i _ => n - (intOf i).toNat)
    case atStart => exact ⟨0, Nat.zero_le _, rfl, by simp, Below.refl _ _, fun j o h _ => h, cur0, HG.out, hsz, fun j h => by omega⟩
    case round =>
      clear HG
      obtain ⟨k, hk, rfl, rfl, hb, hot, cur, hg, hs, hp⟩ := hrel
      have Hot := Lib.hid hot
      have Hp := Lib.hid hp
      have HG := Lib.hid hg
      by_cases hlt : k < n
      · have q1 : wr.cell? ⟨g, k, none⟩ = some (cur[k]'(by omega)) := cell_k hg (Array.getElem?_eq_getElem (by omega))
        have q2 := frozen_of_row wr g k _ _ hg
        have z0 : (0 : Int) ≤ (k : Int) := by omega
        have z1 : (k : Int) < (n : Int) := by omega
        clear hot hp hg
        go_wp2
        go_roundw
        case rel =>
          refine ⟨k + 1, by omega, by go_num, by go_num, hb.setCell (p := ⟨g, k, none⟩) hbg _, ?_, cur.setIfInBounds k (.float .f32 (floatOfInt .f32 (m + k))), ?_, by simpa using hs, ?_⟩
          · intro j o h hne
            rw [heap_setCell_other _ _ _ _ (by simpa using hne)]
            exact Hot.out j o h hne
          · rw [heap_setCell_same _ _ _ _ _ _ HG.out]
          · intro j hj
            rw [Array.getElem?_setIfInBounds]
            by_cases e : k = j
            · subst e; rw [if_pos rfl, if_pos (by omega)]
            · rw [if_neg e]; exact Hp.out j (by omega)
        case measure => simp [intOf]; omega
      · obtain rfl : k = n := by omega
        have HR : Hid (Own wr b 23 (Value.float .f32) (.slice (some ⟨g, 0, none⟩) k c1) (marksF m k)) := by
          refine ⟨_, c1, by rw [marksF_len], by unfold maxLen; omega, by rw [marksF_len]; exact hc1, .inr ⟨g, cur, rfl, hbg, hg, fun j hj => ?_⟩⟩
          rw [marksF_len] at hj
          rw [hp j hj, marksF_get m k j hj]; rfl
        clear hot hp hg
        go_wp2
        go_ret
        exact ⟨rfl, HR.out, hb, fun j o h hne => Hot.out j o h (hne g _ _ rfl)⟩

end Go.Proofs.YtdbleddcnknmiaaGreatDoor
