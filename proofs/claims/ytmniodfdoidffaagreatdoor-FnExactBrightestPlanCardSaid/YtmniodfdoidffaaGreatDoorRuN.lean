/-
  The runs of a plan: how many there are.
-/
import Derived.Test.YtmniodfdoidffaaGreatDoorRgN
import Derived.Test.YtmniodfdoidffaaGreatDoorPnV
import Derived.Test.YtmniodfdoidffaaGreatDoorNew
import Derived.Test.YtmniodfdoidffaaGreatDoorList
import Derived.Test.YtmniodfdoidffaaGreatDoorHeld
import Derived.Test.YtmniodfdoidffaaGreatDoorValid
import Derived.RangeFuncBox
import Derived.Maps.AppendAt
import Derived.Deep.Cut
import Derived.Deep.DeepCutAuto
namespace Go.Proofs.YtmniodfdoidffaaGreatDoor
open Go.ChangeShapes Go.WideShapes Go.ChangeAt Go.RowKit Go.Shelf

attribute [local go_sem] Oper.semAt_some run_store_f

theorem two_newR (w : World) (a b : Obj) : ((w.alloc a).alloc b).heap[w.heap.size]? = some a ∧ ((w.alloc a).alloc b).heap[w.heap.size + 1]? = some b ∧ Below w.heap.size w ((w.alloc a).alloc b) := by
  have hb : Below w.heap.size w (w.alloc a) := (Below.refl _ _).alloc (Nat.le_refl _) _
  refine ⟨below_row ((Below.refl (w.alloc a).heap.size _).alloc (Nat.le_refl _) b) (heap_alloc_new w a), ?_, hb.alloc hb.size _⟩
  have := heap_alloc_new (w.alloc a) b
  rwa [World.size_alloc] at this

/-- Whether an hour begins a run. -/
def isRun (ps : List Int) (k : Nat) : Bool := k == 0 || ps[k]?.getD 0 != ps[k - 1]?.getD 0

/-- How many runs begin before an hour. -/
def cntR (ps : List Int) : Nat → Nat
  | 0 => 0
  | k + 1 => cntR ps k + (if isRun ps k then 1 else 0)

theorem cntR_le (ps : List Int) : ∀ k, cntR ps k ≤ k
  | 0 => Nat.le_refl _
  | k + 1 => by
    have := cntR_le ps k
    unfold cntR
    split <;> omega

theorem cntR_pos (ps : List Int) : ∀ k, 0 < k → 0 < cntR ps k
  | 0, h => absurd h (Nat.lt_irrefl _)
  | 1, _ => by simp [cntR, isRun]
  | k + 2, _ => by
    have := cntR_pos ps (k + 1) (by omega)
    rw [cntR]
    omega

def AllW (xs : List Value) : Prop := ∀ x ∈ xs, ∃ a : Int, x = .int .i16 a

/-- What the walk keeps. -/
def RunI (w : World) (ps : List Int) (b3 : Nat) (c : Nat) (W : World) : Prop :=
  W.heap[w.heap.size]? = some (.cells (i16s ps) 30 (0, 0)) ∧ (∃ v xs, Boxed W b3 97 v ∧ W.ownsRow w.heap.size 122 2 v c xs ∧ AllW xs) ∧ Below w.heap.size w W

theorem runI_own (w : World) (ps : List Int) (b3 : Nat) (B : Nat) (hB : w.heap.size ≤ B) : OwnFrom B (fun k W => RunI w ps b3 (cntR ps k) W) := by
  intro s W W' row ⟨h0, ⟨v, xs, hv, hr0, hx⟩, hb⟩ hg' hr
  have hr2 := fun r e => (hr r e).2
  refine ⟨heap_kept h0 hg' hr2, ⟨v, xs, heap_kept hv hg' hr2, hr0.kept hg' ?_, hx⟩, ownFrom_below (β := Unit) (Nat.le_refl _) hB () W W' row hb hg' hr⟩
  rcases hr0.2 with ⟨rfl, _⟩ | ⟨g, cap, cur, rfl, _, hgb, _⟩
  · exact .inl rfl
  · right
    intro e
    obtain ⟨o, ho, hc⟩ := hr2 g e.symm
    rw [hgb] at ho
    cases ho
    cases hc

/-- The first cell of the last run. -/
theorem run_last {W : World} {base c : Nat} {v : Value} {xs : List Value} (h : W.ownsRow base 122 2 v c xs) (hx : AllW xs) (hc : 0 < c) :
    ∃ g cap cur a, v = .slice (some ⟨g, 0, none⟩) c cap ∧ base ≤ g ∧ c ≤ cap ∧ cap ≤ maxLen ∧ W.heap[g]? = some (.cells cur 122 (0, 0)) ∧ cur[(c - 1) * 2]? = some (.int .i16 a) ∧
      ∀ n : Int, ∃ ys, (W.setCell ⟨g, (c - 1) * 2, none⟩ (.int .i16 n)).ownsRow base 122 2 v c ys ∧ AllW ys := by
  rcases h.2 with ⟨_, h0⟩ | ⟨g, cap, cur, rfl, hbg, hg, hnc, hcm, hsz, htk⟩
  · omega
  have hlt : (c - 1) * 2 < xs.length := by rw [h.1]; omega
  have e1 : cur.toList[(c - 1) * 2]? = xs[(c - 1) * 2]? := by rw [← htk, List.getElem?_take_of_lt (by omega)]
  obtain ⟨a, ha⟩ := hx _ (List.getElem_mem hlt)
  have e2 : cur[(c - 1) * 2]? = some (.int .i16 a) := by rw [← Array.getElem?_toList, e1, List.getElem?_eq_getElem hlt, ha]
  refine ⟨g, cap, cur, a, rfl, hbg, hnc, hcm, hg, e2, fun n => ⟨xs.set ((c - 1) * 2) (.int .i16 n), ⟨by rw [List.length_set]; exact h.1, .inr ⟨g, cap, cur.setIfInBounds ((c - 1) * 2) (.int .i16 n), rfl, hbg, ?_, hnc, hcm, by rw [Array.size_setIfInBounds]; exact hsz, ?_⟩⟩, ?_⟩⟩
  · rw [heap_setCell_same _ _ _ _ _ _ hg]
  · rw [Array.toList_setIfInBounds, List.take_set, htk]
  · intro x hxm
    rcases List.mem_or_eq_of_mem_set hxm with h1 | rfl
    · exact hx x h1
    · exact ⟨n, rfl⟩

theorem i64_smallR (n : Int) (h0 : -100000 ≤ n) (h1 : n ≤ 100000) : IntKind.i64.wrap n = n := by
  simp [IntKind.wrap, IntKind.signed, IntKind.bits]
  omega

theorem keeps_of_belowR {W W1 : World} (hb : Below W.heap.size W W1) : KeepsOthers W W1 := ⟨hb.size, fun b _ ho _ => (hb.block b (Array.getElem?_eq_some_iff.1 ho).1).trans ho⟩

theorem cell_two_new (w : World) (x y : Value) (t : TypeId) : ∀ j u, [x, y][j]? = some u → (w.alloc (.cells #[x, y] t)).cell? ((⟨w.heap.size, 0, none⟩ : Addr).add j) = some u := by
  intro j u hj
  match j, hj with
  | 0, hj =>
    simp at hj
    subst hj
    rw [show ((⟨w.heap.size, 0, none⟩ : Addr).add 0) = ⟨w.heap.size, 0, none⟩ by simp [Addr.add], cell_of_row _ _ _ _ _ _ (heap_alloc_new _ _)]
    rfl
  | 1, hj =>
    simp at hj
    subst hj
    rw [show ((⟨w.heap.size, 0, none⟩ : Addr).add 1) = ⟨w.heap.size, 1, none⟩ by simp [Addr.add], cell_of_row _ _ _ _ _ _ (heap_alloc_new _ _)]
    rfl
  | j + 2, hj => simp at hj

theorem not_rowR {W : World} {g : Nat} {cs : Array Value} {t e : TypeId} {fr : Nat × Nat} (h : W.heap[g]? = some (.cells cs t fr)) (hte : t ≠ e) {base size k : Nat} {v : Value} {xs : List Value} (hr : W.ownsRow base e size v k xs) : some g ≠ v.ownBlock := by
  rcases hr.2 with ⟨rfl, _⟩ | ⟨g', cap, cur, rfl, _, hgb, _⟩
  · simp [Value.ownBlock]
  · intro e'
    obtain rfl : g = g' := by simpa [Value.ownBlock] using e'
    rw [h] at hgb
    injection hgb with e1
    injection e1 with _ e2 _
    exact hte e2

theorem kept_appendR {W w1 : World} {g base k size : Nat} {cs : Array Value} {t e : TypeId} {fr : Nat × Nat} {v : Value} {xs : List Value} {tmp : Obj} (h : W.heap[g]? = some (.cells cs t fr)) (hte : t ≠ e) (hr : W.ownsRow base e size v k xs)
    (hg : (W.alloc tmp).grownBy w1 v.ownBlock) : w1.heap[g]? = some (.cells cs t fr) := by
  have h1 : (W.alloc tmp).heap[g]? = some (.cells cs t fr) := below_row ((Below.refl W.heap.size W).alloc (Nat.le_refl _) _) h
  exact (hg.block g (row_lt h1) (not_rowR h hte hr)).trans h1

theorem infoR : (Tryz.prog.info? 122).map (fun i => (i.zero, i.size, i.bytes)) = some (some (.agg #[.int .i16 0, .int .i16 0]), 2, 4) := by kernel_rfl

set_option maxRecDepth 100000 in
set_option maxHeartbeats 4000000 in
theorem runs_any (ps : List Int) (hp : ps.length = 24) (w : World) :
    Calls Tryz.prog 44 #[.agg (i16s ps)] w fun e w' => (∃ a cap, e = .returned (.slice a (cntR ps 24) cap)) ∧ Below w.heap.size w w' := by
  refine (callsIn_wide (n := 4)).1 ?_
  obtain ⟨i0, hi, hz0, hz1, hz2⟩ := info_parts infoR
  have Hp := Lib.hid hp
  clear hp
  refine callsIn_of_wp_marks Tryz.func44 rfl trivial ?_ rfl
  simp only [Tryz.ntmps44, List.size_toArray, List.length_cons, List.length_nil, Nat.reduceAdd, Nat.reduceSub, Array.replicate_succ, Array.replicate_zero, List.push_toArray, List.append_toArray, List.nil_append, List.cons_append]
  refine wpIn_wide.2 ?_
  go_upto_region 2 with (fail)
  refine abs_world (fun W => W.heap[w.heap.size]? = some (.cells (i16s ps) 30 (0, 0)) ∧ W.heap[w.heap.size + 1]? = some (.cells #[.slice none 0 0] 97 (0, 0)) ∧ Below w.heap.size w W) ⟨(two_newR _ _ _).1, (two_newR _ _ _).2.1, (two_newR _ _ _).2.2⟩ ?_
  rintro W0 ⟨r0, r1, hb⟩
  have n01 : w.heap.size < w.heap.size + 1 := by omega
  generalize w.heap.size + 1 = b3 at *
  have hle : w.heap.size ≤ W0.heap.size := hb.size
  have R0 := Lib.hid r0
  have R1 := Lib.hid r1
  have HB := Lib.hid hb
  clear r0 r1 hb
  go_wp2
  refine (wpIn_wide (n := 4)).1 ?_
  refine wpIn_hours_next rfl (by decide) (by decide) rfl trivial (enters_of Tryz.func41 (by kernel_rfl) rfl) w.heap.size hle rfl
    (fun k W => RunI w ps b3 (cntR ps k) W) (runI_own w ps b3 _ hle) ?h0
    (fun k => { tmps := #[.agg (i16s ps), .pointer (some ⟨w.heap.size, 0, none⟩), .slice none 0 0, .pointer (some ⟨b3, 0, none⟩), .int .i64 (k : Int), .int .i64 (k : Int), undef, undef, undef, undef, undef, undef, undef, undef, undef, undef, undef, undef, undef, undef, undef, undef, undef, undef, undef, undef, undef, undef, undef, undef, undef, undef, undef, undef, undef, undef], defers := [] }) ?assign ?body ?done
  case h0 => exact ⟨R0.out, ⟨.slice none 0 0, [], R1.out, ⟨rfl, .inl ⟨rfl, rfl⟩⟩, fun x hx => by cases hx⟩, HB.out⟩
  case assign =>
    intro l k W K hK
    gi_wp2
    exact hK
  case body =>
    rintro l k W hk ⟨h0, ⟨v, xs, hv, hrow, hx⟩, hbw⟩
    have H0 := Lib.hid h0
    have HV := Lib.hid hv
    have HR := Lib.hid hrow
    have HX := Lib.hid hx
    have HBW := Lib.hid hbw
    have hwW := hbw.size
    have hcl := cntR_le ps k
    obtain ⟨tl, hE⟩ : ∃ tl, ps[k]?.getD 0 = tl := ⟨_, rfl⟩
    have EX := Lib.hid hE
    have z0 : (0 : Int) ≤ (k : Int) := by omega
    have z1 : (k : Int) < 24 := by omega
    clear h0 hv hrow hx hbw
    have HC1 : Hid (cntR ps (k + 1) = cntR ps k + (if isRun ps k then 1 else 0)) := rfl
    by_cases hk0 : k = 0
    · have HI : Hid (cntR ps (k + 1) = cntR ps k + 1) := by rw [hk0]; unfold Hid; rfl
      have zb : ((k : Int) == 0) = true := by rw [hk0]; rfl
      clear hE hk0
      gi_wp2
      refine region_round (S := (fun V => V.heap[w.heap.size]? = some (.cells (i16s ps) 30 (0, 0)))) arrU (no_defer (by rfl)) (fun ⟨_, _, h⟩ => h) H0.out (fun hHeld => ?_)
      refine take_at (i := 0) (d := 6) (v := ?_) rfl rfl (by kernel_rfl) (by kernel_rfl) (by kernel_rfl) (fun _ _ _ h => h) (Or.inl ⟨by rfl, ?hy0u1⟩) hHeld ?rest0u1
      case hy0u1 =>
        intro w' hS'
        go_simp
        try with_reducible rfl
      simp only [List.setIfInBounds_toArray, List.set_cons_zero, List.set_cons_succ]
      refine take_at (i := 1) (d := 7) (v := ?_) rfl rfl (by kernel_rfl) (by kernel_rfl) (by kernel_rfl) (fun _ _ _ h => h) (Or.inl ⟨by rfl, ?hy1u2⟩) hHeld ?rest1u2
      case hy1u2 =>
        intro w' hS'
        go_simp
        try with_reducible rfl
      simp only [List.setIfInBounds_toArray, List.set_cons_zero, List.set_cons_succ]
      refine take_at (i := 2) (d := 8) (v := ?_) rfl rfl (by kernel_rfl) (by kernel_rfl) (by kernel_rfl) (fun _ _ _ h => h) (Or.inl ⟨by rfl, ?hy2u3⟩) hHeld ?rest2u3
      case hy2u3 =>
        intro w' hS'
        go_simp
        try with_reducible rfl
      simp only [List.setIfInBounds_toArray, List.set_cons_zero, List.set_cons_succ]
      refine take_at (i := 3) (d := 9) rfl rfl (by kernel_rfl) (by kernel_rfl) (by kernel_rfl) (fun _ _ _ h => h) (Or.inr ⟨by rfl, rfl⟩) hHeld ?_
      simp only [List.setIfInBounds_toArray, List.set_cons_zero, List.set_cons_succ]
      refine take_at (i := 4) (d := 10) rfl rfl (by kernel_rfl) (by kernel_rfl) (by kernel_rfl) (fun _ _ _ h => h) (Or.inr ⟨by rfl, rfl⟩) hHeld ?_
      simp only [List.setIfInBounds_toArray, List.set_cons_zero, List.set_cons_succ]
      refine take_at (i := 5) (d := 11) rfl rfl (by kernel_rfl) (by kernel_rfl) (by kernel_rfl) (fun _ _ _ h => h) (Or.inr ⟨by rfl, rfl⟩) hHeld ?_
      simp only [List.setIfInBounds_toArray, List.set_cons_zero, List.set_cons_succ]
      refine take_at (i := 6) (d := 12) rfl rfl (by kernel_rfl) (by kernel_rfl) (by kernel_rfl) (fun _ _ _ h => h) (Or.inr ⟨by rfl, rfl⟩) hHeld ?_
      simp only [List.setIfInBounds_toArray, List.set_cons_zero, List.set_cons_succ]
      refine take_at (i := 7) (d := 13) rfl rfl (by kernel_rfl) (by kernel_rfl) (by kernel_rfl) (fun _ _ _ h => h) (Or.inr ⟨by rfl, rfl⟩) hHeld ?_
      simp only [List.setIfInBounds_toArray, List.set_cons_zero, List.set_cons_succ]
      refine take_at (i := 8) (d := 14) rfl rfl (by kernel_rfl) (by kernel_rfl) (by kernel_rfl) (fun _ _ _ h => h) (Or.inr ⟨by rfl, rfl⟩) hHeld ?_
      simp only [List.setIfInBounds_toArray, List.set_cons_zero, List.set_cons_succ]
      refine take_at (i := 9) (d := 15) rfl rfl (by kernel_rfl) (by kernel_rfl) (by kernel_rfl) (fun _ _ _ h => h) (Or.inr ⟨by rfl, rfl⟩) hHeld ?_
      simp only [List.setIfInBounds_toArray, List.set_cons_zero, List.set_cons_succ]
      refine take_at (i := 10) (d := 16) rfl rfl (by kernel_rfl) (by kernel_rfl) (by kernel_rfl) (fun _ _ _ h => h) (Or.inr ⟨by rfl, rfl⟩) hHeld ?_
      simp only [List.setIfInBounds_toArray, List.set_cons_zero, List.set_cons_succ]
      refine take_at (i := 11) (d := 17) (v := ?_) rfl rfl (by kernel_rfl) (by kernel_rfl) (by kernel_rfl) (fun _ _ _ h => h) (Or.inl ⟨by rfl, ?hy11u4⟩) hHeld ?rest11u4
      case hy11u4 =>
        intro w' hS'
        go_simp
        try with_reducible rfl
      simp only [List.setIfInBounds_toArray, List.set_cons_zero, List.set_cons_succ]
      refine wpAnyH_done (by kernel_rfl) ?_ _
      clear hHeld
      gi_wp2
      refine region_round (S := (fun V => V.heap[w.heap.size]? = some (.cells (i16s ps) 30 (0, 0)))) arrU (no_defer (by rfl)) (fun ⟨_, _, h⟩ => h) H0.out (fun hHeld => ?_)
      obtain ⟨V, hV⟩ : ∃ V, V = W.drew.drew := ⟨_, rfl⟩
      rw [← hV] at hHeld ⊢
      have hp2 : V.heap[w.heap.size]? = some (.cells (i16s ps) 30 (0, 0)) := hHeld
      have hv2 : Boxed V b3 97 v := by rw [hV]; exact HV.out
      have hr2 : V.ownsRow w.heap.size 122 2 v (cntR ps k) xs := by rw [hV]; exact HR.out
      have hB2 : Below W.heap.size W V := by rw [hV]; exact (Below.refl _ _).drew.drew
      have hk2 : KeepsOthers W V := keeps_of_belowR hB2
      have hsz : w.heap.size ≤ V.heap.size := Nat.le_trans hwW hB2.size
      clear hV
      refine take_at (i := 1) (d := 19) (v := ?_) rfl rfl (by kernel_rfl) (by kernel_rfl) (by kernel_rfl) (fun _ _ _ h => h) (Or.inl ⟨by rfl, ?hy1u5⟩) hHeld ?rest1u5
      case hy1u5 =>
        intro w' hS'
        go_simp
        try with_reducible rfl
      simp only [List.setIfInBounds_toArray, List.set_cons_zero, List.set_cons_succ]
      refine take_at (i := 2) (d := 20) (v := ?_) rfl rfl (by kernel_rfl) (by kernel_rfl) (by kernel_rfl) (fun _ _ _ h => h) (Or.inl ⟨by rfl, ?hy2u6⟩) hHeld ?rest2u6
      case hy2u6 =>
        intro w' hS'
        go_simp
        try with_reducible rfl
      simp only [List.setIfInBounds_toArray, List.set_cons_zero, List.set_cons_succ]
      refine take_at (i := 3) (d := 21) (v := ?_) rfl rfl (by kernel_rfl) (by kernel_rfl) (by kernel_rfl) (fun _ _ _ h => h) (Or.inl ⟨by rfl, ?hy3u7⟩) hHeld ?rest3u7
      case hy3u7 =>
        intro w' hS'
        have q := cell_of_i16s hS' k (by rw [Hp.out]; exact hk)
        rw [EX.out] at q
        go_simp
        try with_reducible rfl
      simp only [List.setIfInBounds_toArray, List.set_cons_zero, List.set_cons_succ]
      refine take_at (i := 4) (d := 22) (v := ?_) rfl rfl (by kernel_rfl) (by kernel_rfl) (by kernel_rfl) (fun _ _ _ h => h) (Or.inl ⟨by rfl, ?hy4u8⟩) hHeld ?rest4u8
      case hy4u8 =>
        intro w' hS'
        go_simp
        try with_reducible rfl
      simp only [List.setIfInBounds_toArray, List.set_cons_zero, List.set_cons_succ]
      refine wpAnyH_ready (rs := [0, 5]) (by kernel_rfl) (by simp) ?_
      refine AllReadyH.cons rfl (fun K hK => ?_) (AllReadyH.cons rfl (fun K hK => ?_) AllReadyH.nil)
      · have c0 := hv2.cell
        go_simp
        refine hK.out _ _ hp2 (fun _ => ?_)
        clear hK K c0
        refine wpAnyH_ready (rs := [5]) (by kernel_rfl) (by simp) ?_
        refine AllReadyH.cons rfl (fun K hK => ?_) AllReadyH.nil
        go_simp
        refine hK.out _ _ (below_row ((Below.refl V.heap.size V).alloc (Nat.le_refl _) _) hp2) (fun _ => ?_)
        clear hK K
        refine wpAnyH_ready (rs := [6]) (by kernel_rfl) (by simp) ?_
        refine AllReadyH.cons rfl (fun K hK => ?_) AllReadyH.nil
        show Oper.wp _ _ _ _ _ _
        refine wp_append_own _ (.tmp 18) (.tmp 23) 97 rfl w.heap.size 122 i0 (.agg #[.int .i16 0, .int .i16 0]) 2 4 Tryz.underlying97 hi hz0 hz1 hz2 rfl (by decide) v _ xs rfl (hr2.alloc _) ⟨V.heap.size, 0, none⟩ 1 1 [.int .i16 0, .int .i16 tl] rfl rfl (cell_two_new _ _ _ _) (by intro u hu; simp at hu; rcases hu with rfl | rfl <;> rfl) (by unfold maxLen; omega) (by omega) (by simp; omega) ?_
        intro v' w1 hown hgrow hnil
        obtain ⟨g', cap', rfl⟩ := ownsRow_succ hown
        obtain ⟨hv1, hvY, hrY, hk3, hb3⟩ := hv2.appended (by decide) hr2 hsz (by omega) hown hgrow
        have hc1 := hv1.cell
        have hf1 := hv1.frozen
        have hp1 := kept_appendR hp2 (by decide) hr2 hgrow
        refine hK.out _ _ hp1 (fun _ => ?_)
        clear hK K
        refine wpAnyH_ready (rs := [7]) (by kernel_rfl) (by simp) ?_
        refine AllReadyH.cons rfl (fun K hK => ?_) AllReadyH.nil
        go_simp
        refine hK.out _ _ ((heap_setCell_other _ _ _ _ (by simp; omega)).trans hp1) (fun _ => ?_)
        clear hK K
        refine wpAnyH_done (by kernel_rfl) ?_ _
        have hpY := (heap_setCell_other w1 ⟨b3, 0, none⟩ _ (.slice (some ⟨g', 0, none⟩) (cntR ps k + 1) cap') (by simp; omega)).trans hp1
        generalize w1.setCell ⟨b3, 0, none⟩ (.slice (some ⟨g', 0, none⟩) (cntR ps k + 1) cap') = Y at *
        have hxY : AllW (xs ++ [.int .i16 0, .int .i16 tl]) := by
          intro x hx
          rcases List.mem_append.1 hx with h | h
          · exact HX.out x h
          · simp at h
            rcases h with rfl | rfl
            · exact ⟨0, rfl⟩
            · exact ⟨tl, rfl⟩
        have hkY := hk2.trans hk3
        have hbY := (hB2.mono hwW).trans hb3
        clear hk2 hk3 hb3 hv1 hc1 hf1 hp1 hv2 hr2 hp2 hown hgrow hnil
        have hm1 : 0 < cntR ps k + 1 := by omega
        have hm2 : cntR ps k + 1 ≤ 24 := by omega
        have HM : Hid (cntR ps (k + 1) = cntR ps k + 1) := HI
        clear HI HC1
        generalize cntR ps k + 1 = m at *
        obtain ⟨g, cap, cur, a, e, hbg, hnc, hcm, hcur, hca, hset⟩ := run_last hrY hxY hm1
        injection e with e1 e2 e3
        injection e1 with e1
        injection e1 with e1
        have e5 := e1.symm
        have e6 := e3.symm
        subst e5 e6
        have qb : Y.cell? ⟨b3, 0, none⟩ = some (.slice (some ⟨g, 0, none⟩) m cap) := by rw [cell_of_row _ _ _ _ _ _ hvY]; rfl
        have qg : Y.cell? ⟨g, (m - 1) * 2, none⟩ = some (.int .i16 a) := by rw [cell_of_row _ _ _ _ _ _ hcur]; exact hca
        have fg := frozen_of_row Y g ((m - 1) * 2) _ _ hcur
        have ng : w.heap.size ≠ g := by
          intro e
          rw [← e, hpY] at hcur
          cases hcur
        have nb : b3 ≠ g := by
          intro e
          rw [← e] at hcur
          have := hvY.symm.trans hcur
          cases this
        have hw1 : IntKind.i64.wrap ((m : Int) - 1) = ((m - 1 : Nat) : Int) := by rw [i64_smallR _ (by omega) (by omega)]; omega
        have y0 : (0 : Int) ≤ ((m - 1 : Nat) : Int) := by omega
        have y1 : ((m - 1 : Nat) : Int) < (m : Int) := by omega
        unfold maxLen at hcm
        have HP := Lib.hid hpY
        have HVY := Lib.hid hvY
        have HSET := Lib.hid hset
        have HKY := Lib.hid hkY
        have HBY := Lib.hid hbY
        clear hrY hxY hcur hca hpY hvY hset hkY hbY
        gi_wp2
        obtain ⟨ys, hy1, hy2⟩ := HSET.out (IntKind.i16.wrap (a + 1))
        refine ⟨HKY.out.trans (KeepsOthers.setCell _ _ _), HBY.out.setCell (p := ⟨g, (m - 1) * 2, none⟩) hbg _, (heap_setCell_other _ _ _ _ ng).trans HP.out, ⟨_, ys, (heap_setCell_other _ _ _ _ nb).trans HVY.out, by show World.ownsRow _ _ _ _ _ (cntR ps (k + 1)) _; rw [HM.out]; exact hy1, hy2⟩, (HBW.out.trans (HBY.out.mono (Nat.le_refl _))).setCell (p := ⟨g, (m - 1) * 2, none⟩) hbg _⟩
      · go_simp
        refine hK.out _ _ (below_row ((Below.refl V.heap.size V).alloc (Nat.le_refl _) _) hp2) (fun _ => ?_)
        clear hK K
        refine wpAnyH_ready (rs := [0]) (by kernel_rfl) (by simp) ?_
        refine AllReadyH.cons rfl (fun K hK => ?_) AllReadyH.nil
        have c0 := (hv2.alloc (.cells #[.int .i16 0, .int .i16 tl] 122)).cell
        go_simp
        refine hK.out _ _ (below_row ((Below.refl V.heap.size V).alloc (Nat.le_refl _) _) hp2) (fun _ => ?_)
        clear hK K c0
        refine wpAnyH_ready (rs := [6]) (by kernel_rfl) (by simp) ?_
        refine AllReadyH.cons rfl (fun K hK => ?_) AllReadyH.nil
        show Oper.wp _ _ _ _ _ _
        refine wp_append_own _ (.tmp 18) (.tmp 23) 97 rfl w.heap.size 122 i0 (.agg #[.int .i16 0, .int .i16 0]) 2 4 Tryz.underlying97 hi hz0 hz1 hz2 rfl (by decide) v _ xs rfl (hr2.alloc _) ⟨V.heap.size, 0, none⟩ 1 1 [.int .i16 0, .int .i16 tl] rfl rfl (cell_two_new _ _ _ _) (by intro u hu; simp at hu; rcases hu with rfl | rfl <;> rfl) (by unfold maxLen; omega) (by omega) (by simp; omega) ?_
        intro v' w1 hown hgrow hnil
        obtain ⟨g', cap', rfl⟩ := ownsRow_succ hown
        obtain ⟨hv1, hvY, hrY, hk3, hb3⟩ := hv2.appended (by decide) hr2 hsz (by omega) hown hgrow
        have hc1 := hv1.cell
        have hf1 := hv1.frozen
        have hp1 := kept_appendR hp2 (by decide) hr2 hgrow
        refine hK.out _ _ hp1 (fun _ => ?_)
        clear hK K
        refine wpAnyH_ready (rs := [7]) (by kernel_rfl) (by simp) ?_
        refine AllReadyH.cons rfl (fun K hK => ?_) AllReadyH.nil
        go_simp
        refine hK.out _ _ ((heap_setCell_other _ _ _ _ (by simp; omega)).trans hp1) (fun _ => ?_)
        clear hK K
        refine wpAnyH_done (by kernel_rfl) ?_ _
        have hpY := (heap_setCell_other w1 ⟨b3, 0, none⟩ _ (.slice (some ⟨g', 0, none⟩) (cntR ps k + 1) cap') (by simp; omega)).trans hp1
        generalize w1.setCell ⟨b3, 0, none⟩ (.slice (some ⟨g', 0, none⟩) (cntR ps k + 1) cap') = Y at *
        have hxY : AllW (xs ++ [.int .i16 0, .int .i16 tl]) := by
          intro x hx
          rcases List.mem_append.1 hx with h | h
          · exact HX.out x h
          · simp at h
            rcases h with rfl | rfl
            · exact ⟨0, rfl⟩
            · exact ⟨tl, rfl⟩
        have hkY := hk2.trans hk3
        have hbY := (hB2.mono hwW).trans hb3
        clear hk2 hk3 hb3 hv1 hc1 hf1 hp1 hv2 hr2 hp2 hown hgrow hnil
        have hm1 : 0 < cntR ps k + 1 := by omega
        have hm2 : cntR ps k + 1 ≤ 24 := by omega
        have HM : Hid (cntR ps (k + 1) = cntR ps k + 1) := HI
        clear HI HC1
        generalize cntR ps k + 1 = m at *
        obtain ⟨g, cap, cur, a, e, hbg, hnc, hcm, hcur, hca, hset⟩ := run_last hrY hxY hm1
        injection e with e1 e2 e3
        injection e1 with e1
        injection e1 with e1
        have e5 := e1.symm
        have e6 := e3.symm
        subst e5 e6
        have qb : Y.cell? ⟨b3, 0, none⟩ = some (.slice (some ⟨g, 0, none⟩) m cap) := by rw [cell_of_row _ _ _ _ _ _ hvY]; rfl
        have qg : Y.cell? ⟨g, (m - 1) * 2, none⟩ = some (.int .i16 a) := by rw [cell_of_row _ _ _ _ _ _ hcur]; exact hca
        have fg := frozen_of_row Y g ((m - 1) * 2) _ _ hcur
        have ng : w.heap.size ≠ g := by
          intro e
          rw [← e, hpY] at hcur
          cases hcur
        have nb : b3 ≠ g := by
          intro e
          rw [← e] at hcur
          have := hvY.symm.trans hcur
          cases this
        have hw1 : IntKind.i64.wrap ((m : Int) - 1) = ((m - 1 : Nat) : Int) := by rw [i64_smallR _ (by omega) (by omega)]; omega
        have y0 : (0 : Int) ≤ ((m - 1 : Nat) : Int) := by omega
        have y1 : ((m - 1 : Nat) : Int) < (m : Int) := by omega
        unfold maxLen at hcm
        have HP := Lib.hid hpY
        have HVY := Lib.hid hvY
        have HSET := Lib.hid hset
        have HKY := Lib.hid hkY
        have HBY := Lib.hid hbY
        clear hrY hxY hcur hca hpY hvY hset hkY hbY
        gi_wp2
        obtain ⟨ys, hy1, hy2⟩ := HSET.out (IntKind.i16.wrap (a + 1))
        refine ⟨HKY.out.trans (KeepsOthers.setCell _ _ _), HBY.out.setCell (p := ⟨g, (m - 1) * 2, none⟩) hbg _, (heap_setCell_other _ _ _ _ ng).trans HP.out, ⟨_, ys, (heap_setCell_other _ _ _ _ nb).trans HVY.out, by show World.ownsRow _ _ _ _ _ (cntR ps (k + 1)) _; rw [HM.out]; exact hy1, hy2⟩, (HBW.out.trans (HBY.out.mono (Nat.le_refl _))).setCell (p := ⟨g, (m - 1) * 2, none⟩) hbg _⟩
    · have zb : ((k : Int) == 0) = false := by rw [beq_eq_false_iff_ne]; omega
      have hw2 : IntKind.i64.wrap ((k : Int) - 1) = ((k - 1 : Nat) : Int) := by rw [i64_smallR _ (by omega) (by omega)]; omega
      have x0 : (0 : Int) ≤ ((k - 1 : Nat) : Int) := by omega
      have x1 : ((k - 1 : Nat) : Int) < 24 := by omega
      obtain ⟨tm, hF⟩ : ∃ tm, ps[k - 1]?.getD 0 = tm := ⟨_, rfl⟩
      have EY := Lib.hid hF
      have hir : isRun ps k = (tl != tm) := by
        unfold isRun
        rw [hE, hF, show (k == 0) = false from beq_eq_false_iff_ne.2 hk0, Bool.false_or]
      cases hnt : (tl != tm) with
      | true =>
        have HI : Hid (cntR ps (k + 1) = cntR ps k + 1) := by rw [HC1.out, hir, hnt]; rfl
        clear hE hF hir
        gi_wp2
        refine region_round (S := (fun V => V.heap[w.heap.size]? = some (.cells (i16s ps) 30 (0, 0)))) arrU (no_defer (by rfl)) (fun ⟨_, _, h⟩ => h) H0.out (fun hHeld => ?_)
        refine take_at (i := 0) (d := 6) (v := ?_) rfl rfl (by kernel_rfl) (by kernel_rfl) (by kernel_rfl) (fun _ _ _ h => h) (Or.inl ⟨by rfl, ?hy0u9⟩) hHeld ?rest0u9
        case hy0u9 =>
          intro w' hS'
          go_simp
          try with_reducible rfl
        simp only [List.setIfInBounds_toArray, List.set_cons_zero, List.set_cons_succ]
        refine take_at (i := 1) (d := 7) (v := ?_) rfl rfl (by kernel_rfl) (by kernel_rfl) (by kernel_rfl) (fun _ _ _ h => h) (Or.inl ⟨by rfl, ?hy1u10⟩) hHeld ?rest1u10
        case hy1u10 =>
          intro w' hS'
          go_simp
          try with_reducible rfl
        simp only [List.setIfInBounds_toArray, List.set_cons_zero, List.set_cons_succ]
        refine take_at (i := 2) (d := 8) (v := ?_) rfl rfl (by kernel_rfl) (by kernel_rfl) (by kernel_rfl) (fun _ _ _ h => h) (Or.inl ⟨by rfl, ?hy2u11⟩) hHeld ?rest2u11
        case hy2u11 =>
          intro w' hS'
          go_simp
          try with_reducible rfl
        simp only [List.setIfInBounds_toArray, List.set_cons_zero, List.set_cons_succ]
        refine take_at (i := 3) (d := 9) (v := ?_) rfl rfl (by kernel_rfl) (by kernel_rfl) (by kernel_rfl) (fun _ _ _ h => h) (Or.inl ⟨by rfl, ?hy3u12⟩) hHeld ?rest3u12
        case hy3u12 =>
          intro w' hS'
          go_simp
          try with_reducible rfl
        simp only [List.setIfInBounds_toArray, List.set_cons_zero, List.set_cons_succ]
        refine take_at (i := 4) (d := 10) (v := ?_) rfl rfl (by kernel_rfl) (by kernel_rfl) (by kernel_rfl) (fun _ _ _ h => h) (Or.inl ⟨by rfl, ?hy4u13⟩) hHeld ?rest4u13
        case hy4u13 =>
          intro w' hS'
          go_simp
          try with_reducible rfl
        simp only [List.setIfInBounds_toArray, List.set_cons_zero, List.set_cons_succ]
        refine take_at (i := 5) (d := 11) (v := ?_) rfl rfl (by kernel_rfl) (by kernel_rfl) (by kernel_rfl) (fun _ _ _ h => h) (Or.inl ⟨by rfl, ?hy5u14⟩) hHeld ?rest5u14
        case hy5u14 =>
          intro w' hS'
          have q := cell_of_i16s hS' k (by rw [Hp.out]; exact hk)
          rw [EX.out] at q
          go_simp
          try with_reducible rfl
        simp only [List.setIfInBounds_toArray, List.set_cons_zero, List.set_cons_succ]
        refine take_at (i := 6) (d := 12) (v := ?_) rfl rfl (by kernel_rfl) (by kernel_rfl) (by kernel_rfl) (fun _ _ _ h => h) (Or.inl ⟨by rfl, ?hy6u15⟩) hHeld ?rest6u15
        case hy6u15 =>
          intro w' hS'
          go_simp
          try with_reducible rfl
        simp only [List.setIfInBounds_toArray, List.set_cons_zero, List.set_cons_succ]
        refine take_at (i := 7) (d := 13) (v := ?_) rfl rfl (by kernel_rfl) (by kernel_rfl) (by kernel_rfl) (fun _ _ _ h => h) (Or.inl ⟨by rfl, ?hy7u16⟩) hHeld ?rest7u16
        case hy7u16 =>
          intro w' hS'
          go_simp
          try with_reducible rfl
        simp only [List.setIfInBounds_toArray, List.set_cons_zero, List.set_cons_succ]
        refine take_at (i := 8) (d := 14) (v := ?_) rfl rfl (by kernel_rfl) (by kernel_rfl) (by kernel_rfl) (fun _ _ _ h => h) (Or.inl ⟨by rfl, ?hy8u17⟩) hHeld ?rest8u17
        case hy8u17 =>
          intro w' hS'
          go_simp
          try with_reducible rfl
        simp only [List.setIfInBounds_toArray, List.set_cons_zero, List.set_cons_succ]
        refine take_at (i := 9) (d := 15) (v := ?_) rfl rfl (by kernel_rfl) (by kernel_rfl) (by kernel_rfl) (fun _ _ _ h => h) (Or.inl ⟨by rfl, ?hy9u18⟩) hHeld ?rest9u18
        case hy9u18 =>
          intro w' hS'
          have q := cell_of_i16s hS' (k - 1) (by rw [Hp.out]; omega)
          rw [EY.out] at q
          go_simp
          try with_reducible rfl
        simp only [List.setIfInBounds_toArray, List.set_cons_zero, List.set_cons_succ]
        refine take_at (i := 10) (d := 16) (v := ?_) rfl rfl (by kernel_rfl) (by kernel_rfl) (by kernel_rfl) (fun _ _ _ h => h) (Or.inl ⟨by rfl, ?hy10u19⟩) hHeld ?rest10u19
        case hy10u19 =>
          intro w' hS'
          go_simp
          try with_reducible rfl
        simp only [List.setIfInBounds_toArray, List.set_cons_zero, List.set_cons_succ]
        refine take_at (i := 11) (d := 17) (v := ?_) rfl rfl (by kernel_rfl) (by kernel_rfl) (by kernel_rfl) (fun _ _ _ h => h) (Or.inl ⟨by rfl, ?hy11u20⟩) hHeld ?rest11u20
        case hy11u20 =>
          intro w' hS'
          go_simp
          try with_reducible rfl
        simp only [List.setIfInBounds_toArray, List.set_cons_zero, List.set_cons_succ]
        refine wpAnyH_done (by kernel_rfl) ?_ _
        clear hHeld
        gi_wp2
        refine region_round (S := (fun V => V.heap[w.heap.size]? = some (.cells (i16s ps) 30 (0, 0)))) arrU (no_defer (by rfl)) (fun ⟨_, _, h⟩ => h) H0.out (fun hHeld => ?_)
        obtain ⟨V, hV⟩ : ∃ V, V = W.drew.drew := ⟨_, rfl⟩
        rw [← hV] at hHeld ⊢
        have hp2 : V.heap[w.heap.size]? = some (.cells (i16s ps) 30 (0, 0)) := hHeld
        have hv2 : Boxed V b3 97 v := by rw [hV]; exact HV.out
        have hr2 : V.ownsRow w.heap.size 122 2 v (cntR ps k) xs := by rw [hV]; exact HR.out
        have hB2 : Below W.heap.size W V := by rw [hV]; exact (Below.refl _ _).drew.drew
        have hk2 : KeepsOthers W V := keeps_of_belowR hB2
        have hsz : w.heap.size ≤ V.heap.size := Nat.le_trans hwW hB2.size
        clear hV
        refine take_at (i := 1) (d := 19) (v := ?_) rfl rfl (by kernel_rfl) (by kernel_rfl) (by kernel_rfl) (fun _ _ _ h => h) (Or.inl ⟨by rfl, ?hy1u21⟩) hHeld ?rest1u21
        case hy1u21 =>
          intro w' hS'
          go_simp
          try with_reducible rfl
        simp only [List.setIfInBounds_toArray, List.set_cons_zero, List.set_cons_succ]
        refine take_at (i := 2) (d := 20) (v := ?_) rfl rfl (by kernel_rfl) (by kernel_rfl) (by kernel_rfl) (fun _ _ _ h => h) (Or.inl ⟨by rfl, ?hy2u22⟩) hHeld ?rest2u22
        case hy2u22 =>
          intro w' hS'
          go_simp
          try with_reducible rfl
        simp only [List.setIfInBounds_toArray, List.set_cons_zero, List.set_cons_succ]
        refine take_at (i := 3) (d := 21) (v := ?_) rfl rfl (by kernel_rfl) (by kernel_rfl) (by kernel_rfl) (fun _ _ _ h => h) (Or.inl ⟨by rfl, ?hy3u23⟩) hHeld ?rest3u23
        case hy3u23 =>
          intro w' hS'
          have q := cell_of_i16s hS' k (by rw [Hp.out]; exact hk)
          rw [EX.out] at q
          go_simp
          try with_reducible rfl
        simp only [List.setIfInBounds_toArray, List.set_cons_zero, List.set_cons_succ]
        refine take_at (i := 4) (d := 22) (v := ?_) rfl rfl (by kernel_rfl) (by kernel_rfl) (by kernel_rfl) (fun _ _ _ h => h) (Or.inl ⟨by rfl, ?hy4u24⟩) hHeld ?rest4u24
        case hy4u24 =>
          intro w' hS'
          go_simp
          try with_reducible rfl
        simp only [List.setIfInBounds_toArray, List.set_cons_zero, List.set_cons_succ]
        refine wpAnyH_ready (rs := [0, 5]) (by kernel_rfl) (by simp) ?_
        refine AllReadyH.cons rfl (fun K hK => ?_) (AllReadyH.cons rfl (fun K hK => ?_) AllReadyH.nil)
        · have c0 := hv2.cell
          go_simp
          refine hK.out _ _ hp2 (fun _ => ?_)
          clear hK K c0
          refine wpAnyH_ready (rs := [5]) (by kernel_rfl) (by simp) ?_
          refine AllReadyH.cons rfl (fun K hK => ?_) AllReadyH.nil
          go_simp
          refine hK.out _ _ (below_row ((Below.refl V.heap.size V).alloc (Nat.le_refl _) _) hp2) (fun _ => ?_)
          clear hK K
          refine wpAnyH_ready (rs := [6]) (by kernel_rfl) (by simp) ?_
          refine AllReadyH.cons rfl (fun K hK => ?_) AllReadyH.nil
          show Oper.wp _ _ _ _ _ _
          refine wp_append_own _ (.tmp 18) (.tmp 23) 97 rfl w.heap.size 122 i0 (.agg #[.int .i16 0, .int .i16 0]) 2 4 Tryz.underlying97 hi hz0 hz1 hz2 rfl (by decide) v _ xs rfl (hr2.alloc _) ⟨V.heap.size, 0, none⟩ 1 1 [.int .i16 0, .int .i16 tl] rfl rfl (cell_two_new _ _ _ _) (by intro u hu; simp at hu; rcases hu with rfl | rfl <;> rfl) (by unfold maxLen; omega) (by omega) (by simp; omega) ?_
          intro v' w1 hown hgrow hnil
          obtain ⟨g', cap', rfl⟩ := ownsRow_succ hown
          obtain ⟨hv1, hvY, hrY, hk3, hb3⟩ := hv2.appended (by decide) hr2 hsz (by omega) hown hgrow
          have hc1 := hv1.cell
          have hf1 := hv1.frozen
          have hp1 := kept_appendR hp2 (by decide) hr2 hgrow
          refine hK.out _ _ hp1 (fun _ => ?_)
          clear hK K
          refine wpAnyH_ready (rs := [7]) (by kernel_rfl) (by simp) ?_
          refine AllReadyH.cons rfl (fun K hK => ?_) AllReadyH.nil
          go_simp
          refine hK.out _ _ ((heap_setCell_other _ _ _ _ (by simp; omega)).trans hp1) (fun _ => ?_)
          clear hK K
          refine wpAnyH_done (by kernel_rfl) ?_ _
          have hpY := (heap_setCell_other w1 ⟨b3, 0, none⟩ _ (.slice (some ⟨g', 0, none⟩) (cntR ps k + 1) cap') (by simp; omega)).trans hp1
          generalize w1.setCell ⟨b3, 0, none⟩ (.slice (some ⟨g', 0, none⟩) (cntR ps k + 1) cap') = Y at *
          have hxY : AllW (xs ++ [.int .i16 0, .int .i16 tl]) := by
            intro x hx
            rcases List.mem_append.1 hx with h | h
            · exact HX.out x h
            · simp at h
              rcases h with rfl | rfl
              · exact ⟨0, rfl⟩
              · exact ⟨tl, rfl⟩
          have hkY := hk2.trans hk3
          have hbY := (hB2.mono hwW).trans hb3
          clear hk2 hk3 hb3 hv1 hc1 hf1 hp1 hv2 hr2 hp2 hown hgrow hnil
          have hm1 : 0 < cntR ps k + 1 := by omega
          have hm2 : cntR ps k + 1 ≤ 24 := by omega
          have HM : Hid (cntR ps (k + 1) = cntR ps k + 1) := HI
          clear HI HC1
          generalize cntR ps k + 1 = m at *
          obtain ⟨g, cap, cur, a, e, hbg, hnc, hcm, hcur, hca, hset⟩ := run_last hrY hxY hm1
          injection e with e1 e2 e3
          injection e1 with e1
          injection e1 with e1
          have e5 := e1.symm
          have e6 := e3.symm
          subst e5 e6
          have qb : Y.cell? ⟨b3, 0, none⟩ = some (.slice (some ⟨g, 0, none⟩) m cap) := by rw [cell_of_row _ _ _ _ _ _ hvY]; rfl
          have qg : Y.cell? ⟨g, (m - 1) * 2, none⟩ = some (.int .i16 a) := by rw [cell_of_row _ _ _ _ _ _ hcur]; exact hca
          have fg := frozen_of_row Y g ((m - 1) * 2) _ _ hcur
          have ng : w.heap.size ≠ g := by
            intro e
            rw [← e, hpY] at hcur
            cases hcur
          have nb : b3 ≠ g := by
            intro e
            rw [← e] at hcur
            have := hvY.symm.trans hcur
            cases this
          have hw1 : IntKind.i64.wrap ((m : Int) - 1) = ((m - 1 : Nat) : Int) := by rw [i64_smallR _ (by omega) (by omega)]; omega
          have y0 : (0 : Int) ≤ ((m - 1 : Nat) : Int) := by omega
          have y1 : ((m - 1 : Nat) : Int) < (m : Int) := by omega
          unfold maxLen at hcm
          have HP := Lib.hid hpY
          have HVY := Lib.hid hvY
          have HSET := Lib.hid hset
          have HKY := Lib.hid hkY
          have HBY := Lib.hid hbY
          clear hrY hxY hcur hca hpY hvY hset hkY hbY
          gi_wp2
          obtain ⟨ys, hy1, hy2⟩ := HSET.out (IntKind.i16.wrap (a + 1))
          refine ⟨HKY.out.trans (KeepsOthers.setCell _ _ _), HBY.out.setCell (p := ⟨g, (m - 1) * 2, none⟩) hbg _, (heap_setCell_other _ _ _ _ ng).trans HP.out, ⟨_, ys, (heap_setCell_other _ _ _ _ nb).trans HVY.out, by show World.ownsRow _ _ _ _ _ (cntR ps (k + 1)) _; rw [HM.out]; exact hy1, hy2⟩, (HBW.out.trans (HBY.out.mono (Nat.le_refl _))).setCell (p := ⟨g, (m - 1) * 2, none⟩) hbg _⟩
        · go_simp
          refine hK.out _ _ (below_row ((Below.refl V.heap.size V).alloc (Nat.le_refl _) _) hp2) (fun _ => ?_)
          clear hK K
          refine wpAnyH_ready (rs := [0]) (by kernel_rfl) (by simp) ?_
          refine AllReadyH.cons rfl (fun K hK => ?_) AllReadyH.nil
          have c0 := (hv2.alloc (.cells #[.int .i16 0, .int .i16 tl] 122)).cell
          go_simp
          refine hK.out _ _ (below_row ((Below.refl V.heap.size V).alloc (Nat.le_refl _) _) hp2) (fun _ => ?_)
          clear hK K c0
          refine wpAnyH_ready (rs := [6]) (by kernel_rfl) (by simp) ?_
          refine AllReadyH.cons rfl (fun K hK => ?_) AllReadyH.nil
          show Oper.wp _ _ _ _ _ _
          refine wp_append_own _ (.tmp 18) (.tmp 23) 97 rfl w.heap.size 122 i0 (.agg #[.int .i16 0, .int .i16 0]) 2 4 Tryz.underlying97 hi hz0 hz1 hz2 rfl (by decide) v _ xs rfl (hr2.alloc _) ⟨V.heap.size, 0, none⟩ 1 1 [.int .i16 0, .int .i16 tl] rfl rfl (cell_two_new _ _ _ _) (by intro u hu; simp at hu; rcases hu with rfl | rfl <;> rfl) (by unfold maxLen; omega) (by omega) (by simp; omega) ?_
          intro v' w1 hown hgrow hnil
          obtain ⟨g', cap', rfl⟩ := ownsRow_succ hown
          obtain ⟨hv1, hvY, hrY, hk3, hb3⟩ := hv2.appended (by decide) hr2 hsz (by omega) hown hgrow
          have hc1 := hv1.cell
          have hf1 := hv1.frozen
          have hp1 := kept_appendR hp2 (by decide) hr2 hgrow
          refine hK.out _ _ hp1 (fun _ => ?_)
          clear hK K
          refine wpAnyH_ready (rs := [7]) (by kernel_rfl) (by simp) ?_
          refine AllReadyH.cons rfl (fun K hK => ?_) AllReadyH.nil
          go_simp
          refine hK.out _ _ ((heap_setCell_other _ _ _ _ (by simp; omega)).trans hp1) (fun _ => ?_)
          clear hK K
          refine wpAnyH_done (by kernel_rfl) ?_ _
          have hpY := (heap_setCell_other w1 ⟨b3, 0, none⟩ _ (.slice (some ⟨g', 0, none⟩) (cntR ps k + 1) cap') (by simp; omega)).trans hp1
          generalize w1.setCell ⟨b3, 0, none⟩ (.slice (some ⟨g', 0, none⟩) (cntR ps k + 1) cap') = Y at *
          have hxY : AllW (xs ++ [.int .i16 0, .int .i16 tl]) := by
            intro x hx
            rcases List.mem_append.1 hx with h | h
            · exact HX.out x h
            · simp at h
              rcases h with rfl | rfl
              · exact ⟨0, rfl⟩
              · exact ⟨tl, rfl⟩
          have hkY := hk2.trans hk3
          have hbY := (hB2.mono hwW).trans hb3
          clear hk2 hk3 hb3 hv1 hc1 hf1 hp1 hv2 hr2 hp2 hown hgrow hnil
          have hm1 : 0 < cntR ps k + 1 := by omega
          have hm2 : cntR ps k + 1 ≤ 24 := by omega
          have HM : Hid (cntR ps (k + 1) = cntR ps k + 1) := HI
          clear HI HC1
          generalize cntR ps k + 1 = m at *
          obtain ⟨g, cap, cur, a, e, hbg, hnc, hcm, hcur, hca, hset⟩ := run_last hrY hxY hm1
          injection e with e1 e2 e3
          injection e1 with e1
          injection e1 with e1
          have e5 := e1.symm
          have e6 := e3.symm
          subst e5 e6
          have qb : Y.cell? ⟨b3, 0, none⟩ = some (.slice (some ⟨g, 0, none⟩) m cap) := by rw [cell_of_row _ _ _ _ _ _ hvY]; rfl
          have qg : Y.cell? ⟨g, (m - 1) * 2, none⟩ = some (.int .i16 a) := by rw [cell_of_row _ _ _ _ _ _ hcur]; exact hca
          have fg := frozen_of_row Y g ((m - 1) * 2) _ _ hcur
          have ng : w.heap.size ≠ g := by
            intro e
            rw [← e, hpY] at hcur
            cases hcur
          have nb : b3 ≠ g := by
            intro e
            rw [← e] at hcur
            have := hvY.symm.trans hcur
            cases this
          have hw1 : IntKind.i64.wrap ((m : Int) - 1) = ((m - 1 : Nat) : Int) := by rw [i64_smallR _ (by omega) (by omega)]; omega
          have y0 : (0 : Int) ≤ ((m - 1 : Nat) : Int) := by omega
          have y1 : ((m - 1 : Nat) : Int) < (m : Int) := by omega
          unfold maxLen at hcm
          have HP := Lib.hid hpY
          have HVY := Lib.hid hvY
          have HSET := Lib.hid hset
          have HKY := Lib.hid hkY
          have HBY := Lib.hid hbY
          clear hrY hxY hcur hca hpY hvY hset hkY hbY
          gi_wp2
          obtain ⟨ys, hy1, hy2⟩ := HSET.out (IntKind.i16.wrap (a + 1))
          refine ⟨HKY.out.trans (KeepsOthers.setCell _ _ _), HBY.out.setCell (p := ⟨g, (m - 1) * 2, none⟩) hbg _, (heap_setCell_other _ _ _ _ ng).trans HP.out, ⟨_, ys, (heap_setCell_other _ _ _ _ nb).trans HVY.out, by show World.ownsRow _ _ _ _ _ (cntR ps (k + 1)) _; rw [HM.out]; exact hy1, hy2⟩, (HBW.out.trans (HBY.out.mono (Nat.le_refl _))).setCell (p := ⟨g, (m - 1) * 2, none⟩) hbg _⟩
      | false =>
        have HI : Hid (cntR ps (k + 1) = cntR ps k) := by rw [HC1.out, hir, hnt]; rfl
        clear hE hF hir
        gi_wp2
        refine region_round (S := (fun V => V.heap[w.heap.size]? = some (.cells (i16s ps) 30 (0, 0)))) arrU (no_defer (by rfl)) (fun ⟨_, _, h⟩ => h) H0.out (fun hHeld => ?_)
        refine take_at (i := 0) (d := 6) (v := ?_) rfl rfl (by kernel_rfl) (by kernel_rfl) (by kernel_rfl) (fun _ _ _ h => h) (Or.inl ⟨by rfl, ?hy0u25⟩) hHeld ?rest0u25
        case hy0u25 =>
          intro w' hS'
          go_simp
          try with_reducible rfl
        simp only [List.setIfInBounds_toArray, List.set_cons_zero, List.set_cons_succ]
        refine take_at (i := 1) (d := 7) (v := ?_) rfl rfl (by kernel_rfl) (by kernel_rfl) (by kernel_rfl) (fun _ _ _ h => h) (Or.inl ⟨by rfl, ?hy1u26⟩) hHeld ?rest1u26
        case hy1u26 =>
          intro w' hS'
          go_simp
          try with_reducible rfl
        simp only [List.setIfInBounds_toArray, List.set_cons_zero, List.set_cons_succ]
        refine take_at (i := 2) (d := 8) (v := ?_) rfl rfl (by kernel_rfl) (by kernel_rfl) (by kernel_rfl) (fun _ _ _ h => h) (Or.inl ⟨by rfl, ?hy2u27⟩) hHeld ?rest2u27
        case hy2u27 =>
          intro w' hS'
          go_simp
          try with_reducible rfl
        simp only [List.setIfInBounds_toArray, List.set_cons_zero, List.set_cons_succ]
        refine take_at (i := 3) (d := 9) (v := ?_) rfl rfl (by kernel_rfl) (by kernel_rfl) (by kernel_rfl) (fun _ _ _ h => h) (Or.inl ⟨by rfl, ?hy3u28⟩) hHeld ?rest3u28
        case hy3u28 =>
          intro w' hS'
          go_simp
          try with_reducible rfl
        simp only [List.setIfInBounds_toArray, List.set_cons_zero, List.set_cons_succ]
        refine take_at (i := 4) (d := 10) (v := ?_) rfl rfl (by kernel_rfl) (by kernel_rfl) (by kernel_rfl) (fun _ _ _ h => h) (Or.inl ⟨by rfl, ?hy4u29⟩) hHeld ?rest4u29
        case hy4u29 =>
          intro w' hS'
          go_simp
          try with_reducible rfl
        simp only [List.setIfInBounds_toArray, List.set_cons_zero, List.set_cons_succ]
        refine take_at (i := 5) (d := 11) (v := ?_) rfl rfl (by kernel_rfl) (by kernel_rfl) (by kernel_rfl) (fun _ _ _ h => h) (Or.inl ⟨by rfl, ?hy5u30⟩) hHeld ?rest5u30
        case hy5u30 =>
          intro w' hS'
          have q := cell_of_i16s hS' k (by rw [Hp.out]; exact hk)
          rw [EX.out] at q
          go_simp
          try with_reducible rfl
        simp only [List.setIfInBounds_toArray, List.set_cons_zero, List.set_cons_succ]
        refine take_at (i := 6) (d := 12) (v := ?_) rfl rfl (by kernel_rfl) (by kernel_rfl) (by kernel_rfl) (fun _ _ _ h => h) (Or.inl ⟨by rfl, ?hy6u31⟩) hHeld ?rest6u31
        case hy6u31 =>
          intro w' hS'
          go_simp
          try with_reducible rfl
        simp only [List.setIfInBounds_toArray, List.set_cons_zero, List.set_cons_succ]
        refine take_at (i := 7) (d := 13) (v := ?_) rfl rfl (by kernel_rfl) (by kernel_rfl) (by kernel_rfl) (fun _ _ _ h => h) (Or.inl ⟨by rfl, ?hy7u32⟩) hHeld ?rest7u32
        case hy7u32 =>
          intro w' hS'
          go_simp
          try with_reducible rfl
        simp only [List.setIfInBounds_toArray, List.set_cons_zero, List.set_cons_succ]
        refine take_at (i := 8) (d := 14) (v := ?_) rfl rfl (by kernel_rfl) (by kernel_rfl) (by kernel_rfl) (fun _ _ _ h => h) (Or.inl ⟨by rfl, ?hy8u33⟩) hHeld ?rest8u33
        case hy8u33 =>
          intro w' hS'
          go_simp
          try with_reducible rfl
        simp only [List.setIfInBounds_toArray, List.set_cons_zero, List.set_cons_succ]
        refine take_at (i := 9) (d := 15) (v := ?_) rfl rfl (by kernel_rfl) (by kernel_rfl) (by kernel_rfl) (fun _ _ _ h => h) (Or.inl ⟨by rfl, ?hy9u34⟩) hHeld ?rest9u34
        case hy9u34 =>
          intro w' hS'
          have q := cell_of_i16s hS' (k - 1) (by rw [Hp.out]; omega)
          rw [EY.out] at q
          go_simp
          try with_reducible rfl
        simp only [List.setIfInBounds_toArray, List.set_cons_zero, List.set_cons_succ]
        refine take_at (i := 10) (d := 16) (v := ?_) rfl rfl (by kernel_rfl) (by kernel_rfl) (by kernel_rfl) (fun _ _ _ h => h) (Or.inl ⟨by rfl, ?hy10u35⟩) hHeld ?rest10u35
        case hy10u35 =>
          intro w' hS'
          go_simp
          try with_reducible rfl
        simp only [List.setIfInBounds_toArray, List.set_cons_zero, List.set_cons_succ]
        refine take_at (i := 11) (d := 17) (v := ?_) rfl rfl (by kernel_rfl) (by kernel_rfl) (by kernel_rfl) (fun _ _ _ h => h) (Or.inl ⟨by rfl, ?hy11u36⟩) hHeld ?rest11u36
        case hy11u36 =>
          intro w' hS'
          go_simp
          try with_reducible rfl
        simp only [List.setIfInBounds_toArray, List.set_cons_zero, List.set_cons_succ]
        refine wpAnyH_done (by kernel_rfl) ?_ _
        clear hHeld
        obtain ⟨Y, hY⟩ : ∃ Y, Y = W.drew := ⟨_, rfl⟩
        rw [← hY]
        have hpY : Y.heap[w.heap.size]? = some (.cells (i16s ps) 30 (0, 0)) := by rw [hY]; exact H0.out
        have hvY : Boxed Y b3 97 v := by rw [hY]; exact HV.out
        have hrY : Y.ownsRow w.heap.size 122 2 v (cntR ps k) xs := by rw [hY]; exact HR.out
        have hxY := HX.out
        have hB2 : Below W.heap.size W Y := by rw [hY]; exact (Below.refl _ _).drew
        have hkY : KeepsOthers W Y := keeps_of_belowR hB2
        have hbY := hB2.mono hwW
        clear hY hB2
        have hm1 : 0 < cntR ps k := cntR_pos ps k (by omega)
        have hm2 : cntR ps k ≤ 24 := by omega
        have HM : Hid (cntR ps (k + 1) = cntR ps k) := HI
        clear HI HC1
        generalize cntR ps k = m at *
        obtain ⟨g, cap, cur, a, e, hbg, hnc, hcm, hcur, hca, hset⟩ := run_last hrY hxY hm1
        subst e
        have qb : Y.cell? ⟨b3, 0, none⟩ = some (.slice (some ⟨g, 0, none⟩) m cap) := by rw [cell_of_row _ _ _ _ _ _ hvY]; rfl
        have qg : Y.cell? ⟨g, (m - 1) * 2, none⟩ = some (.int .i16 a) := by rw [cell_of_row _ _ _ _ _ _ hcur]; exact hca
        have fg := frozen_of_row Y g ((m - 1) * 2) _ _ hcur
        have ng : w.heap.size ≠ g := by
          intro e
          rw [← e, hpY] at hcur
          cases hcur
        have nb : b3 ≠ g := by
          intro e
          rw [← e] at hcur
          have := hvY.symm.trans hcur
          cases this
        have hw1 : IntKind.i64.wrap ((m : Int) - 1) = ((m - 1 : Nat) : Int) := by rw [i64_smallR _ (by omega) (by omega)]; omega
        have y0 : (0 : Int) ≤ ((m - 1 : Nat) : Int) := by omega
        have y1 : ((m - 1 : Nat) : Int) < (m : Int) := by omega
        unfold maxLen at hcm
        have HP := Lib.hid hpY
        have HVY := Lib.hid hvY
        have HSET := Lib.hid hset
        have HKY := Lib.hid hkY
        have HBY := Lib.hid hbY
        clear hrY hxY hcur hca hpY hvY hset hkY hbY
        gi_wp2
        obtain ⟨ys, hy1, hy2⟩ := HSET.out (IntKind.i16.wrap (a + 1))
        refine ⟨HKY.out.trans (KeepsOthers.setCell _ _ _), HBY.out.setCell (p := ⟨g, (m - 1) * 2, none⟩) hbg _, (heap_setCell_other _ _ _ _ ng).trans HP.out, ⟨_, ys, (heap_setCell_other _ _ _ _ nb).trans HVY.out, by show World.ownsRow _ _ _ _ _ (cntR ps (k + 1)) _; rw [HM.out]; exact hy1, hy2⟩, (HBW.out.trans (HBY.out.mono (Nat.le_refl _))).setCell (p := ⟨g, (m - 1) * 2, none⟩) hbg _⟩
  case done =>
    rintro D W hD ⟨h0, ⟨v, xs, hv, hrow, hx⟩, hbw⟩ hK
    have c3 : W.cell? ⟨b3, 0, none⟩ = some v := by rw [cell_of_row _ _ _ _ _ _ hv]; rfl
    obtain ⟨g, cap, cur, a, rfl, -⟩ := run_last hrow hx (cntR_pos ps 24 (by decide))
    have HK := Lib.hid hK
    have HBW := Lib.hid hbw
    have hD' : w.heap.size ≤ D := by omega
    clear hK h0 hv hrow hx hbw
    go_wp2
    refine ⟨by simp, .inl ⟨_, _, rfl, run_takeDeferred HK.out, ?_⟩⟩
    refine ⟨_, results_tmp (fn := Tryz.f44) rfl _ _ _, ⟨_, _, rfl⟩, HBW.out.trans (belowK_b (w := w) (Nat.le_refl _) W D _ _ hD' HK.out rfl rfl)⟩

end Go.Proofs.YtmniodfdoidffaaGreatDoor
