/-
  Where, ListLaw, TaA, Over, FallDay, Best, BestRun, FwA, FwB, IntA, FwC, FwD, TaW, RgN, RuN, ChW.
-/
import Derived.RangeFuncBox
import Derived.Maps.AppendAt
import Derived.Test.YtddnfbpgldchcaaGreatDoorMt2
import Derived.Test.YtddnfbpgldchcaaGreatDoorMt1
import Derived.RowKit
import Derived.RangeFuncFrom
import Derived.RangeFuncWrites
import Derived.Test.YtddnfbpgldchcaaGreatDoorGenL
import Derived.Test.YtddnfbpgldchcaaGreatDoorLaw
import Derived.Deep.Slices
import Derived.ChangeSlices
import Derived.ChangeShapes
import Derived.ChangeSame
import Derived.WalkSpells
import Derived.OwnWalk
import Derived.Laws.AppendOwn
import Derived.Deep.Cut
import Derived.Deep.DeepCutAuto

namespace Go.Proofs.YtddnfbpgldchcaaGreatDoor

open Go.RowKit Go.Shelf

attribute [local go_sem] Oper.semAt_some run_store_f

/-- The tilts of a list that are wanted. -/
def wantT (p : Int → Bool) (pre : List Tl) : List Int := (pre.map (·.1)).filter p

theorem wantT_hit (p : Int → Bool) (pre : List Tl) (x : Tl) (h : p x.1 = true) : wantT p (pre ++ [x]) = wantT p pre ++ [x.1] := by simp [wantT, h]

theorem wantT_miss (p : Int → Bool) (pre : List Tl) (x : Tl) (h : p x.1 = false) : wantT p (pre ++ [x]) = wantT p pre := by simp [wantT, h]

theorem wantT_len (p : Int → Bool) (pre : List Tl) : (wantT p pre).length ≤ pre.length := by
  have := List.length_filter_le p (pre.map (·.1))
  rw [List.length_map] at this
  exact this

theorem heap_keptW {W W' : World} {row : Option Nat} {b : Nat} {cs : Array Value} {t : TypeId} {fr : Nat × Nat} (h : W.heap[b]? = some (.cells cs t fr)) (hg : W.grownBy W' row)
    (hr : ∀ r, row = some r → ∃ o : Obj, W.heap[r]? = some o ∧ o.isCells = false) : W'.heap[b]? = some (.cells cs t fr) := by
  have hlt := (Array.getElem?_eq_some_iff.1 h).1
  rw [← h]
  refine hg.block b hlt fun e => ?_
  obtain ⟨o, ho, hc⟩ := hr b e.symm
  rw [h] at ho
  cases ho
  cases hc

theorem keeps_of_belowW {W W1 : World} (hb : Below W.heap.size W W1) : KeepsOthers W W1 := ⟨hb.size, fun b _ ho _ => (hb.block b (Array.getElem?_eq_some_iff.1 ho).1).trans ho⟩

theorem laid_allw (cs vs : Array Value) (h : cs.size = vs.size) : laid cs vs 0 = vs := by
  apply Array.ext'
  simp [laid]
  rw [← h]; simp

theorem blind_onew (n : Int) (wd gp : Nat) (t : Int) (sh : Nat) : ∀ v ∈ blindC n wd gp t sh, v.oneCell' = true := by
  intro v hv
  simp only [blindC, List.mem_toArray, List.mem_cons, List.not_mem_nil, or_false] at hv
  rcases hv with rfl | rfl | rfl | rfl | rfl <;> rfl

theorem not_rowW {W : World} {g : Nat} {cs : Array Value} {t e : TypeId} {fr : Nat × Nat} (h : W.heap[g]? = some (.cells cs t fr)) (hte : t ≠ e) {base size k : Nat} {v : Value} {xs : List Value} (hr : W.ownsRow base e size v k xs) : some g ≠ v.ownBlock := by
  rcases hr.2 with ⟨rfl, _⟩ | ⟨g', cap, cur, rfl, _, hgb, _⟩
  · simp [Value.ownBlock]
  · intro e'
    obtain rfl : g = g' := by simpa [Value.ownBlock] using e'
    rw [h] at hgb
    injection hgb with e1
    injection e1 with _ e2 _
    exact hte e2

theorem kept_append {W w1 : World} {g b3 base k : Nat} {cs : Array Value} {t e : TypeId} {fr : Nat × Nat} {v u : Value} {xs : List Value} {tmp : Obj} (h : W.heap[g]? = some (.cells cs t fr)) (hte : t ≠ e) (hr : W.ownsRow base e 1 v k xs)
    (hg : (W.alloc tmp).grownBy w1 v.ownBlock) (hne : g ≠ b3) : (w1.setCell ⟨b3, 0, none⟩ u).heap[g]? = some (.cells cs t fr) := by
  rw [heap_setCell_other _ _ _ _ hne]
  have h1 : (W.alloc tmp).heap[g]? = some (.cells cs t fr) := below_row ((Below.refl W.heap.size W).alloc (Nat.le_refl _) _) h
  exact (hg.block g (row_lt h1) (not_rowW h hte hr)).trans h1

theorem owns_below {W w1 : World} {base k : Nat} {e : TypeId} {v : Value} {xs : List Value} (h : W.ownsRow base e 1 v k xs) (hb : Below W.heap.size W w1) : w1.ownsRow base e 1 v k xs :=
  h.kept (grown_of_below hb none) (by cases v.ownBlock <;> simp)

theorem own_of_row {α : Type} {W : World} {base : Nat} {e : TypeId} {mk : α → Value} {v : Value} {xs : List α} (h : W.ownsRow base e 1 v xs.length (xs.map mk)) (_ : xs.length ≤ maxLen) : Own W base e mk v xs := by
  rcases h.2 with ⟨rfl, hz⟩ | ⟨g, cap, cur, rfl, hbg, hg, hnc, hcm, hsz, htk⟩
  · exact ⟨none, 0, by rw [hz], Nat.zero_le _, by omega, .inl ⟨rfl, List.eq_nil_of_length_eq_zero hz⟩⟩
  · refine ⟨_, cap, rfl, hcm, hnc, .inr ⟨g, cur, rfl, hbg, hg, fun k hk => ?_⟩⟩
    have h1 : (cur.toList.take (xs.length * 1))[k]? = cur[k]? := by
      rw [List.getElem?_take_of_lt (by omega), Array.getElem?_toList]
    rw [← h1, htk, List.getElem?_map]

/-- A list cut to its length, behind the turn of a block that is no cells. -/
theorem own_cut {α : Type} {W : World} {base g cap D : Nat} {e : TypeId} {mk : α → Value} {xs : List α} {o o' : Obj} (h : Own W base e mk (.slice (some ⟨g, 0, none⟩) xs.length cap) xs) (hD : W.heap[D]? = some o) (ho : o.isCells = false) :
    Own (W.putObj D o') base e mk (.slice (some ⟨g, 0, none⟩) xs.length xs.length) xs := by
  obtain ⟨a, c, h1, h2, h3, h4⟩ := h
  injection h1 with e1 e2 e3
  refine ⟨_, _, rfl, by omega, Nat.le_refl _, ?_⟩
  rcases h4 with ⟨ea, _⟩ | ⟨g', cur, ea, hb, hc, hk⟩
  · rw [ea] at e1; cases e1
  · rw [ea] at e1
    injection e1 with e1
    injection e1 with e1
    subst e1
    refine .inr ⟨g, cur, rfl, hb, ?_, hk⟩
    rw [World.putObj_heap_other ?_]
    · exact hc
    · rintro rfl
      rw [hc] at hD
      injection hD with hD
      subst hD
      cases ho

/-- What the walk over the tilts keeps: the tilts so far, what asks, the blind that the iterator holds. -/
def WhereI (n : Int) (wd gp : Nat) (t : Int) (sh : Nat) (p : Int → Bool) (w : World) (b1 b3 gb : Nat) (fv : Value) (pre : List Tl) (W : World) : Prop :=
  (∃ v, Boxed W b3 117 v ∧ W.ownsRow w.heap.size 2 1 v (wantT p pre).length ((wantT p pre).map (Value.int .i64)) ∧ True) ∧ Boxed W b1 168 fv ∧ W.heap[gb]? = some (.cells (blindC n wd gp t sh) 32 (0, 0)) ∧ Below w.heap.size w W

theorem whereI_own (n : Int) (wd gp : Nat) (t : Int) (sh : Nat) (p : Int → Bool) (w : World) (b1 b3 gb : Nat) (fv : Value) (B : Nat) (hB : w.heap.size ≤ B) : OwnFrom B (WhereI n wd gp t sh p w b1 b3 gb fv) := by
  intro s W W' row ⟨h1, h2, h3, h4⟩ hg' hr
  have hr2 := fun r e => (hr r e).2
  refine ⟨Go.holdsRow_own w.heap.size b3 117 2 1 (fun pre => (wantT p pre).length) (fun pre => (wantT p pre).map (Value.int .i64)) (fun _ _ => True) s W W' row h1 hg' hr2, ?_, ?_, ownFrom_below (β := Unit) (Nat.le_refl _) hB () W W' row h4 hg' hr⟩
  · exact boxed_own (β := Unit) b1 168 (fun _ => fv) () W W' row h2 hg' hr2
  · exact heap_keptW h3 hg' hr2

theorem infoW : (Tryz.prog.info? 2).map (fun i => (i.zero, i.size, i.bytes)) = some (some (.int .i64 0), 1, 8) := by kernel_rfl

set_option maxRecDepth 100000 in
set_option maxHeartbeats 1000000 in
theorem eachTilted_any (n : Int) (wd gp : Nat) (t : Int) (sh : Nat) (w : World) :
    Calls Tryz.prog 187 #[.agg (blindC n wd gp t sh)] w fun e w' => e = .returned (.func (.func 189) #[] #[.pointer (some ⟨w.heap.size, 0, none⟩)]) ∧ w' = w.alloc (.cells (blindC n wd gp t sh) 32) := by
  go_enter Tryz.func187, Tryz.ntmps187
  go_wp2
  go_ret
  exact ⟨rfl, rfl⟩

theorem eachTilted_stops (n : Int) (wd gp : Nat) (t : Int) (sh : Nat) (gb : Nat) (w : World) (hg : w.heap[gb]? = some (.cells (blindC n wd gp t sh) 32 (0, 0))) :
    SeqStopsK Fence.wide 3 Tryz.prog 189 #[.pointer (some ⟨gb, 0, none⟩)] (fun x : Tl => #[.agg (blindC n wd gp x.1 sh)]) (KeepsAt gb) (fun xs => xs = tls 129) (fun pre => ∃ k, k ≤ 129 ∧ pre = tls k) 129 w := fun l J Jx W hW hJ _ hY h0 =>
  eachTilted_in n wd gp t sh gb 1 l J Jx hY W hJ h0 (below_row hW hg)

set_option maxRecDepth 100000 in
set_option maxHeartbeats 2000000 in
theorem tiltsWhere_any (n : Int) (wd gp : Nat) (t : Int) (sh : Nat) (Fc : FuncId) (hE : ∀ args w, (callFunc Fc args).run Tryz.prog w = .ok (.enter Fc args) w) (lbw : Array Value) (p : Int → Bool) (C : World → Prop) (w : World) (hC : ∀ W, Below w.heap.size w W → C W)
    (hP : ∀ (x : Int) (W : World), -64 ≤ x → x ≤ 64 → C W → Calls Tryz.prog Fc (#[.agg (blindC n wd gp x sh)] ++ lbw) W fun e W' => e = .returned (.bool (p x)) ∧ Below W.heap.size W W') :
    Calls Tryz.prog 167 #[.agg (blindC n wd gp t sh), .func (.func Fc) #[] lbw] w fun e w' => (∃ v, e = .returned v ∧ Own w' w.heap.size 2 (Value.int .i64) v (wantT p (tls 129))) ∧ Below w.heap.size w w' := by
  refine (callsIn_wide (n := 4)).1 ?_
  obtain ⟨i0, hi, hz0, hz1, hz2⟩ := info_parts infoW
  have hmk : ∀ w, (Instr.makeSlice 117 (.int .i64 0) (.int .i64 129)).run Tryz.prog w = .ok (.slice (some ⟨w.heap.size, 0, none⟩) 0 129) (w.alloc (.cells (List.replicate 129 (.int .i64 0)).toArray 2)) := fun _ => by kernel_rfl
  refine callsIn_of_wp_marks Tryz.func167 rfl trivial ?_ rfl
  simp only [Tryz.ntmps167, List.size_toArray, List.length_cons, List.length_nil, Nat.reduceAdd, Nat.reduceSub, Array.replicate_succ, Array.replicate_zero, List.push_toArray, List.append_toArray, List.nil_append, List.cons_append]
  refine wpIn_wide.2 ?_
  go_upto_region 2 with (fail)
  refine abs_world (fun W => Below w.heap.size w W ∧ W.heap[w.heap.size]? = some (.cells (blindC n wd gp t sh) 32 (0, 0)) ∧ Boxed W (w.heap.size + 1) 168 (.func (.func Fc) #[] lbw) ∧ Boxed W (w.heap.size + 1 + 1 + 1) 117 (.slice (some ⟨w.heap.size + 1 + 1, 0, none⟩) 0 129) ∧ W.ownsRow w.heap.size 2 1 (.slice (some ⟨w.heap.size + 1 + 1, 0, none⟩) 0 129) 0 []) ⟨(four_new _ _ _ _ _).2.2.2.2, (four_new _ _ _ _ _).1, (four_new _ _ _ _ _).2.1, (four_new _ _ _ _ _).2.2.2.1, by simp, .inr ⟨_, _, _, rfl, by omega, (four_new _ _ _ _ _).2.2.1, by omega, by decide, rfl, by simp⟩⟩ ?_
  rintro W ⟨hb, h0, hF, hS, hrow⟩
  have hlt := row_lt hF
  have hlt3 := row_lt hS
  generalize hb3 : w.heap.size + 1 + 1 + 1 = b3 at *
  generalize hb2 : w.heap.size + 1 + 1 = b2 at *
  generalize hb1 : w.heap.size + 1 = b1 at *
  have H0 := Lib.hid h0
  clear h0
  go_wp2_with (first | (refine wpList_load_part rfl 32 _ rfl w.heap.size 0 5 rfl 32 (blindC n wd gp t sh) (0, 0) _ H0.out Tryz.underlying32 rfl info_blind (blind_fits _ _ _ _ _) _ (blind_all _ _ _ _ _) ?_) | (go_at_call 187; refine (eachTilted_any _ _ _ _ _ _).mono ?_; rintro e w' ⟨rfl, rfl⟩))
  refine (wpIn_wide (n := 4)).1 ?_
  have hgl : w.heap.size ≤ W.heap.size := hb.size
  refine wpIn_rangeFunc_ownH rfl (by decide) (gf := 189) (lb := #[.pointer (some ⟨W.heap.size, 0, none⟩)]) rfl trivial (enters_of Tryz.func189 (by kernel_rfl) rfl)
    (eachTilted_stops n wd gp t sh W.heap.size _ (heap_alloc_new _ _)) keepsAt_t (keepsAt_b (by simp)) (Below.refl _ _) (fun _ => rfl)
    (WhereI n wd gp t sh p w b1 b3 W.heap.size (.func (.func Fc) #[] lbw)) (fun _ _ _ => False) (whereI_own _ _ _ _ _ _ _ _ _ _ _ _ (by simp; omega)) (fun _ _ _ _ _ hs _ _ => hs) ?h0
    (fun x a' V => ∃ b6 : Nat, a' = { tmps := #[.agg (blindC n wd gp t sh), .func (.func Fc) #[] lbw, .pointer (some ⟨w.heap.size, 0, none⟩), .pointer (some ⟨b1, 0, none⟩), .slice none 0 0, .pointer (some ⟨b3, 0, none⟩), .pointer (some ⟨b6, 0, none⟩), .slice (some ⟨b2, 0, none⟩) 0 129, .agg (blindC n wd gp t sh), .func (.func 189) #[] #[.pointer (some ⟨W.heap.size, 0, none⟩)], .agg (blindC n wd gp x.1 sh), undef, undef, undef, undef, undef, undef, undef, undef, undef, undef, undef, undef, undef, undef, undef], defers := [] } ∧ V.heap[b6]? = some (.cells (blindC n wd gp x.1 sh) 32 (0, 0)))
    (fun x a' s V V' row hx hg hr => by obtain ⟨b6, e, h⟩ := hx; exact ⟨b6, e, heap_keptW h hg (fun r e => (hr r e).2)⟩) ?assign ?body ?done ?stop
  case h0 =>
    exact ⟨⟨_, hS.alloc _, hrow.alloc _, trivial⟩, hF.alloc _, heap_alloc_new _ _, hb.alloc hb.size _⟩
  case assign =>
    rintro l pre x W2 K hI hK
    refine region_plain_round (by rfl) (fun ⟨_, _, h⟩ => h) ?_
    go_wp2_with (refine wpList_store_part rfl 32 _ _ rfl _ 0 (blindC n wd gp x.1 sh) rfl rfl 32 _ (heap_alloc_new _ _) (by kernel_rfl) (Nat.le_refl _) (blind_onew _ _ _ _ _) ?_; rw [laid_allw _ _ (by rfl)])
    have hbn : ∀ o, Below W2.heap.size W2 ((W2.alloc o).setRow W2.heap.size (blindC n wd gp x.1 sh)) := fun o => below_setRow ((Below.refl _ _).alloc (Nat.le_refl _) _) (Nat.le_refl _) _
    exact hK _ _ ((keeps_of_belowW (hbn _)).from _) (fun _ ho => below_row (hbn _) ho) (whereI_own _ _ _ _ _ _ _ _ _ _ _ _ (Nat.le_refl _) _ _ _ none hI (grown_of_below (hbn _) none) (fun r e => by cases e)) ⟨_, rfl, setRow_heap _ _ _ _ _ _ (heap_alloc_new _ _)⟩
  case body =>
    rintro l pre ⟨x, hx0, hx1⟩ a' W2 hl0 hlr ⟨⟨v, hv, hrow2, _⟩, hF2, hG2, hbw⟩ ⟨b6, rfl, h6⟩ hl
    have HP := Lib.hid (hP x W2 hx0 hx1 (hC W2 hbw))
    have H6 := Lib.hid h6
    have cF := hF2.cell
    dsimp only
    cases hp : p x with
    | true =>
      rw [hp] at HP
      refine wpIn_block (wpIn_seq ?_)
      refine region_plain_round (by rfl) (fun ⟨_, _, h⟩ => h) ?_
      go_wp2_with (first | (refine wpList_load_part rfl 32 _ rfl b6 0 5 rfl 32 (blindC n wd gp x sh) (0, 0) _ H6.out Tryz.underlying32 rfl info_blind (blind_fits _ _ _ _ _) _ (blind_all _ _ _ _ _) ?_) | (refine HP.out.mono ?_; rintro e W3 ⟨rfl, hb3⟩))
      have hv3 : Boxed W3 b3 117 v := below_row hb3 hv
      have hrow3 := owns_below hrow2 hb3
      have h63 := below_row hb3 H6.out
      obtain ⟨k0, k1, k2, k3, k4⟩ := blind_cells h63
      have hG3 := below_row hb3 hG2
      have hF3 : W3.heap[b1]? = some (.cells #[.func (.func Fc) #[] lbw] 168 (0, 0)) := below_row hb3 hF2
      have hbw3 := hbw.trans (hb3.mono hbw.size)
      have hcv := hv3.cell
      have hwl := wantT_len p pre
      have hsz3 := hbw3.size
      have hk23 := keeps_of_belowW hb3
      have HX : Hid (wantT p (pre ++ [⟨x, hx0, hx1⟩]) = wantT p pre ++ [x]) := wantT_hit p pre ⟨x, hx0, hx1⟩ hp
      have HG3 := Lib.hid hG3
      have HF3 := Lib.hid hF3
      have HKA : Hid (KeepsAt W.heap.size W2 W3) := fun o ho => below_row hb3 ho
      clear h63 hG3 hF3 hG2 hF2 cF H6 h6 hp hv hrow2 hb3 HP
      gi_wp2_with (gi_at_builtin; refine wpListIn_append_own _ rfl _ _ 117 rfl w.heap.size 2 i0 (.int .i64 0) 1 8 Tryz.underlying117 hi hz0 hz1 hz2 rfl (by decide) _ _ _ rfl (hrow3.alloc _) ⟨W3.heap.size, 0, none⟩ 1 1 [.int .i64 x] rfl rfl (cell_one_new _ _ _) (by simp [Value.oneCell']) (by unfold maxLen; omega) (by omega) (by simp; omega) ?_; intro v' w1 hown' hgrow _; obtain ⟨g', cap', rfl⟩ := ownsRow_succ hown'; obtain ⟨hv1, hv2, hr2, hk2, hbA⟩ := hv3.appended (by decide) hrow3 hsz3 (by omega) hown' hgrow; have hc1 := hv1.cell; have hf1 := hv1.frozen)
      refine ⟨(hk23.trans hk2).from _, ?_, ⟨_, hv2, ?_, trivial⟩, ?_, ?_, hbw3.trans hbA⟩
      · intro o ho
        have ho3 := HKA.out o ho
        rw [HG3.out] at ho3
        injection ho3 with ho3
        subst ho3
        exact kept_append HG3.out (by decide) hrow3 hgrow (by omega)
      · rw [HX.out]; simpa using hr2
      · exact kept_append HF3.out (by decide) hrow3 hgrow (by omega)
      · exact kept_append HG3.out (by decide) hrow3 hgrow (by omega)
    | false =>
      rw [hp] at HP
      refine wpIn_block (wpIn_seq ?_)
      refine region_plain_round (by rfl) (fun ⟨_, _, h⟩ => h) ?_
      go_wp2_with (first | (refine wpList_load_part rfl 32 _ rfl b6 0 5 rfl 32 (blindC n wd gp x sh) (0, 0) _ H6.out Tryz.underlying32 rfl info_blind (blind_fits _ _ _ _ _) _ (blind_all _ _ _ _ _) ?_) | (refine HP.out.mono ?_; rintro e W3 ⟨rfl, hb3⟩))
      have hwl : wantT p (pre ++ [⟨x, hx0, hx1⟩]) = wantT p pre := wantT_miss p pre ⟨x, hx0, hx1⟩ hp
      gi_wp2
      exact ⟨(keeps_of_belowW hb3).from _, fun o ho => below_row hb3 ho, ⟨v, below_row hb3 hv, by rw [hwl]; exact owns_below hrow2 hb3, trivial⟩, below_row hb3 hF2, below_row hb3 hG2, hbw.trans (hb3.mono hbw.size)⟩
  case done =>
    rintro D zs W2 hD rfl ⟨⟨v, hv, hrow2, -⟩, hF2, hG2, hbw⟩ hK
    rename_i K hcont
    have hcv := hv.cell
    have hD' : w.heap.size ≤ D := by simp at hD; omega
    have hwl := wantT_len p (tls 129)
    rw [tls_length] at hwl
    have HK := Lib.hid hK
    have HB := Lib.hid hbw
    have HO : Hid (Own W2 w.heap.size 2 (Value.int .i64) v (wantT p (tls 129))) := own_of_row hrow2 (by unfold maxLen; omega)
    clear hF2 hG2 hbw hv hK
    rcases hrow2.2 with ⟨rfl, hz⟩ | ⟨g, cap, cur, rfl, hbg, hg, hnc, hcm, hsz, htk⟩
    · refine hcont _ _ ?_
      go_wp2
      refine ⟨by simp, .inl ⟨_, _, rfl, run_takeDeferred HK.out, ?_⟩⟩
      refine ⟨_, results_tmp (fn := Tryz.f167) rfl _ _ _, ⟨_, rfl, ?_⟩, HB.out.trans (belowK_b (w := w) (Nat.le_refl _) W2 D _ _ hD' HK.out rfl rfl)⟩
      show Own _ _ _ _ (.slice none 0 0) _
      exact ⟨none, 0, by rw [hz], Nat.zero_le _, by omega, .inl ⟨rfl, List.eq_nil_of_length_eq_zero hz⟩⟩
    · have z0 : ((wantT p (tls 129)).length : Int) ≤ (cap : Int) := by omega
      have z1 : (0 : Int) ≤ ((wantT p (tls 129)).length : Int) := by omega
      have HG := Lib.hid hg
      clear hg htk
      refine hcont _ _ ?_
      go_wp2
      refine ⟨by simp, .inl ⟨_, _, rfl, run_takeDeferred HK.out, ?_⟩⟩
      refine ⟨_, results_tmp (fn := Tryz.f167) rfl _ _ _, ⟨_, rfl, ?_⟩, HB.out.trans (belowK_b (w := w) (Nat.le_refl _) W2 D _ _ hD' HK.out rfl rfl)⟩
      exact own_cut HO.out HK.out rfl
  case stop =>
    rintro D c pre W _ _ h _
    exact h.elim

end Go.Proofs.YtddnfbpgldchcaaGreatDoor

namespace Go.Proofs.YtddnfbpgldchcaaGreatDoor

open Go.RowKit

end Go.Proofs.YtddnfbpgldchcaaGreatDoor

namespace Go.Proofs.YtddnfbpgldchcaaGreatDoor

open Go.ChangeShapes Go.WideShapes Go.ChangeAt Go.RowKit Go.Deep Go.Joins

attribute [local go_sem] run_store_f

set_option maxRecDepth 100000 in
set_option maxHeartbeats 2000000 in
theorem tiltsAt_call (hs ts : List Int) (hh : hs.length = 24) (ht : ts.length = 24) (fc : Int) (lo hi : Nat) (n : Int) (wd gp : Nat) (t : Int) (sh : Nat) (ok : BlOk n wd gp t sh) (hour x : Int) (k : HrOk hs ts hour fc) (x0 : -64 ≤ x) (x1 : x ≤ 64) (g1 g2 : Nat) (w : World) (c1 : w.heap[g1]? = some (.cells (dayC hs ts fc lo hi n wd gp t sh) 123 (0, 0))) (c2 : w.heap[g2]? = some (.cells #[.int .i64 hour] 2 (0, 0))) :
    Calls Tryz.prog 168 #[.agg (blindC n wd gp x sh), .pointer (some ⟨g1, 0, none⟩), .pointer (some ⟨g2, 0, none⟩)] w fun e w' => e = .returned (.bool (kpB hs ts fc lo hi wd gp sh hour x)) ∧ Below w.heap.size w w' := by
  have HK := Lib.hid (fun w => keeps_any hs ts hh ht fc lo hi n wd gp t sh ok hour x k x0 x1 w)
  have Hh := Lib.hid hh
  have Ht := Lib.hid ht
  have C1 := Lib.hid c1
  have C2 := Lib.hid c2
  clear ok k c1 c2 hh ht
  generalize kpB hs ts fc lo hi wd gp sh hour x = kb at *
  go_enter Tryz.func168, Tryz.ntmps168
  go_upto_region 1 with (fail)
  refine abs_code (fun W => W.heap[w.heap.size]? = some (.cells (blindC n wd gp x sh) 32 (0, 0)) ∧ W.heap[g1]? = some (.cells (dayC hs ts fc lo hi n wd gp t sh) 123 (0, 0)) ∧ W.heap[g2]? = some (.cells #[.int .i64 hour] 2 (0, 0)) ∧ Below w.heap.size w W) ⟨heap_alloc_new _ _, below_row ((Below.refl _ _).alloc (Nat.le_refl _) _) C1.out, below_row ((Below.refl _ _).alloc (Nat.le_refl _) _) C2.out, (Below.refl _ _).alloc (Nat.le_refl _) _⟩ ?_
  clear C1 C2
  rintro W ⟨h0, h1, h2, hb⟩
  obtain ⟨k0, k1, k2, k3, k4⟩ := blind_cells h0
  have q2 : W.cell? ⟨g2, 0, none⟩ = some (.int .i64 hour) := by rw [cell_of_row W _ _ _ _ _ h2]; rfl
  have H1 := Lib.hid h1
  clear h0 h1 h2 k0 k1 k2 k4
  go_wp2_with (first | (refine wpList_load_part rfl 123 _ rfl g1 0 56 rfl 123 (dayC hs ts fc lo hi n wd gp t sh) (0, 0) _ H1.out Tryz.underlying123 rfl info_dy (dy_fits 56 (by decide) hs ts Hh.out Ht.out fc lo hi n wd gp t sh) _ (dy_all hs ts Hh.out Ht.out fc lo hi n wd gp t sh) ?_) | (go_at_call 139; refine (HK.out _).mono ?_; rintro e W9 ⟨rfl, hb1⟩; replace hb := hb.trans (hb1.mono hb.size); clear hb1))
  go_ret
  exact ⟨rfl, hb⟩

theorem two_newQ (w : World) (a b : Obj) : ((w.alloc a).alloc b).heap[w.heap.size]? = some a ∧ ((w.alloc a).alloc b).heap[w.heap.size + 1]? = some b ∧ Below w.heap.size w ((w.alloc a).alloc b) := by
  have hb : Below w.heap.size w (w.alloc a) := (Below.refl _ _).alloc (Nat.le_refl _) _
  refine ⟨below_row ((Below.refl (w.alloc a).heap.size _).alloc (Nat.le_refl _) b) (heap_alloc_new w a), ?_, hb.alloc hb.size _⟩
  have := heap_alloc_new (w.alloc a) b
  rwa [World.size_alloc] at this

set_option maxRecDepth 100000 in
set_option maxHeartbeats 2000000 in
theorem dayTilts_any (hs ts : List Int) (hh : hs.length = 24) (ht : ts.length = 24) (fc : Int) (lo hi : Nat) (n : Int) (wd gp : Nat) (t : Int) (sh : Nat) (ok : BlOk n wd gp t sh) (hour : Int) (k : HrOk hs ts hour fc) (w : World) :
    Calls Tryz.prog 132 #[.agg (dayC hs ts fc lo hi n wd gp t sh), .int .i64 hour] w fun e w' => (∃ v, e = .returned v ∧ Own w' w.heap.size 2 (Value.int .i64) v (wantT (kpB hs ts fc lo hi wd gp sh hour) (tls 129))) ∧ Below w.heap.size w w' := by
  have HW : Hid (∀ (g1 g2 : Nat) (W : World), W.heap[g1]? = some (.cells (dayC hs ts fc lo hi n wd gp t sh) 123 (0, 0)) → W.heap[g2]? = some (.cells #[.int .i64 hour] 2 (0, 0)) → Calls Tryz.prog 167 #[.agg (blindC n wd gp t sh), .func (.func 168) #[] #[.pointer (some ⟨g1, 0, none⟩), .pointer (some ⟨g2, 0, none⟩)]] W fun e w' => (∃ v, e = .returned v ∧ Own w' W.heap.size 2 (Value.int .i64) v (wantT (kpB hs ts fc lo hi wd gp sh hour) (tls 129))) ∧ Below W.heap.size W w') := by
    intro g1 g2 W q1 q2
    exact tiltsWhere_any n wd gp t sh 168 (enters_of Tryz.func168 (by kernel_rfl) rfl) #[.pointer (some ⟨g1, 0, none⟩), .pointer (some ⟨g2, 0, none⟩)] (kpB hs ts fc lo hi wd gp sh hour) (fun V => V.heap[g1]? = some (.cells (dayC hs ts fc lo hi n wd gp t sh) 123 (0, 0)) ∧ V.heap[g2]? = some (.cells #[.int .i64 hour] 2 (0, 0))) W (fun V hV => ⟨below_row hV q1, below_row hV q2⟩)
      (fun x V x0 x1 hV => tiltsAt_call hs ts hh ht fc lo hi n wd gp t sh ok hour x k x0 x1 g1 g2 V hV.1 hV.2)
  have Hh := Lib.hid hh
  have Ht := Lib.hid ht
  clear ok k hh ht
  generalize kpB hs ts fc lo hi wd gp sh hour = P at *
  go_enter Tryz.func132, Tryz.ntmps132
  go_upto_region 1 with (fail)
  refine abs_code (fun W => W.heap[w.heap.size]? = some (.cells (dayC hs ts fc lo hi n wd gp t sh) 123 (0, 0)) ∧ W.heap[w.heap.size + 1]? = some (.cells #[.int .i64 hour] 2 (0, 0)) ∧ Below w.heap.size w W) ⟨(two_newQ _ _ _).1, (two_newQ _ _ _).2.1, (two_newQ _ _ _).2.2⟩ ?_
  rintro W ⟨h0, h1, hb⟩
  generalize w.heap.size + 1 = b1 at *
  have H0 := Lib.hid h0
  have H1 := Lib.hid h1
  clear h0 h1
  go_wp2_with (first | (refine wpList_load_part rfl 32 _ rfl w.heap.size 51 5 rfl 123 (dayC hs ts fc lo hi n wd gp t sh) (0, 0) _ H0.out Tryz.underlying32 rfl info_blind (dy_fits 56 (by decide) hs ts Hh.out Ht.out fc lo hi n wd gp t sh) _ (dy_bl hs ts Hh.out Ht.out fc lo hi n wd gp t sh) ?_) | (go_at_call 167; refine (HW.out _ _ _ H0.out H1.out).mono ?_; rintro e W9 ⟨⟨v, rfl, hv⟩, hb1⟩))
  go_ret
  exact ⟨⟨_, rfl, own_below hv (Below.refl _ _) hb.size⟩, hb.trans (hb1.mono hb.size)⟩

theorem row_baseQ {W : World} {base k : Nat} {e : TypeId} {v : Value} {xs : List Value} (h : W.ownsRow base e 1 v k xs) : ∀ j, v.ownBlock = some j → base ≤ j := fun j e => (h.lt j e).1

set_option maxRecDepth 100000 in
set_option maxHeartbeats 2000000 in
theorem l07Tilts_any (n : Int) (wd gp : Nat) (t : Int) (sh : Nat) (hs ts : List Int) (hh : hs.length = 24) (ht : ts.length = 24) (ok : BlOk n wd gp t sh) (fc hour : Int) (kk : HrOk hs ts hour fc) (lo hi : Nat) (hlo : fin32 lo = true) (hhi : fin32 hi = true) (g1 g2 : Nat) (w : World) (q1 : w.heap[g1]? = some (.cells (blindC n wd gp t sh) 32 (0, 0))) (q2 : w.heap[g2]? = some (.cells (sunC hs ts) 27 (0, 0))) :
    Calls Tryz.prog 73 #[.pointer (some ⟨g1, 0, none⟩), .pointer (some ⟨g2, 0, none⟩), .int .i64 fc, .int .i64 hour, .float .f32 lo, .float .f32 hi] w fun e w' => (∃ v, e = .returned v ∧ Own w' w.heap.size 2 (Value.int .i64) v (wantT (kpB hs ts fc lo hi wd gp sh hour) (tls 129))) ∧ Below w.heap.size w w' := by
  obtain ⟨i0, hin, hz0, hz1, hz2⟩ := info_parts infoW
  have HO := Lib.hid (fun (x : Int) (x0 : -64 ≤ x) (x1 : x ≤ 64) W q1 q2 => l07Within_any n wd gp t sh hs ts hh ht ok fc hour x kk x0 x1 lo hi hlo hhi g1 g2 W q1 q2)
  have Q1 := Lib.hid q1
  have Q2 := Lib.hid q2
  clear ok kk hlo hhi hh ht q1 q2
  generalize kpB hs ts fc lo hi wd gp sh hour = P at *
  go_enter Tryz.func73, Tryz.ntmps73
  go_wp2
  have hrow0 : (w.alloc (.cells #[] 2)).ownsRow w.heap.size 2 1 (.slice (some ⟨w.heap.size, 0, none⟩) 0 0) 0 [] := World.ownsRow_made _ _ _ (Nat.le_refl _) (Nat.zero_le _) rfl
  go_loopw [13, 14] (fun o i wr => ∃ (vo : Value) (k : Nat), vo = o ∧ k ≤ 129 ∧ i = .int .i64 ((k : Int) - 64) ∧ wr.ownsRow w.heap.size 2 1 o (wantT P (tls k)).length ((wantT P (tls k)).map (Value.int .i64)) ∧ Below w.heap.size w wr) (fun _ i _ => (65 - intOf i).toNat)
  case atStart => exact ⟨_, 0, rfl, Nat.zero_le _, rfl, hrow0, (Below.refl _ _).alloc (Nat.le_refl _) _⟩
  case round =>
    clear hrow0
    obtain ⟨vo, k, rfl, hk, rfl, hrow, hb⟩ := hrel
    have hwl := wantT_len P (tls k)
    rw [tls_length] at hwl
    by_cases hlt : k < 129
    · have z0 : (-64 : Int) ≤ (k : Int) - 64 := by omega
      have z1 : (k : Int) - 64 ≤ 64 := by omega
      have HX := Lib.hid (HO.out ((k : Int) - 64) z0 z1)
      have hsz := hb.size
      cases hI : P ((k : Int) - 64) with
      | true =>
        have HN : Hid (wantT P (tls (k + 1)) = wantT P (tls k) ++ [(k : Int) - 64]) := by
          unfold Hid; rw [tls_succ, wantT_hit _ _ _ (by rw [tl_val k hlt]; exact hI), tl_val k hlt]
        rw [hI] at HX
        clear hI
        go_wp2_with (first | (go_at_call 136; refine (HX.out _ (below_row hb Q1.out) (below_row hb Q2.out)).mono ?_; rintro e W3 ⟨rfl, hb3⟩; have hrow3 := owns_below hrow hb3; have hbw3 := hb.trans (hb3.mono hb.size); have hsz3 := hbw3.size) | (at_builtin; refine wpList_append_own _ rfl _ _ 117 rfl w.heap.size 2 i0 (.int .i64 0) 1 8 Tryz.underlying117 hin hz0 hz1 hz2 rfl (by decide) _ _ _ rfl (hrow3.alloc _) ⟨W3.heap.size, 0, none⟩ 1 1 [.int .i64 ((k : Int) - 64)] rfl rfl (cell_one_new _ _ _) (by simp [Value.oneCell']) (by unfold maxLen; omega) (by omega) (by simp; omega) ?_; intro v' w1 hown' hgrow _))
        go_roundw
        case rel => exact ⟨_, k + 1, rfl, by omega, by simp; omega, by rw [HN.out]; simpa using hown', (hbw3.alloc (by omega) _).grown hgrow (by simp; omega) (row_baseQ hrow3)⟩
        case measure => simp [intOf]; omega
      | false =>
        have HN : Hid (wantT P (tls (k + 1)) = wantT P (tls k)) := by
          unfold Hid; rw [tls_succ]; exact wantT_miss _ _ _ (by rw [tl_val k hlt]; exact hI)
        rw [hI] at HX
        clear hI
        go_wp2_with (go_at_call 136; refine (HX.out _ (below_row hb Q1.out) (below_row hb Q2.out)).mono ?_; rintro e W3 ⟨rfl, hb3⟩; have hrow3 := owns_below hrow hb3; have hbw3 := hb.trans (hb3.mono hb.size); have hsz3 := hbw3.size)
        go_roundw
        case rel => exact ⟨_, k + 1, rfl, by omega, by simp; omega, by rw [HN.out]; exact hrow3, hbw3⟩
        case measure => simp [intOf]; omega
    · obtain rfl : k = 129 := by omega
      have HR2 : Hid (Own wr w.heap.size 2 (Value.int .i64) vo (wantT P (tls 129))) := own_of_row hrow (by unfold maxLen; omega)
      clear hrow
      go_wp2
      go_ret
      exact ⟨⟨_, rfl, HR2.out⟩, hb⟩

end Go.Proofs.YtddnfbpgldchcaaGreatDoor

namespace Go.Proofs.YtddnfbpgldchcaaGreatDoor

open Go.RowKit Go.Shelf

attribute [local go_sem] Oper.semAt_some run_store_float

end Go.Proofs.YtddnfbpgldchcaaGreatDoor

namespace Go.Proofs.YtddnfbpgldchcaaGreatDoor

open Go.ChangeShapes Go.WideShapes Go.ChangeAt Go.RowKit

/-- The light on a window of a day. -/
def dayOf (hs ts : List Int) (facing : Int) : Nat := sumTo (fun h => fallOf hs ts (h : Int) facing) 24

end Go.Proofs.YtddnfbpgldchcaaGreatDoor

namespace Go.Proofs.YtddnfbpgldchcaaGreatDoor

open Go.ChangeShapes Go.WideShapes Go.ChangeAt Go.RowKit

end Go.Proofs.YtddnfbpgldchcaaGreatDoor

namespace Go.Proofs.YtddnfbpgldchcaaGreatDoor

open Go.RowKit Go.Shelf

attribute [local go_sem] Oper.semAt_some run_store_float

theorem list_round {P : Program} {l n : Nat} {ops : Array Oper} {Q : Exit → Act → World → Prop} (hlo : ¬ LetsOut Q) :
    ∀ (os : List Oper) (_ : ∀ o ∈ os, ∀ c, o.op ≠ .defer c) (a : Act) (w : World), wpList P ops Q os a w → wpListIn (Fence.wide.inRound l) n P ops Q os a w
  | [], _, _, _, h => h
  | o :: os, hd, a, w, h => by
    unfold wpList at h
    unfold wpListIn
    split
    · rename_i hw
      rw [if_pos hw] at h
      have h2 := h.resolve_right (fun h => hlo h.2)
      exact Oper.wpIn_mono (fun a w h => list_round hlo os (fun o ho => hd o (List.mem_cons_of_mem _ ho)) a w h) (op_round (hd o List.mem_cons_self) h2)
    · rename_i hw
      rw [if_neg hw] at h
      exact ⟨fun _ _ => trivial, list_round hlo os (fun o ho => hd o (List.mem_cons_of_mem _ ho)) _ w h⟩

/-- A region that draws no order, in a round: from the law outside. -/
theorem region_list_round {P : Program} {l n id : Nat} {os : List Oper} {Q : Exit → Act → World → Prop} {a : Act} {w : World} (hd : os.all (fun o => match o.op with | .defer _ => false | _ => true) = true) (hlo : ¬ LetsOut Q)
    (h : wpList P os.toArray Q os a w) : (Code.region id os.toArray false).wpIn (Fence.wide.inRound l) n P Q a w :=
  wpIn_region_lit (list_round hlo os (fun o ho c hc => by
    have := List.all_eq_true.1 hd o ho
    rw [hc] at this
    cases this) a w h)

end Go.Proofs.YtddnfbpgldchcaaGreatDoor

namespace Go.Proofs.YtddnfbpgldchcaaGreatDoor

open Go.RowKit

/-- The numbers of a list that another one has as well. -/
def bothL (a b : List Int) : List Int := a.filter (fun x => b.contains x)

theorem bothL_self (a : List Int) : bothL a a = a := by
  unfold bothL
  rw [List.filter_eq_self]
  intro x hx
  rw [List.contains_iff_mem]
  exact hx

theorem bothL_mem {a b : List Int} {x : Int} (h : x ∈ bothL a b) : x ∈ a := (List.mem_filter.1 h).1

/-- The first hour that shares tilts, the tilts that are shared, and the plan. -/
structure StF where
  first : Nat
  shared : List Int
  plan : List Int

def fillP (p : List Int) (a h : Nat) (v : Int) : List Int := p.zipIdx.map (fun x => if a ≤ x.2 ∧ x.2 ≤ h then v else x.1)

theorem fillP_len (p : List Int) (a h : Nat) (v : Int) : (fillP p a h v).length = p.length := by simp [fillP]

theorem fillP_get (p : List Int) (a h : Nat) (v : Int) {k : Nat} (hk : k < p.length) : (fillP p a h v)[k]? = some (if a ≤ k ∧ k ≤ h then v else p[k]?.getD 0) := by
  unfold fillP
  rw [List.getElem?_map, List.getElem?_zipIdx, List.getElem?_eq_getElem hk]
  simp

/-- A plan that is filled up to an hour. -/
def fillTo (p : List Int) (a : Nat) (v : Int) (k : Nat) : List Int := p.zipIdx.map (fun x => if a ≤ x.2 ∧ x.2 < k then v else x.1)

theorem fillTo_len (p : List Int) (a : Nat) (v : Int) (k : Nat) : (fillTo p a v k).length = p.length := by simp [fillTo]

theorem fillTo_get (p : List Int) (a : Nat) (v : Int) (m : Nat) {k : Nat} (hk : k < p.length) : (fillTo p a v m)[k]? = some (if a ≤ k ∧ k < m then v else p[k]?.getD 0) := by
  unfold fillTo
  rw [List.getElem?_map, List.getElem?_zipIdx, List.getElem?_eq_getElem hk]
  simp

theorem ext_len {p q : List Int} {n : Nat} (hp : p.length = n) (hq : q.length = n) (h : ∀ k, k < n → p[k]? = q[k]?) : p = q := by
  apply List.ext_getElem?
  intro k
  by_cases hk : k < n
  · exact h k hk
  · rw [List.getElem?_eq_none (by omega), List.getElem?_eq_none (by omega)]

theorem fillTo_start (p : List Int) (a : Nat) (v : Int) : fillTo p a v a = p := by
  refine ext_len (fillTo_len _ _ _ _) rfl (fun k hk => ?_)
  rw [fillTo_get _ _ _ _ hk, if_neg (by omega), List.getElem?_eq_getElem hk]
  rfl

theorem fillTo_step (p : List Int) (a : Nat) (v : Int) {m : Nat} (h : a ≤ m) (hm : m < p.length) : (fillTo p a v m).set m v = fillTo p a v (m + 1) := by
  refine ext_len (n := p.length) (by simp [fillTo_len]) (fillTo_len _ _ _ _) (fun k hk => ?_)
  rw [fillTo_get _ _ _ _ hk]
  by_cases e : m = k
  · subst e
    rw [List.getElem?_set_self (by rw [fillTo_len]; exact hm), if_pos ⟨h, by omega⟩]
  · rw [List.getElem?_set_ne e, fillTo_get _ _ _ _ hk]
    by_cases c : a ≤ k ∧ k < m
    · rw [if_pos c, if_pos ⟨c.1, by omega⟩]
    · rw [if_neg c, if_neg (by omega)]

theorem fillTo_end (p : List Int) (a : Nat) (v : Int) (h : Nat) : fillTo p a v (h + 1) = fillP p a h v := by
  refine ext_len (n := p.length) (fillTo_len _ _ _ _) (fillP_len _ _ _ _) (fun k hk => ?_)
  rw [fillTo_get _ _ _ _ hk, fillP_get _ _ _ _ hk]
  by_cases c : a ≤ k ∧ k ≤ h
  · rw [if_pos c, if_pos ⟨c.1, by omega⟩]
  · rw [if_neg c, if_neg (by omega)]

def stepF (own : List Int) (h : Nat) (s : StF) : StF :=
  if bothL s.shared own = [] then ⟨h, own, fillP s.plan h h (own.headD 0)⟩
  else ⟨s.first, bothL s.shared own, fillP s.plan s.first h ((bothL s.shared own).headD 0)⟩

def stF (T : Nat → List Int) (z : List Int) : Nat → StF
  | 0 => ⟨0, z, List.replicate 24 0⟩
  | k + 1 => stepF (T k) k (stF T z k)

theorem stF_len (T : Nat → List Int) (z : List Int) : ∀ k, (stF T z k).plan.length = 24
  | 0 => by simp [stF]
  | k + 1 => by
    rw [stF]
    unfold stepF
    split <;> (dsimp only; rw [fillP_len]; exact stF_len T z k)

theorem stF_first (T : Nat → List Int) (z : List Int) : ∀ k, (stF T z k).first ≤ k
  | 0 => Nat.le_refl _
  | k + 1 => by
    rw [stF]
    unfold stepF
    split
    · exact Nat.le_succ _
    · exact Nat.le_succ_of_le (stF_first T z k)

theorem stF_same (T : Nat → List Int) (h0 : T 0 ≠ []) : ∀ k, stF T [] (k + 1) = stF T (T 0) (k + 1)
  | 0 => by
    have e1 : bothL (T 0) (T 0) = T 0 := bothL_self _
    have e2 : bothL [] (T 0) = [] := rfl
    show stepF (T 0) 0 ⟨0, [], _⟩ = stepF (T 0) 0 ⟨0, T 0, _⟩
    unfold stepF
    dsimp only
    rw [e1, e2, if_pos rfl, if_neg h0]
  | k + 1 => by
    show stepF _ _ (stF T [] (k + 1)) = stepF _ _ (stF T (T 0) (k + 1))
    rw [stF_same T h0 k]

/-- All that is shared is one of a list's numbers. -/
theorem stF_mem (T : Nat → List Int) (z : List Int) (P : Int → Prop) (hT : ∀ h, h < 24 → ∀ x ∈ T h, P x) (hz : ∀ x ∈ z, P x) : ∀ k, k ≤ 24 → ∀ x ∈ (stF T z k).shared, P x
  | 0, _ => hz
  | k + 1, hk => by
    intro x hx
    rw [stF] at hx
    unfold stepF at hx
    split at hx
    · exact hT k (by omega) x hx
    · exact stF_mem T z P hT hz k (by omega) x (bothL_mem hx)

theorem stF_some (T : Nat → List Int) (z : List Int) (hT : ∀ h, h < 24 → T h ≠ []) : ∀ k, k < 24 → (stF T z (k + 1)).shared ≠ [] := by
  intro k hk
  rw [stF]
  unfold stepF
  split
  · exact hT k hk
  · next h => exact h

end Go.Proofs.YtddnfbpgldchcaaGreatDoor

namespace Go.Proofs.YtddnfbpgldchcaaGreatDoor

open Go.ChangeShapes Go.WideShapes Go.ChangeAt Go.RowKit Go.Shelf

attribute [local go_sem] Oper.semAt_some run_store_float

def nonS : Array Value := #[.slice none 0 0, .slice none 0 0, .slice none 0 0, .slice none 0 0, .slice none 0 0, .slice none 0 0, .slice none 0 0, .slice none 0 0, .slice none 0 0, .slice none 0 0, .slice none 0 0, .slice none 0 0, .slice none 0 0, .slice none 0 0, .slice none 0 0, .slice none 0 0, .slice none 0 0, .slice none 0 0, .slice none 0 0, .slice none 0 0, .slice none 0 0, .slice none 0 0, .slice none 0 0, .slice none 0 0]

theorem nonS_one : ∀ v ∈ nonS, v.oneCell' = true := by
  intro v hv
  simp only [nonS, List.mem_toArray, List.mem_cons, List.not_mem_nil, or_false] at hv
  simp only [or_self] at hv
  subst hv
  rfl

set_option maxRecDepth 100000 in
theorem info_59 : (Tryz.prog.info? 118).map (·.size) = some 24 := by kernel_rfl

theorem own_one {w : World} {b : Nat} {E : TypeId} {v : Value} {xs : List Int} (h : Own w b E (Value.int .i64) v xs) : v.oneCell' = true := by
  obtain ⟨a, c, rfl, _⟩ := h
  rfl

theorem own_kept {w w' : World} {b : Nat} {v : Value} {xs : List Int} (h : Own w b 2 (Value.int .i64) v xs) (hk : ∀ (g : Nat) (cs : Array Value) (t : TypeId) (fr : Nat × Nat), w.heap[g]? = some (.cells cs t fr) → w'.heap[g]? = some (.cells cs t fr)) : Own w' b 2 (Value.int .i64) v xs := by
  obtain ⟨a, c, rfl, h2, h3, h4⟩ := h
  refine ⟨a, c, rfl, h2, h3, h4.imp id ?_⟩
  rintro ⟨g, cur, rfl, hg, hc, hx⟩
  exact ⟨g, cur, rfl, hg, hk g _ _ _ hc, hx⟩

theorem own_setCell {w : World} {b g i : Nat} {v x : Value} {xs : List Int} {zs : Array Value} (h : Own w b 2 (Value.int .i64) v xs) (hg : w.heap[g]? = some (.cells zs 118 (0, 0))) : Own (w.setCell ⟨g, i, none⟩ x) b 2 (Value.int .i64) v xs := by
  obtain ⟨a, c, rfl, h2, h3, h4⟩ := h
  refine ⟨a, c, rfl, h2, h3, h4.imp id ?_⟩
  rintro ⟨g', cur, rfl, hg', hc, hx⟩
  refine ⟨g', cur, rfl, hg', ?_, hx⟩
  rw [heap_setCell_other _ _ _ _ ?_]
  · exact hc
  · intro e
    rw [e, hg] at hc
    injection hc with e1
    injection e1 with _ e2 _
    revert e2
    decide

theorem keeps_setRow {W : World} {g : Nat} {cs zs : Array Value} {t : TypeId} {fr : Nat × Nat} (hg : W.heap[g]? = some (.cells cs t fr)) : KeepsOthers W (W.setRow g zs) := by
  refine ⟨by simp, fun k o hk ho => ?_⟩
  rw [setRow_other _ _ _ _ ?_]
  · exact hk
  · intro e
    rw [e, hg] at hk
    injection hk with hk
    subst hk
    cases ho

/-- What the walk keeps. -/
def TlI (w : World) (dc : Array Value) (b2 b3 b4 : Nat) (T : Nat → List Int) (pre : List Hr) (W : World) : Prop :=
  ∃ zs : Array Value, zs.size = 24 ∧ (∀ v ∈ zs, v.oneCell' = true) ∧ (W.heap[w.heap.size]? = some (.cells dc 123 (0, 0)) ∧ W.heap[b2]? = some (.cells nonS 118 (0, 0)) ∧ W.heap[b3]? = some (.cells #[.nilIface] 114 (0, 0))) ∧ W.heap[b4]? = some (.cells zs 118 (0, 0)) ∧
    (Good pre → ∀ j, j < pre.length → T j ≠ [] ∧ ∃ v, zs[j]? = some v ∧ Own W w.heap.size 2 (Value.int .i64) v (T j)) ∧ Below w.heap.size w W

/-- What lies there where it is left early. -/
def TlX (w : World) (b2 b3 : Nat) (T : Nat → List Int) (c : Code) (_ : List Hr) (W : World) : Prop :=
  c = .ret ∧ Below w.heap.size w W ∧ w.heap.size ≤ b2 ∧ w.heap.size ≤ b3 ∧ ∃ (k : Nat) (zs : Array Value), k < 24 ∧ T k = [] ∧ zs.size = 24 ∧ (∀ v ∈ zs, v.oneCell' = true) ∧ W.heap[b2]? = some (.cells zs 118 (0, 0)) ∧ W.heap[b3]? = some (.cells #[.iface 191 (.agg #[.int .i64 (k : Int)])] 114 (0, 0))

theorem tlI_own (w : World) (dc : Array Value) (b2 b3 b4 : Nat) (T : Nat → List Int) (B : Nat) (hB : w.heap.size ≤ B) : OwnFrom B (TlI w dc b2 b3 b4 T) := by
  intro s W W' row ⟨zs, hz, h1, ⟨h0, h2, h3⟩, h4, hg, hb⟩ hg' hr
  have hr2 := fun r e => (hr r e).2
  exact ⟨zs, hz, h1, ⟨heap_kept h0 hg' hr2, heap_kept h2 hg' hr2, heap_kept h3 hg' hr2⟩, heap_kept h4 hg' hr2, fun hgd j hj => ⟨(hg hgd j hj).1, (hg hgd j hj).2.imp fun v hv => ⟨hv.1, own_kept hv.2 (fun g _ _ _ ho => heap_kept ho hg' hr2)⟩⟩, ownFrom_below (β := Unit) (Nat.le_refl _) hB () W W' row hb hg' hr⟩

theorem tlX_own (w : World) (b2 b3 : Nat) (T : Nat → List Int) (c : Code) (B : Nat) (hB : w.heap.size ≤ B) : OwnFrom B (TlX w b2 b3 T c) := by
  intro s W W' row ⟨hc, hb, n2, n3, k, zs, hk, hT, hz, h1, h2, h3⟩ hg' hr
  have hr2 := fun r e => (hr r e).2
  exact ⟨hc, ownFrom_below (β := Unit) (Nat.le_refl _) hB () W W' row hb hg' hr, n2, n3, k, zs, hk, hT, hz, h1, heap_kept h2 hg' hr2, heap_kept h3 hg' hr2⟩

/-- What is found: the tilts of each hour, or the refusal of an hour that has none. -/
def AllT (w : World) (T : Nat → List Int) (e : Ending) (w' : World) : Prop :=
  ∃ (zs : Array Value) (er : Value), e = .returned (.tuple #[.agg zs, er]) ∧ zs.size = 24 ∧ (∀ v ∈ zs, v.oneCell' = true) ∧ Below w.heap.size w w' ∧
    ((er = .nilIface ∧ ∀ j, j < 24 → T j ≠ [] ∧ ∃ v, zs[j]? = some v ∧ Own w' w.heap.size 2 (Value.int .i64) v (T j)) ∨ (∃ k : Nat, k < 24 ∧ T k = [] ∧ er = .iface 191 (.agg #[.int .i64 (k : Int)])))

theorem results_two {fn : Func} {p q : Tmp} (h : fn.results = #[.cell p 118, .cell q 114]) (tmps : Array Value) (w : World) (b2 b3 : Nat) (zs : Array Value) (er : Value) (hp : tmps.getD p undef = .pointer (some ⟨b2, 0, none⟩)) (hq : tmps.getD q undef = .pointer (some ⟨b3, 0, none⟩)) (hg : w.heap[b2]? = some (.cells zs 118 (0, 0))) (hs : zs.size = 24) (hc : w.cell? ⟨b3, 0, none⟩ = some er) :
    (results fn tmps).run Tryz.prog w = .ok (.tuple #[.agg zs, er]) w := by
  have e := run_loadVar_row w b2 118 118 zs (0, 0) _ hg Tryz.underlying118 rfl (by rw [hs]; exact info_59)
  have e3 : (loadVar 114 ⟨b3, 0, none⟩).run Tryz.prog w = .ok er w := by simp [go_sem, hc]
  have e0 : (results fn tmps).run Tryz.prog w =
      ((asAddr (tmps.getD p undef)).run Tryz.prog w).andThen fun a w₁ => ((loadVar 118 a).run Tryz.prog w₁).andThen fun v w₂ => ((asAddr (tmps.getD q undef)).run Tryz.prog w₂).andThen fun a' w₃ => ((loadVar 114 a').run Tryz.prog w₃).andThen fun v' w₄ => .ok (.tuple #[v, v']) w₄ := by
    simp only [results, h]
    simp [Sem.run_bind, Result.andThen]
  rw [e0, hp, hq]
  simp only [asAddr, Sem.run_pure, Result.andThen_ok, e, e3]

set_option maxRecDepth 100000 in
set_option maxHeartbeats 8000000 in
theorem allTilts_any (hs ts : List Int) (hh : hs.length = 24) (ht : ts.length = 24) (fc : Int) (lo hi : Nat) (n : Int) (wd gp : Nat) (t : Int) (sh : Nat) (ok : BlOk n wd gp t sh) (dh : DyHr hs ts fc) (w : World) :
    Calls Tryz.prog 68 #[.agg (dayC hs ts fc lo hi n wd gp t sh)] w (AllT w (fun h : Nat => wantT (kpB hs ts fc lo hi wd gp sh (h : Int)) (tls 129))) := by
  refine (callsIn_wide (n := 4)).1 ?_
  have HKP : Hid (∀ k : Nat, k < 24 → ∀ w, Calls Tryz.prog 132 #[.agg (dayC hs ts fc lo hi n wd gp t sh), .int .i64 (k : Int)] w fun e w' => (∃ v, e = .returned v ∧ Own w' w.heap.size 2 (Value.int .i64) v (wantT (kpB hs ts fc lo hi wd gp sh (k : Int)) (tls 129))) ∧ Below w.heap.size w w') := fun k hk w => dayTilts_any hs ts hh ht fc lo hi n wd gp t sh ok (k : Int) (dh.all k hk) w
  have Hh := Lib.hid hh
  have Ht := Lib.hid ht
  obtain ⟨T, hT⟩ : ∃ T : Nat → List Int, T = (fun h : Nat => wantT (kpB hs ts fc lo hi wd gp sh (h : Int)) (tls 129)) := ⟨_, rfl⟩
  have HKQ : Hid (∀ k : Nat, k < 24 → ∀ w, Calls Tryz.prog 132 #[.agg (dayC hs ts fc lo hi n wd gp t sh), .int .i64 (k : Int)] w fun e w' => (∃ v, e = .returned v ∧ Own w' w.heap.size 2 (Value.int .i64) v (T k)) ∧ Below w.heap.size w w') := by rw [hT]; exact HKP.out
  have HLT : Hid (∀ k, (T k).length ≤ 129) := by
    rw [hT]
    intro k
    refine Nat.le_trans (wantT_len _ _) ?_
    simp [tls]
  rw [← hT]
  clear hh ht ok dh HKP hT
  refine callsIn_of_wp_marks Tryz.func68 rfl trivial ?_ rfl
  simp only [Tryz.ntmps68, List.size_toArray, List.length_cons, List.length_nil, Nat.reduceAdd, Nat.reduceSub, Array.replicate_succ, Array.replicate_zero, List.push_toArray, List.append_toArray, List.nil_append, List.cons_append]
  refine wpIn_wide.2 ?_
  go_upto_region 2 with (fail)
  refine abs_world (fun W => W.heap[w.heap.size]? = some (.cells (dayC hs ts fc lo hi n wd gp t sh) 123 (0, 0)) ∧ W.heap[w.heap.size + 1]? = some (.cells nonS 118 (0, 0)) ∧ W.heap[w.heap.size + 1 + 1]? = some (.cells #[.nilIface] 114 (0, 0)) ∧ W.heap[w.heap.size + 1 + 1 + 1]? = some (.cells nonS 118 (0, 0)) ∧ Below w.heap.size w W) ⟨(four_new _ _ _ _ _).1, (four_new _ _ _ _ _).2.1, (four_new _ _ _ _ _).2.2.1, (four_new _ _ _ _ _).2.2.2.1, (four_new _ _ _ _ _).2.2.2.2⟩ ?_
  rintro W0 ⟨r0, r2, r3, r4, hb⟩
  have hl4 := row_lt r4
  have hle4 : w.heap.size ≤ w.heap.size + 1 + 1 + 1 := by omega
  have hle3 : w.heap.size ≤ w.heap.size + 1 + 1 := by omega
  have hle2 : w.heap.size ≤ w.heap.size + 1 := by omega
  have n01 : w.heap.size < w.heap.size + 1 := by omega
  have n12 : w.heap.size + 1 < w.heap.size + 1 + 1 := by omega
  have n23 : w.heap.size + 1 + 1 < w.heap.size + 1 + 1 + 1 := by omega
  generalize w.heap.size + 1 + 1 + 1 = b4 at *
  generalize w.heap.size + 1 + 1 = b3 at *
  generalize w.heap.size + 1 = b2 at *
  have hle : w.heap.size ≤ W0.heap.size := hb.size
  have R0 := Lib.hid r0
  have R2 := Lib.hid r2
  have R3 := Lib.hid r3
  have R4 := Lib.hid r4
  have HB := Lib.hid hb
  clear r0 r2 r3 r4 hb
  go_wp2
  refine (wpIn_wide (n := 4)).1 ?_
  refine wpIn_rangeFunc_ownF rfl (by decide) (gf := 131) (lb := #[]) rfl trivial (enters_of Tryz.func131 (by kernel_rfl) rfl)
    (eachHour_stops Fence.wide _ trivial rfl (by decide) w.heap.size _) belowK_t (belowK_b hle) (Below.refl _ _) (fun _ => rfl)
    (TlI w (dayC hs ts fc lo hi n wd gp t sh) b2 b3 b4 T) (TlX w b2 b3 T) (tlI_own w _ b2 b3 b4 T _ (by first | (simp; done) | (simp; omega) | exact hle)) (fun c => tlX_own w b2 b3 T c _ (by first | (simp; done) | (simp; omega) | exact hle)) ?h0
    (fun x => { tmps := #[.agg (dayC hs ts fc lo hi n wd gp t sh), .pointer (some ⟨w.heap.size, 0, none⟩), .pointer (some ⟨b2, 0, none⟩), .pointer (some ⟨b3, 0, none⟩), .pointer (some ⟨b4, 0, none⟩), .int .i64 x.1, .int .i64 x.1, undef, undef, undef, undef, undef, undef, undef, undef, undef, undef, undef, undef, undef, undef, undef], defers := [] }) ?assign ?body ?done ?stop
  case h0 => exact ⟨nonS, rfl, nonS_one, ⟨R0.out, R2.out, R3.out⟩, R4.out, fun _ j hj => by simp at hj, HB.out⟩
  case assign =>
    intro l x W K hK
    gi_wp2
    exact hK
  case body =>
    rintro l pre ⟨x, hx0, hx1⟩ W ⟨zs, hz, hone, ⟨h0, h2, h3⟩, h4, hg, hbw⟩ hl
    obtain ⟨k, rfl⟩ := Int.eq_ofNat_of_zero_le hx0
    have hk : k < 24 := by omega
    have H0 := Lib.hid h0
    have H2 := Lib.hid h2
    have H3 := Lib.hid h3
    have H4 := Lib.hid h4
    have HG := Lib.hid hg
    have HZ := Lib.hid hz
    have HON := Lib.hid hone
    have HK := Lib.hid (HKQ.out k hk)
    have hcur : zs[k]? = some (zs[k]'(by rw [HZ.out]; exact hk)) := Array.getElem?_eq_getElem _
    have z1 : (k : Int) < 24 := by omega
    have z2 : (0 : Int) ≤ (k : Int) := by omega
    have hwW := hbw.size
    have HBW := Lib.hid hbw
    have hlt := HLT.out k
    clear h0 h2 h3 h4 hg hone hbw hz
    refine wpIn_block (wpIn_seq ?_)
    refine region_list_round (by rfl) (fun ⟨_, _, h⟩ => h) ?_
    go_wp2_with (first | (refine wpList_load_part rfl 123 _ rfl w.heap.size 0 56 rfl 123 (dayC hs ts fc lo hi n wd gp t sh) (0, 0) _ H0.out Tryz.underlying123 rfl info_dy (dy_fits 56 (by decide) hs ts Hh.out Ht.out fc lo hi n wd gp t sh) (dayC hs ts fc lo hi n wd gp t sh) (dy_all hs ts Hh.out Ht.out fc lo hi n wd gp t sh) ?_) | (go_at_call 132; refine (HK.out _).mono ?_; rintro e W1 ⟨⟨v, rfl, hv⟩, hb1⟩; replace H0 := Lib.hid (below_row hb1 H0.out); replace H2 := Lib.hid (below_row hb1 H2.out); replace H3 := Lib.hid (below_row hb1 H3.out); replace H4 := Lib.hid (below_row hb1 H4.out); obtain ⟨a, cap, ev, -⟩ := id hv; subst ev; have HV := Lib.hid hv; clear hv; have HB1 := Lib.hid hb1; clear hb1; have q1 := cell_of_row W1 b4 k _ _ _ H4.out; rw [hcur] at q1; have q2 := frozen_of_row W1 b4 k _ _ H4.out))
    clear q1 q2 hcur
    obtain ⟨v, ev⟩ : ∃ v, v = Value.slice a (T k).length cap := ⟨_, rfl⟩
    rw [← ev] at HV ⊢
    have HEV := Lib.hid ev
    clear ev
    have hz2 : (zs.setIfInBounds k v).size = 24 := by rw [Array.size_setIfInBounds]; exact HZ.out
    have HZ2 := Lib.hid hz2
    have HO2 : Hid (∀ x ∈ zs.setIfInBounds k v, x.oneCell' = true) := by
      intro x hx
      rcases Array.mem_or_eq_of_mem_setIfInBounds hx with h | h
      · exact HON.out x h
      · rw [h]; exact own_one HV.out
    have hg4 : (W1.setCell ⟨b4, k, none⟩ v).heap[b4]? = some (.cells (zs.setIfInBounds k v) 118 (0, 0)) := heap_setCell_same _ _ _ _ _ _ H4.out
    have HV2 := Lib.hid (own_setCell (i := k) (x := v) HV.out H4.out)
    have HC4 : Hid ((zs.setIfInBounds k v)[k]? = some v) := Lib.hid (by rw [Array.getElem?_setIfInBounds, if_pos rfl, if_pos (by rw [HZ.out]; exact hk)])
    have HPREV : Hid (Good pre → ∀ j, j < pre.length → T j ≠ [] ∧ ∃ v', zs[j]? = some v' ∧ Own (W1.setCell ⟨b4, k, none⟩ v) w.heap.size 2 (Value.int .i64) v' (T j)) := Lib.hid (fun hgd j hj => ⟨(HG.out hgd j hj).1, (HG.out hgd j hj).2.imp fun v' hv' => ⟨hv'.1, own_setCell (own_below hv'.2 HB1.out (Nat.le_refl _)) H4.out⟩⟩)
    have HBV : Hid (Below w.heap.size W (W1.setCell ⟨b4, k, none⟩ v)) := Lib.hid ((HB1.out.mono hwW).setCell (p := ⟨b4, k, none⟩) hle4 _)
    have HKO := Lib.hid ((keeps_of_below HB1.out).trans (KeepsOthers.setCell W1 ⟨b4, k, none⟩ v))
    have g0 : Hid ((W1.setCell ⟨b4, k, none⟩ v).heap[w.heap.size]? = some (.cells (dayC hs ts fc lo hi n wd gp t sh) 123 (0, 0))) := Lib.hid ((heap_setCell_other _ _ _ _ (by simp; omega)).trans H0.out)
    have g2 : Hid ((W1.setCell ⟨b4, k, none⟩ v).heap[b2]? = some (.cells nonS 118 (0, 0))) := Lib.hid ((heap_setCell_other _ _ _ _ (by simp; omega)).trans H2.out)
    have g3 : Hid ((W1.setCell ⟨b4, k, none⟩ v).heap[b3]? = some (.cells #[.nilIface] 114 (0, 0))) := Lib.hid ((heap_setCell_other _ _ _ _ (by simp; omega)).trans H3.out)
    have G4 := Lib.hid hg4
    clear HB1 H0 H2 H3 H4 HV HG hg4 hz2 HON HZ
    generalize W1.setCell ⟨b4, k, none⟩ v = U at *
    have q3 : U.cell? ⟨b4, k, none⟩ = some v := by rw [cell_of_row U _ _ _ _ _ G4.out]; exact HC4.out
    have HM : Hid (T k ≠ [] → Good (pre ++ [⟨(k : Int), hx0, hx1⟩]) → ∀ j, j < (pre ++ [(⟨(k : Int), hx0, hx1⟩ : Hr)]).length → T j ≠ [] ∧ ∃ v', (zs.setIfInBounds k v)[j]? = some v' ∧ Own U w.heap.size 2 (Value.int .i64) v' (T j)) := by
      refine Lib.hid (fun hne hgs j hj => ?_)
      obtain ⟨hgp, hxk⟩ := good_snoc hgs hl
      have hkl : k = pre.length := by have : (k : Int) = (pre.length : Int) := hxk; omega
      rw [List.length_append, List.length_singleton] at hj
      by_cases e : k = j
      · subst e
        exact ⟨hne, v, HC4.out, own_below HV2.out (Below.refl _ _) hwW⟩
      · obtain ⟨h1, v', h2, h3⟩ := HPREV.out hgp j (by omega)
        refine ⟨h1, v', ?_, h3⟩
        rw [Array.getElem?_setIfInBounds, if_neg e]
        exact h2
    have ev := HEV.out
    generalize zs.setIfInBounds k v = zt at *
    clear HPREV HC4
    rw [ev] at q3 ⊢
    have HLN : Hid ((T k).length = 0 ↔ T k = []) := Lib.hid List.length_eq_zero_iff
    clear ev HV2 HEV
    generalize (T k).length = m at *
    by_cases hm0 : m = 0
    · subst hm0
      have hTk := HLN.out.1 rfl
      have HTK := Lib.hid hTk
      have r2 : Hid ((U.setRow b2 zt).heap[b2]? = some (.cells zt 118 (0, 0))) := Lib.hid (setRow_heap _ _ _ _ _ _ g2.out)
      have r3 : (U.setRow b2 zt).heap[b3]? = some (.cells #[.nilIface] 114 (0, 0)) := (setRow_other _ _ _ _ (by omega)).trans g3.out
      have R3b := Lib.hid r3
      have c3 : (U.setRow b2 zt).cell? ⟨b3, 0, none⟩ = some .nilIface := by rw [cell_of_row _ _ _ _ _ _ r3]; rfl
      have f3 := frozen_of_row (U.setRow b2 zt) b3 0 _ _ r3
      clear hTk r3
      refine wpIn_seq ?_
      refine region_list_round (by rfl) (fun ⟨_, _, h⟩ => h) ?_
      go_wp2
      refine wpIn_cond_true (by rfl) ?_
      refine wpIn_seq ?_
      refine region_list_round (by rfl) (fun ⟨_, _, h⟩ => h) ?_
      go_wp2_with (first | (refine wpList_load_part rfl 118 _ rfl b4 0 24 rfl 118 (zt) (0, 0) _ G4.out Tryz.underlying118 rfl info_59 (by rw [HZ2.out]; decide) (zt) (by rw [Nat.zero_add, ← HZ2.out, Array.extract_size]) ?_) | (refine wpList_store_part rfl 118 _ _ rfl b2 0 (zt) rfl rfl 118 nonS g2.out (by rw [HZ2.out]; exact info_59) (by rw [HZ2.out]; decide) HO2.out ?_; rw [laid_all _ _ (by rw [HZ2.out]; rfl)]))
      gi_wp2
      exact ⟨HKO.out.trans ((keeps_setRow g2.out).trans (KeepsOthers.setCell _ _ _)), rfl, (below_setRow (HBW.out.trans HBV.out) hle2 _).setCell (p := ⟨b3, 0, none⟩) hle3 _, hle2, hle3, k, zt, hk, HTK.out, HZ2.out, HO2.out, (heap_setCell_other _ _ _ _ (by simp; omega)).trans r2.out, by rw [heap_setCell_same _ _ _ _ _ _ R3b.out]; rfl⟩
    · have hTk : T k ≠ [] := fun h => hm0 (HLN.out.2 h)
      have y1 : ((m : Int) == 0) = false := by simp; omega
      have HMM := Lib.hid (HM.out hTk)
      refine wpIn_seq ?_
      refine region_list_round (by rfl) (fun ⟨_, _, h⟩ => h) ?_
      go_wp2
      gi_wp2
      exact ⟨HKO.out, HBV.out, zt, HZ2.out, HO2.out, ⟨g0.out, g2.out, g3.out⟩, G4.out, HMM.out, HBW.out.trans HBV.out⟩
  case done =>
    rintro D xs W hD rfl ⟨zs, hz, hone, ⟨h0, h2, h3⟩, h4, hg, hbw⟩ hK
    rename_i K hcont
    have hD' : w.heap.size ≤ D := by first | omega | (simp at hD; omega)
    have hDb : D ≠ b2 ∧ D ≠ b3 ∧ D ≠ b4 := by first | omega | (simp at hD; omega)
    have HZ := Lib.hid hz
    have HON := Lib.hid hone
    have HQ : Hid (∀ j, j < 24 → T j ≠ [] ∧ ∃ v, zs[j]? = some v ∧ Own W w.heap.size 2 (Value.int .i64) v (T j)) := Lib.hid (fun j hj => hg good_all j (by rw [hrs_length]; exact hj))
    have H4 := Lib.hid h4
    have H2 := Lib.hid h2
    have HK := Lib.hid hK
    have HBW := Lib.hid hbw
    have r2 : Hid ((W.setRow b2 zs).heap[b2]? = some (.cells zs 118 (0, 0))) := Lib.hid (setRow_heap _ _ _ _ _ _ h2)
    have r3 : (W.setRow b2 zs).heap[b3]? = some (.cells #[.nilIface] 114 (0, 0)) := (setRow_other _ _ _ _ (by omega)).trans h3
    have R3b := Lib.hid r3
    have c3 : (W.setRow b2 zs).cell? ⟨b3, 0, none⟩ = some .nilIface := by rw [cell_of_row _ _ _ _ _ _ r3]; rfl
    have f3 := frozen_of_row (W.setRow b2 zs) b3 0 _ _ r3
    have hK2 : Hid (((W.setRow b2 zs).setCell ⟨b3, 0, none⟩ .nilIface).heap[D]? = some (.deferred (some []))) := Lib.hid ((heap_setCell_other _ _ _ _ (by simp; omega)).trans ((setRow_other _ _ _ _ (by omega)).trans hK))
    have hB2 : Hid (Below w.heap.size w ((W.setRow b2 zs).setCell ⟨b3, 0, none⟩ .nilIface)) := Lib.hid ((below_setRow hbw hle2 _).setCell (p := ⟨b3, 0, none⟩) hle3 _)
    clear hg hK h0 h2 h3 h4 hbw r3 hz hone
    refine hcont _ _ ?_
    go_wp2_with (first | (refine wpList_load_part rfl 118 _ rfl b4 0 24 rfl 118 (zs) (0, 0) _ H4.out Tryz.underlying118 rfl info_59 (by rw [HZ.out]; decide) (zs) (by rw [Nat.zero_add, ← HZ.out, Array.extract_size]) ?_) | (refine wpList_store_part rfl 118 _ _ rfl b2 0 (zs) rfl rfl 118 nonS H2.out (by rw [HZ.out]; exact info_59) (by rw [HZ.out]; decide) HON.out ?_; rw [laid_all _ _ (by rw [HZ.out]; rfl)]))
    refine ⟨by simp, .inl ⟨_, _, rfl, run_takeDeferred hK2.out, ?_⟩⟩
    have e2 : (((W.setRow b2 zs).setCell ⟨b3, 0, none⟩ .nilIface).putObj D (.deferred none)).heap[b2]? = some (.cells zs 118 (0, 0)) := (World.putObj_heap_other (by omega)).trans ((heap_setCell_other _ _ _ _ (by simp; omega)).trans r2.out)
    have e3 : (((W.setRow b2 zs).setCell ⟨b3, 0, none⟩ .nilIface).putObj D (.deferred none)).cell? ⟨b3, 0, none⟩ = some .nilIface := by rw [cell_of_row _ _ _ _ _ _ ((World.putObj_heap_other (by omega)).trans (heap_setCell_same _ _ _ _ _ _ R3b.out))]; rfl
    refine ⟨_, results_two rfl _ _ b2 b3 zs _ rfl rfl e2 HZ.out e3, zs, .nilIface, rfl, HZ.out, HON.out, hB2.out.trans (belowK_b (w := w) (Nat.le_refl _) _ D _ _ (by omega) hK2.out rfl rfl), .inl ⟨rfl, fun j hj => ?_⟩⟩
    obtain ⟨q1, v, q2, q3⟩ := HQ.out j hj
    refine ⟨q1, v, q2, ?_⟩
    obtain ⟨a, cp, rfl, y2, y3, y4⟩ := q3
    refine ⟨a, cp, rfl, y2, y3, y4.imp id ?_⟩
    rintro ⟨g, cur, rfl, y5, y6, y7⟩
    refine ⟨g, cur, rfl, y5, ?_, y7⟩
    have d2 : b2 ≠ g := by
      intro e
      rw [← e, H2.out] at y6
      injection y6 with y8
      injection y8 with _ y9 _
      revert y9
      decide
    have d3 : b3 ≠ g := by
      intro e
      have y10 := R3b.out
      rw [setRow_other _ _ _ _ (by omega), e, y6] at y10
      injection y10 with y8
      injection y8 with _ y9 _
      revert y9
      decide
    have d4 : D ≠ g := by
      intro e
      have y10 := HK.out
      rw [e, y6] at y10
      cases y10
    exact (World.putObj_heap_other (Ne.symm d4)).trans ((heap_setCell_other _ _ _ _ (by simpa using Ne.symm d3)).trans ((setRow_other _ _ _ _ (Ne.symm d2)).trans y6))
  case stop =>
    rintro D c pre W hD _ ⟨rfl, hbw, n2, n3, k, zs, hk, hTk, hz, hone, h2, h3⟩ hK
    have hD' : w.heap.size ≤ D := by first | omega | (simp at hD; omega)
    have hDb : D ≠ b2 ∧ D ≠ b3 := by first | omega | (simp at hD; omega)
    gi_wp2
    refine ⟨by simp, .inl ⟨_, _, rfl, run_takeDeferred hK, ?_⟩⟩
    have e2 : (W.putObj D (.deferred none)).heap[b2]? = some (.cells zs 118 (0, 0)) := (World.putObj_heap_other (by omega)).trans h2
    have e3 : (W.putObj D (.deferred none)).cell? ⟨b3, 0, none⟩ = some (.iface 191 (.agg #[.int .i64 (k : Int)])) := by rw [cell_of_row _ _ _ _ _ _ ((World.putObj_heap_other (by omega)).trans h3)]; rfl
    exact ⟨_, results_two rfl _ _ b2 b3 zs _ rfl rfl e2 hz e3, zs, _, rfl, hz, hone, hbw.trans (belowK_b (w := w) (Nat.le_refl _) _ D _ _ (by omega) hK rfl rfl), .inr ⟨k, hk, hTk, rfl⟩⟩

end Go.Proofs.YtddnfbpgldchcaaGreatDoor

namespace Go.Proofs.YtddnfbpgldchcaaGreatDoor

open Go.ChangeShapes Go.WideShapes Go.ChangeAt Go.RowKit

/-- The numbers that a slice holds. -/
def IntsAt (W : World) (v : Value) (zs : List Int) : Prop :=
  ∃ a cap, v = .slice a zs.length cap ∧ zs.length ≤ cap ∧ cap ≤ maxLen ∧ ∀ i x, zs[i]? = some x → ∃ g o, a = some ⟨g, o, none⟩ ∧ W.cell? ⟨g, o + i, none⟩ = some (.int .i64 x)

theorem ints_below {W W' : World} {v : Value} {zs : List Int} (h : IntsAt W v zs) (hb : Below W.heap.size W W') : IntsAt W' v zs := by
  obtain ⟨a, cap, h1, h2, h3, h4⟩ := h
  refine ⟨a, cap, h1, h2, h3, fun i x hx => ?_⟩
  obtain ⟨g, o, e, c0⟩ := h4 i x hx
  exact ⟨g, o, e, (hb.cell (World.block_lt_of_cell? W _ c0)).trans c0⟩

end Go.Proofs.YtddnfbpgldchcaaGreatDoor

namespace Go.Proofs.YtddnfbpgldchcaaGreatDoor

open Go.ChangeShapes Go.WideShapes Go.ChangeAt Go.RowKit Go.Deep Go.Joins

attribute [local go_sem] run_store_f

theorem int_atF {W : World} {a : Option Addr} {n cap : Nat} {zs : List Int} (h : IntsAt W (.slice a n cap) zs) {k : Nat} {x : Int} (hx : zs[k]? = some x) :
    ∃ g o, a = some ⟨g, o, none⟩ ∧ W.cell? ⟨g, o + k, none⟩ = some (.int .i64 x) := by
  obtain ⟨a', cap', e, _, _, h4⟩ := h
  injection e with e1 e2 e3
  subst e1
  exact h4 k x hx

theorem own_intsF {w : World} {b : Nat} {v : Value} {zs : List Int} (h : Own w b 2 (Value.int .i64) v zs) : IntsAt w v zs := by
  obtain ⟨a, cap, rfl, h2, h3, h4⟩ := h
  refine ⟨a, cap, rfl, h3, h2, fun i x hx => ?_⟩
  rcases h4 with ⟨rfl, rfl⟩ | ⟨g, cur, rfl, hg, hc, hk⟩
  · simp at hx
  · have hi := (List.getElem?_eq_some_iff.1 hx).1
    exact ⟨g, 0, rfl, by rw [Nat.zero_add, cell_of_row w _ _ _ _ _ hc, hk i hi, hx]; rfl⟩

theorem bothL_hit {xs ys : List Int} {k : Nat} {x : Int} (h : xs[k]? = some x) (hc : ys.contains x = true) : bothL (xs.take (k + 1)) ys = bothL (xs.take k) ys ++ [x] := by
  have hk := (List.getElem?_eq_some_iff.1 h).1
  unfold bothL
  rw [List.take_succ_eq_append_getElem hk, List.filter_append]
  have e : xs[k] = x := by rw [List.getElem?_eq_getElem hk] at h; exact Option.some.inj h
  rw [e, List.filter_cons_of_pos hc]
  rfl

theorem bothL_miss {xs ys : List Int} {k : Nat} {x : Int} (h : xs[k]? = some x) (hc : ys.contains x = false) : bothL (xs.take (k + 1)) ys = bothL (xs.take k) ys := by
  have hk := (List.getElem?_eq_some_iff.1 h).1
  unfold bothL
  rw [List.take_succ_eq_append_getElem hk, List.filter_append]
  have e : xs[k] = x := by rw [List.getElem?_eq_getElem hk] at h; exact Option.some.inj h
  rw [e, List.filter_cons_of_neg (by rw [hc]; decide), List.filter_nil, List.append_nil]

theorem bothL_len (xs ys : List Int) : (bothL xs ys).length ≤ xs.length := List.length_filter_le _ _

theorem contains_false_of {ys : List Int} {x : Int} (h : ∀ j, j < ys.length → ys[j]? ≠ some x) : ys.contains x = false := by
  rw [Bool.eq_false_iff]
  intro hc
  rw [List.contains_iff_mem] at hc
  obtain ⟨j, hj⟩ := List.mem_iff_getElem?.1 hc
  exact h j (List.getElem?_eq_some_iff.1 hj).1 hj

set_option maxRecDepth 100000 in
set_option maxHeartbeats 2000000 in
theorem indexI_any (sv : Value) (ys : List Int) (x : Int) (w : World) (hz : IntsAt w sv ys) :
    Calls Tryz.prog 188 #[sv, .int .i64 x] w fun e w' => ∃ r : Int, e = .returned (.int .i64 r) ∧ decide (0 ≤ r) = ys.contains x ∧ w = w' := by
  have HZ := Lib.hid hz
  obtain ⟨a, cap, rfl, hl1, hl2, _⟩ := hz
  unfold maxLen at hl2
  generalize hn : ys.length = n at *
  have HN := Lib.hid hn
  clear hn
  go_enter Tryz.func188, Tryz.ntmps188
  go_wp2
  go_loopw [8] (fun i wr => ∃ k : Nat, k ≤ n ∧ i = .int .i64 k ∧ w = wr ∧ ∀ j, j < k → ys[j]? ≠ some x) (fun i _ => n - (intOf i).toNat)
  case atStart => exact ⟨0, Nat.zero_le _, rfl, rfl, fun j hj => absurd hj (Nat.not_lt_zero j)⟩
  case round =>
    obtain ⟨k, hk, rfl, rfl, hno⟩ := hrel
    have HNO := Lib.hid hno
    clear hno
    by_cases hlt : k < n
    · have hx : ys[k]? = some (ys[k]'(by rw [HN.out]; exact hlt)) := List.getElem?_eq_getElem _
      obtain ⟨g, o, rfl, hc⟩ := int_atF HZ.out hx
      generalize (ys[k]'(by rw [HN.out]; exact hlt)) = y at *
      have HX := Lib.hid hx
      have z1 : (k : Int) < (n : Int) := by omega
      have z2 : (0 : Int) ≤ (k : Int) := by omega
      have z3 : decide ((k : Int) < (n : Int)) = true := decide_eq_true z1
      clear hx
      by_cases e : x = y
      · subst e
        have hy : (x == x) = true := by simp
        go_wp2
        go_ret
        exact ⟨(k : Int), rfl, by rw [decide_eq_true z2]; exact (List.contains_iff_mem.2 (List.mem_of_getElem? HX.out)).symm, rfl⟩
      · have hy : (x == y) = false := by simpa using e
        have E := Lib.hid e
        clear e
        go_wp2
        go_roundw
        case rel =>
          refine ⟨k + 1, by omega, by go_num, by trivial, fun j hj => ?_⟩
          by_cases ej : j = k
          · rw [ej, HX.out]; intro h; exact E.out (Option.some.inj h).symm
          · exact HNO.out j (by omega)
        case measure => simp [intOf]; omega
    · obtain rfl : k = n := by omega
      go_wp2
      go_ret
      exact ⟨-1, rfl, by rw [contains_false_of (fun j hj => HNO.out j (by rw [HN.out] at hj; exact hj))]; rfl, rfl⟩

set_option maxRecDepth 100000 in
set_option maxHeartbeats 1000000 in
theorem ret_boolF {b c : Bool} (h : b = c) : Ending.returned (.bool b) = .returned (.bool c) := by rw [h]

theorem containsI_is (sv : Value) (ys : List Int) (x : Int) (b : Bool) (hr : ys.contains x = b) (w : World) (hz : IntsAt w sv ys) :
    Calls Tryz.prog 169 #[sv, .int .i64 x] w fun e w' => e = .returned (.bool b) ∧ w = w' := by
  have HC : Calls Tryz.prog 188 #[sv, .int .i64 x] w fun e w' => ∃ r : Int, e = .returned (.int .i64 r) ∧ decide (0 ≤ r) = b ∧ w = w' := by rw [← hr]; exact indexI_any sv ys x w hz
  clear hz hr
  go_enter Tryz.func169, Tryz.ntmps169
  go_wp2_with (go_at_call 188; refine HC.mono ?_; rintro e w1 ⟨r, rfl, hd, rfl⟩)
  go_ret
  first | exact ⟨ret_boolF hd, rfl⟩ | exact ⟨rfl, rfl⟩

set_option maxRecDepth 100000 in
set_option maxHeartbeats 2000000 in
theorem l00Has_any (sv : Value) (ys : List Int) (x : Int) (r : Bool) (hr : ys.contains x = r) (w : World) (hz : IntsAt w sv ys) :
    Calls Tryz.prog 137 #[sv, .int .i64 x] w fun e w' => e = .returned (.bool r) ∧ w = w' := by
  have HZ := Lib.hid hz
  have HR := Lib.hid hr
  obtain ⟨a, cap, rfl, hl1, hl2, _⟩ := hz
  unfold maxLen at hl2
  generalize hn : ys.length = n at *
  have HN := Lib.hid hn
  clear hn hr
  go_enter Tryz.func137, Tryz.ntmps137
  go_wp2
  go_loopw [5] (fun i wr => ∃ k : Nat, k ≤ n ∧ i = .int .i64 k ∧ w = wr ∧ ∀ j, j < k → ys[j]? ≠ some x) (fun i _ => n - (intOf i).toNat)
  case atStart => exact ⟨0, Nat.zero_le _, rfl, rfl, fun j hj => absurd hj (Nat.not_lt_zero j)⟩
  case round =>
    obtain ⟨k, hk, rfl, rfl, hno⟩ := hrel
    have HNO := Lib.hid hno
    clear hno
    by_cases hlt : k < n
    · have hx : ys[k]? = some (ys[k]'(by rw [HN.out]; exact hlt)) := List.getElem?_eq_getElem _
      obtain ⟨g, o, rfl, hc⟩ := int_atF HZ.out hx
      generalize (ys[k]'(by rw [HN.out]; exact hlt)) = y at *
      have HX := Lib.hid hx
      have z1 : (k : Int) < (n : Int) := by omega
      have z2 : (0 : Int) ≤ (k : Int) := by omega
      clear hx
      by_cases e : y = x
      · subst e
        have hy : (y == y) = true := by simp
        have hr2 : r = true := HR.out.symm.trans (List.contains_iff_mem.2 (List.mem_of_getElem? HX.out))
        subst hr2
        go_wp2
        go_ret
        exact ⟨rfl, rfl⟩
      · have hy : (y == x) = false := by simpa using e
        have E := Lib.hid e
        clear e
        go_wp2
        go_roundw
        case rel =>
          refine ⟨k + 1, by omega, by go_num, by trivial, fun j hj => ?_⟩
          by_cases ej : j = k
          · rw [ej, HX.out]; intro h; exact E.out (Option.some.inj h)
          · exact HNO.out j (by omega)
        case measure => simp [intOf]; omega
    · obtain rfl : k = n := by omega
      have hr2 : r = false := HR.out.symm.trans (contains_false_of (fun j hj => HNO.out j (by rw [HN.out] at hj; exact hj)))
      subst hr2
      go_wp2
      go_ret
      exact ⟨rfl, rfl⟩

theorem infoI : (Tryz.prog.info? 2).map (fun i => (i.zero, i.size, i.bytes)) = some (some (.int .i64 0), 1, 8) := by kernel_rfl

theorem own_ofI {W : World} {base : Nat} {v : Value} {xs : List Int} (h : W.ownsRow base 2 1 v xs.length (xs.map (Value.int .i64))) (_ : xs.length ≤ maxLen) : Own W base 2 (Value.int .i64) v xs := own_of_row h (by assumption)

set_option maxRecDepth 100000 in
set_option maxHeartbeats 4000000 in
theorem common_any (v1 v2 : Value) (xs ys : List Int) (hlx : xs.length ≤ 1000) (w : World) (h1 : IntsAt w v1 xs) (h2 : IntsAt w v2 ys) :
    Calls Tryz.prog 133 #[v1, v2] w fun e w' => (∃ v, e = .returned v ∧ Own w' w.heap.size 2 (Value.int .i64) v (bothL xs ys)) ∧ Below w.heap.size w w' := by
  obtain ⟨i0, hin, hz0, hz1, hz2⟩ := info_parts infoI
  have HX := Lib.hid h1
  have HY := Lib.hid h2
  have HC := Lib.hid (fun y r hr w hz => containsI_is v2 ys y r hr w hz)
  have HBL := Lib.hid (fun k => Nat.le_trans (bothL_len (xs.take k) ys) (List.length_take_le k xs))
  obtain ⟨a1, c1, rfl, hl1, hm1, _⟩ := h1
  unfold maxLen at hm1
  generalize hn : xs.length = n at *
  have HN := Lib.hid hn
  clear hn
  go_enter Tryz.func133, Tryz.ntmps133
  go_wp2
  have hrow0 : (w).ownsRow w.heap.size 2 1 (.slice none 0 0) 0 [] := ⟨rfl, .inl ⟨rfl, rfl⟩⟩
  go_loopw [5, 10] (fun o i wr => ∃ (vo : Value) (k m : Nat), vo = o ∧ k ≤ n ∧ i = .int .i64 (k : Int) ∧ m = (bothL (xs.take k) ys).length ∧ m ≤ k ∧ wr.ownsRow w.heap.size 2 1 o m ((bothL (xs.take k) ys).map (Value.int .i64)) ∧ Below w.heap.size w wr) (fun _ i _ => n - (intOf i).toNat)
  case atStart => exact ⟨_, 0, 0, rfl, Nat.zero_le _, rfl, rfl, Nat.le_refl _, hrow0, Below.refl _ _⟩
  case round =>
    clear hrow0
    obtain ⟨vo, k, m, rfl, hk, rfl, hm, hmk, hrow, hb⟩ := hrel
    by_cases hlt : k < n
    · have hx : xs[k]? = some (xs[k]'(by rw [HN.out]; exact hlt)) := List.getElem?_eq_getElem _
      obtain ⟨g, o, rfl, hc⟩ := int_atF (ints_below HX.out hb) hx
      generalize (xs[k]'(by rw [HN.out]; exact hlt)) = y at *
      have z1 : (k : Int) < (n : Int) := by omega
      have z2 : (0 : Int) ≤ (k : Int) := by omega
      have z3 : decide ((k : Int) < (n : Int)) = true := decide_eq_true z1
      have hsz3 := hb.size
      cases hcc : ys.contains y with
      | true =>
        have HT := Lib.hid (bothL_hit hx hcc)
        have HCY := Lib.hid (HC.out y true hcc wr (ints_below HY.out hb))
        clear hx hcc
        go_wp2_with (first | (go_at_call 169; refine (HCY.out).mono ?_; rintro e w' ⟨rfl, rfl⟩) | (at_builtin; refine wpList_append_own _ rfl _ _ 117 rfl w.heap.size 2 i0 (.int .i64 0) 1 8 Tryz.underlying117 hin hz0 hz1 hz2 rfl (by decide) _ _ _ rfl (hrow.alloc _) ⟨wr.heap.size, 0, none⟩ 1 1 [.int .i64 y] rfl rfl (cell_one_new _ _ _) (by simp [Value.oneCell']) (by unfold maxLen; omega) (by omega) (by simp; omega) ?_; intro v' w1 hown' hgrow _))
        go_roundw
        case rel => exact ⟨_, k + 1, m + 1, rfl, by omega, by first | (simp; done) | (simp; omega), by rw [HT.out, List.length_append, List.length_singleton, ← hm], by omega, by rw [HT.out]; simpa using hown', (hb.alloc (by omega) _).grown hgrow (by simp; omega) (row_baseQ hrow)⟩
        case measure => simp [intOf]; omega
      | false =>
        have HT := Lib.hid (bothL_miss hx hcc)
        have HCY := Lib.hid (HC.out y false hcc wr (ints_below HY.out hb))
        clear hx hcc
        go_wp2_with (go_at_call 169; refine (HCY.out).mono ?_; rintro e w' ⟨rfl, rfl⟩)
        go_roundw
        case rel => exact ⟨_, k + 1, m, rfl, by omega, by first | (simp; done) | (simp; omega), by rw [HT.out]; exact hm, by omega, by rw [HT.out]; exact hrow, hb⟩
        case measure => simp [intOf]; omega
    · obtain rfl : k = n := by omega
      rw [List.take_of_length_le (by rw [HN.out]; exact Nat.le_refl _)] at hrow hm
      have HR : Hid (Own wr w.heap.size 2 (Value.int .i64) vo (bothL xs ys)) := own_ofI (by rw [← hm]; exact hrow) (by rw [← hm]; unfold maxLen; omega)
      clear hrow
      go_wp2
      go_ret
      exact ⟨⟨_, rfl, HR.out⟩, hb⟩

set_option maxRecDepth 100000 in
set_option maxHeartbeats 4000000 in
theorem l07Both_any (v1 v2 : Value) (xs ys : List Int) (hlx : xs.length ≤ 1000) (w : World) (h1 : IntsAt w v1 xs) (h2 : IntsAt w v2 ys) :
    Calls Tryz.prog 74 #[v1, v2] w fun e w' => (∃ v, e = .returned v ∧ Own w' w.heap.size 2 (Value.int .i64) v (bothL xs ys)) ∧ Below w.heap.size w w' := by
  obtain ⟨i0, hin, hz0, hz1, hz2⟩ := info_parts infoI
  have HX := Lib.hid h1
  have HY := Lib.hid h2
  have HC := Lib.hid (fun y r hr w hz => l00Has_any v2 ys y r hr w hz)
  have HBL := Lib.hid (fun k => Nat.le_trans (bothL_len (xs.take k) ys) (List.length_take_le k xs))
  obtain ⟨a1, c1, rfl, hl1, hm1, _⟩ := h1
  unfold maxLen at hm1
  generalize hn : xs.length = n at *
  have HN := Lib.hid hn
  clear hn
  go_enter Tryz.func74, Tryz.ntmps74
  go_wp2
  have hrow0 : (w.alloc (.cells #[] 2)).ownsRow w.heap.size 2 1 (.slice (some ⟨w.heap.size, 0, none⟩) 0 0) 0 [] := World.ownsRow_made _ _ _ (Nat.le_refl _) (Nat.zero_le _) rfl
  go_loopw [5, 6] (fun o i wr => ∃ (vo : Value) (k m : Nat), vo = o ∧ k ≤ n ∧ i = .int .i64 (k : Int) ∧ m = (bothL (xs.take k) ys).length ∧ m ≤ k ∧ wr.ownsRow w.heap.size 2 1 o m ((bothL (xs.take k) ys).map (Value.int .i64)) ∧ Below w.heap.size w wr) (fun _ i _ => n - (intOf i).toNat)
  case atStart => exact ⟨_, 0, 0, rfl, Nat.zero_le _, rfl, rfl, Nat.le_refl _, hrow0, (Below.refl _ _).alloc (Nat.le_refl _) _⟩
  case round =>
    clear hrow0
    obtain ⟨vo, k, m, rfl, hk, rfl, hm, hmk, hrow, hb⟩ := hrel
    by_cases hlt : k < n
    · have hx : xs[k]? = some (xs[k]'(by rw [HN.out]; exact hlt)) := List.getElem?_eq_getElem _
      obtain ⟨g, o, rfl, hc⟩ := int_atF (ints_below HX.out hb) hx
      generalize (xs[k]'(by rw [HN.out]; exact hlt)) = y at *
      have z1 : (k : Int) < (n : Int) := by omega
      have z2 : (0 : Int) ≤ (k : Int) := by omega
      have z3 : decide ((k : Int) < (n : Int)) = true := decide_eq_true z1
      have hsz3 := hb.size
      cases hcc : ys.contains y with
      | true =>
        have HT := Lib.hid (bothL_hit hx hcc)
        have HCY := Lib.hid (HC.out y true hcc wr (ints_below HY.out hb))
        clear hx hcc
        go_wp2_with (first | (go_at_call 137; refine (HCY.out).mono ?_; rintro e w' ⟨rfl, rfl⟩) | (at_builtin; refine wpList_append_own _ rfl _ _ 117 rfl w.heap.size 2 i0 (.int .i64 0) 1 8 Tryz.underlying117 hin hz0 hz1 hz2 rfl (by decide) _ _ _ rfl (hrow.alloc _) ⟨wr.heap.size, 0, none⟩ 1 1 [.int .i64 y] rfl rfl (cell_one_new _ _ _) (by simp [Value.oneCell']) (by unfold maxLen; omega) (by omega) (by simp; omega) ?_; intro v' w1 hown' hgrow _))
        go_roundw
        case rel => exact ⟨_, k + 1, m + 1, rfl, by omega, by first | (simp; done) | (simp; omega), by rw [HT.out, List.length_append, List.length_singleton, ← hm], by omega, by rw [HT.out]; simpa using hown', (hb.alloc (by omega) _).grown hgrow (by simp; omega) (row_baseQ hrow)⟩
        case measure => simp [intOf]; omega
      | false =>
        have HT := Lib.hid (bothL_miss hx hcc)
        have HCY := Lib.hid (HC.out y false hcc wr (ints_below HY.out hb))
        clear hx hcc
        go_wp2_with (go_at_call 137; refine (HCY.out).mono ?_; rintro e w' ⟨rfl, rfl⟩)
        go_roundw
        case rel => exact ⟨_, k + 1, m, rfl, by omega, by first | (simp; done) | (simp; omega), by rw [HT.out]; exact hm, by omega, by rw [HT.out]; exact hrow, hb⟩
        case measure => simp [intOf]; omega
    · obtain rfl : k = n := by omega
      rw [List.take_of_length_le (by rw [HN.out]; exact Nat.le_refl _)] at hrow hm
      have HR : Hid (Own wr w.heap.size 2 (Value.int .i64) vo (bothL xs ys)) := own_ofI (by rw [← hm]; exact hrow) (by rw [← hm]; unfold maxLen; omega)
      clear hrow
      go_wp2
      go_ret
      exact ⟨⟨_, rfl, HR.out⟩, hb⟩

end Go.Proofs.YtddnfbpgldchcaaGreatDoor

namespace Go.Proofs.YtddnfbpgldchcaaGreatDoor

open Go.ChangeShapes Go.WideShapes Go.ChangeAt Go.RowKit Go.Deep Go.Joins

attribute [local go_sem] run_store_f

set_option maxRecDepth 100000 in
theorem size_sl (w : World) : (sizeOf 117).run Tryz.prog w = .ok 1 w := by kernel_rfl

set_option maxRecDepth 100000 in
theorem agg_sl (w : World) : (isAgg 117).run Tryz.prog w = .ok false w := by kernel_rfl

theorem part_sl (zs : Array Value) (i : Nat) (v : Value) (h : zs[i]? = some v) (w : World) : (part 117 zs i).run Tryz.prog w = .ok v w := by
  unfold part
  rw [Sem.run_bind, agg_sl]
  simp only [Result.andThen_ok, Bool.false_eq_true, if_false, h]
  rfl

theorem run_index_59 (zs : Array Value) (k : Nat) (hk : k < 24) (v : Value) (h : zs[k]? = some v) (w : World) : (Instr.index 118 (.agg zs) (.int .i64 (k : Int))).run Tryz.prog w = .ok v w := by
  have h0 : (0 : Int) ≤ (k : Int) ∧ (k : Int) < ((24 : Nat) : Int) := ⟨Int.natCast_nonneg _, by omega⟩
  unfold Instr.index
  simp only [asIntOf, Sem.run_bind, Sem.run_pure, Result.andThen_ok, run_underlying Tryz.underlying118, if_pos h0, size_sl, Int.toNat_natCast, Nat.mul_one]
  exact part_sl zs k v h w

/-- A list of numbers that does not lie in a block. -/
def IntsNe (W : World) (b : Nat) (v : Value) (zs : List Int) : Prop := IntsAt W v zs ∧ ∀ g o n c, v = .slice (some ⟨g, o, none⟩) n c → g ≠ b

theorem intsNe_below {W W' : World} {b : Nat} {v : Value} {zs : List Int} (h : IntsNe W b v zs) (hb : Below W.heap.size W W') : IntsNe W' b v zs := ⟨ints_below h.1 hb, h.2⟩

theorem intsNe_setCell {W : World} {b i : Nat} {v x : Value} {zs : List Int} (h : IntsNe W b v zs) : IntsNe (W.setCell ⟨b, i, none⟩ x) b v zs := by
  obtain ⟨⟨a, cap, rfl, h2, h3, h4⟩, h5⟩ := h
  refine ⟨⟨a, cap, rfl, h2, h3, fun k y hy => ?_⟩, h5⟩
  obtain ⟨g, o, e, hc⟩ := h4 k y hy
  refine ⟨g, o, e, ?_⟩
  rw [World.cell?_setCell_far _ _ _ _ (by subst e; exact Ne.symm (h5 g o _ _ rfl))]
  exact hc

theorem intsNe_own {W : World} {b B : Nat} {v : Value} {zs : List Int} (h : Own W B 2 (Value.int .i64) v zs) (hb : b < B) : IntsNe W b v zs := by
  refine ⟨own_intsF h, ?_⟩
  obtain ⟨a, cap, rfl, h2, h3, h4⟩ := h
  intro g o n c e
  injection e with e1 e2 e3
  rcases h4 with ⟨ea, _⟩ | ⟨g', cur, ea, hg, _, _⟩
  · rw [ea] at e1; cases e1
  · rw [ea] at e1
    injection e1 with e1
    injection e1 with e1 _ _
    omega

theorem intsNe_arg {w W : World} {b : Nat} {v : Value} {zs : List Int} (h : IntsAt w v zs) (hz : zs ≠ []) (hb : w.heap.size ≤ b) (hbw : Below w.heap.size w W) : IntsNe W b v zs := by
  refine ⟨ints_below h hbw, ?_⟩
  obtain ⟨a, cap, rfl, h2, h3, h4⟩ := h
  intro g o n c e
  injection e with e1 e2 e3
  obtain ⟨x, hx⟩ : ∃ x, zs[0]? = some x := ⟨_, List.getElem?_eq_getElem (List.length_pos_iff.2 hz)⟩
  obtain ⟨g', o', ea, hc⟩ := h4 0 x hx
  rw [ea] at e1
  injection e1 with e1
  injection e1 with e1 _ _
  have := World.block_lt_of_cell? w _ hc
  simp at this
  omega

theorem head_get {xs : List Int} (h : xs ≠ []) : xs[0]? = some (xs.headD 0) := by
  cases xs with
  | nil => exact absurd rfl h
  | cons x xs => rfl

theorem stF_short (T : Nat → List Int) (z : List Int) (hT : ∀ j, (T j).length ≤ 129) (hz : z.length ≤ 129) : ∀ k, k ≤ 24 → (stF T z k).shared.length ≤ 1000 := by
  have h : ∀ k, (stF T z k).shared.length ≤ 129 := by
    intro k
    induction k with
    | zero => exact hz
    | succ k ih =>
      rw [stF]
      unfold stepF
      split
      · exact hT k
      · exact Nat.le_trans (bothL_len _ _) ih
  exact fun k _ => Nat.le_trans (h k) (by decide)

set_option maxRecDepth 100000 in
set_option maxHeartbeats 8000000 in
theorem steadiest_any (zs : Array Value) (hs : zs.size = 24) (h1 : ∀ v ∈ zs, v.oneCell' = true) (T : Nat → List Int) (hT : ∀ j, j < 24 → T j ≠ []) (hb64 : ∀ j, j < 24 → ∀ x ∈ T j, -64 ≤ x ∧ x ≤ 64) (hlen : ∀ j, (T j).length ≤ 129) (w : World) (hv : ∀ j, j < 24 → ∃ v, zs[j]? = some v ∧ IntsAt w v (T j)) (p : List Int) (hp : ∀ k, k = 24 → (stF T [] k).plan = p) (hpl : p.length = 24) :
    Calls Tryz.prog 69 #[.agg zs] w fun e w' => e = .returned (.agg (i16s p)) ∧ Below w.heap.size w w' := by
  have HZS := Lib.hid hs
  have HON := Lib.hid h1
  have HT := Lib.hid hT
  have HB64 := Lib.hid hb64
  have HLEN := Lib.hid hlen
  have HVV := Lib.hid hv
  have HC := Lib.hid (fun v1 v2 xs ys hl w a b => common_any v1 v2 xs ys hl w a b)
  have HSB := Lib.hid (stF_mem T [] (fun x => -64 ≤ x ∧ x ≤ 64) hb64 (fun x hx => by cases hx))
  have HSL := Lib.hid (stF_len T [])
  have HSF := Lib.hid (stF_first T [])
  have HSLEN : Hid (∀ k, k ≤ 24 → (stF T [] k).shared.length ≤ 1000) := Lib.hid (stF_short T [] hlen (by decide))
  have HP := Lib.hid hp
  have HPL := Lib.hid hpl
  clear hs h1 hT hb64 hlen hv hp hpl
  go_enter Tryz.func69, Tryz.ntmps69
  go_upto_region 2 with (fail)
  refine abs_code (fun W => W.heap[w.heap.size]? = some (.cells zs 118 (0, 0)) ∧ W.heap[w.heap.size + 1]? = some (.cells (i16s (List.replicate 24 (0 : Int))) 52 (0, 0)) ∧ W.heap[w.heap.size + 1 + 1]? = some (.cells (i16s (List.replicate 24 (0 : Int))) 52 (0, 0)) ∧ Below w.heap.size w W) ⟨(three_new _ _ _ _).1, (three_new _ _ _ _).2.1, (three_new _ _ _ _).2.2.1, (three_new _ _ _ _).2.2.2⟩ ?_
  rintro W ⟨h0, h2, h3, hb⟩
  have n12 : w.heap.size + 1 < w.heap.size + 1 + 1 := by omega
  have hle2 : w.heap.size ≤ w.heap.size + 1 := by omega
  have hle3 : w.heap.size ≤ w.heap.size + 1 + 1 := by omega
  generalize w.heap.size + 1 + 1 = b3 at *
  generalize w.heap.size + 1 = b2 at *
  have H0 := Lib.hid h0
  have H2 := Lib.hid h2
  have H3 := Lib.hid h3
  have hb3l := row_lt h3
  clear h0 h2 h3
  go_upto_region 5 with (refine wpList_load_part rfl 118 _ rfl w.heap.size 0 24 rfl 118 (zs) (0, 0) _ H0.out Tryz.underlying118 rfl info_59 (by rw [HZS.out]; decide) (zs) (by rw [Nat.zero_add, ← HZS.out, Array.extract_size]) ?_)
  go_loopw [4, 5, 10] (fun f s i wr => ∃ k : Nat, k ≤ 24 ∧ i = .int .i64 (k : Int) ∧ f = .int .i64 ((stF T [] k).first : Int) ∧ IntsNe wr b3 s (stF T [] k).shared ∧ wr.heap[b2]? = some (.cells (i16s (List.replicate 24 (0 : Int))) 52 (0, 0)) ∧ wr.heap[b3]? = some (.cells (i16s (stF T [] k).plan) 52 (0, 0)) ∧ Below w.heap.size w wr ∧ W.heap.size ≤ wr.heap.size) (fun _ _ i _ => 24 - (intOf i).toNat)
  case atStart => exact ⟨0, Nat.zero_le _, rfl, rfl, ⟨⟨none, 0, rfl, Nat.le_refl _, by unfold maxLen; omega, fun i x hx => by simp [stF] at hx⟩, fun g o n c e => by cases e⟩, H2.out, H3.out, hb, Nat.le_refl _⟩
  case round =>
    clear H0 H2 H3 hb
    obtain ⟨k, hk, rfl, rfl, hsn, h2, h3, hb, hWs⟩ := hrel
    have HS := Lib.hid hsn
    have H2 := Lib.hid h2
    have H3 := Lib.hid h3
    clear hsn h2 h3
    by_cases hlt : k < 24
    · obtain ⟨v, hzv, hva⟩ := HVV.out k hlt
      have HZV := Lib.hid (fun w => run_index_59 zs k hlt v hzv w)
      have HV := Lib.hid (ints_below hva hb)
      have HVN := Lib.hid (intsNe_arg (b := b3) hva (HT.out k hlt) hle3 hb)
      have HLS := Lib.hid (HSLEN.out k hk)
      have HTK := Lib.hid (HT.out k hlt)
      have HXB : Hid (∀ x ∈ T k, -64 ≤ x ∧ x ≤ 64) := Lib.hid (HB64.out k hlt)
      have HXS := Lib.hid (HSB.out k hk)
      have hpl := HSL.out k
      have hfk := HSF.out k
      have HST : Hid (stF T [] (k + 1) = stepF (T k) k (stF T [] k)) := Lib.hid rfl
      have HLT := Lib.hid (HLEN.out k)
      generalize stF T [] k = s0 at *
      obtain ⟨f, sh, pl⟩ := s0
      dsimp only at *
      generalize T k = tk at *
      have z1 : (k : Int) < 24 := by omega
      have z2 : (0 : Int) ≤ (k : Int) := by omega
      have z3 : decide ((k : Int) < 24) = true := decide_eq_true z1
      obtain ⟨av, cv, rfl, hvl, hvc, -⟩ := id HV.out
      clear hzv hva
      have hidx := HZV.out
      go_upto_region 8 with (go_at_call 133; refine (HC.out _ _ _ _ HLS.out _ HS.out.1 HV.out).mono ?_; rintro e W1 ⟨⟨v1, rfl, hv1⟩, hb1⟩; have HB1 := Lib.hid hb1; have HV1 := Lib.hid hv1; clear hb1 hv1)
      have hbw1 := HB1.out.size
      have HVN1 := Lib.hid (intsNe_below HVN.out HB1.out)
      have HS1 := Lib.hid (intsNe_own HV1.out (by omega : b3 < wr.heap.size))
      have H2b := Lib.hid (below_row HB1.out H2.out)
      have H3b := Lib.hid (below_row HB1.out H3.out)
      have hbw := hb.trans (HB1.out.mono hb.size)
      have hlen1 := bothL_len sh tk
      obtain ⟨a1, c1, rfl, hc1, hl1, -⟩ := id HV1.out
      clear HVN HV HB1 H2 H3 hb HS HV1 HC HZV hidx
      by_cases hem : bothL sh tk = []
      · have HST2 : Hid (stF T [] (k + 1) = ⟨k, tk, fillP pl k k ((tk).headD 0)⟩) := Lib.hid (by rw [HST.out]; unfold stepF; rw [if_pos hem])

        have hg0 := head_get HTK.out
        have hxb := (HXB.out) _ (List.mem_of_getElem? hg0)
        have HG0 := Lib.hid hg0
        have hl0 : (bothL sh tk).length = 0 := by rw [hem]; rfl
        have hl0b : (((bothL sh tk).length : Int) == 0) = true := by rw [hl0]; rfl
        have hpos : (0 : Int) < ((tk).length : Int) := by have := List.length_pos_iff.2 HTK.out; omega
        clear hg0 hem hl0 HST
        generalize hxv : (tk).headD 0 = x0 at *
        have hwx : IntKind.i16.wrap x0 = x0 := by rw [IntWalk.i16_in _ (by omega)]
        clear hxv
        go_upto_region 11 with (fail)
        clear hl0b
        obtain ⟨wo, hwo⟩ : ∃ wo : World, wo = W1 := ⟨_, rfl⟩
        clear hwo
        go_loopw [8] (fun i wq => ∃ m : Nat, k ≤ m ∧ m ≤ k + 1 ∧ i = .int .i64 (m : Int) ∧ IntsNe wq b3 (.slice av (tk).length cv) (tk) ∧ wq.heap[b2]? = some (.cells (i16s (List.replicate 24 (0 : Int))) 52 (0, 0)) ∧ wq.heap[b3]? = some (.cells (i16s (fillTo pl k x0 m)) 52 (0, 0)) ∧ Below w.heap.size w wq ∧ W.heap.size ≤ wq.heap.size) (fun i _ => k + 1 - (intOf i).toNat)
        case atStart => exact ⟨k, Nat.le_refl _, by omega, rfl, HVN1.out, H2b.out, by rw [fillTo_start]; exact H3b.out, hbw, by omega⟩
        case round =>
          clear H2b H3b hbw HVN1
          obtain ⟨m, hfm, hmk, rfl, hsn, h2, h3, hbq, hWq⟩ := hrel
          have HQ := Lib.hid hsn
          have H2 := Lib.hid h2
          have H3 := Lib.hid h3
          clear hsn h2 h3
          by_cases hlm : m ≤ k
          · obtain ⟨g, o, esl, hcell⟩ := int_atF HQ.out.1 HG0.out
            subst esl
            rw [Nat.add_zero] at hcell
            have y1 : (m : Int) ≤ (k : Int) := by omega
            have y2 : (0 : Int) ≤ (m : Int) := by omega
            have y3 : (m : Int) < 24 := by omega
            have hfl := fillTo_len pl k x0 m
            have hd := cell_of_i16s H3.out m (by rw [hfl, hpl]; omega)
            have hf := frozen_of_row _ b3 m _ _ H3.out
            go_wp2
            go_roundw
            case rel => exact ⟨m + 1, by omega, by omega, by go_num, intsNe_setCell HQ.out, (heap_setCell_other _ _ _ _ (by simp; omega)).trans H2.out, by rw [heap_setCell_same _ _ _ _ _ _ H3.out, i16s_set, fillTo_step _ _ _ hfm (by rw [hpl]; omega)], hbq.setCell (p := ⟨b3, m, none⟩) hle3 _, by simp; omega⟩
            case measure => simp [intOf]; omega
          · obtain rfl : m = k + 1 := by omega
            rw [fillTo_end] at H3
            have y1 : ¬ ((k : Int) + 1 ≤ (k : Int)) := by omega
            go_wp2
            go_roundw
            case rel => exact ⟨k + 1, by omega, by first | (simp; done) | (simp; omega), by rw [HST2.out], by rw [HST2.out]; exact HQ.out, H2.out, by rw [HST2.out]; exact H3.out, hbq, hWq⟩
            case measure => simp [intOf]; omega
      · have HST2 : Hid (stF T [] (k + 1) = ⟨f, (bothL sh tk), fillP pl f k (((bothL sh tk)).headD 0)⟩) := Lib.hid (by rw [HST.out]; unfold stepF; rw [if_neg hem])
        have HNE := Lib.hid hem
        have hg0 := head_get HNE.out
        have hxb := ((fun x hx => HXS.out x (bothL_mem hx))) _ (List.mem_of_getElem? hg0)
        have HG0 := Lib.hid hg0
        have hl0 : ((bothL sh tk).length : Int) ≠ 0 := by have := List.length_pos_iff.2 hem; omega
        have hl0b : (((bothL sh tk).length : Int) == 0) = false := by simpa using hl0
        have hpos : (0 : Int) < (((bothL sh tk)).length : Int) := by have := List.length_pos_iff.2 HNE.out; omega
        clear hg0 hem hl0 HST
        generalize hxv : ((bothL sh tk)).headD 0 = x0 at *
        have hwx : IntKind.i16.wrap x0 = x0 := by rw [IntWalk.i16_in _ (by omega)]
        clear hxv
        go_upto_region 11 with (fail)
        clear hl0b
        obtain ⟨wo, hwo⟩ : ∃ wo : World, wo = W1 := ⟨_, rfl⟩
        clear hwo
        go_loopw [8] (fun i wq => ∃ m : Nat, f ≤ m ∧ m ≤ k + 1 ∧ i = .int .i64 (m : Int) ∧ IntsNe wq b3 (.slice a1 ((bothL sh tk)).length c1) ((bothL sh tk)) ∧ wq.heap[b2]? = some (.cells (i16s (List.replicate 24 (0 : Int))) 52 (0, 0)) ∧ wq.heap[b3]? = some (.cells (i16s (fillTo pl f x0 m)) 52 (0, 0)) ∧ Below w.heap.size w wq ∧ W.heap.size ≤ wq.heap.size) (fun i _ => k + 1 - (intOf i).toNat)
        case atStart => exact ⟨f, Nat.le_refl _, by omega, rfl, HS1.out, H2b.out, by rw [fillTo_start]; exact H3b.out, hbw, by omega⟩
        case round =>
          clear H2b H3b hbw HS1
          obtain ⟨m, hfm, hmk, rfl, hsn, h2, h3, hbq, hWq⟩ := hrel
          have HQ := Lib.hid hsn
          have H2 := Lib.hid h2
          have H3 := Lib.hid h3
          clear hsn h2 h3
          by_cases hlm : m ≤ k
          · obtain ⟨g, o, esl, hcell⟩ := int_atF HQ.out.1 HG0.out
            subst esl
            rw [Nat.add_zero] at hcell
            have y1 : (m : Int) ≤ (k : Int) := by omega
            have y2 : (0 : Int) ≤ (m : Int) := by omega
            have y3 : (m : Int) < 24 := by omega
            have hfl := fillTo_len pl f x0 m
            have hd := cell_of_i16s H3.out m (by rw [hfl, hpl]; omega)
            have hf := frozen_of_row _ b3 m _ _ H3.out
            go_wp2
            go_roundw
            case rel => exact ⟨m + 1, by omega, by omega, by go_num, intsNe_setCell HQ.out, (heap_setCell_other _ _ _ _ (by simp; omega)).trans H2.out, by rw [heap_setCell_same _ _ _ _ _ _ H3.out, i16s_set, fillTo_step _ _ _ hfm (by rw [hpl]; omega)], hbq.setCell (p := ⟨b3, m, none⟩) hle3 _, by simp; omega⟩
            case measure => simp [intOf]; omega
          · obtain rfl : m = k + 1 := by omega
            rw [fillTo_end] at H3
            have y1 : ¬ ((k : Int) + 1 ≤ (k : Int)) := by omega
            go_wp2
            go_roundw
            case rel => exact ⟨k + 1, by omega, by first | (simp; done) | (simp; omega), by rw [HST2.out], by rw [HST2.out]; exact HQ.out, H2.out, by rw [HST2.out]; exact H3.out, hbq, hWq⟩
            case measure => simp [intOf]; omega
    · have e24 : k = 24 := by omega
      rw [HP.out k e24] at H3
      clear HS HSB HSL HSF HSLEN HP HVV HT HB64 HLEN HC
      generalize stF T [] k = s0 at *
      have z1 : ¬ (k : Int) < 24 := by omega
      have z3 : decide ((k : Int) < 24) = false := decide_eq_false z1
      clear e24 hlt hk
      go_wp2_with (first | (refine wpList_load_part rfl 52 _ rfl b3 0 24 rfl 52 (i16s p) (0, 0) _ H3.out Tryz.underlying52 rfl info_plan (by rw [i16s_size, HPL.out]; decide) (i16s p) (i16s_all _ 24 HPL.out) ?_) | (refine wpList_store_part rfl 52 _ _ rfl b2 0 (i16s p) rfl rfl 52 (i16s (List.replicate 24 (0 : Int))) H2.out (by rw [i16s_size, HPL.out]; exact info_plan) (by rw [i16s_size, i16s_size, HPL.out]; decide) (i16s_one _) ?_; rw [laid_all _ _ (by rw [i16s_size, i16s_size, HPL.out]; rfl)]))
      exact bodyPost_ret (v := .agg (i16s p)) (results_cell_row rfl _ _ _ _ _ _ _ rfl (setRow_heap _ _ _ _ _ _ H2.out) Tryz.underlying52 rfl (by rw [i16s_size, HPL.out]; exact info_plan)) rfl ⟨rfl, below_setRow hb hle2 _⟩

end Go.Proofs.YtddnfbpgldchcaaGreatDoor

namespace Go.Proofs.YtddnfbpgldchcaaGreatDoor

open Go.ChangeShapes Go.WideShapes Go.ChangeAt Go.RowKit Go.Deep Go.Joins

attribute [local go_sem] run_store_f

/-- The plan of no tilt. -/
def zP : List Int := [0, 0, 0, 0, 0, 0, 0, 0, 0, 0, 0, 0, 0, 0, 0, 0, 0, 0, 0, 0, 0, 0, 0, 0]

theorem zP_ok : okP zP = true := by decide

theorem zP_len : zP.length = 24 := rfl

theorem zP_b : ∀ x ∈ zP, -32768 ≤ x ∧ x ≤ 32767 := by decide

theorem zP_one : ∀ v ∈ i16s zP, v.oneCell' = true := by
  intro v hv
  simp only [i16s, zP, List.map_cons, List.map_nil, List.mem_toArray, List.mem_cons, List.not_mem_nil, or_false] at hv
  rcases hv with rfl | rfl | rfl | rfl | rfl | rfl | rfl | rfl | rfl | rfl | rfl | rfl | rfl | rfl | rfl | rfl | rfl | rfl | rfl | rfl | rfl | rfl | rfl | rfl <;> rfl

theorem zbel (W : World) (o : Obj) (cs : Array Value) : Below W.heap.size W ((W.alloc o).setRow W.heap.size cs) := below_setRow ((Below.refl _ _).alloc (Nat.le_refl _) _) (Nat.le_refl _) _

end Go.Proofs.YtddnfbpgldchcaaGreatDoor

namespace Go.Proofs.YtddnfbpgldchcaaGreatDoor

open Go.RowKit Go.Shelf

attribute [local go_sem] Oper.semAt_some

set_option maxRecDepth 100000 in
set_option maxHeartbeats 1000000 in
theorem eachHour_next (F : Fence) (n : Nat) (hF : F.fn 131) (hro : F.round = none) (hn : 1 ≤ n) (l n₀ : Nat) (J : Nat → World → Prop)
    (hY : ∀ (k : Nat) (W : World), k < 24 → J k W → YieldAt F (n - 1) Tryz.prog l #[.int .i64 (k : Int)] W fun e W' => e = .returned (.bool true) ∧ J (k + 1) W' ∧ Below n₀ W W')
    (W : World) (h0 : J 0 W) :
    CallsIn F n Tryz.prog 131 #[.func (.yield l) #[] #[]] W fun e W' => (∃ v, e = .returned v) ∧ J 24 W' := by
  refine callsIn_of_wp Tryz.func131 rfl hF ?_ hro
  simp only [Tryz.ntmps131, List.size_toArray, List.length_cons, List.length_nil, Nat.reduceAdd, Nat.reduceSub, Array.replicate_succ, Array.replicate_zero, List.push_toArray, List.append_toArray, List.nil_append, List.cons_append]
  gi_wp2
  gi_loopw [3] (fun i wr => ∃ k : Nat, k ≤ 24 ∧ i = .int .i64 k ∧ J k wr ∧ Below n₀ W wr) (fun i _ => 24 - (intOf i).toNat)
  case atStart => exact ⟨0, Nat.zero_le _, rfl, h0, Below.refl _ _⟩
  case round =>
    obtain ⟨k, hk, rfl, hJs, hnx⟩ := hrel
    by_cases hlt : k < 24
    · obtain ⟨fn, tmps, assign, body, hy, hR⟩ := hY k wr hlt hJs
      gi_wp2
      refine hR.mono ?_
      rintro e W3 ⟨rfl, hJ3, hk3⟩
      gi_wp2
      go_roundw
      case rel => exact ⟨k + 1, by omega, by simp, hJ3, hnx.trans hk3⟩
      case measure => simp [intOf]; omega
    · obtain rfl : k = 24 := by omega
      gi_wp2
      go_end0
      exact ⟨⟨_, rfl⟩, hJs⟩

theorem wpIn_hours_next {F : Fence} {n : Nat} {g : Operand} {ps : Array Tmp} {assign body : Code} {Q : Exit → Act → World → Prop} {a : Act} {w : World} (hro : F.round = none) (h1 : 1 ≤ n) (h2 : 1 ≤ n - 1)
    (hg : a.eval g = .func (.func 131) #[] #[]) (hFg : F.fn 131) (eg : ∀ args w, (callFunc 131 args).run Tryz.prog w = .ok (.enter 131 args) w)
    (n₀ : Nat) (hn0 : n₀ ≤ w.heap.size) (hps : ps.size = 1) (I : Nat → World → Prop) (hI : OwnFrom w.heap.size I) (h0 : I 0 w) (a₁ : Nat → Act)
    (hassign : ∀ (l k : Nat) (W : World) (K : Act → World → Prop), K (a₁ k) W →
      assign.wpIn (F.inRound l) (n - 1 - 1) Tryz.prog (Exit.then K (fun _ _ _ => False)) { tmps := (ps.zip #[Value.int .i64 (k : Int)]).foldl (fun t (p, v) => t.setIfInBounds p v) a.tmps, defers := [] } W)
    (hbody : ∀ (l k : Nat) (W : World), k < 24 → I k W → body.wpIn (F.inRound l) (n - 1 - 1) Tryz.prog (ownPostK (Below n₀) (fun (xs : List Nat) V => I (xs.headD 0) V) (fun _ _ _ => False) [k + 1] W) (a₁ k) W)
    (hdone : ∀ (D : Nat) (W : World), w.heap.size ≤ D → I 24 W → W.heap[D]? = some (.deferred (some [])) → Q .normal { a with defers := { target := .collected D, args := #[] } :: a.defers } W) :
    (Code.rangeFunc g ps assign body).wpIn F n Tryz.prog Q a w := by
  refine wpIn_rangeFunc ?_
  intro fn hfn
  rw [hro]
  obtain ⟨rc, hrc⟩ : ∃ rc : LoopState → Loop, rc = fun st => { state := st, pending := none, fn, tmps := a.tmps, params := ps, assign, body, defers := w.heap.size } := ⟨_, rfl⟩
  obtain ⟨W1, hW1⟩ : ∃ W1, (w.alloc (.deferred (some []))).alloc (.loop (rc .ready)) = W1 := ⟨_, rfl⟩
  have hI1 : I 0 W1 := by rw [← hW1]; exact hI.alloc _ (hI.alloc _ h0)
  have hL1 : W1.heap[w.heap.size + 1]? = some (.loop (rc .ready)) := by
    rw [← hW1]; have := World.alloc_heap_new (w.alloc (.deferred (some []))) (.loop (rc .ready)); rwa [World.size_alloc] at this
  have hK1 : W1.heap[w.heap.size]? = some (.deferred (some [])) := by
    rw [← hW1]; exact (Below.heap_alloc _ _ _ (by simp)).trans (World.alloc_heap_new w _)
  refine ⟨w.heap.size + 1, [{ target := .collected w.heap.size, args := #[] }], W1, { target := .fn (.func 131) #[], args := #[.func (.yield (w.heap.size + 1)) #[] #[]] }, W1, 131,
    #[.func (.yield (w.heap.size + 1)) #[] #[]], W1, ?_, ?_, ?_, ?_, fun _ => h1, ?_⟩
  · rw [← hW1, hrc]; exact run_enterLoop_outer _ _ _ _ _
  · simp only [resolve, hg]
    simp [go_sem]
  · intro f' hf'; simp [Target.leads] at hf'; subst hf'; exact hFg
  · simp [invoke, go_sem, eg]
  · refine (eachHour_next F (n - 1) hFg hro h2 (w.heap.size + 1) n₀ (fun k W => I k W ∧ W.heap[w.heap.size + 1]? = some (.loop (rc .ready)) ∧ W.heap[w.heap.size]? = some (.deferred (some []))) ?_ W1 ⟨hI1, hL1, hK1⟩).mono ?_
    · rintro k W hk ⟨hi, hl, hd⟩
      have hlt : w.heap.size + 1 < W.heap.size := (Array.getElem?_eq_some_iff.1 hl).1
      have hy := run_yield (P := Tryz.prog) (args := #[Value.int .i64 (k : Int)]) hl (by rw [hrc]; exact hps.symm)
      rw [hrc] at hy
      refine ⟨fn, _, assign, body, hy, roundIn_of_wpIn hfn (hassign _ k W _ ⟨_, run_beginRound hl (by rw [hrc]), ?_⟩)⟩
      have hl2 : (W.putObj (w.heap.size + 1) (.loop { rc .ready with state := .busy })).heap[w.heap.size + 1]? = some (.loop { rc .ready with state := .busy }) := World.putObj_heap_same hlt
      have hd2 : (W.putObj (w.heap.size + 1) (.loop { rc .ready with state := .busy })).heap[w.heap.size]? = some (.deferred (some [])) := (World.putObj_heap_other (by omega)).trans hd
      have hw2 : Below n₀ W (W.putObj (w.heap.size + 1) (.loop { rc .ready with state := .busy })) := belowK_b hn0 _ _ _ _ (by omega) hl rfl rfl
      refine wpIn_mono (hbody _ k _ hk (hI.putObj _ hi (by omega) hl rfl)) ?_
      rintro e a3 W3 hp
      cases e with
      | normal =>
        obtain ⟨hk3, hkp3, hi3⟩ := hp
        have hl3 := hk3.same _ _ hl2 rfl
        have hr := run_endRound (P := Tryz.prog) none hl3
        rw [hrc] at hr hl3
        refine ⟨_, _, hr, rfl, ⟨hI.putObj _ hi3 (by omega) hl3 rfl, ?_, (World.putObj_heap_other (by omega)).trans (hk3.same _ _ hd2 rfl)⟩, (hw2.trans hkp3).trans (belowK_b hn0 _ _ _ _ (by omega) hl3 rfl rfl)⟩
        rw [hrc]; exact World.putObj_heap_same (Array.getElem?_eq_some_iff.1 hl3).1
      | ret => exact hp.2.elim
      | exit id => exact hp.2.elim
      | goto t => exact hp.2.elim
      | panic ch => exact hp.elim
      | outgrown => exact hp.elim
    · rintro e W2 ⟨⟨v, rfl⟩, hi, hl, hd⟩
      exact ⟨none, _, by have := run_endLoop (P := Tryz.prog) hl (by rw [hrc]; simp); rw [hrc] at this; exact this, hdone _ _ (Nat.le_refl _) (hI.putObj _ hi (by omega) hl rfl) ((World.putObj_heap_other (by omega)).trans hd)⟩

end Go.Proofs.YtddnfbpgldchcaaGreatDoor

namespace Go.Proofs.YtddnfbpgldchcaaGreatDoor

open Go.ChangeShapes Go.WideShapes Go.ChangeAt Go.RowKit Go.Shelf

attribute [local go_sem] Oper.semAt_some run_store_f

theorem two_newR (w : World) (a b : Obj) : ((w.alloc a).alloc b).heap[w.heap.size]? = some a ∧ ((w.alloc a).alloc b).heap[w.heap.size + 1]? = some b ∧ Below w.heap.size w ((w.alloc a).alloc b) := by
  have hb : Below w.heap.size w (w.alloc a) := (Below.refl _ _).alloc (Nat.le_refl _) _
  refine ⟨below_row ((Below.refl (w.alloc a).heap.size _).alloc (Nat.le_refl _) b) (heap_alloc_new w a), ?_, hb.alloc hb.size _⟩
  have := heap_alloc_new (w.alloc a) b
  rwa [World.size_alloc] at this

/-- Whether an hour begins a run. -/
def isRun (ps : List Int) (k : Nat) : Bool := k == 0 || ps[k]?.getD 0 != ps[k - 1]?.getD 0

/-- How many runs begin before an hour. -/
def cntR (ps : List Int) : Nat → Nat
  | 0 => 0
  | k + 1 => cntR ps k + (if isRun ps k then 1 else 0)

theorem cntR_le (ps : List Int) : ∀ k, cntR ps k ≤ k
  | 0 => Nat.le_refl _
  | k + 1 => by
    have := cntR_le ps k
    unfold cntR
    split <;> omega

theorem cntR_pos (ps : List Int) : ∀ k, 0 < k → 0 < cntR ps k
  | 0, h => absurd h (Nat.lt_irrefl _)
  | 1, _ => by simp [cntR, isRun]
  | k + 2, _ => by
    have := cntR_pos ps (k + 1) (by omega)
    rw [cntR]
    omega

def AllW (xs : List Value) : Prop := ∀ x ∈ xs, ∃ a : Int, x = .int .i16 a

/-- What the walk keeps. -/
def RunI (w : World) (ps : List Int) (b3 : Nat) (c : Nat) (W : World) : Prop :=
  W.heap[w.heap.size]? = some (.cells (i16s ps) 52 (0, 0)) ∧ (∃ v xs, Boxed W b3 200 v ∧ W.ownsRow w.heap.size 227 2 v c xs ∧ AllW xs) ∧ Below w.heap.size w W

theorem runI_own (w : World) (ps : List Int) (b3 : Nat) (B : Nat) (hB : w.heap.size ≤ B) : OwnFrom B (fun k W => RunI w ps b3 (cntR ps k) W) := by
  intro s W W' row ⟨h0, ⟨v, xs, hv, hr0, hx⟩, hb⟩ hg' hr
  have hr2 := fun r e => (hr r e).2
  refine ⟨heap_kept h0 hg' hr2, ⟨v, xs, heap_kept hv hg' hr2, hr0.kept hg' ?_, hx⟩, ownFrom_below (β := Unit) (Nat.le_refl _) hB () W W' row hb hg' hr⟩
  rcases hr0.2 with ⟨rfl, _⟩ | ⟨g, cap, cur, rfl, _, hgb, _⟩
  · exact .inl rfl
  · right
    intro e
    obtain ⟨o, ho, hc⟩ := hr2 g e.symm
    rw [hgb] at ho
    cases ho
    cases hc

/-- The first cell of the last run. -/
theorem run_last {W : World} {base c : Nat} {v : Value} {xs : List Value} (h : W.ownsRow base 227 2 v c xs) (hx : AllW xs) (hc : 0 < c) :
    ∃ g cap cur a, v = .slice (some ⟨g, 0, none⟩) c cap ∧ base ≤ g ∧ c ≤ cap ∧ cap ≤ maxLen ∧ W.heap[g]? = some (.cells cur 227 (0, 0)) ∧ cur[(c - 1) * 2]? = some (.int .i16 a) ∧
      ∀ n : Int, ∃ ys, (W.setCell ⟨g, (c - 1) * 2, none⟩ (.int .i16 n)).ownsRow base 227 2 v c ys ∧ AllW ys := by
  rcases h.2 with ⟨_, h0⟩ | ⟨g, cap, cur, rfl, hbg, hg, hnc, hcm, hsz, htk⟩
  · omega
  have hlt : (c - 1) * 2 < xs.length := by rw [h.1]; omega
  have e1 : cur.toList[(c - 1) * 2]? = xs[(c - 1) * 2]? := by rw [← htk, List.getElem?_take_of_lt (by omega)]
  obtain ⟨a, ha⟩ := hx _ (List.getElem_mem hlt)
  have e2 : cur[(c - 1) * 2]? = some (.int .i16 a) := by rw [← Array.getElem?_toList, e1, List.getElem?_eq_getElem hlt, ha]
  refine ⟨g, cap, cur, a, rfl, hbg, hnc, hcm, hg, e2, fun n => ⟨xs.set ((c - 1) * 2) (.int .i16 n), ⟨by rw [List.length_set]; exact h.1, .inr ⟨g, cap, cur.setIfInBounds ((c - 1) * 2) (.int .i16 n), rfl, hbg, ?_, hnc, hcm, by rw [Array.size_setIfInBounds]; exact hsz, ?_⟩⟩, ?_⟩⟩
  · rw [heap_setCell_same _ _ _ _ _ _ hg]
  · rw [Array.toList_setIfInBounds, List.take_set, htk]
  · intro x hxm
    rcases List.mem_or_eq_of_mem_set hxm with h1 | rfl
    · exact hx x h1
    · exact ⟨n, rfl⟩

theorem i64_smallR (n : Int) (h0 : -100000 ≤ n) (h1 : n ≤ 100000) : IntKind.i64.wrap n = n := by
  simp [IntKind.wrap, IntKind.signed, IntKind.bits]
  omega

theorem keeps_of_belowR {W W1 : World} (hb : Below W.heap.size W W1) : KeepsOthers W W1 := ⟨hb.size, fun b _ ho _ => (hb.block b (Array.getElem?_eq_some_iff.1 ho).1).trans ho⟩

theorem cell_two_new (w : World) (x y : Value) (t : TypeId) : ∀ j u, [x, y][j]? = some u → (w.alloc (.cells #[x, y] t)).cell? ((⟨w.heap.size, 0, none⟩ : Addr).add j) = some u := by
  intro j u hj
  match j, hj with
  | 0, hj =>
    simp at hj
    subst hj
    rw [show ((⟨w.heap.size, 0, none⟩ : Addr).add 0) = ⟨w.heap.size, 0, none⟩ by simp [Addr.add], cell_of_row _ _ _ _ _ _ (heap_alloc_new _ _)]
    rfl
  | 1, hj =>
    simp at hj
    subst hj
    rw [show ((⟨w.heap.size, 0, none⟩ : Addr).add 1) = ⟨w.heap.size, 1, none⟩ by simp [Addr.add], cell_of_row _ _ _ _ _ _ (heap_alloc_new _ _)]
    rfl
  | j + 2, hj => simp at hj

theorem not_rowR {W : World} {g : Nat} {cs : Array Value} {t e : TypeId} {fr : Nat × Nat} (h : W.heap[g]? = some (.cells cs t fr)) (hte : t ≠ e) {base size k : Nat} {v : Value} {xs : List Value} (hr : W.ownsRow base e size v k xs) : some g ≠ v.ownBlock := by
  rcases hr.2 with ⟨rfl, _⟩ | ⟨g', cap, cur, rfl, _, hgb, _⟩
  · simp [Value.ownBlock]
  · intro e'
    obtain rfl : g = g' := by simpa [Value.ownBlock] using e'
    rw [h] at hgb
    injection hgb with e1
    injection e1 with _ e2 _
    exact hte e2

theorem kept_appendR {W w1 : World} {g base k size : Nat} {cs : Array Value} {t e : TypeId} {fr : Nat × Nat} {v : Value} {xs : List Value} {tmp : Obj} (h : W.heap[g]? = some (.cells cs t fr)) (hte : t ≠ e) (hr : W.ownsRow base e size v k xs)
    (hg : (W.alloc tmp).grownBy w1 v.ownBlock) : w1.heap[g]? = some (.cells cs t fr) := by
  have h1 : (W.alloc tmp).heap[g]? = some (.cells cs t fr) := below_row ((Below.refl W.heap.size W).alloc (Nat.le_refl _) _) h
  exact (hg.block g (row_lt h1) (not_rowR h hte hr)).trans h1

theorem infoR : (Tryz.prog.info? 227).map (fun i => (i.zero, i.size, i.bytes)) = some (some (.agg #[.int .i16 0, .int .i16 0]), 2, 4) := by kernel_rfl

set_option maxRecDepth 100000 in
set_option maxHeartbeats 4000000 in
theorem runs_any (ps : List Int) (hp : ps.length = 24) (w : World) :
    Calls Tryz.prog 134 #[.agg (i16s ps)] w fun e w' => (∃ a cap, e = .returned (.slice a (cntR ps 24) cap)) ∧ Below w.heap.size w w' := by
  refine (callsIn_wide (n := 4)).1 ?_
  obtain ⟨i0, hi, hz0, hz1, hz2⟩ := info_parts infoR
  have Hp := Lib.hid hp
  clear hp
  refine callsIn_of_wp_marks Tryz.func134 rfl trivial ?_ rfl
  simp only [Tryz.ntmps134, List.size_toArray, List.length_cons, List.length_nil, Nat.reduceAdd, Nat.reduceSub, Array.replicate_succ, Array.replicate_zero, List.push_toArray, List.append_toArray, List.nil_append, List.cons_append]
  refine wpIn_wide.2 ?_
  go_upto_region 2 with (fail)
  refine abs_world (fun W => W.heap[w.heap.size]? = some (.cells (i16s ps) 52 (0, 0)) ∧ W.heap[w.heap.size + 1]? = some (.cells #[.slice none 0 0] 200 (0, 0)) ∧ Below w.heap.size w W) ⟨(two_newR _ _ _).1, (two_newR _ _ _).2.1, (two_newR _ _ _).2.2⟩ ?_
  rintro W0 ⟨r0, r1, hb⟩
  have n01 : w.heap.size < w.heap.size + 1 := by omega
  generalize w.heap.size + 1 = b3 at *
  have hle : w.heap.size ≤ W0.heap.size := hb.size
  have R0 := Lib.hid r0
  have R1 := Lib.hid r1
  have HB := Lib.hid hb
  clear r0 r1 hb
  go_wp2
  refine (wpIn_wide (n := 4)).1 ?_
  refine wpIn_hours_next rfl (by decide) (by decide) rfl trivial (enters_of Tryz.func131 (by kernel_rfl) rfl) w.heap.size hle rfl
    (fun k W => RunI w ps b3 (cntR ps k) W) (runI_own w ps b3 _ hle) ?h0
    (fun k => { tmps := #[.agg (i16s ps), .pointer (some ⟨w.heap.size, 0, none⟩), .slice none 0 0, .pointer (some ⟨b3, 0, none⟩), .int .i64 (k : Int), .int .i64 (k : Int), undef, undef, undef, undef, undef, undef, undef, undef, undef, undef, undef, undef, undef, undef, undef, undef, undef, undef, undef, undef, undef, undef, undef, undef, undef, undef, undef, undef, undef, undef], defers := [] }) ?assign ?body ?done
  case h0 => exact ⟨R0.out, ⟨.slice none 0 0, [], R1.out, ⟨rfl, .inl ⟨rfl, rfl⟩⟩, fun x hx => by cases hx⟩, HB.out⟩
  case assign =>
    intro l k W K hK
    gi_wp2
    exact hK
  case body =>
    rintro l k W hk ⟨h0, ⟨v, xs, hv, hrow, hx⟩, hbw⟩
    have H0 := Lib.hid h0
    have HV := Lib.hid hv
    have HR := Lib.hid hrow
    have HX := Lib.hid hx
    have HBW := Lib.hid hbw
    have hwW := hbw.size
    have hcl := cntR_le ps k
    obtain ⟨tl, hE⟩ : ∃ tl, ps[k]?.getD 0 = tl := ⟨_, rfl⟩
    have EX := Lib.hid hE
    have z0 : (0 : Int) ≤ (k : Int) := by omega
    have z1 : (k : Int) < 24 := by omega
    clear h0 hv hrow hx hbw
    have HC1 : Hid (cntR ps (k + 1) = cntR ps k + (if isRun ps k then 1 else 0)) := rfl
    by_cases hk0 : k = 0
    · have HI : Hid (cntR ps (k + 1) = cntR ps k + 1) := by rw [hk0]; unfold Hid; rfl
      have zb : ((k : Int) == 0) = true := by rw [hk0]; rfl
      clear hE hk0
      gi_wp2
      refine region_round (S := (fun V => V.heap[w.heap.size]? = some (.cells (i16s ps) 52 (0, 0)))) arrU (no_defer (by rfl)) (fun ⟨_, _, h⟩ => h) H0.out (fun hHeld => ?_)
      refine take_at (i := 0) (d := 6) (v := ?_) rfl rfl (by kernel_rfl) (by kernel_rfl) (by kernel_rfl) (fun _ _ _ h => h) (Or.inl ⟨by rfl, ?hy0u1⟩) hHeld ?rest0u1
      case hy0u1 =>
        intro w' hS'
        go_simp
        try with_reducible rfl
      simp only [List.setIfInBounds_toArray, List.set_cons_zero, List.set_cons_succ]
      refine take_at (i := 1) (d := 7) (v := ?_) rfl rfl (by kernel_rfl) (by kernel_rfl) (by kernel_rfl) (fun _ _ _ h => h) (Or.inl ⟨by rfl, ?hy1u2⟩) hHeld ?rest1u2
      case hy1u2 =>
        intro w' hS'
        go_simp
        try with_reducible rfl
      simp only [List.setIfInBounds_toArray, List.set_cons_zero, List.set_cons_succ]
      refine take_at (i := 2) (d := 8) (v := ?_) rfl rfl (by kernel_rfl) (by kernel_rfl) (by kernel_rfl) (fun _ _ _ h => h) (Or.inl ⟨by rfl, ?hy2u3⟩) hHeld ?rest2u3
      case hy2u3 =>
        intro w' hS'
        go_simp
        try with_reducible rfl
      simp only [List.setIfInBounds_toArray, List.set_cons_zero, List.set_cons_succ]
      refine take_at (i := 3) (d := 9) rfl rfl (by kernel_rfl) (by kernel_rfl) (by kernel_rfl) (fun _ _ _ h => h) (Or.inr ⟨by rfl, rfl⟩) hHeld ?_
      simp only [List.setIfInBounds_toArray, List.set_cons_zero, List.set_cons_succ]
      refine take_at (i := 4) (d := 10) rfl rfl (by kernel_rfl) (by kernel_rfl) (by kernel_rfl) (fun _ _ _ h => h) (Or.inr ⟨by rfl, rfl⟩) hHeld ?_
      simp only [List.setIfInBounds_toArray, List.set_cons_zero, List.set_cons_succ]
      refine take_at (i := 5) (d := 11) rfl rfl (by kernel_rfl) (by kernel_rfl) (by kernel_rfl) (fun _ _ _ h => h) (Or.inr ⟨by rfl, rfl⟩) hHeld ?_
      simp only [List.setIfInBounds_toArray, List.set_cons_zero, List.set_cons_succ]
      refine take_at (i := 6) (d := 12) rfl rfl (by kernel_rfl) (by kernel_rfl) (by kernel_rfl) (fun _ _ _ h => h) (Or.inr ⟨by rfl, rfl⟩) hHeld ?_
      simp only [List.setIfInBounds_toArray, List.set_cons_zero, List.set_cons_succ]
      refine take_at (i := 7) (d := 13) rfl rfl (by kernel_rfl) (by kernel_rfl) (by kernel_rfl) (fun _ _ _ h => h) (Or.inr ⟨by rfl, rfl⟩) hHeld ?_
      simp only [List.setIfInBounds_toArray, List.set_cons_zero, List.set_cons_succ]
      refine take_at (i := 8) (d := 14) rfl rfl (by kernel_rfl) (by kernel_rfl) (by kernel_rfl) (fun _ _ _ h => h) (Or.inr ⟨by rfl, rfl⟩) hHeld ?_
      simp only [List.setIfInBounds_toArray, List.set_cons_zero, List.set_cons_succ]
      refine take_at (i := 9) (d := 15) rfl rfl (by kernel_rfl) (by kernel_rfl) (by kernel_rfl) (fun _ _ _ h => h) (Or.inr ⟨by rfl, rfl⟩) hHeld ?_
      simp only [List.setIfInBounds_toArray, List.set_cons_zero, List.set_cons_succ]
      refine take_at (i := 10) (d := 16) rfl rfl (by kernel_rfl) (by kernel_rfl) (by kernel_rfl) (fun _ _ _ h => h) (Or.inr ⟨by rfl, rfl⟩) hHeld ?_
      simp only [List.setIfInBounds_toArray, List.set_cons_zero, List.set_cons_succ]
      refine take_at (i := 11) (d := 17) (v := ?_) rfl rfl (by kernel_rfl) (by kernel_rfl) (by kernel_rfl) (fun _ _ _ h => h) (Or.inl ⟨by rfl, ?hy11u4⟩) hHeld ?rest11u4
      case hy11u4 =>
        intro w' hS'
        go_simp
        try with_reducible rfl
      simp only [List.setIfInBounds_toArray, List.set_cons_zero, List.set_cons_succ]
      refine wpAnyH_done (by kernel_rfl) ?_ _
      clear hHeld
      gi_wp2
      refine region_round (S := (fun V => V.heap[w.heap.size]? = some (.cells (i16s ps) 52 (0, 0)))) arrU (no_defer (by rfl)) (fun ⟨_, _, h⟩ => h) H0.out (fun hHeld => ?_)
      obtain ⟨V, hV⟩ : ∃ V, V = W.drew.drew := ⟨_, rfl⟩
      rw [← hV] at hHeld ⊢
      have hp2 : V.heap[w.heap.size]? = some (.cells (i16s ps) 52 (0, 0)) := hHeld
      have hv2 : Boxed V b3 200 v := by rw [hV]; exact HV.out
      have hr2 : V.ownsRow w.heap.size 227 2 v (cntR ps k) xs := by rw [hV]; exact HR.out
      have hB2 : Below W.heap.size W V := by rw [hV]; exact (Below.refl _ _).drew.drew
      have hk2 : KeepsOthers W V := keeps_of_belowR hB2
      have hsz : w.heap.size ≤ V.heap.size := Nat.le_trans hwW hB2.size
      clear hV
      refine take_at (i := 1) (d := 19) (v := ?_) rfl rfl (by kernel_rfl) (by kernel_rfl) (by kernel_rfl) (fun _ _ _ h => h) (Or.inl ⟨by rfl, ?hy1u5⟩) hHeld ?rest1u5
      case hy1u5 =>
        intro w' hS'
        go_simp
        try with_reducible rfl
      simp only [List.setIfInBounds_toArray, List.set_cons_zero, List.set_cons_succ]
      refine take_at (i := 2) (d := 20) (v := ?_) rfl rfl (by kernel_rfl) (by kernel_rfl) (by kernel_rfl) (fun _ _ _ h => h) (Or.inl ⟨by rfl, ?hy2u6⟩) hHeld ?rest2u6
      case hy2u6 =>
        intro w' hS'
        go_simp
        try with_reducible rfl
      simp only [List.setIfInBounds_toArray, List.set_cons_zero, List.set_cons_succ]
      refine take_at (i := 3) (d := 21) (v := ?_) rfl rfl (by kernel_rfl) (by kernel_rfl) (by kernel_rfl) (fun _ _ _ h => h) (Or.inl ⟨by rfl, ?hy3u7⟩) hHeld ?rest3u7
      case hy3u7 =>
        intro w' hS'
        have q := cell_of_i16s hS' k (by rw [Hp.out]; exact hk)
        rw [EX.out] at q
        go_simp
        try with_reducible rfl
      simp only [List.setIfInBounds_toArray, List.set_cons_zero, List.set_cons_succ]
      refine take_at (i := 4) (d := 22) (v := ?_) rfl rfl (by kernel_rfl) (by kernel_rfl) (by kernel_rfl) (fun _ _ _ h => h) (Or.inl ⟨by rfl, ?hy4u8⟩) hHeld ?rest4u8
      case hy4u8 =>
        intro w' hS'
        go_simp
        try with_reducible rfl
      simp only [List.setIfInBounds_toArray, List.set_cons_zero, List.set_cons_succ]
      refine wpAnyH_ready (rs := [0, 5]) (by kernel_rfl) (by simp) ?_
      refine AllReadyH.cons rfl (fun K hK => ?_) (AllReadyH.cons rfl (fun K hK => ?_) AllReadyH.nil)
      · have c0 := hv2.cell
        go_simp
        refine hK.out _ _ hp2 (fun _ => ?_)
        clear hK K c0
        refine wpAnyH_ready (rs := [5]) (by kernel_rfl) (by simp) ?_
        refine AllReadyH.cons rfl (fun K hK => ?_) AllReadyH.nil
        go_simp
        refine hK.out _ _ (below_row ((Below.refl V.heap.size V).alloc (Nat.le_refl _) _) hp2) (fun _ => ?_)
        clear hK K
        refine wpAnyH_ready (rs := [6]) (by kernel_rfl) (by simp) ?_
        refine AllReadyH.cons rfl (fun K hK => ?_) AllReadyH.nil
        show Oper.wp _ _ _ _ _ _
        refine wp_append_own _ (.tmp 18) (.tmp 23) 200 rfl w.heap.size 227 i0 (.agg #[.int .i16 0, .int .i16 0]) 2 4 Tryz.underlying200 hi hz0 hz1 hz2 rfl (by decide) v _ xs rfl (hr2.alloc _) ⟨V.heap.size, 0, none⟩ 1 1 [.int .i16 0, .int .i16 tl] rfl rfl (cell_two_new _ _ _ _) (by intro u hu; simp at hu; rcases hu with rfl | rfl <;> rfl) (by unfold maxLen; omega) (by omega) (by simp; omega) ?_
        intro v' w1 hown hgrow hnil
        obtain ⟨g', cap', rfl⟩ := ownsRow_succ hown
        obtain ⟨hv1, hvY, hrY, hk3, hb3⟩ := hv2.appended (by decide) hr2 hsz (by omega) hown hgrow
        have hc1 := hv1.cell
        have hf1 := hv1.frozen
        have hp1 := kept_appendR hp2 (by decide) hr2 hgrow
        refine hK.out _ _ hp1 (fun _ => ?_)
        clear hK K
        refine wpAnyH_ready (rs := [7]) (by kernel_rfl) (by simp) ?_
        refine AllReadyH.cons rfl (fun K hK => ?_) AllReadyH.nil
        go_simp
        refine hK.out _ _ ((heap_setCell_other _ _ _ _ (by simp; omega)).trans hp1) (fun _ => ?_)
        clear hK K
        refine wpAnyH_done (by kernel_rfl) ?_ _
        have hpY := (heap_setCell_other w1 ⟨b3, 0, none⟩ _ (.slice (some ⟨g', 0, none⟩) (cntR ps k + 1) cap') (by simp; omega)).trans hp1
        generalize w1.setCell ⟨b3, 0, none⟩ (.slice (some ⟨g', 0, none⟩) (cntR ps k + 1) cap') = Y at *
        have hxY : AllW (xs ++ [.int .i16 0, .int .i16 tl]) := by
          intro x hx
          rcases List.mem_append.1 hx with h | h
          · exact HX.out x h
          · simp at h
            rcases h with rfl | rfl
            · exact ⟨0, rfl⟩
            · exact ⟨tl, rfl⟩
        have hkY := hk2.trans hk3
        have hbY := (hB2.mono hwW).trans hb3
        clear hk2 hk3 hb3 hv1 hc1 hf1 hp1 hv2 hr2 hp2 hown hgrow hnil
        have hm1 : 0 < cntR ps k + 1 := by omega
        have hm2 : cntR ps k + 1 ≤ 24 := by omega
        have HM : Hid (cntR ps (k + 1) = cntR ps k + 1) := HI
        clear HI HC1
        generalize cntR ps k + 1 = m at *
        obtain ⟨g, cap, cur, a, e, hbg, hnc, hcm, hcur, hca, hset⟩ := run_last hrY hxY hm1
        injection e with e1 e2 e3
        injection e1 with e1
        injection e1 with e1
        have e5 := e1.symm
        have e6 := e3.symm
        subst e5 e6
        have qb : Y.cell? ⟨b3, 0, none⟩ = some (.slice (some ⟨g, 0, none⟩) m cap) := by rw [cell_of_row _ _ _ _ _ _ hvY]; rfl
        have qg : Y.cell? ⟨g, (m - 1) * 2, none⟩ = some (.int .i16 a) := by rw [cell_of_row _ _ _ _ _ _ hcur]; exact hca
        have fg := frozen_of_row Y g ((m - 1) * 2) _ _ hcur
        have ng : w.heap.size ≠ g := by
          intro e
          rw [← e, hpY] at hcur
          cases hcur
        have nb : b3 ≠ g := by
          intro e
          rw [← e] at hcur
          have := hvY.symm.trans hcur
          cases this
        have hw1 : IntKind.i64.wrap ((m : Int) - 1) = ((m - 1 : Nat) : Int) := by rw [i64_smallR _ (by omega) (by omega)]; omega
        have y0 : (0 : Int) ≤ ((m - 1 : Nat) : Int) := by omega
        have y1 : ((m - 1 : Nat) : Int) < (m : Int) := by omega
        unfold maxLen at hcm
        have HP := Lib.hid hpY
        have HVY := Lib.hid hvY
        have HSET := Lib.hid hset
        have HKY := Lib.hid hkY
        have HBY := Lib.hid hbY
        clear hrY hxY hcur hca hpY hvY hset hkY hbY
        gi_wp2
        obtain ⟨ys, hy1, hy2⟩ := HSET.out (IntKind.i16.wrap (a + 1))
        refine ⟨HKY.out.trans (KeepsOthers.setCell _ _ _), HBY.out.setCell (p := ⟨g, (m - 1) * 2, none⟩) hbg _, (heap_setCell_other _ _ _ _ ng).trans HP.out, ⟨_, ys, (heap_setCell_other _ _ _ _ nb).trans HVY.out, by show World.ownsRow _ _ _ _ _ (cntR ps (k + 1)) _; rw [HM.out]; exact hy1, hy2⟩, (HBW.out.trans (HBY.out.mono (Nat.le_refl _))).setCell (p := ⟨g, (m - 1) * 2, none⟩) hbg _⟩
      · go_simp
        refine hK.out _ _ (below_row ((Below.refl V.heap.size V).alloc (Nat.le_refl _) _) hp2) (fun _ => ?_)
        clear hK K
        refine wpAnyH_ready (rs := [0]) (by kernel_rfl) (by simp) ?_
        refine AllReadyH.cons rfl (fun K hK => ?_) AllReadyH.nil
        have c0 := (hv2.alloc (.cells #[.int .i16 0, .int .i16 tl] 227)).cell
        go_simp
        refine hK.out _ _ (below_row ((Below.refl V.heap.size V).alloc (Nat.le_refl _) _) hp2) (fun _ => ?_)
        clear hK K c0
        refine wpAnyH_ready (rs := [6]) (by kernel_rfl) (by simp) ?_
        refine AllReadyH.cons rfl (fun K hK => ?_) AllReadyH.nil
        show Oper.wp _ _ _ _ _ _
        refine wp_append_own _ (.tmp 18) (.tmp 23) 200 rfl w.heap.size 227 i0 (.agg #[.int .i16 0, .int .i16 0]) 2 4 Tryz.underlying200 hi hz0 hz1 hz2 rfl (by decide) v _ xs rfl (hr2.alloc _) ⟨V.heap.size, 0, none⟩ 1 1 [.int .i16 0, .int .i16 tl] rfl rfl (cell_two_new _ _ _ _) (by intro u hu; simp at hu; rcases hu with rfl | rfl <;> rfl) (by unfold maxLen; omega) (by omega) (by simp; omega) ?_
        intro v' w1 hown hgrow hnil
        obtain ⟨g', cap', rfl⟩ := ownsRow_succ hown
        obtain ⟨hv1, hvY, hrY, hk3, hb3⟩ := hv2.appended (by decide) hr2 hsz (by omega) hown hgrow
        have hc1 := hv1.cell
        have hf1 := hv1.frozen
        have hp1 := kept_appendR hp2 (by decide) hr2 hgrow
        refine hK.out _ _ hp1 (fun _ => ?_)
        clear hK K
        refine wpAnyH_ready (rs := [7]) (by kernel_rfl) (by simp) ?_
        refine AllReadyH.cons rfl (fun K hK => ?_) AllReadyH.nil
        go_simp
        refine hK.out _ _ ((heap_setCell_other _ _ _ _ (by simp; omega)).trans hp1) (fun _ => ?_)
        clear hK K
        refine wpAnyH_done (by kernel_rfl) ?_ _
        have hpY := (heap_setCell_other w1 ⟨b3, 0, none⟩ _ (.slice (some ⟨g', 0, none⟩) (cntR ps k + 1) cap') (by simp; omega)).trans hp1
        generalize w1.setCell ⟨b3, 0, none⟩ (.slice (some ⟨g', 0, none⟩) (cntR ps k + 1) cap') = Y at *
        have hxY : AllW (xs ++ [.int .i16 0, .int .i16 tl]) := by
          intro x hx
          rcases List.mem_append.1 hx with h | h
          · exact HX.out x h
          · simp at h
            rcases h with rfl | rfl
            · exact ⟨0, rfl⟩
            · exact ⟨tl, rfl⟩
        have hkY := hk2.trans hk3
        have hbY := (hB2.mono hwW).trans hb3
        clear hk2 hk3 hb3 hv1 hc1 hf1 hp1 hv2 hr2 hp2 hown hgrow hnil
        have hm1 : 0 < cntR ps k + 1 := by omega
        have hm2 : cntR ps k + 1 ≤ 24 := by omega
        have HM : Hid (cntR ps (k + 1) = cntR ps k + 1) := HI
        clear HI HC1
        generalize cntR ps k + 1 = m at *
        obtain ⟨g, cap, cur, a, e, hbg, hnc, hcm, hcur, hca, hset⟩ := run_last hrY hxY hm1
        injection e with e1 e2 e3
        injection e1 with e1
        injection e1 with e1
        have e5 := e1.symm
        have e6 := e3.symm
        subst e5 e6
        have qb : Y.cell? ⟨b3, 0, none⟩ = some (.slice (some ⟨g, 0, none⟩) m cap) := by rw [cell_of_row _ _ _ _ _ _ hvY]; rfl
        have qg : Y.cell? ⟨g, (m - 1) * 2, none⟩ = some (.int .i16 a) := by rw [cell_of_row _ _ _ _ _ _ hcur]; exact hca
        have fg := frozen_of_row Y g ((m - 1) * 2) _ _ hcur
        have ng : w.heap.size ≠ g := by
          intro e
          rw [← e, hpY] at hcur
          cases hcur
        have nb : b3 ≠ g := by
          intro e
          rw [← e] at hcur
          have := hvY.symm.trans hcur
          cases this
        have hw1 : IntKind.i64.wrap ((m : Int) - 1) = ((m - 1 : Nat) : Int) := by rw [i64_smallR _ (by omega) (by omega)]; omega
        have y0 : (0 : Int) ≤ ((m - 1 : Nat) : Int) := by omega
        have y1 : ((m - 1 : Nat) : Int) < (m : Int) := by omega
        unfold maxLen at hcm
        have HP := Lib.hid hpY
        have HVY := Lib.hid hvY
        have HSET := Lib.hid hset
        have HKY := Lib.hid hkY
        have HBY := Lib.hid hbY
        clear hrY hxY hcur hca hpY hvY hset hkY hbY
        gi_wp2
        obtain ⟨ys, hy1, hy2⟩ := HSET.out (IntKind.i16.wrap (a + 1))
        refine ⟨HKY.out.trans (KeepsOthers.setCell _ _ _), HBY.out.setCell (p := ⟨g, (m - 1) * 2, none⟩) hbg _, (heap_setCell_other _ _ _ _ ng).trans HP.out, ⟨_, ys, (heap_setCell_other _ _ _ _ nb).trans HVY.out, by show World.ownsRow _ _ _ _ _ (cntR ps (k + 1)) _; rw [HM.out]; exact hy1, hy2⟩, (HBW.out.trans (HBY.out.mono (Nat.le_refl _))).setCell (p := ⟨g, (m - 1) * 2, none⟩) hbg _⟩
    · have zb : ((k : Int) == 0) = false := by rw [beq_eq_false_iff_ne]; omega
      have hw2 : IntKind.i64.wrap ((k : Int) - 1) = ((k - 1 : Nat) : Int) := by rw [i64_smallR _ (by omega) (by omega)]; omega
      have x0 : (0 : Int) ≤ ((k - 1 : Nat) : Int) := by omega
      have x1 : ((k - 1 : Nat) : Int) < 24 := by omega
      obtain ⟨tm, hF⟩ : ∃ tm, ps[k - 1]?.getD 0 = tm := ⟨_, rfl⟩
      have EY := Lib.hid hF
      have hir : isRun ps k = (tl != tm) := by
        unfold isRun
        rw [hE, hF, show (k == 0) = false from beq_eq_false_iff_ne.2 hk0, Bool.false_or]
      cases hnt : (tl != tm) with
      | true =>
        have HI : Hid (cntR ps (k + 1) = cntR ps k + 1) := by rw [HC1.out, hir, hnt]; rfl
        clear hE hF hir
        gi_wp2
        refine region_round (S := (fun V => V.heap[w.heap.size]? = some (.cells (i16s ps) 52 (0, 0)))) arrU (no_defer (by rfl)) (fun ⟨_, _, h⟩ => h) H0.out (fun hHeld => ?_)
        refine take_at (i := 0) (d := 6) (v := ?_) rfl rfl (by kernel_rfl) (by kernel_rfl) (by kernel_rfl) (fun _ _ _ h => h) (Or.inl ⟨by rfl, ?hy0u9⟩) hHeld ?rest0u9
        case hy0u9 =>
          intro w' hS'
          go_simp
          try with_reducible rfl
        simp only [List.setIfInBounds_toArray, List.set_cons_zero, List.set_cons_succ]
        refine take_at (i := 1) (d := 7) (v := ?_) rfl rfl (by kernel_rfl) (by kernel_rfl) (by kernel_rfl) (fun _ _ _ h => h) (Or.inl ⟨by rfl, ?hy1u10⟩) hHeld ?rest1u10
        case hy1u10 =>
          intro w' hS'
          go_simp
          try with_reducible rfl
        simp only [List.setIfInBounds_toArray, List.set_cons_zero, List.set_cons_succ]
        refine take_at (i := 2) (d := 8) (v := ?_) rfl rfl (by kernel_rfl) (by kernel_rfl) (by kernel_rfl) (fun _ _ _ h => h) (Or.inl ⟨by rfl, ?hy2u11⟩) hHeld ?rest2u11
        case hy2u11 =>
          intro w' hS'
          go_simp
          try with_reducible rfl
        simp only [List.setIfInBounds_toArray, List.set_cons_zero, List.set_cons_succ]
        refine take_at (i := 3) (d := 9) (v := ?_) rfl rfl (by kernel_rfl) (by kernel_rfl) (by kernel_rfl) (fun _ _ _ h => h) (Or.inl ⟨by rfl, ?hy3u12⟩) hHeld ?rest3u12
        case hy3u12 =>
          intro w' hS'
          go_simp
          try with_reducible rfl
        simp only [List.setIfInBounds_toArray, List.set_cons_zero, List.set_cons_succ]
        refine take_at (i := 4) (d := 10) (v := ?_) rfl rfl (by kernel_rfl) (by kernel_rfl) (by kernel_rfl) (fun _ _ _ h => h) (Or.inl ⟨by rfl, ?hy4u13⟩) hHeld ?rest4u13
        case hy4u13 =>
          intro w' hS'
          go_simp
          try with_reducible rfl
        simp only [List.setIfInBounds_toArray, List.set_cons_zero, List.set_cons_succ]
        refine take_at (i := 5) (d := 11) (v := ?_) rfl rfl (by kernel_rfl) (by kernel_rfl) (by kernel_rfl) (fun _ _ _ h => h) (Or.inl ⟨by rfl, ?hy5u14⟩) hHeld ?rest5u14
        case hy5u14 =>
          intro w' hS'
          have q := cell_of_i16s hS' k (by rw [Hp.out]; exact hk)
          rw [EX.out] at q
          go_simp
          try with_reducible rfl
        simp only [List.setIfInBounds_toArray, List.set_cons_zero, List.set_cons_succ]
        refine take_at (i := 6) (d := 12) (v := ?_) rfl rfl (by kernel_rfl) (by kernel_rfl) (by kernel_rfl) (fun _ _ _ h => h) (Or.inl ⟨by rfl, ?hy6u15⟩) hHeld ?rest6u15
        case hy6u15 =>
          intro w' hS'
          go_simp
          try with_reducible rfl
        simp only [List.setIfInBounds_toArray, List.set_cons_zero, List.set_cons_succ]
        refine take_at (i := 7) (d := 13) (v := ?_) rfl rfl (by kernel_rfl) (by kernel_rfl) (by kernel_rfl) (fun _ _ _ h => h) (Or.inl ⟨by rfl, ?hy7u16⟩) hHeld ?rest7u16
        case hy7u16 =>
          intro w' hS'
          go_simp
          try with_reducible rfl
        simp only [List.setIfInBounds_toArray, List.set_cons_zero, List.set_cons_succ]
        refine take_at (i := 8) (d := 14) (v := ?_) rfl rfl (by kernel_rfl) (by kernel_rfl) (by kernel_rfl) (fun _ _ _ h => h) (Or.inl ⟨by rfl, ?hy8u17⟩) hHeld ?rest8u17
        case hy8u17 =>
          intro w' hS'
          go_simp
          try with_reducible rfl
        simp only [List.setIfInBounds_toArray, List.set_cons_zero, List.set_cons_succ]
        refine take_at (i := 9) (d := 15) (v := ?_) rfl rfl (by kernel_rfl) (by kernel_rfl) (by kernel_rfl) (fun _ _ _ h => h) (Or.inl ⟨by rfl, ?hy9u18⟩) hHeld ?rest9u18
        case hy9u18 =>
          intro w' hS'
          have q := cell_of_i16s hS' (k - 1) (by rw [Hp.out]; omega)
          rw [EY.out] at q
          go_simp
          try with_reducible rfl
        simp only [List.setIfInBounds_toArray, List.set_cons_zero, List.set_cons_succ]
        refine take_at (i := 10) (d := 16) (v := ?_) rfl rfl (by kernel_rfl) (by kernel_rfl) (by kernel_rfl) (fun _ _ _ h => h) (Or.inl ⟨by rfl, ?hy10u19⟩) hHeld ?rest10u19
        case hy10u19 =>
          intro w' hS'
          go_simp
          try with_reducible rfl
        simp only [List.setIfInBounds_toArray, List.set_cons_zero, List.set_cons_succ]
        refine take_at (i := 11) (d := 17) (v := ?_) rfl rfl (by kernel_rfl) (by kernel_rfl) (by kernel_rfl) (fun _ _ _ h => h) (Or.inl ⟨by rfl, ?hy11u20⟩) hHeld ?rest11u20
        case hy11u20 =>
          intro w' hS'
          go_simp
          try with_reducible rfl
        simp only [List.setIfInBounds_toArray, List.set_cons_zero, List.set_cons_succ]
        refine wpAnyH_done (by kernel_rfl) ?_ _
        clear hHeld
        gi_wp2
        refine region_round (S := (fun V => V.heap[w.heap.size]? = some (.cells (i16s ps) 52 (0, 0)))) arrU (no_defer (by rfl)) (fun ⟨_, _, h⟩ => h) H0.out (fun hHeld => ?_)
        obtain ⟨V, hV⟩ : ∃ V, V = W.drew.drew := ⟨_, rfl⟩
        rw [← hV] at hHeld ⊢
        have hp2 : V.heap[w.heap.size]? = some (.cells (i16s ps) 52 (0, 0)) := hHeld
        have hv2 : Boxed V b3 200 v := by rw [hV]; exact HV.out
        have hr2 : V.ownsRow w.heap.size 227 2 v (cntR ps k) xs := by rw [hV]; exact HR.out
        have hB2 : Below W.heap.size W V := by rw [hV]; exact (Below.refl _ _).drew.drew
        have hk2 : KeepsOthers W V := keeps_of_belowR hB2
        have hsz : w.heap.size ≤ V.heap.size := Nat.le_trans hwW hB2.size
        clear hV
        refine take_at (i := 1) (d := 19) (v := ?_) rfl rfl (by kernel_rfl) (by kernel_rfl) (by kernel_rfl) (fun _ _ _ h => h) (Or.inl ⟨by rfl, ?hy1u21⟩) hHeld ?rest1u21
        case hy1u21 =>
          intro w' hS'
          go_simp
          try with_reducible rfl
        simp only [List.setIfInBounds_toArray, List.set_cons_zero, List.set_cons_succ]
        refine take_at (i := 2) (d := 20) (v := ?_) rfl rfl (by kernel_rfl) (by kernel_rfl) (by kernel_rfl) (fun _ _ _ h => h) (Or.inl ⟨by rfl, ?hy2u22⟩) hHeld ?rest2u22
        case hy2u22 =>
          intro w' hS'
          go_simp
          try with_reducible rfl
        simp only [List.setIfInBounds_toArray, List.set_cons_zero, List.set_cons_succ]
        refine take_at (i := 3) (d := 21) (v := ?_) rfl rfl (by kernel_rfl) (by kernel_rfl) (by kernel_rfl) (fun _ _ _ h => h) (Or.inl ⟨by rfl, ?hy3u23⟩) hHeld ?rest3u23
        case hy3u23 =>
          intro w' hS'
          have q := cell_of_i16s hS' k (by rw [Hp.out]; exact hk)
          rw [EX.out] at q
          go_simp
          try with_reducible rfl
        simp only [List.setIfInBounds_toArray, List.set_cons_zero, List.set_cons_succ]
        refine take_at (i := 4) (d := 22) (v := ?_) rfl rfl (by kernel_rfl) (by kernel_rfl) (by kernel_rfl) (fun _ _ _ h => h) (Or.inl ⟨by rfl, ?hy4u24⟩) hHeld ?rest4u24
        case hy4u24 =>
          intro w' hS'
          go_simp
          try with_reducible rfl
        simp only [List.setIfInBounds_toArray, List.set_cons_zero, List.set_cons_succ]
        refine wpAnyH_ready (rs := [0, 5]) (by kernel_rfl) (by simp) ?_
        refine AllReadyH.cons rfl (fun K hK => ?_) (AllReadyH.cons rfl (fun K hK => ?_) AllReadyH.nil)
        · have c0 := hv2.cell
          go_simp
          refine hK.out _ _ hp2 (fun _ => ?_)
          clear hK K c0
          refine wpAnyH_ready (rs := [5]) (by kernel_rfl) (by simp) ?_
          refine AllReadyH.cons rfl (fun K hK => ?_) AllReadyH.nil
          go_simp
          refine hK.out _ _ (below_row ((Below.refl V.heap.size V).alloc (Nat.le_refl _) _) hp2) (fun _ => ?_)
          clear hK K
          refine wpAnyH_ready (rs := [6]) (by kernel_rfl) (by simp) ?_
          refine AllReadyH.cons rfl (fun K hK => ?_) AllReadyH.nil
          show Oper.wp _ _ _ _ _ _
          refine wp_append_own _ (.tmp 18) (.tmp 23) 200 rfl w.heap.size 227 i0 (.agg #[.int .i16 0, .int .i16 0]) 2 4 Tryz.underlying200 hi hz0 hz1 hz2 rfl (by decide) v _ xs rfl (hr2.alloc _) ⟨V.heap.size, 0, none⟩ 1 1 [.int .i16 0, .int .i16 tl] rfl rfl (cell_two_new _ _ _ _) (by intro u hu; simp at hu; rcases hu with rfl | rfl <;> rfl) (by unfold maxLen; omega) (by omega) (by simp; omega) ?_
          intro v' w1 hown hgrow hnil
          obtain ⟨g', cap', rfl⟩ := ownsRow_succ hown
          obtain ⟨hv1, hvY, hrY, hk3, hb3⟩ := hv2.appended (by decide) hr2 hsz (by omega) hown hgrow
          have hc1 := hv1.cell
          have hf1 := hv1.frozen
          have hp1 := kept_appendR hp2 (by decide) hr2 hgrow
          refine hK.out _ _ hp1 (fun _ => ?_)
          clear hK K
          refine wpAnyH_ready (rs := [7]) (by kernel_rfl) (by simp) ?_
          refine AllReadyH.cons rfl (fun K hK => ?_) AllReadyH.nil
          go_simp
          refine hK.out _ _ ((heap_setCell_other _ _ _ _ (by simp; omega)).trans hp1) (fun _ => ?_)
          clear hK K
          refine wpAnyH_done (by kernel_rfl) ?_ _
          have hpY := (heap_setCell_other w1 ⟨b3, 0, none⟩ _ (.slice (some ⟨g', 0, none⟩) (cntR ps k + 1) cap') (by simp; omega)).trans hp1
          generalize w1.setCell ⟨b3, 0, none⟩ (.slice (some ⟨g', 0, none⟩) (cntR ps k + 1) cap') = Y at *
          have hxY : AllW (xs ++ [.int .i16 0, .int .i16 tl]) := by
            intro x hx
            rcases List.mem_append.1 hx with h | h
            · exact HX.out x h
            · simp at h
              rcases h with rfl | rfl
              · exact ⟨0, rfl⟩
              · exact ⟨tl, rfl⟩
          have hkY := hk2.trans hk3
          have hbY := (hB2.mono hwW).trans hb3
          clear hk2 hk3 hb3 hv1 hc1 hf1 hp1 hv2 hr2 hp2 hown hgrow hnil
          have hm1 : 0 < cntR ps k + 1 := by omega
          have hm2 : cntR ps k + 1 ≤ 24 := by omega
          have HM : Hid (cntR ps (k + 1) = cntR ps k + 1) := HI
          clear HI HC1
          generalize cntR ps k + 1 = m at *
          obtain ⟨g, cap, cur, a, e, hbg, hnc, hcm, hcur, hca, hset⟩ := run_last hrY hxY hm1
          injection e with e1 e2 e3
          injection e1 with e1
          injection e1 with e1
          have e5 := e1.symm
          have e6 := e3.symm
          subst e5 e6
          have qb : Y.cell? ⟨b3, 0, none⟩ = some (.slice (some ⟨g, 0, none⟩) m cap) := by rw [cell_of_row _ _ _ _ _ _ hvY]; rfl
          have qg : Y.cell? ⟨g, (m - 1) * 2, none⟩ = some (.int .i16 a) := by rw [cell_of_row _ _ _ _ _ _ hcur]; exact hca
          have fg := frozen_of_row Y g ((m - 1) * 2) _ _ hcur
          have ng : w.heap.size ≠ g := by
            intro e
            rw [← e, hpY] at hcur
            cases hcur
          have nb : b3 ≠ g := by
            intro e
            rw [← e] at hcur
            have := hvY.symm.trans hcur
            cases this
          have hw1 : IntKind.i64.wrap ((m : Int) - 1) = ((m - 1 : Nat) : Int) := by rw [i64_smallR _ (by omega) (by omega)]; omega
          have y0 : (0 : Int) ≤ ((m - 1 : Nat) : Int) := by omega
          have y1 : ((m - 1 : Nat) : Int) < (m : Int) := by omega
          unfold maxLen at hcm
          have HP := Lib.hid hpY
          have HVY := Lib.hid hvY
          have HSET := Lib.hid hset
          have HKY := Lib.hid hkY
          have HBY := Lib.hid hbY
          clear hrY hxY hcur hca hpY hvY hset hkY hbY
          gi_wp2
          obtain ⟨ys, hy1, hy2⟩ := HSET.out (IntKind.i16.wrap (a + 1))
          refine ⟨HKY.out.trans (KeepsOthers.setCell _ _ _), HBY.out.setCell (p := ⟨g, (m - 1) * 2, none⟩) hbg _, (heap_setCell_other _ _ _ _ ng).trans HP.out, ⟨_, ys, (heap_setCell_other _ _ _ _ nb).trans HVY.out, by show World.ownsRow _ _ _ _ _ (cntR ps (k + 1)) _; rw [HM.out]; exact hy1, hy2⟩, (HBW.out.trans (HBY.out.mono (Nat.le_refl _))).setCell (p := ⟨g, (m - 1) * 2, none⟩) hbg _⟩
        · go_simp
          refine hK.out _ _ (below_row ((Below.refl V.heap.size V).alloc (Nat.le_refl _) _) hp2) (fun _ => ?_)
          clear hK K
          refine wpAnyH_ready (rs := [0]) (by kernel_rfl) (by simp) ?_
          refine AllReadyH.cons rfl (fun K hK => ?_) AllReadyH.nil
          have c0 := (hv2.alloc (.cells #[.int .i16 0, .int .i16 tl] 227)).cell
          go_simp
          refine hK.out _ _ (below_row ((Below.refl V.heap.size V).alloc (Nat.le_refl _) _) hp2) (fun _ => ?_)
          clear hK K c0
          refine wpAnyH_ready (rs := [6]) (by kernel_rfl) (by simp) ?_
          refine AllReadyH.cons rfl (fun K hK => ?_) AllReadyH.nil
          show Oper.wp _ _ _ _ _ _
          refine wp_append_own _ (.tmp 18) (.tmp 23) 200 rfl w.heap.size 227 i0 (.agg #[.int .i16 0, .int .i16 0]) 2 4 Tryz.underlying200 hi hz0 hz1 hz2 rfl (by decide) v _ xs rfl (hr2.alloc _) ⟨V.heap.size, 0, none⟩ 1 1 [.int .i16 0, .int .i16 tl] rfl rfl (cell_two_new _ _ _ _) (by intro u hu; simp at hu; rcases hu with rfl | rfl <;> rfl) (by unfold maxLen; omega) (by omega) (by simp; omega) ?_
          intro v' w1 hown hgrow hnil
          obtain ⟨g', cap', rfl⟩ := ownsRow_succ hown
          obtain ⟨hv1, hvY, hrY, hk3, hb3⟩ := hv2.appended (by decide) hr2 hsz (by omega) hown hgrow
          have hc1 := hv1.cell
          have hf1 := hv1.frozen
          have hp1 := kept_appendR hp2 (by decide) hr2 hgrow
          refine hK.out _ _ hp1 (fun _ => ?_)
          clear hK K
          refine wpAnyH_ready (rs := [7]) (by kernel_rfl) (by simp) ?_
          refine AllReadyH.cons rfl (fun K hK => ?_) AllReadyH.nil
          go_simp
          refine hK.out _ _ ((heap_setCell_other _ _ _ _ (by simp; omega)).trans hp1) (fun _ => ?_)
          clear hK K
          refine wpAnyH_done (by kernel_rfl) ?_ _
          have hpY := (heap_setCell_other w1 ⟨b3, 0, none⟩ _ (.slice (some ⟨g', 0, none⟩) (cntR ps k + 1) cap') (by simp; omega)).trans hp1
          generalize w1.setCell ⟨b3, 0, none⟩ (.slice (some ⟨g', 0, none⟩) (cntR ps k + 1) cap') = Y at *
          have hxY : AllW (xs ++ [.int .i16 0, .int .i16 tl]) := by
            intro x hx
            rcases List.mem_append.1 hx with h | h
            · exact HX.out x h
            · simp at h
              rcases h with rfl | rfl
              · exact ⟨0, rfl⟩
              · exact ⟨tl, rfl⟩
          have hkY := hk2.trans hk3
          have hbY := (hB2.mono hwW).trans hb3
          clear hk2 hk3 hb3 hv1 hc1 hf1 hp1 hv2 hr2 hp2 hown hgrow hnil
          have hm1 : 0 < cntR ps k + 1 := by omega
          have hm2 : cntR ps k + 1 ≤ 24 := by omega
          have HM : Hid (cntR ps (k + 1) = cntR ps k + 1) := HI
          clear HI HC1
          generalize cntR ps k + 1 = m at *
          obtain ⟨g, cap, cur, a, e, hbg, hnc, hcm, hcur, hca, hset⟩ := run_last hrY hxY hm1
          injection e with e1 e2 e3
          injection e1 with e1
          injection e1 with e1
          have e5 := e1.symm
          have e6 := e3.symm
          subst e5 e6
          have qb : Y.cell? ⟨b3, 0, none⟩ = some (.slice (some ⟨g, 0, none⟩) m cap) := by rw [cell_of_row _ _ _ _ _ _ hvY]; rfl
          have qg : Y.cell? ⟨g, (m - 1) * 2, none⟩ = some (.int .i16 a) := by rw [cell_of_row _ _ _ _ _ _ hcur]; exact hca
          have fg := frozen_of_row Y g ((m - 1) * 2) _ _ hcur
          have ng : w.heap.size ≠ g := by
            intro e
            rw [← e, hpY] at hcur
            cases hcur
          have nb : b3 ≠ g := by
            intro e
            rw [← e] at hcur
            have := hvY.symm.trans hcur
            cases this
          have hw1 : IntKind.i64.wrap ((m : Int) - 1) = ((m - 1 : Nat) : Int) := by rw [i64_smallR _ (by omega) (by omega)]; omega
          have y0 : (0 : Int) ≤ ((m - 1 : Nat) : Int) := by omega
          have y1 : ((m - 1 : Nat) : Int) < (m : Int) := by omega
          unfold maxLen at hcm
          have HP := Lib.hid hpY
          have HVY := Lib.hid hvY
          have HSET := Lib.hid hset
          have HKY := Lib.hid hkY
          have HBY := Lib.hid hbY
          clear hrY hxY hcur hca hpY hvY hset hkY hbY
          gi_wp2
          obtain ⟨ys, hy1, hy2⟩ := HSET.out (IntKind.i16.wrap (a + 1))
          refine ⟨HKY.out.trans (KeepsOthers.setCell _ _ _), HBY.out.setCell (p := ⟨g, (m - 1) * 2, none⟩) hbg _, (heap_setCell_other _ _ _ _ ng).trans HP.out, ⟨_, ys, (heap_setCell_other _ _ _ _ nb).trans HVY.out, by show World.ownsRow _ _ _ _ _ (cntR ps (k + 1)) _; rw [HM.out]; exact hy1, hy2⟩, (HBW.out.trans (HBY.out.mono (Nat.le_refl _))).setCell (p := ⟨g, (m - 1) * 2, none⟩) hbg _⟩
      | false =>
        have HI : Hid (cntR ps (k + 1) = cntR ps k) := by rw [HC1.out, hir, hnt]; rfl
        clear hE hF hir
        gi_wp2
        refine region_round (S := (fun V => V.heap[w.heap.size]? = some (.cells (i16s ps) 52 (0, 0)))) arrU (no_defer (by rfl)) (fun ⟨_, _, h⟩ => h) H0.out (fun hHeld => ?_)
        refine take_at (i := 0) (d := 6) (v := ?_) rfl rfl (by kernel_rfl) (by kernel_rfl) (by kernel_rfl) (fun _ _ _ h => h) (Or.inl ⟨by rfl, ?hy0u25⟩) hHeld ?rest0u25
        case hy0u25 =>
          intro w' hS'
          go_simp
          try with_reducible rfl
        simp only [List.setIfInBounds_toArray, List.set_cons_zero, List.set_cons_succ]
        refine take_at (i := 1) (d := 7) (v := ?_) rfl rfl (by kernel_rfl) (by kernel_rfl) (by kernel_rfl) (fun _ _ _ h => h) (Or.inl ⟨by rfl, ?hy1u26⟩) hHeld ?rest1u26
        case hy1u26 =>
          intro w' hS'
          go_simp
          try with_reducible rfl
        simp only [List.setIfInBounds_toArray, List.set_cons_zero, List.set_cons_succ]
        refine take_at (i := 2) (d := 8) (v := ?_) rfl rfl (by kernel_rfl) (by kernel_rfl) (by kernel_rfl) (fun _ _ _ h => h) (Or.inl ⟨by rfl, ?hy2u27⟩) hHeld ?rest2u27
        case hy2u27 =>
          intro w' hS'
          go_simp
          try with_reducible rfl
        simp only [List.setIfInBounds_toArray, List.set_cons_zero, List.set_cons_succ]
        refine take_at (i := 3) (d := 9) (v := ?_) rfl rfl (by kernel_rfl) (by kernel_rfl) (by kernel_rfl) (fun _ _ _ h => h) (Or.inl ⟨by rfl, ?hy3u28⟩) hHeld ?rest3u28
        case hy3u28 =>
          intro w' hS'
          go_simp
          try with_reducible rfl
        simp only [List.setIfInBounds_toArray, List.set_cons_zero, List.set_cons_succ]
        refine take_at (i := 4) (d := 10) (v := ?_) rfl rfl (by kernel_rfl) (by kernel_rfl) (by kernel_rfl) (fun _ _ _ h => h) (Or.inl ⟨by rfl, ?hy4u29⟩) hHeld ?rest4u29
        case hy4u29 =>
          intro w' hS'
          go_simp
          try with_reducible rfl
        simp only [List.setIfInBounds_toArray, List.set_cons_zero, List.set_cons_succ]
        refine take_at (i := 5) (d := 11) (v := ?_) rfl rfl (by kernel_rfl) (by kernel_rfl) (by kernel_rfl) (fun _ _ _ h => h) (Or.inl ⟨by rfl, ?hy5u30⟩) hHeld ?rest5u30
        case hy5u30 =>
          intro w' hS'
          have q := cell_of_i16s hS' k (by rw [Hp.out]; exact hk)
          rw [EX.out] at q
          go_simp
          try with_reducible rfl
        simp only [List.setIfInBounds_toArray, List.set_cons_zero, List.set_cons_succ]
        refine take_at (i := 6) (d := 12) (v := ?_) rfl rfl (by kernel_rfl) (by kernel_rfl) (by kernel_rfl) (fun _ _ _ h => h) (Or.inl ⟨by rfl, ?hy6u31⟩) hHeld ?rest6u31
        case hy6u31 =>
          intro w' hS'
          go_simp
          try with_reducible rfl
        simp only [List.setIfInBounds_toArray, List.set_cons_zero, List.set_cons_succ]
        refine take_at (i := 7) (d := 13) (v := ?_) rfl rfl (by kernel_rfl) (by kernel_rfl) (by kernel_rfl) (fun _ _ _ h => h) (Or.inl ⟨by rfl, ?hy7u32⟩) hHeld ?rest7u32
        case hy7u32 =>
          intro w' hS'
          go_simp
          try with_reducible rfl
        simp only [List.setIfInBounds_toArray, List.set_cons_zero, List.set_cons_succ]
        refine take_at (i := 8) (d := 14) (v := ?_) rfl rfl (by kernel_rfl) (by kernel_rfl) (by kernel_rfl) (fun _ _ _ h => h) (Or.inl ⟨by rfl, ?hy8u33⟩) hHeld ?rest8u33
        case hy8u33 =>
          intro w' hS'
          go_simp
          try with_reducible rfl
        simp only [List.setIfInBounds_toArray, List.set_cons_zero, List.set_cons_succ]
        refine take_at (i := 9) (d := 15) (v := ?_) rfl rfl (by kernel_rfl) (by kernel_rfl) (by kernel_rfl) (fun _ _ _ h => h) (Or.inl ⟨by rfl, ?hy9u34⟩) hHeld ?rest9u34
        case hy9u34 =>
          intro w' hS'
          have q := cell_of_i16s hS' (k - 1) (by rw [Hp.out]; omega)
          rw [EY.out] at q
          go_simp
          try with_reducible rfl
        simp only [List.setIfInBounds_toArray, List.set_cons_zero, List.set_cons_succ]
        refine take_at (i := 10) (d := 16) (v := ?_) rfl rfl (by kernel_rfl) (by kernel_rfl) (by kernel_rfl) (fun _ _ _ h => h) (Or.inl ⟨by rfl, ?hy10u35⟩) hHeld ?rest10u35
        case hy10u35 =>
          intro w' hS'
          go_simp
          try with_reducible rfl
        simp only [List.setIfInBounds_toArray, List.set_cons_zero, List.set_cons_succ]
        refine take_at (i := 11) (d := 17) (v := ?_) rfl rfl (by kernel_rfl) (by kernel_rfl) (by kernel_rfl) (fun _ _ _ h => h) (Or.inl ⟨by rfl, ?hy11u36⟩) hHeld ?rest11u36
        case hy11u36 =>
          intro w' hS'
          go_simp
          try with_reducible rfl
        simp only [List.setIfInBounds_toArray, List.set_cons_zero, List.set_cons_succ]
        refine wpAnyH_done (by kernel_rfl) ?_ _
        clear hHeld
        obtain ⟨Y, hY⟩ : ∃ Y, Y = W.drew := ⟨_, rfl⟩
        rw [← hY]
        have hpY : Y.heap[w.heap.size]? = some (.cells (i16s ps) 52 (0, 0)) := by rw [hY]; exact H0.out
        have hvY : Boxed Y b3 200 v := by rw [hY]; exact HV.out
        have hrY : Y.ownsRow w.heap.size 227 2 v (cntR ps k) xs := by rw [hY]; exact HR.out
        have hxY := HX.out
        have hB2 : Below W.heap.size W Y := by rw [hY]; exact (Below.refl _ _).drew
        have hkY : KeepsOthers W Y := keeps_of_belowR hB2
        have hbY := hB2.mono hwW
        clear hY hB2
        have hm1 : 0 < cntR ps k := cntR_pos ps k (by omega)
        have hm2 : cntR ps k ≤ 24 := by omega
        have HM : Hid (cntR ps (k + 1) = cntR ps k) := HI
        clear HI HC1
        generalize cntR ps k = m at *
        obtain ⟨g, cap, cur, a, e, hbg, hnc, hcm, hcur, hca, hset⟩ := run_last hrY hxY hm1
        subst e
        have qb : Y.cell? ⟨b3, 0, none⟩ = some (.slice (some ⟨g, 0, none⟩) m cap) := by rw [cell_of_row _ _ _ _ _ _ hvY]; rfl
        have qg : Y.cell? ⟨g, (m - 1) * 2, none⟩ = some (.int .i16 a) := by rw [cell_of_row _ _ _ _ _ _ hcur]; exact hca
        have fg := frozen_of_row Y g ((m - 1) * 2) _ _ hcur
        have ng : w.heap.size ≠ g := by
          intro e
          rw [← e, hpY] at hcur
          cases hcur
        have nb : b3 ≠ g := by
          intro e
          rw [← e] at hcur
          have := hvY.symm.trans hcur
          cases this
        have hw1 : IntKind.i64.wrap ((m : Int) - 1) = ((m - 1 : Nat) : Int) := by rw [i64_smallR _ (by omega) (by omega)]; omega
        have y0 : (0 : Int) ≤ ((m - 1 : Nat) : Int) := by omega
        have y1 : ((m - 1 : Nat) : Int) < (m : Int) := by omega
        unfold maxLen at hcm
        have HP := Lib.hid hpY
        have HVY := Lib.hid hvY
        have HSET := Lib.hid hset
        have HKY := Lib.hid hkY
        have HBY := Lib.hid hbY
        clear hrY hxY hcur hca hpY hvY hset hkY hbY
        gi_wp2
        obtain ⟨ys, hy1, hy2⟩ := HSET.out (IntKind.i16.wrap (a + 1))
        refine ⟨HKY.out.trans (KeepsOthers.setCell _ _ _), HBY.out.setCell (p := ⟨g, (m - 1) * 2, none⟩) hbg _, (heap_setCell_other _ _ _ _ ng).trans HP.out, ⟨_, ys, (heap_setCell_other _ _ _ _ nb).trans HVY.out, by show World.ownsRow _ _ _ _ _ (cntR ps (k + 1)) _; rw [HM.out]; exact hy1, hy2⟩, (HBW.out.trans (HBY.out.mono (Nat.le_refl _))).setCell (p := ⟨g, (m - 1) * 2, none⟩) hbg _⟩
  case done =>
    rintro D W hD ⟨h0, ⟨v, xs, hv, hrow, hx⟩, hbw⟩ hK
    have c3 : W.cell? ⟨b3, 0, none⟩ = some v := by rw [cell_of_row _ _ _ _ _ _ hv]; rfl
    obtain ⟨g, cap, cur, a, rfl, -⟩ := run_last hrow hx (cntR_pos ps 24 (by decide))
    have HK := Lib.hid hK
    have HBW := Lib.hid hbw
    have hD' : w.heap.size ≤ D := by omega
    clear hK h0 hv hrow hx hbw
    go_wp2
    refine ⟨by simp, .inl ⟨_, _, rfl, run_takeDeferred HK.out, ?_⟩⟩
    refine ⟨_, results_tmp (fn := Tryz.f134) rfl _ _ _, ⟨_, _, rfl⟩, HBW.out.trans (belowK_b (w := w) (Nat.le_refl _) W D _ _ hD' HK.out rfl rfl)⟩

end Go.Proofs.YtddnfbpgldchcaaGreatDoor

namespace Go.Proofs.YtddnfbpgldchcaaGreatDoor

open Go.ChangeShapes Go.WideShapes Go.ChangeAt Go.RowKit Go.Deep Go.Joins

attribute [local go_sem] run_store_f

set_option maxRecDepth 100000 in
set_option maxHeartbeats 2000000 in
theorem changes_any (ps : List Int) (hp : ps.length = 24) (w : World) :
    Calls Tryz.prog 70 #[.agg (i16s ps)] w fun e w' => e = .returned (.int .i64 ((cntR ps 24 : Int) - 1)) ∧ Below w.heap.size w w' := by
  have HR := Lib.hid (fun w => runs_any ps hp w)
  have hc := cntR_le ps 24
  have hp1 := cntR_pos ps 24 (by decide)
  have hw : IntKind.i64.wrap ((cntR ps 24 : Int) - 1) = (cntR ps 24 : Int) - 1 := i64_smallR _ (by omega) (by omega)
  have Hp := Lib.hid hp
  clear hp
  generalize cntR ps 24 = m at *
  go_enter Tryz.func70, Tryz.ntmps70
  go_upto_region 1 with (fail)
  refine abs_code (fun W => W.heap[w.heap.size]? = some (.cells (i16s ps) 52 (0, 0)) ∧ Below w.heap.size w W) ⟨heap_alloc_new _ _, (Below.refl _ _).alloc (Nat.le_refl _) _⟩ ?_
  rintro W ⟨h0, hb⟩
  have H0 := Lib.hid h0
  clear h0
  go_wp2_with (first | (refine wpList_load_part rfl 52 _ rfl w.heap.size 0 24 rfl 52 (i16s ps) (0, 0) _ H0.out Tryz.underlying52 rfl info_plan (by rw [i16s_size, Hp.out]; decide) (i16s ps) (i16s_all _ 24 Hp.out) ?_) | (go_at_call 134; refine (HR.out _).mono ?_; rintro e W1 ⟨⟨a, cap, rfl⟩, hb1⟩; replace hb := hb.trans (hb1.mono hb.size); clear hb1))
  go_ret
  exact ⟨rfl, hb⟩

set_option maxRecDepth 100000 in
set_option maxHeartbeats 2000000 in
theorem l07Changes_any (ps : List Int) (hp : ps.length = 24) (g : Nat) (w : World) (q : w.heap[g]? = some (.cells (i16s ps) 52 (0, 0))) :
    Calls Tryz.prog 75 #[.pointer (some ⟨g, 0, none⟩)] w fun e w' => e = .returned (.int .i64 ((cntR ps 24 : Int) - 1)) ∧ Below w.heap.size w w' := by
  have Hp := Lib.hid hp
  have Q := Lib.hid q
  clear hp q
  go_enter Tryz.func75, Tryz.ntmps75
  go_wp2
  go_loopw [3, 4] (fun c i wr => ∃ k : Nat, 1 ≤ k ∧ k ≤ 24 ∧ i = .int .i64 (k : Int) ∧ c = .int .i64 ((cntR ps k : Int) - 1) ∧ Below w.heap.size w wr) (fun _ i _ => 24 - (intOf i).toNat)
  case atStart => exact ⟨1, by omega, by omega, rfl, by rfl, Below.refl _ _⟩
  case round =>
    obtain ⟨k, hk1, hk, rfl, rfl, hb⟩ := hrel
    by_cases hlt : k < 24
    · have HS : Hid (∀ V, Below w.heap.size w V → V.heap[g]? = some (.cells (i16s ps) 52 (0, 0))) := fun V h => below_row h Q.out
      have z0 : (0 : Int) ≤ (k : Int) := by omega
      have z1 : (k : Int) < 24 := by omega
      have hw2 : IntKind.i64.wrap ((k : Int) - 1) = ((k - 1 : Nat) : Int) := by rw [i64_smallR _ (by omega) (by omega)]; omega
      have x0 : (0 : Int) ≤ ((k - 1 : Nat) : Int) := by omega
      have x1 : ((k - 1 : Nat) : Int) < 24 := by omega
      have hcl := cntR_le ps k
      have hcp := cntR_pos ps k (by omega)
      obtain ⟨tl, hE⟩ : ∃ tl, ps[k]?.getD 0 = tl := ⟨_, rfl⟩
      obtain ⟨tm, hF⟩ : ∃ tm, ps[k - 1]?.getD 0 = tm := ⟨_, rfl⟩
      have EX := Lib.hid hE
      have EY := Lib.hid hF
      have hir : isRun ps k = (tl != tm) := by
        unfold isRun
        rw [hE, hF, show (k == 0) = false from beq_eq_false_iff_ne.2 (by omega), Bool.false_or]
      have HC1 : Hid (cntR ps (k + 1) = cntR ps k + (if (tl != tm) = true then 1 else 0)) := by unfold Hid; rw [← hir]; rfl
      clear hE hF hir
      go_upto_region 5 with (fail)
      refine wp_region_held_drew (S := (fun V => Below w.heap.size w V)) (by kernel_rfl) hb.drew (fun hHeld => ?_)
      refine take_op (i := 0) (d := 9) (v := ?_) rfl rfl (by kernel_rfl) (by kernel_rfl) (by kernel_rfl) (fun _ _ _ h => h) (Or.inl ⟨by rfl, ?hy0u59⟩) hHeld ?rest0u59
      case hy0u59 =>
        intro w' hS'
        go_simp
        try with_reducible rfl
      simp only [List.setIfInBounds_toArray, List.set_cons_zero, List.set_cons_succ]
      refine take_op (i := 1) (d := 10) (v := ?_) rfl rfl (by kernel_rfl) (by kernel_rfl) (by kernel_rfl) (fun _ _ _ h => h) (Or.inl ⟨by rfl, ?hy1u60⟩) hHeld ?rest1u60
      case hy1u60 =>
        intro w' hS'
        go_simp
        try with_reducible rfl
      simp only [List.setIfInBounds_toArray, List.set_cons_zero, List.set_cons_succ]
      refine take_op (i := 2) (d := 11) (v := ?_) rfl rfl (by kernel_rfl) (by kernel_rfl) (by kernel_rfl) (fun _ _ _ h => h) (Or.inl ⟨by rfl, ?hy2u61⟩) hHeld ?rest2u61
      case hy2u61 =>
        intro w' hS'
        go_simp
        try with_reducible rfl
      simp only [List.setIfInBounds_toArray, List.set_cons_zero, List.set_cons_succ]
      refine take_op (i := 3) (d := 12) (v := ?_) rfl rfl (by kernel_rfl) (by kernel_rfl) (by kernel_rfl) (fun _ _ _ h => h) (Or.inl ⟨by rfl, ?hy3u62⟩) hHeld ?rest3u62
      case hy3u62 =>
        intro w' hS'
        go_simp
        try with_reducible rfl
      simp only [List.setIfInBounds_toArray, List.set_cons_zero, List.set_cons_succ]
      refine take_op (i := 4) (d := 13) (v := ?_) rfl rfl (by kernel_rfl) (by kernel_rfl) (by kernel_rfl) (fun _ _ _ h => h) (Or.inl ⟨by rfl, ?hy4u63⟩) hHeld ?rest4u63
      case hy4u63 =>
        intro w' hS'
        have qz := cell_of_i16s (HS.out _ hS') k (by rw [Hp.out]; omega)
        rw [EX.out] at qz
        go_simp
        try with_reducible rfl
      simp only [List.setIfInBounds_toArray, List.set_cons_zero, List.set_cons_succ]
      refine take_op (i := 5) (d := 14) (v := ?_) rfl rfl (by kernel_rfl) (by kernel_rfl) (by kernel_rfl) (fun _ _ _ h => h) (Or.inl ⟨by rfl, ?hy5u64⟩) hHeld ?rest5u64
      case hy5u64 =>
        intro w' hS'
        go_simp
        try with_reducible rfl
      simp only [List.setIfInBounds_toArray, List.set_cons_zero, List.set_cons_succ]
      refine take_op (i := 6) (d := 15) (v := ?_) rfl rfl (by kernel_rfl) (by kernel_rfl) (by kernel_rfl) (fun _ _ _ h => h) (Or.inl ⟨by rfl, ?hy6u65⟩) hHeld ?rest6u65
      case hy6u65 =>
        intro w' hS'
        go_simp
        try with_reducible rfl
      simp only [List.setIfInBounds_toArray, List.set_cons_zero, List.set_cons_succ]
      refine take_op (i := 7) (d := 16) (v := ?_) rfl rfl (by kernel_rfl) (by kernel_rfl) (by kernel_rfl) (fun _ _ _ h => h) (Or.inl ⟨by rfl, ?hy7u66⟩) hHeld ?rest7u66
      case hy7u66 =>
        intro w' hS'
        go_simp
        try with_reducible rfl
      simp only [List.setIfInBounds_toArray, List.set_cons_zero, List.set_cons_succ]
      refine take_op (i := 8) (d := 17) (v := ?_) rfl rfl (by kernel_rfl) (by kernel_rfl) (by kernel_rfl) (fun _ _ _ h => h) (Or.inl ⟨by rfl, ?hy8u67⟩) hHeld ?rest8u67
      case hy8u67 =>
        intro w' hS'
        go_simp
        try with_reducible rfl
      simp only [List.setIfInBounds_toArray, List.set_cons_zero, List.set_cons_succ]
      refine take_op (i := 9) (d := 18) (v := ?_) rfl rfl (by kernel_rfl) (by kernel_rfl) (by kernel_rfl) (fun _ _ _ h => h) (Or.inl ⟨by rfl, ?hy9u68⟩) hHeld ?rest9u68
      case hy9u68 =>
        intro w' hS'
        go_simp
        try with_reducible rfl
      simp only [List.setIfInBounds_toArray, List.set_cons_zero, List.set_cons_succ]
      refine take_op (i := 10) (d := 19) (v := ?_) rfl rfl (by kernel_rfl) (by kernel_rfl) (by kernel_rfl) (fun _ _ _ h => h) (Or.inl ⟨by rfl, ?hy10u69⟩) hHeld ?rest10u69
      case hy10u69 =>
        intro w' hS'
        have qz := cell_of_i16s (HS.out _ hS') (k - 1) (by rw [Hp.out]; omega)
        rw [EY.out] at qz
        go_simp
        try with_reducible rfl
      simp only [List.setIfInBounds_toArray, List.set_cons_zero, List.set_cons_succ]
      refine take_op (i := 11) (d := 20) (v := ?_) rfl rfl (by kernel_rfl) (by kernel_rfl) (by kernel_rfl) (fun _ _ _ h => h) (Or.inl ⟨by rfl, ?hy11u70⟩) hHeld ?rest11u70
      case hy11u70 =>
        intro w' hS'
        go_simp
        try with_reducible rfl
      simp only [List.setIfInBounds_toArray, List.set_cons_zero, List.set_cons_succ]
      refine wpAnyH_done (by kernel_rfl) ?_ _
      have hbx := hHeld
      clear hHeld hb
      cases hnt : (tl != tm) with
      | true =>
        rw [hnt] at HC1
        have HC2 : cntR ps (k + 1) = cntR ps k + 1 := by rw [HC1.out]; rfl
        have hw3 : IntKind.i64.wrap ((cntR ps k : Int) - 1 + 1) = (cntR ps (k + 1) : Int) - 1 := by rw [i64_smallR _ (by omega) (by omega)]; omega
        go_wp2
        go_roundw
        case rel => exact ⟨k + 1, by omega, by omega, by go_num, by go_num, hbx⟩
        case measure => simp [intOf]; omega
      | false =>
        rw [hnt] at HC1
        have hw3 : (cntR ps (k + 1) : Int) - 1 = (cntR ps k : Int) - 1 := by rw [HC1.out]; simp
        go_wp2
        go_roundw
        case rel => exact ⟨k + 1, by omega, by omega, by go_num, by rw [hw3], hbx⟩
        case measure => simp [intOf]; omega
    · obtain rfl : k = 24 := by omega
      go_wp2
      go_ret
      exact ⟨rfl, hb⟩

end Go.Proofs.YtddnfbpgldchcaaGreatDoor
