/-
  All tilts with which a blind is as wanted: the program's collecting walk.
-/
import Derived.RangeFuncBox
import Derived.Maps.AppendAt
import Derived.Test.YtdccmdcgbembpaaTilts
import Derived.Test.YtdccmdcgbembpaaList
import Derived.Test.YtdccmdcgbembpaaNew
import Derived.Test.YtdccmdcgbembpaaRoundL
namespace Go.Proofs.Ytdccmdcgbembpaa
open Go.RowKit Go.Shelf

attribute [local go_sem] Oper.semAt_some run_store_f

/-- The tilts of a list that are wanted. -/
def wantT (p : Int → Bool) (pre : List Tl) : List Int := (pre.map (·.1)).filter p

theorem wantT_hit (p : Int → Bool) (pre : List Tl) (x : Tl) (h : p x.1 = true) : wantT p (pre ++ [x]) = wantT p pre ++ [x.1] := by simp [wantT, h]

theorem wantT_miss (p : Int → Bool) (pre : List Tl) (x : Tl) (h : p x.1 = false) : wantT p (pre ++ [x]) = wantT p pre := by simp [wantT, h]

theorem wantT_len (p : Int → Bool) (pre : List Tl) : (wantT p pre).length ≤ pre.length := by
  have := List.length_filter_le p (pre.map (·.1))
  rw [List.length_map] at this
  exact this

theorem heap_keptW {W W' : World} {row : Option Nat} {b : Nat} {cs : Array Value} {t : TypeId} {fr : Nat × Nat} (h : W.heap[b]? = some (.cells cs t fr)) (hg : W.grownBy W' row)
    (hr : ∀ r, row = some r → ∃ o : Obj, W.heap[r]? = some o ∧ o.isCells = false) : W'.heap[b]? = some (.cells cs t fr) := by
  have hlt := (Array.getElem?_eq_some_iff.1 h).1
  rw [← h]
  refine hg.block b hlt fun e => ?_
  obtain ⟨o, ho, hc⟩ := hr b e.symm
  rw [h] at ho
  cases ho
  cases hc

theorem keeps_of_belowW {W W1 : World} (hb : Below W.heap.size W W1) : KeepsOthers W W1 := ⟨hb.size, fun b _ ho _ => (hb.block b (Array.getElem?_eq_some_iff.1 ho).1).trans ho⟩

theorem laid_allw (cs vs : Array Value) (h : cs.size = vs.size) : laid cs vs 0 = vs := by
  apply Array.ext'
  simp [laid]
  rw [← h]; simp

theorem blind_onew (n : Int) (wd gp : Nat) (t : Int) (sh : Nat) : ∀ v ∈ blindC n wd gp t sh, v.oneCell' = true := by
  intro v hv
  simp only [blindC, List.mem_toArray, List.mem_cons, List.not_mem_nil, or_false] at hv
  rcases hv with rfl | rfl | rfl | rfl | rfl <;> rfl

theorem not_rowW {W : World} {g : Nat} {cs : Array Value} {t e : TypeId} {fr : Nat × Nat} (h : W.heap[g]? = some (.cells cs t fr)) (hte : t ≠ e) {base size k : Nat} {v : Value} {xs : List Value} (hr : W.ownsRow base e size v k xs) : some g ≠ v.ownBlock := by
  rcases hr.2 with ⟨rfl, _⟩ | ⟨g', cap, cur, rfl, _, hgb, _⟩
  · simp [Value.ownBlock]
  · intro e'
    obtain rfl : g = g' := by simpa [Value.ownBlock] using e'
    rw [h] at hgb
    injection hgb with e1
    injection e1 with _ e2 _
    exact hte e2

theorem kept_append {W w1 : World} {g b3 base k : Nat} {cs : Array Value} {t e : TypeId} {fr : Nat × Nat} {v u : Value} {xs : List Value} {tmp : Obj} (h : W.heap[g]? = some (.cells cs t fr)) (hte : t ≠ e) (hr : W.ownsRow base e 1 v k xs)
    (hg : (W.alloc tmp).grownBy w1 v.ownBlock) (hne : g ≠ b3) : (w1.setCell ⟨b3, 0, none⟩ u).heap[g]? = some (.cells cs t fr) := by
  rw [heap_setCell_other _ _ _ _ hne]
  have h1 : (W.alloc tmp).heap[g]? = some (.cells cs t fr) := below_row ((Below.refl W.heap.size W).alloc (Nat.le_refl _) _) h
  exact (hg.block g (row_lt h1) (not_rowW h hte hr)).trans h1

theorem owns_below {W w1 : World} {base k : Nat} {e : TypeId} {v : Value} {xs : List Value} (h : W.ownsRow base e 1 v k xs) (hb : Below W.heap.size W w1) : w1.ownsRow base e 1 v k xs :=
  h.kept (grown_of_below hb none) (by cases v.ownBlock <;> simp)

theorem own_of_row {α : Type} {W : World} {base : Nat} {e : TypeId} {mk : α → Value} {v : Value} {xs : List α} (h : W.ownsRow base e 1 v xs.length (xs.map mk)) (_ : xs.length ≤ maxLen) : Own W base e mk v xs := by
  rcases h.2 with ⟨rfl, hz⟩ | ⟨g, cap, cur, rfl, hbg, hg, hnc, hcm, hsz, htk⟩
  · exact ⟨none, 0, by rw [hz], Nat.zero_le _, by omega, .inl ⟨rfl, List.eq_nil_of_length_eq_zero hz⟩⟩
  · refine ⟨_, cap, rfl, hcm, hnc, .inr ⟨g, cur, rfl, hbg, hg, fun k hk => ?_⟩⟩
    have h1 : (cur.toList.take (xs.length * 1))[k]? = cur[k]? := by
      rw [List.getElem?_take_of_lt (by omega), Array.getElem?_toList]
    rw [← h1, htk, List.getElem?_map]

/-- A list cut to its length, behind the turn of a block that is no cells. -/
theorem own_cut {α : Type} {W : World} {base g cap D : Nat} {e : TypeId} {mk : α → Value} {xs : List α} {o o' : Obj} (h : Own W base e mk (.slice (some ⟨g, 0, none⟩) xs.length cap) xs) (hD : W.heap[D]? = some o) (ho : o.isCells = false) :
    Own (W.putObj D o') base e mk (.slice (some ⟨g, 0, none⟩) xs.length xs.length) xs := by
  obtain ⟨a, c, h1, h2, h3, h4⟩ := h
  injection h1 with e1 e2 e3
  refine ⟨_, _, rfl, by omega, Nat.le_refl _, ?_⟩
  rcases h4 with ⟨ea, _⟩ | ⟨g', cur, ea, hb, hc, hk⟩
  · rw [ea] at e1; cases e1
  · rw [ea] at e1
    injection e1 with e1
    injection e1 with e1
    subst e1
    refine .inr ⟨g, cur, rfl, hb, ?_, hk⟩
    rw [World.putObj_heap_other ?_]
    · exact hc
    · rintro rfl
      rw [hc] at hD
      injection hD with hD
      subst hD
      cases ho

/-- What the walk over the tilts keeps: the tilts so far, what asks, the blind that the iterator holds. -/
def WhereI (n : Int) (wd gp : Nat) (t : Int) (sh : Nat) (p : Int → Bool) (w : World) (b1 b3 gb : Nat) (fv : Value) (pre : List Tl) (W : World) : Prop :=
  (∃ v, Boxed W b3 34 v ∧ W.ownsRow w.heap.size 2 1 v (wantT p pre).length ((wantT p pre).map (Value.int .i64)) ∧ True) ∧ Boxed W b1 71 fv ∧ W.heap[gb]? = some (.cells (blindC n wd gp t sh) 28 (0, 0)) ∧ Below w.heap.size w W

theorem whereI_own (n : Int) (wd gp : Nat) (t : Int) (sh : Nat) (p : Int → Bool) (w : World) (b1 b3 gb : Nat) (fv : Value) (B : Nat) (hB : w.heap.size ≤ B) : OwnFrom B (WhereI n wd gp t sh p w b1 b3 gb fv) := by
  intro s W W' row ⟨h1, h2, h3, h4⟩ hg' hr
  have hr2 := fun r e => (hr r e).2
  refine ⟨Go.holdsRow_own w.heap.size b3 34 2 1 (fun pre => (wantT p pre).length) (fun pre => (wantT p pre).map (Value.int .i64)) (fun _ _ => True) s W W' row h1 hg' hr2, ?_, ?_, ownFrom_below (β := Unit) (Nat.le_refl _) hB () W W' row h4 hg' hr⟩
  · exact boxed_own (β := Unit) b1 71 (fun _ => fv) () W W' row h2 hg' hr2
  · exact heap_keptW h3 hg' hr2

theorem infoW : (Try.prog.info? 2).map (fun i => (i.zero, i.size, i.bytes)) = some (some (.int .i64 0), 1, 8) := by kernel_rfl

set_option maxRecDepth 100000 in
set_option maxHeartbeats 1000000 in
theorem eachTilted_any (n : Int) (wd gp : Nat) (t : Int) (sh : Nat) (w : World) :
    Calls Try.prog 29 #[.agg (blindC n wd gp t sh)] w fun e w' => e = .returned (.func (.func 52) #[] #[.pointer (some ⟨w.heap.size, 0, none⟩)]) ∧ w' = w.alloc (.cells (blindC n wd gp t sh) 28) := by
  go_enter Try.func29, Try.ntmps29
  go_wp2
  go_ret
  exact ⟨rfl, rfl⟩

theorem eachTilted_stops (n : Int) (wd gp : Nat) (t : Int) (sh : Nat) (gb : Nat) (w : World) (hg : w.heap[gb]? = some (.cells (blindC n wd gp t sh) 28 (0, 0))) :
    SeqStopsK Fence.wide 3 Try.prog 52 #[.pointer (some ⟨gb, 0, none⟩)] (fun x : Tl => #[.agg (blindC n wd gp x.1 sh)]) (KeepsAt gb) (fun xs => xs = tls 129) (fun pre => ∃ k, k ≤ 129 ∧ pre = tls k) 129 w := fun l J Jx W hW hJ _ hY h0 =>
  eachTilted_in n wd gp t sh gb 1 l J Jx hY W hJ h0 (below_row hW hg)

set_option maxRecDepth 100000 in
set_option maxHeartbeats 2000000 in
theorem tiltsWhere_any (n : Int) (wd gp : Nat) (t : Int) (sh : Nat) (Fc : FuncId) (hE : ∀ args w, (callFunc Fc args).run Try.prog w = .ok (.enter Fc args) w) (lbw : Array Value) (p : Int → Bool) (C : World → Prop) (w : World) (hC : ∀ W, Below w.heap.size w W → C W)
    (hP : ∀ (x : Int) (W : World), -64 ≤ x → x ≤ 64 → C W → Calls Try.prog Fc (#[.agg (blindC n wd gp x sh)] ++ lbw) W fun e W' => e = .returned (.bool (p x)) ∧ Below W.heap.size W W') :
    Calls Try.prog 38 #[.agg (blindC n wd gp t sh), .func (.func Fc) #[] lbw] w fun e w' => (∃ v, e = .returned v ∧ Own w' w.heap.size 2 (Value.int .i64) v (wantT p (tls 129))) ∧ Below w.heap.size w w' := by
  refine (callsIn_wide (n := 4)).1 ?_
  obtain ⟨i0, hi, hz0, hz1, hz2⟩ := info_parts infoW
  have hmk : ∀ w, (Instr.makeSlice 34 (.int .i64 0) (.int .i64 129)).run Try.prog w = .ok (.slice (some ⟨w.heap.size, 0, none⟩) 0 129) (w.alloc (.cells (List.replicate 129 (.int .i64 0)).toArray 2)) := fun _ => by kernel_rfl
  refine callsIn_of_wp_marks Try.func38 rfl trivial ?_ rfl
  simp only [Try.ntmps38, List.size_toArray, List.length_cons, List.length_nil, Nat.reduceAdd, Nat.reduceSub, Array.replicate_succ, Array.replicate_zero, List.push_toArray, List.append_toArray, List.nil_append, List.cons_append]
  refine wpIn_wide.2 ?_
  go_upto_region 2 with (fail)
  refine abs_world (fun W => Below w.heap.size w W ∧ W.heap[w.heap.size]? = some (.cells (blindC n wd gp t sh) 28 (0, 0)) ∧ Boxed W (w.heap.size + 1) 71 (.func (.func Fc) #[] lbw) ∧ Boxed W (w.heap.size + 1 + 1 + 1) 34 (.slice (some ⟨w.heap.size + 1 + 1, 0, none⟩) 0 129) ∧ W.ownsRow w.heap.size 2 1 (.slice (some ⟨w.heap.size + 1 + 1, 0, none⟩) 0 129) 0 []) ⟨(four_new _ _ _ _ _).2.2.2.2, (four_new _ _ _ _ _).1, (four_new _ _ _ _ _).2.1, (four_new _ _ _ _ _).2.2.2.1, by simp, .inr ⟨_, _, _, rfl, by omega, (four_new _ _ _ _ _).2.2.1, by omega, by decide, rfl, by simp⟩⟩ ?_
  rintro W ⟨hb, h0, hF, hS, hrow⟩
  have hlt := row_lt hF
  have hlt3 := row_lt hS
  generalize hb3 : w.heap.size + 1 + 1 + 1 = b3 at *
  generalize hb2 : w.heap.size + 1 + 1 = b2 at *
  generalize hb1 : w.heap.size + 1 = b1 at *
  have H0 := Lib.hid h0
  clear h0
  go_wp2_with (first | (refine wpList_load_part rfl 28 _ rfl w.heap.size 0 5 rfl 28 (blindC n wd gp t sh) (0, 0) _ H0.out Try.underlying28 rfl info_blind (blind_fits _ _ _ _ _) _ (blind_all _ _ _ _ _) ?_) | (go_at_call 29; refine (eachTilted_any _ _ _ _ _ _).mono ?_; rintro e w' ⟨rfl, rfl⟩))
  refine (wpIn_wide (n := 4)).1 ?_
  have hgl : w.heap.size ≤ W.heap.size := hb.size
  refine wpIn_rangeFunc_ownH rfl (by decide) (gf := 52) (lb := #[.pointer (some ⟨W.heap.size, 0, none⟩)]) rfl trivial (enters_of Try.func52 (by kernel_rfl) rfl)
    (eachTilted_stops n wd gp t sh W.heap.size _ (heap_alloc_new _ _)) keepsAt_t (keepsAt_b (by simp)) (Below.refl _ _) (fun _ => rfl)
    (WhereI n wd gp t sh p w b1 b3 W.heap.size (.func (.func Fc) #[] lbw)) (fun _ _ _ => False) (whereI_own _ _ _ _ _ _ _ _ _ _ _ _ (by simp; omega)) (fun _ _ _ _ _ hs _ _ => hs) ?h0
    (fun x a' V => ∃ b6 : Nat, a' = { tmps := #[.agg (blindC n wd gp t sh), .func (.func Fc) #[] lbw, .pointer (some ⟨w.heap.size, 0, none⟩), .pointer (some ⟨b1, 0, none⟩), .slice none 0 0, .pointer (some ⟨b3, 0, none⟩), .pointer (some ⟨b6, 0, none⟩), .slice (some ⟨b2, 0, none⟩) 0 129, .agg (blindC n wd gp t sh), .func (.func 52) #[] #[.pointer (some ⟨W.heap.size, 0, none⟩)], .agg (blindC n wd gp x.1 sh), undef, undef, undef, undef, undef, undef, undef, undef, undef, undef, undef, undef, undef, undef, undef], defers := [] } ∧ V.heap[b6]? = some (.cells (blindC n wd gp x.1 sh) 28 (0, 0)))
    (fun x a' s V V' row hx hg hr => by obtain ⟨b6, e, h⟩ := hx; exact ⟨b6, e, heap_keptW h hg (fun r e => (hr r e).2)⟩) ?assign ?body ?done ?stop
  case h0 =>
    exact ⟨⟨_, hS.alloc _, hrow.alloc _, trivial⟩, hF.alloc _, heap_alloc_new _ _, hb.alloc hb.size _⟩
  case assign =>
    rintro l pre x W2 K hI hK
    refine region_plain_round (by rfl) (fun ⟨_, _, h⟩ => h) ?_
    go_wp2_with (refine wpList_store_part rfl 28 _ _ rfl _ 0 (blindC n wd gp x.1 sh) rfl rfl 28 _ (heap_alloc_new _ _) (by kernel_rfl) (Nat.le_refl _) (blind_onew _ _ _ _ _) ?_; rw [laid_allw _ _ (by rfl)])
    have hbn : ∀ o, Below W2.heap.size W2 ((W2.alloc o).setRow W2.heap.size (blindC n wd gp x.1 sh)) := fun o => below_setRow ((Below.refl _ _).alloc (Nat.le_refl _) _) (Nat.le_refl _) _
    exact hK _ _ ((keeps_of_belowW (hbn _)).from _) (fun _ ho => below_row (hbn _) ho) (whereI_own _ _ _ _ _ _ _ _ _ _ _ _ (Nat.le_refl _) _ _ _ none hI (grown_of_below (hbn _) none) (fun r e => by cases e)) ⟨_, rfl, setRow_heap _ _ _ _ _ _ (heap_alloc_new _ _)⟩
  case body =>
    rintro l pre ⟨x, hx0, hx1⟩ a' W2 hl0 hlr ⟨⟨v, hv, hrow2, _⟩, hF2, hG2, hbw⟩ ⟨b6, rfl, h6⟩ hl
    have HP := Lib.hid (hP x W2 hx0 hx1 (hC W2 hbw))
    have H6 := Lib.hid h6
    have cF := hF2.cell
    dsimp only
    cases hp : p x with
    | true =>
      rw [hp] at HP
      refine wpIn_block (wpIn_seq ?_)
      refine region_plain_round (by rfl) (fun ⟨_, _, h⟩ => h) ?_
      go_wp2_with (first | (refine wpList_load_part rfl 28 _ rfl b6 0 5 rfl 28 (blindC n wd gp x sh) (0, 0) _ H6.out Try.underlying28 rfl info_blind (blind_fits _ _ _ _ _) _ (blind_all _ _ _ _ _) ?_) | (refine HP.out.mono ?_; rintro e W3 ⟨rfl, hb3⟩))
      have hv3 : Boxed W3 b3 34 v := below_row hb3 hv
      have hrow3 := owns_below hrow2 hb3
      have h63 := below_row hb3 H6.out
      obtain ⟨k0, k1, k2, k3, k4⟩ := blind_cells h63
      have hG3 := below_row hb3 hG2
      have hF3 : W3.heap[b1]? = some (.cells #[.func (.func Fc) #[] lbw] 71 (0, 0)) := below_row hb3 hF2
      have hbw3 := hbw.trans (hb3.mono hbw.size)
      have hcv := hv3.cell
      have hwl := wantT_len p pre
      have hsz3 := hbw3.size
      have hk23 := keeps_of_belowW hb3
      have HX : Hid (wantT p (pre ++ [⟨x, hx0, hx1⟩]) = wantT p pre ++ [x]) := wantT_hit p pre ⟨x, hx0, hx1⟩ hp
      have HG3 := Lib.hid hG3
      have HF3 := Lib.hid hF3
      have HKA : Hid (KeepsAt W.heap.size W2 W3) := fun o ho => below_row hb3 ho
      clear h63 hG3 hF3 hG2 hF2 cF H6 h6 hp hv hrow2 hb3 HP
      gi_wp2_with (gi_at_builtin; refine wpListIn_append_own _ rfl _ _ 34 rfl w.heap.size 2 i0 (.int .i64 0) 1 8 Try.underlying34 hi hz0 hz1 hz2 rfl (by decide) _ _ _ rfl (hrow3.alloc _) ⟨W3.heap.size, 0, none⟩ 1 1 [.int .i64 x] rfl rfl (cell_one_new _ _ _) (by simp [Value.oneCell']) (by unfold maxLen; omega) (by omega) (by simp; omega) ?_; intro v' w1 hown' hgrow _; obtain ⟨g', cap', rfl⟩ := ownsRow_succ hown'; obtain ⟨hv1, hv2, hr2, hk2, hbA⟩ := hv3.appended (by decide) hrow3 hsz3 (by omega) hown' hgrow; have hc1 := hv1.cell; have hf1 := hv1.frozen)
      refine ⟨(hk23.trans hk2).from _, ?_, ⟨_, hv2, ?_, trivial⟩, ?_, ?_, hbw3.trans hbA⟩
      · intro o ho
        have ho3 := HKA.out o ho
        rw [HG3.out] at ho3
        injection ho3 with ho3
        subst ho3
        exact kept_append HG3.out (by decide) hrow3 hgrow (by omega)
      · rw [HX.out]; simpa using hr2
      · exact kept_append HF3.out (by decide) hrow3 hgrow (by omega)
      · exact kept_append HG3.out (by decide) hrow3 hgrow (by omega)
    | false =>
      rw [hp] at HP
      refine wpIn_block (wpIn_seq ?_)
      refine region_plain_round (by rfl) (fun ⟨_, _, h⟩ => h) ?_
      go_wp2_with (first | (refine wpList_load_part rfl 28 _ rfl b6 0 5 rfl 28 (blindC n wd gp x sh) (0, 0) _ H6.out Try.underlying28 rfl info_blind (blind_fits _ _ _ _ _) _ (blind_all _ _ _ _ _) ?_) | (refine HP.out.mono ?_; rintro e W3 ⟨rfl, hb3⟩))
      have hwl : wantT p (pre ++ [⟨x, hx0, hx1⟩]) = wantT p pre := wantT_miss p pre ⟨x, hx0, hx1⟩ hp
      gi_wp2
      exact ⟨(keeps_of_belowW hb3).from _, fun o ho => below_row hb3 ho, ⟨v, below_row hb3 hv, by rw [hwl]; exact owns_below hrow2 hb3, trivial⟩, below_row hb3 hF2, below_row hb3 hG2, hbw.trans (hb3.mono hbw.size)⟩
  case done =>
    rintro D zs W2 hD rfl ⟨⟨v, hv, hrow2, -⟩, hF2, hG2, hbw⟩ hK
    rename_i K hcont
    have hcv := hv.cell
    have hD' : w.heap.size ≤ D := by simp at hD; omega
    have hwl := wantT_len p (tls 129)
    rw [tls_length] at hwl
    have HK := Lib.hid hK
    have HB := Lib.hid hbw
    have HO : Hid (Own W2 w.heap.size 2 (Value.int .i64) v (wantT p (tls 129))) := own_of_row hrow2 (by unfold maxLen; omega)
    clear hF2 hG2 hbw hv hK
    rcases hrow2.2 with ⟨rfl, hz⟩ | ⟨g, cap, cur, rfl, hbg, hg, hnc, hcm, hsz, htk⟩
    · refine hcont _ _ ?_
      go_wp2
      refine ⟨by simp, .inl ⟨_, _, rfl, run_takeDeferred HK.out, ?_⟩⟩
      refine ⟨_, results_tmp (fn := Try.f38) rfl _ _ _, ⟨_, rfl, ?_⟩, HB.out.trans (belowK_b (w := w) (Nat.le_refl _) W2 D _ _ hD' HK.out rfl rfl)⟩
      show Own _ _ _ _ (.slice none 0 0) _
      exact ⟨none, 0, by rw [hz], Nat.zero_le _, by omega, .inl ⟨rfl, List.eq_nil_of_length_eq_zero hz⟩⟩
    · have z0 : ((wantT p (tls 129)).length : Int) ≤ (cap : Int) := by omega
      have z1 : (0 : Int) ≤ ((wantT p (tls 129)).length : Int) := by omega
      have HG := Lib.hid hg
      clear hg htk
      refine hcont _ _ ?_
      go_wp2
      refine ⟨by simp, .inl ⟨_, _, rfl, run_takeDeferred HK.out, ?_⟩⟩
      refine ⟨_, results_tmp (fn := Try.f38) rfl _ _ _, ⟨_, rfl, ?_⟩, HB.out.trans (belowK_b (w := w) (Nat.le_refl _) W2 D _ _ hD' HK.out rfl rfl)⟩
      exact own_cut HO.out HK.out rfl
  case stop =>
    rintro D c pre W _ _ h _
    exact h.elim

end Go.Proofs.Ytdccmdcgbembpaa
