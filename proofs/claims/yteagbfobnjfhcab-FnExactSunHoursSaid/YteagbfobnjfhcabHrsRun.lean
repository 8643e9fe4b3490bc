/-
  The hours with enough light on a window: the program's walk.
-/
import Derived.Test.YteagbfobnjfhcabHrs
namespace Go.Proofs.Yteagbfobnjfhcab
open Go.RowKit Go.Shelf

attribute [local go_sem] Oper.semAt_some run_store_float
theorem isPart_h (x : Nat) (fine : Bool) (hx : partB x = fine) (w : World) : Calls Try.prog 59 #[.float .f32 x] w fun e w' => e = .returned (.bool fine) ∧ w = w' := by
  rw [← hx]; exact isPart_any x w
theorem wp_onlyH {P : Program} {c : Code} {K : Act → World → Prop} {Q : Exit → Act → World → Prop} {a : Act} {w : World} (h : c.wp P (Exit.then K (fun _ _ _ => False)) a w) : c.wp P (Exit.then K Q) a w :=
  Code.wp_mono (fun e a w h => by cases e <;> first | exact h | exact h.elim) h

/-- What the walk keeps: all that lay there, and the hours so far. -/
def HourI (W0 : World) (p : Int → Bool) (pre : List Hr) (W : World) : Prop :=
  (∃ v, Boxed W W0.heap.size 56 v ∧ W.ownsRow W0.heap.size 2 1 v (wantH p pre).length ((wantH p pre).map (Value.int .i64)) ∧ True) ∧ Below W0.heap.size W0 W
theorem hourI_own (W0 : World) (p : Int → Bool) (B : Nat) (hB : W0.heap.size ≤ B) : OwnFrom B (HourI W0 p) := by
  intro s W W' row ⟨h1, h2⟩ hg' hr
  have hr2 := fun r e => (hr r e).2
  exact ⟨Go.holdsRow_own W0.heap.size W0.heap.size 56 2 1 (fun pre => (wantH p pre).length) (fun pre => (wantH p pre).map (Value.int .i64)) (fun _ _ => True) s W W' row h1 hg' hr2, ownFrom_below (β := Unit) (Nat.le_refl _) hB () W W' row h2 hg' hr⟩

theorem own_put {α : Type} {W : World} {base D : Nat} {e : TypeId} {mk : α → Value} {v : Value} {xs : List α} {o o' : Obj} (h : Own W base e mk v xs) (hD : W.heap[D]? = some o) (ho : o.isCells = false) : Own (W.putObj D o') base e mk v xs := by
  obtain ⟨a, c, h1, h2, h3, h4⟩ := h
  refine ⟨a, c, h1, h2, h3, h4.imp id ?_⟩
  rintro ⟨g, cur, ea, hb, hc, hk⟩
  refine ⟨g, cur, ea, hb, ?_, hk⟩
  rw [World.putObj_heap_other ?_]
  · exact hc
  · rintro rfl
    rw [hc] at hD
    injection hD with hD
    subst hD
    cases ho

set_option maxRecDepth 100000 in
set_option maxHeartbeats 2000000 in
theorem implSunHours_yes (hs ts : List Int) (hh : hs.length = 24) (ht : ts.length = 24) (facing : Int) (le : Nat) (ho : okB hs ts = true) (h3 : inF facing = true) (hp : partB le = true) (w : World) :
    Calls Try.prog 33 #[.agg (sunC hs ts), .int .i64 facing, .float .f32 le] w (fun e w' => (∃ v, e = .returned (.tuple #[v, .int .i64 0]) ∧ Own w' w.heap.size 2 (Value.int .i64) v (wantH (enoH hs ts facing le) (hrs 24))) ∧ Below w.heap.size w w') := by
  refine (callsIn_wide (n := 4)).1 ?_
  obtain ⟨i0, hi, hz0, hz1, hz2⟩ := info_parts infoW
  have HC : Hid (∀ (k : Int), 0 ≤ k → k < 24 → ∀ W, Calls Try.prog 95 #[.agg (sunC hs ts), .int .i64 k, .int .i64 facing] W fun e w' => e = .returned (.float .f32 (fallOf hs ts k facing)) ∧ Below W.heap.size W w') := by
    intro k h0 h24 W
    have hbd := okB_h hh ht ho k h0 h24
    have hby := okB_t hh ht ho k h0 h24
    exact fallAt_any hs ts hh ht k facing h0 h24 (inF_bd h3).1 (inF_bd h3).2 hbd.2 hby.1 hby.2 W
  have Hc : Hid (codeB (okB hs ts) true = 0) := by rw [ho]; rfl
  have Hf := Lib.hid h3
  have Hp := Lib.hid hp
  have Hh := Lib.hid hh
  have Ht := Lib.hid ht
  clear ho h3 hp hh ht
  refine callsIn_of_wp_marks Try.func33 rfl trivial ?_ rfl
  simp only [Try.ntmps33, List.size_toArray, List.length_cons, List.length_nil, Nat.reduceAdd, Nat.reduceSub, Array.replicate_succ, Array.replicate_zero, List.push_toArray, List.append_toArray, List.nil_append, List.cons_append]
  refine wpIn_wide.2 ?_
  go_upto_region 1 with (fail)
  refine abs_world (fun W => W.heap[w.heap.size]? = some (.cells (sunC hs ts) 51 (0, 0)) ∧ W.heap[w.heap.size + 1]? = some (.cells #[.int .i64 facing] 2 (0, 0)) ∧ W.heap[w.heap.size + 1 + 1]? = some (.cells #[.float .f32 le] 22 (0, 0)) ∧ Below w.heap.size w W) ⟨(three_new _ _ _ _).1, (three_new _ _ _ _).2.1, (three_new _ _ _ _).2.2.1, (three_new _ _ _ _).2.2.2⟩ ?_
  rintro W ⟨h0, h1, h2, hb⟩
  generalize w.heap.size + 1 + 1 = g3 at *
  generalize w.heap.size + 1 = g2 at *
  refine wp_onlyH ?_
  refine wp_region_held_drew (S := (fun W => W.heap[w.heap.size]? = some (.cells (sunC hs ts) 51 (0, 0)) ∧ W.heap[g2]? = some (.cells #[.int .i64 facing] 2 (0, 0)) ∧ W.heap[g3]? = some (.cells #[.float .f32 le] 22 (0, 0)) ∧ Below w.heap.size w W)) (by kernel_rfl) ⟨h0, h1, h2, hb.drew⟩ (fun hHeld => ?_)
  refine take_op (i := 0) (d := 11) (v := .agg (sunC hs ts)) rfl rfl (by kernel_rfl) (by kernel_rfl) (by kernel_rfl) (fun _ _ _ h => h) (yields_row (by rfl) 51 (.tmp 3) (by rfl) w.heap.size 0 48 (by rfl) 51 (sunC hs ts) (0, 0) _ (fun _ h => h.1) Try.underlying51 rfl info_sun (sun_fits _ _ Hh.out Ht.out) (sunC hs ts) (sun_all _ _ Hh.out Ht.out)) hHeld ?_
  simp only [List.setIfInBounds_toArray, List.set_cons_zero, List.set_cons_succ]
  refine take_op (i := 1) (d := 12) (v := ?_) rfl rfl (by kernel_rfl) (by kernel_rfl) (by kernel_rfl) (fun _ _ _ h => h) (Or.inl ⟨by rfl, ?hy1u56⟩) hHeld ?rest1u56
  case hy1u56 =>
    intro w' hS'
    obtain ⟨s1, s2, s3, s4⟩ := hS'
    have q2 : w'.cell? ⟨g2, 0, none⟩ = some (.int .i64 facing) := by rw [cell_of_row w' _ _ _ _ _ s2]; rfl
    have q3 : w'.cell? ⟨g3, 0, none⟩ = some (.float .f32 le) := by rw [cell_of_row w' _ _ _ _ _ s3]; rfl
    clear s1 s2 s3 s4
    go_simp
    try with_reducible rfl
  simp only [List.setIfInBounds_toArray, List.set_cons_zero, List.set_cons_succ]
  refine wpAnyH_ready (rs := [2]) (by kernel_rfl) (by simp) ?_
  refine AllReadyH.cons rfl (fun K hK => ?_) AllReadyH.nil
  go_simp
  refine (isFacing_is facing true Hf.out _).mono ?_
  rintro e w' ⟨rfl, rfl⟩
  refine hK.out _ _ (hHeld) (fun hHeld2 => ?_)
  clear hK K
  replace hHeld := hHeld2
  clear hHeld2
  refine take_op (i := 3) (d := 14) (v := ?_) rfl rfl (by kernel_rfl) (by kernel_rfl) (by kernel_rfl) (fun _ _ _ h => h) (Or.inl ⟨by rfl, ?hy3u57⟩) hHeld ?rest3u57
  case hy3u57 =>
    intro w' hS'
    go_simp
    try with_reducible rfl
  simp only [List.setIfInBounds_toArray, List.set_cons_zero, List.set_cons_succ]
  refine take_op (i := 4) (d := 15) (v := ?_) rfl rfl (by kernel_rfl) (by kernel_rfl) (by kernel_rfl) (fun _ _ _ h => h) (Or.inl ⟨by rfl, ?hy4u58⟩) hHeld ?rest4u58
  case hy4u58 =>
    intro w' hS'
    obtain ⟨s1, s2, s3, s4⟩ := hS'
    have q2 : w'.cell? ⟨g2, 0, none⟩ = some (.int .i64 facing) := by rw [cell_of_row w' _ _ _ _ _ s2]; rfl
    have q3 : w'.cell? ⟨g3, 0, none⟩ = some (.float .f32 le) := by rw [cell_of_row w' _ _ _ _ _ s3]; rfl
    clear s1 s2 s3 s4
    go_simp
    try with_reducible rfl
  simp only [List.setIfInBounds_toArray, List.set_cons_zero, List.set_cons_succ]
  refine wpAnyH_ready (rs := [5]) (by kernel_rfl) (by simp) ?_
  refine AllReadyH.cons rfl (fun K hK => ?_) AllReadyH.nil
  go_simp
  refine (isPart_h le true Hp.out _).mono ?_
  rintro e w' ⟨rfl, rfl⟩
  refine hK.out _ _ (hHeld) (fun hHeld2 => ?_)
  clear hK K
  replace hHeld := hHeld2
  clear hHeld2
  refine take_op (i := 6) (d := 17) (v := ?_) rfl rfl (by kernel_rfl) (by kernel_rfl) (by kernel_rfl) (fun _ _ _ h => h) (Or.inl ⟨by rfl, ?hy6u59⟩) hHeld ?rest6u59
  case hy6u59 =>
    intro w' hS'
    go_simp
    try with_reducible rfl
  simp only [List.setIfInBounds_toArray, List.set_cons_zero, List.set_cons_succ]
  refine wpAnyH_ready (rs := [7]) (by kernel_rfl) (by simp) ?_
  refine AllReadyH.cons rfl (fun K hK => ?_) AllReadyH.nil
  go_simp
  refine (checkSun_is hs ts Hh.out Ht.out true 0 Hc.out _).mono ?_
  rintro e W1 ⟨rfl, hb1⟩
  refine hK.out _ _ (⟨below_row hb1 hHeld.1, below_row hb1 hHeld.2.1, below_row hb1 hHeld.2.2.1, hHeld.2.2.2.trans (hb1.mono hHeld.2.2.2.size)⟩) (fun hHeld2 => ?_)
  clear hK K
  replace hHeld := hHeld2
  clear hHeld2
  refine take_op (i := 8) (d := 8) (v := ?_) rfl rfl (by kernel_rfl) (by kernel_rfl) (by kernel_rfl) (fun _ _ _ h => h) (Or.inl ⟨by rfl, ?hy8u60⟩) hHeld ?rest8u60
  case hy8u60 =>
    intro w' hS'
    go_simp
    try with_reducible rfl
  simp only [List.setIfInBounds_toArray, List.set_cons_zero, List.set_cons_succ]
  refine wpAnyH_done (by kernel_rfl) ?_ _
  go_upto_region 4 with (fail)
  refine abs_world (fun W0 =>  W0.heap[w.heap.size]? = some (.cells (sunC hs ts) 51 (0, 0)) ∧ W0.heap[g2]? = some (.cells #[.int .i64 facing] 2 (0, 0)) ∧ W0.heap[g3]? = some (.cells #[.float .f32 le] 22 (0, 0)) ∧ Below w.heap.size w W0) hHeld ?_
  clear hHeld h0 h1 h2 hb
  rintro W0 ⟨r1, r2, r3, hb⟩
  have hle : w.heap.size ≤ W0.heap.size := hb.size
  have R1 := Lib.hid r1
  have R2 := Lib.hid r2
  have R3 := Lib.hid r3
  have HB := Lib.hid hb
  clear r1 r2 r3 hb
  go_wp2
  refine (wpIn_wide (n := 4)).1 ?_
  refine wpIn_rangeFunc_ownF rfl (by decide) (gf := 91) (lb := #[]) rfl trivial (enters_of Try.func91 (by kernel_rfl) rfl)
    (eachHour_stops Fence.wide _ trivial rfl (by decide) w.heap.size _) belowK_t (belowK_b (by simp; omega)) (Below.refl _ _) (fun _ => rfl)
    (HourI W0 (enoH hs ts facing le)) (fun _ _ _ => False) (hourI_own W0 _ _ (by first | (simp; done) | (simp; omega))) (fun _ _ _ _ _ hs _ _ => hs) ?h0
    (fun x => { tmps := #[.agg (sunC hs ts), .int .i64 facing, .float .f32 le, .pointer (some ⟨w.heap.size, 0, none⟩), .pointer (some ⟨g2, 0, none⟩), .pointer (some ⟨g3, 0, none⟩), .slice none 0 0, .int .i64 0, .int .i64 0, .pointer (some ⟨W0.heap.size, 0, none⟩), .int .i64 x.1, .agg (sunC hs ts), .int .i64 facing, .bool true, .bool true, .float .f32 le, .bool true, .bool true, .int .i64 0, .int .i64 0, .bool false, undef, .int .i64 x.1, undef, undef, undef, undef, undef, undef, undef, undef, undef, undef, undef], defers := [] }) ?assign ?body ?done ?stop
  case h0 => exact ⟨⟨.slice none 0 0, heap_alloc_new _ _, ⟨by simp [wantH], .inl ⟨rfl, by simp [wantH]⟩⟩, trivial⟩, (Below.refl _ _).alloc (Nat.le_refl _) _⟩
  case assign =>
    intro l x W K hK
    gi_wp2
    exact hK
  case body =>
    rintro l pre ⟨x, hx0, hx1⟩ W ⟨⟨v, hv, hrow, -⟩, hbw⟩ hl
    obtain ⟨k, rfl⟩ := Int.eq_ofNat_of_zero_le hx0
    have hk : k < 24 := by omega
    have HC1 := Lib.hid (HC.out (k : Int) hx0 hx1)
    have hwW : w.heap.size ≤ W.heap.size := Nat.le_trans hle hbw.size
    have HV := Lib.hid hv
    have HR := Lib.hid hrow
    clear hv hrow
    gi_wp2
    refine region_round (S := (fun W' => Below W0.heap.size W0 W')) arrU (no_defer (by rfl)) (fun ⟨_, _, h⟩ => h) hbw.drew (fun hHeld => ?_)
    refine take_op (i := 0) (d := 23) (v := .agg (sunC hs ts)) rfl rfl (by kernel_rfl) (by kernel_rfl) (by kernel_rfl) (fun _ _ _ h => h) (yields_row (by rfl) 51 (.tmp 3) (by rfl) w.heap.size 0 48 (by rfl) 51 (sunC hs ts) (0, 0) _ (fun _ h => below_row h R1.out) Try.underlying51 rfl info_sun (sun_fits _ _ Hh.out Ht.out) (sunC hs ts) (sun_all _ _ Hh.out Ht.out)) hHeld ?_
    simp only [List.setIfInBounds_toArray, List.set_cons_zero, List.set_cons_succ]
    refine take_op (i := 1) (d := 24) (v := ?_) rfl rfl (by kernel_rfl) (by kernel_rfl) (by kernel_rfl) (fun _ _ _ h => h) (Or.inl ⟨by rfl, ?hy1u61⟩) hHeld ?rest1u61
    case hy1u61 =>
      intro w' hS'
      go_simp
      try with_reducible rfl
    simp only [List.setIfInBounds_toArray, List.set_cons_zero, List.set_cons_succ]
    refine take_op (i := 2) (d := 25) (v := ?_) rfl rfl (by kernel_rfl) (by kernel_rfl) (by kernel_rfl) (fun _ _ _ h => h) (Or.inl ⟨by rfl, ?hy2u62⟩) hHeld ?rest2u62
    case hy2u62 =>
      intro w' hS'
      have q2 : w'.cell? ⟨g2, 0, none⟩ = some (.int .i64 facing) := by rw [cell_of_row w' _ _ _ _ _ (below_row hS' R2.out)]; rfl
      go_simp
      try with_reducible rfl
    simp only [List.setIfInBounds_toArray, List.set_cons_zero, List.set_cons_succ]
    refine take_op (i := 4) (d := 27) (v := ?_) rfl rfl (by kernel_rfl) (by kernel_rfl) (by kernel_rfl) (fun _ _ _ h => h) (Or.inl ⟨by rfl, ?hy4u63⟩) hHeld ?rest4u63
    case hy4u63 =>
      intro w' hS'
      have q3 : w'.cell? ⟨g3, 0, none⟩ = some (.float .f32 le) := by rw [cell_of_row w' _ _ _ _ _ (below_row hS' R3.out)]; rfl
      go_simp
      try with_reducible rfl
    simp only [List.setIfInBounds_toArray, List.set_cons_zero, List.set_cons_succ]
    refine wpAnyH_ready (rs := [3]) (by kernel_rfl) (by simp) ?_
    refine AllReadyH.cons rfl (fun K hK => ?_) AllReadyH.nil
    go_simp
    refine (HC1.out _).mono ?_
    rintro e W3 ⟨rfl, hb1⟩
    refine hK.out _ _ (hHeld.trans (hb1.mono hHeld.size)) (fun hHeld2 => ?_)
    clear hK K
    replace hHeld := hHeld2
    clear hHeld2
    refine take_op (i := 5) (d := 28) (v := ?_) rfl rfl (by kernel_rfl) (by kernel_rfl) (by kernel_rfl) (fun _ _ _ h => h) (Or.inl ⟨by rfl, ?hy5u64⟩) hHeld ?rest5u64
    case hy5u64 =>
      intro w' hS'
      go_simp
      try with_reducible rfl
    simp only [List.setIfInBounds_toArray, List.set_cons_zero, List.set_cons_succ]
    refine wpAnyH_done (by kernel_rfl) ?_ _
    have hv3 : Boxed W3 W0.heap.size 56 v := below_row hb1 HV.out
    have hrow3 : W3.ownsRow W0.heap.size 2 1 v (wantH (enoH hs ts facing le) pre).length ((wantH (enoH hs ts facing le) pre).map (Value.int .i64)) := owns_below (W := W.drew) HR.out hb1
    have hB2 : Hid (Below w.heap.size W W3) := (Below.drew (Below.refl w.heap.size W)).trans (hb1.mono hwW)
    have hK1 : Hid (KeepsOthers W W3) := (KeepsOthers.drew W).trans (keeps_of_below hb1)
    have hcv := hv3.cell
    have hwl := wantH_len (enoH hs ts facing le) pre
    have hsz3 : W0.heap.size ≤ W3.heap.size := hHeld.size
    clear HV HR
    cases hq : (FloatKind.f32.format.order (fallOf hs ts (k : Int) facing) le == some Ordering.gt || FloatKind.f32.format.order (fallOf hs ts (k : Int) facing) le == some Ordering.eq)
    · have HX : Hid (wantH (enoH hs ts facing le) (pre ++ [⟨(k : Int), hx0, hx1⟩]) = wantH (enoH hs ts facing le) pre) := wantH_miss _ pre ⟨(k : Int), hx0, hx1⟩ hq
      gi_wp2
      exact ⟨hK1.out, hB2.out, ⟨v, hv3, by rw [HX.out]; exact hrow3, trivial⟩, hHeld⟩
    · have HX : Hid (wantH (enoH hs ts facing le) (pre ++ [⟨(k : Int), hx0, hx1⟩]) = wantH (enoH hs ts facing le) pre ++ [(k : Int)]) := wantH_hit _ pre ⟨(k : Int), hx0, hx1⟩ hq
      clear hq
      gi_wp2_with (gi_at_builtin; refine wpListIn_append_own _ rfl _ _ 56 rfl W0.heap.size 2 i0 (.int .i64 0) 1 8 Try.underlying56 hi hz0 hz1 hz2 rfl (by decide) _ _ _ rfl (hrow3.alloc _) ⟨W3.heap.size, 0, none⟩ 1 1 [.int .i64 (k : Int)] rfl rfl (cell_one_new _ _ _) (by simp [Value.oneCell']) (by unfold maxLen; omega) (by omega) (by simp; omega) ?_; intro v' w1 hown' hgrow _; obtain ⟨g', cap', rfl⟩ := ownsRow_succ hown'; obtain ⟨hv1, hv2, hr2, hk2, hbA⟩ := hv3.appended (by decide) hrow3 hsz3 (by omega) hown' hgrow; have hc1 := hv1.cell; have hf1 := hv1.frozen)
      exact ⟨hK1.out.trans hk2, hB2.out.trans (hbA.mono hle), ⟨_, hv2, by rw [HX.out]; simpa using hr2, trivial⟩, hHeld.trans hbA⟩
  case done =>
    rintro D zs W hD rfl ⟨⟨v, hv, hrow, -⟩, hbw⟩ hK
    rename_i K hcont
    have hcv := hv.cell
    have hD' : w.heap.size ≤ D := by simp at hD; omega
    have hwl := wantH_len (enoH hs ts facing le) (hrs 24)
    rw [hrs_length] at hwl
    have HK := Lib.hid hK
    have hby := HB.out.trans (hbw.mono hle)
    have HO : Hid (Own W w.heap.size 2 (Value.int .i64) v (wantH (enoH hs ts facing le) (hrs 24))) := own_base (own_of_row hrow (by unfold maxLen; omega)) hle
    have HKB := Lib.hid (fun o' => belowK_b (w := w) (Nat.le_refl _) W D _ o' hD' HK.out rfl rfl)
    clear hv hrow hbw hD hK
    refine hcont _ _ ?_
    go_wp2
    refine ⟨by simp, .inl ⟨_, _, rfl, run_takeDeferred HK.out, ?_⟩⟩
    refine ⟨.tuple #[v, .int .i64 0], ?_, ⟨_, rfl, ?_⟩, hby.trans (HKB.out _)⟩
    · exact results_tmp2 (fn := Try.f33) rfl _ _ _
    · exact own_put HO.out HK.out rfl
  case stop =>
    rintro D c pre W _ _ h _
    exact h.elim


end Go.Proofs.Yteagbfobnjfhcab
