/-
  The light of an hour on a window behind an awning: the program's methods.
-/
import Derived.Test.YthpimcfmgefkkaaDoorShA
import Derived.Test.YthpimcfmgefkkaaDoorShadeN
import Derived.Test.YthpimcfmgefkkaaDoorFallOn
import Derived.Test.YthpimcfmgefkkaaDoorAwOk
import Derived.Test.YthpimcfmgefkkaaDoorTake
import Derived.Test.YthpimcfmgefkkaaDoorBox
namespace Go.Proofs.YthpimcfmgefkkaaDoor
open Go.ChangeShapes Go.WideShapes Go.ChangeAt Go.RowKit Go.Deep Go.Joins

/-- An hour and a facing that are in their ranges, and what a valid sun tells of the hour. -/
structure HrOk (hs ts : List Int) (hour fc : Int) : Prop where
  h0 : 0 ≤ hour
  h1 : hour < 24
  f0 : 0 ≤ fc
  f1 : fc ≤ 255
  x0 : -64 ≤ atH hs hour
  x1 : atH hs hour ≤ 64
  y0 : 0 ≤ atH ts hour
  y1 : atH ts hour ≤ 255

theorem hrok_of {hs ts : List Int} (hh : hs.length = 24) (ht : ts.length = 24) (ho : okB hs ts = true) {hour fc : Int} (h0 : 0 ≤ hour) (h1 : hour < 24) (hf : inF fc = true) : HrOk hs ts hour fc :=
  ⟨h0, h1, (inF_bd hf).1, (inF_bd hf).2, (okB_h hh ht ho hour h0 h1).1, (okB_h hh ht ho hour h0 h1).2, (okB_t hh ht ho hour h0 h1).1, (okB_t hh ht ho hour h0 h1).2⟩

set_option maxRecDepth 100000 in
set_option maxHeartbeats 1000000 in
theorem fall_any (hs ts : List Int) (hh : hs.length = 24) (ht : ts.length = 24) (fc hour : Int) (k : HrOk hs ts hour fc) (w : World) :
    Calls Tryd.prog 30 #[.agg (fsC hs ts fc), .int .i64 hour] w fun e w' => e = .returned (.float .f32 (fallOf hs ts hour fc)) ∧ Below w.heap.size w w' := by
  have HF := Lib.hid (fun w => fallAt_any hs ts hh ht hour fc k.h0 k.h1 k.f0 k.f1 k.x1 k.y0 k.y1 w)
  have Hh := Lib.hid hh
  have Ht := Lib.hid ht
  clear hh ht
  clear k
  go_enter Tryd.func30, Tryd.ntmps30
  go_upto_region 1 with (fail)
  refine abs_world (fun W => W.heap[w.heap.size]? = some (.cells (fsC hs ts fc) 47 (0, 0)) ∧ Below w.heap.size w W) (⟨heap_alloc_new _ _, (Below.refl _ _).alloc (Nat.le_refl _) _⟩) ?_
  rintro W ⟨h0, hb⟩
  have H0 := Lib.hid h0
  have c48 := fs_cell Hh.out Ht.out h0
  clear h0
  go_wp2_with (first | (refine wpList_load_partG 33 _ rfl w.heap.size 0 48 rfl rfl 47 (fsC hs ts fc) (0, 0) _ H0.out Tryd.underlying33 rfl info_sun (fs_fits48 _ _ _ Hh.out Ht.out) _ (fs_sun _ _ _ Hh.out Ht.out) ?_) | (refine wpList_load_partG 47 _ rfl w.heap.size 0 49 rfl rfl 47 (fsC hs ts fc) (0, 0) _ H0.out Tryd.underlying47 rfl info_fs (fs_fits _ _ _ Hh.out Ht.out) _ (fs_all _ _ _ Hh.out Ht.out) ?_) | (go_at_call 39; refine (HF.out _).mono ?_; rintro e W1 ⟨rfl, hb1⟩; replace H0 := Lib.hid (below_row hb1 H0.out); replace hb := hb.trans (hb1.mono hb.size); clear hb1))
  go_ret
  exact ⟨rfl, hb⟩

set_option maxRecDepth 100000 in
set_option maxHeartbeats 1000000 in
theorem fsine_any (hs ts : List Int) (hh : hs.length = 24) (ht : ts.length = 24) (fc hour : Int) (k : HrOk hs ts hour fc) (w : World) :
    Calls Tryd.prog 31 #[.agg (fsC hs ts fc), .int .i64 hour] w fun e w' => e = .returned (.float .f32 (groundB (atH hs hour))) ∧ Below w.heap.size w w' := by
  have HF := Lib.hid (fun w => groundAt_any hs ts hh ht hour k.h0 k.h1 k.x1 w)
  have Hh := Lib.hid hh
  have Ht := Lib.hid ht
  clear hh ht
  clear k
  go_enter Tryd.func31, Tryd.ntmps31
  go_upto_region 1 with (fail)
  refine abs_world (fun W => W.heap[w.heap.size]? = some (.cells (fsC hs ts fc) 47 (0, 0)) ∧ Below w.heap.size w W) (⟨heap_alloc_new _ _, (Below.refl _ _).alloc (Nat.le_refl _) _⟩) ?_
  rintro W ⟨h0, hb⟩
  have H0 := Lib.hid h0
  have c48 := fs_cell Hh.out Ht.out h0
  clear h0
  go_wp2_with (first | (refine wpList_load_partG 33 _ rfl w.heap.size 0 48 rfl rfl 47 (fsC hs ts fc) (0, 0) _ H0.out Tryd.underlying33 rfl info_sun (fs_fits48 _ _ _ Hh.out Ht.out) _ (fs_sun _ _ _ Hh.out Ht.out) ?_) | (refine wpList_load_partG 47 _ rfl w.heap.size 0 49 rfl rfl 47 (fsC hs ts fc) (0, 0) _ H0.out Tryd.underlying47 rfl info_fs (fs_fits _ _ _ Hh.out Ht.out) _ (fs_all _ _ _ Hh.out Ht.out) ?_) | (go_at_call 40; refine (HF.out _).mono ?_; rintro e W1 ⟨rfl, hb1⟩; replace H0 := Lib.hid (below_row hb1 H0.out); replace hb := hb.trans (hb1.mono hb.size); clear hb1))
  go_ret
  exact ⟨rfl, hb⟩

theorem fall_gt {f : Nat} (f0 : 975015322 ≤ f) (f1 : f ≤ 1065353216) : FloatKind.f32.format.order f 0 = some .gt := by
  rw [order_pos (by omega) (by decide), Nat.compare_eq_gt.2 (by omega)]

theorem fall_eq : FloatKind.f32.format.order 0 0 = some .eq := by decide +kernel

theorem eq_one {q : Nat} (hq : q < 4294967296) (h : FloatKind.f32.format.order q 1065353216 = some .eq) : q = 1065353216 := by
  rcases word_cases q hq with c | c | c | c
  · rw [order_num c (.inl (by decide))] at h
    injection h with h
    have k := Int.compare_eq_eq.1 h
    rw [sv_pos (x := 1065353216) (by decide)] at k
    have p := rv_pos (r := 1065353216) (by decide)
    rcases c with c | ⟨c0, c1⟩
    · rw [sv_pos (x := q) (by omega)] at k
      exact rv_inj (by omega)
    · obtain ⟨r, rfl⟩ : ∃ r, q = 2147483648 + r := ⟨q - 2147483648, by omega⟩
      have := sv_neg_le r
      omega
  · subst c
    rw [(inf_order 1065353216 (.inl (by decide))).1] at h; cases h
  · subst c
    rw [(inf_order 1065353216 (.inl (by decide))).2] at h; cases h
  · rw [nan_order c] at h; cases h

theorem run_minq (q : Nat) (hq : q < 4294967296) (hf : fin32 q = true) (h0 : FloatKind.f32.format.order q 0 = some .gt) (ts : Array TypeId) (T : TypeId) (w : World) : (Builtin.min_ ts T #[.float .f32 q, .float .f32 1065353216]).run Tryd.prog w = .ok (.float .f32 (cutB q)) w := by
  obtain ⟨o, ho⟩ := order_some hf (num_fin (num_of_isNum (x := 1065353216) (.inl (by decide))))
  unfold cutB
  rw [if_pos h0]
  simp only [Builtin.min_, List.foldlM_cons, List.foldlM_nil, Builtin.min2, ho]
  cases o
  · rfl
  · have e := eq_one hq ho
    subst e; rfl
  · rfl

theorem cut_le0 {q : Nat} (h0 : FloatKind.f32.format.order q 0 = some .lt ∨ FloatKind.f32.format.order q 0 = some .eq) : cutB q = 0 := by
  unfold cutB
  rcases h0 with h0 | h0 <;> rw [h0] <;> rfl

theorem shB_zero (o dr gp tl : Nat) (x : Int) : shB o dr gp tl x 0 = 0 := rfl

theorem shB_pos {o dr gp tl : Nat} {x : Int} {f : Nat} (h : 975015322 ≤ f) : shB o dr gp tl x f = cutB (quoA o dr gp tl x f) := if_neg (by omega)

theorem run_qf (op : BinOp) (x y r : Nat) (h : floatBits op .f32 x y = some r) : ∀ t w, (binOp op t (.float .f32 x) (.float .f32 y)).run Tryd.prog w = .ok (.float .f32 r) w := fun t w => run_float_arith w op t .f32 x y r h

set_option maxRecDepth 100000 in
set_option maxHeartbeats 1000000 in
theorem part_zero (o dr gp tl : Nat) (hs ts : List Int) (hh : hs.length = 24) (ht : ts.length = 24) (fc hour : Int) (k : HrOk hs ts hour fc) (hf : fallOf hs ts hour fc = 0) (w : World) :
    Calls Tryd.prog 19 #[.agg (shC hs ts fc o dr gp tl), .int .i64 hour] w fun e w' => e = .returned (.float .f32 0) ∧ Below w.heap.size w w' := by
  have HF := Lib.hid (fun w => fall_any hs ts hh ht fc hour k w)
  rw [hf] at HF
  have ho := fall_eq
  have Hh := Lib.hid hh
  have Ht := Lib.hid ht
  clear hh ht
  clear k hf
  go_enter Tryd.func19, Tryd.ntmps19
  go_upto_region 1 with (fail)
  refine abs_world (fun W => W.heap[w.heap.size]? = some (.cells (shC hs ts fc o dr gp tl) 49 (0, 0)) ∧ Below w.heap.size w W) (⟨heap_alloc_new _ _, (Below.refl _ _).alloc (Nat.le_refl _) _⟩) ?_
  rintro W ⟨h0, hb⟩
  have H0 := Lib.hid h0
  clear h0
  go_wp2_with (first | (refine wpList_load_partG 47 _ rfl w.heap.size 0 49 rfl rfl 49 (shC hs ts fc o dr gp tl) (0, 0) _ H0.out Tryd.underlying47 rfl info_fs (sh_fits49 _ _ _ _ _ _ _ Hh.out Ht.out) _ (sh_fs _ _ _ _ _ _ _ Hh.out Ht.out) ?_) | (refine wpList_load_partG 49 _ rfl w.heap.size 0 53 rfl rfl 49 (shC hs ts fc o dr gp tl) (0, 0) _ H0.out Tryd.underlying49 rfl info_sh (sh_fits _ _ _ _ _ _ _ Hh.out Ht.out) _ (sh_all _ _ _ _ _ _ _ Hh.out Ht.out) ?_) | (go_at_call 30; refine (HF.out _).mono ?_; rintro e W1 ⟨rfl, hb1⟩; replace H0 := Lib.hid (below_row hb1 H0.out); replace hb := hb.trans (hb1.mono hb.size); clear hb1))
  go_ret
  exact ⟨rfl, hb⟩

set_option maxRecDepth 100000 in
set_option maxHeartbeats 1000000 in
theorem part_pos {o dr gp tl : Nat} (aw : AwOk o dr gp tl) (hs ts : List Int) (hh : hs.length = 24) (ht : ts.length = 24) (fc hour : Int) (k : HrOk hs ts hour fc) (f : Nat) (hf : fallOf hs ts hour fc = f) (f0 : 975015322 ≤ f) (f1 : f ≤ 1065353216) (x0 : 0 < atH hs hour) (w : World) :
    Calls Tryd.prog 19 #[.agg (shC hs ts fc o dr gp tl), .int .i64 hour] w fun e w' => e = .returned (.float .f32 (cutB (quoA o dr gp tl (atH hs hour) f))) ∧ Below w.heap.size w w' := by
  have HF := Lib.hid (fun w => fall_any hs ts hh ht fc hour k w)
  rw [hf] at HF
  have HG := Lib.hid (fun w => fsine_any hs ts hh ht fc hour k w)
  rw [show groundB (atH hs hour) = sineB (atH hs hour) from if_pos x0] at HG
  have ho := fall_gt f0 f1
  obtain ⟨r1, r2, r3, r4, r5, r6⟩ := shade_facts aw.o aw.d aw.g aw.t0 aw.t1 x0 k.x1 f0 f1
  have hq := quoA_lt r5
  obtain ⟨oq, hoq⟩ := order_some r6 zero_fin
  generalize quoA o dr gp tl (atH hs hour) f = q at *
  generalize depB o dr (atH hs hour) f = de at *
  generalize ratB (atH hs hour) f = ra at *
  generalize sineB (atH hs hour) = sx at *
  generalize fsub de gp = su at *
  generalize fmul o ra = mu at *
  have q1 := run_qf _ _ _ _ r1
  have q2 := run_qf _ _ _ _ r2
  have q3 := run_qf _ _ _ _ r3
  have q4 := run_qf _ _ _ _ r4
  have q5 := run_qf _ _ _ _ r5
  have Hh := Lib.hid hh
  have Ht := Lib.hid ht
  clear hh ht
  clear k hf r1 r2 r3 r4 r5 x0 f0 f1 aw
  have HQ := Lib.hid (And.intro hq r6)
  clear hq r6
  go_enter Tryd.func19, Tryd.ntmps19
  go_upto_region 1 with (fail)
  refine abs_world (fun W => W.heap[w.heap.size]? = some (.cells (shC hs ts fc o dr gp tl) 49 (0, 0)) ∧ Below w.heap.size w W) (⟨heap_alloc_new _ _, (Below.refl _ _).alloc (Nat.le_refl _) _⟩) ?_
  rintro W ⟨h0, hb⟩
  have H0 := Lib.hid h0
  have hcs := sh_cells Hh.out Ht.out h0
  obtain ⟨c49, c50, c51, c52⟩ := hcs
  clear h0
  go_upto_region 4 with (first | (refine wpList_load_partG 47 _ rfl w.heap.size 0 49 rfl rfl 49 (shC hs ts fc o dr gp tl) (0, 0) _ H0.out Tryd.underlying47 rfl info_fs (sh_fits49 _ _ _ _ _ _ _ Hh.out Ht.out) _ (sh_fs _ _ _ _ _ _ _ Hh.out Ht.out) ?_) | (refine wpList_load_partG 49 _ rfl w.heap.size 0 53 rfl rfl 49 (shC hs ts fc o dr gp tl) (0, 0) _ H0.out Tryd.underlying49 rfl info_sh (sh_fits _ _ _ _ _ _ _ Hh.out Ht.out) _ (sh_all _ _ _ _ _ _ _ Hh.out Ht.out) ?_) | (go_at_call 30; refine (HF.out _).mono ?_; rintro e W1 ⟨rfl, hb1⟩; replace H0 := Lib.hid (below_row hb1 H0.out); replace c49 := cell_belowB hb1 c49; replace c50 := cell_belowB hb1 c50; replace c51 := cell_belowB hb1 c51; replace c52 := cell_belowB hb1 c52; replace hb := hb.trans (hb1.mono hb.size); clear hb1) | (go_at_call 31; refine (HG.out _).mono ?_; rintro e W2 ⟨rfl, hb2⟩; replace H0 := Lib.hid (below_row hb2 H0.out); replace c49 := cell_belowB hb2 c49; replace c50 := cell_belowB hb2 c50; replace c51 := cell_belowB hb2 c51; replace c52 := cell_belowB hb2 c52; replace hb := hb.trans (hb2.mono hb.size); clear hb2))
  refine wp_region_held_drew (S := (fun V => Below W1.heap.size W1 V)) (by kernel_rfl) ((Below.refl _ _).drew) (fun hHeld => ?_)
  refine take_op (i := 0) (d := 14) (v := ?_) rfl rfl (by kernel_rfl) (by kernel_rfl) (by kernel_rfl) (fun _ _ _ h => h) (Or.inl ⟨by rfl, ?hy0u1⟩) hHeld ?rest0u1
  case hy0u1 =>
    intro w' hS'
    go_simp
    try with_reducible rfl
  simp only [List.setIfInBounds_toArray, List.set_cons_zero, List.set_cons_succ]
  refine take_op (i := 1) (d := 15) (v := ?_) rfl rfl (by kernel_rfl) (by kernel_rfl) (by kernel_rfl) (fun _ _ _ h => h) (Or.inl ⟨by rfl, ?hy1u2⟩) hHeld ?rest1u2
  case hy1u2 =>
    intro w' hS'
    go_simp
    try with_reducible rfl
  simp only [List.setIfInBounds_toArray, List.set_cons_zero, List.set_cons_succ]
  refine take_op (i := 2) (d := 16) (v := ?_) rfl rfl (by kernel_rfl) (by kernel_rfl) (by kernel_rfl) (fun _ _ _ h => h) (Or.inl ⟨by rfl, ?hy2u3⟩) hHeld ?rest2u3
  case hy2u3 =>
    intro w' hS'
    have c49 := cell_belowB hS' c49
    have c50 := cell_belowB hS' c50
    have c51 := cell_belowB hS' c51
    have c52 := cell_belowB hS' c52
    go_simp
    try with_reducible rfl
  simp only [List.setIfInBounds_toArray, List.set_cons_zero, List.set_cons_succ]
  refine take_op (i := 3) (d := 17) (v := ?_) rfl rfl (by kernel_rfl) (by kernel_rfl) (by kernel_rfl) (fun _ _ _ h => h) (Or.inl ⟨by rfl, ?hy3u4⟩) hHeld ?rest3u4
  case hy3u4 =>
    intro w' hS'
    go_simp
    try with_reducible rfl
  simp only [List.setIfInBounds_toArray, List.set_cons_zero, List.set_cons_succ]
  refine take_op (i := 4) (d := 18) (v := .agg (fsC hs ts fc)) rfl rfl (by kernel_rfl) (by kernel_rfl) (by kernel_rfl) (fun _ _ _ h => h) (yields_row (by rfl) 47 (.tmp 17) (by rfl) w.heap.size 0 49 (by rfl) 49 (shC hs ts fc o dr gp tl) (0, 0) _ (fun _ h => below_row h H0.out) Tryd.underlying47 rfl info_fs (sh_fits49 _ _ _ _ _ _ _ Hh.out Ht.out) (fsC hs ts fc) (sh_fs _ _ _ _ _ _ _ Hh.out Ht.out)) hHeld ?_
  simp only [List.setIfInBounds_toArray, List.set_cons_zero, List.set_cons_succ]
  refine take_op (i := 5) (d := 19) (v := ?_) rfl rfl (by kernel_rfl) (by kernel_rfl) (by kernel_rfl) (fun _ _ _ h => h) (Or.inl ⟨by rfl, ?hy5u5⟩) hHeld ?rest5u5
  case hy5u5 =>
    intro w' hS'
    go_simp
    try with_reducible rfl
  simp only [List.setIfInBounds_toArray, List.set_cons_zero, List.set_cons_succ]
  refine take_op (i := 7) (d := 21) (v := ?_) rfl rfl (by kernel_rfl) (by kernel_rfl) (by kernel_rfl) (fun _ _ _ h => h) (Or.inl ⟨by rfl, ?hy7u6⟩) hHeld ?rest7u6
  case hy7u6 =>
    intro w' hS'
    go_simp
    try with_reducible rfl
  simp only [List.setIfInBounds_toArray, List.set_cons_zero, List.set_cons_succ]
  refine take_op (i := 10) (d := 24) (v := ?_) rfl rfl (by kernel_rfl) (by kernel_rfl) (by kernel_rfl) (fun _ _ _ h => h) (Or.inl ⟨by rfl, ?hy10u7⟩) hHeld ?rest10u7
  case hy10u7 =>
    intro w' hS'
    go_simp
    try with_reducible rfl
  simp only [List.setIfInBounds_toArray, List.set_cons_zero, List.set_cons_succ]
  refine take_op (i := 11) (d := 25) (v := ?_) rfl rfl (by kernel_rfl) (by kernel_rfl) (by kernel_rfl) (fun _ _ _ h => h) (Or.inl ⟨by rfl, ?hy11u8⟩) hHeld ?rest11u8
  case hy11u8 =>
    intro w' hS'
    go_simp
    try with_reducible rfl
  simp only [List.setIfInBounds_toArray, List.set_cons_zero, List.set_cons_succ]
  refine take_op (i := 12) (d := 26) (v := ?_) rfl rfl (by kernel_rfl) (by kernel_rfl) (by kernel_rfl) (fun _ _ _ h => h) (Or.inl ⟨by rfl, ?hy12u9⟩) hHeld ?rest12u9
  case hy12u9 =>
    intro w' hS'
    have c49 := cell_belowB hS' c49
    have c50 := cell_belowB hS' c50
    have c51 := cell_belowB hS' c51
    have c52 := cell_belowB hS' c52
    go_simp
    try with_reducible rfl
  simp only [List.setIfInBounds_toArray, List.set_cons_zero, List.set_cons_succ]
  refine wpAnyH_ready (rs := [6]) (by kernel_rfl) (by simp) ?_
  refine AllReadyH.cons rfl (fun K hK => ?_) AllReadyH.nil
  go_simp
  refine (HG.out _).mono ?_
  rintro e W4 ⟨rfl, hb4⟩
  refine hK.out _ _ (hHeld.trans (hb4.mono hHeld.size)) (fun hHeld2 => ?_)
  clear hK K
  replace hHeld := hHeld2
  clear hHeld2
  clear hb4
  refine take_op (i := 8) (d := 22) (v := ?_) rfl rfl (by kernel_rfl) (by kernel_rfl) (by kernel_rfl) (fun _ _ _ h => h) (Or.inl ⟨by rfl, ?hy8u10⟩) hHeld ?rest8u10
  case hy8u10 =>
    intro w' hS'
    go_simp
    try with_reducible rfl
  simp only [List.setIfInBounds_toArray, List.set_cons_zero, List.set_cons_succ]
  refine take_op (i := 9) (d := 23) (v := ?_) rfl rfl (by kernel_rfl) (by kernel_rfl) (by kernel_rfl) (fun _ _ _ h => h) (Or.inl ⟨by rfl, ?hy9u11⟩) hHeld ?rest9u11
  case hy9u11 =>
    intro w' hS'
    go_simp
    try with_reducible rfl
  simp only [List.setIfInBounds_toArray, List.set_cons_zero, List.set_cons_succ]
  refine take_op (i := 13) (d := 27) (v := ?_) rfl rfl (by kernel_rfl) (by kernel_rfl) (by kernel_rfl) (fun _ _ _ h => h) (Or.inl ⟨by rfl, ?hy13u12⟩) hHeld ?rest13u12
  case hy13u12 =>
    intro w' hS'
    go_simp
    try with_reducible rfl
  simp only [List.setIfInBounds_toArray, List.set_cons_zero, List.set_cons_succ]
  refine take_op (i := 14) (d := 6) (v := ?_) rfl rfl (by kernel_rfl) (by kernel_rfl) (by kernel_rfl) (fun _ _ _ h => h) (Or.inl ⟨by rfl, ?hy14u13⟩) hHeld ?rest14u13
  case hy14u13 =>
    intro w' hS'
    go_simp
    try with_reducible rfl
  simp only [List.setIfInBounds_toArray, List.set_cons_zero, List.set_cons_succ]
  refine wpAnyH_done (by kernel_rfl) ?_ _
  replace H0 := Lib.hid (below_row hHeld H0.out)
  replace c49 := cell_belowB hHeld c49
  replace c50 := cell_belowB hHeld c50
  replace c51 := cell_belowB hHeld c51
  replace c52 := cell_belowB hHeld c52
  replace hb := hb.trans (hHeld.mono hb.size)
  clear hHeld
  go_upto_region 6 with (fail)
  cases oq
  · have hc := Lib.hid (cut_le0 (.inl hoq))
    go_wp2
    go_ret
    exact ⟨ret_f32 hc.out.symm, hb⟩
  · have hc := Lib.hid (cut_le0 (.inr hoq))
    go_wp2
    go_ret
    exact ⟨ret_f32 hc.out.symm, hb⟩
  · have hm := run_minq q HQ.out.1 HQ.out.2 hoq
    go_wp2
    go_ret
    exact ⟨rfl, hb⟩

theorem part_any {o dr gp tl : Nat} (aw : AwOk o dr gp tl) (hs ts : List Int) (hh : hs.length = 24) (ht : ts.length = 24) (fc hour : Int) (k : HrOk hs ts hour fc) (w : World) :
    Calls Tryd.prog 19 #[.agg (shC hs ts fc o dr gp tl), .int .i64 hour] w fun e w' => e = .returned (.float .f32 (shB o dr gp tl (atH hs hour) (fallOf hs ts hour fc))) ∧ Below w.heap.size w w' := by
  by_cases x0 : 0 < atH hs hour
  · rcases fall_rng (atH hs hour) (atH ts hour - fc) x0 k.x1 with h | ⟨f0, f1⟩
    · rw [show fallOf hs ts hour fc = 0 from h, shB_zero]
      exact part_zero o dr gp tl hs ts hh ht fc hour k h w
    · rw [shB_pos (f := fallOf hs ts hour fc) f0]
      exact part_pos aw hs ts hh ht fc hour k _ rfl f0 f1 x0 w
  · have h : fallOf hs ts hour fc = 0 := if_neg x0
    rw [h, shB_zero]
    exact part_zero o dr gp tl hs ts hh ht fc hour k h w

theorem fall_le {hs ts : List Int} {hour fc : Int} (k : HrOk hs ts hour fc) : fallOf hs ts hour fc ≤ 1065353216 := by
  by_cases x0 : 0 < atH hs hour
  · rcases fall_rng (atH hs hour) (atH ts hour - fc) x0 k.x1 with h | ⟨_, f1⟩
    · rw [show fallOf hs ts hour fc = 0 from h]; decide
    · exact f1
  · rw [show fallOf hs ts hour fc = 0 from if_neg x0]; decide

theorem shB_le {o dr gp tl : Nat} (aw : AwOk o dr gp tl) {hs ts : List Int} {hour fc : Int} (k : HrOk hs ts hour fc) : shB o dr gp tl (atH hs hour) (fallOf hs ts hour fc) ≤ 1065353216 := by
  by_cases x0 : 0 < atH hs hour
  · rcases fall_rng (atH hs hour) (atH ts hour - fc) x0 k.x1 with h | ⟨f0, f1⟩
    · rw [show fallOf hs ts hour fc = 0 from h, shB_zero]; decide
    · rw [shB_pos (f := fallOf hs ts hour fc) f0]
      obtain ⟨_, _, _, _, r5, _⟩ := shade_facts aw.o aw.d aw.g aw.t0 aw.t1 x0 k.x1 f0 f1
      exact cutB_le (quoA_lt r5)
  · rw [show fallOf hs ts hour fc = 0 from if_neg x0, shB_zero]; decide

/-- The light behind an awning at an hour. -/
def behOf (o dr gp tl : Nat) (hs ts : List Int) (hour fc : Int) : Nat := behB (fallOf hs ts hour fc) (shB o dr gp tl (atH hs hour) (fallOf hs ts hour fc))

theorem beh_le {o dr gp tl : Nat} (aw : AwOk o dr gp tl) {hs ts : List Int} {hour fc : Int} (k : HrOk hs ts hour fc) : behOf o dr gp tl hs ts hour fc ≤ 1065353216 := Nat.le_trans (beh_facts (fall_le k) (shB_le aw k)).2.2 (fall_le k)

end Go.Proofs.YthpimcfmgefkkaaDoor
