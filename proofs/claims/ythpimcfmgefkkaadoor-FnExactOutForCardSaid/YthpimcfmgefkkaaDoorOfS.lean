/-
  How far an awning has to reach out: the model.
-/
import Derived.Test.YthpimcfmgefkkaaDoorOfP
import Derived.Test.YthpimcfmgefkkaaDoorShC
import Derived.Test.YthpimcfmgefkkaaDoorPart
namespace Go.Proofs.YthpimcfmgefkkaaDoor
open Go.ChangeShapes Go.WideShapes Go.ChangeAt Go.RowKit Go.Deep Go.Joins

attribute [local go_sem] run_store_f

theorem yields_buildO {P : Program} {ops : Array Oper} {S : World → Prop} {o : Oper} {a : Act} (hw : Region.wanted o (yielded ops a.tmps) = true) (t : TypeId) (parts : Array (Nat × Operand)) (ho : o.op = .build t parts)
    (l : List (Nat × Value)) (hp : parts.toList.map (fun x => (x.1, a.eval x.2)) = l) (cells : Array Value) (hf : P.built t l = some cells) : YieldsIf P ops S o (.agg cells) a :=
  .inl ⟨hw, fun w _ => by
    have e : P.built t (parts.map fun (i, x) => (i, a.eval x)).toList = some cells := by rw [Array.toList_map, ← hf, ← hp]
    unfold execOp
    simp only [ho, Sem.run_bind, run_build w t _ cells e, Result.andThen_ok]
    rfl⟩

theorem run_store_rowO {P : Program} (w : World) (g : Nat) (t : TypeId) (vs old : Array Value) (hg : w.heap[g]? = some (.cells old t (0, 0))) (hs : old.size = vs.size) (h1 : ∀ v ∈ vs, v.oneCell' = true) :
    (storeCells ⟨g, 0, none⟩ vs.toList).run P w = .ok () (w.setRow g vs) := by
  have hst := run_storeCells_at P g 0 t vs.toList 0 old w hg (by simp; omega) (fun v hv => h1 v (by simpa using hv))
  have hl := laid_all old vs hs
  unfold laid at hl
  simp only [Nat.add_zero] at hst
  rw [hst]
  simp at hl ⊢
  rw [hl]

theorem built_awO (o dr gp tl : Nat) : Tryd.prog.built 31 [(0, .float .f32 o), (1, .float .f32 dr), (2, .float .f32 gp), (3, .float .f32 tl)] = some (awC o dr gp tl) := by kernel_rfl

set_option maxRecDepth 100000 in
set_option maxHeartbeats 4000000 in
theorem l04With_any {dr gp tl : Nat} (aw : ∀ o, o ≤ 1090519040 → AwOk o dr gp tl) (hs ts : List Int) (hh : hs.length = 24) (ht : ts.length = 24) (hour : Int) (fc : Int) (le : Nat) (k : HrOk hs ts hour fc) (x : Nat) (hx : x ≤ 1090519040) (o g1 g2 : Nat) (T1 T2 : TypeId) (f1 f2 : Nat × Nat) (w : World) (q1 : w.heap[g1]? = some (.cells (awC o dr gp tl) T1 f1)) (q2 : w.heap[g2]? = some (.cells (sunC hs ts) T2 f2)) :
    Calls Tryd.prog 11 #[.pointer (some ⟨g1, 0, none⟩), .pointer (some ⟨g2, 0, none⟩), .int .i64 hour, .int .i64 fc, .float .f32 x, .float .f32 le] w fun e w' => e = .returned (.bool (enoB dr gp tl (atH hs hour) (fallOf hs ts hour fc) le x)) ∧ Below w.heap.size w w' := by
  have HP := Lib.hid (fun g w p1 p2 => l04Part_any (aw x hx) hs ts hh ht fc hour k g g2 31 T2 (0, 0) f2 w p1 p2)
  obtain ⟨p, hp⟩ : ∃ p, p = shB x dr gp tl (atH hs hour) (fallOf hs ts hour fc) := ⟨_, rfl⟩
  have e : enoB dr gp tl (atH hs hour) (fallOf hs ts hour fc) le x = (FloatKind.f32.format.order p le == some .gt || FloatKind.f32.format.order p le == some .eq) := by unfold enoB; rw [← hp]; rfl
  rw [e]
  rw [← hp] at HP
  obtain ⟨c0, c1, c2, c3⟩ := aw_cells q1
  have H2 := Lib.hid q2
  clear k aw e hp hx q1 q2 c0 hh ht
  go_enter Tryd.func11, Tryd.ntmps11
  go_upto_region 1 with (fail)
  refine wp_region_held_drew (S := (fun V => Below w.heap.size w V)) (by kernel_rfl) ((Below.refl _ _).drew) (fun hHeld => ?_)
  generalize w.drew = Y0 at *
  refine take_op (i := 0) (d := 14) (v := ?_) rfl rfl (by kernel_rfl) (by kernel_rfl) (by kernel_rfl) (fun _ _ _ h => h) (Or.inl ⟨by rfl, ?hy0u5⟩) hHeld ?rest0u5
  case hy0u5 =>
    intro w' hS'
    go_simp
    try with_reducible rfl
  simp only [List.setIfInBounds_toArray, List.set_cons_zero, List.set_cons_succ]
  refine take_op (i := 1) (d := 15) (v := ?_) rfl rfl (by kernel_rfl) (by kernel_rfl) (by kernel_rfl) (fun _ _ _ h => h) (Or.inl ⟨by rfl, ?hy1u6⟩) hHeld ?rest1u6
  case hy1u6 =>
    intro w' hS'
    go_simp
    try with_reducible rfl
  simp only [List.setIfInBounds_toArray, List.set_cons_zero, List.set_cons_succ]
  refine take_op (i := 2) (d := 16) (v := ?_) rfl rfl (by kernel_rfl) (by kernel_rfl) (by kernel_rfl) (fun _ _ _ h => h) (Or.inl ⟨by rfl, ?hy2u7⟩) hHeld ?rest2u7
  case hy2u7 =>
    intro w' hS'
    go_simp
    try with_reducible rfl
  simp only [List.setIfInBounds_toArray, List.set_cons_zero, List.set_cons_succ]
  refine take_op (i := 3) (d := 17) (v := ?_) rfl rfl (by kernel_rfl) (by kernel_rfl) (by kernel_rfl) (fun _ _ _ h => h) (Or.inl ⟨by rfl, ?hy3u8⟩) hHeld ?rest3u8
  case hy3u8 =>
    intro w' hS'
    go_simp
    try with_reducible rfl
  simp only [List.setIfInBounds_toArray, List.set_cons_zero, List.set_cons_succ]
  refine take_op (i := 4) (d := 18) (v := ?_) rfl rfl (by kernel_rfl) (by kernel_rfl) (by kernel_rfl) (fun _ _ _ h => h) (Or.inl ⟨by rfl, ?hy4u9⟩) hHeld ?rest4u9
  case hy4u9 =>
    intro w' hS'
    have q := cell_belowB hS' c1
    go_simp
    try with_reducible rfl
  simp only [List.setIfInBounds_toArray, List.set_cons_zero, List.set_cons_succ]
  refine take_op (i := 5) (d := 19) (v := ?_) rfl rfl (by kernel_rfl) (by kernel_rfl) (by kernel_rfl) (fun _ _ _ h => h) (Or.inl ⟨by rfl, ?hy5u10⟩) hHeld ?rest5u10
  case hy5u10 =>
    intro w' hS'
    go_simp
    try with_reducible rfl
  simp only [List.setIfInBounds_toArray, List.set_cons_zero, List.set_cons_succ]
  refine take_op (i := 6) (d := 20) (v := ?_) rfl rfl (by kernel_rfl) (by kernel_rfl) (by kernel_rfl) (fun _ _ _ h => h) (Or.inl ⟨by rfl, ?hy6u11⟩) hHeld ?rest6u11
  case hy6u11 =>
    intro w' hS'
    go_simp
    try with_reducible rfl
  simp only [List.setIfInBounds_toArray, List.set_cons_zero, List.set_cons_succ]
  refine take_op (i := 7) (d := 21) (v := ?_) rfl rfl (by kernel_rfl) (by kernel_rfl) (by kernel_rfl) (fun _ _ _ h => h) (Or.inl ⟨by rfl, ?hy7u12⟩) hHeld ?rest7u12
  case hy7u12 =>
    intro w' hS'
    go_simp
    try with_reducible rfl
  simp only [List.setIfInBounds_toArray, List.set_cons_zero, List.set_cons_succ]
  refine take_op (i := 8) (d := 22) (v := ?_) rfl rfl (by kernel_rfl) (by kernel_rfl) (by kernel_rfl) (fun _ _ _ h => h) (Or.inl ⟨by rfl, ?hy8u13⟩) hHeld ?rest8u13
  case hy8u13 =>
    intro w' hS'
    have q := cell_belowB hS' c2
    go_simp
    try with_reducible rfl
  simp only [List.setIfInBounds_toArray, List.set_cons_zero, List.set_cons_succ]
  refine take_op (i := 9) (d := 23) (v := ?_) rfl rfl (by kernel_rfl) (by kernel_rfl) (by kernel_rfl) (fun _ _ _ h => h) (Or.inl ⟨by rfl, ?hy9u14⟩) hHeld ?rest9u14
  case hy9u14 =>
    intro w' hS'
    go_simp
    try with_reducible rfl
  simp only [List.setIfInBounds_toArray, List.set_cons_zero, List.set_cons_succ]
  refine take_op (i := 10) (d := 24) (v := ?_) rfl rfl (by kernel_rfl) (by kernel_rfl) (by kernel_rfl) (fun _ _ _ h => h) (Or.inl ⟨by rfl, ?hy10u15⟩) hHeld ?rest10u15
  case hy10u15 =>
    intro w' hS'
    go_simp
    try with_reducible rfl
  simp only [List.setIfInBounds_toArray, List.set_cons_zero, List.set_cons_succ]
  refine take_op (i := 11) (d := 25) (v := ?_) rfl rfl (by kernel_rfl) (by kernel_rfl) (by kernel_rfl) (fun _ _ _ h => h) (Or.inl ⟨by rfl, ?hy11u16⟩) hHeld ?rest11u16
  case hy11u16 =>
    intro w' hS'
    go_simp
    try with_reducible rfl
  simp only [List.setIfInBounds_toArray, List.set_cons_zero, List.set_cons_succ]
  refine take_op (i := 12) (d := 26) (v := ?_) rfl rfl (by kernel_rfl) (by kernel_rfl) (by kernel_rfl) (fun _ _ _ h => h) (Or.inl ⟨by rfl, ?hy12u17⟩) hHeld ?rest12u17
  case hy12u17 =>
    intro w' hS'
    have q := cell_belowB hS' c3
    go_simp
    try with_reducible rfl
  simp only [List.setIfInBounds_toArray, List.set_cons_zero, List.set_cons_succ]
  refine take_op (i := 13) (d := 27) (v := .agg (awC x dr gp tl)) rfl rfl (by kernel_rfl) (by kernel_rfl) (by kernel_rfl) (fun _ _ _ h => h) (yields_buildO (by rfl) 31 _ (by rfl) [(0, .float .f32 x), (1, .float .f32 dr), (2, .float .f32 gp), (3, .float .f32 tl)] (by rfl) (awC x dr gp tl) (built_awO x dr gp tl)) hHeld ?_
  simp only [List.setIfInBounds_toArray, List.set_cons_zero, List.set_cons_succ]
  refine wpAnyH_ready (rs := [14]) (by kernel_rfl) (by simp) ?_
  refine AllReadyH.cons rfl (fun K hK => ?_) AllReadyH.nil
  go_simp
  obtain ⟨bb, hbq⟩ : ∃ bb, bb = Y0.heap.size := ⟨_, rfl⟩
  rw [← hbq]
  refine hK.out _ (Y0.alloc (.cells (awC 0 0 0 0) 31 (0, 0))) (hHeld.alloc hHeld.size _) (fun hHeld2 => ?_)
  have HB : Hid ((Y0.alloc (.cells (awC 0 0 0 0) 31 (0, 0))).heap[bb]? = some (.cells (awC 0 0 0 0) 31 (0, 0))) := Lib.hid (by rw [hbq]; exact heap_alloc_new _ _)
  have hbb : w.heap.size ≤ bb := by rw [hbq]; exact hHeld.size
  clear hK K hHeld hbq
  have hHeld := hHeld2
  clear hHeld2
  generalize (Y0.alloc (.cells (awC 0 0 0 0) 31 (0, 0))) = Y1 at *
  have hst := run_store_rowO (P := Tryd.prog) _ bb 31 (awC x dr gp tl) _ HB.out rfl (aw_one _ _ _ _)
  refine wpAnyH_ready (rs := [15]) (by kernel_rfl) (by simp) ?_
  refine AllReadyH.cons rfl (fun K hK => ?_) AllReadyH.nil
  go_simp
  refine hK.out _ _ (below_setRow hHeld hbb _) (fun hHeld2 => ?_)
  clear hK K hst
  have HB2 := Lib.hid (setRow_heap _ _ _ (awC x dr gp tl) _ _ HB.out)
  clear hHeld HB
  have hHeld := hHeld2
  clear hHeld2
  refine wpAnyH_done (by kernel_rfl) ?_ _
  generalize Y1.setRow bb (awC x dr gp tl) = Y2 at *
  replace H2 := Lib.hid (below_row hHeld H2.out)
  clear c1 c2 c3
  go_wp2_with (go_at_call 25; refine (HP.out _ _ HB2.out H2.out).mono ?_; rintro e W5 ⟨rfl, hb5⟩)
  go_ret
  exact ⟨rfl, hHeld.trans (hb5.mono hHeld.size)⟩

set_option maxRecDepth 100000 in
set_option maxHeartbeats 1000000 in
theorem sofr_no (o dr gp tl : Nat) (hs ts : List Int) (hh : hs.length = 24) (ht : ts.length = 24) (rb : ∀ x ∈ hs ++ ts, -32768 ≤ x ∧ x ≤ 32767) (hour : Int) (fc : Int) (le : Nat) (n : Nat) (hn : refN (okAw o dr gp tl && okB hs ts) (inH hour && inF fc && (partB le)) true = n) (hne : (codeE n != 0) = true) (w : World) :
    Calls Tryd.prog 4 #[.agg (awC o dr gp tl), .agg (sunC hs ts), .int .i64 hour, .int .i64 fc, .float .f32 le] w fun e w' => e = .returned (.tuple #[.float .f32 0, .int .i64 (codeE n)]) ∧ Below w.heap.size w w' := by
  have HL := Lib.hid (fun g1 g2 w q1 q2 => l04Asked_is o dr gp tl hs ts hh ht rb hour fc (partB le) n hn g1 g2 31 33 (0, 0) (0, 0) w q1 q2)
  have HP := Lib.hid (fun w => l01Part_any le w)
  clear hn rb
  have Hh := Lib.hid hh
  have Ht := Lib.hid ht
  clear hh ht
  go_enter Tryd.func4, Tryd.ntmps4
  go_upto_region 1 with (fail)
  refine abs_world (fun W => W.heap[w.heap.size]? = some (.cells (awC o dr gp tl) 31 (0, 0)) ∧ W.heap[w.heap.size + 1]? = some (.cells (sunC hs ts) 33 (0, 0)) ∧ Below w.heap.size w W) (box2 w (.cells (awC o dr gp tl) 31) (.cells (sunC hs ts) 33)) ?_
  rintro W ⟨h0, h1, hb⟩
  generalize w.heap.size + 1 = b1 at *
  have H0 := Lib.hid h0
  have H1 := Lib.hid h1
  clear h0 h1
  go_wp2_with (first | (refine wpList_load_partG 31 _ rfl w.heap.size 0 4 rfl rfl 31 (awC o dr gp tl) (0, 0) _ H0.out Tryd.underlying31 rfl info_aw (aw_fits _ _ _ _) _ (aw_all _ _ _ _) ?_) | (refine wpList_load_partG 33 _ rfl b1 0 48 rfl rfl 33 (sunC hs ts) (0, 0) _ H1.out Tryd.underlying33 rfl info_sun (sun_fits _ _ Hh.out Ht.out) _ (sun_all _ _ Hh.out Ht.out) ?_) | (go_at_call 9; refine (HL.out _ _ _ H0.out H1.out).mono ?_; rintro e w1 ⟨rfl, rfl⟩) | (go_at_call 10; refine (HP.out _).mono ?_; rintro e w2 ⟨rfl, rfl⟩))
  go_ret2
  exact ⟨rfl, hb⟩

set_option maxRecDepth 100000 in
set_option maxHeartbeats 4000000 in
theorem sofr_yes {o dr gp tl : Nat} (aw : ∀ o, o ≤ 1090519040 → AwOk o dr gp tl) (hs ts : List Int) (hh : hs.length = 24) (ht : ts.length = 24) (rb : ∀ x ∈ hs ++ ts, -32768 ≤ x ∧ x ≤ 32767) (hour : Int) (fc : Int) (le : Nat) (k : HrOk hs ts hour fc) (hn : refN (okAw o dr gp tl && okB hs ts) (inH hour && inF fc && (partB le)) true = 0) (w : World) :
    Calls Tryd.prog 4 #[.agg (awC o dr gp tl), .agg (sunC hs ts), .int .i64 hour, .int .i64 fc, .float .f32 le] w fun e w' => e = .returned (.tuple #[.float .f32 (outB (enoB dr gp tl (atH hs hour) (fallOf hs ts hour fc) le)), .int .i64 (outC (enoB dr gp tl (atH hs hour) (fallOf hs ts hour fc) le))]) ∧ Below w.heap.size w w' := by
  have HL := Lib.hid (fun g1 g2 w q1 q2 => l04Asked_is o dr gp tl hs ts hh ht rb hour fc (partB le) 0 hn g1 g2 31 33 (0, 0) (0, 0) w q1 q2)
  have HQ := Lib.hid (fun w => l01Part_any le w)
  have HW := Lib.hid (fun x (hx : x ≤ 1090519040) g1 g2 w q1 q2 => l04With_any aw hs ts hh ht hour fc le k x hx o g1 g2 31 33 (0, 0) (0, 0) w q1 q2)
  generalize (enoB dr gp tl (atH hs hour) (fallOf hs ts hour fc) le) = E at *
  clear hn rb k aw
  have Hh := Lib.hid hh
  have Ht := Lib.hid ht
  clear hh ht
  go_enter Tryd.func4, Tryd.ntmps4
  go_upto_region 1 with (fail)
  refine abs_world (fun W => W.heap[w.heap.size]? = some (.cells (awC o dr gp tl) 31 (0, 0)) ∧ W.heap[w.heap.size + 1]? = some (.cells (sunC hs ts) 33 (0, 0)) ∧ Below w.heap.size w W) (box2 w (.cells (awC o dr gp tl) 31) (.cells (sunC hs ts) 33)) ?_
  rintro W ⟨h0, h1, hb⟩
  generalize w.heap.size + 1 = b1 at *
  have H0 := Lib.hid h0
  have H1 := Lib.hid h1
  clear h0 h1
  have HW8 := Lib.hid (HW.out 1090519040 (Nat.le_refl _) w.heap.size b1)
  have HW0 := Lib.hid (HW.out 0 (Nat.zero_le _) w.heap.size b1)
  cases h8 : E 1090519040 with
  | false =>
    rw [h8] at HW8
    have HV : Hid (outB E = 0 ∧ outC E = 6) := Lib.hid ⟨by unfold outB; rw [h8]; rfl, by unfold outC; rw [h8]; rfl⟩
    clear h8 HW HW0
    go_wp2_with (first | (first | (refine wpList_load_partG 31 _ rfl w.heap.size 0 4 rfl rfl 31 (awC o dr gp tl) (0, 0) _ H0.out Tryd.underlying31 rfl info_aw (aw_fits _ _ _ _) _ (aw_all _ _ _ _) ?_) | (refine wpList_load_partG 33 _ rfl b1 0 48 rfl rfl 33 (sunC hs ts) (0, 0) _ H1.out Tryd.underlying33 rfl info_sun (sun_fits _ _ Hh.out Ht.out) _ (sun_all _ _ Hh.out Ht.out) ?_) | (go_at_call 9; refine (HL.out _ _ _ H0.out H1.out).mono ?_; rintro e w1 ⟨rfl, rfl⟩) | (go_at_call 10; refine (HQ.out _).mono ?_; rintro e w2 ⟨rfl, rfl⟩)) | (go_at_call 11; refine (HW8.out _ H0.out H1.out).mono ?_; rintro e W7 ⟨rfl, hb7⟩; replace H0 := Lib.hid (below_row hb7 H0.out); replace H1 := Lib.hid (below_row hb7 H1.out); replace hb := hb.trans (hb7.mono hb.size); clear hb7))
    go_ret2
    rw [HV.out.1, HV.out.2]
    exact ⟨rfl, hb⟩
  | true =>
    rw [h8] at HW8
    have H8 := Lib.hid h8
    have HC : Hid (outC E = 0) := Lib.hid (by unfold outC; rw [h8]; rfl)
    go_upto_region 6 with (first | (first | (refine wpList_load_partG 31 _ rfl w.heap.size 0 4 rfl rfl 31 (awC o dr gp tl) (0, 0) _ H0.out Tryd.underlying31 rfl info_aw (aw_fits _ _ _ _) _ (aw_all _ _ _ _) ?_) | (refine wpList_load_partG 33 _ rfl b1 0 48 rfl rfl 33 (sunC hs ts) (0, 0) _ H1.out Tryd.underlying33 rfl info_sun (sun_fits _ _ Hh.out Ht.out) _ (sun_all _ _ Hh.out Ht.out) ?_) | (go_at_call 9; refine (HL.out _ _ _ H0.out H1.out).mono ?_; rintro e w3 ⟨rfl, rfl⟩) | (go_at_call 10; refine (HQ.out _).mono ?_; rintro e w4 ⟨rfl, rfl⟩)) | (go_at_call 11; refine (HW8.out _ H0.out H1.out).mono ?_; rintro e W7 ⟨rfl, hb7⟩; replace H0 := Lib.hid (below_row hb7 H0.out); replace H1 := Lib.hid (below_row hb7 H1.out); replace hb := hb.trans (hb7.mono hb.size); clear hb7))
    clear HW8
    cases h0 : E 0 with
    | true =>
      rw [h0] at HW0
      have HV : Hid (outB E = 0) := Lib.hid (by unfold outB; rw [h8, h0]; rfl)
      clear h8 h0 HW H8
      go_wp2_with (go_at_call 11; refine (HW0.out _ H0.out H1.out).mono ?_; rintro e W7 ⟨rfl, hb7⟩; replace H0 := Lib.hid (below_row hb7 H0.out); replace H1 := Lib.hid (below_row hb7 H1.out); replace hb := hb.trans (hb7.mono hb.size); clear hb7)
      go_ret2
      rw [HV.out, HC.out]
      exact ⟨rfl, hb⟩
    | false =>
      rw [h0] at HW0
      have H00 := Lib.hid h0
      obtain ⟨R, hR⟩ : ∃ R, R = halfN E 30 (0, 1090519040) := ⟨_, rfl⟩
      have HV : Hid (outB E = R.2) := Lib.hid (by unfold outB; rw [h8, h0, hR]; rfl)
      have HR := Lib.hid hR
      clear h8 h0 hR
      go_upto_region 8 with (go_at_call 11; refine (HW0.out _ H0.out H1.out).mono ?_; rintro e W7 ⟨rfl, hb7⟩; replace H0 := Lib.hid (below_row hb7 H0.out); replace H1 := Lib.hid (below_row hb7 H1.out); replace hb := hb.trans (hb7.mono hb.size); clear hb7)
      clear HW0 HL HQ
      go_wp2
      go_loopw [13, 14, 15] (fun lo hi i wr => ∃ k l h : Nat, k ≤ 30 ∧ lo = .float .f32 l ∧ hi = .float .f32 h ∧ i = .int .i64 (k : Int) ∧ l ≤ 1090519040 ∧ h ≤ 1090519040 ∧ R = halfN E (30 - k) (l, h) ∧ wr.heap[w.heap.size]? = some (.cells (awC o dr gp tl) 31 (0, 0)) ∧ wr.heap[b1]? = some (.cells (sunC hs ts) 33 (0, 0)) ∧ Below w.heap.size w wr) (fun _ _ i _ => 30 - (intOf i).toNat)
      case atStart => exact ⟨0, 0, 1090519040, by decide, rfl, rfl, rfl, by decide, Nat.le_refl _, HR.out, H0.out, H1.out, hb⟩
      case round =>
        clear H8 H00 HR H0 H1 hb
        obtain ⟨k, l, h, hk, rfl, rfl, rfl, hl, hh, hr, h0, h1, hb⟩ := hrel
        have H0 := Lib.hid h0
        have H1 := Lib.hid h1
        clear h0 h1
        by_cases hlt : k < 30
        · obtain ⟨r1, r2, hm⟩ := mid_facts hl hh
          have hsh := halfS_hi (E := E) (lo := l) (hi := h)
          have hsl := halfS_lo (E := E) (lo := l) (hi := h)
          have hr1 : R = halfN E (30 - (k + 1)) (halfS E (l, h)) := by
            have e : 30 - k = (30 - (k + 1)) + 1 := by omega
            rw [hr, e]; rfl
          generalize midB l h = m at *
          have q1 := run_qf _ _ _ _ r1
          have q2 := run_qf _ _ _ _ r2
          generalize fadd l h = s at *
          have HS := Lib.hid (And.intro hsh (And.intro hsl hr1))
          have HE := Lib.hid (And.intro hl (And.intro hh hm))
          have z1 : (k : Int) < 30 := by omega
          have HWm := Lib.hid (HW.out m hm w.heap.size b1)
          clear hsh hsl hr hr1 hl hh r1 r2 hm
          cases hm2 : E m with
          | true =>
            rw [hm2] at HWm
            have HN : Hid (R = halfN E (30 - (k + 1)) (l, m)) := Lib.hid (by rw [HS.out.2.2, HS.out.1 hm2])
            clear HS hm2
            go_wp2_with (go_at_call 11; refine (HWm.out _ H0.out H1.out).mono ?_; rintro e W7 ⟨rfl, hb7⟩; replace H0 := Lib.hid (below_row hb7 H0.out); replace H1 := Lib.hid (below_row hb7 H1.out); replace hb := hb.trans (hb7.mono hb.size); clear hb7)
            go_roundw
            case rel => exact ⟨k + 1, l, m, by omega, rfl, rfl, by go_num, HE.out.1, HE.out.2.2, HN.out, H0.out, H1.out, hb⟩
            case measure => simp [intOf]; omega
          | false =>
            rw [hm2] at HWm
            have HN : Hid (R = halfN E (30 - (k + 1)) (m, h)) := Lib.hid (by rw [HS.out.2.2, HS.out.2.1 hm2])
            clear HS hm2
            go_wp2_with (go_at_call 11; refine (HWm.out _ H0.out H1.out).mono ?_; rintro e W7 ⟨rfl, hb7⟩; replace H0 := Lib.hid (below_row hb7 H0.out); replace H1 := Lib.hid (below_row hb7 H1.out); replace hb := hb.trans (hb7.mono hb.size); clear hb7)
            go_roundw
            case rel => exact ⟨k + 1, m, h, by omega, rfl, rfl, by go_num, HE.out.2.2, HE.out.2.1, HN.out, H0.out, H1.out, hb⟩
            case measure => simp [intOf]; omega
        · obtain rfl : k = 30 := by omega
          have HX2 : Hid (outB E = h) := Lib.hid (by rw [HV.out, hr]; rfl)
          clear hr hl hh HV
          go_wp2
          go_ret2
          rw [HX2.out, HC.out]
          exact ⟨rfl, hb⟩

end Go.Proofs.YthpimcfmgefkkaaDoor
