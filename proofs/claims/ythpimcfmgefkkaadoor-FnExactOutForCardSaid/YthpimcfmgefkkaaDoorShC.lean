/-
  What a function of an awning and a sun is refused with: contracts of the program and of the model.
-/
import Derived.Test.YthpimcfmgefkkaaDoorShF
import Derived.Test.YthpimcfmgefkkaaDoorFallOn
import Derived.Test.YthpimcfmgefkkaaDoorCode
namespace Go.Proofs.YthpimcfmgefkkaaDoor
open Go.ChangeShapes Go.WideShapes Go.ChangeAt Go.RowKit Go.Deep Go.Joins

theorem codeE_ne {n : Nat} (h : n ≠ 0) : (codeE n != 0) = true := by
  match n, h with
  | 1, _ => rfl
  | 2, _ => rfl
  | 3, _ => rfl
  | n + 4, _ => rfl
theorem refN_ok {v r f : Bool} : refN v r f = 0 ↔ (v = true ∧ r = true ∧ f = true) := by cases v <;> cases r <;> cases f <;> decide

set_option maxRecDepth 100000 in
set_option maxHeartbeats 1000000 in
theorem checkAwning_any (o dr gp tl : Nat) (hs ts : List Int) (hh : hs.length = 24) (ht : ts.length = 24) (fine : Bool) (e0 e1 e2 e3 : Addr) (w : World) (hE : ErrsAt w e0 e1 e2 e3) :
    Calls Tryd.prog 16 #[.agg (awC o dr gp tl), .agg (sunC hs ts), .bool fine] w fun e w' => e = .returned (.int .i64 (codeE (refN (okAw o dr gp tl && okB hs ts) fine true))) ∧ Below w.heap.size w w' := by
  have HV := Lib.hid (fun w => implValidAwning_any o dr gp tl w)
  have HS := Lib.hid (fun w => ValidSun_any hs ts hh ht w)
  have Hh := Lib.hid hh
  have Ht := Lib.hid ht
  clear hh ht
  have HX := Lib.hid hE
  clear hE
  cases hv : okAw o dr gp tl
  · rw [hv] at HV
    clear hv
    go_enter Tryd.func16, Tryd.ntmps16
    go_upto_region 1 with (fail)
    refine abs_world (fun W => W.heap[w.heap.size]? = some (.cells (awC o dr gp tl) 31 (0, 0)) ∧ W.heap[w.heap.size + 1]? = some (.cells (sunC hs ts) 33 (0, 0)) ∧ Below w.heap.size w W) (box2 w (.cells (awC o dr gp tl) 31) (.cells (sunC hs ts) 33)) ?_
    rintro W ⟨h0, h1, hb⟩
    generalize w.heap.size + 1 = b1 at *
    have H0 := Lib.hid h0
    have H1 := Lib.hid h1
    clear h0 h1
    replace HX := Lib.hid (errs_below HX.out hb)
    go_wp2_with (first | (refine wpList_load_partG 31 _ rfl w.heap.size 0 4 rfl rfl 31 (awC o dr gp tl) (0, 0) _ H0.out Tryd.underlying31 rfl info_aw (aw_fits _ _ _ _) _ (aw_all _ _ _ _) ?_) | (refine wpList_load_partG 33 _ rfl b1 0 48 rfl rfl 33 (sunC hs ts) (0, 0) _ H1.out Tryd.underlying33 rfl info_sun (sun_fits _ _ Hh.out Ht.out) _ (sun_all _ _ Hh.out Ht.out) ?_) | (go_at_call 28; refine (HV.out _).mono ?_; rintro e W1 ⟨rfl, hb1⟩; replace H0 := Lib.hid (below_row hb1 H0.out); replace H1 := Lib.hid (below_row hb1 H1.out); replace HX := Lib.hid (errs_below HX.out hb1); replace hb := hb.trans (hb1.mono hb.size); clear hb1) | (go_at_call 29; refine (HS.out _).mono ?_; rintro e W2 ⟨rfl, hb2⟩; replace H0 := Lib.hid (below_row hb2 H0.out); replace H1 := Lib.hid (below_row hb2 H1.out); replace HX := Lib.hid (errs_below HX.out hb2); replace hb := hb.trans (hb2.mono hb.size); clear hb2) | (go_at_call 27; refine (refusal_any HX.out _ _ _).mono ?_; rintro e w3 ⟨rfl, rfl⟩) | (go_at_call 26; refine (codeOf_any HX.out _).mono ?_; rintro e w4 ⟨rfl, rfl⟩))
    go_ret
    exact ⟨rfl, hb⟩
  · rw [hv] at HV
    clear hv
    generalize hz : okB hs ts = z at *
    clear hz
    go_enter Tryd.func16, Tryd.ntmps16
    go_upto_region 1 with (fail)
    refine abs_world (fun W => W.heap[w.heap.size]? = some (.cells (awC o dr gp tl) 31 (0, 0)) ∧ W.heap[w.heap.size + 1]? = some (.cells (sunC hs ts) 33 (0, 0)) ∧ Below w.heap.size w W) (box2 w (.cells (awC o dr gp tl) 31) (.cells (sunC hs ts) 33)) ?_
    rintro W ⟨h0, h1, hb⟩
    generalize w.heap.size + 1 = b1 at *
    have H0 := Lib.hid h0
    have H1 := Lib.hid h1
    clear h0 h1
    replace HX := Lib.hid (errs_below HX.out hb)
    go_wp2_with (first | (refine wpList_load_partG 31 _ rfl w.heap.size 0 4 rfl rfl 31 (awC o dr gp tl) (0, 0) _ H0.out Tryd.underlying31 rfl info_aw (aw_fits _ _ _ _) _ (aw_all _ _ _ _) ?_) | (refine wpList_load_partG 33 _ rfl b1 0 48 rfl rfl 33 (sunC hs ts) (0, 0) _ H1.out Tryd.underlying33 rfl info_sun (sun_fits _ _ Hh.out Ht.out) _ (sun_all _ _ Hh.out Ht.out) ?_) | (go_at_call 28; refine (HV.out _).mono ?_; rintro e W1 ⟨rfl, hb1⟩; replace H0 := Lib.hid (below_row hb1 H0.out); replace H1 := Lib.hid (below_row hb1 H1.out); replace HX := Lib.hid (errs_below HX.out hb1); replace hb := hb.trans (hb1.mono hb.size); clear hb1) | (go_at_call 29; refine (HS.out _).mono ?_; rintro e W2 ⟨rfl, hb2⟩; replace H0 := Lib.hid (below_row hb2 H0.out); replace H1 := Lib.hid (below_row hb2 H1.out); replace HX := Lib.hid (errs_below HX.out hb2); replace hb := hb.trans (hb2.mono hb.size); clear hb2) | (go_at_call 27; refine (refusal_any HX.out _ _ _).mono ?_; rintro e w3 ⟨rfl, rfl⟩) | (go_at_call 26; refine (codeOf_any HX.out _).mono ?_; rintro e w4 ⟨rfl, rfl⟩))
    go_ret
    exact ⟨rfl, hb⟩

theorem checkAwning_is (o dr gp tl : Nat) (hs ts : List Int) (hh : hs.length = 24) (ht : ts.length = 24) (fine : Bool) (e0 e1 e2 e3 : Addr) (n : Nat) (hn : refN (okAw o dr gp tl && okB hs ts) fine true = n) (w : World) (hE : ErrsAt w e0 e1 e2 e3) :
    Calls Tryd.prog 16 #[.agg (awC o dr gp tl), .agg (sunC hs ts), .bool fine] w fun e w' => e = .returned (.int .i64 (codeE n)) ∧ Below w.heap.size w w' := by
  subst hn; exact checkAwning_any o dr gp tl hs ts hh ht fine e0 e1 e2 e3 w hE

set_option maxRecDepth 100000 in
set_option maxHeartbeats 1000000 in
theorem l04Asked_any (o dr gp tl : Nat) (hs ts : List Int) (hh : hs.length = 24) (ht : ts.length = 24) (rb : ∀ x ∈ hs ++ ts, -32768 ≤ x ∧ x ≤ 32767) (hour fc : Int) (fine : Bool) (g1 g2 : Nat) (T1 T2 : TypeId) (f1 f2 : Nat × Nat) (w : World) (q1 : w.heap[g1]? = some (.cells (awC o dr gp tl) T1 f1)) (q2 : w.heap[g2]? = some (.cells (sunC hs ts) T2 f2)) :
    Calls Tryd.prog 9 #[.pointer (some ⟨g1, 0, none⟩), .pointer (some ⟨g2, 0, none⟩), .int .i64 hour, .int .i64 fc, .bool fine] w fun e w' => e = .returned (.int .i64 (codeE (refN (okAw o dr gp tl && okB hs ts) (inH hour && inF fc && fine) true))) ∧ w = w' := by
  have HV := Lib.hid (l04Ok_any o dr gp tl g1 T1 f1 w q1)
  have HS := Lib.hid (l01Ok_any g2 hs ts hh ht rb T2 f2 w q2)
  have HH := Lib.hid (l01Hour_any hour w)
  have HF := Lib.hid (l01Faced_any fc w)
  rw [show inB hour 0 23 = inH hour from rfl] at HH
  rw [show inB fc 0 255 = inF fc from rfl] at HF
  clear q1 q2 hh ht rb
  cases h1 : okAw o dr gp tl <;> rw [h1] at HV
  · clear h1 HS HH HF
    go_enter Tryd.func9, Tryd.ntmps9
    go_wp2_with (go_at_call 21; refine (HV.out).mono ?_; rintro e w' ⟨rfl, rfl⟩)
    go_ret
    exact ⟨rfl, rfl⟩
  cases h2 : okB hs ts <;> rw [h2] at HS
  · clear h1 h2 HH HF
    go_enter Tryd.func9, Tryd.ntmps9
    go_wp2_with (first | (go_at_call 21; refine (HV.out).mono ?_; rintro e w' ⟨rfl, rfl⟩) | (go_at_call 22; refine (HS.out).mono ?_; rintro e w' ⟨rfl, rfl⟩))
    go_ret
    exact ⟨rfl, rfl⟩
  cases h3 : inH hour <;> rw [h3] at HH
  · clear h1 h2 h3 HF
    go_enter Tryd.func9, Tryd.ntmps9
    go_wp2_with (first | (go_at_call 21; refine (HV.out).mono ?_; rintro e w' ⟨rfl, rfl⟩) | (go_at_call 22; refine (HS.out).mono ?_; rintro e w' ⟨rfl, rfl⟩) | (go_at_call 23; refine (HH.out).mono ?_; rintro e w' ⟨rfl, rfl⟩) | (go_at_call 24; refine (HF.out).mono ?_; rintro e w' ⟨rfl, rfl⟩))
    go_ret
    exact ⟨rfl, rfl⟩
  cases h4 : inF fc <;> rw [h4] at HF
  · clear h1 h2 h3 h4
    go_enter Tryd.func9, Tryd.ntmps9
    go_wp2_with (first | (go_at_call 21; refine (HV.out).mono ?_; rintro e w' ⟨rfl, rfl⟩) | (go_at_call 22; refine (HS.out).mono ?_; rintro e w' ⟨rfl, rfl⟩) | (go_at_call 23; refine (HH.out).mono ?_; rintro e w' ⟨rfl, rfl⟩) | (go_at_call 24; refine (HF.out).mono ?_; rintro e w' ⟨rfl, rfl⟩))
    go_ret
    exact ⟨rfl, rfl⟩
  clear h1 h2 h3 h4
  cases fine
  · go_enter Tryd.func9, Tryd.ntmps9
    go_wp2_with (first | (go_at_call 21; refine (HV.out).mono ?_; rintro e w' ⟨rfl, rfl⟩) | (go_at_call 22; refine (HS.out).mono ?_; rintro e w' ⟨rfl, rfl⟩) | (go_at_call 23; refine (HH.out).mono ?_; rintro e w' ⟨rfl, rfl⟩) | (go_at_call 24; refine (HF.out).mono ?_; rintro e w' ⟨rfl, rfl⟩))
    go_ret
    exact ⟨rfl, rfl⟩
  · go_enter Tryd.func9, Tryd.ntmps9
    go_wp2_with (first | (go_at_call 21; refine (HV.out).mono ?_; rintro e w' ⟨rfl, rfl⟩) | (go_at_call 22; refine (HS.out).mono ?_; rintro e w' ⟨rfl, rfl⟩) | (go_at_call 23; refine (HH.out).mono ?_; rintro e w' ⟨rfl, rfl⟩) | (go_at_call 24; refine (HF.out).mono ?_; rintro e w' ⟨rfl, rfl⟩))
    go_ret
    exact ⟨rfl, rfl⟩

theorem l04Asked_is (o dr gp tl : Nat) (hs ts : List Int) (hh : hs.length = 24) (ht : ts.length = 24) (rb : ∀ x ∈ hs ++ ts, -32768 ≤ x ∧ x ≤ 32767) (hour fc : Int) (fine : Bool) (n : Nat) (hn : refN (okAw o dr gp tl && okB hs ts) (inH hour && inF fc && fine) true = n) (g1 g2 : Nat) (T1 T2 : TypeId) (f1 f2 : Nat × Nat) (w : World) (q1 : w.heap[g1]? = some (.cells (awC o dr gp tl) T1 f1)) (q2 : w.heap[g2]? = some (.cells (sunC hs ts) T2 f2)) :
    Calls Tryd.prog 9 #[.pointer (some ⟨g1, 0, none⟩), .pointer (some ⟨g2, 0, none⟩), .int .i64 hour, .int .i64 fc, .bool fine] w fun e w' => e = .returned (.int .i64 (codeE n)) ∧ w = w' := by
  subst hn; exact l04Asked_any o dr gp tl hs ts hh ht rb hour fc fine g1 g2 T1 T2 f1 f2 w q1 q2

theorem cut_mid {q : Nat} {o1 : Ordering} (h0 : FloatKind.f32.format.order q 0 = some .gt) (h1 : FloatKind.f32.format.order q 1065353216 = some o1) (hn : o1 ≠ .gt) : cutB q = q := by
  unfold cutB
  rw [if_pos h0, h1, if_neg (fun e => hn (by injection e))]
theorem cut_top {q : Nat} (h0 : FloatKind.f32.format.order q 0 = some .gt) (h1 : FloatKind.f32.format.order q 1065353216 = some .gt) : cutB q = 1065353216 := by
  unfold cutB
  rw [if_pos h0, if_pos h1]

set_option maxRecDepth 100000 in
set_option maxHeartbeats 1000000 in
theorem l04Part_zero (o dr gp tl : Nat) (hs ts : List Int) (hh : hs.length = 24) (ht : ts.length = 24) (fc hour : Int) (k : HrOk hs ts hour fc) (hf : fallOf hs ts hour fc = 0) (g1 g2 : Nat) (T1 T2 : TypeId) (f1 f2 : Nat × Nat) (w : World) (q1 : w.heap[g1]? = some (.cells (awC o dr gp tl) T1 f1)) (q2 : w.heap[g2]? = some (.cells (sunC hs ts) T2 f2)) :
    Calls Tryd.prog 25 #[.pointer (some ⟨g1, 0, none⟩), .pointer (some ⟨g2, 0, none⟩), .int .i64 hour, .int .i64 fc] w fun e w' => e = .returned (.float .f32 0) ∧ Below w.heap.size w w' := by
  have HF := Lib.hid (fun w (h : w.heap[g2]? = some (.cells (sunC hs ts) T2 f2)) => l01Fall_any g2 hs ts hh ht hour fc k.h0 k.h1 k.f0 k.f1 k.x1 k.y0 k.y1 T2 f2 w h)
  rw [hf] at HF
  have ho := fall_eq
  have H1 := Lib.hid q1
  have H2 := Lib.hid q2
  have hb : Below w.heap.size w w := Below.refl _ _
  clear k hf hh ht q1 q2
  go_enter Tryd.func25, Tryd.ntmps25
  go_wp2_with (go_at_call 35; refine (HF.out _ H2.out).mono ?_; rintro e W1 ⟨rfl, hb1⟩; replace H1 := Lib.hid (below_row hb1 H1.out); replace H2 := Lib.hid (below_row hb1 H2.out); replace hb := hb.trans (hb1.mono hb.size); clear hb1)
  go_ret
  exact ⟨rfl, hb⟩

set_option maxRecDepth 100000 in
set_option maxHeartbeats 1000000 in
theorem l04Part_pos {o dr gp tl : Nat} (aw : AwOk o dr gp tl) (hs ts : List Int) (hh : hs.length = 24) (ht : ts.length = 24) (fc hour : Int) (k : HrOk hs ts hour fc) (f : Nat) (hf : fallOf hs ts hour fc = f) (f0 : 975015322 ≤ f) (f1 : f ≤ 1065353216) (x0 : 0 < atH hs hour) (g1 g2 : Nat) (T1 T2 : TypeId) (fr1 fr2 : Nat × Nat) (w : World) (q1 : w.heap[g1]? = some (.cells (awC o dr gp tl) T1 fr1)) (q2 : w.heap[g2]? = some (.cells (sunC hs ts) T2 fr2)) :
    Calls Tryd.prog 25 #[.pointer (some ⟨g1, 0, none⟩), .pointer (some ⟨g2, 0, none⟩), .int .i64 hour, .int .i64 fc] w fun e w' => e = .returned (.float .f32 (cutB (quoA o dr gp tl (atH hs hour) f))) ∧ Below w.heap.size w w' := by
  have HF := Lib.hid (fun w (h : w.heap[g2]? = some (.cells (sunC hs ts) T2 fr2)) => l01Fall_any g2 hs ts hh ht hour fc k.h0 k.h1 k.f0 k.f1 k.x1 k.y0 k.y1 T2 fr2 w h)
  rw [hf] at HF
  have HG := Lib.hid (fun w => l01Sine_any (atH hs hour) w)
  rw [angB_id (atH hs hour) (Int.le_of_lt x0) (Int.le_trans k.x1 (by decide))] at HG
  have ho := fall_gt f0 f1
  obtain ⟨r1, r2, r3, r4, r5, r6⟩ := shade_facts aw.o aw.d aw.g aw.t0 aw.t1 x0 k.x1 f0 f1
  have hq := quoA_lt r5
  obtain ⟨oq, hoq⟩ := order_some r6 zero_fin
  obtain ⟨o1, ho1⟩ := order_some r6 (num_fin (num_of_isNum (x := 1065353216) (.inl (by decide))))
  obtain ⟨n, rfl⟩ := Int.eq_ofNat_of_zero_le k.h0
  have hn : n < 24 := by have := k.h1; omega
  have e1 : hs[n]?.getD 0 = atH hs (n : Int) := by unfold atH; rw [Int.toNat_natCast]
  generalize quoA o dr gp tl (atH hs (n : Int)) f = q at *
  generalize depB o dr (atH hs (n : Int)) f = de at *
  generalize ratB (atH hs (n : Int)) f = ra at *
  generalize sineB (atH hs (n : Int)) = sx at *
  generalize fsub de gp = su at *
  generalize fmul o ra = mu at *
  have z1 := run_qf _ _ _ _ r1
  have z2 := run_qf _ _ _ _ r2
  have z3 := run_qf _ _ _ _ r3
  have z4 := run_qf _ _ _ _ r4
  have z5 := run_qf _ _ _ _ r5
  have cx := cell_sun_h q2 hh n hn
  rw [e1] at cx
  have b0 := k.x0
  have b1 := k.x1
  clear e1
  generalize atH hs (n : Int) = x at *
  obtain ⟨c0, c1, c2, c3⟩ := aw_cells q1
  have hb : Below w.heap.size w w := Below.refl _ _
  have H2 := Lib.hid q2
  clear k hf r1 r2 r3 r4 r5 x0 f0 f1 aw q1 q2 hh ht r6 hq
  go_enter Tryd.func25, Tryd.ntmps25
  go_upto_region 5 with (first | (go_at_call 35; refine (HF.out _ H2.out).mono ?_; rintro e W1 ⟨rfl, hb1⟩; replace c0 := cell_belowB hb1 c0; replace c1 := cell_belowB hb1 c1; replace c2 := cell_belowB hb1 c2; replace c3 := cell_belowB hb1 c3; replace cx := cell_belowB hb1 cx; replace hb := hb.trans (hb1.mono hb.size); clear hb1) | (go_at_call 36; refine (HG.out _).mono ?_; rintro e w2 ⟨rfl, rfl⟩))
  refine wp_region_held_drew (S := (fun V => Below W1.heap.size W1 V)) (by kernel_rfl) ((Below.refl _ _).drew) (fun hHeld => ?_)
  refine take_op (i := 0) (d := 29) (v := ?_) rfl rfl (by kernel_rfl) (by kernel_rfl) (by kernel_rfl) (fun _ _ _ h => h) (Or.inl ⟨by rfl, ?hy0u1⟩) hHeld ?rest0u1
  case hy0u1 =>
    intro w' hS'
    go_simp
    try with_reducible rfl
  simp only [List.setIfInBounds_toArray, List.set_cons_zero, List.set_cons_succ]
  refine take_op (i := 1) (d := 30) (v := ?_) rfl rfl (by kernel_rfl) (by kernel_rfl) (by kernel_rfl) (fun _ _ _ h => h) (Or.inl ⟨by rfl, ?hy1u2⟩) hHeld ?rest1u2
  case hy1u2 =>
    intro w' hS'
    go_simp
    try with_reducible rfl
  simp only [List.setIfInBounds_toArray, List.set_cons_zero, List.set_cons_succ]
  refine take_op (i := 2) (d := 31) (v := ?_) rfl rfl (by kernel_rfl) (by kernel_rfl) (by kernel_rfl) (fun _ _ _ h => h) (Or.inl ⟨by rfl, ?hy2u3⟩) hHeld ?rest2u3
  case hy2u3 =>
    intro w' hS'
    go_simp
    try with_reducible rfl
  simp only [List.setIfInBounds_toArray, List.set_cons_zero, List.set_cons_succ]
  refine take_op (i := 3) (d := 32) (v := ?_) rfl rfl (by kernel_rfl) (by kernel_rfl) (by kernel_rfl) (fun _ _ _ h => h) (Or.inl ⟨by rfl, ?hy3u4⟩) hHeld ?rest3u4
  case hy3u4 =>
    intro w' hS'
    have c0 := cell_belowB hS' c0
    have c1 := cell_belowB hS' c1
    have c2 := cell_belowB hS' c2
    have c3 := cell_belowB hS' c3
    have cx := cell_belowB hS' cx
    go_simp
    try with_reducible rfl
  simp only [List.setIfInBounds_toArray, List.set_cons_zero, List.set_cons_succ]
  refine take_op (i := 4) (d := 33) (v := ?_) rfl rfl (by kernel_rfl) (by kernel_rfl) (by kernel_rfl) (fun _ _ _ h => h) (Or.inl ⟨by rfl, ?hy4u5⟩) hHeld ?rest4u5
  case hy4u5 =>
    intro w' hS'
    go_simp
    try with_reducible rfl
  simp only [List.setIfInBounds_toArray, List.set_cons_zero, List.set_cons_succ]
  refine take_op (i := 5) (d := 34) (v := ?_) rfl rfl (by kernel_rfl) (by kernel_rfl) (by kernel_rfl) (fun _ _ _ h => h) (Or.inl ⟨by rfl, ?hy5u6⟩) hHeld ?rest5u6
  case hy5u6 =>
    intro w' hS'
    go_simp
    try with_reducible rfl
  simp only [List.setIfInBounds_toArray, List.set_cons_zero, List.set_cons_succ]
  refine take_op (i := 6) (d := 35) (v := ?_) rfl rfl (by kernel_rfl) (by kernel_rfl) (by kernel_rfl) (fun _ _ _ h => h) (Or.inl ⟨by rfl, ?hy6u7⟩) hHeld ?rest6u7
  case hy6u7 =>
    intro w' hS'
    go_simp
    try with_reducible rfl
  simp only [List.setIfInBounds_toArray, List.set_cons_zero, List.set_cons_succ]
  refine take_op (i := 7) (d := 36) (v := ?_) rfl rfl (by kernel_rfl) (by kernel_rfl) (by kernel_rfl) (fun _ _ _ h => h) (Or.inl ⟨by rfl, ?hy7u8⟩) hHeld ?rest7u8
  case hy7u8 =>
    intro w' hS'
    go_simp
    try with_reducible rfl
  simp only [List.setIfInBounds_toArray, List.set_cons_zero, List.set_cons_succ]
  refine take_op (i := 8) (d := 37) (v := ?_) rfl rfl (by kernel_rfl) (by kernel_rfl) (by kernel_rfl) (fun _ _ _ h => h) (Or.inl ⟨by rfl, ?hy8u9⟩) hHeld ?rest8u9
  case hy8u9 =>
    intro w' hS'
    go_simp
    try with_reducible rfl
  simp only [List.setIfInBounds_toArray, List.set_cons_zero, List.set_cons_succ]
  refine take_op (i := 9) (d := 38) (v := ?_) rfl rfl (by kernel_rfl) (by kernel_rfl) (by kernel_rfl) (fun _ _ _ h => h) (Or.inl ⟨by rfl, ?hy9u10⟩) hHeld ?rest9u10
  case hy9u10 =>
    intro w' hS'
    have c0 := cell_belowB hS' c0
    have c1 := cell_belowB hS' c1
    have c2 := cell_belowB hS' c2
    have c3 := cell_belowB hS' c3
    have cx := cell_belowB hS' cx
    go_simp
    try with_reducible rfl
  simp only [List.setIfInBounds_toArray, List.set_cons_zero, List.set_cons_succ]
  refine take_op (i := 10) (d := 39) (v := ?_) rfl rfl (by kernel_rfl) (by kernel_rfl) (by kernel_rfl) (fun _ _ _ h => h) (Or.inl ⟨by rfl, ?hy10u11⟩) hHeld ?rest10u11
  case hy10u11 =>
    intro w' hS'
    go_simp
    try with_reducible rfl
  simp only [List.setIfInBounds_toArray, List.set_cons_zero, List.set_cons_succ]
  refine take_op (i := 11) (d := 11) (v := ?_) rfl rfl (by kernel_rfl) (by kernel_rfl) (by kernel_rfl) (fun _ _ _ h => h) (Or.inl ⟨by rfl, ?hy11u12⟩) hHeld ?rest11u12
  case hy11u12 =>
    intro w' hS'
    go_simp
    try with_reducible rfl
  simp only [List.setIfInBounds_toArray, List.set_cons_zero, List.set_cons_succ]
  refine wpAnyH_done (by kernel_rfl) ?_ _
  revert hHeld
  generalize W1.drew = W3
  intro hHeld
  replace c0 := cell_belowB hHeld c0
  replace c1 := cell_belowB hHeld c1
  replace c2 := cell_belowB hHeld c2
  replace c3 := cell_belowB hHeld c3
  replace cx := cell_belowB hHeld cx
  replace hb := hb.trans (hHeld.mono hb.size)
  clear hHeld
  go_upto_region 6 with (fail)
  refine wp_region_held_drew (S := (fun V => Below W3.heap.size W3 V)) (by kernel_rfl) ((Below.refl _ _).drew) (fun hHeld => ?_)
  refine take_op (i := 0) (d := 40) (v := ?_) rfl rfl (by kernel_rfl) (by kernel_rfl) (by kernel_rfl) (fun _ _ _ h => h) (Or.inl ⟨by rfl, ?hy0u13⟩) hHeld ?rest0u13
  case hy0u13 =>
    intro w' hS'
    go_simp
    try with_reducible rfl
  simp only [List.setIfInBounds_toArray, List.set_cons_zero, List.set_cons_succ]
  refine take_op (i := 1) (d := 41) (v := ?_) rfl rfl (by kernel_rfl) (by kernel_rfl) (by kernel_rfl) (fun _ _ _ h => h) (Or.inl ⟨by rfl, ?hy1u14⟩) hHeld ?rest1u14
  case hy1u14 =>
    intro w' hS'
    go_simp
    try with_reducible rfl
  simp only [List.setIfInBounds_toArray, List.set_cons_zero, List.set_cons_succ]
  refine take_op (i := 2) (d := 42) (v := ?_) rfl rfl (by kernel_rfl) (by kernel_rfl) (by kernel_rfl) (fun _ _ _ h => h) (Or.inl ⟨by rfl, ?hy2u15⟩) hHeld ?rest2u15
  case hy2u15 =>
    intro w' hS'
    go_simp
    try with_reducible rfl
  simp only [List.setIfInBounds_toArray, List.set_cons_zero, List.set_cons_succ]
  refine take_op (i := 3) (d := 43) (v := ?_) rfl rfl (by kernel_rfl) (by kernel_rfl) (by kernel_rfl) (fun _ _ _ h => h) (Or.inl ⟨by rfl, ?hy3u16⟩) hHeld ?rest3u16
  case hy3u16 =>
    intro w' hS'
    go_simp
    try with_reducible rfl
  simp only [List.setIfInBounds_toArray, List.set_cons_zero, List.set_cons_succ]
  refine take_op (i := 4) (d := 44) (v := ?_) rfl rfl (by kernel_rfl) (by kernel_rfl) (by kernel_rfl) (fun _ _ _ h => h) (Or.inl ⟨by rfl, ?hy4u17⟩) hHeld ?rest4u17
  case hy4u17 =>
    intro w' hS'
    have c0 := cell_belowB hS' c0
    have c1 := cell_belowB hS' c1
    have c2 := cell_belowB hS' c2
    have c3 := cell_belowB hS' c3
    have cx := cell_belowB hS' cx
    go_simp
    try with_reducible rfl
  simp only [List.setIfInBounds_toArray, List.set_cons_zero, List.set_cons_succ]
  refine take_op (i := 5) (d := 45) (v := ?_) rfl rfl (by kernel_rfl) (by kernel_rfl) (by kernel_rfl) (fun _ _ _ h => h) (Or.inl ⟨by rfl, ?hy5u18⟩) hHeld ?rest5u18
  case hy5u18 =>
    intro w' hS'
    go_simp
    try with_reducible rfl
  simp only [List.setIfInBounds_toArray, List.set_cons_zero, List.set_cons_succ]
  refine take_op (i := 6) (d := 46) (v := ?_) rfl rfl (by kernel_rfl) (by kernel_rfl) (by kernel_rfl) (fun _ _ _ h => h) (Or.inl ⟨by rfl, ?hy6u19⟩) hHeld ?rest6u19
  case hy6u19 =>
    intro w' hS'
    go_simp
    try with_reducible rfl
  simp only [List.setIfInBounds_toArray, List.set_cons_zero, List.set_cons_succ]
  refine take_op (i := 7) (d := 47) (v := ?_) rfl rfl (by kernel_rfl) (by kernel_rfl) (by kernel_rfl) (fun _ _ _ h => h) (Or.inl ⟨by rfl, ?hy7u20⟩) hHeld ?rest7u20
  case hy7u20 =>
    intro w' hS'
    go_simp
    try with_reducible rfl
  simp only [List.setIfInBounds_toArray, List.set_cons_zero, List.set_cons_succ]
  refine take_op (i := 8) (d := 48) (v := ?_) rfl rfl (by kernel_rfl) (by kernel_rfl) (by kernel_rfl) (fun _ _ _ h => h) (Or.inl ⟨by rfl, ?hy8u21⟩) hHeld ?rest8u21
  case hy8u21 =>
    intro w' hS'
    go_simp
    try with_reducible rfl
  simp only [List.setIfInBounds_toArray, List.set_cons_zero, List.set_cons_succ]
  refine take_op (i := 9) (d := 49) (v := ?_) rfl rfl (by kernel_rfl) (by kernel_rfl) (by kernel_rfl) (fun _ _ _ h => h) (Or.inl ⟨by rfl, ?hy9u22⟩) hHeld ?rest9u22
  case hy9u22 =>
    intro w' hS'
    have c0 := cell_belowB hS' c0
    have c1 := cell_belowB hS' c1
    have c2 := cell_belowB hS' c2
    have c3 := cell_belowB hS' c3
    have cx := cell_belowB hS' cx
    go_simp
    try with_reducible rfl
  simp only [List.setIfInBounds_toArray, List.set_cons_zero, List.set_cons_succ]
  refine take_op (i := 10) (d := 50) (v := ?_) rfl rfl (by kernel_rfl) (by kernel_rfl) (by kernel_rfl) (fun _ _ _ h => h) (Or.inl ⟨by rfl, ?hy10u23⟩) hHeld ?rest10u23
  case hy10u23 =>
    intro w' hS'
    go_simp
    try with_reducible rfl
  simp only [List.setIfInBounds_toArray, List.set_cons_zero, List.set_cons_succ]
  refine take_op (i := 11) (d := 12) (v := ?_) rfl rfl (by kernel_rfl) (by kernel_rfl) (by kernel_rfl) (fun _ _ _ h => h) (Or.inl ⟨by rfl, ?hy11u24⟩) hHeld ?rest11u24
  case hy11u24 =>
    intro w' hS'
    go_simp
    try with_reducible rfl
  simp only [List.setIfInBounds_toArray, List.set_cons_zero, List.set_cons_succ]
  refine wpAnyH_done (by kernel_rfl) ?_ _
  revert hHeld
  generalize W3.drew = W4
  intro hHeld
  replace c0 := cell_belowB hHeld c0
  replace c1 := cell_belowB hHeld c1
  replace c2 := cell_belowB hHeld c2
  replace c3 := cell_belowB hHeld c3
  replace cx := cell_belowB hHeld cx
  replace hb := hb.trans (hHeld.mono hb.size)
  clear hHeld
  clear c0 c1 c2 c3 cx
  go_upto_region 7 with (fail)
  cases oq
  · have hc := Lib.hid (cut_le0 (.inl hoq))
    go_wp2
    go_ret
    exact ⟨ret_f32 hc.out.symm, hb⟩
  · have hc := Lib.hid (cut_le0 (.inr hoq))
    go_wp2
    go_ret
    exact ⟨ret_f32 hc.out.symm, hb⟩
  · cases o1
    · have hc := Lib.hid (cut_mid hoq ho1 (by decide))
      go_wp2
      go_ret
      exact ⟨ret_f32 hc.out.symm, hb⟩
    · have hc := Lib.hid (cut_mid hoq ho1 (by decide))
      go_wp2
      go_ret
      exact ⟨ret_f32 hc.out.symm, hb⟩
    · have hc := Lib.hid (cut_top hoq ho1)
      go_wp2
      go_ret
      exact ⟨ret_f32 hc.out.symm, hb⟩

theorem l04Part_any {o dr gp tl : Nat} (aw : AwOk o dr gp tl) (hs ts : List Int) (hh : hs.length = 24) (ht : ts.length = 24) (fc hour : Int) (k : HrOk hs ts hour fc) (g1 g2 : Nat) (T1 T2 : TypeId) (f1 f2 : Nat × Nat) (w : World) (q1 : w.heap[g1]? = some (.cells (awC o dr gp tl) T1 f1)) (q2 : w.heap[g2]? = some (.cells (sunC hs ts) T2 f2)) :
    Calls Tryd.prog 25 #[.pointer (some ⟨g1, 0, none⟩), .pointer (some ⟨g2, 0, none⟩), .int .i64 hour, .int .i64 fc] w fun e w' => e = .returned (.float .f32 (shB o dr gp tl (atH hs hour) (fallOf hs ts hour fc))) ∧ Below w.heap.size w w' := by
  by_cases x0 : 0 < atH hs hour
  · rcases fall_rng (atH hs hour) (atH ts hour - fc) x0 k.x1 with h | ⟨h0, h1⟩
    · rw [show fallOf hs ts hour fc = 0 from h, shB_zero]
      exact l04Part_zero o dr gp tl hs ts hh ht fc hour k h g1 g2 T1 T2 f1 f2 w q1 q2
    · rw [shB_pos (f := fallOf hs ts hour fc) h0]
      exact l04Part_pos aw hs ts hh ht fc hour k _ rfl h0 h1 x0 g1 g2 T1 T2 f1 f2 w q1 q2
  · have h : fallOf hs ts hour fc = 0 := if_neg x0
    rw [h, shB_zero]
    exact l04Part_zero o dr gp tl hs ts hh ht fc hour k h g1 g2 T1 T2 f1 f2 w q1 q2

end Go.Proofs.YthpimcfmgefkkaaDoor
