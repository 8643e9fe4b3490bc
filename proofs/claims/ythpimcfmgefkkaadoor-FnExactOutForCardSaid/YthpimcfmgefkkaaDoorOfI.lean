/-
  How far an awning has to reach out: the program's closure, and the halving of the way.
-/
import Derived.Test.YthpimcfmgefkkaaDoorOfP
import Derived.Test.YthpimcfmgefkkaaDoorShC
import Derived.Test.YthpimcfmgefkkaaDoorPart
import Derived.WalkMore
namespace Go.Proofs.YthpimcfmgefkkaaDoor
open Go.ChangeShapes Go.WideShapes Go.ChangeAt Go.RowKit Go.Deep Go.Joins

attribute [local go_sem] run_store_f

theorem sh_reach (hs ts : List Int) (fc : Int) (o dr gp tl v : Nat) (h : hs.length = 24) (t : ts.length = 24) : (shC hs ts fc o dr gp tl).setIfInBounds 49 (.float .f32 v) = shC hs ts fc v dr gp tl := by
  obtain ⟨a0, a1, a2, a3, a4, a5, a6, a7, a8, a9, b0, b1, b2, b3, b4, b5, b6, b7, b8, b9, c0, c1, c2, c3, rfl⟩ := len24 h
  obtain ⟨d0, d1, d2, d3, d4, d5, d6, d7, d8, d9, e0, e1, e2, e3, e4, e5, e6, e7, e8, e9, f0, f1, f2, f3, rfl⟩ := len24 t
  rfl

/-- What the closure finds: a shade, an hour and a part; all that was there at first is as it was. -/
def HeldAt (hs ts : List Int) (fc : Int) (dr gp tl : Nat) (hour : Int) (le : Nat) (b bh bp : Nat) (w0 V : World) : Prop :=
  (∃ o, V.heap[b]? = some (.cells (shC hs ts fc o dr gp tl) 49 (0, 0))) ∧ V.heap[bh]? = some (.cells #[.int .i64 hour] 2 (0, 0)) ∧ V.heap[bp]? = some (.cells #[.float .f32 le] 22 (0, 0)) ∧ Below w0.heap.size w0 V

set_option maxRecDepth 100000 in
set_option maxHeartbeats 4000000 in
theorem eno_any {dr gp tl : Nat} (aw : ∀ o, o ≤ 1090519040 → AwOk o dr gp tl) (hs ts : List Int) (hh : hs.length = 24) (ht : ts.length = 24) (hour : Int) (fc : Int) (le : Nat) (k : HrOk hs ts hour fc) (b bh bp : Nat) (w0 : World) (hb0 : w0.heap.size ≤ b) (n1 : bh ≠ b) (n2 : bp ≠ b) (o : Nat) (ho : o ≤ 1090519040) (w : World) (hV : HeldAt hs ts fc dr gp tl hour le b bh bp w0 w) :
    Calls Tryd.prog 18 #[.float .f32 o, .pointer (some ⟨b, 0, none⟩), .pointer (some ⟨bh, 0, none⟩), .pointer (some ⟨bp, 0, none⟩)] w fun e w' => e = .returned (.bool (enoB dr gp tl (atH hs hour) (fallOf hs ts hour fc) le o)) ∧ HeldAt hs ts fc dr gp tl hour le b bh bp w0 w' := by
  have HP := Lib.hid (fun w => part_any (aw o ho) hs ts hh ht fc hour k w)
  obtain ⟨p, hp⟩ : ∃ p, p = shB o dr gp tl (atH hs hour) (fallOf hs ts hour fc) := ⟨_, rfl⟩
  have e : enoB dr gp tl (atH hs hour) (fallOf hs ts hour fc) le o = (FloatKind.f32.format.order p le == some .gt || FloatKind.f32.format.order p le == some .eq) := by unfold enoB; rw [← hp]; rfl
  rw [e]
  rw [← hp] at HP
  obtain ⟨⟨o1, h1⟩, h2, h3, hb⟩ := hV
  have HR := Lib.hid (sh_reach hs ts fc o1 dr gp tl o hh ht)
  have HL := Lib.hid hb0
  have Hh := Lib.hid hh
  have Ht := Lib.hid ht
  clear hh ht
  clear k aw e hp ho hb0
  have hl1 := row_lt h1
  obtain ⟨c49, -, -, -⟩ := sh_cells Hh.out Ht.out h1
  have f49 := frozen_of_row w b 49 _ _ h1
  have H1 := Lib.hid h1
  have H2 := Lib.hid h2
  have H3 := Lib.hid h3
  have HBb := Lib.hid hb
  clear h1 h2 h3 hb
  go_enter Tryd.func18, Tryd.ntmps18
  go_upto_region 2 with (fail)
  refine abs_world (fun X => X.heap[b]? = some (.cells (shC hs ts fc o dr gp tl) 49 (0, 0)) ∧ X.heap[bh]? = some (.cells #[.int .i64 hour] 2 (0, 0)) ∧ X.heap[bp]? = some (.cells #[.float .f32 le] 22 (0, 0)) ∧ Below w0.heap.size w0 X) ⟨by rw [heap_setCell_same _ _ _ _ _ _ H1.out, HR.out], (heap_setCell_other _ _ _ _ (by simp; omega)).trans H2.out, (heap_setCell_other _ _ _ _ (by simp; omega)).trans H3.out, HBb.out.setCell (p := ⟨b, 49, none⟩) HL.out _⟩ ?_
  clear H1 H2 H3 HBb c49 f49 hl1
  rintro W ⟨h1, h2, h3, hb⟩
  have H1 := Lib.hid h1
  have H2 := Lib.hid h2
  have H3 := Lib.hid h3
  clear h1 h2 h3
  refine wp_region_held_drew (S := (fun V => Below W.heap.size W V)) (by kernel_rfl) ((Below.refl _ _).drew) (fun hHeld => ?_)
  refine take_op (i := 0) (d := 9) (v := .agg (shC hs ts fc o dr gp tl)) rfl rfl (by kernel_rfl) (by kernel_rfl) (by kernel_rfl) (fun _ _ _ h => h) (yields_row (by rfl) 49 (.tmp 1) (by rfl) b 0 53 (by rfl) 49 (shC hs ts fc o dr gp tl) (0, 0) _ (fun _ h => below_row h H1.out) Tryd.underlying49 rfl info_sh (sh_fits _ _ _ _ _ _ _ Hh.out Ht.out) (shC hs ts fc o dr gp tl) (sh_all _ _ _ _ _ _ _ Hh.out Ht.out)) hHeld ?_
  simp only [List.setIfInBounds_toArray, List.set_cons_zero, List.set_cons_succ]
  refine take_op (i := 1) (d := 10) (v := ?_) rfl rfl (by kernel_rfl) (by kernel_rfl) (by kernel_rfl) (fun _ _ _ h => h) (Or.inl ⟨by rfl, ?hy1u1⟩) hHeld ?rest1u1
  case hy1u1 =>
    intro w' hS'
    (have q3 : w'.cell? ⟨bh, 0, none⟩ = some (.int .i64 hour) := by (rw [cell_of_row w' _ _ _ _ _ (below_row hS' H2.out)]; rfl)); go_simp
    try with_reducible rfl
  simp only [List.setIfInBounds_toArray, List.set_cons_zero, List.set_cons_succ]
  refine take_op (i := 3) (d := 12) (v := ?_) rfl rfl (by kernel_rfl) (by kernel_rfl) (by kernel_rfl) (fun _ _ _ h => h) (Or.inl ⟨by rfl, ?hy3u2⟩) hHeld ?rest3u2
  case hy3u2 =>
    intro w' hS'
    (have q3 : w'.cell? ⟨bp, 0, none⟩ = some (.float .f32 le) := by (rw [cell_of_row w' _ _ _ _ _ (below_row hS' H3.out)]; rfl)); go_simp
    try with_reducible rfl
  simp only [List.setIfInBounds_toArray, List.set_cons_zero, List.set_cons_succ]
  refine wpAnyH_ready (rs := [2]) (by kernel_rfl) (by simp) ?_
  refine AllReadyH.cons rfl (fun K hK => ?_) AllReadyH.nil
  go_simp
  refine (HP.out _).mono ?_
  rintro e W1 ⟨rfl, hb1⟩
  refine hK.out _ _ (hHeld.trans (hb1.mono hHeld.size)) (fun hHeld2 => ?_)
  clear hK K
  replace hHeld := hHeld2
  clear hHeld2
  clear hb1
  refine take_op (i := 4) (d := 13) (v := ?_) rfl rfl (by kernel_rfl) (by kernel_rfl) (by kernel_rfl) (fun _ _ _ h => h) (Or.inl ⟨by rfl, ?hy4u3⟩) hHeld ?rest4u3
  case hy4u3 =>
    intro w' hS'
    go_simp
    try with_reducible rfl
  simp only [List.setIfInBounds_toArray, List.set_cons_zero, List.set_cons_succ]
  refine take_op (i := 5) (d := 5) (v := ?_) rfl rfl (by kernel_rfl) (by kernel_rfl) (by kernel_rfl) (fun _ _ _ h => h) (Or.inl ⟨by rfl, ?hy5u4⟩) hHeld ?rest5u4
  case hy5u4 =>
    intro w' hS'
    go_simp
    try with_reducible rfl
  simp only [List.setIfInBounds_toArray, List.set_cons_zero, List.set_cons_succ]
  refine wpAnyH_done (by kernel_rfl) ?_ _
  replace H1 := Lib.hid (below_row hHeld H1.out)
  replace H2 := Lib.hid (below_row hHeld H2.out)
  replace H3 := Lib.hid (below_row hHeld H3.out)
  replace hb := hb.trans (hHeld.mono hb.size)
  clear hHeld
  have hx : HeldAt hs ts fc dr gp tl hour le b bh bp w0 _ := ⟨⟨o, H1.out⟩, H2.out, H3.out, hb⟩
  have HF := Lib.hid hx
  clear hx
  clear H1 H2 H3 hb
  go_wp2
  go_ret
  exact ⟨rfl, HF.out⟩

set_option maxRecDepth 100000 in
theorem enterOf (args : Array Value) (w : World) : (callFunc 18 args).run Tryd.prog w = .ok (.enter 18 args) w := by
  first | kernel_rfl | rfl | simp [callFunc]

set_option maxRecDepth 100000 in
set_option maxHeartbeats 4000000 in
theorem leastOut_any (E : Nat → Bool) (h0 : E 0 = false) (h8 : E 1090519040 = true) (Fc : FuncId) (hE : ∀ args w, (callFunc Fc args).run Tryd.prog w = .ok (.enter Fc args) w) (lbw : Array Value) (C : World → Prop) (w : World) (hC : C w)
    (hP : ∀ o W, o ≤ 1090519040 → C W → Calls Tryd.prog Fc (#[.float .f32 o] ++ lbw) W fun e W' => e = .returned (.bool (E o)) ∧ C W') :
    Calls Tryd.prog 20 #[.func (.func Fc) #[] lbw] w fun e w' => e = .returned (.float .f32 (halfN E 30 (0, 1090519040)).2) ∧ C w' := by
  have HP := Lib.hid hP
  have HC := Lib.hid hC
  have H0 := Lib.hid h0
  have H8 := Lib.hid h8
  obtain ⟨R, hR⟩ : ∃ R, R = halfN E 30 (0, 1090519040) := ⟨_, rfl⟩
  rw [← hR]
  have HR := Lib.hid hR
  clear hP hC h0 h8 hR
  go_enter Tryd.func20, Tryd.ntmps20
  go_wp2
  go_step3
  go_wp2
  go_step3
  go_wp2
  go_loopw [3, 4, 6] (fun lo hi i wr => ∃ k l h : Nat, k ≤ 30 ∧ lo = .float .f32 l ∧ hi = .float .f32 h ∧ i = .int .i64 (k : Int) ∧ l ≤ 1090519040 ∧ h ≤ 1090519040 ∧ E l = false ∧ E h = true ∧ R = halfN E (30 - k) (l, h) ∧ C wr) (fun _ _ i _ => 30 - (intOf i).toNat)
  case atStart => exact ⟨0, 0, 1090519040, by decide, rfl, rfl, rfl, by decide, Nat.le_refl _, H0.out, H8.out, HR.out, HC.out⟩
  case round =>
    clear H0 H8 HR HC
    obtain ⟨k, l, h, hk, rfl, rfl, rfl, hl, hh, el, eh, hr, hc⟩ := hrel
    by_cases hlt : k < 30
    · obtain ⟨r1, r2, hm⟩ := mid_facts hl hh
      have o1 := mid_order hm hl
      have o2 := mid_order hm hh
      have hst := half_stop (E := E) (lo := l) (hi := h) el eh
      have hsh := halfS_hi (E := E) (lo := l) (hi := h)
      have hsl := halfS_lo (E := E) (lo := l) (hi := h)
      have hr1 : R = halfN E (30 - (k + 1)) (halfS E (l, h)) := by
        have e : 30 - k = (30 - (k + 1)) + 1 := by omega
        rw [hr, e]; rfl
      generalize midB l h = m at *
      have q1 := run_qf _ _ _ _ r1
      have q2 := run_qf _ _ _ _ r2
      generalize fadd l h = s at *
      have HS := Lib.hid (And.intro hst (And.intro hsh (And.intro hsl (And.intro hr hr1))))
      have HE := Lib.hid (And.intro el (And.intro eh (And.intro hl (And.intro hh hm))))
      have HC := Lib.hid hc
      have z1 : (k : Int) < 30 := by omega
      clear hst hsh hsl hr hr1 el eh hl hh hc r1 r2
      by_cases e1 : m = l
      · have p1 : FloatKind.f32.format.order m l = some .eq := by rw [o1, Nat.compare_eq_eq.2 e1]
        have HV : Hid (R.2 = h) := Lib.hid (by rw [HS.out.2.2.2.1, halfN_fix (HS.out.1 (.inl e1))])
        clear o1 o2 e1 HS HE
        go_wp2
        (try rw [Exit.noGoto_ret]); go_ret
        rw [HV.out]
        exact ⟨rfl, HC.out⟩
      · have p1 : (FloatKind.f32.format.order m l == some .eq) = false := by
          rw [o1]
          cases hcmp : compare m l with
          | eq => exact absurd (Nat.compare_eq_eq.1 hcmp) e1
          | lt => rfl
          | gt => rfl
        by_cases e2 : m = h
        · have p2 : FloatKind.f32.format.order m h = some .eq := by rw [o2, Nat.compare_eq_eq.2 e2]
          have HV : Hid (R.2 = h) := Lib.hid (by rw [HS.out.2.2.2.1, halfN_fix (HS.out.1 (.inr e2))])
          clear o1 o2 e1 e2 HS HE
          go_wp2
          (try rw [Exit.noGoto_ret]); go_ret
          rw [HV.out]
          exact ⟨rfl, HC.out⟩
        · have p2 : (FloatKind.f32.format.order m h == some .eq) = false := by
            rw [o2]
            cases hcmp : compare m h with
            | eq => exact absurd (Nat.compare_eq_eq.1 hcmp) e2
            | lt => rfl
            | gt => rfl
          clear o1 o2 e1 e2
          have HPm := Lib.hid (HP.out m _ HE.out.2.2.2.2 HC.out)
          cases hm2 : E m with
          | true =>
            rw [hm2] at HPm
            have HN : Hid (R = halfN E (30 - (k + 1)) (l, m)) := Lib.hid (by rw [HS.out.2.2.2.2, HS.out.2.1 hm2])
            have HM := Lib.hid hm2
            clear HS hm2 HC
            go_wp2_with (refine HPm.out.mono ?_; rintro e W7 ⟨rfl, hC7⟩; have HC7 := Lib.hid hC7; clear hC7)
            go_roundw
            case rel => exact ⟨k + 1, l, m, by omega, rfl, rfl, by go_num, HE.out.2.2.1, HE.out.2.2.2.2, HE.out.1, HM.out, HN.out, HC7.out⟩
            case measure => simp [intOf]; omega
          | false =>
            rw [hm2] at HPm
            have HN : Hid (R = halfN E (30 - (k + 1)) (m, h)) := Lib.hid (by rw [HS.out.2.2.2.2, HS.out.2.2.1 hm2])
            have HM := Lib.hid hm2
            clear HS hm2 HC
            go_wp2_with (refine HPm.out.mono ?_; rintro e W7 ⟨rfl, hC7⟩; have HC7 := Lib.hid hC7; clear hC7)
            go_roundw
            case rel => exact ⟨k + 1, m, h, by omega, rfl, rfl, by go_num, HE.out.2.2.2.2, HE.out.2.2.2.1, HM.out, HE.out.2.1, HN.out, HC7.out⟩
            case measure => simp [intOf]; omega
    · obtain rfl : k = 30 := by omega
      have HV : Hid (R.2 = h) := Lib.hid (by rw [hr]; rfl)
      have HC := Lib.hid hc
      clear hr hc hl hh el eh
      go_wp2
      (try rw [Exit.noGoto_ret]); go_ret
      rw [HV.out]
      exact ⟨rfl, HC.out⟩

end Go.Proofs.YthpimcfmgefkkaaDoor
