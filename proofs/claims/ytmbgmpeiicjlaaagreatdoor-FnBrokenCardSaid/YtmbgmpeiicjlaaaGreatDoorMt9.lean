/-
  YrA, YrS, YrI, YrB, Mag, Sms, YrF.
-/
import Derived.Test.YtmbgmpeiicjlaaaGreatDoorMt8
import Derived.Test.YtmbgmpeiicjlaaaGreatDoorMt2
import Derived.Test.YtmbgmpeiicjlaaaGreatDoorMt1
import Derived.Test.YtmbgmpeiicjlaaaGreatDoorMt6
import Derived.Test.YtmbgmpeiicjlaaaGreatDoorMt7

namespace Go.Proofs.YtmbgmpeiicjlaaaGreatDoor

open Go.ChangeShapes Go.WideShapes Go.ChangeAt Go.RowKit Go.Deep Go.Joins

attribute [local go_sem] run_store_f

theorem getD_at {zs : List Nat} {k x : Nat} (h : zs[k]? = some x) : zs.getD k 0 = x := by rw [List.getD, h]; rfl

set_option maxRecDepth 100000 in
set_option maxHeartbeats 4000000 in
theorem greatestOf_any (sv : Value) (zs : List Nat) (hf : ∀ z ∈ zs, fin32 z = true) (h0 : 1 ≤ zs.length) (w : World) (hz : FloatsAt w sv zs) :
    Calls Tryz.prog 49 #[sv] w fun e w' => e = .returned (.tuple #[.int .i64 (bstI zs zs.length : Int), .float .f32 (zs.getD (bstI zs zs.length) 0)]) ∧ Below w.heap.size w w' := by
  have HW := Lib.hid hz
  have HF := Lib.hid hf
  obtain ⟨a, cap, rfl, hl, hm, _⟩ := hz
  unfold maxLen at hm
  generalize hn : zs.length = n' at *
  have HN := Lib.hid hn
  have HB := Lib.hid (fun k (hk : k ≤ n') => bstI_lt zs (n := n') (by omega) k hk)
  clear hn hf
  go_enter Tryz.func49, Tryz.ntmps49
  go_wp2
  go_loopw [4, 9] (fun b i wr => ∃ k : Nat, k ≤ n' ∧ i = .int .i64 k ∧ b = .int .i64 (bstI zs k : Int) ∧ w = wr) (fun _ i _ => n' - (intOf i).toNat)
  case atStart => exact ⟨0, Nat.zero_le _, rfl, rfl, rfl⟩
  case round =>
    obtain ⟨k, hk, rfl, rfl, rfl⟩ := hrel
    have hbl := HB.out k hk
    have hy : zs[bstI zs k]? = some (zs[bstI zs k]'(by rw [HN.out]; exact hbl)) := List.getElem?_eq_getElem _
    obtain ⟨g1, o1, rfl, hcy⟩ := float_at HW.out hy
    have HFY := Lib.hid (HF.out _ (List.mem_of_getElem? hy))
    generalize (zs[bstI zs k]'(by rw [HN.out]; exact hbl)) = y at *
    have HY := Lib.hid (getD_at hy)
    clear hy
    by_cases hlt : k < n'
    · have hx : zs[k]? = some (zs[k]'(by rw [HN.out]; exact hlt)) := List.getElem?_eq_getElem _
      obtain ⟨g2, o2, e2, hcx⟩ := float_at HW.out hx
      injection e2 with e2
      injection e2 with e2 e3
      subst e2 e3
      have HFX := Lib.hid (HF.out _ (List.mem_of_getElem? hx))
      generalize (zs[k]'(by rw [HN.out]; exact hlt)) = x at *
      have HX := Lib.hid (getD_at hx)
      obtain ⟨od, ho⟩ := order_some HFX.out HFY.out
      have hg : gtY (zs.getD k 0) (zs.getD (bstI zs k) 0) = (od == .gt) := by
        rw [HX.out, HY.out]
        unfold gtY
        rw [ho]
        rfl
      have HG := Lib.hid hg
      have z1 : (k : Int) < (n' : Int) := by omega
      have z2 : (0 : Int) ≤ (k : Int) := by omega
      have z3 : decide ((k : Int) < (n' : Int)) = true := decide_eq_true z1
      have y1 : ((bstI zs k : Nat) : Int) < (n' : Int) := by omega
      have y2 : (0 : Int) ≤ ((bstI zs k : Nat) : Int) := by omega
      have HSU := Lib.hid (fun h => bstI_up (zs := zs) (k := k) h)
      have HSS := Lib.hid (fun h => bstI_stay (zs := zs) (k := k) h)
      clear hx hg HFX HFY
      generalize bstI zs k = bi at *
      cases od with
      | gt =>
        have HE := Lib.hid (HSU.out HG.out)
        clear HSU HSS
        go_wp2
        go_roundw
        case rel => exact ⟨k + 1, by omega, by go_num, by rw [HE.out], by trivial⟩
        case measure => simp [intOf]; omega
      | lt =>
        have HE := Lib.hid (HSS.out HG.out)
        clear HSU HSS
        go_wp2
        go_roundw
        case rel => exact ⟨k + 1, by omega, by go_num, by rw [HE.out], by trivial⟩
        case measure => simp [intOf]; omega
      | eq =>
        have HE := Lib.hid (HSS.out HG.out)
        clear HSU HSS
        go_wp2
        go_roundw
        case rel => exact ⟨k + 1, by omega, by go_num, by rw [HE.out], by trivial⟩
        case measure => simp [intOf]; omega
    · obtain rfl : k = n' := by omega
      have HCB : Hid (w.cell? ⟨g1, o1 + bstI zs k, none⟩ = some (.float .f32 (zs.getD (bstI zs k) 0))) := by rw [HY.out]; exact hcy
      have y1 : ((bstI zs k : Nat) : Int) < (k : Int) := by omega
      have y2 : (0 : Int) ≤ ((bstI zs k : Nat) : Int) := by omega
      have z1 : decide ((k : Int) < (k : Int)) = false := decide_eq_false (by omega)
      clear hcy hlt
      go_wp2
      refine wp_region_held_drew (S := (fun V => V.cell? ⟨g1, o1 + bstI zs k, none⟩ = some (.float .f32 (zs.getD (bstI zs k) 0)) ∧ Below w.heap.size w V)) (by kernel_rfl) ⟨HCB.out, (Below.refl _ _).drew⟩ (fun hHeld => ?_)
      refine take_op (i := 0) (d := 22) (v := ?_) rfl rfl (by kernel_rfl) (by kernel_rfl) (by kernel_rfl) (fun _ _ _ h => h) (Or.inl ⟨by rfl, ?hy0u8⟩) hHeld ?rest0u8
      case hy0u8 =>
        intro w' hS'
        go_simp
        try with_reducible rfl
      simp only [List.setIfInBounds_toArray, List.set_cons_zero, List.set_cons_succ]
      refine take_op (i := 1) (d := 23) (v := ?_) rfl rfl (by kernel_rfl) (by kernel_rfl) (by kernel_rfl) (fun _ _ _ h => h) (Or.inl ⟨by rfl, ?hy1u9⟩) hHeld ?rest1u9
      case hy1u9 =>
        intro w' hS'
        go_simp
        try with_reducible rfl
      simp only [List.setIfInBounds_toArray, List.set_cons_zero, List.set_cons_succ]
      refine take_op (i := 2) (d := 24) (v := ?_) rfl rfl (by kernel_rfl) (by kernel_rfl) (by kernel_rfl) (fun _ _ _ h => h) (Or.inl ⟨by rfl, ?hy2u10⟩) hHeld ?rest2u10
      case hy2u10 =>
        intro w' hS'
        go_simp
        try with_reducible rfl
      simp only [List.setIfInBounds_toArray, List.set_cons_zero, List.set_cons_succ]
      refine take_op (i := 3) (d := 25) (v := ?_) rfl rfl (by kernel_rfl) (by kernel_rfl) (by kernel_rfl) (fun _ _ _ h => h) (Or.inl ⟨by rfl, ?hy3u11⟩) hHeld ?rest3u11
      case hy3u11 =>
        intro w' hS'
        go_simp
        try with_reducible rfl
      simp only [List.setIfInBounds_toArray, List.set_cons_zero, List.set_cons_succ]
      refine take_op (i := 4) (d := 26) (v := ?_) rfl rfl (by kernel_rfl) (by kernel_rfl) (by kernel_rfl) (fun _ _ _ h => h) (Or.inl ⟨by rfl, ?hy4u12⟩) hHeld ?rest4u12
      case hy4u12 =>
        intro w' hS'
        obtain ⟨s1, _⟩ := hS'
        go_simp
        try with_reducible rfl
      simp only [List.setIfInBounds_toArray, List.set_cons_zero, List.set_cons_succ]
      refine take_op (i := 5) (d := 2) (v := ?_) rfl rfl (by kernel_rfl) (by kernel_rfl) (by kernel_rfl) (fun _ _ _ h => h) (Or.inl ⟨by rfl, ?hy5u13⟩) hHeld ?rest5u13
      case hy5u13 =>
        intro w' hS'
        go_simp
        try with_reducible rfl
      simp only [List.setIfInBounds_toArray, List.set_cons_zero, List.set_cons_succ]
      refine take_op (i := 6) (d := 3) (v := ?_) rfl rfl (by kernel_rfl) (by kernel_rfl) (by kernel_rfl) (fun _ _ _ h => h) (Or.inl ⟨by rfl, ?hy6u14⟩) hHeld ?rest6u14
      case hy6u14 =>
        intro w' hS'
        go_simp
        try with_reducible rfl
      simp only [List.setIfInBounds_toArray, List.set_cons_zero, List.set_cons_succ]
      refine wpAnyH_done (by kernel_rfl) ?_ _
      have hbx := hHeld.2
      clear hHeld HCB
      go_wp2
      go_ret2
      exact ⟨rfl, hbx⟩

set_option maxRecDepth 100000 in
set_option maxHeartbeats 1000000 in
theorem addedP_any (sv : Value) (zs : List Nat) (hq : ∀ z ∈ zs, pos32 z = true) (w : World) (hz : FloatsAt w sv zs) :
    Calls Tryz.prog 53 #[sv] w fun e w' => e = .returned (.float .f32 (sumL zs zs.length)) ∧ w = w' := by
  have HT := Lib.hid (fun k x => sumL_step (k := k) (x := x) hq)
  have HW := Lib.hid hz
  obtain ⟨a, cap, rfl, hl, hm, _⟩ := hz
  unfold maxLen at hm
  generalize hn : zs.length = n at *
  have HN := Lib.hid hn
  clear hn hq
  go_enter Tryz.func53, Tryz.ntmps53
  go_wp2
  go_loopw [3, 8] (fun s i wr => ∃ k : Nat, k ≤ n ∧ i = .int .i64 k ∧ s = .float .f32 (sumL zs k) ∧ wr = w) (fun _ i _ => n - (intOf i).toNat)
  case atStart => exact ⟨0, Nat.zero_le _, rfl, rfl, rfl⟩
  case round =>
    obtain ⟨k, hk, rfl, rfl, rfl⟩ := hrel
    by_cases hlt : k < n
    · have hx : zs[k]? = some (zs[k]'(by rw [HN.out]; exact hlt)) := List.getElem?_eq_getElem _
      obtain ⟨g, o, rfl, hc⟩ := float_at HW.out hx
      generalize (zs[k]'(by rw [HN.out]; exact hlt)) = x at *
      have z1 : (k : Int) < (n : Int) := by omega
      have z2 : (0 : Int) ≤ (k : Int) := by omega
      have z3 : decide ((k : Int) < (n : Int)) = true := decide_eq_true z1
      have ra := fun T w => run_float_arith (P := Tryz.prog) w .add T .f32 _ _ _ (HT.out k x hx)
      clear hx
      go_wp2
      go_roundw
      case rel => exact ⟨k + 1, by omega, by go_num, by trivial, by trivial⟩
      case measure => simp [intOf]; omega
    · obtain rfl : k = n := by omega
      go_wp2
      go_ret
      exact ⟨rfl, rfl⟩

end Go.Proofs.YtmbgmpeiicjlaaaGreatDoor

namespace Go.Proofs.YtmbgmpeiicjlaaaGreatDoor

open Go.ChangeShapes Go.WideShapes Go.ChangeAt Go.RowKit Go.Deep Go.Joins

attribute [local go_sem] run_store_f

theorem l00In_isY (a lo hi : Int) (r : Bool) (h : inI lo hi a = r) (w : World) : Calls Tryz.prog 54 #[.int .i64 a, .int .i64 lo, .int .i64 hi] w fun e w' => e = .returned (.bool r) ∧ w = w' := by subst h; exact l00In_ban a lo hi w

theorem allSu_no {ws : List Su} {k : Nat} {x : Su} (h : ws[k]? = some x) (hx : okSu x = false) : ws.all okSu = false := by
  rw [Bool.eq_false_iff]
  intro ha
  have := List.all_eq_true.1 ha x (List.mem_of_getElem? h)
  rw [hx] at this; cases this

set_option maxRecDepth 100000 in
set_option maxHeartbeats 4000000 in
theorem l07Year_any (n : Int) (wd gp : Nat) (t : Int) (sh : Nat) (T0 : -32768 ≤ t) (T1 : t ≤ 32767) (N0 : -128 ≤ n) (N1 : n ≤ 127) (sv : Value) (ws : List Su) (hwf : ∀ x ∈ ws, SuWf x) (fine : Bool) (c : Int) (hc : codeY (okBl n wd gp t sh) ws fine = c) (g1 : Nat) (w : World) (c1 : w.heap[g1]? = some (.cells (blindC n wd gp t sh) 28 (0, 0))) (hz : SunsAt w sv ws) :
    Calls Tryz.prog 50 #[.pointer (some ⟨g1, 0, none⟩), sv, .bool fine] w fun e w' => e = .returned (.int .i64 c) ∧ w = w' := by
  have HK := Lib.hid (fun w hg => l02Ok_any n wd gp t sh T0 T1 N0 N1 g1 28 (0, 0) w hg)
  have HC := Lib.hid hc
  have HZ := Lib.hid hz
  have HWF := Lib.hid hwf
  have C1 := Lib.hid c1
  obtain ⟨a, cap, rfl, hl1, hl2, _⟩ := hz
  unfold maxLen at hl2
  generalize hn : ws.length = n' at *
  have HN := Lib.hid hn
  clear hc hn hwf c1 T0 T1 N0 N1
  generalize okBl n wd gp t sh = okb at *
  cases okb with
  | false =>
    have hc' : c = 1 := by rw [← HC.out]; rfl
    subst hc'
    clear HC
    go_enter Tryz.func50, Tryz.ntmps50
    go_wp2_with (first | (go_at_call 34; refine (HK.out _ C1.out).mono ?_; rintro e w' ⟨rfl, rfl⟩))
    go_ret
    exact ⟨rfl, rfl⟩
  | true =>
    have HI := Lib.hid (fun w => l00In_isY (n' : Int) 1 12 _ rfl w)
    go_enter Tryz.func50, Tryz.ntmps50
    go_wp2_with (first | (go_at_call 34; refine (HK.out _ C1.out).mono ?_; rintro e w' ⟨rfl, rfl⟩))
    go_loopw [7] (fun i wr => ∃ k : Nat, k ≤ n' ∧ i = .int .i64 k ∧ w = wr ∧ (ws.take k).all okSu = true) (fun i _ => n' - (intOf i).toNat)
    case atStart => exact ⟨0, Nat.zero_le _, rfl, rfl, rfl⟩
    case round =>
      obtain ⟨k, hk, rfl, rfl, hall⟩ := hrel
      have HA := Lib.hid hall
      clear hall
      by_cases hlt : k < n'
      · have hx : ws[k]? = some (ws[k]'(by rw [HN.out]; exact hlt)) := List.getElem?_eq_getElem _
        obtain ⟨g, o, rfl, hcx⟩ := sun_at HZ.out hx
        have HT : Hid (ws.take (k + 1) = ws.take k ++ [(ws[k]'(by rw [HN.out]; exact hlt))]) := by rw [List.take_succ_eq_append_getElem (by rw [HN.out]; exact hlt)]; exact Lib.hid rfl
        generalize (ws[k]'(by rw [HN.out]; exact hlt)) = x at *
        have HX := Lib.hid hx
        have hv := HWF.out x (List.mem_of_getElem? hx)
        have HO := Lib.hid (fun w hg => l01Ok_o g (o + k * 48) x.1 x.2 hv.1 hv.2.1 hv.2.2 w hg)
        have HCX := Lib.hid hcx
        have z1 : (k : Int) < (n' : Int) := by omega
        have z2 : (0 : Int) ≤ (k : Int) := by omega
        clear hx hcx hv
        cases hf : okSu x with
        | true =>
          have hf' : okB x.1 x.2 = true := hf
          rw [hf'] at HO
          have HF := Lib.hid hf
          clear hf hf'
          go_wp2_with (go_at_call 76; refine (HO.out _ HCX.out).mono ?_; rintro e w' ⟨rfl, rfl⟩)
          go_roundw
          case rel => exact ⟨k + 1, by omega, by go_num, by trivial, by rw [HT.out, List.all_append, HA.out]; simp [HF.out]⟩
          case measure => simp [intOf]; omega
        | false =>
          have hf' : okB x.1 x.2 = false := hf
          rw [hf'] at HO
          have hc' : c = 1 := by rw [← HC.out]; unfold codeY; rw [allSu_no HX.out hf]; rfl
          subst hc'
          clear HC hf hf'
          go_wp2_with (go_at_call 76; refine (HO.out _ HCX.out).mono ?_; rintro e w' ⟨rfl, rfl⟩)
          go_ret
          exact ⟨rfl, rfl⟩
      · obtain rfl : k = n' := by omega
        have hall : ws.all okSu = true := by
          have := HA.out
          rwa [List.take_of_length_le (by rw [HN.out]; exact Nat.le_refl _)] at this
        have HL := Lib.hid hall
        clear hall hlt
        cases hl : inI 1 12 (k : Int) with
        | false =>
          rw [hl] at HI
          have hc' : c = 3 := by rw [← HC.out]; unfold codeY; rw [HL.out, HN.out, hl]; rfl
          subst hc'
          clear HC hl
          go_wp2_with (first | (go_at_call 54; refine (HI.out _).mono ?_; rintro e w' ⟨rfl, rfl⟩))
          go_ret
          exact ⟨rfl, rfl⟩
        | true =>
          rw [hl] at HI
          cases fine with
          | false =>
            have hc' : c = 2 := by rw [← HC.out]; unfold codeY; rw [HL.out, HN.out, hl]; rfl
            subst hc'
            clear HC hl
            go_wp2_with (first | (go_at_call 54; refine (HI.out _).mono ?_; rintro e w' ⟨rfl, rfl⟩))
            go_ret
            exact ⟨rfl, rfl⟩
          | true =>
            have hc' : c = 0 := by rw [← HC.out]; unfold codeY; rw [HL.out, HN.out, hl]; rfl
            subst hc'
            clear HC hl
            go_wp2_with (first | (go_at_call 54; refine (HI.out _).mono ?_; rintro e w' ⟨rfl, rfl⟩))
            go_ret
            exact ⟨rfl, rfl⟩

end Go.Proofs.YtmbgmpeiicjlaaaGreatDoor

namespace Go.Proofs.YtmbgmpeiicjlaaaGreatDoor

open Go.ChangeShapes Go.WideShapes Go.ChangeAt Go.RowKit Go.Deep Go.Joins

attribute [local go_sem] run_store_f

theorem dyL_pos (n : Int) (wd gp : Nat) (t : Int) (sh : Nat) (OK : BlOk n wd gp t sh) (fc : Int) (x : Su) (hx : SuWf x) (ho : okSu x = true) : pos32 (dyL wd gp t sh fc x) = true := by
  unfold dyL
  exact sumTo_pos _ 24 (fun j hj => winB_pos wd gp t OK.2.2.2.2.2.2.2.2 x.1 x.2 (j : Int) fc (okB_h hx.1 hx.2.1 ho (j : Int) (by omega) (by omega)).2) 24 (Nat.le_refl _)

set_option maxRecDepth 100000 in
set_option maxHeartbeats 4000000 in
theorem iYearLight_yes (n : Int) (wd gp : Nat) (t : Int) (sh : Nat) (T0 : -32768 ≤ t) (T1 : t ≤ 32767) (sv : Value) (ws : List Su) (hwf : ∀ x ∈ ws, SuWf x) (bw : BlWf n wd gp t sh) (fc : Int) (fv : Bool) (hf : inF fc = true) (hc : codeY (okBl n wd gp t sh) ws fv = 0) (w : World) (hz : SunsAt w sv ws) :
    Calls Tryz.prog 18 #[.agg (blindC n wd gp t sh), sv, .int .i64 fc] w (RetF6 (ws.map (dyL wd gp t sh fc)) 0 w) := by
  obtain ⟨hk, ha, ⟨l1, l12⟩, hff⟩ := codeY_ok hc
  have OK := blok_of bw hk
  have HC := Lib.hid (fun w hz => checkYear_any n wd gp t sh T0 T1 sv ws hwf fv w hz)
  have h00 : rfV (yrRf 0) = .nilIface := rfl
  rw [hc, h00] at HC
  clear h00
  subst hff
  have hok : ∀ x ∈ ws, okSu x = true := List.all_eq_true.1 ha
  have hn := fun w => run_neq_nil_nil (P := Tryz.prog) (w := w) 72 (by kernel_rfl)
  have HZ := Lib.hid hz
  have HL := Lib.hid (fun w hz => yearLight_any n wd gp t sh OK sv ws hwf hok l12 fc hf w hz)
  have HFc := Lib.hid hf
  obtain ⟨a, cap, rfl, -⟩ := hz
  generalize ws.map (dyL wd gp t sh fc) = zs at *
  clear OK hwf hok hc hk ha bw hf T0 T1 l1 l12
  go_enter Tryz.func18, Tryz.ntmps18
  go_upto_region 1 with (fail)
  refine abs_world (fun W => Below w.heap.size w W ∧ W.heap[w.heap.size]? = some (.cells (blindC n wd gp t sh) 28 (0, 0))) ⟨(Below.refl _ _).alloc (Nat.le_refl _) _, heap_alloc_new _ _⟩ ?_
  rintro W ⟨hb, h0⟩
  have H0 := Lib.hid h0
  clear h0
  refine wp_region_held_drew (S := (fun V => Below W.heap.size W V)) (by kernel_rfl) (Below.refl _ _).drew (fun hHeld => ?_)
  refine take_op (i := 0) (d := 9) (v := .agg (blindC n wd gp t sh)) rfl rfl (by kernel_rfl) (by kernel_rfl) (by kernel_rfl) (fun _ _ _ h => h) (yields_row (by rfl) 28 (.tmp 3) (by rfl) w.heap.size 0 5 (by rfl) 28 (blindC n wd gp t sh) (0, 0) _ (fun _ h => below_row h H0.out) Tryz.underlying28 rfl info_blind (blind_fits _ _ _ _ _) (blindC n wd gp t sh) (blind_all _ _ _ _ _)) hHeld ?_
  simp only [List.setIfInBounds_toArray, List.set_cons_zero, List.set_cons_succ]
  refine take_op (i := 1) (d := 10) (v := ?_) rfl rfl (by kernel_rfl) (by kernel_rfl) (by kernel_rfl) (fun _ _ _ h => h) (Or.inl ⟨by rfl, ?hy1u21⟩) hHeld ?rest1u21
  case hy1u21 =>
    intro w' hS'
    go_simp
    try with_reducible rfl
  simp only [List.setIfInBounds_toArray, List.set_cons_zero, List.set_cons_succ]
  refine take_op (i := 2) (d := 11) (v := ?_) rfl rfl (by kernel_rfl) (by kernel_rfl) (by kernel_rfl) (fun _ _ _ h => h) (Or.inl ⟨by rfl, ?hy2u22⟩) hHeld ?rest2u22
  case hy2u22 =>
    intro w' hS'
    go_simp
    try with_reducible rfl
  simp only [List.setIfInBounds_toArray, List.set_cons_zero, List.set_cons_succ]
  refine wpAnyH_ready (rs := [3]) (by kernel_rfl) (by simp) ?_
  refine AllReadyH.cons rfl (fun K hK => ?_) AllReadyH.nil
  go_simp
  refine (isFacing_is fc true HFc.out _).mono ?_
  rintro e w' ⟨rfl, rfl⟩
  refine hK.out _ _ (hHeld) (fun hHeld2 => ?_)
  clear hK K
  replace hHeld := hHeld2
  clear hHeld2
  refine wpAnyH_ready (rs := [4]) (by kernel_rfl) (by simp) ?_
  refine AllReadyH.cons rfl (fun K hK => ?_) AllReadyH.nil
  go_simp
  refine (HC.out _ (suns_below HZ.out (hb.trans (hHeld.mono hb.size)))).mono ?_
  rintro e W1 ⟨rfl, hb1⟩
  refine hK.out _ _ (hHeld.trans (hb1.mono hHeld.size)) (fun hHeld2 => ?_)
  clear hK K
  replace hHeld := hHeld2
  clear hHeld2
  clear hb1
  refine take_op (i := 5) (d := 8) (v := ?_) rfl rfl (by kernel_rfl) (by kernel_rfl) (by kernel_rfl) (fun _ _ _ h => h) (Or.inl ⟨by rfl, ?hy5u23⟩) hHeld ?rest5u23
  case hy5u23 =>
    intro w' hS'
    go_simp
    try with_reducible rfl
  simp only [List.setIfInBounds_toArray, List.set_cons_zero, List.set_cons_succ]
  refine wpAnyH_done (by kernel_rfl) ?_ _
  replace H0 := Lib.hid (below_row hHeld H0.out)
  replace hb := hb.trans (hHeld.mono hb.size)
  clear hHeld
  go_wp2_with (first | (refine wpList_load_part rfl 28 _ rfl w.heap.size 0 5 rfl 28 (blindC n wd gp t sh) (0, 0) _ H0.out Tryz.underlying28 rfl info_blind (blind_fits _ _ _ _ _) _ (blind_all _ _ _ _ _) ?_) | (go_at_call 48; refine (HL.out _ (suns_below HZ.out hb)).mono ?_; rintro e W3 ⟨⟨v, rfl, hv⟩, hb3⟩; have HV := Lib.hid hv; clear hv; have hws := hb.size; replace hb := hb.trans (hb3.mono hb.size); clear hb3))
  go_ret2
  exact ⟨⟨_, rfl, own_below HV.out (Below.refl _ _) hws⟩, hb⟩

set_option maxRecDepth 100000 in
set_option maxHeartbeats 4000000 in
theorem iBestMonth_yes (n : Int) (wd gp : Nat) (t : Int) (sh : Nat) (T0 : -32768 ≤ t) (T1 : t ≤ 32767) (sv : Value) (ws : List Su) (hwf : ∀ x ∈ ws, SuWf x) (bw : BlWf n wd gp t sh) (fc : Int) (fv : Bool) (hf : inF fc = true) (hc : codeY (okBl n wd gp t sh) ws fv = 0) (w : World) (hz : SunsAt w sv ws) :
    Calls Tryz.prog 19 #[.agg (blindC n wd gp t sh), sv, .int .i64 fc] w fun e w' => e = .returned (.tuple #[.int .i64 (bstI (ws.map (dyL wd gp t sh fc)) ws.length : Int), .float .f32 ((ws.map (dyL wd gp t sh fc)).getD (bstI (ws.map (dyL wd gp t sh fc)) ws.length) 0), .int .i64 0]) ∧ Below w.heap.size w w' := by
  obtain ⟨hk, ha, ⟨l1, l12⟩, hff⟩ := codeY_ok hc
  have OK := blok_of bw hk
  have HC := Lib.hid (fun w hz => checkYear_any n wd gp t sh T0 T1 sv ws hwf fv w hz)
  have h00 : rfV (yrRf 0) = .nilIface := rfl
  rw [hc, h00] at HC
  clear h00
  subst hff
  have hok : ∀ x ∈ ws, okSu x = true := List.all_eq_true.1 ha
  have hn := fun w => run_neq_nil_nil (P := Tryz.prog) (w := w) 72 (by kernel_rfl)
  have HZ := Lib.hid hz
  have HPO : Hid (∀ z ∈ ws.map (dyL wd gp t sh fc), pos32 z = true) := by
    intro z hz
    obtain ⟨x, hx, rfl⟩ := List.mem_map.1 hz
    exact dyL_pos n wd gp t sh OK fc x (hwf x hx) (hok x hx)
  have HL := Lib.hid (fun w hz => yearLight_any n wd gp t sh OK sv ws hwf hok l12 fc hf w hz)
  have HFc := Lib.hid hf
  have HG := Lib.hid (fun v w hv => greatestOf_any v (ws.map (dyL wd gp t sh fc)) (fun z hz => pos_fin (HPO.out z hz)) (by rw [List.length_map]; exact l1) w hv)
  rw [List.length_map] at HG
  obtain ⟨a, cap, rfl, -⟩ := hz
  generalize ws.map (dyL wd gp t sh fc) = zs at *
  clear OK hwf hok hc hk ha bw hf T0 T1 l1 l12 HPO
  go_enter Tryz.func19, Tryz.ntmps19
  go_upto_region 1 with (fail)
  refine abs_world (fun W => Below w.heap.size w W ∧ W.heap[w.heap.size]? = some (.cells (blindC n wd gp t sh) 28 (0, 0))) ⟨(Below.refl _ _).alloc (Nat.le_refl _) _, heap_alloc_new _ _⟩ ?_
  rintro W ⟨hb, h0⟩
  have H0 := Lib.hid h0
  clear h0
  refine wp_region_held_drew (S := (fun V => Below W.heap.size W V)) (by kernel_rfl) (Below.refl _ _).drew (fun hHeld => ?_)
  refine take_op (i := 0) (d := 12) (v := .agg (blindC n wd gp t sh)) rfl rfl (by kernel_rfl) (by kernel_rfl) (by kernel_rfl) (fun _ _ _ h => h) (yields_row (by rfl) 28 (.tmp 3) (by rfl) w.heap.size 0 5 (by rfl) 28 (blindC n wd gp t sh) (0, 0) _ (fun _ h => below_row h H0.out) Tryz.underlying28 rfl info_blind (blind_fits _ _ _ _ _) (blindC n wd gp t sh) (blind_all _ _ _ _ _)) hHeld ?_
  simp only [List.setIfInBounds_toArray, List.set_cons_zero, List.set_cons_succ]
  refine take_op (i := 1) (d := 13) (v := ?_) rfl rfl (by kernel_rfl) (by kernel_rfl) (by kernel_rfl) (fun _ _ _ h => h) (Or.inl ⟨by rfl, ?hy1u24⟩) hHeld ?rest1u24
  case hy1u24 =>
    intro w' hS'
    go_simp
    try with_reducible rfl
  simp only [List.setIfInBounds_toArray, List.set_cons_zero, List.set_cons_succ]
  refine take_op (i := 2) (d := 14) (v := ?_) rfl rfl (by kernel_rfl) (by kernel_rfl) (by kernel_rfl) (fun _ _ _ h => h) (Or.inl ⟨by rfl, ?hy2u25⟩) hHeld ?rest2u25
  case hy2u25 =>
    intro w' hS'
    go_simp
    try with_reducible rfl
  simp only [List.setIfInBounds_toArray, List.set_cons_zero, List.set_cons_succ]
  refine wpAnyH_ready (rs := [3]) (by kernel_rfl) (by simp) ?_
  refine AllReadyH.cons rfl (fun K hK => ?_) AllReadyH.nil
  go_simp
  refine (isFacing_is fc true HFc.out _).mono ?_
  rintro e w' ⟨rfl, rfl⟩
  refine hK.out _ _ (hHeld) (fun hHeld2 => ?_)
  clear hK K
  replace hHeld := hHeld2
  clear hHeld2
  refine wpAnyH_ready (rs := [4]) (by kernel_rfl) (by simp) ?_
  refine AllReadyH.cons rfl (fun K hK => ?_) AllReadyH.nil
  go_simp
  refine (HC.out _ (suns_below HZ.out (hb.trans (hHeld.mono hb.size)))).mono ?_
  rintro e W1 ⟨rfl, hb1⟩
  refine hK.out _ _ (hHeld.trans (hb1.mono hHeld.size)) (fun hHeld2 => ?_)
  clear hK K
  replace hHeld := hHeld2
  clear hHeld2
  clear hb1
  refine take_op (i := 5) (d := 9) (v := ?_) rfl rfl (by kernel_rfl) (by kernel_rfl) (by kernel_rfl) (fun _ _ _ h => h) (Or.inl ⟨by rfl, ?hy5u26⟩) hHeld ?rest5u26
  case hy5u26 =>
    intro w' hS'
    go_simp
    try with_reducible rfl
  simp only [List.setIfInBounds_toArray, List.set_cons_zero, List.set_cons_succ]
  refine wpAnyH_done (by kernel_rfl) ?_ _
  replace H0 := Lib.hid (below_row hHeld H0.out)
  replace hb := hb.trans (hHeld.mono hb.size)
  clear hHeld
  go_wp2_with (first | (refine wpList_load_part rfl 28 _ rfl w.heap.size 0 5 rfl 28 (blindC n wd gp t sh) (0, 0) _ H0.out Tryz.underlying28 rfl info_blind (blind_fits _ _ _ _ _) _ (blind_all _ _ _ _ _) ?_) | (go_at_call 48; refine (HL.out _ (suns_below HZ.out hb)).mono ?_; rintro e W3 ⟨⟨v, rfl, hv⟩, hb3⟩; have HV := Lib.hid hv; clear hv; have hws := hb.size; replace hb := hb.trans (hb3.mono hb.size); clear hb3) | (go_at_call 49; refine (HG.out _ _ (own_floats HV.out)).mono ?_; rintro e W4 ⟨rfl, hb4⟩; replace hb := hb.trans (hb4.mono hb.size); clear hb4))
  go_ret3
  exact ⟨rfl, hb⟩

end Go.Proofs.YtmbgmpeiicjlaaaGreatDoor

namespace Go.Proofs.YtmbgmpeiicjlaaaGreatDoor

open Go.ChangeShapes Go.WideShapes Go.ChangeAt Go.RowKit Go.Deep Go.Joins

attribute [local go_sem] run_store_f

theorem Value_float {a b : Nat} (h : a = b) : Value.float .f32 a = .float .f32 b := by rw [h]

theorem map_getD {ws : List Su} {d : Su → Nat} {k : Nat} {x : Su} (h : ws[k]? = some x) : (ws.map d).getD k 0 = d x := by rw [List.getD, List.getElem?_map, h]; rfl

set_option maxRecDepth 100000 in
set_option maxHeartbeats 4000000 in
theorem sBestMonth_yes (n : Int) (wd gp : Nat) (t : Int) (sh : Nat) (T0 : -32768 ≤ t) (T1 : t ≤ 32767) (N0 : -128 ≤ n) (N1 : n ≤ 127) (sv : Value) (ws : List Su) (hwf : ∀ x ∈ ws, SuWf x) (bw : BlWf n wd gp t sh) (fc : Int) (fv : Bool) (hf : inF fc = true) (hc : codeY (okBl n wd gp t sh) ws fv = 0) (w : World) (hz : SunsAt w sv ws) :
    Calls Tryz.prog 20 #[.agg (blindC n wd gp t sh), sv, .int .i64 fc] w fun e w' => e = .returned (.tuple #[.int .i64 (bstI (ws.map (dyL wd gp t sh fc)) ws.length : Int), .float .f32 ((ws.map (dyL wd gp t sh fc)).getD (bstI (ws.map (dyL wd gp t sh fc)) ws.length) 0), .int .i64 0]) ∧ Below w.heap.size w w' := by
  obtain ⟨hk, ha, ⟨l1, l12⟩, hff⟩ := codeY_ok hc
  have OK := blok_of bw hk
  have HY := Lib.hid (fun g1 w c1 hz => l07Year_any n wd gp t sh T0 T1 N0 N1 sv ws hwf fv 0 hc g1 w c1 hz)
  subst hff
  have hok : ∀ x ∈ ws, okSu x = true := List.all_eq_true.1 ha
  have HD : Hid (∀ x ∈ ws, ∀ (g1 g2 o : Nat) (W : World), W.heap[g1]? = some (.cells (blindC n wd gp t sh) 28 (0, 0)) → SunAt W g2 o x.1 x.2 → Calls Tryz.prog 52 #[.pointer (some ⟨g1, 0, none⟩), .pointer (some ⟨g2, o, none⟩), .int .i64 fc] W fun e w' => e = .returned (.float .f32 (dyL wd gp t sh fc x)) ∧ Below W.heap.size W w') := fun x hx g1 g2 o W c1 c2 => l07Day_any n wd gp t sh OK fc x (hwf x hx) (hok x hx) hf g1 g2 o W c1 c2
  have HPO : Hid (∀ z ∈ ws.map (dyL wd gp t sh fc), pos32 z = true) := by
    intro z hz
    obtain ⟨x, hx, rfl⟩ := List.mem_map.1 hz
    exact dyL_pos n wd gp t sh OK fc x (hwf x hx) (hok x hx)
  have HZ := Lib.hid hz
  have HFc := Lib.hid hf
  obtain ⟨a, cap, rfl, hl1, hl2, _⟩ := hz
  unfold maxLen at hl2
  have HMG := Lib.hid (fun k x (h : ws[k]? = some x) => map_getD (d := dyL wd gp t sh fc) h)
  have HB := Lib.hid (fun k (hk : k ≤ ws.length) => bstI_lt (ws.map (dyL wd gp t sh fc)) (n := ws.length) (by omega) k hk)
  have HLN : Hid ((ws.map (dyL wd gp t sh fc)).length = ws.length) := List.length_map _
  generalize hn : ws.length = n' at *
  have HN := Lib.hid hn
  generalize hzs : (ws.map (dyL wd gp t sh fc)) = zs at *
  generalize hd : dyL wd gp t sh fc = d at *
  clear hn hzs hd OK hwf hok hc hk ha bw hf T0 T1 N0 N1
  go_enter Tryz.func20, Tryz.ntmps20
  go_upto_region 1 with (fail)
  refine abs_world (fun W => Below w.heap.size w W ∧ W.heap[w.heap.size]? = some (.cells (blindC n wd gp t sh) 28 (0, 0))) ⟨(Below.refl _ _).alloc (Nat.le_refl _) _, heap_alloc_new _ _⟩ ?_
  rintro W ⟨hb, h0⟩
  have H0 := Lib.hid h0
  clear h0
  go_upto_region 5 with (first | (go_at_call 51; refine (l01Faced_is fc true HFc.out _).mono ?_; rintro e w' ⟨rfl, rfl⟩) | (go_at_call 50; refine (HY.out _ _ H0.out (suns_below HZ.out hb)).mono ?_; rintro e w' ⟨rfl, rfl⟩))
  have hbw : Below W.heap.size W W := Below.refl _ _
  have hx0 : ws[0]? = some (ws[0]'(by rw [HN.out]; omega)) := List.getElem?_eq_getElem _
  obtain ⟨g, o, rfl, hcx⟩ := sun_at (suns_below HZ.out hb) hx0
  generalize (ws[0]'(by rw [HN.out]; omega)) = x0 at *
  have HDX := Lib.hid (HD.out x0 (List.mem_of_getElem? hx0))
  rw [Nat.zero_mul, Nat.add_zero] at hcx
  have HCX : Hid (SunAt W g o x0.1 x0.2) := Lib.hid hcx
  have HX0 := Lib.hid (HMG.out 0 x0 hx0)
  have y0 : (0 : Int) < (n' : Int) := by omega
  clear hx0 hcx
  go_upto_region 6 with (go_at_call 52; refine (HDX.out _ _ _ _ (below_row hbw H0.out) HCX.out).mono ?_; rintro e W3 ⟨rfl, hb3⟩; replace hbw := hbw.trans (hb3.mono hbw.size); clear hb3)
  go_wp2
  go_loopw [10, 11, 12] (fun b m i wr => ∃ k : Nat, 1 ≤ k ∧ k ≤ n' ∧ i = .int .i64 (k : Int) ∧ b = .int .i64 (bstI zs k : Int) ∧ m = .float .f32 (zs.getD (bstI zs k) 0) ∧ Below W.heap.size W wr) (fun _ _ i _ => n' - (intOf i).toNat)
  case atStart => exact ⟨1, Nat.le_refl _, by omega, rfl, by rw [bstI_one]; rfl, by rw [bstI_one]; exact Value_float HX0.out.symm, hbw⟩
  case round =>
    clear HDX HCX HX0 hbw
    obtain ⟨k, hk1, hkn, rfl, rfl, rfl, hbw⟩ := hrel
    by_cases hlt : k < n'
    · have z0 : (0 : Int) ≤ (k : Int) := by omega
      have z1 : (k : Int) < (n' : Int) := by omega
      have hbl := HB.out k (by omega)
      have hx : ws[k]? = some (ws[k]'(by rw [HN.out]; exact hlt)) := List.getElem?_eq_getElem _
      obtain ⟨g2, o2, e2, hcx⟩ := sun_at (suns_below HZ.out (hb.trans (hbw.mono hb.size))) hx
      generalize hxe : (ws[k]'(by rw [HN.out]; exact hlt)) = x at *
      have HX := Lib.hid hx
      have HDX := Lib.hid (HD.out x (List.mem_of_getElem? hx))
      have HCX : Hid (SunAt _ g2 (o2 + k * 48) x.1 x.2) := Lib.hid hcx
      injection e2 with e2
      injection e2 with e2 e3
      subst e2 e3
      have HXV := Lib.hid (HMG.out k x hx)
      have hfx : fin32 (zs.getD k 0) = true := pos_fin (HPO.out _ (by
        have e : zs[k]? = some (zs.getD k 0) := by rw [List.getD]; rw [List.getElem?_eq_getElem (by rw [HLN.out]; omega)]; rfl
        exact List.mem_of_getElem? e))
      have hfy : fin32 (zs.getD (bstI zs k) 0) = true := pos_fin (HPO.out _ (by
        have e : zs[bstI zs k]? = some (zs.getD (bstI zs k) 0) := by rw [List.getD]; rw [List.getElem?_eq_getElem (by rw [HLN.out]; omega)]; rfl
        exact List.mem_of_getElem? e))
      obtain ⟨od, ho⟩ := order_some hfx hfy
      have hg : gtY (zs.getD k 0) (zs.getD (bstI zs k) 0) = (od == .gt) := by
        unfold gtY
        rw [ho]
        rfl
      rw [HXV.out] at ho
      have HG := Lib.hid hg
      have HSU := Lib.hid (fun h => bstI_up (zs := zs) (k := k) h)
      have HSS := Lib.hid (fun h => bstI_stay (zs := zs) (k := k) h)
      obtain ⟨yv, hyv⟩ : ∃ yv, zs.getD (bstI zs k) 0 = yv := ⟨_, rfl⟩
      rw [hyv] at ho ⊢
      have HYV := Lib.hid hyv
      clear hx hcx hg hfx hfy hxe hbl hyv
      cases od with
      | gt =>
        have HE := Lib.hid (HSU.out HG.out)
        clear HSU HSS
        go_wp2_with (go_at_call 52; refine (HDX.out _ _ _ _ (below_row hbw H0.out) HCX.out).mono ?_; rintro e W3 ⟨rfl, hb3⟩; replace hbw := hbw.trans (hb3.mono hbw.size); clear hb3)
        go_roundw
        case rel => exact ⟨k + 1, by omega, by omega, by first | (simp; done) | (simp; omega), by rw [HE.out], by rw [HE.out]; exact Value_float HXV.out.symm, hbw⟩
        case measure => simp [intOf]; omega
      | lt =>
        have HE := Lib.hid (HSS.out HG.out)
        clear HSU HSS
        go_wp2_with (go_at_call 52; refine (HDX.out _ _ _ _ (below_row hbw H0.out) HCX.out).mono ?_; rintro e W3 ⟨rfl, hb3⟩; replace hbw := hbw.trans (hb3.mono hbw.size); clear hb3)
        go_roundw
        case rel => exact ⟨k + 1, by omega, by omega, by first | (simp; done) | (simp; omega), by rw [HE.out], by rw [HE.out]; exact Value_float HYV.out.symm, hbw⟩
        case measure => simp [intOf]; omega
      | eq =>
        have HE := Lib.hid (HSS.out HG.out)
        clear HSU HSS
        go_wp2_with (go_at_call 52; refine (HDX.out _ _ _ _ (below_row hbw H0.out) HCX.out).mono ?_; rintro e W3 ⟨rfl, hb3⟩; replace hbw := hbw.trans (hb3.mono hbw.size); clear hb3)
        go_roundw
        case rel => exact ⟨k + 1, by omega, by omega, by first | (simp; done) | (simp; omega), by rw [HE.out], by rw [HE.out]; exact Value_float HYV.out.symm, hbw⟩
        case measure => simp [intOf]; omega
    · obtain rfl : k = n' := by omega
      go_wp2
      go_ret3
      exact ⟨rfl, hb.trans (hbw.mono hb.size)⟩

end Go.Proofs.YtmbgmpeiicjlaaaGreatDoor

namespace Go.Proofs.YtmbgmpeiicjlaaaGreatDoor

open Go

end Go.Proofs.YtmbgmpeiicjlaaaGreatDoor

namespace Go.Proofs.YtmbgmpeiicjlaaaGreatDoor

open Go

theorem take_snoc {α : Type} {zs : List α} {k : Nat} {x : α} (h : zs[k]? = some x) : zs.take (k + 1) = zs.take k ++ [x] := by
  obtain ⟨hk, rfl⟩ := List.getElem?_eq_some_iff.1 h
  exact List.take_succ_eq_append_getElem hk

/-! ### The mean -/

/-! ### Sums of products -/

/-! ### Halves -/

/-! ### A sum with a rest -/

end Go.Proofs.YtmbgmpeiicjlaaaGreatDoor

namespace Go.Proofs.YtmbgmpeiicjlaaaGreatDoor

open Go.ChangeShapes Go.WideShapes Go.ChangeAt Go.RowKit Go.Deep Go.Joins

attribute [local go_sem] run_store_f

/-- The light of a year on a window faced so. -/
def yrS (wd gp : Nat) (t : Int) (sh : Nat) (ws : List Su) (e : Nat) : Nat := sumL (ws.map (dyL wd gp t sh (e : Int))) ws.length

def gYr (wd gp : Nat) (t : Int) (sh : Nat) (ws : List Su) (st : Nat) : List Nat := (List.range (255 / st + 1)).map (fun j => yrS wd gp t sh ws (j * st))

theorem gYr_len (wd gp : Nat) (t : Int) (sh : Nat) (ws : List Su) (st : Nat) : (gYr wd gp t sh ws st).length = 255 / st + 1 := by simp [gYr]

theorem gYr_get (wd gp : Nat) (t : Int) (sh : Nat) (ws : List Su) (st : Nat) {j : Nat} (h : j < 255 / st + 1) : (gYr wd gp t sh ws st)[j]? = some (yrS wd gp t sh ws (j * st)) := by simp [gYr, h]

theorem face_lt {st j : Nat} (h8 : 8 ≤ st) : j < 255 / st + 1 ↔ j * st ≤ 255 := by
  rw [← Nat.le_div_iff_mul_le (by omega)]
  omega

theorem faces_le {st : Nat} (h8 : 8 ≤ st) : 255 / st + 1 ≤ 32 := by
  have : 255 / st ≤ 255 / 8 := Nat.div_le_div_left h8 (by decide)
  omega

def bFy (zs : List Nat) (st j : Nat) : Nat := if j = 0 then 0 else bstI zs j * st

def mFy (zs : List Nat) (j : Nat) : Nat := if j = 0 then 3212836864 else zs.getD (bstI zs j) 0

theorem mFy_fin {zs : List Nat} (h : ∀ z ∈ zs, fin32 z = true) {j : Nat} (hj : j ≤ zs.length) (h0 : 0 < zs.length) : fin32 (mFy zs j) = true := by
  unfold mFy
  split
  · decide +kernel
  · have hb := bstI_lt zs h0 j hj
    rw [List.getD, List.getElem?_eq_getElem hb]
    exact h _ (List.getElem_mem _)

theorem fy_step {zs : List Nat} {st j : Nat} {od : Ordering} (hp : pos32 (zs.getD j 0) = true) (ho : FloatKind.f32.format.order (zs.getD j 0) (mFy zs j) = some od) :
    (od = .gt → bFy zs st (j + 1) = j * st ∧ mFy zs (j + 1) = zs.getD j 0) ∧ (od ≠ .gt → bFy zs st (j + 1) = bFy zs st j ∧ mFy zs (j + 1) = mFy zs j) := by
  unfold bFy mFy at *
  rw [if_neg (by omega : ¬ j + 1 = 0), if_neg (by omega : ¬ j + 1 = 0)]
  by_cases h0 : j = 0
  · subst h0
    rw [if_pos rfl] at ho ⊢
    rw [if_pos rfl, bstI_one]
    rw [pos_above hp] at ho
    injection ho with ho
    exact ⟨fun _ => ⟨rfl, rfl⟩, fun h => absurd ho.symm h⟩
  · rw [if_neg h0] at ho ⊢
    rw [if_neg h0]
    constructor
    · intro h
      have e : gtY (zs.getD j 0) (zs.getD (bstI zs j) 0) = true := by unfold gtY; rw [ho, h]; rfl
      rw [bstI_up e]
      exact ⟨rfl, rfl⟩
    · intro h
      have e : gtY (zs.getD j 0) (zs.getD (bstI zs j) 0) = false := by unfold gtY; rw [ho]; cases od <;> first | rfl | exact absurd rfl h
      rw [bstI_stay e]
      exact ⟨rfl, rfl⟩

theorem inF_nat {e : Nat} (h : e ≤ 255) : inF (e : Int) = true := by
  unfold inF
  exact inB_mk (by omega)

set_option maxRecDepth 100000 in
set_option maxHeartbeats 8000000 in
theorem iYearFacing_yes (n : Int) (wd gp : Nat) (t : Int) (sh : Nat) (T0 : -32768 ≤ t) (T1 : t ≤ 32767) (sv : Value) (ws : List Su) (hwf : ∀ x ∈ ws, SuWf x) (bw : BlWf n wd gp t sh) (st : Nat) (h8 : 8 ≤ st) (h255 : st ≤ 255) (hc : codeY (okBl n wd gp t sh) ws true = 0) (w : World) (hz : SunsAt w sv ws) :
    Calls Tryz.prog 21 #[.agg (blindC n wd gp t sh), sv, .int .i64 (st : Int)] w fun e w' => e = .returned (.tuple #[.int .i64 ((bstI (gYr wd gp t sh ws st) (255 / st + 1) : Int) * (st : Int)), .float .f32 ((gYr wd gp t sh ws st).getD (bstI (gYr wd gp t sh ws st) (255 / st + 1)) 0), .int .i64 0]) ∧ Below w.heap.size w w' := by
  obtain ⟨i0, hin, hz0, hz1, hz2⟩ := info_parts info_f32
  obtain ⟨hk, ha, ⟨l1, l12⟩, -⟩ := codeY_ok hc
  have OK := blok_of bw hk
  have HC := Lib.hid (fun w hz => checkYear_any n wd gp t sh T0 T1 sv ws hwf true w hz)
  have h00 : rfV (yrRf 0) = .nilIface := rfl
  rw [hc, h00] at HC
  clear h00
  have hok : ∀ x ∈ ws, okSu x = true := List.all_eq_true.1 ha
  have hn := fun w => run_neq_nil_nil (P := Tryz.prog) (w := w) 72 (by kernel_rfl)
  have HZ := Lib.hid hz
  have hst : st ≤ 255 := by omega
  have HINF : Hid (∀ e : Nat, e ≤ 255 → inF (e : Int) = true) := Lib.hid (fun e he => inF_nat he)
  have HPOA : Hid (∀ e : Nat, e ≤ 255 → ∀ z ∈ ws.map (dyL wd gp t sh (e : Int)), pos32 z = true) := by
    intro e he z hz
    obtain ⟨x, hx, rfl⟩ := List.mem_map.1 hz
    exact dyL_pos n wd gp t sh OK _ x (hwf x hx) (hok x hx)
  have HYL0 : Hid (∀ e : Nat, e ≤ 255 → ∀ w, SunsAt w sv ws → Calls Tryz.prog 48 #[.agg (blindC n wd gp t sh), sv, .int .i64 (e : Int)] w fun r w' => (∃ v, r = .returned v ∧ Own w' w.heap.size 25 (Value.float .f32) v (ws.map (dyL wd gp t sh (e : Int)))) ∧ Below w.heap.size w w') := fun e he w hz => yearLight_any n wd gp t sh OK sv ws hwf hok l12 (e : Int) (inF_nat he) w hz
  have HAD0 : Hid (∀ e : Nat, e ≤ 255 → ∀ v w, FloatsAt w v (ws.map (dyL wd gp t sh (e : Int))) → Calls Tryz.prog 53 #[v] w fun r w' => r = .returned (.float .f32 (yrS wd gp t sh ws e)) ∧ w = w') := by
    intro e he v w hv
    have h := addedP_any v _ (HPOA.out e he) w hv
    rw [List.length_map] at h
    exact h
  have HGL := Lib.hid (gYr_len wd gp t sh ws st)
  have HGG := Lib.hid (fun j (h : j < 255 / st + 1) => gYr_get wd gp t sh ws st h)
  have HFL := Lib.hid (fun j => face_lt (st := st) (j := j) h8)
  have hm32 := faces_le h8
  have HGP : Hid (∀ z ∈ (gYr wd gp t sh ws st), fin32 z = true) := by
    intro z hz
    obtain ⟨j, hj, rfl⟩ := List.mem_map.1 hz
    have hj' : j * st ≤ 255 := (face_lt h8).1 (List.mem_range.1 hj)
    exact pos_fin (sumL_pos (HPOA.out _ hj') (by rw [List.length_map]; exact Nat.le_refl _))
  generalize hG : (gYr wd gp t sh ws st) = zs at *
  have HGR := Lib.hid (fun v w hv => greatestOf_any v zs HGP.out (by rw [HGL.out]; exact Nat.le_add_left 1 _) w hv)
  rw [HGL.out] at HGR
  have HBL := Lib.hid (bstI_lt zs (n := 255 / st + 1) (Nat.succ_pos _) (255 / st + 1) (Nat.le_refl _))
  have hbm : bstI zs (255 / st + 1) * st ≤ 255 := (face_lt h8).1 HBL.out
  have hwm : IntKind.i64.wrap ((bstI zs (255 / st + 1) : Int) * (st : Int)) = (bstI zs (255 / st + 1) : Int) * (st : Int) := by
    rw [IntWalk.i64_in]
    have e : ((bstI zs (255 / st + 1) : Int) * (st : Int)) = ((bstI zs (255 / st + 1) * st : Nat) : Int) := by rw [Int.natCast_mul]
    rw [e]
    omega
  have HWM := Lib.hid hwm
  generalize 255 / st + 1 = m at *
  obtain ⟨a, cap, rfl, -⟩ := hz
  have q1 : (8 : Int) ≤ (st : Int) := by omega
  have q2 : (st : Int) < 256 := by omega
  clear OK hwf hok hc hk ha bw T0 T1 l1 l12 HPOA HGP hG hwm hbm
  go_enter Tryz.func21, Tryz.ntmps21
  go_upto_region 1 with (fail)
  refine abs_world (fun W => Below w.heap.size w W ∧ W.heap[w.heap.size]? = some (.cells (blindC n wd gp t sh) 28 (0, 0))) ⟨(Below.refl _ _).alloc (Nat.le_refl _) _, heap_alloc_new _ _⟩ ?_
  rintro W ⟨hb, h0⟩
  have H0 := Lib.hid h0
  clear h0
  go_upto_region 6 with (first | (refine wpList_load_part rfl 28 _ rfl w.heap.size 0 5 rfl 28 (blindC n wd gp t sh) (0, 0) _ H0.out Tryz.underlying28 rfl info_blind (blind_fits _ _ _ _ _) _ (blind_all _ _ _ _ _) ?_) | (go_at_call 46; refine (HC.out _ (suns_below HZ.out hb)).mono ?_; rintro e W1 ⟨rfl, hb1⟩; replace H0 := Lib.hid (below_row hb1 H0.out); replace hb := hb.trans (hb1.mono hb.size); clear hb1))
  have hrow0 : W1.ownsRow W1.heap.size 25 1 (.slice none 0 0) 0 [] := ⟨rfl, .inl ⟨rfl, rfl⟩⟩
  go_loopw [10, 11] (fun o i wr => ∃ (vo : Value) (j e : Nat), vo = o ∧ e = j * st ∧ j ≤ m ∧ i = .int .i64 (e : Int) ∧ wr.ownsRow W1.heap.size 25 1 o j ((zs.take j).map (Value.float .f32)) ∧ Below W1.heap.size W1 wr) (fun _ i _ => (256 - intOf i).toNat)
  case atStart => exact ⟨_, 0, 0, rfl, by simp, Nat.zero_le _, rfl, hrow0, Below.refl _ _⟩
  case round =>
    clear hrow0
    obtain ⟨vo, j, e, rfl, he, hjm, rfl, hrow, hbw⟩ := hrel
    by_cases hlt : j < m
    · have he255 : e ≤ 255 := by rw [he]; exact (HFL.out j).1 hlt
      have z0 : (0 : Int) ≤ (e : Int) := by omega
      have z1 : (e : Int) < 256 := by omega
      have HYL := Lib.hid (HYL0.out e he255)
      have HAD := Lib.hid (HAD0.out e he255)
      have HT : Hid (zs.take (j + 1) = zs.take j ++ [yrS wd gp t sh ws e]) := by
        have h := HGG.out j hlt
        rw [← he] at h
        exact Lib.hid (take_snoc h)
      have hne : (j + 1) * st = e + st := by rw [Nat.succ_mul, ← he]
      generalize ws.map (dyL wd gp t sh (e : Int)) = zf at *
      generalize yrS wd gp t sh ws e = y at *
      have HEN := Lib.hid hne
      clear hne he
      go_wp2_with (first | (refine wpList_load_part rfl 28 _ rfl w.heap.size 0 5 rfl 28 (blindC n wd gp t sh) (0, 0) _ (below_row hbw H0.out) Tryz.underlying28 rfl info_blind (blind_fits _ _ _ _ _) _ (blind_all _ _ _ _ _) ?_) | (go_at_call 48; refine (HYL.out _ (suns_below HZ.out (hb.trans (hbw.mono hb.size)))).mono ?_; rintro e3 W3 ⟨⟨v, rfl, hv⟩, hb3⟩; have HV := Lib.hid hv; clear hv; have hrow3 := owns_below hrow hb3; have hbw3 := hbw.trans (hb3.mono hbw.size); have hsz3 := hbw3.size) | (go_at_call 53; refine (HAD.out _ _ (own_floats HV.out)).mono ?_; rintro e4 W4 ⟨rfl, rfl⟩) | (at_builtin; refine wpList_append_own _ rfl _ _ 49 rfl W1.heap.size 25 i0 (.float .f32 0) 1 4 Tryz.underlying49 hin hz0 hz1 hz2 rfl (by decide) _ _ _ rfl (hrow3.alloc _) ⟨W3.heap.size, 0, none⟩ 1 1 [.float .f32 y] rfl rfl (cell_one_new _ _ _) (by simp [Value.oneCell']) (by unfold maxLen; omega) (by omega) (by simp; omega) ?_; intro v' w1 hown' hgrow _))
      go_roundw
      case rel => exact ⟨_, j + 1, e + st, rfl, HEN.out.symm, by omega, by first | (simp; done) | (simp; omega), by rw [HT.out]; simpa using hown', (hbw3.alloc (by omega) _).grown hgrow (by simp; omega) (row_base hrow3)⟩
      case measure => simp [intOf]; omega
    · obtain rfl : j = m := by omega
      have hge : ¬ e ≤ 255 := by rw [he]; intro h; exact hlt ((HFL.out j).2 h)
      have z1 : ¬ (e : Int) < 256 := by omega
      rw [List.take_of_length_le (by rw [HGL.out]; exact Nat.le_refl _)] at hrow
      have HR2 : Hid (Own wr W1.heap.size 25 (Value.float .f32) vo zs) := own_of_row (by rw [HGL.out]; exact hrow) (by rw [HGL.out]; unfold maxLen; omega)
      have hwm := HWM.out
      clear hrow
      go_wp2_with (go_at_call 49; refine (HGR.out _ _ (own_floats HR2.out)).mono ?_; rintro e4 W4 ⟨rfl, hb4⟩)
      go_ret3
      exact ⟨rfl, hb.trans ((hbw.trans (hb4.mono hbw.size)).mono hb.size)⟩

theorem ret3Y {a b : Int} {x y : Nat} (h1 : a = b) (h2 : x = y) : Ending.returned (.tuple #[.int .i64 a, .float .f32 x, .int .i64 0]) = .returned (.tuple #[.int .i64 b, .float .f32 y, .int .i64 0]) := by rw [h1, h2]

theorem Value_intE {a b : Nat} (h : a = b) : Value.int .i64 (a : Int) = .int .i64 (b : Int) := by rw [h]

set_option maxRecDepth 100000 in
set_option maxHeartbeats 8000000 in
theorem sYearFacing_yes (n : Int) (wd gp : Nat) (t : Int) (sh : Nat) (T0 : -32768 ≤ t) (T1 : t ≤ 32767) (N0 : -128 ≤ n) (N1 : n ≤ 127) (sv : Value) (ws : List Su) (hwf : ∀ x ∈ ws, SuWf x) (bw : BlWf n wd gp t sh) (st : Nat) (h8 : 8 ≤ st) (h255 : st ≤ 255) (hc : codeY (okBl n wd gp t sh) ws true = 0) (w : World) (hz : SunsAt w sv ws) :
    Calls Tryz.prog 22 #[.agg (blindC n wd gp t sh), sv, .int .i64 (st : Int)] w fun e w' => e = .returned (.tuple #[.int .i64 ((bstI (gYr wd gp t sh ws st) (255 / st + 1) : Int) * (st : Int)), .float .f32 ((gYr wd gp t sh ws st).getD (bstI (gYr wd gp t sh ws st) (255 / st + 1)) 0), .int .i64 0]) ∧ Below w.heap.size w w' := by
  obtain ⟨hk, ha, ⟨l1, l12⟩, -⟩ := codeY_ok hc
  have OK := blok_of bw hk
  have HY := Lib.hid (fun g1 w c1 hz => l07Year_any n wd gp t sh T0 T1 N0 N1 sv ws hwf true 0 hc g1 w c1 hz)
  have hok : ∀ x ∈ ws, okSu x = true := List.all_eq_true.1 ha
  have HZ := Lib.hid hz
  have hst : st ≤ 255 := by omega
  have HINF : Hid (∀ e : Nat, e ≤ 255 → inF (e : Int) = true) := Lib.hid (fun e he => inF_nat he)
  have HPOA : Hid (∀ e : Nat, e ≤ 255 → ∀ z ∈ ws.map (dyL wd gp t sh (e : Int)), pos32 z = true) := by
    intro e he z hz
    obtain ⟨x, hx, rfl⟩ := List.mem_map.1 hz
    exact dyL_pos n wd gp t sh OK _ x (hwf x hx) (hok x hx)
  have HD : Hid (∀ e : Nat, e ≤ 255 → ∀ x ∈ ws, ∀ (g1 g2 o : Nat) (W : World), W.heap[g1]? = some (.cells (blindC n wd gp t sh) 28 (0, 0)) → SunAt W g2 o x.1 x.2 → Calls Tryz.prog 52 #[.pointer (some ⟨g1, 0, none⟩), .pointer (some ⟨g2, o, none⟩), .int .i64 (e : Int)] W fun r w' => r = .returned (.float .f32 (dyL wd gp t sh (e : Int) x)) ∧ Below W.heap.size W w') := fun e he x hx g1 g2 o W c1 c2 => l07Day_any n wd gp t sh OK (e : Int) x (hwf x hx) (hok x hx) (inF_nat he) g1 g2 o W c1 c2
  have HI := Lib.hid (fun w => l00In_isY (st : Int) 8 255 true (by unfold inI; rw [decide_eq_true (by omega : (8 : Int) ≤ (st : Int)), decide_eq_true (by omega : (st : Int) ≤ 255)]; rfl) w)
  have HGL := Lib.hid (gYr_len wd gp t sh ws st)
  have HGG := Lib.hid (fun j (h : j < 255 / st + 1) => gYr_get wd gp t sh ws st h)
  have HFL := Lib.hid (fun j => face_lt (st := st) (j := j) h8)
  have hm32 := faces_le h8
  have HGP : Hid (∀ z ∈ (gYr wd gp t sh ws st), pos32 z = true) := by
    intro z hz
    obtain ⟨j, hj, rfl⟩ := List.mem_map.1 hz
    have hj' : j * st ≤ 255 := (face_lt h8).1 (List.mem_range.1 hj)
    exact sumL_pos (HPOA.out _ hj') (by rw [List.length_map]; exact Nat.le_refl _)
  generalize hG : (gYr wd gp t sh ws st) = zs at *
  have HYD : Hid (∀ e, yrS wd gp t sh ws e = sumL (ws.map (dyL wd gp t sh (e : Int))) ws.length) := fun e => rfl
  have HFM : Hid (∀ j, j ≤ zs.length → fin32 (mFy zs j) = true) := fun j hj => mFy_fin (fun z hz => pos_fin (HGP.out z hz)) hj (by rw [HGL.out]; exact Nat.succ_pos _)
  have hend : bFy zs st (255 / st + 1) = bstI zs (255 / st + 1) * st ∧ mFy zs (255 / st + 1) = zs.getD (bstI zs (255 / st + 1)) 0 := by
    unfold bFy mFy
    rw [if_neg (Nat.succ_ne_zero _), if_neg (Nat.succ_ne_zero _)]
    exact ⟨rfl, rfl⟩
  have HEND := Lib.hid hend
  generalize 255 / st + 1 = m at *
  obtain ⟨a, cap, rfl, hl1, hl2, _⟩ := hz
  unfold maxLen at hl2
  generalize hn : ws.length = n' at *
  have HN := Lib.hid hn
  have q1 : (8 : Int) ≤ (st : Int) := by omega
  clear hn OK hwf hok hc hk ha bw T0 T1 N0 N1 hG hend
  go_enter Tryz.func22, Tryz.ntmps22
  go_upto_region 1 with (fail)
  refine abs_world (fun W => Below w.heap.size w W ∧ W.heap[w.heap.size]? = some (.cells (blindC n wd gp t sh) 28 (0, 0))) ⟨(Below.refl _ _).alloc (Nat.le_refl _) _, heap_alloc_new _ _⟩ ?_
  rintro W ⟨hb, h0⟩
  have H0 := Lib.hid h0
  clear h0
  go_upto_region 7 with (first | (go_at_call 54; refine (HI.out _).mono ?_; rintro e w' ⟨rfl, rfl⟩) | (go_at_call 50; refine (HY.out _ _ H0.out (suns_below HZ.out hb)).mono ?_; rintro e w' ⟨rfl, rfl⟩))
  go_loopw [10, 11, 12] (fun b mm i wr => ∃ (j e : Nat), e = j * st ∧ j ≤ m ∧ i = .int .i64 (e : Int) ∧ b = .int .i64 (bFy zs st j : Int) ∧ mm = .float .f32 (mFy zs j) ∧ Below W.heap.size W wr) (fun _ _ i _ => (256 - intOf i).toNat)
  case atStart => exact ⟨0, 0, by simp, Nat.zero_le _, rfl, rfl, rfl, Below.refl _ _⟩
  case round =>
    obtain ⟨j, e, he, hjm, rfl, rfl, rfl, hbw⟩ := hrel
    by_cases hlt : j < m
    · have he255 : e ≤ 255 := by rw [he]; exact (HFL.out j).1 hlt
      have z0 : (0 : Int) ≤ (e : Int) := by omega
      have z1 : (e : Int) < 256 := by omega
      have HD1 := Lib.hid (HD.out e he255)
      have hne : (j + 1) * st = e + st := by rw [Nat.succ_mul, ← he]
      have HEN := Lib.hid hne
      have HEJ : Hid (j * st = e) := he.symm
      have hget := HGG.out j hlt
      rw [← he, HYD.out e] at hget
      have hxv := getD_at hget
      have hps := HGP.out _ (List.mem_of_getElem? hget)
      have hfm := HFM.out j (by rw [HGL.out]; exact hjm)
      have HSS := Lib.hid (fun (k : Nat) x (h : (ws.map (dyL wd gp t sh (e : Int)))[k]? = some x) => sumL_step (HPOA.out e he255) h)
      have HMD := Lib.hid (fun (k : Nat) x (h : ws[k]? = some x) => (by rw [List.getElem?_map, h]; rfl : (ws.map (dyL wd gp t sh (e : Int)))[k]? = some (dyL wd gp t sh (e : Int) x)))
      generalize ws.map (dyL wd gp t sh (e : Int)) = zf at *
      generalize dyL wd gp t sh (e : Int) = d at *
      obtain ⟨od, ho⟩ := order_some (pos_fin hps) hfm
      have HST0 := Lib.hid (fun h1 h2 => fy_step (zs := zs) (st := st) (j := j) (od := od) h1 h2)
      rw [hxv] at HST0
      have HST := Lib.hid (HST0.out hps ho)
      have HXV := Lib.hid hxv
      have HO := Lib.hid ho
      clear hne hget hxv hps hfm he HST0 ho
      generalize bFy zs st j = bb at *
      generalize mFy zs j = mm at *
      obtain ⟨wo, rfl⟩ : ∃ wo : World, wo = wr := ⟨_, rfl⟩
      go_wp2
      go_loopw [13, 14] (fun s i wr => ∃ k : Nat, k ≤ n' ∧ i = .int .i64 (k : Int) ∧ s = .float .f32 (sumL zf k) ∧ Below W.heap.size W wr) (fun _ i _ => n' - (intOf i).toNat)
      case atStart => exact ⟨0, Nat.zero_le _, rfl, rfl, hbw⟩
      case round =>
        clear hbw
        obtain ⟨k, hkn, rfl, rfl, hbk⟩ := hrel
        by_cases hlk : k < n'
        · have hx : ws[k]? = some (ws[k]'(by rw [HN.out]; exact hlk)) := List.getElem?_eq_getElem _
          obtain ⟨g, o, rfl, hcx⟩ := sun_at (suns_below HZ.out (hb.trans (hbk.mono hb.size))) hx
          generalize (ws[k]'(by rw [HN.out]; exact hlk)) = x at *
          have HDX := Lib.hid (HD1.out x (List.mem_of_getElem? hx))
          have HCX : Hid (SunAt _ g (o + k * 48) x.1 x.2) := Lib.hid hcx
          have hadd := HSS.out k _ (HMD.out k x hx)
          have radd : ∀ T w, (binOp .add T (.float .f32 (sumL zf k)) (.float .f32 (d x))).run Tryz.prog w = .ok (.float .f32 (sumL zf (k + 1))) w := fun T w => run_float_arith w .add T .f32 _ _ _ hadd
          have y0 : (0 : Int) ≤ (k : Int) := by omega
          have y1 : (k : Int) < (n' : Int) := by omega
          clear hx hcx hadd
          go_wp2_with (go_at_call 52; refine (HDX.out _ _ _ _ (below_row hbk H0.out) HCX.out).mono ?_; rintro e3 W3 ⟨rfl, hb3⟩; have hbk3 := hbk.trans (hb3.mono hbk.size))
          go_roundw
          case rel => exact ⟨k + 1, by omega, by go_num, by trivial, hbk3⟩
          case measure => simp [intOf]; omega
        · obtain rfl : k = n' := by omega
          have ho := HO.out
          clear HO HSS HMD HD1 hlk
          generalize sumL zf k = xv at *
          cases od with
          | gt =>
              have HE := Lib.hid (HST.out.1 rfl)
              clear HST
              go_wp2
              go_roundw
              case rel => exact ⟨j + 1, e + st, HEN.out.symm, by omega, by first | (simp; done) | (simp; omega), by rw [HE.out.1]; exact Value_intE HEJ.out.symm, by rw [HE.out.2], hbk⟩
              case measure => simp [intOf]; omega
          | lt =>
              have HE := Lib.hid (HST.out.2 (by decide))
              clear HST
              go_wp2
              go_roundw
              case rel => exact ⟨j + 1, e + st, HEN.out.symm, by omega, by first | (simp; done) | (simp; omega), by rw [HE.out.1], by rw [HE.out.2], hbk⟩
              case measure => simp [intOf]; omega
          | eq =>
              have HE := Lib.hid (HST.out.2 (by decide))
              clear HST
              go_wp2
              go_roundw
              case rel => exact ⟨j + 1, e + st, HEN.out.symm, by omega, by first | (simp; done) | (simp; omega), by rw [HE.out.1], by rw [HE.out.2], hbk⟩
              case measure => simp [intOf]; omega
    · obtain rfl : j = m := by omega
      have hge : ¬ e ≤ 255 := by rw [he]; intro h; exact hlt ((HFL.out j).2 h)
      have z1 : ¬ (e : Int) < 256 := by omega
      go_wp2
      go_ret3
      exact ⟨ret3Y (by rw [HEND.out.1, Int.natCast_mul]) HEND.out.2, hb.trans (hbw.mono hb.size)⟩

end Go.Proofs.YtmbgmpeiicjlaaaGreatDoor
