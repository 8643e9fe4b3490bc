/-
  Several blinds: the program's closures, and its search.
-/
import Derived.Test.YtelgcggcmjdhjaaSdP
import Derived.Test.YtelgcggcmjdhjaaLaI
import Derived.Test.YtelgcggcmjdhjaaCtOk
import Derived.Test.YtelgcggcmjdhjaaPasser
import Derived.Test.YtelgcggcmjdhjaaTilted
import Derived.Test.YtelgcggcmjdhjaaBox
import Derived.Test.YtelgcggcmjdhjaaBhd
namespace Go.Proofs.Ytelgcggcmjdhjaa
open Go.ChangeShapes Go.WideShapes Go.ChangeAt Go.RowKit Go.Deep Go.Joins

attribute [local go_sem] run_store_f

set_option maxRecDepth 100000 in
set_option maxHeartbeats 1000000 in
theorem badBd_any (x : Bd) (hx : BdWf x) (w : World) :
    Calls Try.prog 84 #[.agg (bdC x)] w fun e w' => e = .returned (.bool (!fitB x)) ∧ Below w.heap.size w w' := by
  obtain ⟨n, wd, gp, t, sh⟩ := x
  have HC := Lib.hid (fun w => ValidBlind_any n wd gp t sh (blwf_t hx).1 (blwf_t hx).2 w)
  unfold bdC fitB
  dsimp only
  clear hx
  go_enter Try.func84, Try.ntmps84
  go_upto_region 1 with (fail)
  refine abs_world (fun W => Below w.heap.size w W ∧ W.heap[w.heap.size]? = some (.cells (blindC n wd gp t sh) 49 (0, 0))) ⟨(Below.refl _ _).alloc (Nat.le_refl _) _, heap_alloc_new _ _⟩ ?_
  rintro W ⟨hb, h0⟩
  have H0 := Lib.hid h0
  clear h0
  go_wp2_with (first | (refine wpList_load_part rfl 49 _ rfl w.heap.size 0 5 rfl 49 (blindC n wd gp t sh) (0, 0) _ H0.out Try.underlying49 rfl info_blind (blind_fits _ _ _ _ _) _ (blind_all _ _ _ _ _) ?_) | (go_at_call 85; refine (HC.out _).mono ?_; rintro e W1 ⟨rfl, hb1⟩))
  go_ret
  exact ⟨rfl, hb.trans (hb1.mono hb.size)⟩
/-- What looking for a blind that is not valid finds. -/
def FoundB (ts : List Bd) (w : World) (e : Ending) (w' : World) : Prop := ∃ r : Int, e = .returned (.int .i64 r) ∧ decide (0 ≤ r) = !ts.all fitB ∧ Below w.heap.size w w'
set_option maxRecDepth 100000 in
set_option maxHeartbeats 1000000 in
theorem indexBd_any (sv : Value) (ws : List Bd) (hwf : ∀ x ∈ ws, BdWf x) (w : World) (hws : BdsAt w sv ws) :
    Calls Try.prog 112 #[sv, .func (.func 84) #[] #[]] w fun e w' => FoundB ws w e w' := by
  have hws' := hws
  obtain ⟨a, cap, rfl, hl1, hl2, _⟩ := hws'
  have HW := Lib.hid hws
  have HWF := Lib.hid hwf
  clear hws hwf
  unfold maxLen at hl2
  generalize hn : ws.length = n at *
  go_enter Try.func112, Try.ntmps112
  go_wp2
  go_loopw [8] (fun i wr => ∃ k : Nat, k ≤ n ∧ i = .int .i64 k ∧ Below w.heap.size w wr ∧ (ws.take k).all fitB = true) (fun i _ => n - (intOf i).toNat)
  case atStart => exact ⟨0, Nat.zero_le _, rfl, Below.refl _ _, rfl⟩
  case round =>
    obtain ⟨k, hk, rfl, hb, hall⟩ := hrel
    have HA := Lib.hid hall
    clear hall
    by_cases hlt : k < n
    · have hx : ws[k]? = some ws[k] := List.getElem?_eq_getElem (by omega)
      obtain ⟨g, o, rfl, hc⟩ := bd_at (bds_below HW.out hb) hx
      have HC := Lib.hid hc
      have hts : ws.take (k + 1) = ws.take k ++ [ws[k]] := by rw [List.take_succ_eq_append_getElem (by omega)]
      have HT := Lib.hid hts
      have hdx := HW.out
      generalize ws[k] = x at *
      have HD : Hid (ws[k]? = some x) := Lib.hid hx
      have HWx := Lib.hid (HWF.out x (List.mem_of_getElem? hx))
      have z1 : (k : Int) < (n : Int) := by omega
      have z2 : (0 : Int) ≤ (k : Int) := by omega
      clear hc hts hx hdx
      cases hf : fitB x with
      | true =>
        have hnf : (!fitB x) = false := by rw [hf]; rfl
        go_wp2_with (first | (refine wpList_load_cells rfl 49 _ rfl g (o + k * 5) 5 rfl _ Try.underlying49 rfl info_blind (bdC x) rfl HC.out ?_) | (go_at_call 84; refine (badBd_any x HWx.out _).mono ?_; rw [hnf]; rintro e W1 ⟨rfl, hb1⟩))
        go_roundw
        case rel => exact ⟨k + 1, by omega, by go_num, hb.trans (hb1.mono hb.size), by rw [HT.out, List.all_append, HA.out]; simp [hf]⟩
        case measure => simp [intOf]; omega
      | false =>
        have hnf : (!fitB x) = true := by rw [hf]; rfl
        go_wp2_with (first | (refine wpList_load_cells rfl 49 _ rfl g (o + k * 5) 5 rfl _ Try.underlying49 rfl info_blind (bdC x) rfl HC.out ?_) | (go_at_call 84; refine (badBd_any x HWx.out _).mono ?_; rw [hnf]; rintro e W1 ⟨rfl, hb1⟩))
        go_ret
        refine ⟨k, rfl, ?_, hb.trans (hb1.mono hb.size)⟩
        have hmem := List.mem_of_getElem? HD.out
        have hall : ws.all fitB = false := by
          rw [Bool.eq_false_iff]
          intro ha
          have := List.all_eq_true.1 ha x hmem
          rw [hf] at this; cases this
        rw [hall]; simp
    · obtain rfl : k = n := by omega
      go_wp2
      go_ret
      refine ⟨-1, rfl, ?_, hb⟩
      have hall := HA.out
      rw [List.take_of_length_le (by omega)] at hall
      rw [hall]; rfl
set_option maxRecDepth 100000 in
set_option maxHeartbeats 1000000 in
theorem containsBd_any (sv : Value) (ws : List Bd) (hwf : ∀ x ∈ ws, BdWf x) (w : World) (hws : BdsAt w sv ws) :
    Calls Try.prog 86 #[sv, .func (.func 84) #[] #[]] w fun e w' => e = .returned (.bool (!ws.all fitB)) ∧ Below w.heap.size w w' := by
  have HC := indexBd_any sv ws hwf w hws
  clear hwf hws
  go_enter Try.func86, Try.ntmps86
  go_wp2_with (go_at_call 112; refine HC.mono ?_; rintro e W1 ⟨r, rfl, hd, hb1⟩)
  go_ret
  first | exact ⟨ret_bool5 hd, hb1⟩ | exact ⟨rfl, hb1⟩

set_option maxRecDepth 100000 in
set_option maxHeartbeats 4000000 in
theorem sd_call (h : Int) (h0 : 1 ≤ h) (h1 : h ≤ 64) (want : Nat) (hw : PartOk want) (sv : Value) (ws : List Bd) (hl : ws.length ≤ 12) (hp : ∀ b ∈ ws, BdOk b) (k0 : Nat) (hk0 : k0 ≤ 128) (x : Int) (hx : x = (k0 : Int) - 64) (r : Nat) (hr : dS h want ws k0 = r) (g1 g2 g3 : Nat) (w : World)
    (c1 : w.heap[g1]? = some (.cells #[sv] 72 (0, 0))) (c2 : w.heap[g2]? = some (.cells #[.int .i64 h] 2 (0, 0))) (c3 : w.heap[g3]? = some (.cells #[.float .f32 want] 22 (0, 0))) (hz : BdsAt w sv ws) :
    Calls Try.prog 87 #[.int .i64 x, .pointer (some ⟨g1, 0, none⟩), .pointer (some ⟨g2, 0, none⟩), .pointer (some ⟨g3, 0, none⟩)] w fun e w' => e = .returned (.float .f32 r) ∧ Below w.heap.size w w' := by
  have x0 : -64 ≤ x := by omega
  have x1 : x ≤ 64 := by omega
  unfold dS at hr
  rw [← hx] at hr
  have HTP : Hid (∀ (n : Int) (wd gp : Nat) (t : Int) (sh : Nat), BlOk n wd gp t sh → (∀ w, Calls Try.prog 79 #[.agg (blindC n wd gp t sh), .int .i64 x] w fun e w' => e = .returned (.agg (blindC n wd gp x sh)) ∧ Below w.heap.size w w') ∧ (∀ w, Calls Try.prog 78 #[.agg (blindC n wd gp x sh)] w (RetPasses n wd gp x sh w)) ∧
      (∀ (g1 g2 : Nat) (w : World), w.heap[g1]? = some (.cells (blindC n wd gp x sh) 49 (0, 0)) → w.heap[g2]? = some (.cells #[.float .f32 (opnB wd gp x 1)] 22 (0, 0)) → Calls Try.prog 108 #[.int .i64 h, .pointer (some ⟨g1, 0, none⟩), .pointer (some ⟨g2, 0, none⟩)] w fun e w' => e = .returned (.float .f32 (pasB wd gp x sh h)) ∧ Below w.heap.size w w')) :=
    fun n wd gp t sh ok => ⟨fun w => tilted_any2 n wd gp t sh x x0 x1 w, fun w => passer_any n wd gp x sh (blok_tiltA n wd gp t sh ok x0 x1) w, fun g1 g2 w c1 c2 => passes_call n wd gp x sh (blok_tiltA n wd gp t sh ok x0 x1) g1 g2 h h0 h1 w c1 c2⟩
  have HZ := Lib.hid hz
  obtain ⟨a, cap, rfl, hl1, hl2, _⟩ := hz
  unfold maxLen at hl2
  have HS := Lib.hid (fun k hk => And.intro (dV_ok (pBd_le x h (getD_bd hp k hk)) hw) (sumB_step (x := x) (h := h) hp hw hl k hk))
  have HOK := Lib.hid (fun k hk => getD_bd hp k hk)
  generalize hn : ws.length = n' at *
  have HN := Lib.hid hn
  have HR := Lib.hid hr
  have k1 : w.cell? ⟨g1, 0, none⟩ = some (.slice a n' cap) := by rw [cell_of_row w _ _ _ _ _ c1]; rfl
  have K2 := Lib.hid c2
  have K3 := Lib.hid c3
  clear h0 h1 hl hp hk0 hx hr c1 c2 c3 hn hw
  go_enter Try.func87, Try.ntmps87
  go_wp2
  go_loopw [6, 11] (fun s i wr => ∃ k : Nat, k ≤ n' ∧ i = .int .i64 k ∧ s = .float .f32 (sumB x h want ws k) ∧ Below w.heap.size w wr) (fun _ i _ => n' - (intOf i).toNat)
  case atStart => exact ⟨0, Nat.zero_le _, rfl, rfl, Below.refl _ _⟩
  case round =>
    clear k1
    obtain ⟨k, hk, rfl, rfl, hb⟩ := hrel
    by_cases hlt : k < n'
    · have hx : ws[k]? = some (ws.getD k (0, 0, 0, 0, 0)) := by rw [List.getElem?_eq_getElem (by rw [HN.out]; exact hlt)]; simp [List.getD, HN.out, hlt]
      obtain ⟨⟨hs1, hs2, _⟩, hs3⟩ := HS.out k hlt
      have hok := HOK.out k hlt
      obtain ⟨g, o, rfl, hc⟩ := bd_at (bds_below HZ.out hb) hx
      unfold dV at hs3
      generalize ws.getD k (0, 0, 0, 0, 0) = b at *
      obtain ⟨n, wd, gp, t, sh⟩ := b
      unfold pBd at hs1 hs2 hs3
      dsimp only at hs1 hs2 hs3
      have HC := Lib.hid hc
      obtain ⟨ht, hp1, hp2⟩ := HTP.out n wd gp t sh hok
      have HT := Lib.hid ht
      have HP := Lib.hid (And.intro hp1 hp2)
      have r1 : ∀ T w, (binOp .sub T (.float .f32 (pasB wd gp x sh h)) (.float .f32 want)).run Try.prog w = .ok (.float .f32 (fsub (pasB wd gp x sh h) want)) w := fun T w => run_float_arith w .sub T .f32 _ _ _ hs1
      have HZ2 := Lib.hid (fun w => sizeOf_any (fsub (pasB wd gp x sh h) want) hs2 w)
      have r2 : ∀ T w, (binOp .add T (.float .f32 (sumB x h want ws k)) (.float .f32 (sizeB (fsub (pasB wd gp x sh h) want)))).run Try.prog w = .ok (.float .f32 (sumB x h want ws (k + 1))) w := fun T w => run_float_arith w .add T .f32 _ _ _ hs3
      have z1 : (k : Int) < (n' : Int) := by omega
      have z2 : (0 : Int) ≤ (k : Int) := by omega
      clear hx hs1 hs2 hs3 hok hc ht hp1 hp2
      generalize sizeB (fsub (pasB wd gp x sh h) want) = dd at *
      generalize fsub (pasB wd gp x sh h) want = df at *
      generalize pasB wd gp x sh h = p at *
      go_upto_region 5 with (first | (refine wpList_load_cells rfl 49 _ rfl g (o + k * 5) 5 rfl _ Try.underlying49 rfl info_blind (blindC n wd gp t sh) rfl HC.out ?_) | (refine wpList_store_part rfl 49 _ _ rfl _ 0 (blindC n wd gp t sh) rfl rfl 49 _ (heap_alloc_new _ _) (by kernel_rfl) (Nat.le_refl _) (bd_one (n, wd, gp, t, sh)) ?_; rw [laid_allb _ _ (by rfl)]))
      refine abs_world (fun V => Below w.heap.size w V ∧ V.heap[wr.heap.size]? = some (.cells (blindC n wd gp t sh) 49 (0, 0))) ⟨below_setRow (hb.alloc hb.size _) hb.size _, setRow_heap _ _ _ _ _ _ (heap_alloc_new _ _)⟩ ?_
      rintro V ⟨hbv, hrow⟩
      have RB := Lib.hid hrow
      have k2 : V.cell? ⟨g2, 0, none⟩ = some (.int .i64 h) := by rw [cell_of_row V _ _ _ _ _ (below_row hbv K2.out)]; rfl
      have k3 : V.cell? ⟨g3, 0, none⟩ = some (.float .f32 want) := by rw [cell_of_row V _ _ _ _ _ (below_row hbv K3.out)]; rfl
      generalize wr.heap.size = tb at *
      clear hrow hb HC
      dsimp only [Act.put]
      refine wp_region_held_drew (S := (fun U => Below V.heap.size V U)) (by kernel_rfl) (Below.refl _ _).drew (fun hHeld => ?_)
      refine take_op (i := 0) (d := 15) (v := ?_) rfl rfl (by kernel_rfl) (by kernel_rfl) (by kernel_rfl) (fun _ _ _ h => h) (Or.inl ⟨by rfl, ?hy0u46⟩) hHeld ?rest0u46
      case hy0u46 =>
        intro w' hS'
        go_simp
        try with_reducible rfl
      simp only [List.setIfInBounds_toArray, List.set_cons_zero, List.set_cons_succ]
      refine take_op (i := 1) (d := 16) (v := .agg (blindC n wd gp t sh)) rfl rfl (by kernel_rfl) (by kernel_rfl) (by kernel_rfl) (fun _ _ _ h => h) (yields_row (by rfl) 49 (.tmp 8) (by rfl) tb 0 5 (by rfl) 49 (blindC n wd gp t sh) (0, 0) _ (fun _ h => below_row h RB.out) Try.underlying49 rfl info_blind (blind_fits _ _ _ _ _) (blindC n wd gp t sh) (blind_all _ _ _ _ _)) hHeld ?_
      simp only [List.setIfInBounds_toArray, List.set_cons_zero, List.set_cons_succ]
      refine take_op (i := 2) (d := 17) (v := ?_) rfl rfl (by kernel_rfl) (by kernel_rfl) (by kernel_rfl) (fun _ _ _ h => h) (Or.inl ⟨by rfl, ?hy2u47⟩) hHeld ?rest2u47
      case hy2u47 =>
        intro w' hS'
        go_simp
        try with_reducible rfl
      simp only [List.setIfInBounds_toArray, List.set_cons_zero, List.set_cons_succ]
      refine take_op (i := 5) (d := 20) (v := ?_) rfl rfl (by kernel_rfl) (by kernel_rfl) (by kernel_rfl) (fun _ _ _ h => h) (Or.inl ⟨by rfl, ?hy5u48⟩) hHeld ?rest5u48
      case hy5u48 =>
        intro w' hS'
        have k2 := cell_belowB hS' k2
        go_simp
        try with_reducible rfl
      simp only [List.setIfInBounds_toArray, List.set_cons_zero, List.set_cons_succ]
      refine take_op (i := 7) (d := 22) (v := ?_) rfl rfl (by kernel_rfl) (by kernel_rfl) (by kernel_rfl) (fun _ _ _ h => h) (Or.inl ⟨by rfl, ?hy7u49⟩) hHeld ?rest7u49
      case hy7u49 =>
        intro w' hS'
        have k3 := cell_belowB hS' k3
        go_simp
        try with_reducible rfl
      simp only [List.setIfInBounds_toArray, List.set_cons_zero, List.set_cons_succ]
      refine wpAnyH_ready (rs := [3]) (by kernel_rfl) (by simp) ?_
      refine AllReadyH.cons rfl (fun K hK => ?_) AllReadyH.nil
      go_simp
      refine (HT.out _).mono ?_
      rintro e W1 ⟨rfl, hb1⟩
      refine hK.out _ _ (hHeld.trans (hb1.mono hHeld.size)) (fun hHeld2 => ?_)
      clear hK K
      replace hHeld := hHeld2
      clear hHeld2
      clear hb1
      refine wpAnyH_ready (rs := [4]) (by kernel_rfl) (by simp) ?_
      refine AllReadyH.cons rfl (fun K hK => ?_) AllReadyH.nil
      go_simp
      refine (HP.out.1 _).mono ?_
      rintro e W2 ⟨⟨v, rfl, p1, p2, rfl, c4, c5⟩, hb2⟩
      have C4 := Lib.hid c4
      have C5 := Lib.hid c5
      clear c4 c5
      refine hK.out _ _ (hHeld.trans (hb2.mono hHeld.size)) (fun hHeld2 => ?_)
      clear hK K
      replace hHeld := hHeld2
      clear hHeld2
      clear hb2
      refine wpAnyH_ready (rs := [6]) (by kernel_rfl) (by simp) ?_
      refine AllReadyH.cons rfl (fun K hK => ?_) AllReadyH.nil
      go_simp
      refine (HP.out.2 p1 p2 _ C4.out C5.out).mono ?_
      rintro e W3 ⟨rfl, hb3⟩
      refine hK.out _ _ (hHeld.trans (hb3.mono hHeld.size)) (fun hHeld2 => ?_)
      clear hK K
      replace hHeld := hHeld2
      clear hHeld2
      clear hb3
      refine take_op (i := 8) (d := 23) (v := ?_) rfl rfl (by kernel_rfl) (by kernel_rfl) (by kernel_rfl) (fun _ _ _ h => h) (Or.inl ⟨by rfl, ?hy8u50⟩) hHeld ?rest8u50
      case hy8u50 =>
        intro w' hS'
        go_simp
        try with_reducible rfl
      simp only [List.setIfInBounds_toArray, List.set_cons_zero, List.set_cons_succ]
      refine wpAnyH_ready (rs := [9]) (by kernel_rfl) (by simp) ?_
      refine AllReadyH.cons rfl (fun K hK => ?_) AllReadyH.nil
      go_simp
      refine (HZ2.out _).mono ?_
      rintro e w' ⟨rfl, rfl⟩
      refine hK.out _ _ (hHeld) (fun hHeld2 => ?_)
      clear hK K
      replace hHeld := hHeld2
      clear hHeld2
      refine take_op (i := 10) (d := 25) (v := ?_) rfl rfl (by kernel_rfl) (by kernel_rfl) (by kernel_rfl) (fun _ _ _ h => h) (Or.inl ⟨by rfl, ?hy10u51⟩) hHeld ?rest10u51
      case hy10u51 =>
        intro w' hS'
        go_simp
        try with_reducible rfl
      simp only [List.setIfInBounds_toArray, List.set_cons_zero, List.set_cons_succ]
      refine take_op (i := 11) (d := 6) (v := ?_) rfl rfl (by kernel_rfl) (by kernel_rfl) (by kernel_rfl) (fun _ _ _ h => h) (Or.inl ⟨by rfl, ?hy11u52⟩) hHeld ?rest11u52
      case hy11u52 =>
        intro w' hS'
        go_simp
        try with_reducible rfl
      simp only [List.setIfInBounds_toArray, List.set_cons_zero, List.set_cons_succ]
      refine wpAnyH_done (by kernel_rfl) ?_ _
      have hbx := hbv.trans (hHeld.mono hbv.size)
      clear hHeld hbv k2 k3 RB C4 C5 HT HP HZ2
      go_wp2
      go_roundw
      case rel => exact ⟨k + 1, by omega, by go_num, rfl, hbx⟩
      case measure => simp [intOf]; omega
    · obtain rfl : k = n' := by omega
      rw [HR.out]
      go_wp2
      go_ret
      exact ⟨rfl, hb⟩

set_option maxRecDepth 100000 in
set_option maxHeartbeats 4000000 in
theorem leastTilt_sd (g1 g2 g3 : Nat) (d : Nat → Nat) (hd : ∀ k, k ≤ 128 → isNum (d k)) (w : World)
    (hc : ∀ (k : Nat), k ≤ 128 → ∀ x : Int, x = (k : Int) - 64 → ∀ W, Below w.heap.size w W → Calls Try.prog 87 #[.int .i64 x, .pointer (some ⟨g1, 0, none⟩), .pointer (some ⟨g2, 0, none⟩), .pointer (some ⟨g3, 0, none⟩)] W fun e W' => e = .returned (.float .f32 (d k)) ∧ Below W.heap.size W W') :
    Calls Try.prog 76 #[.func (.func 87) #[] #[.pointer (some ⟨g1, 0, none⟩), .pointer (some ⟨g2, 0, none⟩), .pointer (some ⟨g3, 0, none⟩)]] w fun e w' => e = .returned (.tuple #[.int .i64 ((firstMin d 128 : Nat) - 64 : Int), .float .f32 (d (firstMin d 128))]) ∧ Below w.heap.size w w' := by
  have HC := Lib.hid hc
  have HD := Lib.hid hd
  clear hc hd
  go_enter Try.func76, Try.ntmps76
  go_upto_region 3 with (go_at_call 87; refine (HC.out 0 (by omega) (-64) (by decide) _ (Below.refl _ _)).mono ?_; rintro e W1 ⟨rfl, hb⟩)
  go_wp2
  go_loopw [4, 5, 6] (fun b s i wr => ∃ (k : Nat) (x : Int), 1 ≤ k ∧ k ≤ 129 ∧ x = (k : Int) - 64 ∧ i = .int .i64 x ∧ b = .int .i64 ((firstMin d (k - 1) : Nat) - 64 : Int) ∧ s = .float .f32 (d (firstMin d (k - 1))) ∧ Below w.heap.size w wr) (fun _ _ i _ => (65 - intOf i).toNat)
  case atStart => exact ⟨1, -63, by omega, by omega, by decide, rfl, rfl, rfl, hb⟩
  case round =>
    clear hb
    obtain ⟨k, x, hk1, hk2, hx, rfl, rfl, rfl, hb⟩ := hrel
    by_cases hlt : k ≤ 128
    · obtain ⟨j, rfl⟩ : ∃ j, k = j + 1 := ⟨k - 1, by omega⟩
      have HX := Lib.hid (HC.out (j + 1) hlt x hx _ hb)
      have hord := order_cases (HD.out (j + 1) hlt) (HD.out (firstMin d j) (by have := firstMin_le d j; omega))
      rw [Nat.add_sub_cancel] at *
      have x1 : x ≤ 64 := by omega
      have x0 : -64 ≤ x := by omega
      have HXX := Lib.hid hx
      clear hx
      rcases hord with ⟨ho, hm⟩ | ⟨ho, hm⟩ | ⟨ho, hm⟩
      · have HF := Lib.hid (firstMin_hit hm)
        clear hm
        generalize firstMin d j = m at *
        go_wp2_with (go_at_call 87; refine HX.out.mono ?_; rintro e W1 ⟨rfl, hb1⟩)
        go_roundw
        case rel => exact ⟨j + 1 + 1, x + 1, by omega, by omega, by have := HXX.out; omega, by go_num, by rw [Nat.add_sub_cancel, HF.out, HXX.out], by rw [Nat.add_sub_cancel, HF.out], hb.trans (hb1.mono hb.size)⟩
        case measure => simp [intOf]; omega
      · have HF := Lib.hid (firstMin_miss hm)
        clear hm
        generalize firstMin d j = m at *
        go_wp2_with (go_at_call 87; refine HX.out.mono ?_; rintro e W1 ⟨rfl, hb1⟩)
        go_roundw
        case rel => exact ⟨j + 1 + 1, x + 1, by omega, by omega, by have := HXX.out; omega, by go_num, by rw [Nat.add_sub_cancel, HF.out], by rw [Nat.add_sub_cancel, HF.out], hb.trans (hb1.mono hb.size)⟩
        case measure => simp [intOf]; omega
      · have HF := Lib.hid (firstMin_miss hm)
        clear hm
        generalize firstMin d j = m at *
        go_wp2_with (go_at_call 87; refine HX.out.mono ?_; rintro e W1 ⟨rfl, hb1⟩)
        go_roundw
        case rel => exact ⟨j + 1 + 1, x + 1, by omega, by omega, by have := HXX.out; omega, by go_num, by rw [Nat.add_sub_cancel, HF.out], by rw [Nat.add_sub_cancel, HF.out], hb.trans (hb1.mono hb.size)⟩
        case measure => simp [intOf]; omega
    · obtain rfl : k = 129 := by omega
      obtain rfl : x = 65 := by omega
      go_wp2
      go_ret2
      exact ⟨rfl, hb⟩

end Go.Proofs.Ytelgcggcmjdhjaa
