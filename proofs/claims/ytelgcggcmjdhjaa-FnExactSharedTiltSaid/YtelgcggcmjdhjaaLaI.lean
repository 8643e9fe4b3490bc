/-
  The tilt with the least anger: the program's closure, and its search.
-/
import Derived.Test.YtelgcggcmjdhjaaLaP
import Derived.Test.YtelgcggcmjdhjaaFlV
import Derived.Test.YtelgcggcmjdhjaaPasser
import Derived.Test.YtelgcggcmjdhjaaTilted
import Derived.Test.YtelgcggcmjdhjaaBox
namespace Go.Proofs.Ytelgcggcmjdhjaa
open Go.ChangeShapes Go.WideShapes Go.ChangeAt Go.RowKit Go.Deep Go.Joins

attribute [local go_sem] run_store_f

theorem blok_tiltA (n : Int) (wd gp : Nat) (t : Int) (sh : Nat) {x : Int} (ok : BlOk n wd gp t sh) (x0 : -64 ≤ x) (x1 : x ≤ 64) : BlOk n wd gp x sh :=
  ⟨ok.1, ok.2.1, ok.2.2.1, ok.2.2.2.1, ok.2.2.2.2.1, ok.2.2.2.2.2.1, x0, x1, ok.2.2.2.2.2.2.2.2⟩
set_option maxRecDepth 100000 in
set_option maxHeartbeats 4000000 in
theorem la_call (n : Int) (wd gp : Nat) (t : Int) (sh : Nat) (ok : BlOk n wd gp t sh) (h : Int) (h0 : 1 ≤ h) (h1 : h ≤ 64) (sv : Value) (zs : List Nat) (hl : zs.length ≤ 12) (hp : ∀ z ∈ zs, PartOk z) (k0 : Nat) (hk0 : k0 ≤ 128) (x : Int) (hx : x = (k0 : Int) - 64) (r : Nat) (hr : dA wd gp sh h zs k0 = r) (g1 g2 g3 : Nat) (w : World)
    (c1 : w.heap[g1]? = some (.cells (blindC n wd gp t sh) 49 (0, 0))) (c2 : w.heap[g2]? = some (.cells #[.int .i64 h] 2 (0, 0))) (c3 : w.heap[g3]? = some (.cells #[sv] 61 (0, 0))) (hz : FloatsAt w sv zs) :
    Calls Try.prog 77 #[.int .i64 x, .pointer (some ⟨g1, 0, none⟩), .pointer (some ⟨g2, 0, none⟩), .pointer (some ⟨g3, 0, none⟩)] w fun e w' => e = .returned (.float .f32 r) ∧ Below w.heap.size w w' := by
  have x0 : -64 ≤ x := by omega
  have x1 : x ≤ 64 := by omega
  unfold dA at hr
  rw [← hx] at hr
  have ok2 := blok_tiltA n wd gp t sh ok x0 x1
  have HT := Lib.hid (fun w => tilted_any2 n wd gp t sh x x0 x1 w)
  have HP := Lib.hid (And.intro (fun w => passer_any n wd gp x sh ok2 w) (fun g1 g2 w c1 c2 => passes_call n wd gp x sh ok2 g1 g2 h h0 h1 w c1 c2))
  have hpl := pas_le wd gp x ok.2.2.2.2.2.2.2.2 h
  have HZ := Lib.hid hz
  obtain ⟨a, cap, rfl, hl1, hl2, _⟩ := hz
  unfold maxLen at hl2
  have HS := Lib.hid (fun k hk => And.intro (dV_ok hpl (getD_part hp k hk)) (sumA_step hpl hp hl k hk))
  generalize hn : zs.length = n' at *
  have HN := Lib.hid hn
  have HR := Lib.hid hr
  have C1 := Lib.hid c1
  have k2 : w.cell? ⟨g2, 0, none⟩ = some (.int .i64 h) := by rw [cell_of_row w _ _ _ _ _ c2]; rfl
  have k3 : w.cell? ⟨g3, 0, none⟩ = some (.slice a n' cap) := by rw [cell_of_row w _ _ _ _ _ c3]; rfl
  clear ok ok2 h0 h1 hl hp hk0 hx hr c1 c2 c3 hn hpl
  generalize pasB wd gp x sh h = p at *
  go_enter Try.func77, Try.ntmps77
  go_upto_region 1 with (fail)
  refine wp_region_held_drew (S := (fun V => Below w.heap.size w V)) (by kernel_rfl) (Below.refl _ _).drew (fun hHeld => ?_)
  refine take_op (i := 0) (d := 10) (v := .agg (blindC n wd gp t sh)) rfl rfl (by kernel_rfl) (by kernel_rfl) (by kernel_rfl) (fun _ _ _ h => h) (yields_row (by rfl) 49 (.tmp 1) (by rfl) g1 0 5 (by rfl) 49 (blindC n wd gp t sh) (0, 0) _ (fun _ h => below_row h C1.out) Try.underlying49 rfl info_blind (blind_fits _ _ _ _ _) (blindC n wd gp t sh) (blind_all _ _ _ _ _)) hHeld ?_
  simp only [List.setIfInBounds_toArray, List.set_cons_zero, List.set_cons_succ]
  refine take_op (i := 1) (d := 11) (v := ?_) rfl rfl (by kernel_rfl) (by kernel_rfl) (by kernel_rfl) (fun _ _ _ h => h) (Or.inl ⟨by rfl, ?hy1u22⟩) hHeld ?rest1u22
  case hy1u22 =>
    intro w' hS'
    go_simp
    try with_reducible rfl
  simp only [List.setIfInBounds_toArray, List.set_cons_zero, List.set_cons_succ]
  refine take_op (i := 4) (d := 14) (v := ?_) rfl rfl (by kernel_rfl) (by kernel_rfl) (by kernel_rfl) (fun _ _ _ h => h) (Or.inl ⟨by rfl, ?hy4u23⟩) hHeld ?rest4u23
  case hy4u23 =>
    intro w' hS'
    have k2 := cell_belowB hS' k2
    go_simp
    try with_reducible rfl
  simp only [List.setIfInBounds_toArray, List.set_cons_zero, List.set_cons_succ]
  refine wpAnyH_ready (rs := [2]) (by kernel_rfl) (by simp) ?_
  refine AllReadyH.cons rfl (fun K hK => ?_) AllReadyH.nil
  go_simp
  refine (HT.out _).mono ?_
  rintro e W1 ⟨rfl, hb1⟩
  refine hK.out _ _ (hHeld.trans (hb1.mono hHeld.size)) (fun hHeld2 => ?_)
  clear hK K
  replace hHeld := hHeld2
  clear hHeld2
  clear hb1
  refine wpAnyH_ready (rs := [3]) (by kernel_rfl) (by simp) ?_
  refine AllReadyH.cons rfl (fun K hK => ?_) AllReadyH.nil
  go_simp
  refine (HP.out.1 _).mono ?_
  rintro e W2 ⟨⟨v, rfl, p1, p2, rfl, c4, c5⟩, hb2⟩
  have C4 := Lib.hid c4
  have C5 := Lib.hid c5
  clear c4 c5
  refine hK.out _ _ (hHeld.trans (hb2.mono hHeld.size)) (fun hHeld2 => ?_)
  clear hK K
  replace hHeld := hHeld2
  clear hHeld2
  clear hb2
  refine wpAnyH_ready (rs := [5]) (by kernel_rfl) (by simp) ?_
  refine AllReadyH.cons rfl (fun K hK => ?_) AllReadyH.nil
  go_simp
  refine (HP.out.2 p1 p2 _ C4.out C5.out).mono ?_
  rintro e W3 ⟨rfl, hb3⟩
  refine hK.out _ _ (hHeld.trans (hb3.mono hHeld.size)) (fun hHeld2 => ?_)
  clear hK K
  replace hHeld := hHeld2
  clear hHeld2
  clear hb3
  refine take_op (i := 6) (d := 6) (v := ?_) rfl rfl (by kernel_rfl) (by kernel_rfl) (by kernel_rfl) (fun _ _ _ h => h) (Or.inl ⟨by rfl, ?hy6u24⟩) hHeld ?rest6u24
  case hy6u24 =>
    intro w' hS'
    go_simp
    try with_reducible rfl
  simp only [List.setIfInBounds_toArray, List.set_cons_zero, List.set_cons_succ]
  refine wpAnyH_done (by kernel_rfl) ?_ _
  replace k3 := cell_belowB hHeld k3
  have HW := Lib.hid (floats_below HZ.out hHeld)
  clear k2 HT HP C1 C4 C5 HZ
  go_wp2
  go_loopw [7, 18] (fun s i wr => ∃ k : Nat, k ≤ n' ∧ i = .int .i64 k ∧ s = .float .f32 (sumA p zs k) ∧ wr = W3) (fun _ i _ => n' - (intOf i).toNat)
  case atStart => exact ⟨0, Nat.zero_le _, rfl, rfl, rfl⟩
  case round =>
    obtain ⟨k, hk, rfl, rfl, rfl⟩ := hrel
    by_cases hlt : k < n'
    · have hx : zs[k]? = some (zs.getD k 0) := by rw [List.getElem?_eq_getElem (by rw [HN.out]; exact hlt)]; simp [List.getD, HN.out, hlt]
      obtain ⟨⟨hs1, hs2, _⟩, hs3⟩ := HS.out k hlt
      obtain ⟨g, o, rfl, hc⟩ := float_at HW.out hx
      unfold dV at hs3
      generalize zs.getD k 0 = v at *
      have r1 : ∀ T w, (binOp .sub T (.float .f32 p) (.float .f32 v)).run Try.prog w = .ok (.float .f32 (fsub p v)) w := fun T w => run_float_arith w .sub T .f32 _ _ _ hs1
      have HZ2 := Lib.hid (fun w => sizeOf_any (fsub p v) hs2 w)
      have r2 : ∀ T w, (binOp .add T (.float .f32 (sumA p zs k)) (.float .f32 (sizeB (fsub p v)))).run Try.prog w = .ok (.float .f32 (sumA p zs (k + 1))) w := fun T w => run_float_arith w .add T .f32 _ _ _ hs3
      have z1 : (k : Int) < (n' : Int) := by omega
      have z2 : (0 : Int) ≤ (k : Int) := by omega
      clear hx hs1 hs2 hs3 k3
      generalize sizeB (fsub p v) = dd at *
      generalize fsub p v = df at *
      go_wp2_with (go_at_call 80; refine (HZ2.out _).mono ?_; rintro e w1 ⟨rfl, rfl⟩)
      go_roundw
      case rel => exact ⟨k + 1, by omega, by go_num, rfl, by trivial⟩
      case measure => simp [intOf]; omega
    · obtain rfl : k = n' := by omega
      clear k3
      rw [HR.out]
      go_wp2
      go_ret
      exact ⟨rfl, hHeld⟩

set_option maxRecDepth 100000 in
set_option maxHeartbeats 4000000 in
theorem leastTilt_la (g1 g2 g3 : Nat) (d : Nat → Nat) (hd : ∀ k, k ≤ 128 → isNum (d k)) (w : World)
    (hc : ∀ (k : Nat), k ≤ 128 → ∀ x : Int, x = (k : Int) - 64 → ∀ W, Below w.heap.size w W → Calls Try.prog 77 #[.int .i64 x, .pointer (some ⟨g1, 0, none⟩), .pointer (some ⟨g2, 0, none⟩), .pointer (some ⟨g3, 0, none⟩)] W fun e W' => e = .returned (.float .f32 (d k)) ∧ Below W.heap.size W W') :
    Calls Try.prog 76 #[.func (.func 77) #[] #[.pointer (some ⟨g1, 0, none⟩), .pointer (some ⟨g2, 0, none⟩), .pointer (some ⟨g3, 0, none⟩)]] w fun e w' => e = .returned (.tuple #[.int .i64 ((firstMin d 128 : Nat) - 64 : Int), .float .f32 (d (firstMin d 128))]) ∧ Below w.heap.size w w' := by
  have HC := Lib.hid hc
  have HD := Lib.hid hd
  clear hc hd
  go_enter Try.func76, Try.ntmps76
  go_upto_region 3 with (go_at_call 77; refine (HC.out 0 (by omega) (-64) (by decide) _ (Below.refl _ _)).mono ?_; rintro e W1 ⟨rfl, hb⟩)
  go_wp2
  go_loopw [4, 5, 6] (fun b s i wr => ∃ (k : Nat) (x : Int), 1 ≤ k ∧ k ≤ 129 ∧ x = (k : Int) - 64 ∧ i = .int .i64 x ∧ b = .int .i64 ((firstMin d (k - 1) : Nat) - 64 : Int) ∧ s = .float .f32 (d (firstMin d (k - 1))) ∧ Below w.heap.size w wr) (fun _ _ i _ => (65 - intOf i).toNat)
  case atStart => exact ⟨1, -63, by omega, by omega, by decide, rfl, rfl, rfl, hb⟩
  case round =>
    clear hb
    obtain ⟨k, x, hk1, hk2, hx, rfl, rfl, rfl, hb⟩ := hrel
    by_cases hlt : k ≤ 128
    · obtain ⟨j, rfl⟩ : ∃ j, k = j + 1 := ⟨k - 1, by omega⟩
      have HX := Lib.hid (HC.out (j + 1) hlt x hx _ hb)
      have hord := order_cases (HD.out (j + 1) hlt) (HD.out (firstMin d j) (by have := firstMin_le d j; omega))
      rw [Nat.add_sub_cancel] at *
      have x1 : x ≤ 64 := by omega
      have x0 : -64 ≤ x := by omega
      have HXX := Lib.hid hx
      clear hx
      rcases hord with ⟨ho, hm⟩ | ⟨ho, hm⟩ | ⟨ho, hm⟩
      · have HF := Lib.hid (firstMin_hit hm)
        clear hm
        generalize firstMin d j = m at *
        go_wp2_with (go_at_call 77; refine HX.out.mono ?_; rintro e W1 ⟨rfl, hb1⟩)
        go_roundw
        case rel => exact ⟨j + 1 + 1, x + 1, by omega, by omega, by have := HXX.out; omega, by go_num, by rw [Nat.add_sub_cancel, HF.out, HXX.out], by rw [Nat.add_sub_cancel, HF.out], hb.trans (hb1.mono hb.size)⟩
        case measure => simp [intOf]; omega
      · have HF := Lib.hid (firstMin_miss hm)
        clear hm
        generalize firstMin d j = m at *
        go_wp2_with (go_at_call 77; refine HX.out.mono ?_; rintro e W1 ⟨rfl, hb1⟩)
        go_roundw
        case rel => exact ⟨j + 1 + 1, x + 1, by omega, by omega, by have := HXX.out; omega, by go_num, by rw [Nat.add_sub_cancel, HF.out], by rw [Nat.add_sub_cancel, HF.out], hb.trans (hb1.mono hb.size)⟩
        case measure => simp [intOf]; omega
      · have HF := Lib.hid (firstMin_miss hm)
        clear hm
        generalize firstMin d j = m at *
        go_wp2_with (go_at_call 77; refine HX.out.mono ?_; rintro e W1 ⟨rfl, hb1⟩)
        go_roundw
        case rel => exact ⟨j + 1 + 1, x + 1, by omega, by omega, by have := HXX.out; omega, by go_num, by rw [Nat.add_sub_cancel, HF.out], by rw [Nat.add_sub_cancel, HF.out], hb.trans (hb1.mono hb.size)⟩
        case measure => simp [intOf]; omega
    · obtain rfl : k = 129 := by omega
      obtain rfl : x = 65 := by omega
      go_wp2
      go_ret2
      exact ⟨rfl, hb⟩

end Go.Proofs.Ytelgcggcmjdhjaa
