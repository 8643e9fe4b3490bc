/-
  Counts of numbers between bounds: the program.
-/
import Derived.Test.YtjpnbcfdnolcjaaCbC
import Derived.Deep.Cut
import Derived.Deep.DeepCutAuto
namespace Go.Proofs.Ytjpnbcfdnolcjaa
open Go.ChangeShapes Go.WideShapes Go.ChangeAt Go.RowKit Go.Deep Go.Joins

attribute [local go_sem] run_store_f

set_option maxRecDepth 100000 in
set_option maxHeartbeats 4000000 in
theorem iCountBins_no (v0 v1 : Value) (zs bs : List Nat) (_hwf0 : ∀ z ∈ zs, (Lit.float .f32 z).wf = true) (hwf1 : ∀ z ∈ bs, (Lit.float .f32 z).wf = true) (c : Int) (hcd : codeCb zs bs = c) (hne : c ≠ 0) (w : World) (h0 : FloatsAt w v0 zs) (h1 : FloatsAt w v1 bs) :
    Calls Try.prog 43 #[v0, v1] w (RetList [] c w) := by
  have HZ0 := Lib.hid h0
  have HZ1 := Lib.hid h1
  obtain ⟨a0, cap0, rfl, hl0, hm0, _⟩ := h0
  obtain ⟨a1, cap1, rfl, hl1, hm1, _⟩ := h1
  unfold maxLen at hm0 hm1
  subst hcd
  rcases codeCb_cases hne with ⟨e, ea⟩ | ⟨e, ea, eb⟩ | ⟨e, ea, eb, hbad⟩
  · rw [e]
    clear e hne
    go_enter Try.func43, Try.ntmps43
    go_upto_region 1 with (fail)
    refine abs_world (fun W => Below w.heap.size w W ∧ W.cell? ⟨w.heap.size, 0, none⟩ = some (.slice a1 bs.length cap1) ∧ w.heap.size < W.heap.size) ⟨(Below.refl _ _).alloc (Nat.le_refl _) _, cell_k (heap_alloc_new _ _) rfl, by simp⟩ ?_
    rintro W0 ⟨hb0, hbox, hs0⟩
    have HA := Lib.hid (ValidList_any _ zs W0 (floats_below HZ0.out hb0))
    have HB := Lib.hid (ValidList_any _ bs W0 (floats_below HZ1.out hb0))
    rw [ea] at HA
    clear HB
    go_wp2_with (go_at_call 17; (with_reducible refine HA.out.mono ?_); rintro e w' ⟨rfl, rfl⟩)
    go_ret2
    exact ⟨⟨_, rfl, own_noneI _ _⟩, hb0⟩
  · rw [e]
    clear e hne
    go_enter Try.func43, Try.ntmps43
    go_upto_region 1 with (fail)
    refine abs_world (fun W => Below w.heap.size w W ∧ W.cell? ⟨w.heap.size, 0, none⟩ = some (.slice a1 bs.length cap1) ∧ w.heap.size < W.heap.size) ⟨(Below.refl _ _).alloc (Nat.le_refl _) _, cell_k (heap_alloc_new _ _) rfl, by simp⟩ ?_
    rintro W0 ⟨hb0, hbox, hs0⟩
    have HA := Lib.hid (ValidList_any _ zs W0 (floats_below HZ0.out hb0))
    have HB := Lib.hid (ValidList_any _ bs W0 (floats_below HZ1.out hb0))
    rw [ea] at HA
    rw [eb] at HB
    go_wp2_with (first | (go_at_call 17; (with_reducible refine HA.out.mono ?_); rintro e w' ⟨rfl, rfl⟩) | (go_at_call 17; (with_reducible refine HB.out.mono ?_); rintro e w' ⟨rfl, rfl⟩))
    go_ret2
    exact ⟨⟨_, rfl, own_noneI _ _⟩, hb0⟩
  · rw [e]
    clear e hne
    obtain ⟨h48, hq⟩ := okLs_get hwf1 eb
    by_cases hlen : 16 < bs.length
    · have z0 : (16 : Int) < (bs.length : Int) := by omega
      clear hbad
      go_enter Try.func43, Try.ntmps43
      go_upto_region 1 with (fail)
      refine abs_world (fun W => Below w.heap.size w W ∧ W.cell? ⟨w.heap.size, 0, none⟩ = some (.slice a1 bs.length cap1) ∧ w.heap.size < W.heap.size) ⟨(Below.refl _ _).alloc (Nat.le_refl _) _, cell_k (heap_alloc_new _ _) rfl, by simp⟩ ?_
      rintro W0 ⟨hb0, hbox, hs0⟩
      have HA := Lib.hid (ValidList_any _ zs W0 (floats_below HZ0.out hb0))
      have HB := Lib.hid (ValidList_any _ bs W0 (floats_below HZ1.out hb0))
      rw [ea] at HA
      rw [eb] at HB
      go_wp2_with (first | (go_at_call 17; (with_reducible refine HA.out.mono ?_); rintro e w' ⟨rfl, rfl⟩) | (go_at_call 17; (with_reducible refine HB.out.mono ?_); rintro e w' ⟨rfl, rfl⟩))
      go_ret2
      exact ⟨⟨_, rfl, own_noneI _ _⟩, hb0⟩
    · have hasc : ascB bs = false := hbad.resolve_left hlen
      have z0 : (bs.length : Int) ≤ 16 := by omega
      clear hbad
      go_enter Try.func43, Try.ntmps43
      go_upto_region 1 with (fail)
      refine abs_world (fun W => Below w.heap.size w W ∧ W.cell? ⟨w.heap.size, 0, none⟩ = some (.slice a1 bs.length cap1) ∧ w.heap.size < W.heap.size) ⟨(Below.refl _ _).alloc (Nat.le_refl _) _, cell_k (heap_alloc_new _ _) rfl, by simp⟩ ?_
      rintro W0 ⟨hb0, hbox, hs0⟩
      have HA := Lib.hid (ValidList_any _ zs W0 (floats_below HZ0.out hb0))
      have HB := Lib.hid (ValidList_any _ bs W0 (floats_below HZ1.out hb0))
      have HC := Lib.hid (isAscending_any _ bs h48 hq W0 (floats_below HZ1.out hb0))
      rw [hasc] at HC
      rw [ea] at HA
      rw [eb] at HB
      go_wp2_with (first | (go_at_call 17; (with_reducible refine HA.out.mono ?_); rintro e w' ⟨rfl, rfl⟩) | (go_at_call 17; (with_reducible refine HB.out.mono ?_); rintro e w' ⟨rfl, rfl⟩) | (go_at_call 71; refine HC.out.mono ?_; rintro e W1 ⟨rfl, hb1⟩; have hbx := hb0.trans (hb1.mono hb0.size)))
      go_ret2
      exact ⟨⟨_, rfl, own_noneI _ _⟩, hbx⟩

set_option maxRecDepth 100000 in
set_option maxHeartbeats 8000000 in
theorem iCountBins_yes (v0 v1 : Value) (zs bs : List Nat) (hwf0 : ∀ z ∈ zs, (Lit.float .f32 z).wf = true) (hwf1 : ∀ z ∈ bs, (Lit.float .f32 z).wf = true) (hcd : codeCb zs bs = 0) (w : World) (h0 : FloatsAt w v0 zs) (h1 : FloatsAt w v1 bs) :
    Calls Try.prog 43 #[v0, v1] w (RetList (ansL bs zs) 0 w) := by
  have HZ0 := Lib.hid h0
  have HZ1 := Lib.hid h1
  obtain ⟨a0, cap0, rfl, hl0, hm0, _⟩ := h0
  obtain ⟨a1, cap1, rfl, hl1, hm1, _⟩ := h1
  unfold maxLen at hm0 hm1
  obtain ⟨ea, eb, h48, h16, hasc, hq0, hq1⟩ := codeCb_zero hwf0 hwf1 hcd
  have HQ0 := Lib.hid hq0
  have HQ1 := Lib.hid hq1
  have z0 : (bs.length : Int) ≤ 16 := by omega
  have HASC := Lib.hid hasc
  go_enter Try.func43, Try.ntmps43
  go_upto_region 1 with (fail)
  refine abs_world (fun W => Below w.heap.size w W ∧ W.cell? ⟨w.heap.size, 0, none⟩ = some (.slice a1 bs.length cap1) ∧ w.heap.size < W.heap.size) ⟨(Below.refl _ _).alloc (Nat.le_refl _) _, cell_k (heap_alloc_new _ _) rfl, by simp⟩ ?_
  rintro W0 ⟨hb0, hbox, hs0⟩
  have HA := Lib.hid (ValidList_any _ zs W0 (floats_below HZ0.out hb0))
  have HB := Lib.hid (ValidList_any _ bs W0 (floats_below HZ1.out hb0))
  have HC := Lib.hid (isAscending_any _ bs (by omega) hq1 W0 (floats_below HZ1.out hb0))
  rw [hasc] at HC
  rw [ea] at HA
  rw [eb] at HB
  clear hcd hwf0 hwf1 ea eb hasc hq0 hq1
  go_upto_region 5 with (first | (go_at_call 17; (with_reducible refine HA.out.mono ?_); rintro e w' ⟨rfl, rfl⟩) | (go_at_call 17; (with_reducible refine HB.out.mono ?_); rintro e w' ⟨rfl, rfl⟩) | (go_at_call 71; refine HC.out.mono ?_; rintro e W1 ⟨rfl, hb1⟩; have hbx := hb0.trans (hb1.mono hb0.size)))
  have hbox1 := cell_below hb1 hbox
  have hs1 : w.heap.size < W1.heap.size := Nat.lt_of_lt_of_le hs0 hb1.size
  have hmk := fun w => make_ints1 bs.length (by omega) w
  clear HA HB HC hbox hb1 hb0 hs0
  go_upto_region 6 with (fail)
  clear hmk
  refine abs_world (fun W => Below w.heap.size w W ∧ W.cell? ⟨w.heap.size, 0, none⟩ = some (.slice a1 bs.length cap1) ∧ CntRow W W1.heap.size bs zs bs.length 0) ⟨hbx.alloc hbx.size _, cell_below ((Below.refl _ _).alloc (Nat.le_refl _) _) hbox1, cnt_new _ _ _ _⟩ ?_
  rintro W2 ⟨hb2, hbox2, hrow2⟩
  clear hbx hbox1
  generalize W1.heap.size = G at *
  go_wp2
  go_loopw [32] (fun i wr => ∃ k : Nat, k ≤ zs.length ∧ i = .int .i64 k ∧ Below w.heap.size w wr ∧ wr.cell? ⟨w.heap.size, 0, none⟩ = some (.slice a1 bs.length cap1) ∧ CntRow wr G bs zs bs.length k) (fun i _ => zs.length - (intOf i).toNat)
  case atStart => exact ⟨0, Nat.zero_le _, rfl, hb2, hbox2, hrow2⟩
  case round =>
    clear hb2 hbox2 hrow2
    obtain ⟨k, hk, rfl, hb, hbox, hrow⟩ := hrel
    by_cases hlt : k < zs.length
    · have hx := getD_get hlt
      obtain ⟨g, o, rfl, hc⟩ := float_at (floats_below HZ0.out hb) hx
      have hxn := (HQ0.out _ (List.mem_of_getElem? hx)).1
      have hbin := (binN_is bs (zs.getD k 0)).1
      have HST := Lib.hid (fun W (h : CntRow W G bs zs bs.length k) => cnt_step h rfl hbin)
      have HCL := Lib.hid (fun W (h : CntRow W G bs zs bs.length k) => cnt_cell h hbin)
      obtain ⟨hv0, hv1⟩ := cntF_le bs zs k (binN bs (zs.getD k 0))
      have z1 : (k : Int) < (zs.length : Int) := by omega
      have z2 : (0 : Int) ≤ (k : Int) := by omega
      have z3 : decide ((k : Int) < (zs.length : Int)) = true := decide_eq_true z1
      clear hx
      generalize zs.getD k 0 = x at *
      generalize hB : binN bs x = b at *
      generalize cntF bs zs k b = v at *
      have HB := Lib.hid hB
      clear hB
      go_upto_region 9 with (fail)
      refine abs_world (fun W => Below wr.heap.size wr W ∧ W.cell? ⟨wr.heap.size, 0, none⟩ = some (.float .f32 x)) ⟨(Below.refl _ _).alloc (Nat.le_refl _) _, cell_k (heap_alloc_new _ _) rfl⟩ ?_
      rintro W3 ⟨hb3, hX⟩
      have hA := cell_below hb3 hbox
      have hbw := hb.trans (hb3.mono hb.size)
      have HS := Lib.hid (search_any _ bs w.heap.size wr.heap.size x W3 (by omega) HQ1.out hxn HASC.out (floats_below HZ1.out hbw) hA hX)
      rw [HB.out] at HS
      have HR3 := Lib.hid (cnt_keep hrow hb3)
      clear hrow hbox hb hX hb3 hxn
      go_wp2_with (go_at_call 73; refine HS.out.mono ?_; rintro e W4 ⟨rfl, hb4⟩; have hA4 := cell_below hb4 hA; have hb5 := hbw.trans (hb4.mono hbw.size); have HR4 := Lib.hid (cnt_keep HR3.out hb4); obtain ⟨q1, q2⟩ := HCL.out _ HR4.out; clear HS HR3 hA hbw hb4)
      go_roundw
      case rel => exact ⟨k + 1, by omega, by go_num, hb5.setCell (p := ⟨G, b, none⟩) (by simp; omega) _, (World.cell?_setCell_far _ _ _ _ (by simp; omega)).trans hA4, HST.out _ HR4.out⟩
      case measure => simp [intOf]; omega
    · obtain rfl : k = zs.length := by omega
      have HO := Lib.hid (cnt_own hrow (B := w.heap.size) (by omega) (by omega))
      clear hrow
      go_wp2
      go_ret2
      exact ⟨⟨_, rfl, HO.out⟩, hb⟩

end Go.Proofs.Ytjpnbcfdnolcjaa
