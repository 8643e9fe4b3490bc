/-
  For every room, valid or not: whether it is valid is what the model says, and the room is as it was. No conditions.
-/
import Derived.Test.YtkmjapdikhckeaaRoomS
import Derived.Test.YtkmjapdikhckeaaRoomE
import Derived.Test.YtkmjapdikhckeaaLaw
namespace Go.Proofs.Ytkmjapdikhckeaa
open Go.ChangeShapes Go.WideShapes Go.ChangeAt Go.RowKit Go.Deep Go.Joins

attribute [local go_sem] run_store_f

set_option maxRecDepth 100000 in
set_option maxHeartbeats 1000000 in
theorem specValidRoom_any (wd hg : Int) (iw : I8 wd) (ih : I8 hg) (sv : Value) (ws : List Wn) (hwf : ∀ x ∈ ws, WnWf x) (w : World) (hws : WinsAt w sv ws) :
    Calls Try.prog 7 #[.agg (roomC wd hg sv)] w fun e w' => e = .returned (.bool (okRm wd hg ws)) ∧ Below w.heap.size w w' := by
  have HW := Lib.hid hws
  have HF := Lib.hid hwf
  have HIW := Lib.hid iw
  have HIH := Lib.hid ih
  clear hws hwf iw ih
  go_enter Try.func7, Try.ntmps7
  go_upto_region 1 with (fail)
  refine abs_world (fun W => Below w.heap.size w W ∧ W.heap[w.heap.size]? = some (.cells (roomC wd hg sv) 30 (0, 0))) ⟨(Below.refl _ _).alloc (Nat.le_refl _) _, heap_alloc_new _ _⟩ ?_
  rintro W ⟨hb, h0⟩
  have H0 := Lib.hid h0
  have HV := Lib.hid (wins_below HW.out hb)
  clear h0
  go_wp2_with (go_at_call 17; refine (l03Ok_any wd hg HIW.out HIH.out sv ws HF.out w.heap.size _ _ _ H0.out HV.out).mono ?_; rintro e W1 ⟨rfl, hb1⟩)
  go_ret
  exact ⟨rfl, hb.trans (hb1.mono hb.size)⟩

set_option maxRecDepth 100000 in
set_option maxHeartbeats 1000000 in
theorem lawValidRoom_walk (wd hg : Int) (sv : Value) (ws : List Wn) (rw0 : RmWf wd hg ws) (w : World) (hws : WinsAt w sv ws) :
    Calls Try.prog 3 #[.agg (roomC wd hg sv)] w fun e w' => e = .returned (.bool true) ∧ Below w.heap.size w w' := by
  have HA := Lib.hid hws
  have HF := Lib.hid rw0
  have hsv := hws
  obtain ⟨a0, cap0, esv, hl1, hl2, _⟩ := hsv
  unfold maxLen at hl2
  have HZ := Lib.hid (fun w => szRoom_any wd hg a0 ws.length cap0 1048576 (by omega) (by decide) (by decide) w)
  rw [← esv] at HZ
  have hlr : (leftI ws.length 1048576 < 0 ∧ 1048576 < ws.length) ∨ (0 ≤ leftI ws.length 1048576 ∧ ws.length ≤ 1048576) := by unfold leftI; split <;> omega
  clear hws esv hl1 hl2
  generalize leftI (ws.length : Int) 1048576 = lf at *
  go_enter Try.func3, Try.ntmps3
  go_upto_region 1 with (fail)
  refine abs_world (fun W => Below w.heap.size w W ∧ W.heap[w.heap.size]? = some (.cells (roomC wd hg sv) 25 (0, 0))) ⟨(Below.refl _ _).alloc (Nat.le_refl _) _, heap_alloc_new _ _⟩ ?_
  rintro W ⟨hb, h0⟩
  have H0 := Lib.hid h0
  replace HA := Lib.hid (wins_below HA.out hb)
  clear h0
  rcases hlr with ⟨hlf, _⟩ | ⟨hlf, hlen⟩
  · go_wp2_with (first | (refine wpList_load_part rfl 25 _ rfl w.heap.size 0 3 rfl 25 (roomC wd hg sv) (0, 0) _ H0.out Try.underlying25 rfl info_roomL (room_fits _ _ _) _ (room_all _ _ _) ?_) | (go_at_call 6; refine (HZ.out _).mono ?_; rintro e W1 ⟨rfl, hb1⟩))
    go_ret
    exact ⟨rfl, hb.trans (hb1.mono hb.size)⟩
  · go_upto_region 6 with (first | (refine wpList_load_part rfl 25 _ rfl w.heap.size 0 3 rfl 25 (roomC wd hg sv) (0, 0) _ H0.out Try.underlying25 rfl info_roomL (room_fits _ _ _) _ (room_all _ _ _) ?_) | (go_at_call 6; refine (HZ.out _).mono ?_; rintro e W1 ⟨rfl, hb1⟩; replace H0 := Lib.hid (below_row hb1 H0.out); replace HA := Lib.hid (wins_below HA.out hb1); replace hb := hb.trans (hb1.mono hb.size); clear hb1) | (go_at_call 8; refine (toRoom_any wd hg sv ws hlen _ HA.out).mono ?_; rintro e W1 ⟨⟨v0, rfl, hv⟩, hb1⟩; have HV0 := Lib.hid hv; clear hv; replace H0 := Lib.hid (below_row hb1 H0.out); replace HA := Lib.hid (wins_below HA.out hb1); replace hb := hb.trans (hb1.mono hb.size); clear hb1) | (go_at_call 7; refine (specValidRoom_any wd hg HF.out.1 HF.out.2.1 _ ws HF.out.2.2 _ (ownW_at HV0.out)).mono ?_; rintro e W1 ⟨rfl, hb1⟩; replace H0 := Lib.hid (below_row hb1 H0.out); replace HA := Lib.hid (wins_below HA.out hb1); replace hb := hb.trans (hb1.mono hb.size); clear hb1))
    clear HV0
    go_upto_region 7 with (first | (refine wpList_load_part rfl 25 _ rfl w.heap.size 0 3 rfl 25 (roomC wd hg sv) (0, 0) _ H0.out Try.underlying25 rfl info_roomL (room_fits _ _ _) _ (room_all _ _ _) ?_) | (go_at_call 8; refine (toRoom_any wd hg sv ws hlen _ HA.out).mono ?_; rintro e W1 ⟨⟨v1, rfl, hv⟩, hb1⟩; have HV1 := Lib.hid hv; clear hv; replace H0 := Lib.hid (below_row hb1 H0.out); replace HA := Lib.hid (wins_below HA.out hb1); replace hb := hb.trans (hb1.mono hb.size); clear hb1) | (refine wpList_store_part rfl 30 _ _ rfl _ 0 (roomC wd hg v1) rfl rfl 30 _ (heap_alloc_new _ _) (by kernel_rfl) (Nat.le_refl _) (room_one wd hg HV1.out) ?_; rw [laid_allr _ _ (by rfl)]))
    refine abs_world (fun V => Below W1.heap.size W1 V ∧ V.heap[W1.heap.size]? = some (.cells (roomC wd hg v1) 30 (0, 0))) ⟨below_setRow ((Below.refl _ _).alloc (Nat.le_refl _) _) (Nat.le_refl _) _, setRow_heap _ _ _ _ _ _ (heap_alloc_new _ _)⟩ ?_
    rintro V ⟨hbv, hr⟩
    have HR := Lib.hid hr
    replace H0 := Lib.hid (below_row hbv H0.out)
    replace HA := Lib.hid (wins_below HA.out hbv)
    replace HV1 := Lib.hid (wins_below (ownW_at HV1.out) hbv)
    replace hb := hb.trans (hbv.mono hb.size)
    clear hbv hr
    generalize W1.heap.size = rb at *
    go_upto_region 10 with (first | (refine wpList_load_part rfl 30 _ rfl rb 0 3 rfl 30 (roomC wd hg v1) (0, 0) _ HR.out Try.underlying30 rfl info_room (room_fits _ _ _) _ (room_all _ _ _) ?_) | (go_at_call 9; refine (ValidRoom_any wd hg v1 ws _ HV1.out).mono ?_; rintro e W1 ⟨rfl, hb1⟩; replace HR := Lib.hid (below_row hb1 HR.out); replace HV1 := Lib.hid (wins_below HV1.out hb1); replace H0 := Lib.hid (below_row hb1 H0.out); replace HA := Lib.hid (wins_below HA.out hb1); replace hb := hb.trans (hb1.mono hb.size); clear hb1))
    refine wp_region_held_drew (S := (fun W => W.heap[rb]? = some (.cells (roomC wd hg v1) 30 (0, 0)) ∧ W.heap[w.heap.size]? = some (.cells (roomC wd hg sv) 25 (0, 0)) ∧ WinsAt W sv ws ∧ WinsAt W v1 ws ∧ Below w.heap.size w W)) (by kernel_rfl) ⟨HR.out, H0.out, HA.out, HV1.out, hb.drew⟩ (fun hHeld => ?_)
    refine take_op (i := 0) (d := 22) (v := .agg (roomC wd hg v1)) rfl rfl (by kernel_rfl) (by kernel_rfl) (by kernel_rfl) (fun _ _ _ h => h) (yields_row (by rfl) 30 (.tmp 5) (by rfl) rb 0 3 (by rfl) 30 (roomC wd hg v1) (0, 0) _ (fun _ h => h.1) Try.underlying30 rfl info_room (room_fits _ _ _) (roomC wd hg v1) (room_all _ _ _)) hHeld ?_
    simp only [List.setIfInBounds_toArray, List.set_cons_zero, List.set_cons_succ]
    refine take_op (i := 1) (d := 23) (v := .agg (roomC wd hg sv)) rfl rfl (by kernel_rfl) (by kernel_rfl) (by kernel_rfl) (fun _ _ _ h => h) (yields_row (by rfl) 25 (.tmp 1) (by rfl) w.heap.size 0 3 (by rfl) 25 (roomC wd hg sv) (0, 0) _ (fun _ h => h.2.1) Try.underlying25 rfl info_roomL (room_fits _ _ _) (roomC wd hg sv) (room_all _ _ _)) hHeld ?_
    simp only [List.setIfInBounds_toArray, List.set_cons_zero, List.set_cons_succ]
    refine wpAnyH_ready (rs := [2]) (by kernel_rfl) (by simp) ?_
    refine AllReadyH.cons rfl (fun K hK => ?_) AllReadyH.nil
    go_simp
    refine (toRoom_any wd hg sv ws hlen _ hHeld.2.2.1).mono ?_
    rintro e W1 ⟨⟨v9, rfl, hv9⟩, hb1⟩
    have HV9 := Lib.hid (ownW_at hv9)
    clear hv9
    refine hK.out _ _ (⟨below_row hb1 hHeld.1, below_row hb1 hHeld.2.1, wins_below hHeld.2.2.1 hb1, wins_below hHeld.2.2.2.1 hb1, hHeld.2.2.2.2.trans (hb1.mono hHeld.2.2.2.2.size)⟩) (fun hHeld2 => ?_)
    clear hK K
    replace hHeld := hHeld2
    clear hHeld2
    clear hb1
    refine wpAnyH_ready (rs := [3]) (by kernel_rfl) (by simp) ?_
    refine AllReadyH.cons rfl (fun K hK => ?_) AllReadyH.nil
    go_simp
    refine (eqRoom_any wd hg v1 v9 ws _ hHeld.2.2.2.1 HV9.out).mono ?_
    rintro e W2 ⟨rfl, hb1⟩
    refine hK.out _ _ (⟨below_row hb1 hHeld.1, below_row hb1 hHeld.2.1, wins_below hHeld.2.2.1 hb1, wins_below hHeld.2.2.2.1 hb1, hHeld.2.2.2.2.trans (hb1.mono hHeld.2.2.2.2.size)⟩) (fun hHeld2 => ?_)
    clear hK K
    replace hHeld := hHeld2
    clear hHeld2
    clear hb1
    refine take_op (i := 4) (d := 26) (v := ?_) rfl rfl (by kernel_rfl) (by kernel_rfl) (by kernel_rfl) (fun _ _ _ h => h) (Or.inl ⟨by rfl, ?hy4u1⟩) hHeld ?rest4u1
    case hy4u1 =>
      intro w' hS'
      go_simp
      try with_reducible rfl
    simp only [List.setIfInBounds_toArray, List.set_cons_zero, List.set_cons_succ]
    refine wpAnyH_done (by kernel_rfl) ?_ _
    have hbz := hHeld.2.2.2.2
    clear hHeld
    go_wp2
    go_ret
    exact ⟨rfl, hbz⟩

set_option maxRecDepth 100000 in
theorem FnExactValidRoom_holds : Rows.FnExactValidRoomSaid :=
  OpenClaim.holds_of_wide 3 Try.f3 rfl rfl rfl rfl rfl rfl rfl ⟨rfl, rfl, rfl, rfl, rfl⟩ rfl rfl rfl rfl rfl (by kernel_rfl) Try.func3 (by kernel_rfl)
    (of_decide_eq_true (by kernel_rfl)) (by unfold Func.isWrapper; first | (rw [if_pos (by decide +kernel)]; kernel_rfl) | (rw [if_neg (by decide +kernel)]; exact ⟨rfl, rfl⟩))
    (fun os started H enc _ => law_lifted 3 Try.f3 Rows.fnExactValidRoomSpec Rows.fnExactValidRoomRow.domain os started H enc (by kernel_rfl) Try.func3 rfl rfl
      (by rw [Try.params3]; intro t ht; simp only [List.mem_cons, List.not_mem_nil, or_false] at ht; subst ht <;> exact ⟨by kernel_rfl, of_decide_eq_true (by kernel_rfl)⟩)
      (fun ds hl => by
        match ds, hl with
        | [d0], _ => rfl)
      (ChangeSpec.witness6 (enc := enc) (C := Try.checked) false ⟨#[], #[.agg #[.int .i8 0, .int .i8 0, .slice none 0 0]], []⟩ 8 (by kernel_rfl) (by kernel_rfl) (by kernel_rfl) (by kernel_rfl))
      (fun W base args ds p hval hA => by
        rw [Try.params3] at hA hval
        obtain ⟨v0, vs0, d0, ds0, p0, q0, hargs, rfl, rfl, h0, r0⟩ := trodAll_cons hA
        obtain ⟨rfl, rfl, rfl⟩ := trodAll_nil r0
        obtain rfl : args = #[v0] := by cases args; simp_all
        obtain ⟨wd0, hg0, sv0, ws0, rfl, rw0, hw0⟩ := open_room (hval 0 25 v0 rfl rfl) h0
        exact lawValidRoom_walk wd0 hg0 sv0 ws0 rw0 W hw0))
#print axioms FnExactValidRoom_holds

end Go.Proofs.Ytkmjapdikhckeaa
