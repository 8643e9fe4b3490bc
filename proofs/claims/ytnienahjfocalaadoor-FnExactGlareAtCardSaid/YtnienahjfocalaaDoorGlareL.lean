/-
  GlareAt of the model; tiles laid anew.
-/
import Derived.Test.YtnienahjfocalaaDoorGlareS
import Derived.Test.YtnienahjfocalaaDoorRoomS
namespace Go.Proofs.YtnienahjfocalaaDoor
open Go.RowKit

attribute [local go_sem] run_store_f

set_option maxRecDepth 100000 in
set_option maxHeartbeats 1000000 in
theorem SGlareAt_y (wd hg : Int) (sv : Value) (ws : List Wn) (ok : RmOk wd hg ws) (iw : I8 wd) (ih : I8 hg) (hwf : ∀ x ∈ ws, WnWf x) (a1 a2 a3 : Int) (ix : I8 a1) (iy : I8 a2) (il : I8 a3) (ha : inRoom wd hg (a1, a2)) (r : Bool) (w : World) (hws : WinsAt w sv ws)
    (hr : isD wd hg a1 a2 a3 = r) (hc : codeR (okRm wd hg ws) r = 0) :
    Calls Tryd.prog 51 #[.agg (roomC wd hg sv), .agg (deskC a1 a2 a3)] w fun e w' => e = .returned (.tuple #[.float .f32 (litW wd hg (a1, a2) (glW wd hg a1 a2 a3) ws), .int .i64 0]) ∧ Below w.heap.size w w' := by
  have HIs := Lib.hid (fun (W : World) (hW : W.heap[w.heap.size]? = some (.cells (roomC wd hg sv) 87 (0, 0))) => l03Desk_any wd hg a1 a2 a3 iw ih ix iy il sv w.heap.size 87 (0, 0) W hW)
  have HAs := Lib.hid (fun (W : World) (hW : W.heap[w.heap.size]? = some (.cells (roomC wd hg sv) 87 (0, 0))) (hV : WinsAt W sv ws) => l03Asked_any wd hg iw ih sv ws hwf r w.heap.size 87 (0, 0) W hW hV)
  have HL := Lib.hid (fun (W : World) (hW : W.heap[w.heap.size]? = some (.cells (roomC wd hg sv) 87 (0, 0))) (hV : WinsAt W sv ws) => l03Glare_any wd hg sv ws ok hwf a1 a2 a3 ha w.heap.size 87 (0, 0) W hW hV)
  unfold Hid at HIs HAs
  rw [hr] at HIs
  rw [hc] at HAs
  replace HIs := Lib.hid HIs
  replace HAs := Lib.hid HAs
  have HW := Lib.hid hws
  clear hws hr hc hwf iw ih ix iy il ok ha
  go_enter Tryd.func51, Tryd.ntmps51
  go_upto_region 1 with (fail)
  refine abs_world (fun W => W.heap[w.heap.size]? = some (.cells (roomC wd hg sv) 87 (0, 0)) ∧ W.heap[w.heap.size + 1]? = some (.cells (deskC a1 a2 a3) 91 (0, 0)) ∧ Below w.heap.size w W) (two_at w (.cells (roomC wd hg sv) 87) (.cells (deskC a1 a2 a3) 91)) ?_
  rintro W ⟨h0, h1, hb⟩
  have H0 := Lib.hid h0
  have H1 := Lib.hid h1
  have HV := Lib.hid (wins_below HW.out hb)
  clear h0 h1
  go_wp2_with (first | (refine wpList_load_part rfl 91 _ rfl (w.heap.size + 1) 0 3 rfl 91 (deskC a1 a2 a3) (0, 0) _ H1.out Tryd.underlying91 rfl info_desk (desk_fits _ _ _) _ (desk_all _ _ _) ?_) | (go_at_call 101; refine (HIs.out _ H0.out).mono ?_; rintro e W1 ⟨rfl, hb1⟩; replace H0 := Lib.hid (below_row hb1 H0.out); replace H1 := Lib.hid (below_row hb1 H1.out); replace HV := Lib.hid (wins_below HV.out hb1); replace hb := hb.trans (hb1.mono hb.size); clear hb1) | (go_at_call 100; refine (HAs.out _ H0.out HV.out).mono ?_; rintro e W1 ⟨rfl, hb1⟩; replace H0 := Lib.hid (below_row hb1 H0.out); replace H1 := Lib.hid (below_row hb1 H1.out); replace HV := Lib.hid (wins_below HV.out hb1); replace hb := hb.trans (hb1.mono hb.size); clear hb1) | (go_at_call 102; refine (HL.out _ H0.out HV.out).mono ?_; rintro e W1 ⟨rfl, hb1⟩; replace H0 := Lib.hid (below_row hb1 H0.out); replace H1 := Lib.hid (below_row hb1 H1.out); replace HV := Lib.hid (wins_below HV.out hb1); replace hb := hb.trans (hb1.mono hb.size); clear hb1))
  go_ret2
  exact ⟨rfl, hb⟩

set_option maxRecDepth 100000 in
set_option maxHeartbeats 1000000 in
theorem SGlareAt_n1 (wd hg : Int) (sv : Value) (ws : List Wn) (iw : I8 wd) (ih : I8 hg) (hwf : ∀ x ∈ ws, WnWf x) (a1 a2 a3 : Int) (ix : I8 a1) (iy : I8 a2) (il : I8 a3) (r : Bool) (w : World) (hws : WinsAt w sv ws)
    (hr : isD wd hg a1 a2 a3 = r) (hc : codeR (okRm wd hg ws) r = 1) :
    Calls Tryd.prog 51 #[.agg (roomC wd hg sv), .agg (deskC a1 a2 a3)] w fun e w' => e = .returned (.tuple #[.float .f32 0, .int .i64 1]) ∧ Below w.heap.size w w' := by
  have HIs := Lib.hid (fun (W : World) (hW : W.heap[w.heap.size]? = some (.cells (roomC wd hg sv) 87 (0, 0))) => l03Desk_any wd hg a1 a2 a3 iw ih ix iy il sv w.heap.size 87 (0, 0) W hW)
  have HAs := Lib.hid (fun (W : World) (hW : W.heap[w.heap.size]? = some (.cells (roomC wd hg sv) 87 (0, 0))) (hV : WinsAt W sv ws) => l03Asked_any wd hg iw ih sv ws hwf r w.heap.size 87 (0, 0) W hW hV)
  unfold Hid at HIs HAs
  rw [hr] at HIs
  rw [hc] at HAs
  replace HIs := Lib.hid HIs
  replace HAs := Lib.hid HAs
  have HW := Lib.hid hws
  clear hws hr hc hwf iw ih ix iy il
  go_enter Tryd.func51, Tryd.ntmps51
  go_upto_region 1 with (fail)
  refine abs_world (fun W => W.heap[w.heap.size]? = some (.cells (roomC wd hg sv) 87 (0, 0)) ∧ W.heap[w.heap.size + 1]? = some (.cells (deskC a1 a2 a3) 91 (0, 0)) ∧ Below w.heap.size w W) (two_at w (.cells (roomC wd hg sv) 87) (.cells (deskC a1 a2 a3) 91)) ?_
  rintro W ⟨h0, h1, hb⟩
  have H0 := Lib.hid h0
  have H1 := Lib.hid h1
  have HV := Lib.hid (wins_below HW.out hb)
  clear h0 h1
  go_wp2_with (first | (refine wpList_load_part rfl 91 _ rfl (w.heap.size + 1) 0 3 rfl 91 (deskC a1 a2 a3) (0, 0) _ H1.out Tryd.underlying91 rfl info_desk (desk_fits _ _ _) _ (desk_all _ _ _) ?_) | (go_at_call 101; refine (HIs.out _ H0.out).mono ?_; rintro e W1 ⟨rfl, hb1⟩; replace H0 := Lib.hid (below_row hb1 H0.out); replace H1 := Lib.hid (below_row hb1 H1.out); replace HV := Lib.hid (wins_below HV.out hb1); replace hb := hb.trans (hb1.mono hb.size); clear hb1) | (go_at_call 100; refine (HAs.out _ H0.out HV.out).mono ?_; rintro e W1 ⟨rfl, hb1⟩; replace H0 := Lib.hid (below_row hb1 H0.out); replace H1 := Lib.hid (below_row hb1 H1.out); replace HV := Lib.hid (wins_below HV.out hb1); replace hb := hb.trans (hb1.mono hb.size); clear hb1))
  go_ret2
  exact ⟨rfl, hb⟩

set_option maxRecDepth 100000 in
set_option maxHeartbeats 1000000 in
theorem SGlareAt_n2 (wd hg : Int) (sv : Value) (ws : List Wn) (iw : I8 wd) (ih : I8 hg) (hwf : ∀ x ∈ ws, WnWf x) (a1 a2 a3 : Int) (ix : I8 a1) (iy : I8 a2) (il : I8 a3) (r : Bool) (w : World) (hws : WinsAt w sv ws)
    (hr : isD wd hg a1 a2 a3 = r) (hc : codeR (okRm wd hg ws) r = 2) :
    Calls Tryd.prog 51 #[.agg (roomC wd hg sv), .agg (deskC a1 a2 a3)] w fun e w' => e = .returned (.tuple #[.float .f32 0, .int .i64 2]) ∧ Below w.heap.size w w' := by
  have HIs := Lib.hid (fun (W : World) (hW : W.heap[w.heap.size]? = some (.cells (roomC wd hg sv) 87 (0, 0))) => l03Desk_any wd hg a1 a2 a3 iw ih ix iy il sv w.heap.size 87 (0, 0) W hW)
  have HAs := Lib.hid (fun (W : World) (hW : W.heap[w.heap.size]? = some (.cells (roomC wd hg sv) 87 (0, 0))) (hV : WinsAt W sv ws) => l03Asked_any wd hg iw ih sv ws hwf r w.heap.size 87 (0, 0) W hW hV)
  unfold Hid at HIs HAs
  rw [hr] at HIs
  rw [hc] at HAs
  replace HIs := Lib.hid HIs
  replace HAs := Lib.hid HAs
  have HW := Lib.hid hws
  clear hws hr hc hwf iw ih ix iy il
  go_enter Tryd.func51, Tryd.ntmps51
  go_upto_region 1 with (fail)
  refine abs_world (fun W => W.heap[w.heap.size]? = some (.cells (roomC wd hg sv) 87 (0, 0)) ∧ W.heap[w.heap.size + 1]? = some (.cells (deskC a1 a2 a3) 91 (0, 0)) ∧ Below w.heap.size w W) (two_at w (.cells (roomC wd hg sv) 87) (.cells (deskC a1 a2 a3) 91)) ?_
  rintro W ⟨h0, h1, hb⟩
  have H0 := Lib.hid h0
  have H1 := Lib.hid h1
  have HV := Lib.hid (wins_below HW.out hb)
  clear h0 h1
  go_wp2_with (first | (refine wpList_load_part rfl 91 _ rfl (w.heap.size + 1) 0 3 rfl 91 (deskC a1 a2 a3) (0, 0) _ H1.out Tryd.underlying91 rfl info_desk (desk_fits _ _ _) _ (desk_all _ _ _) ?_) | (go_at_call 101; refine (HIs.out _ H0.out).mono ?_; rintro e W1 ⟨rfl, hb1⟩; replace H0 := Lib.hid (below_row hb1 H0.out); replace H1 := Lib.hid (below_row hb1 H1.out); replace HV := Lib.hid (wins_below HV.out hb1); replace hb := hb.trans (hb1.mono hb.size); clear hb1) | (go_at_call 100; refine (HAs.out _ H0.out HV.out).mono ?_; rintro e W1 ⟨rfl, hb1⟩; replace H0 := Lib.hid (below_row hb1 H0.out); replace H1 := Lib.hid (below_row hb1 H1.out); replace HV := Lib.hid (wins_below HV.out hb1); replace hb := hb.trans (hb1.mono hb.size); clear hb1))
  go_ret2
  exact ⟨rfl, hb⟩

end Go.Proofs.YtnienahjfocalaaDoor
