/-
  LightAt of the model; tiles laid anew.
-/
import Derived.Test.YtkmjapdikhckeaaDoorLightS
import Derived.Test.YtkmjapdikhckeaaDoorIsTile
import Derived.Test.YtkmjapdikhckeaaDoorRoomS
namespace Go.Proofs.YtkmjapdikhckeaaDoor
open Go.RowKit

attribute [local go_sem] run_store_f

set_option maxRecDepth 100000 in
set_option maxHeartbeats 1000000 in
theorem SLightAt_y (wd hg : Int) (sv : Value) (ws : List Wn) (ok : RmOk wd hg ws) (iw : I8 wd) (ih : I8 hg) (hwf : ∀ x ∈ ws, WnWf x) (a1 a2 : Int) (ix : I8 a1) (iy : I8 a2) (ha : inRoom wd hg (a1, a2)) (r : Bool) (w : World) (hws : WinsAt w sv ws)
    (hr : isT wd hg a1 a2 = r) (hc : codeR (okRm wd hg ws) r = 0) :
    Calls Tryd.prog 19 #[.agg (roomC wd hg sv), .agg (tileC a1 a2)] w fun e w' => e = .returned (.tuple #[.float .f32 (litW wd hg (a1, a2) (fun _ => true) ws), .int .i64 0]) ∧ Below w.heap.size w w' := by
  have HIs := Lib.hid (fun (W : World) (hW : W.heap[w.heap.size]? = some (.cells (roomC wd hg sv) 36 (0, 0))) => l03Is_any wd hg a1 a2 iw ih ix iy sv w.heap.size 36 (0, 0) W hW)
  have HAs := Lib.hid (fun (W : World) (hW : W.heap[w.heap.size]? = some (.cells (roomC wd hg sv) 36 (0, 0))) (hV : WinsAt W sv ws) => l03Asked_any wd hg iw ih sv ws hwf r w.heap.size 36 (0, 0) W hW hV)
  have HL := Lib.hid (fun (W : World) (hW : W.heap[w.heap.size]? = some (.cells (roomC wd hg sv) 36 (0, 0))) (hV : WinsAt W sv ws) => l03Light_any wd hg sv ws ok hwf a1 a2 ha w.heap.size 36 (0, 0) W hW hV)
  unfold Hid at HIs HAs
  rw [hr] at HIs
  rw [hc] at HAs
  replace HIs := Lib.hid HIs
  replace HAs := Lib.hid HAs
  have HW := Lib.hid hws
  clear hws hr hc hwf iw ih ix iy ok ha
  go_enter Tryd.func19, Tryd.ntmps19
  go_upto_region 1 with (fail)
  refine abs_world (fun W => W.heap[w.heap.size]? = some (.cells (roomC wd hg sv) 36 (0, 0)) ∧ W.heap[w.heap.size + 1]? = some (.cells (tileC a1 a2) 31 (0, 0)) ∧ Below w.heap.size w W) (two_at w (.cells (roomC wd hg sv) 36) (.cells (tileC a1 a2) 31)) ?_
  rintro W ⟨h0, h1, hb⟩
  have H0 := Lib.hid h0
  have H1 := Lib.hid h1
  have HV := Lib.hid (wins_below HW.out hb)
  clear h0 h1
  go_wp2_with (first | (refine wpList_load_part rfl 31 _ rfl (w.heap.size + 1) 0 2 rfl 31 (tileC a1 a2) (0, 0) _ H1.out Tryd.underlying31 rfl info_tile (tile_fits _ _) _ (tile_all _ _) ?_) | (go_at_call 54; refine (HIs.out _ H0.out).mono ?_; rintro e W1 ⟨rfl, hb1⟩; replace H0 := Lib.hid (below_row hb1 H0.out); replace H1 := Lib.hid (below_row hb1 H1.out); replace HV := Lib.hid (wins_below HV.out hb1); replace hb := hb.trans (hb1.mono hb.size); clear hb1) | (go_at_call 44; refine (HAs.out _ H0.out HV.out).mono ?_; rintro e W1 ⟨rfl, hb1⟩; replace H0 := Lib.hid (below_row hb1 H0.out); replace H1 := Lib.hid (below_row hb1 H1.out); replace HV := Lib.hid (wins_below HV.out hb1); replace hb := hb.trans (hb1.mono hb.size); clear hb1) | (go_at_call 55; refine (HL.out _ H0.out HV.out).mono ?_; rintro e W1 ⟨rfl, hb1⟩; replace H0 := Lib.hid (below_row hb1 H0.out); replace H1 := Lib.hid (below_row hb1 H1.out); replace HV := Lib.hid (wins_below HV.out hb1); replace hb := hb.trans (hb1.mono hb.size); clear hb1))
  go_ret2
  exact ⟨rfl, hb⟩

set_option maxRecDepth 100000 in
set_option maxHeartbeats 1000000 in
theorem SLightAt_n1 (wd hg : Int) (sv : Value) (ws : List Wn) (iw : I8 wd) (ih : I8 hg) (hwf : ∀ x ∈ ws, WnWf x) (a1 a2 : Int) (ix : I8 a1) (iy : I8 a2) (r : Bool) (w : World) (hws : WinsAt w sv ws)
    (hr : isT wd hg a1 a2 = r) (hc : codeR (okRm wd hg ws) r = 1) :
    Calls Tryd.prog 19 #[.agg (roomC wd hg sv), .agg (tileC a1 a2)] w fun e w' => e = .returned (.tuple #[.float .f32 0, .int .i64 1]) ∧ Below w.heap.size w w' := by
  have HIs := Lib.hid (fun (W : World) (hW : W.heap[w.heap.size]? = some (.cells (roomC wd hg sv) 36 (0, 0))) => l03Is_any wd hg a1 a2 iw ih ix iy sv w.heap.size 36 (0, 0) W hW)
  have HAs := Lib.hid (fun (W : World) (hW : W.heap[w.heap.size]? = some (.cells (roomC wd hg sv) 36 (0, 0))) (hV : WinsAt W sv ws) => l03Asked_any wd hg iw ih sv ws hwf r w.heap.size 36 (0, 0) W hW hV)
  unfold Hid at HIs HAs
  rw [hr] at HIs
  rw [hc] at HAs
  replace HIs := Lib.hid HIs
  replace HAs := Lib.hid HAs
  have HW := Lib.hid hws
  clear hws hr hc hwf iw ih ix iy
  go_enter Tryd.func19, Tryd.ntmps19
  go_upto_region 1 with (fail)
  refine abs_world (fun W => W.heap[w.heap.size]? = some (.cells (roomC wd hg sv) 36 (0, 0)) ∧ W.heap[w.heap.size + 1]? = some (.cells (tileC a1 a2) 31 (0, 0)) ∧ Below w.heap.size w W) (two_at w (.cells (roomC wd hg sv) 36) (.cells (tileC a1 a2) 31)) ?_
  rintro W ⟨h0, h1, hb⟩
  have H0 := Lib.hid h0
  have H1 := Lib.hid h1
  have HV := Lib.hid (wins_below HW.out hb)
  clear h0 h1
  go_wp2_with (first | (refine wpList_load_part rfl 31 _ rfl (w.heap.size + 1) 0 2 rfl 31 (tileC a1 a2) (0, 0) _ H1.out Tryd.underlying31 rfl info_tile (tile_fits _ _) _ (tile_all _ _) ?_) | (go_at_call 54; refine (HIs.out _ H0.out).mono ?_; rintro e W1 ⟨rfl, hb1⟩; replace H0 := Lib.hid (below_row hb1 H0.out); replace H1 := Lib.hid (below_row hb1 H1.out); replace HV := Lib.hid (wins_below HV.out hb1); replace hb := hb.trans (hb1.mono hb.size); clear hb1) | (go_at_call 44; refine (HAs.out _ H0.out HV.out).mono ?_; rintro e W1 ⟨rfl, hb1⟩; replace H0 := Lib.hid (below_row hb1 H0.out); replace H1 := Lib.hid (below_row hb1 H1.out); replace HV := Lib.hid (wins_below HV.out hb1); replace hb := hb.trans (hb1.mono hb.size); clear hb1))
  go_ret2
  exact ⟨rfl, hb⟩

set_option maxRecDepth 100000 in
set_option maxHeartbeats 1000000 in
theorem SLightAt_n2 (wd hg : Int) (sv : Value) (ws : List Wn) (iw : I8 wd) (ih : I8 hg) (hwf : ∀ x ∈ ws, WnWf x) (a1 a2 : Int) (ix : I8 a1) (iy : I8 a2) (r : Bool) (w : World) (hws : WinsAt w sv ws)
    (hr : isT wd hg a1 a2 = r) (hc : codeR (okRm wd hg ws) r = 2) :
    Calls Tryd.prog 19 #[.agg (roomC wd hg sv), .agg (tileC a1 a2)] w fun e w' => e = .returned (.tuple #[.float .f32 0, .int .i64 2]) ∧ Below w.heap.size w w' := by
  have HIs := Lib.hid (fun (W : World) (hW : W.heap[w.heap.size]? = some (.cells (roomC wd hg sv) 36 (0, 0))) => l03Is_any wd hg a1 a2 iw ih ix iy sv w.heap.size 36 (0, 0) W hW)
  have HAs := Lib.hid (fun (W : World) (hW : W.heap[w.heap.size]? = some (.cells (roomC wd hg sv) 36 (0, 0))) (hV : WinsAt W sv ws) => l03Asked_any wd hg iw ih sv ws hwf r w.heap.size 36 (0, 0) W hW hV)
  unfold Hid at HIs HAs
  rw [hr] at HIs
  rw [hc] at HAs
  replace HIs := Lib.hid HIs
  replace HAs := Lib.hid HAs
  have HW := Lib.hid hws
  clear hws hr hc hwf iw ih ix iy
  go_enter Tryd.func19, Tryd.ntmps19
  go_upto_region 1 with (fail)
  refine abs_world (fun W => W.heap[w.heap.size]? = some (.cells (roomC wd hg sv) 36 (0, 0)) ∧ W.heap[w.heap.size + 1]? = some (.cells (tileC a1 a2) 31 (0, 0)) ∧ Below w.heap.size w W) (two_at w (.cells (roomC wd hg sv) 36) (.cells (tileC a1 a2) 31)) ?_
  rintro W ⟨h0, h1, hb⟩
  have H0 := Lib.hid h0
  have H1 := Lib.hid h1
  have HV := Lib.hid (wins_below HW.out hb)
  clear h0 h1
  go_wp2_with (first | (refine wpList_load_part rfl 31 _ rfl (w.heap.size + 1) 0 2 rfl 31 (tileC a1 a2) (0, 0) _ H1.out Tryd.underlying31 rfl info_tile (tile_fits _ _) _ (tile_all _ _) ?_) | (go_at_call 54; refine (HIs.out _ H0.out).mono ?_; rintro e W1 ⟨rfl, hb1⟩; replace H0 := Lib.hid (below_row hb1 H0.out); replace H1 := Lib.hid (below_row hb1 H1.out); replace HV := Lib.hid (wins_below HV.out hb1); replace hb := hb.trans (hb1.mono hb.size); clear hb1) | (go_at_call 44; refine (HAs.out _ H0.out HV.out).mono ?_; rintro e W1 ⟨rfl, hb1⟩; replace H0 := Lib.hid (below_row hb1 H0.out); replace H1 := Lib.hid (below_row hb1 H1.out); replace HV := Lib.hid (wins_below HV.out hb1); replace hb := hb.trans (hb1.mono hb.size); clear hb1))
  go_ret2
  exact ⟨rfl, hb⟩

set_option maxRecDepth 100000 in
set_option maxHeartbeats 1000000 in
theorem toTile_any (x y : Int) (w : World) :
    Calls Tryd.prog 20 #[.agg (tileC x y)] w fun e w' => e = .returned (.agg (tileC x y)) ∧ Below w.heap.size w w' := by
  unfold tileC
  go_enter Tryd.func20, Tryd.ntmps20
  go_wp2
  refine bodyPost_ret (v := .agg #[.int .i8 x, .int .i8 y]) (by simp [results, Tryd.results20, go_sem]) rfl ⟨rfl, ?_⟩
  (repeat' first | exact Below.refl _ _ | assumption | refine Below.alloc ?_ (by first | omega | (simp; done) | (simp; omega)) _ | refine Below.setCell ?_ (by first | omega | (simp; done) | (simp; omega)) _ | refine Below.drew ?_)

end Go.Proofs.YtkmjapdikhckeaaDoor
