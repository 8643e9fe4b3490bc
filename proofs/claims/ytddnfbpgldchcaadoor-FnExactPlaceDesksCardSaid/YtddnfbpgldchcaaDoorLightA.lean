/-
  The light of a tile: the program's contract.
-/
import Derived.Test.YtddnfbpgldchcaaDoorLightF
import Derived.Shelf.Abstract
namespace Go.Proofs.YtddnfbpgldchcaaDoor
open Go.RowKit

attribute [local go_sem] run_store_f

set_option maxRecDepth 100000 in
set_option maxHeartbeats 1000000 in
theorem allFn_any (x : Wn) (p q : Int) (w : World) : Calls Tryd.prog 57 #[.agg (winC x), .agg (tileC p q)] w fun e w' => e = .returned (.bool true) ∧ Below w.heap.size w w' := by
  go_enter Tryd.func57, Tryd.ntmps57
  go_wp2
  go_ret
  exact ⟨rfl, by repeat' first | exact Below.refl _ _ | assumption | refine Below.alloc ?_ (by first | omega | (simp; done) | (simp; omega)) _ | refine Below.setCell ?_ (by first | omega | (simp; done) | (simp; omega)) _ | refine Below.drew ?_⟩

set_option maxRecDepth 100000 in
set_option maxHeartbeats 1000000 in
theorem lightAt_any (wd hg : Int) (sv : Value) (ws : List Wn) (ok : RmOk wd hg ws) (hwf : ∀ x ∈ ws, WnWf x) (a1 a2 : Int) (ha : inRoom wd hg (a1, a2)) (w : World) (hws : WinsAt w sv ws) :
    Calls Tryd.prog 52 #[.agg (roomC wd hg sv), .agg (tileC a1 a2)] w fun e w' => e = .returned (.float .f32 (litW wd hg (a1, a2) (fun _ => true) ws)) ∧ Below w.heap.size w w' := by
  have HL := Lib.hid (fun (W : World) (hW : WinsAt W sv ws) => lightFrom_any wd hg sv ws ok hwf a1 a2 ha 57 (enters_of Tryd.func57 (by kernel_rfl) rfl) #[] (fun _ => true) (fun _ => True) W hW (fun _ _ => trivial) (fun x V _ _ => allFn_any x _ _ V))
  have HW := Lib.hid hws
  clear hws ok hwf ha
  go_enter Tryd.func52, Tryd.ntmps52
  go_upto_region 1 with (fail)
  refine abs_world (fun W => W.heap[w.heap.size]? = some (.cells (roomC wd hg sv) 33 (0, 0)) ∧ W.heap[w.heap.size + 1]? = some (.cells (tileC a1 a2) 48 (0, 0)) ∧ Below w.heap.size w W) (two_at w (.cells (roomC wd hg sv) 33) (.cells (tileC a1 a2) 48)) ?_
  rintro W ⟨h0, h1, hb⟩
  have H0 := Lib.hid h0
  have H1 := Lib.hid h1
  have HV := Lib.hid (wins_below HW.out hb)
  clear h0 h1
  go_wp2_with (first | (refine wpList_load_part rfl 33 _ rfl w.heap.size 0 3 rfl 33 (roomC wd hg sv) (0, 0) _ H0.out Tryd.underlying33 rfl info_room (room_fits _ _ _) _ (room_all _ _ _) ?_) | (refine wpList_load_part rfl 48 _ rfl (w.heap.size + 1) 0 2 rfl 48 (tileC a1 a2) (0, 0) _ H1.out Tryd.underlying48 rfl info_tile (tile_fits _ _) _ (tile_all _ _) ?_) | (go_at_call 56; refine (HL.out _ HV.out).mono ?_; rintro e W1 ⟨rfl, hb1⟩))
  go_ret
  exact ⟨rfl, hb.trans (hb1.mono hb.size)⟩

end Go.Proofs.YtddnfbpgldchcaaDoor
