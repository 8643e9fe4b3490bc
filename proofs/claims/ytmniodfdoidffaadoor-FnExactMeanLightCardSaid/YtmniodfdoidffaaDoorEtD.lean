/-
  The light of all tiles of a room: LightMap, the program and the model.
-/
import Derived.Test.YtmniodfdoidffaaDoorEtC
import Derived.Test.YtmniodfdoidffaaDoorRoomV
import Derived.Test.YtmniodfdoidffaaDoorRoomS
import Derived.Test.YtmniodfdoidffaaDoorCode
import Derived.Test.YtmniodfdoidffaaDoorLightS
namespace Go.Proofs.YtmniodfdoidffaaDoor
open Go.ChangeShapes Go.WideShapes Go.ChangeAt Go.RowKit Go.Deep Go.Joins

attribute [local go_sem] run_store_floatE

theorem results_map {fn : Func} {p u : Tmp} (h : fn.results = #[.cell p 39, .tmp u]) (tmps : Array Value) (w : World) (g : Nat) (xs : List Nat) (hx : xs.length = 100) (hp : tmps.getD p undef = .pointer (some ⟨g, 0, none⟩)) (hg : w.heap[g]? = some (.cells (mpC xs) 39 (0, 0))) :
    (results fn tmps).run Tryd.prog w = .ok (.tuple #[.agg (mpC xs), tmps.getD u undef]) w := by
  have e := run_loadVar_row w g 39 39 (mpC xs) (0, 0) _ hg Tryd.underlying39 rfl (by rw [mpC_size, hx]; exact info_aa)
  have e0 : (results fn tmps).run Tryd.prog w =
      ((asAddr (tmps.getD p undef)).run Tryd.prog w).andThen fun a w₁ => ((loadVar 39 a).run Tryd.prog w₁).andThen fun x w₂ => .ok (.tuple #[x, tmps.getD u undef]) w₂ := by
    simp only [results, h]
    simp [Sem.run_bind, Result.andThen]
  rw [e0, hp]
  simp only [asAddr, Sem.run_pure, Result.andThen_ok, e]

set_option maxRecDepth 100000 in
set_option maxHeartbeats 2000000 in
theorem iMap_n (wd hg : Int) (sv : Value) (ws : List Wn) (e0 e1 e2 e3 : Addr) (w : World) (hws : WinsAt w sv ws) (hE : ErrsAt w e0 e1 e2 e3) (hv : okRm wd hg ws = false) :
    Calls Tryd.prog 28 #[.agg (roomC wd hg sv)] w fun e w' => e = .returned (.tuple #[.agg (mpC zM), .int .i64 1]) ∧ Below w.heap.size w w' := by
  have HVR : Hid (∀ V, WinsAt V sv ws → Calls Tryd.prog 72 #[.agg (roomC wd hg sv)] V fun e w' => e = .returned (.bool false) ∧ Below V.heap.size V w') := Lib.hid (fun V h => by have := ValidRoom_any wd hg sv ws V h; rw [hv] at this; exact this)
  have HRF : Hid (∀ V, ErrsAt V e0 e1 e2 e3 → Calls Tryd.prog 71 #[.bool false, .bool true, .bool true] V fun e w' => e = .returned (.iface 284 (.pointer (some e0))) ∧ V = w') := Lib.hid (fun V h => refusal_any h false true true)
  have HW := Lib.hid hws
  have HX := Lib.hid hE
  have HZB : Hid (Tryd.prog.built 39 [] = some (mpC zM)) := by unfold Hid; kernel_rfl
  have hn := fun w => run_neq_held_nil (P := Tryd.prog) (w := w) 86 284 (.pointer (some e0)) (by kernel_rfl)
  clear hws hE hv
  go_enter Tryd.func28, Tryd.ntmps28
  go_upto_region 1 with (fail)
  refine abs_world (fun V => V.heap[w.heap.size]? = some (.cells (roomC wd hg sv) 44 (0, 0)) ∧ V.heap[w.heap.size + 1]? = some (.cells (mpC zM) 39 (0, 0)) ∧ Below w.heap.size w V) (two_at w (.cells (roomC wd hg sv) 44) (.cells (mpC zM) 39)) ?_
  rintro V ⟨h0, h1, hb⟩
  have H0 := Lib.hid h0
  have H1 := Lib.hid h1
  have HV := Lib.hid (wins_below HW.out hb)
  replace HX := Lib.hid (errs_below HX.out hb)
  have n01 : w.heap.size < w.heap.size + 1 := by omega
  have hle1 : w.heap.size ≤ w.heap.size + 1 := by omega
  generalize w.heap.size + 1 = b1 at *
  clear h0 h1
  go_wp2_with (first | (refine wpList_load_part rfl 44 _ rfl w.heap.size 0 3 rfl 44 (roomC wd hg sv) (0, 0) _ H0.out Tryd.underlying44 rfl info_room (room_fits _ _ _) _ (room_all _ _ _) ?_) | (go_at_call 72; refine (HVR.out _ HV.out).mono ?_; rintro e W1 ⟨rfl, hb1⟩; replace H0 := Lib.hid (below_row hb1 H0.out); replace H1 := Lib.hid (below_row hb1 H1.out); replace HV := Lib.hid (wins_below HV.out hb1); replace HX := Lib.hid (errs_below HX.out hb1); replace hb := hb.trans (hb1.mono hb.size); clear hb1) | (go_at_call 71; refine (HRF.out _ HX.out).mono ?_; rintro e W3 ⟨rfl, rfl⟩) | (go_at_call 73; refine (codeOf_any HX.out 1).mono ?_; rintro e W4 ⟨rfl, rfl⟩) | (refine wpList_buildL rfl 39 _ rfl _ rfl [] rfl (mpC zM) HZB.out ?_) | (refine wpList_store_part rfl 39 _ _ rfl b1 0 (mpC zM) rfl rfl 39 (mpC zM) H1.out (by rw [mpC_size, zM_len]; exact info_aa) (Nat.le_refl _) (mpC_one _) ?_; rw [laid_allwE _ _ (by rfl)]))
  refine bodyPost_ret (results_map rfl _ _ b1 zM zM_len rfl (setRow_heap _ _ _ _ _ _ H1.out)) rfl ?_
  exact ⟨rfl, below_setRow hb hle1 _⟩

set_option maxRecDepth 100000 in
set_option maxHeartbeats 2000000 in
theorem iMap_y (wd hg : Int) (W H : Nat) (hwd : wd = (W : Int)) (hhg : hg = (H : Int)) (hW : 0 < W) (hH : 0 < H) (sv : Value) (ws : List Wn) (hwf : ∀ x ∈ ws, WnWf x) (g : Int × Int → Nat) (hgd : g = fun t => litW (W : Int) (H : Int) t (fun _ => true) ws) (e0 e1 e2 e3 : Addr) (w : World) (hws : WinsAt w sv ws) (hE : ErrsAt w e0 e1 e2 e3) (hv : okRm wd hg ws = true) :
    Calls Tryd.prog 28 #[.agg (roomC wd hg sv)] w fun e w' => e = .returned (.tuple #[.agg (mpC (mpK g W H (W * H))), .int .i64 0]) ∧ Below w.heap.size w w' := by
  have HVR : Hid (∀ V, WinsAt V sv ws → Calls Tryd.prog 72 #[.agg (roomC wd hg sv)] V fun e w' => e = .returned (.bool true) ∧ Below V.heap.size V w') := Lib.hid (fun V h => by have := ValidRoom_any wd hg sv ws V h; rw [hv] at this; exact this)
  have HRF : Hid (∀ V, ErrsAt V e0 e1 e2 e3 → Calls Tryd.prog 71 #[.bool true, .bool true, .bool true] V fun e w' => e = .returned .nilIface ∧ V = w') := Lib.hid (fun V h => refusal_any h true true true)
  have HMO : Hid (∀ V, WinsAt V sv ws → Calls Tryd.prog 74 #[.agg (roomC wd hg sv)] V fun e w' => e = .returned (.agg (mpC (mpK g W H (W * H)))) ∧ Below V.heap.size V w') := by
    have ok := okRm_get hv
    rw [hwd, hhg] at ok
    rw [hwd, hhg]
    exact fun V h => mapOf_any W H hW hH sv ws ok hwf g hgd V h
  have HW := Lib.hid hws
  have HX := Lib.hid hE
  have LM := Lib.hid (mpK_len g W H (W * H))
  have hn := fun w => run_neq_nil_nil (P := Tryd.prog) (w := w) 86 (by kernel_rfl)
  clear hws hE hv hwf hgd hwd hhg
  generalize mpK g W H (W * H) = mp at *
  go_enter Tryd.func28, Tryd.ntmps28
  go_upto_region 1 with (fail)
  refine abs_world (fun V => V.heap[w.heap.size]? = some (.cells (roomC wd hg sv) 44 (0, 0)) ∧ V.heap[w.heap.size + 1]? = some (.cells (mpC zM) 39 (0, 0)) ∧ Below w.heap.size w V) (two_at w (.cells (roomC wd hg sv) 44) (.cells (mpC zM) 39)) ?_
  rintro V ⟨h0, h1, hb⟩
  have H0 := Lib.hid h0
  have H1 := Lib.hid h1
  have HV := Lib.hid (wins_below HW.out hb)
  replace HX := Lib.hid (errs_below HX.out hb)
  have n01 : w.heap.size < w.heap.size + 1 := by omega
  have hle1 : w.heap.size ≤ w.heap.size + 1 := by omega
  generalize w.heap.size + 1 = b1 at *
  clear h0 h1
  go_wp2_with (first | (refine wpList_load_part rfl 44 _ rfl w.heap.size 0 3 rfl 44 (roomC wd hg sv) (0, 0) _ H0.out Tryd.underlying44 rfl info_room (room_fits _ _ _) _ (room_all _ _ _) ?_) | (go_at_call 72; refine (HVR.out _ HV.out).mono ?_; rintro e W1 ⟨rfl, hb1⟩; replace H0 := Lib.hid (below_row hb1 H0.out); replace H1 := Lib.hid (below_row hb1 H1.out); replace HV := Lib.hid (wins_below HV.out hb1); replace HX := Lib.hid (errs_below HX.out hb1); replace hb := hb.trans (hb1.mono hb.size); clear hb1) | (go_at_call 71; refine (HRF.out _ HX.out).mono ?_; rintro e W3 ⟨rfl, rfl⟩) | (go_at_call 74; refine (HMO.out _ HV.out).mono ?_; rintro e W1 ⟨rfl, hb1⟩; replace H0 := Lib.hid (below_row hb1 H0.out); replace H1 := Lib.hid (below_row hb1 H1.out); replace HV := Lib.hid (wins_below HV.out hb1); replace HX := Lib.hid (errs_below HX.out hb1); replace hb := hb.trans (hb1.mono hb.size); clear hb1) | (refine wpList_store_part rfl 39 _ _ rfl b1 0 (mpC mp) rfl rfl 39 (mpC zM) H1.out (by rw [mpC_size, LM.out]; exact info_aa) (by rw [mpC_size, mpC_size, LM.out, zM_len]; decide) (mpC_one _) ?_; rw [laid_allwE _ _ (by rw [mpC_size, mpC_size, LM.out, zM_len])]))
  refine bodyPost_ret (results_map rfl _ _ b1 mp LM.out rfl (setRow_heap _ _ _ _ _ _ H1.out)) rfl ?_
  exact ⟨rfl, below_setRow hb hle1 _⟩

theorem zbelE (V : World) (o : Obj) (cs : Array Value) : Below V.heap.size V ((V.alloc o).setRow V.heap.size cs) := below_setRow ((Below.refl _ _).alloc (Nat.le_refl _) _) (Nat.le_refl _) _

set_option maxRecDepth 100000 in
set_option maxHeartbeats 2000000 in
theorem sMap_n (wd hg : Int) (iw : I8 wd) (ih : I8 hg) (sv : Value) (ws : List Wn) (hwf : ∀ x ∈ ws, WnWf x) (w : World) (hws : WinsAt w sv ws) (hv : okRm wd hg ws = false) :
    Calls Tryd.prog 26 #[.agg (roomC wd hg sv)] w fun e w' => e = .returned (.tuple #[.agg (mpC zM), .int .i64 1]) ∧ Below w.heap.size w w' := by
  have HOK : Hid (∀ V, V.heap[w.heap.size]? = some (.cells (roomC wd hg sv) 44 (0, 0)) → WinsAt V sv ws → Calls Tryd.prog 67 #[.pointer (some ⟨w.heap.size, 0, none⟩)] V fun e w' => e = .returned (.bool false) ∧ Below V.heap.size V w') := Lib.hid (fun V q h => by have := l03Ok_any wd hg iw ih sv ws hwf w.heap.size 44 (0, 0) V q h; rw [hv] at this; exact this)
  have HW := Lib.hid hws
  have HZB : Hid (Tryd.prog.built 39 [] = some (mpC zM)) := by unfold Hid; kernel_rfl
  clear hws hv hwf iw ih
  go_enter Tryd.func26, Tryd.ntmps26
  go_upto_region 1 with (fail)
  refine abs_world (fun V => V.heap[w.heap.size]? = some (.cells (roomC wd hg sv) 44 (0, 0)) ∧ V.heap[w.heap.size + 1]? = some (.cells (mpC zM) 39 (0, 0)) ∧ Below w.heap.size w V) (two_at w (.cells (roomC wd hg sv) 44) (.cells (mpC zM) 39)) ?_
  rintro V ⟨h0, h1, hb⟩
  have H0 := Lib.hid h0
  have H1 := Lib.hid h1
  have HV := Lib.hid (wins_below HW.out hb)
  have n01 : w.heap.size < w.heap.size + 1 := by omega
  have hle1 : w.heap.size ≤ w.heap.size + 1 := by omega
  generalize w.heap.size + 1 = b1 at *
  clear h0 h1
  go_upto_region 2 with (first | (refine wpList_buildL rfl 39 _ rfl _ rfl [] rfl (mpC zM) HZB.out ?_) | (refine wpList_store_part rfl 39 _ _ rfl _ 0 (mpC zM) rfl rfl 39 _ (heap_alloc_new _ _) (by rw [mpC_size, zM_len]; exact info_aa) (by rw [mpC_size, zM_len]; decide) (mpC_one _) ?_; rw [laid_allwE _ _ (by rfl)]))
  refine abs_world (fun X => X.heap[w.heap.size]? = some (.cells (roomC wd hg sv) 44 (0, 0)) ∧ X.heap[b1]? = some (.cells (mpC zM) 39 (0, 0)) ∧ X.heap[V.heap.size]? = some (.cells (mpC zM) 39 (0, 0)) ∧ Below w.heap.size w X) ⟨below_row (zbelE _ _ _) H0.out, below_row (zbelE _ _ _) H1.out, setRow_heap _ _ _ _ _ _ (heap_alloc_new _ _), below_setRow (hb.alloc hb.size _) hb.size _⟩ ?_
  have hb12 := row_lt H1.out
  have hle2 := hb.size
  clear H0 H1 HV hb
  generalize V.heap.size = b2 at *
  rintro V ⟨h0, h1, h2, hb⟩
  have H0 := Lib.hid h0
  have H1 := Lib.hid h1
  have H2 := Lib.hid h2
  have HV := Lib.hid (wins_below HW.out hb)
  clear h0 h1 h2
  go_wp2_with (first | (go_at_call 67; refine (HOK.out _ H0.out HV.out).mono ?_; rintro e W1 ⟨rfl, hb1⟩; replace H2 := Lib.hid (below_row hb1 H2.out); replace H0 := Lib.hid (below_row hb1 H0.out); replace H1 := Lib.hid (below_row hb1 H1.out); replace HV := Lib.hid (wins_below HV.out hb1); replace hb := hb.trans (hb1.mono hb.size); clear hb1) | (refine wpList_load_part rfl 39 _ rfl b2 0 100 rfl 39 (mpC zM) (0, 0) _ H2.out Tryd.underlying39 rfl info_aa (by rw [mpC_size, zM_len]; decide) (mpC zM) (mpC_all _ 100 zM_len) ?_) | (refine wpList_store_part rfl 39 _ _ rfl b1 0 (mpC zM) rfl rfl 39 (mpC zM) H1.out (by rw [mpC_size, zM_len]; exact info_aa) (Nat.le_refl _) (mpC_one _) ?_; rw [laid_allwE _ _ (by rfl)]))
  refine bodyPost_ret (results_map rfl _ _ b1 zM zM_len rfl (setRow_heap _ _ _ _ _ _ H1.out)) rfl ?_
  exact ⟨rfl, below_setRow hb hle1 _⟩

end Go.Proofs.YtmniodfdoidffaaDoor
