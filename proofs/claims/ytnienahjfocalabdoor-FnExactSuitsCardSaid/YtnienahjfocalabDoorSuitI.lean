/-
  Suits: the program and the model.
-/
import Derived.Test.YtnienahjfocalabDoorSuitS
import Derived.Test.YtnienahjfocalabDoorCode
import Derived.Test.YtnienahjfocalabDoorValidPerson
namespace Go.Proofs.YtnienahjfocalabDoor
open Go.RowKit

attribute [local go_sem] run_store_f

theorem built_pers (l m g : Nat) : Tryd.prog.builtSlice 71 1 [(0, .agg (persC l m g))] = some (persC l m g) := by kernel_rfl
theorem wpList_buildSliceL {P : Program} {ops : Array Oper} {rest : List Oper} {o : Oper} {a : Act} {w : World} {Q : Exit → Act → World → Prop} (hg : o.guard = none) (t e : TypeId) (len : Nat) (parts : Array (Nat × Operand)) (ho : o.op = .buildSlice t len parts)
    (N : Nat) (hN : w.heap.size = N) (dst : Option Tmp) (hdst : o.dst = dst) (hu : P.underlying t = some (.slice e)) (cells : Array Value) (q : List (Nat × Value)) (hp : parts.toList.map (fun x => (x.1, a.eval x.2)) = q)
    (hf : P.builtSlice e len q = some cells)
    (h : wpList P ops Q rest (a.put dst (.slice (some ⟨N, 0, none⟩) len len)) (w.alloc (.cells cells e))) : wpList P ops Q (o :: rest) a w := by
  refine Great.wpList_buildSliceTo hg t e len parts ho N hN dst hdst hu cells ?_ h
  rw [Array.toList_map, ← hf, ← hp]
theorem suN_ne (b : Bool) : (suN b != 0) = b := by cases b <;> rfl

set_option maxRecDepth 100000 in
set_option maxHeartbeats 1000000 in
theorem Suits_a (wd hg : Int) (sv : Value) (ws : List Wn) (a1 a2 a3 : Int) (l m g : Nat) (r : Bool) (hv : okRm wd hg ws = false) (hr : isD wd hg a1 a2 a3 = r) (hc : refN false r true = 1) (e0 e1 e2 e3 : Addr) (w : World) (hws : WinsAt w sv ws) (hE : ErrsAt w e0 e1 e2 e3) :
    Calls Tryd.prog 29 #[.agg (roomC wd hg sv), .agg (deskC a1 a2 a3), .agg (persC l m g)] w fun e w' => e = .returned (.tuple #[.bool false, .int .i64 1]) ∧ Below w.heap.size w w' := by
  have HVR := Lib.hid (fun W (h : WinsAt W sv ws) => ValidRoom_any wd hg sv ws W h)
  have HDk := Lib.hid (fun W => isDesk_any wd hg a1 a2 a3 sv W)
  rw [hv] at HVR
  rw [hr] at HDk
  have HC := Lib.hid hc
  have HV := Lib.hid hws
  have HX := Lib.hid hE
  clear hE
  clear hv hr hc hws 
  go_enter Tryd.func29, Tryd.ntmps29
  go_upto_region 1 with (fail)
  refine abs_world (fun W => W.heap[w.heap.size]? = some (.cells (roomC wd hg sv) 48 (0, 0)) ∧ W.heap[w.heap.size + 1]? = some (.cells (deskC a1 a2 a3) 69 (0, 0)) ∧ W.heap[w.heap.size + 1 + 1]? = some (.cells (persC l m g) 71 (0, 0)) ∧ Below w.heap.size w W) (box3 w (.cells (roomC wd hg sv) 48) (.cells (deskC a1 a2 a3) 69) (.cells (persC l m g) 71)) ?_
  rintro W ⟨h0, h1, h2, hb⟩
  generalize w.heap.size + 1 + 1 = b2 at *
  generalize w.heap.size + 1 = b1 at *
  have H0 := Lib.hid h0
  have H1 := Lib.hid h1
  have H2 := Lib.hid h2
  replace HV := Lib.hid (wins_below HV.out hb)
  replace HX := Lib.hid (errs_below HX.out hb)
  clear h0 h1 h2
  refine wp_region_held_drew (S := (fun V => Below W.heap.size W V)) (by kernel_rfl) ((Below.refl _ _).drew) (fun hHeld => ?_)
  refine take_op (i := 0) (d := 9) (v := .agg (roomC wd hg sv)) rfl rfl (by kernel_rfl) (by kernel_rfl) (by kernel_rfl) (fun _ _ _ h => h) (yields_row (by rfl) 48 (.tmp 3) (by rfl) w.heap.size 0 3 (by rfl) 48 (roomC wd hg sv) (0, 0) _ (fun _ h => below_row h H0.out) Tryd.underlying48 rfl info_room (room_fits _ _ _) (roomC wd hg sv) (room_all _ _ _)) hHeld ?_
  simp only [List.setIfInBounds_toArray, List.set_cons_zero, List.set_cons_succ]
  refine take_op (i := 6) (d := 15) (v := .agg (roomC wd hg sv)) rfl rfl (by kernel_rfl) (by kernel_rfl) (by kernel_rfl) (fun _ _ _ h => h) (yields_row (by rfl) 48 (.tmp 3) (by rfl) w.heap.size 0 3 (by rfl) 48 (roomC wd hg sv) (0, 0) _ (fun _ h => below_row h H0.out) Tryd.underlying48 rfl info_room (room_fits _ _ _) (roomC wd hg sv) (room_all _ _ _)) hHeld ?_
  simp only [List.setIfInBounds_toArray, List.set_cons_zero, List.set_cons_succ]
  refine take_op (i := 7) (d := 16) (v := .agg (deskC a1 a2 a3)) rfl rfl (by kernel_rfl) (by kernel_rfl) (by kernel_rfl) (fun _ _ _ h => h) (yields_row (by rfl) 69 (.tmp 4) (by rfl) b1 0 3 (by rfl) 69 (deskC a1 a2 a3) (0, 0) _ (fun _ h => below_row h H1.out) Tryd.underlying69 rfl info_desk (desk_fits _ _ _) (deskC a1 a2 a3) (desk_all _ _ _)) hHeld ?_
  simp only [List.setIfInBounds_toArray, List.set_cons_zero, List.set_cons_succ]
  refine wpAnyH_ready (rs := [1]) (by kernel_rfl) (by simp) ?_
  refine AllReadyH.cons rfl (fun K hK => ?_) AllReadyH.nil
  go_simp
  refine (HVR.out _ (wins_below HV.out hHeld)).mono ?_
  rintro e W1 ⟨rfl, hb1⟩
  refine hK.out _ _ (hHeld.trans (hb1.mono hHeld.size)) (fun hHeld2 => ?_)
  clear hK K
  replace hHeld := hHeld2
  clear hHeld2
  clear hb1
  refine take_op (i := 2) (d := 11) (v := ?_) rfl rfl (by kernel_rfl) (by kernel_rfl) (by kernel_rfl) (fun _ _ _ h => h) (Or.inl ⟨by rfl, ?hy2u346⟩) hHeld ?rest2u346
  case hy2u346 =>
    intro w' hS'
    go_simp
    try with_reducible rfl
  simp only [List.setIfInBounds_toArray, List.set_cons_zero, List.set_cons_succ]
  refine take_op (i := 3) (d := 12) rfl rfl (by kernel_rfl) (by kernel_rfl) (by kernel_rfl) (fun _ _ _ h => h) (Or.inr ⟨by rfl, rfl⟩) hHeld ?_
  simp only [List.setIfInBounds_toArray, List.set_cons_zero, List.set_cons_succ]
  refine take_op (i := 4) (d := 13) rfl rfl (by kernel_rfl) (by kernel_rfl) (by kernel_rfl) (fun _ _ _ h => h) (Or.inr ⟨by rfl, rfl⟩) hHeld ?_
  simp only [List.setIfInBounds_toArray, List.set_cons_zero, List.set_cons_succ]
  refine take_op (i := 5) (d := 14) (v := ?_) rfl rfl (by kernel_rfl) (by kernel_rfl) (by kernel_rfl) (fun _ _ _ h => h) (Or.inl ⟨by rfl, ?hy5u347⟩) hHeld ?rest5u347
  case hy5u347 =>
    intro w' hS'
    go_simp
    try with_reducible rfl
  simp only [List.setIfInBounds_toArray, List.set_cons_zero, List.set_cons_succ]
  refine wpAnyH_ready (rs := [8]) (by kernel_rfl) (by simp) ?_
  refine AllReadyH.cons rfl (fun K hK => ?_) AllReadyH.nil
  go_simp
  refine (HDk.out _).mono ?_
  rintro e W2 ⟨rfl, hb2⟩
  refine hK.out _ _ (hHeld.trans (hb2.mono hHeld.size)) (fun hHeld2 => ?_)
  clear hK K
  replace hHeld := hHeld2
  clear hHeld2
  clear hb2
  refine wpAnyH_ready (rs := [9]) (by kernel_rfl) (by simp) ?_
  refine AllReadyH.cons rfl (fun K hK => ?_) AllReadyH.nil
  go_simp
  refine (refusal_any (errs_below HX.out hHeld) _ _ _).mono ?_
  rintro e w3 ⟨rfl, rfl⟩
  refine hK.out _ _ (hHeld) (fun hHeld2 => ?_)
  clear hK K
  replace hHeld := hHeld2
  clear hHeld2
  refine take_op (i := 10) (d := 8) (v := ?_) rfl rfl (by kernel_rfl) (by kernel_rfl) (by kernel_rfl) (fun _ _ _ h => h) (Or.inl ⟨by rfl, ?hy10u348⟩) hHeld ?rest10u348
  case hy10u348 =>
    intro w' hS'
    go_simp
    try with_reducible rfl
  simp only [List.setIfInBounds_toArray, List.set_cons_zero, List.set_cons_succ]
  refine wpAnyH_done (by kernel_rfl) ?_ _
  replace H0 := Lib.hid (below_row hHeld H0.out)
  replace H1 := Lib.hid (below_row hHeld H1.out)
  replace H2 := Lib.hid (below_row hHeld H2.out)
  replace HV := Lib.hid (wins_below HV.out hHeld)
  replace HX := Lib.hid (errs_below HX.out hHeld)
  replace hb := hb.trans (hHeld.mono hb.size)
  clear hHeld
  rw [HC.out]
  dsimp only [errOf, errV]
  have hn := fun w => run_neq_held_nil (P := Tryd.prog) (w := w) 102 211 (.pointer (some e0)) (by kernel_rfl)
  go_wp2_with (go_at_call 52; refine (codeOf_any HX.out 1).mono ?_; rintro e W4 ⟨rfl, rfl⟩)
  go_ret2
  exact ⟨rfl, hb⟩

set_option maxRecDepth 100000 in
set_option maxHeartbeats 1000000 in
theorem Suits_b (wd hg : Int) (sv : Value) (ws : List Wn) (a1 a2 a3 : Int) (l m g : Nat) (p : Bool) (hp : okPe l m g = p) (r : Bool) (hv : okRm wd hg ws = true) (hr : isD wd hg a1 a2 a3 = r) (hc : refN p r true = 1) (e0 e1 e2 e3 : Addr) (w : World) (hws : WinsAt w sv ws) (hE : ErrsAt w e0 e1 e2 e3) :
    Calls Tryd.prog 29 #[.agg (roomC wd hg sv), .agg (deskC a1 a2 a3), .agg (persC l m g)] w fun e w' => e = .returned (.tuple #[.bool false, .int .i64 1]) ∧ Below w.heap.size w w' := by
  have HVR := Lib.hid (fun W (h : WinsAt W sv ws) => ValidRoom_any wd hg sv ws W h)
  have HDk := Lib.hid (fun W => isDesk_any wd hg a1 a2 a3 sv W)
  rw [hv] at HVR
  rw [hr] at HDk
  have HPe := Lib.hid (fun W => implValidPerson_any l m g W)
  rw [hp] at HPe
  have HC := Lib.hid hc
  have HV := Lib.hid hws
  have HX := Lib.hid hE
  clear hE
  clear hv hr hc hws hp
  go_enter Tryd.func29, Tryd.ntmps29
  go_upto_region 1 with (fail)
  refine abs_world (fun W => W.heap[w.heap.size]? = some (.cells (roomC wd hg sv) 48 (0, 0)) ∧ W.heap[w.heap.size + 1]? = some (.cells (deskC a1 a2 a3) 69 (0, 0)) ∧ W.heap[w.heap.size + 1 + 1]? = some (.cells (persC l m g) 71 (0, 0)) ∧ Below w.heap.size w W) (box3 w (.cells (roomC wd hg sv) 48) (.cells (deskC a1 a2 a3) 69) (.cells (persC l m g) 71)) ?_
  rintro W ⟨h0, h1, h2, hb⟩
  generalize w.heap.size + 1 + 1 = b2 at *
  generalize w.heap.size + 1 = b1 at *
  have H0 := Lib.hid h0
  have H1 := Lib.hid h1
  have H2 := Lib.hid h2
  replace HV := Lib.hid (wins_below HV.out hb)
  replace HX := Lib.hid (errs_below HX.out hb)
  clear h0 h1 h2
  refine wp_region_held_drew (S := (fun V => Below W.heap.size W V)) (by kernel_rfl) ((Below.refl _ _).drew) (fun hHeld => ?_)
  refine take_op (i := 0) (d := 9) (v := .agg (roomC wd hg sv)) rfl rfl (by kernel_rfl) (by kernel_rfl) (by kernel_rfl) (fun _ _ _ h => h) (yields_row (by rfl) 48 (.tmp 3) (by rfl) w.heap.size 0 3 (by rfl) 48 (roomC wd hg sv) (0, 0) _ (fun _ h => below_row h H0.out) Tryd.underlying48 rfl info_room (room_fits _ _ _) (roomC wd hg sv) (room_all _ _ _)) hHeld ?_
  simp only [List.setIfInBounds_toArray, List.set_cons_zero, List.set_cons_succ]
  refine take_op (i := 6) (d := 15) (v := .agg (roomC wd hg sv)) rfl rfl (by kernel_rfl) (by kernel_rfl) (by kernel_rfl) (fun _ _ _ h => h) (yields_row (by rfl) 48 (.tmp 3) (by rfl) w.heap.size 0 3 (by rfl) 48 (roomC wd hg sv) (0, 0) _ (fun _ h => below_row h H0.out) Tryd.underlying48 rfl info_room (room_fits _ _ _) (roomC wd hg sv) (room_all _ _ _)) hHeld ?_
  simp only [List.setIfInBounds_toArray, List.set_cons_zero, List.set_cons_succ]
  refine take_op (i := 7) (d := 16) (v := .agg (deskC a1 a2 a3)) rfl rfl (by kernel_rfl) (by kernel_rfl) (by kernel_rfl) (fun _ _ _ h => h) (yields_row (by rfl) 69 (.tmp 4) (by rfl) b1 0 3 (by rfl) 69 (deskC a1 a2 a3) (0, 0) _ (fun _ h => below_row h H1.out) Tryd.underlying69 rfl info_desk (desk_fits _ _ _) (deskC a1 a2 a3) (desk_all _ _ _)) hHeld ?_
  simp only [List.setIfInBounds_toArray, List.set_cons_zero, List.set_cons_succ]
  refine wpAnyH_ready (rs := [1]) (by kernel_rfl) (by simp) ?_
  refine AllReadyH.cons rfl (fun K hK => ?_) AllReadyH.nil
  go_simp
  refine (HVR.out _ (wins_below HV.out hHeld)).mono ?_
  rintro e W1 ⟨rfl, hb1⟩
  refine hK.out _ _ (hHeld.trans (hb1.mono hHeld.size)) (fun hHeld2 => ?_)
  clear hK K
  replace hHeld := hHeld2
  clear hHeld2
  clear hb1
  refine take_op (i := 2) (d := 11) (v := ?_) rfl rfl (by kernel_rfl) (by kernel_rfl) (by kernel_rfl) (fun _ _ _ h => h) (Or.inl ⟨by rfl, ?hy2u349⟩) hHeld ?rest2u349
  case hy2u349 =>
    intro w' hS'
    go_simp
    try with_reducible rfl
  simp only [List.setIfInBounds_toArray, List.set_cons_zero, List.set_cons_succ]
  refine take_op (i := 3) (d := 12) (v := .agg (persC l m g)) rfl rfl (by kernel_rfl) (by kernel_rfl) (by kernel_rfl) (fun _ _ _ h => h) (yields_row (by rfl) 71 (.tmp 5) (by rfl) b2 0 3 (by rfl) 71 (persC l m g) (0, 0) _ (fun _ h => below_row h H2.out) Tryd.underlying71 rfl info_pers (pers_fits _ _ _) (persC l m g) (pers_all _ _ _)) hHeld ?_
  simp only [List.setIfInBounds_toArray, List.set_cons_zero, List.set_cons_succ]
  refine wpAnyH_ready (rs := [4]) (by kernel_rfl) (by simp) ?_
  refine AllReadyH.cons rfl (fun K hK => ?_) AllReadyH.nil
  go_simp
  refine (HPe.out _).mono ?_
  rintro e W2 ⟨rfl, hb2⟩
  refine hK.out _ _ (hHeld.trans (hb2.mono hHeld.size)) (fun hHeld2 => ?_)
  clear hK K
  replace hHeld := hHeld2
  clear hHeld2
  clear hb2
  refine take_op (i := 5) (d := 14) (v := ?_) rfl rfl (by kernel_rfl) (by kernel_rfl) (by kernel_rfl) (fun _ _ _ h => h) (Or.inl ⟨by rfl, ?hy5u350⟩) hHeld ?rest5u350
  case hy5u350 =>
    intro w' hS'
    go_simp
    try with_reducible rfl
  simp only [List.setIfInBounds_toArray, List.set_cons_zero, List.set_cons_succ]
  refine wpAnyH_ready (rs := [8]) (by kernel_rfl) (by simp) ?_
  refine AllReadyH.cons rfl (fun K hK => ?_) AllReadyH.nil
  go_simp
  refine (HDk.out _).mono ?_
  rintro e W3 ⟨rfl, hb3⟩
  refine hK.out _ _ (hHeld.trans (hb3.mono hHeld.size)) (fun hHeld2 => ?_)
  clear hK K
  replace hHeld := hHeld2
  clear hHeld2
  clear hb3
  refine wpAnyH_ready (rs := [9]) (by kernel_rfl) (by simp) ?_
  refine AllReadyH.cons rfl (fun K hK => ?_) AllReadyH.nil
  go_simp
  refine (refusal_any (errs_below HX.out hHeld) _ _ _).mono ?_
  rintro e w4 ⟨rfl, rfl⟩
  refine hK.out _ _ (hHeld) (fun hHeld2 => ?_)
  clear hK K
  replace hHeld := hHeld2
  clear hHeld2
  refine take_op (i := 10) (d := 8) (v := ?_) rfl rfl (by kernel_rfl) (by kernel_rfl) (by kernel_rfl) (fun _ _ _ h => h) (Or.inl ⟨by rfl, ?hy10u351⟩) hHeld ?rest10u351
  case hy10u351 =>
    intro w' hS'
    go_simp
    try with_reducible rfl
  simp only [List.setIfInBounds_toArray, List.set_cons_zero, List.set_cons_succ]
  refine wpAnyH_done (by kernel_rfl) ?_ _
  replace H0 := Lib.hid (below_row hHeld H0.out)
  replace H1 := Lib.hid (below_row hHeld H1.out)
  replace H2 := Lib.hid (below_row hHeld H2.out)
  replace HV := Lib.hid (wins_below HV.out hHeld)
  replace HX := Lib.hid (errs_below HX.out hHeld)
  replace hb := hb.trans (hHeld.mono hb.size)
  clear hHeld
  rw [HC.out]
  dsimp only [errOf, errV]
  have hn := fun w => run_neq_held_nil (P := Tryd.prog) (w := w) 102 211 (.pointer (some e0)) (by kernel_rfl)
  go_wp2_with (go_at_call 52; refine (codeOf_any HX.out 1).mono ?_; rintro e W4 ⟨rfl, rfl⟩)
  go_ret2
  exact ⟨rfl, hb⟩

set_option maxRecDepth 100000 in
set_option maxHeartbeats 1000000 in
theorem Suits_c (wd hg : Int) (sv : Value) (ws : List Wn) (a1 a2 a3 : Int) (l m g : Nat) (p : Bool) (hp : okPe l m g = p) (r : Bool) (hv : okRm wd hg ws = true) (hr : isD wd hg a1 a2 a3 = r) (hc : refN p r true = 2) (e0 e1 e2 e3 : Addr) (w : World) (hws : WinsAt w sv ws) (hE : ErrsAt w e0 e1 e2 e3) :
    Calls Tryd.prog 29 #[.agg (roomC wd hg sv), .agg (deskC a1 a2 a3), .agg (persC l m g)] w fun e w' => e = .returned (.tuple #[.bool false, .int .i64 2]) ∧ Below w.heap.size w w' := by
  have HVR := Lib.hid (fun W (h : WinsAt W sv ws) => ValidRoom_any wd hg sv ws W h)
  have HDk := Lib.hid (fun W => isDesk_any wd hg a1 a2 a3 sv W)
  rw [hv] at HVR
  rw [hr] at HDk
  have HPe := Lib.hid (fun W => implValidPerson_any l m g W)
  rw [hp] at HPe
  have HC := Lib.hid hc
  have HV := Lib.hid hws
  have HX := Lib.hid hE
  clear hE
  clear hv hr hc hws hp
  go_enter Tryd.func29, Tryd.ntmps29
  go_upto_region 1 with (fail)
  refine abs_world (fun W => W.heap[w.heap.size]? = some (.cells (roomC wd hg sv) 48 (0, 0)) ∧ W.heap[w.heap.size + 1]? = some (.cells (deskC a1 a2 a3) 69 (0, 0)) ∧ W.heap[w.heap.size + 1 + 1]? = some (.cells (persC l m g) 71 (0, 0)) ∧ Below w.heap.size w W) (box3 w (.cells (roomC wd hg sv) 48) (.cells (deskC a1 a2 a3) 69) (.cells (persC l m g) 71)) ?_
  rintro W ⟨h0, h1, h2, hb⟩
  generalize w.heap.size + 1 + 1 = b2 at *
  generalize w.heap.size + 1 = b1 at *
  have H0 := Lib.hid h0
  have H1 := Lib.hid h1
  have H2 := Lib.hid h2
  replace HV := Lib.hid (wins_below HV.out hb)
  replace HX := Lib.hid (errs_below HX.out hb)
  clear h0 h1 h2
  refine wp_region_held_drew (S := (fun V => Below W.heap.size W V)) (by kernel_rfl) ((Below.refl _ _).drew) (fun hHeld => ?_)
  refine take_op (i := 0) (d := 9) (v := .agg (roomC wd hg sv)) rfl rfl (by kernel_rfl) (by kernel_rfl) (by kernel_rfl) (fun _ _ _ h => h) (yields_row (by rfl) 48 (.tmp 3) (by rfl) w.heap.size 0 3 (by rfl) 48 (roomC wd hg sv) (0, 0) _ (fun _ h => below_row h H0.out) Tryd.underlying48 rfl info_room (room_fits _ _ _) (roomC wd hg sv) (room_all _ _ _)) hHeld ?_
  simp only [List.setIfInBounds_toArray, List.set_cons_zero, List.set_cons_succ]
  refine take_op (i := 6) (d := 15) (v := .agg (roomC wd hg sv)) rfl rfl (by kernel_rfl) (by kernel_rfl) (by kernel_rfl) (fun _ _ _ h => h) (yields_row (by rfl) 48 (.tmp 3) (by rfl) w.heap.size 0 3 (by rfl) 48 (roomC wd hg sv) (0, 0) _ (fun _ h => below_row h H0.out) Tryd.underlying48 rfl info_room (room_fits _ _ _) (roomC wd hg sv) (room_all _ _ _)) hHeld ?_
  simp only [List.setIfInBounds_toArray, List.set_cons_zero, List.set_cons_succ]
  refine take_op (i := 7) (d := 16) (v := .agg (deskC a1 a2 a3)) rfl rfl (by kernel_rfl) (by kernel_rfl) (by kernel_rfl) (fun _ _ _ h => h) (yields_row (by rfl) 69 (.tmp 4) (by rfl) b1 0 3 (by rfl) 69 (deskC a1 a2 a3) (0, 0) _ (fun _ h => below_row h H1.out) Tryd.underlying69 rfl info_desk (desk_fits _ _ _) (deskC a1 a2 a3) (desk_all _ _ _)) hHeld ?_
  simp only [List.setIfInBounds_toArray, List.set_cons_zero, List.set_cons_succ]
  refine wpAnyH_ready (rs := [1]) (by kernel_rfl) (by simp) ?_
  refine AllReadyH.cons rfl (fun K hK => ?_) AllReadyH.nil
  go_simp
  refine (HVR.out _ (wins_below HV.out hHeld)).mono ?_
  rintro e W1 ⟨rfl, hb1⟩
  refine hK.out _ _ (hHeld.trans (hb1.mono hHeld.size)) (fun hHeld2 => ?_)
  clear hK K
  replace hHeld := hHeld2
  clear hHeld2
  clear hb1
  refine take_op (i := 2) (d := 11) (v := ?_) rfl rfl (by kernel_rfl) (by kernel_rfl) (by kernel_rfl) (fun _ _ _ h => h) (Or.inl ⟨by rfl, ?hy2u352⟩) hHeld ?rest2u352
  case hy2u352 =>
    intro w' hS'
    go_simp
    try with_reducible rfl
  simp only [List.setIfInBounds_toArray, List.set_cons_zero, List.set_cons_succ]
  refine take_op (i := 3) (d := 12) (v := .agg (persC l m g)) rfl rfl (by kernel_rfl) (by kernel_rfl) (by kernel_rfl) (fun _ _ _ h => h) (yields_row (by rfl) 71 (.tmp 5) (by rfl) b2 0 3 (by rfl) 71 (persC l m g) (0, 0) _ (fun _ h => below_row h H2.out) Tryd.underlying71 rfl info_pers (pers_fits _ _ _) (persC l m g) (pers_all _ _ _)) hHeld ?_
  simp only [List.setIfInBounds_toArray, List.set_cons_zero, List.set_cons_succ]
  refine wpAnyH_ready (rs := [4]) (by kernel_rfl) (by simp) ?_
  refine AllReadyH.cons rfl (fun K hK => ?_) AllReadyH.nil
  go_simp
  refine (HPe.out _).mono ?_
  rintro e W2 ⟨rfl, hb2⟩
  refine hK.out _ _ (hHeld.trans (hb2.mono hHeld.size)) (fun hHeld2 => ?_)
  clear hK K
  replace hHeld := hHeld2
  clear hHeld2
  clear hb2
  refine take_op (i := 5) (d := 14) (v := ?_) rfl rfl (by kernel_rfl) (by kernel_rfl) (by kernel_rfl) (fun _ _ _ h => h) (Or.inl ⟨by rfl, ?hy5u353⟩) hHeld ?rest5u353
  case hy5u353 =>
    intro w' hS'
    go_simp
    try with_reducible rfl
  simp only [List.setIfInBounds_toArray, List.set_cons_zero, List.set_cons_succ]
  refine wpAnyH_ready (rs := [8]) (by kernel_rfl) (by simp) ?_
  refine AllReadyH.cons rfl (fun K hK => ?_) AllReadyH.nil
  go_simp
  refine (HDk.out _).mono ?_
  rintro e W3 ⟨rfl, hb3⟩
  refine hK.out _ _ (hHeld.trans (hb3.mono hHeld.size)) (fun hHeld2 => ?_)
  clear hK K
  replace hHeld := hHeld2
  clear hHeld2
  clear hb3
  refine wpAnyH_ready (rs := [9]) (by kernel_rfl) (by simp) ?_
  refine AllReadyH.cons rfl (fun K hK => ?_) AllReadyH.nil
  go_simp
  refine (refusal_any (errs_below HX.out hHeld) _ _ _).mono ?_
  rintro e w4 ⟨rfl, rfl⟩
  refine hK.out _ _ (hHeld) (fun hHeld2 => ?_)
  clear hK K
  replace hHeld := hHeld2
  clear hHeld2
  refine take_op (i := 10) (d := 8) (v := ?_) rfl rfl (by kernel_rfl) (by kernel_rfl) (by kernel_rfl) (fun _ _ _ h => h) (Or.inl ⟨by rfl, ?hy10u354⟩) hHeld ?rest10u354
  case hy10u354 =>
    intro w' hS'
    go_simp
    try with_reducible rfl
  simp only [List.setIfInBounds_toArray, List.set_cons_zero, List.set_cons_succ]
  refine wpAnyH_done (by kernel_rfl) ?_ _
  replace H0 := Lib.hid (below_row hHeld H0.out)
  replace H1 := Lib.hid (below_row hHeld H1.out)
  replace H2 := Lib.hid (below_row hHeld H2.out)
  replace HV := Lib.hid (wins_below HV.out hHeld)
  replace HX := Lib.hid (errs_below HX.out hHeld)
  replace hb := hb.trans (hHeld.mono hb.size)
  clear hHeld
  rw [HC.out]
  dsimp only [errOf, errV]
  have hn := fun w => run_neq_held_nil (P := Tryd.prog) (w := w) 102 211 (.pointer (some e1)) (by kernel_rfl)
  go_wp2_with (go_at_call 52; refine (codeOf_any HX.out 2).mono ?_; rintro e W4 ⟨rfl, rfl⟩)
  go_ret2
  exact ⟨rfl, hb⟩

set_option maxRecDepth 100000 in
set_option maxHeartbeats 1000000 in
theorem Suits_y (wd hg : Int) (sv : Value) (ws : List Wn) (a1 a2 a3 : Int) (l m g : Nat) (ok : RmOk wd hg ws) (hwf : ∀ x ∈ ws, WnWf x) (ha : inRoom wd hg (a1, a2)) (l0 : 0 ≤ a3) (l3 : a3 ≤ 3) (p : Bool) (hp : okPe l m g = p) (r : Bool) (hv : okRm wd hg ws = true) (hr : isD wd hg a1 a2 a3 = r) (hc : refN p r true = 0) (e0 e1 e2 e3 : Addr) (w : World) (hws : WinsAt w sv ws) (hE : ErrsAt w e0 e1 e2 e3) :
    Calls Tryd.prog 29 #[.agg (roomC wd hg sv), .agg (deskC a1 a2 a3), .agg (persC l m g)] w fun e w' => e = .returned (.tuple #[.bool (suW wd hg a1 a2 a3 ws l m g), .int .i64 0]) ∧ Below w.heap.size w w' := by
  have HVR := Lib.hid (fun W (h : WinsAt W sv ws) => ValidRoom_any wd hg sv ws W h)
  have HDk := Lib.hid (fun W => isDesk_any wd hg a1 a2 a3 sv W)
  rw [hv] at HVR
  rw [hr] at HDk
  have HPe := Lib.hid (fun W => implValidPerson_any l m g W)
  rw [hp] at HPe
  have HSu := Lib.hid (fun pb W (h : WinsAt W sv ws) (h' : W.heap[pb]? = some (.cells (persC l m g) 71 (0, 0))) => suited_one wd hg sv ws ok hwf a1 a2 a3 ha l0 l3 l m g pb W h h')
  have hne := suN_ne (suW wd hg a1 a2 a3 ws l m g)
  generalize suW wd hg a1 a2 a3 ws l m g = res at *
  clear ok hwf ha l0 l3
  have HC := Lib.hid hc
  have HV := Lib.hid hws
  have HX := Lib.hid hE
  clear hE
  clear hv hr hc hws hp
  go_enter Tryd.func29, Tryd.ntmps29
  go_upto_region 1 with (fail)
  refine abs_world (fun W => W.heap[w.heap.size]? = some (.cells (roomC wd hg sv) 48 (0, 0)) ∧ W.heap[w.heap.size + 1]? = some (.cells (deskC a1 a2 a3) 69 (0, 0)) ∧ W.heap[w.heap.size + 1 + 1]? = some (.cells (persC l m g) 71 (0, 0)) ∧ Below w.heap.size w W) (box3 w (.cells (roomC wd hg sv) 48) (.cells (deskC a1 a2 a3) 69) (.cells (persC l m g) 71)) ?_
  rintro W ⟨h0, h1, h2, hb⟩
  generalize w.heap.size + 1 + 1 = b2 at *
  generalize w.heap.size + 1 = b1 at *
  have H0 := Lib.hid h0
  have H1 := Lib.hid h1
  have H2 := Lib.hid h2
  replace HV := Lib.hid (wins_below HV.out hb)
  replace HX := Lib.hid (errs_below HX.out hb)
  clear h0 h1 h2
  refine wp_region_held_drew (S := (fun V => Below W.heap.size W V)) (by kernel_rfl) ((Below.refl _ _).drew) (fun hHeld => ?_)
  refine take_op (i := 0) (d := 9) (v := .agg (roomC wd hg sv)) rfl rfl (by kernel_rfl) (by kernel_rfl) (by kernel_rfl) (fun _ _ _ h => h) (yields_row (by rfl) 48 (.tmp 3) (by rfl) w.heap.size 0 3 (by rfl) 48 (roomC wd hg sv) (0, 0) _ (fun _ h => below_row h H0.out) Tryd.underlying48 rfl info_room (room_fits _ _ _) (roomC wd hg sv) (room_all _ _ _)) hHeld ?_
  simp only [List.setIfInBounds_toArray, List.set_cons_zero, List.set_cons_succ]
  refine take_op (i := 6) (d := 15) (v := .agg (roomC wd hg sv)) rfl rfl (by kernel_rfl) (by kernel_rfl) (by kernel_rfl) (fun _ _ _ h => h) (yields_row (by rfl) 48 (.tmp 3) (by rfl) w.heap.size 0 3 (by rfl) 48 (roomC wd hg sv) (0, 0) _ (fun _ h => below_row h H0.out) Tryd.underlying48 rfl info_room (room_fits _ _ _) (roomC wd hg sv) (room_all _ _ _)) hHeld ?_
  simp only [List.setIfInBounds_toArray, List.set_cons_zero, List.set_cons_succ]
  refine take_op (i := 7) (d := 16) (v := .agg (deskC a1 a2 a3)) rfl rfl (by kernel_rfl) (by kernel_rfl) (by kernel_rfl) (fun _ _ _ h => h) (yields_row (by rfl) 69 (.tmp 4) (by rfl) b1 0 3 (by rfl) 69 (deskC a1 a2 a3) (0, 0) _ (fun _ h => below_row h H1.out) Tryd.underlying69 rfl info_desk (desk_fits _ _ _) (deskC a1 a2 a3) (desk_all _ _ _)) hHeld ?_
  simp only [List.setIfInBounds_toArray, List.set_cons_zero, List.set_cons_succ]
  refine wpAnyH_ready (rs := [1]) (by kernel_rfl) (by simp) ?_
  refine AllReadyH.cons rfl (fun K hK => ?_) AllReadyH.nil
  go_simp
  refine (HVR.out _ (wins_below HV.out hHeld)).mono ?_
  rintro e W1 ⟨rfl, hb1⟩
  refine hK.out _ _ (hHeld.trans (hb1.mono hHeld.size)) (fun hHeld2 => ?_)
  clear hK K
  replace hHeld := hHeld2
  clear hHeld2
  clear hb1
  refine take_op (i := 2) (d := 11) (v := ?_) rfl rfl (by kernel_rfl) (by kernel_rfl) (by kernel_rfl) (fun _ _ _ h => h) (Or.inl ⟨by rfl, ?hy2u355⟩) hHeld ?rest2u355
  case hy2u355 =>
    intro w' hS'
    go_simp
    try with_reducible rfl
  simp only [List.setIfInBounds_toArray, List.set_cons_zero, List.set_cons_succ]
  refine take_op (i := 3) (d := 12) (v := .agg (persC l m g)) rfl rfl (by kernel_rfl) (by kernel_rfl) (by kernel_rfl) (fun _ _ _ h => h) (yields_row (by rfl) 71 (.tmp 5) (by rfl) b2 0 3 (by rfl) 71 (persC l m g) (0, 0) _ (fun _ h => below_row h H2.out) Tryd.underlying71 rfl info_pers (pers_fits _ _ _) (persC l m g) (pers_all _ _ _)) hHeld ?_
  simp only [List.setIfInBounds_toArray, List.set_cons_zero, List.set_cons_succ]
  refine wpAnyH_ready (rs := [4]) (by kernel_rfl) (by simp) ?_
  refine AllReadyH.cons rfl (fun K hK => ?_) AllReadyH.nil
  go_simp
  refine (HPe.out _).mono ?_
  rintro e W2 ⟨rfl, hb2⟩
  refine hK.out _ _ (hHeld.trans (hb2.mono hHeld.size)) (fun hHeld2 => ?_)
  clear hK K
  replace hHeld := hHeld2
  clear hHeld2
  clear hb2
  refine take_op (i := 5) (d := 14) (v := ?_) rfl rfl (by kernel_rfl) (by kernel_rfl) (by kernel_rfl) (fun _ _ _ h => h) (Or.inl ⟨by rfl, ?hy5u356⟩) hHeld ?rest5u356
  case hy5u356 =>
    intro w' hS'
    go_simp
    try with_reducible rfl
  simp only [List.setIfInBounds_toArray, List.set_cons_zero, List.set_cons_succ]
  refine wpAnyH_ready (rs := [8]) (by kernel_rfl) (by simp) ?_
  refine AllReadyH.cons rfl (fun K hK => ?_) AllReadyH.nil
  go_simp
  refine (HDk.out _).mono ?_
  rintro e W3 ⟨rfl, hb3⟩
  refine hK.out _ _ (hHeld.trans (hb3.mono hHeld.size)) (fun hHeld2 => ?_)
  clear hK K
  replace hHeld := hHeld2
  clear hHeld2
  clear hb3
  refine wpAnyH_ready (rs := [9]) (by kernel_rfl) (by simp) ?_
  refine AllReadyH.cons rfl (fun K hK => ?_) AllReadyH.nil
  go_simp
  refine (refusal_any (errs_below HX.out hHeld) _ _ _).mono ?_
  rintro e w4 ⟨rfl, rfl⟩
  refine hK.out _ _ (hHeld) (fun hHeld2 => ?_)
  clear hK K
  replace hHeld := hHeld2
  clear hHeld2
  refine take_op (i := 10) (d := 8) (v := ?_) rfl rfl (by kernel_rfl) (by kernel_rfl) (by kernel_rfl) (fun _ _ _ h => h) (Or.inl ⟨by rfl, ?hy10u357⟩) hHeld ?rest10u357
  case hy10u357 =>
    intro w' hS'
    go_simp
    try with_reducible rfl
  simp only [List.setIfInBounds_toArray, List.set_cons_zero, List.set_cons_succ]
  refine wpAnyH_done (by kernel_rfl) ?_ _
  replace H0 := Lib.hid (below_row hHeld H0.out)
  replace H1 := Lib.hid (below_row hHeld H1.out)
  replace H2 := Lib.hid (below_row hHeld H2.out)
  replace HV := Lib.hid (wins_below HV.out hHeld)
  replace HX := Lib.hid (errs_below HX.out hHeld)
  replace hb := hb.trans (hHeld.mono hb.size)
  clear hHeld
  rw [HC.out]
  dsimp only [errOf, errV]
  have hn := fun w => run_neq_nil_nil (P := Tryd.prog) (w := w) 102 (by kernel_rfl)
  go_wp2_with (first | (refine wpList_load_partG 48 _ rfl w.heap.size 0 3 rfl rfl 48 (roomC wd hg sv) (0, 0) _ H0.out Tryd.underlying48 rfl info_room (room_fits _ _ _) _ (room_all _ _ _) ?_) | (refine wpList_load_partG 69 _ rfl b1 0 3 rfl rfl 69 (deskC a1 a2 a3) (0, 0) _ H1.out Tryd.underlying69 rfl info_desk (desk_fits _ _ _) _ (desk_all _ _ _) ?_) | (refine wpList_load_partG 67 _ rfl b1 0 2 rfl rfl 69 (deskC a1 a2 a3) (0, 0) _ H1.out Tryd.underlying67 rfl info_tile (desk_fits2 _ _ _) _ (desk_tile _ _ _) ?_) | (refine wpList_load_partG 71 _ rfl b2 0 3 rfl rfl 71 (persC l m g) (0, 0) _ H2.out Tryd.underlying71 rfl info_pers (pers_fits _ _ _) _ (pers_all _ _ _) ?_) | (refine wpList_buildSliceL rfl 119 71 1 _ rfl _ rfl _ rfl Tryd.underlying119 (persC l m g) [(0, .agg (persC l m g))] rfl (built_pers l m g) ?_) | (go_at_call 63; refine (HSu.out _ _ (wins_below HV.out ((Below.refl _ _).alloc (Nat.le_refl _) _)) (heap_alloc_new _ _)).mono ?_; rintro e W9 ⟨rfl, hb9⟩))
  go_ret2
  exact ⟨rfl, (hb.alloc hb.size _).trans (hb9.mono (by have := hb.size; simp; omega))⟩

set_option maxRecDepth 100000 in
set_option maxHeartbeats 1000000 in
theorem sSuits_a (wd hg : Int) (sv : Value) (ws : List Wn) (iw : I8 wd) (ih : I8 hg) (hwf : ∀ x ∈ ws, WnWf x) (a1 a2 a3 : Int) (_ix : I8 a1) (_iy : I8 a2) (_il : I8 a3) (l m g : Nat) (hv : okRm wd hg ws = false) (w : World) (hws : WinsAt w sv ws) :
    Calls Tryd.prog 26 #[.agg (roomC wd hg sv), .agg (deskC a1 a2 a3), .agg (persC l m g)] w fun e w' => e = .returned (.tuple #[.bool false, .int .i64 1]) ∧ Below w.heap.size w w' := by
  have HOk := Lib.hid (fun b W h (h' : WinsAt W sv ws) => l03Ok_any wd hg iw ih sv ws hwf b 48 (0, 0) W h h')
  rw [hv] at HOk
  have HV := Lib.hid hws
  clear hws hv hwf iw ih _ix _iy _il
  go_enter Tryd.func26, Tryd.ntmps26
  go_upto_region 1 with (fail)
  refine abs_world (fun W => W.heap[w.heap.size]? = some (.cells (roomC wd hg sv) 48 (0, 0)) ∧ W.heap[w.heap.size + 1]? = some (.cells (deskC a1 a2 a3) 69 (0, 0)) ∧ W.heap[w.heap.size + 1 + 1]? = some (.cells (persC l m g) 71 (0, 0)) ∧ Below w.heap.size w W) (box3 w (.cells (roomC wd hg sv) 48) (.cells (deskC a1 a2 a3) 69) (.cells (persC l m g) 71)) ?_
  rintro W ⟨h0, h1, h2, hb⟩
  generalize w.heap.size + 1 + 1 = b2 at *
  generalize w.heap.size + 1 = b1 at *
  have H0 := Lib.hid h0
  have H1 := Lib.hid h1
  have H2 := Lib.hid h2
  replace HV := Lib.hid (wins_below HV.out hb)
  clear h0 h1 h2
  go_wp2_with (first | (refine wpList_load_partG 48 _ rfl w.heap.size 0 3 rfl rfl 48 (roomC wd hg sv) (0, 0) _ H0.out Tryd.underlying48 rfl info_room (room_fits _ _ _) _ (room_all _ _ _) ?_) | (refine wpList_load_partG 69 _ rfl b1 0 3 rfl rfl 69 (deskC a1 a2 a3) (0, 0) _ H1.out Tryd.underlying69 rfl info_desk (desk_fits _ _ _) _ (desk_all _ _ _) ?_) | (refine wpList_load_partG 67 _ rfl b1 0 2 rfl rfl 69 (deskC a1 a2 a3) (0, 0) _ H1.out Tryd.underlying67 rfl info_tile (desk_fits2 _ _ _) _ (desk_tile _ _ _) ?_) | (refine wpList_load_partG 71 _ rfl b2 0 3 rfl rfl 71 (persC l m g) (0, 0) _ H2.out Tryd.underlying71 rfl info_pers (pers_fits _ _ _) _ (pers_all _ _ _) ?_) | (go_at_call 46; refine (HOk.out _ _ H0.out HV.out).mono ?_; rintro e W1 ⟨rfl, hb1⟩; replace H0 := Lib.hid (below_row hb1 H0.out); replace H1 := Lib.hid (below_row hb1 H1.out); replace H2 := Lib.hid (below_row hb1 H2.out); replace HV := Lib.hid (wins_below HV.out hb1); replace hb := hb.trans (hb1.mono hb.size); clear hb1; go_wp2))
  go_ret2
  exact ⟨rfl, hb⟩

set_option maxRecDepth 100000 in
set_option maxHeartbeats 1000000 in
theorem sSuits_b (wd hg : Int) (sv : Value) (ws : List Wn) (iw : I8 wd) (ih : I8 hg) (hwf : ∀ x ∈ ws, WnWf x) (a1 a2 a3 : Int) (_ix : I8 a1) (_iy : I8 a2) (_il : I8 a3) (l m g : Nat) (hv : okRm wd hg ws = true) (hp : okPe l m g = false) (w : World) (hws : WinsAt w sv ws) :
    Calls Tryd.prog 26 #[.agg (roomC wd hg sv), .agg (deskC a1 a2 a3), .agg (persC l m g)] w fun e w' => e = .returned (.tuple #[.bool false, .int .i64 1]) ∧ Below w.heap.size w w' := by
  have HOk := Lib.hid (fun b W h (h' : WinsAt W sv ws) => l03Ok_any wd hg iw ih sv ws hwf b 48 (0, 0) W h h')
  rw [hv] at HOk
  have HPe := Lib.hid (fun W => specValidPerson_any l m g W)
  rw [hp] at HPe
  have HV := Lib.hid hws
  clear hws hv hwf iw ih _ix _iy _il hp
  go_enter Tryd.func26, Tryd.ntmps26
  go_upto_region 1 with (fail)
  refine abs_world (fun W => W.heap[w.heap.size]? = some (.cells (roomC wd hg sv) 48 (0, 0)) ∧ W.heap[w.heap.size + 1]? = some (.cells (deskC a1 a2 a3) 69 (0, 0)) ∧ W.heap[w.heap.size + 1 + 1]? = some (.cells (persC l m g) 71 (0, 0)) ∧ Below w.heap.size w W) (box3 w (.cells (roomC wd hg sv) 48) (.cells (deskC a1 a2 a3) 69) (.cells (persC l m g) 71)) ?_
  rintro W ⟨h0, h1, h2, hb⟩
  generalize w.heap.size + 1 + 1 = b2 at *
  generalize w.heap.size + 1 = b1 at *
  have H0 := Lib.hid h0
  have H1 := Lib.hid h1
  have H2 := Lib.hid h2
  replace HV := Lib.hid (wins_below HV.out hb)
  clear h0 h1 h2
  go_wp2_with (first | (refine wpList_load_partG 48 _ rfl w.heap.size 0 3 rfl rfl 48 (roomC wd hg sv) (0, 0) _ H0.out Tryd.underlying48 rfl info_room (room_fits _ _ _) _ (room_all _ _ _) ?_) | (refine wpList_load_partG 69 _ rfl b1 0 3 rfl rfl 69 (deskC a1 a2 a3) (0, 0) _ H1.out Tryd.underlying69 rfl info_desk (desk_fits _ _ _) _ (desk_all _ _ _) ?_) | (refine wpList_load_partG 67 _ rfl b1 0 2 rfl rfl 69 (deskC a1 a2 a3) (0, 0) _ H1.out Tryd.underlying67 rfl info_tile (desk_fits2 _ _ _) _ (desk_tile _ _ _) ?_) | (refine wpList_load_partG 71 _ rfl b2 0 3 rfl rfl 71 (persC l m g) (0, 0) _ H2.out Tryd.underlying71 rfl info_pers (pers_fits _ _ _) _ (pers_all _ _ _) ?_) | (go_at_call 46; refine (HOk.out _ _ H0.out HV.out).mono ?_; rintro e W1 ⟨rfl, hb1⟩; replace H0 := Lib.hid (below_row hb1 H0.out); replace H1 := Lib.hid (below_row hb1 H1.out); replace H2 := Lib.hid (below_row hb1 H2.out); replace HV := Lib.hid (wins_below HV.out hb1); replace hb := hb.trans (hb1.mono hb.size); clear hb1) | (go_at_call 57; refine (HPe.out _).mono ?_; rintro e W2 ⟨rfl, hb2⟩; replace H0 := Lib.hid (below_row hb2 H0.out); replace H1 := Lib.hid (below_row hb2 H1.out); replace H2 := Lib.hid (below_row hb2 H2.out); replace HV := Lib.hid (wins_below HV.out hb2); replace hb := hb.trans (hb2.mono hb.size); clear hb2))
  go_ret2
  exact ⟨rfl, hb⟩

set_option maxRecDepth 100000 in
set_option maxHeartbeats 1000000 in
theorem sSuits_c (wd hg : Int) (sv : Value) (ws : List Wn) (iw : I8 wd) (ih : I8 hg) (hwf : ∀ x ∈ ws, WnWf x) (a1 a2 a3 : Int) (ix : I8 a1) (iy : I8 a2) (il : I8 a3) (l m g : Nat) (hv : okRm wd hg ws = true) (hp : okPe l m g = true) (hr : isD wd hg a1 a2 a3 = false) (w : World) (hws : WinsAt w sv ws) :
    Calls Tryd.prog 26 #[.agg (roomC wd hg sv), .agg (deskC a1 a2 a3), .agg (persC l m g)] w fun e w' => e = .returned (.tuple #[.bool false, .int .i64 2]) ∧ Below w.heap.size w w' := by
  have HOk := Lib.hid (fun b W h (h' : WinsAt W sv ws) => l03Ok_any wd hg iw ih sv ws hwf b 48 (0, 0) W h h')
  rw [hv] at HOk
  have HPe := Lib.hid (fun W => specValidPerson_any l m g W)
  rw [hp] at HPe
  have HDk := Lib.hid (fun b W h => l03Desk_any wd hg a1 a2 a3 iw ih ix iy il sv b 48 (0, 0) W h)
  rw [hr] at HDk
  have HV := Lib.hid hws
  clear hws hv hwf iw ih ix iy il hp hr
  go_enter Tryd.func26, Tryd.ntmps26
  go_upto_region 1 with (fail)
  refine abs_world (fun W => W.heap[w.heap.size]? = some (.cells (roomC wd hg sv) 48 (0, 0)) ∧ W.heap[w.heap.size + 1]? = some (.cells (deskC a1 a2 a3) 69 (0, 0)) ∧ W.heap[w.heap.size + 1 + 1]? = some (.cells (persC l m g) 71 (0, 0)) ∧ Below w.heap.size w W) (box3 w (.cells (roomC wd hg sv) 48) (.cells (deskC a1 a2 a3) 69) (.cells (persC l m g) 71)) ?_
  rintro W ⟨h0, h1, h2, hb⟩
  generalize w.heap.size + 1 + 1 = b2 at *
  generalize w.heap.size + 1 = b1 at *
  have H0 := Lib.hid h0
  have H1 := Lib.hid h1
  have H2 := Lib.hid h2
  replace HV := Lib.hid (wins_below HV.out hb)
  clear h0 h1 h2
  go_wp2_with (first | (refine wpList_load_partG 48 _ rfl w.heap.size 0 3 rfl rfl 48 (roomC wd hg sv) (0, 0) _ H0.out Tryd.underlying48 rfl info_room (room_fits _ _ _) _ (room_all _ _ _) ?_) | (refine wpList_load_partG 69 _ rfl b1 0 3 rfl rfl 69 (deskC a1 a2 a3) (0, 0) _ H1.out Tryd.underlying69 rfl info_desk (desk_fits _ _ _) _ (desk_all _ _ _) ?_) | (refine wpList_load_partG 67 _ rfl b1 0 2 rfl rfl 69 (deskC a1 a2 a3) (0, 0) _ H1.out Tryd.underlying67 rfl info_tile (desk_fits2 _ _ _) _ (desk_tile _ _ _) ?_) | (refine wpList_load_partG 71 _ rfl b2 0 3 rfl rfl 71 (persC l m g) (0, 0) _ H2.out Tryd.underlying71 rfl info_pers (pers_fits _ _ _) _ (pers_all _ _ _) ?_) | (go_at_call 46; refine (HOk.out _ _ H0.out HV.out).mono ?_; rintro e W1 ⟨rfl, hb1⟩; replace H0 := Lib.hid (below_row hb1 H0.out); replace H1 := Lib.hid (below_row hb1 H1.out); replace H2 := Lib.hid (below_row hb1 H2.out); replace HV := Lib.hid (wins_below HV.out hb1); replace hb := hb.trans (hb1.mono hb.size); clear hb1) | (go_at_call 57; refine (HPe.out _).mono ?_; rintro e W2 ⟨rfl, hb2⟩; replace H0 := Lib.hid (below_row hb2 H0.out); replace H1 := Lib.hid (below_row hb2 H1.out); replace H2 := Lib.hid (below_row hb2 H2.out); replace HV := Lib.hid (wins_below HV.out hb2); replace hb := hb.trans (hb2.mono hb.size); clear hb2) | (go_at_call 58; refine (HDk.out _ _ H0.out).mono ?_; rintro e W3 ⟨rfl, hb3⟩; replace H0 := Lib.hid (below_row hb3 H0.out); replace H1 := Lib.hid (below_row hb3 H1.out); replace H2 := Lib.hid (below_row hb3 H2.out); replace HV := Lib.hid (wins_below HV.out hb3); replace hb := hb.trans (hb3.mono hb.size); clear hb3))
  go_ret2
  exact ⟨rfl, hb⟩

set_option maxRecDepth 100000 in
set_option maxHeartbeats 1000000 in
theorem sSuits_y (wd hg : Int) (sv : Value) (ws : List Wn) (iw : I8 wd) (ih : I8 hg) (hwf : ∀ x ∈ ws, WnWf x) (a1 a2 a3 : Int) (ix : I8 a1) (iy : I8 a2) (il : I8 a3) (l m g : Nat) (ok : RmOk wd hg ws) (ha : inRoom wd hg (a1, a2)) (hv : okRm wd hg ws = true) (hp : okPe l m g = true) (hr : isD wd hg a1 a2 a3 = true) (w : World) (hws : WinsAt w sv ws) :
    Calls Tryd.prog 26 #[.agg (roomC wd hg sv), .agg (deskC a1 a2 a3), .agg (persC l m g)] w fun e w' => e = .returned (.tuple #[.bool (suW wd hg a1 a2 a3 ws l m g), .int .i64 0]) ∧ Below w.heap.size w w' := by
  have HOk := Lib.hid (fun b W h (h' : WinsAt W sv ws) => l03Ok_any wd hg iw ih sv ws hwf b 48 (0, 0) W h h')
  rw [hv] at HOk
  have HPe := Lib.hid (fun W => specValidPerson_any l m g W)
  rw [hp] at HPe
  have HDk := Lib.hid (fun b W h => l03Desk_any wd hg a1 a2 a3 iw ih ix iy il sv b 48 (0, 0) W h)
  rw [hr] at HDk
  have HSu := Lib.hid (fun b W h (h' : WinsAt W sv ws) => l03Suits_any wd hg sv ws ok hwf a1 a2 a3 ha l m g b 48 (0, 0) W h h')
  generalize suW wd hg a1 a2 a3 ws l m g = res at *
  clear ok ha
  have HV := Lib.hid hws
  clear hws hv hwf iw ih ix iy il hp hr
  go_enter Tryd.func26, Tryd.ntmps26
  go_upto_region 1 with (fail)
  refine abs_world (fun W => W.heap[w.heap.size]? = some (.cells (roomC wd hg sv) 48 (0, 0)) ∧ W.heap[w.heap.size + 1]? = some (.cells (deskC a1 a2 a3) 69 (0, 0)) ∧ W.heap[w.heap.size + 1 + 1]? = some (.cells (persC l m g) 71 (0, 0)) ∧ Below w.heap.size w W) (box3 w (.cells (roomC wd hg sv) 48) (.cells (deskC a1 a2 a3) 69) (.cells (persC l m g) 71)) ?_
  rintro W ⟨h0, h1, h2, hb⟩
  generalize w.heap.size + 1 + 1 = b2 at *
  generalize w.heap.size + 1 = b1 at *
  have H0 := Lib.hid h0
  have H1 := Lib.hid h1
  have H2 := Lib.hid h2
  replace HV := Lib.hid (wins_below HV.out hb)
  clear h0 h1 h2
  go_wp2_with (first | (refine wpList_load_partG 48 _ rfl w.heap.size 0 3 rfl rfl 48 (roomC wd hg sv) (0, 0) _ H0.out Tryd.underlying48 rfl info_room (room_fits _ _ _) _ (room_all _ _ _) ?_) | (refine wpList_load_partG 69 _ rfl b1 0 3 rfl rfl 69 (deskC a1 a2 a3) (0, 0) _ H1.out Tryd.underlying69 rfl info_desk (desk_fits _ _ _) _ (desk_all _ _ _) ?_) | (refine wpList_load_partG 67 _ rfl b1 0 2 rfl rfl 69 (deskC a1 a2 a3) (0, 0) _ H1.out Tryd.underlying67 rfl info_tile (desk_fits2 _ _ _) _ (desk_tile _ _ _) ?_) | (refine wpList_load_partG 71 _ rfl b2 0 3 rfl rfl 71 (persC l m g) (0, 0) _ H2.out Tryd.underlying71 rfl info_pers (pers_fits _ _ _) _ (pers_all _ _ _) ?_) | (go_at_call 46; refine (HOk.out _ _ H0.out HV.out).mono ?_; rintro e W1 ⟨rfl, hb1⟩; replace H0 := Lib.hid (below_row hb1 H0.out); replace H1 := Lib.hid (below_row hb1 H1.out); replace H2 := Lib.hid (below_row hb1 H2.out); replace HV := Lib.hid (wins_below HV.out hb1); replace hb := hb.trans (hb1.mono hb.size); clear hb1) | (go_at_call 57; refine (HPe.out _).mono ?_; rintro e W2 ⟨rfl, hb2⟩; replace H0 := Lib.hid (below_row hb2 H0.out); replace H1 := Lib.hid (below_row hb2 H1.out); replace H2 := Lib.hid (below_row hb2 H2.out); replace HV := Lib.hid (wins_below HV.out hb2); replace hb := hb.trans (hb2.mono hb.size); clear hb2) | (go_at_call 58; refine (HDk.out _ _ H0.out).mono ?_; rintro e W3 ⟨rfl, hb3⟩; replace H0 := Lib.hid (below_row hb3 H0.out); replace H1 := Lib.hid (below_row hb3 H1.out); replace H2 := Lib.hid (below_row hb3 H2.out); replace HV := Lib.hid (wins_below HV.out hb3); replace hb := hb.trans (hb3.mono hb.size); clear hb3) | (go_at_call 59; refine (HSu.out _ _ H0.out HV.out).mono ?_; rintro e W4 ⟨rfl, hb4⟩; replace H0 := Lib.hid (below_row hb4 H0.out); replace H1 := Lib.hid (below_row hb4 H1.out); replace H2 := Lib.hid (below_row hb4 H2.out); replace HV := Lib.hid (wins_below HV.out hb4); replace hb := hb.trans (hb4.mono hb.size); clear hb4))
  go_ret2
  exact ⟨rfl, hb⟩

end Go.Proofs.YtnienahjfocalabDoor
