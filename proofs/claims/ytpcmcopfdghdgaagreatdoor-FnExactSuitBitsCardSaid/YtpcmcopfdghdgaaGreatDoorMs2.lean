/-
  RoomW, RoomS, LightL, DeskA, GbA, GbI, PlainN, ValidPerson, Errs, Code, SbI, LightF, LightA.
-/
import Derived.Test.YtpcmcopfdghdgaaGreatDoorMs1
import Derived.Test.YtpcmcopfdghdgaaGreatDoorRoomE
import Derived.Test.YtpcmcopfdghdgaaGreatDoorPart
import Derived.Test.YtpcmcopfdghdgaaGreatDoorSgn
import Derived.Test.YtpcmcopfdghdgaaGreatDoorChecked
import Derived.WalkKit
import Derived.WalkSpells
import Derived.WalkLawsBesides
import Derived.Test.YtpcmcopfdghdgaaGreatDoorRows
import Derived.Stop.LaidTwo
import Derived.LaidEql
import Derived.LaidMore
import Derived.LaidHandle
import Derived.ProofKit
import Derived.OpenShut
import Derived.RowKitTokens
import Derived.Test.YtpcmcopfdghdgaaGreatDoorRow
import Derived.Stop.Asserts
import Derived.Elder7
import Derived.Lib.Hide
import Derived.IntWalk
import Derived.Shelf.Abstract

namespace Go.Proofs.YtpcmcopfdghdgaaGreatDoor
open Go.RowKit

attribute [local go_sem] run_store_f

set_option maxHeartbeats 1000000 in
theorem l03Wall_any (a : Int) (w : World) : Calls Tryz.prog 176 #[.int .i64 a] w fun e w' => e = .returned (.bool (inI 0 3 a)) ∧ w = w' := by
  go_enter Tryz.func176, Tryz.ntmps176
  go_wp2_with (go_at_call 72; refine (l00In_ban _ _ _ _).mono ?_; rintro e w' ⟨rfl, rfl⟩)
  go_ret
  exact ⟨rfl, rfl⟩

set_option maxRecDepth 100000 in
set_option maxHeartbeats 1000000 in
theorem l03Window_any (wd hg : Int) (iw : I8 wd) (ih : I8 hg) (sv : Value) (x : Wn) (hx : WnWf x) (gb : Nat) (T : TypeId) (fr : Nat × Nat) (w : World) (hb0 : w.heap[gb]? = some (.cells (roomC wd hg sv) T fr)) :
    Calls Tryz.prog 192 #[.pointer (some ⟨gb, 0, none⟩), .agg (winC x)] w fun e w' => e = .returned (.bool (fitB wd hg x)) ∧ Below w.heap.size w w' := by
  obtain ⟨iw0, iw1⟩ := iw
  obtain ⟨ih0, ih1⟩ := ih
  obtain ⟨⟨x0, x1⟩, ⟨y0, y1⟩, _⟩ := hx
  have H0 := Lib.hid hb0
  clear hb0
  go_enter Tryz.func192, Tryz.ntmps192
  go_upto_region 1 with (fail)
  refine abs_world (fun W => Below w.heap.size w W ∧ W.heap[w.heap.size]? = some (.cells (winC x) 174 (0, 0))) ⟨(Below.refl _ _).alloc (Nat.le_refl _) _, heap_alloc_new _ _⟩ ?_
  rintro W ⟨hb, h1⟩
  replace H0 := Lib.hid (below_row hb H0.out)
  obtain ⟨k0, k1, k2⟩ := room_cells H0.out
  obtain ⟨p0, p1, p2⟩ := win_cells h1
  clear h1 H0
  by_cases hk : x.1 = 1 ∨ x.1 = 3
  · have el : lastW wd hg x.1 = hg := if_pos hk
    have ef : fitB wd hg x = (inI 0 3 x.1 && (inI 0 (hg - 1) x.2.1 && partB x.2.2)) := by rw [fitB, el]
    have EF := Lib.hid ef
    clear el ef
    by_cases h1 : x.1 = 1
    · have e1 : inI 0 3 x.1 = true := by rw [h1]; rfl
      have d1 : (x.1 == 1) = true := by rw [h1]; rfl
      have E1 := Lib.hid e1
      clear hk h1 e1
      go_wp2_with (first | (go_at_call 176; refine (l03Wall_any _ _).mono ?_; rw [E1.out]; rintro e w' ⟨rfl, rfl⟩) | (go_at_call 72; refine (l00In_ban _ _ _ _).mono ?_; rintro e w' ⟨rfl, rfl⟩) | (go_at_call 62; refine (l01Part_any _ _).mono ?_; rintro e w' ⟨rfl, rfl⟩))
      all_goals
        go_ret
        refine ⟨ret_boolR ?_, hb⟩
        rw [EF.out, E1.out]
        simp [*]
    · have h3 : x.1 = 3 := by omega
      have e1 : inI 0 3 x.1 = true := by rw [h3]; rfl
      have d1 : (x.1 == 1) = false := by rw [h3]; rfl
      have d3 : (x.1 == 3) = true := by rw [h3]; rfl
      have E1 := Lib.hid e1
      clear hk h1 h3 e1
      go_wp2_with (first | (go_at_call 176; refine (l03Wall_any _ _).mono ?_; rw [E1.out]; rintro e w' ⟨rfl, rfl⟩) | (go_at_call 72; refine (l00In_ban _ _ _ _).mono ?_; rintro e w' ⟨rfl, rfl⟩) | (go_at_call 62; refine (l01Part_any _ _).mono ?_; rintro e w' ⟨rfl, rfl⟩))
      all_goals
        go_ret
        refine ⟨ret_boolR ?_, hb⟩
        rw [EF.out, E1.out]
        simp [*]
  · have el : lastW wd hg x.1 = wd := if_neg hk
    have ef : fitB wd hg x = (inI 0 3 x.1 && (inI 0 (wd - 1) x.2.1 && partB x.2.2)) := by rw [fitB, el]
    have EF := Lib.hid ef
    have d1 : (x.1 == 1) = false := by simp; omega
    have d3 : (x.1 == 3) = false := by simp; omega
    clear el ef hk
    cases hw : inI 0 3 x.1
    all_goals
      have E1 := Lib.hid hw
      clear hw
      go_wp2_with (first | (go_at_call 176; refine (l03Wall_any _ _).mono ?_; rw [E1.out]; rintro e w' ⟨rfl, rfl⟩) | (go_at_call 72; refine (l00In_ban _ _ _ _).mono ?_; rintro e w' ⟨rfl, rfl⟩) | (go_at_call 62; refine (l01Part_any _ _).mono ?_; rintro e w' ⟨rfl, rfl⟩))
      all_goals
        go_ret
        refine ⟨ret_boolR ?_, hb⟩
        rw [EF.out, E1.out]
        simp [*]

end Go.Proofs.YtpcmcopfdghdgaaGreatDoor

namespace Go.Proofs.YtpcmcopfdghdgaaGreatDoor
open Go.RowKit

attribute [local go_sem] run_store_f

set_option maxRecDepth 100000 in
set_option maxHeartbeats 1000000 in
theorem l03Ok_any (wd hg : Int) (iw : I8 wd) (ih : I8 hg) (sv : Value) (ws : List Wn) (hwf : ∀ x ∈ ws, WnWf x) (gb : Nat) (T : TypeId) (fr : Nat × Nat) (w : World) (hb0 : w.heap[gb]? = some (.cells (roomC wd hg sv) T fr)) (hws : WinsAt w sv ws) :
    Calls Tryz.prog 177 #[.pointer (some ⟨gb, 0, none⟩)] w fun e w' => e = .returned (.bool (okRm wd hg ws)) ∧ Below w.heap.size w w' := by
  have HW := Lib.hid hws
  have HF := Lib.hid hwf
  obtain ⟨a, cap, rfl, hl1, hl2, _⟩ := hws
  unfold maxLen at hl2
  generalize hn : ws.length = n at *
  have HN := Lib.hid hn
  have H0 := Lib.hid hb0
  obtain ⟨k0, k1, k2⟩ := room_cells hb0
  have HIW := Lib.hid iw
  have HIH := Lib.hid ih
  obtain ⟨iw0, iw1⟩ := iw
  obtain ⟨ih0, ih1⟩ := ih
  clear hn hb0 hwf
  cases ew : inI 1 10 wd with
  | false =>
    have eo : okRm wd hg ws = false := by simp [okRm, ew]
    rw [eo]
    have EW := Lib.hid ew
    have EH := EW
    clear ew eo
    go_enter Tryz.func177, Tryz.ntmps177
    go_wp2_with (go_at_call 72; refine (l00In_ban _ _ _ _).mono ?_; (first | rw [EW.out] | rw [EH.out]); rintro e w' ⟨rfl, rfl⟩)
    go_ret
    exact ⟨rfl, Below.refl _ _⟩
  | true =>
    cases eh : inI 1 10 hg with
    | false =>
      have eo : okRm wd hg ws = false := by simp [okRm, eh]
      rw [eo]
      have EW := Lib.hid ew
      have EH := Lib.hid eh
      clear ew eh eo
      go_enter Tryz.func177, Tryz.ntmps177
      go_wp2_with (go_at_call 72; refine (l00In_ban _ _ _ _).mono ?_; (first | rw [EW.out] | rw [EH.out]); rintro e w' ⟨rfl, rfl⟩)
      go_ret
      exact ⟨rfl, Below.refl _ _⟩
    | true =>
      by_cases h12 : n ≤ 12
      · have eo : okRm wd hg ws = ws.all (fitB wd hg) := by
          have := HN.out
          simp [okRm, ew, eh]; omega
        rw [eo]
        have EW := Lib.hid ew
        have EH := Lib.hid eh
        have z12 : (n : Int) ≤ 12 := by omega
        clear ew eh eo
        go_enter Tryz.func177, Tryz.ntmps177
        go_wp2_with (go_at_call 72; refine (l00In_ban _ _ _ _).mono ?_; (first | rw [EW.out] | rw [EH.out]); rintro e w' ⟨rfl, rfl⟩)
        go_loopw [3] (fun i wr => ∃ k : Nat, k ≤ n ∧ i = .int .i64 k ∧ Below w.heap.size w wr ∧ (ws.take k).all (fitB wd hg) = true) (fun i _ => n - (intOf i).toNat)
        case atStart => exact ⟨0, Nat.zero_le _, rfl, Below.refl _ _, rfl⟩
        case round =>
          clear k0 k1 k2
          obtain ⟨k, hk, rfl, hb, hall⟩ := hrel
          have HA := Lib.hid hall
          replace H0 := Lib.hid (below_row hb H0.out)
          obtain ⟨k0, k1, k2⟩ := room_cells H0.out
          clear hall
          by_cases hlt : k < n
          · have hx : ws[k]? = some (ws[k]'(by rw [HN.out]; exact hlt)) := List.getElem?_eq_getElem _
            obtain ⟨g, o, rfl, hc⟩ := win_at (wins_below HW.out hb) hx
            have HC := Lib.hid hc
            have hts : ws.take (k + 1) = ws.take k ++ [ws[k]'(by rw [HN.out]; exact hlt)] := by rw [List.take_succ_eq_append_getElem]
            have HT := Lib.hid hts
            have hwx := HF.out _ (List.mem_of_getElem? hx)
            generalize (ws[k]'(by rw [HN.out]; exact hlt)) = x at *
            have HD := Lib.hid hx
            have HWx := Lib.hid hwx
            have z1 : (k : Int) < (n : Int) := by omega
            have z2 : (0 : Int) ≤ (k : Int) := by omega
            clear hc hts hx hwx
            cases hf : fitB wd hg x with
            | true =>
              have HFt := Lib.hid hf
              clear hf
              go_wp2_with (first | (refine wpList_load_cells rfl 174 _ rfl g (o + k * 3) 3 rfl _ Tryz.underlying174 rfl info_win (winC x) rfl HC.out ?_) | (go_at_call 192; refine (l03Window_any wd hg HIW.out HIH.out _ x HWx.out gb _ _ _ H0.out).mono ?_; rw [HFt.out]; rintro e W1 ⟨rfl, hb1⟩))
              go_roundw
              case rel => exact ⟨k + 1, by omega, by go_num, hb.trans (hb1.mono hb.size), by rw [HT.out, List.all_append, HA.out]; simp [HFt.out]⟩
              case measure => simp [intOf]; omega
            | false =>
              have HFt := Lib.hid hf
              clear hf
              go_wp2_with (first | (refine wpList_load_cells rfl 174 _ rfl g (o + k * 3) 3 rfl _ Tryz.underlying174 rfl info_win (winC x) rfl HC.out ?_) | (go_at_call 192; refine (l03Window_any wd hg HIW.out HIH.out _ x HWx.out gb _ _ _ H0.out).mono ?_; rw [HFt.out]; rintro e W1 ⟨rfl, hb1⟩))
              go_ret
              refine ⟨?_, hb.trans (hb1.mono hb.size)⟩
              have hall : ws.all (fitB wd hg) = false := by
                rw [Bool.eq_false_iff]
                intro ha
                have := List.all_eq_true.1 ha x (List.mem_of_getElem? HD.out)
                rw [HFt.out] at this; cases this
              rw [hall]; rfl
          · obtain rfl : k = n := by omega
            have hall := HA.out
            rw [List.take_of_length_le (by rw [HN.out]; exact Nat.le_refl _)] at hall
            have HL := Lib.hid hall
            clear hall
            go_wp2
            go_ret
            exact ⟨by rw [HL.out]; rfl, hb⟩
      · have eo : okRm wd hg ws = false := by
          have := HN.out
          simp [okRm, ew, eh]; intro h; omega
        rw [eo]
        have EW := Lib.hid ew
        have EH := Lib.hid eh
        have z12 : (12 : Int) < (n : Int) := by omega
        clear ew eh eo
        go_enter Tryz.func177, Tryz.ntmps177
        go_wp2_with (go_at_call 72; refine (l00In_ban _ _ _ _).mono ?_; (first | rw [EW.out] | rw [EH.out]); rintro e w' ⟨rfl, rfl⟩)
        go_ret
        exact ⟨rfl, Below.refl _ _⟩

/-- The code of a room, and whether numbers are as told. -/
def codeR (ok fine : Bool) : Int := if !ok then 1 else if !fine then 2 else 0
set_option maxRecDepth 100000 in
set_option maxHeartbeats 1000000 in
theorem l03Asked_any (wd hg : Int) (iw : I8 wd) (ih : I8 hg) (sv : Value) (ws : List Wn) (hwf : ∀ x ∈ ws, WnWf x) (fine : Bool) (gb : Nat) (T : TypeId) (fr : Nat × Nat) (w : World) (hb0 : w.heap[gb]? = some (.cells (roomC wd hg sv) T fr)) (hws : WinsAt w sv ws) :
    Calls Tryz.prog 152 #[.pointer (some ⟨gb, 0, none⟩), .bool fine] w fun e w' => e = .returned (.int .i64 (codeR (okRm wd hg ws) fine)) ∧ Below w.heap.size w w' := by
  have HO := Lib.hid (l03Ok_any wd hg iw ih sv ws hwf gb T fr w hb0 hws)
  clear hb0 hws hwf
  generalize okRm wd hg ws = ok at *
  cases ok <;> cases fine
  all_goals
    go_enter Tryz.func152, Tryz.ntmps152
    go_wp2_with (go_at_call 177; refine HO.out.mono ?_; rintro e W1 ⟨rfl, hb1⟩)
    go_ret
    exact ⟨rfl, hb1⟩

end Go.Proofs.YtpcmcopfdghdgaaGreatDoor

namespace Go.Proofs.YtpcmcopfdghdgaaGreatDoor
open Go.RowKit

attribute [local go_sem] run_store_f

set_option maxRecDepth 100000 in
set_option maxHeartbeats 1000000 in
theorem toTile_any (x y : Int) (w : World) :
    Calls Tryz.prog 117 #[.agg (tileC x y)] w fun e w' => e = .returned (.agg (tileC x y)) ∧ Below w.heap.size w w' := by
  unfold tileC
  go_enter Tryz.func117, Tryz.ntmps117
  go_wp2
  refine bodyPost_ret (v := .agg #[.int .i8 x, .int .i8 y]) (by simp [results, Tryz.results117, go_sem]) rfl ⟨rfl, ?_⟩
  (repeat' first | exact Below.refl _ _ | assumption | refine Below.alloc ?_ (by first | omega | (simp; done) | (simp; omega)) _ | refine Below.setCell ?_ (by first | omega | (simp; done) | (simp; omega)) _ | refine Below.drew ?_)

end Go.Proofs.YtpcmcopfdghdgaaGreatDoor

namespace Go.Proofs.YtpcmcopfdghdgaaGreatDoor
open Go.ChangeShapes Go.WideShapes Go.ChangeAt Go.RowKit Go.Deep Go.Joins

attribute [local go_sem] run_store_f

theorem info_desk : (Tryz.prog.info? 128).map (·.size) = some 3 := by kernel_rfl
theorem info_deskL : (Tryz.prog.info? 132).map (·.size) = some 3 := by kernel_rfl
theorem desk_fits (x y l : Int) : 0 + 3 ≤ (deskC x y l).size := Nat.le_refl _
theorem desk_fits2 (x y l : Int) : 0 + 2 ≤ (deskC x y l).size := by show 0 + 2 ≤ 3; decide
theorem desk_all (x y l : Int) : (deskC x y l).extract 0 (0 + 3) = deskC x y l := rfl
theorem desk_tile (x y l : Int) : (deskC x y l).extract 0 (0 + 2) = tileC x y := rfl
theorem desk_one (x y l : Int) : ∀ v ∈ deskC x y l, v.oneCell' = true := by
  intro v hv
  simp only [deskC, List.mem_toArray, List.mem_cons, List.not_mem_nil, or_false] at hv
  rcases hv with rfl | rfl | rfl <;> rfl
theorem desk_cells {x y l : Int} {W : World} {g : Nat} {T : TypeId} {fr : Nat × Nat} (h : W.heap[g]? = some (.cells (deskC x y l) T fr)) :
    W.cell? ⟨g, 0, none⟩ = some (.int .i8 x) ∧ W.cell? ⟨g, 1, none⟩ = some (.int .i8 y) ∧ W.cell? ⟨g, 2, none⟩ = some (.int .i8 l) :=
  ⟨by rw [cell_of_row W _ _ _ _ _ h]; rfl, by rw [cell_of_row W _ _ _ _ _ h]; rfl, by rw [cell_of_row W _ _ _ _ _ h]; rfl⟩

set_option maxRecDepth 100000 in
theorem under_deskL : ∃ f0 f1 g0 g1 : Field, Tryz.prog.underlying 132 = some (.struct #[f0, f1]) ∧ f0.type = 130 ∧ f1.type = 24 ∧ f0.offset = 0 ∧ f1.offset = 2 ∧ Tryz.prog.underlying 130 = some (.struct #[g0, g1]) ∧ g0.type = 24 ∧ g1.type = 24 ∧ g0.offset = 0 ∧ g1.offset = 1 :=
  ⟨_, _, _, _, Tryz.underlying132, rfl, rfl, rfl, rfl, Tryz.underlying130, rfl, rfl, rfl, rfl⟩

set_option maxRecDepth 100000 in
theorem cells_deskL : Tryz.prog.cellsOf 132 = 3 ∧ Tryz.prog.cellsOf 130 = 2 ∧ Tryz.prog.cellsOf 24 = 1 := ⟨by kernel_rfl, by kernel_rfl, by kernel_rfl⟩

set_option maxRecDepth 100000 in
theorem open_desk {H : Type} {enc : TypeId × Value → H} {W : World} {b0 base : Nat} {spare : Nat → Bool} {held : Bool} {r : Reach} {v : Value} {d : DataW H} {p : List MemPlace}
    (hv : Value.okWide Tryz.prog W r b0 132 v) (h : DataW.Trod enc Tryz.prog W base spare held 132 v d p) : ∃ x y l : Int, (I8 x ∧ I8 y ∧ I8 l) ∧ v = .agg (deskC x y l) := by
  obtain ⟨f0, f1, g0, g1, hu, t0, t1, o0, o1, hu2, u0, u1, q0, q1⟩ := under_deskL
  obtain ⟨cd, ct, ci⟩ := cells_deskL
  obtain ⟨cs, rfl, hsz⟩ := okWide_struct hu hv
  obtain ⟨l⟩ := cs
  obtain ⟨fuel, hf⟩ := h
  obtain ⟨y0, y1, n, _, _, h0, h1⟩ := trod_struct2 hu hf
  simp only [Value.cells] at h0 h1
  rw [t0, o0, ct] at h0
  rw [t1, o1, ci] at h1
  have hl : l.length = 3 := hsz.trans cd
  match l, hl with
  | [c0, c1, c2], _ =>
    obtain ⟨z0, z1, m, _, _, k0, k1⟩ := trod_struct2 hu2 h0
    rw [u0, q0, ci] at k0
    rw [u1, q1, ci] at k1
    obtain ⟨n0, e0, _, w0⟩ := DataW.trod_int Tryz.underlying24 k0
    obtain ⟨n1, e1, _, w1⟩ := DataW.trod_int Tryz.underlying24 k1
    obtain ⟨n2, e2, _, w2⟩ := DataW.trod_int Tryz.underlying24 h1
    simp only [List.drop_zero, List.drop_succ_cons, List.take_succ_cons, List.take_zero, List.cons.injEq, and_true] at e0 e1 e2
    subst e0 e1 e2
    exact ⟨n0, n1, n2, ⟨wf_i8 w0, wf_i8 w1, wf_i8 w2⟩, rfl⟩

/-- Is a desk one of a room? -/
def isD (wd hg x y l : Int) : Bool := isT wd hg x y && inI 0 3 l

set_option maxRecDepth 100000 in
set_option maxHeartbeats 1000000 in
theorem isDesk_true (wd hg a1 a2 a3 : Int) (sv : Value) (hT : isT wd hg a1 a2 = true) (w : World) :
    Calls Tryz.prog 162 #[.agg (roomC wd hg sv), .agg (deskC a1 a2 a3)] w fun e w' => e = .returned (.bool (inI 0 3 a3)) ∧ Below w.heap.size w w' := by
  have HT := Lib.hid (fun w => isTile_any wd hg a1 a2 sv w)
  rw [hT] at HT
  have HW := Lib.hid (fun w => isWall_any a3 w)
  generalize inI 0 3 a3 = z at *
  clear hT
  go_enter Tryz.func162, Tryz.ntmps162
  go_upto_region 1 with (fail)
  refine abs_world (fun W => W.heap[w.heap.size]? = some (.cells (roomC wd hg sv) 70 (0, 0)) ∧ W.heap[w.heap.size + 1]? = some (.cells (deskC a1 a2 a3) 128 (0, 0)) ∧ Below w.heap.size w W) (box2 w (.cells (roomC wd hg sv) 70) (.cells (deskC a1 a2 a3) 128)) ?_
  rintro W ⟨h0, h1, hb⟩
  generalize w.heap.size + 1 = b1 at *
  have H0 := Lib.hid h0
  have H1 := Lib.hid h1
  obtain ⟨_, _, k2⟩ := desk_cells h1
  clear h0 h1
  go_wp2_with (first | (refine wpList_load_partG 70 _ rfl w.heap.size 0 3 rfl rfl 70 (roomC wd hg sv) (0, 0) _ H0.out Tryz.underlying70 rfl info_room (room_fits _ _ _) _ (room_all _ _ _) ?_) | (refine wpList_load_partG 128 _ rfl b1 0 3 rfl rfl 128 (deskC a1 a2 a3) (0, 0) _ H1.out Tryz.underlying128 rfl info_desk (desk_fits _ _ _) _ (desk_all _ _ _) ?_) | (refine wpList_load_partG 126 _ rfl b1 0 2 rfl rfl 128 (deskC a1 a2 a3) (0, 0) _ H1.out Tryz.underlying126 rfl info_tile (desk_fits2 _ _ _) _ (desk_tile _ _ _) ?_) | (go_at_call 184; refine (HT.out _).mono ?_; rintro e W1 ⟨rfl, hb1⟩; replace H0 := Lib.hid (below_row hb1 H0.out); replace H1 := Lib.hid (below_row hb1 H1.out); replace k2 := cell_belowB hb1 k2; replace hb := hb.trans (hb1.mono hb.size); clear hb1) | (go_at_call 181; refine (HW.out _).mono ?_; rintro e w2 ⟨rfl, rfl⟩))
  go_ret
  exact ⟨rfl, hb⟩

set_option maxRecDepth 100000 in
set_option maxHeartbeats 1000000 in
theorem isDesk_false (wd hg a1 a2 a3 : Int) (sv : Value) (hT : isT wd hg a1 a2 = false) (w : World) :
    Calls Tryz.prog 162 #[.agg (roomC wd hg sv), .agg (deskC a1 a2 a3)] w fun e w' => e = .returned (.bool (false)) ∧ Below w.heap.size w w' := by
  have HT := Lib.hid (fun w => isTile_any wd hg a1 a2 sv w)
  rw [hT] at HT
  clear hT
  go_enter Tryz.func162, Tryz.ntmps162
  go_upto_region 1 with (fail)
  refine abs_world (fun W => W.heap[w.heap.size]? = some (.cells (roomC wd hg sv) 70 (0, 0)) ∧ W.heap[w.heap.size + 1]? = some (.cells (deskC a1 a2 a3) 128 (0, 0)) ∧ Below w.heap.size w W) (box2 w (.cells (roomC wd hg sv) 70) (.cells (deskC a1 a2 a3) 128)) ?_
  rintro W ⟨h0, h1, hb⟩
  generalize w.heap.size + 1 = b1 at *
  have H0 := Lib.hid h0
  have H1 := Lib.hid h1
  obtain ⟨_, _, k2⟩ := desk_cells h1
  clear h0 h1
  go_wp2_with (first | (refine wpList_load_partG 70 _ rfl w.heap.size 0 3 rfl rfl 70 (roomC wd hg sv) (0, 0) _ H0.out Tryz.underlying70 rfl info_room (room_fits _ _ _) _ (room_all _ _ _) ?_) | (refine wpList_load_partG 128 _ rfl b1 0 3 rfl rfl 128 (deskC a1 a2 a3) (0, 0) _ H1.out Tryz.underlying128 rfl info_desk (desk_fits _ _ _) _ (desk_all _ _ _) ?_) | (refine wpList_load_partG 126 _ rfl b1 0 2 rfl rfl 128 (deskC a1 a2 a3) (0, 0) _ H1.out Tryz.underlying126 rfl info_tile (desk_fits2 _ _ _) _ (desk_tile _ _ _) ?_) | (go_at_call 184; refine (HT.out _).mono ?_; rintro e W1 ⟨rfl, hb1⟩; replace H0 := Lib.hid (below_row hb1 H0.out); replace H1 := Lib.hid (below_row hb1 H1.out); replace k2 := cell_belowB hb1 k2; replace hb := hb.trans (hb1.mono hb.size); clear hb1))
  go_ret
  exact ⟨rfl, hb⟩

theorem isDesk_any (wd hg a1 a2 a3 : Int) (sv : Value) (w : World) :
    Calls Tryz.prog 162 #[.agg (roomC wd hg sv), .agg (deskC a1 a2 a3)] w fun e w' => e = .returned (.bool (isD wd hg a1 a2 a3)) ∧ Below w.heap.size w w' := by
  cases h : isT wd hg a1 a2 with
  | true => rw [show isD wd hg a1 a2 a3 = inI 0 3 a3 by simp [isD, h]]; exact isDesk_true wd hg a1 a2 a3 sv h w
  | false => rw [show isD wd hg a1 a2 a3 = false by simp [isD, h]]; exact isDesk_false wd hg a1 a2 a3 sv h w

set_option maxRecDepth 100000 in
set_option maxHeartbeats 1000000 in
theorem l03Desk_true (wd hg a1 a2 a3 : Int) (iw : I8 wd) (ih : I8 hg) (ix : I8 a1) (iy : I8 a2) (il : I8 a3) (sv : Value) (hT : isT wd hg a1 a2 = true) (gb : Nat) (T : TypeId) (fr : Nat × Nat) (w : World) (hb0 : w.heap[gb]? = some (.cells (roomC wd hg sv) T fr)) :
    Calls Tryz.prog 151 #[.pointer (some ⟨gb, 0, none⟩), .agg (deskC a1 a2 a3)] w fun e w' => e = .returned (.bool (inI 0 3 a3)) ∧ Below w.heap.size w w' := by
  have HT := Lib.hid (fun w h => l03Is_any wd hg a1 a2 iw ih ix iy sv gb T fr w h)
  rw [hT] at HT
  have HW := Lib.hid (fun w => l03Wall_any a3 w)
  generalize inI 0 3 a3 = z at *
  have HR := Lib.hid hb0
  obtain ⟨l0, l1⟩ := il
  clear hT hb0 iw ih ix iy
  go_enter Tryz.func151, Tryz.ntmps151
  go_upto_region 1 with (fail)
  refine abs_world (fun W => W.heap[w.heap.size]? = some (.cells (deskC a1 a2 a3) 128 (0, 0)) ∧ Below w.heap.size w W) (⟨heap_alloc_new _ _, (Below.refl _ _).alloc (Nat.le_refl _) _⟩) ?_
  rintro W ⟨h0, hb⟩
  have H1 := Lib.hid h0
  obtain ⟨_, _, k2⟩ := desk_cells h0
  replace HR := Lib.hid (below_row hb HR.out)
  clear h0
  go_wp2_with (first | (refine wpList_load_partG 128 _ rfl w.heap.size 0 3 rfl rfl 128 (deskC a1 a2 a3) (0, 0) _ H1.out Tryz.underlying128 rfl info_desk (desk_fits _ _ _) _ (desk_all _ _ _) ?_) | (refine wpList_load_partG 126 _ rfl w.heap.size 0 2 rfl rfl 128 (deskC a1 a2 a3) (0, 0) _ H1.out Tryz.underlying126 rfl info_tile (desk_fits2 _ _ _) _ (desk_tile _ _ _) ?_) | (go_at_call 175; refine (HT.out _ HR.out).mono ?_; rintro e W1 ⟨rfl, hb1⟩; replace H1 := Lib.hid (below_row hb1 H1.out); replace HR := Lib.hid (below_row hb1 HR.out); replace k2 := cell_belowB hb1 k2; replace hb := hb.trans (hb1.mono hb.size); clear hb1) | (go_at_call 176; refine (HW.out _).mono ?_; rintro e w2 ⟨rfl, rfl⟩))
  go_ret
  exact ⟨rfl, hb⟩

set_option maxRecDepth 100000 in
set_option maxHeartbeats 1000000 in
theorem l03Desk_false (wd hg a1 a2 a3 : Int) (iw : I8 wd) (ih : I8 hg) (ix : I8 a1) (iy : I8 a2) (il : I8 a3) (sv : Value) (hT : isT wd hg a1 a2 = false) (gb : Nat) (T : TypeId) (fr : Nat × Nat) (w : World) (hb0 : w.heap[gb]? = some (.cells (roomC wd hg sv) T fr)) :
    Calls Tryz.prog 151 #[.pointer (some ⟨gb, 0, none⟩), .agg (deskC a1 a2 a3)] w fun e w' => e = .returned (.bool (false)) ∧ Below w.heap.size w w' := by
  have HT := Lib.hid (fun w h => l03Is_any wd hg a1 a2 iw ih ix iy sv gb T fr w h)
  rw [hT] at HT
  have HR := Lib.hid hb0
  obtain ⟨l0, l1⟩ := il
  clear hT hb0 iw ih ix iy
  go_enter Tryz.func151, Tryz.ntmps151
  go_upto_region 1 with (fail)
  refine abs_world (fun W => W.heap[w.heap.size]? = some (.cells (deskC a1 a2 a3) 128 (0, 0)) ∧ Below w.heap.size w W) (⟨heap_alloc_new _ _, (Below.refl _ _).alloc (Nat.le_refl _) _⟩) ?_
  rintro W ⟨h0, hb⟩
  have H1 := Lib.hid h0
  obtain ⟨_, _, k2⟩ := desk_cells h0
  replace HR := Lib.hid (below_row hb HR.out)
  clear h0
  go_wp2_with (first | (refine wpList_load_partG 128 _ rfl w.heap.size 0 3 rfl rfl 128 (deskC a1 a2 a3) (0, 0) _ H1.out Tryz.underlying128 rfl info_desk (desk_fits _ _ _) _ (desk_all _ _ _) ?_) | (refine wpList_load_partG 126 _ rfl w.heap.size 0 2 rfl rfl 128 (deskC a1 a2 a3) (0, 0) _ H1.out Tryz.underlying126 rfl info_tile (desk_fits2 _ _ _) _ (desk_tile _ _ _) ?_) | (go_at_call 175; refine (HT.out _ HR.out).mono ?_; rintro e W1 ⟨rfl, hb1⟩; replace H1 := Lib.hid (below_row hb1 H1.out); replace HR := Lib.hid (below_row hb1 HR.out); replace k2 := cell_belowB hb1 k2; replace hb := hb.trans (hb1.mono hb.size); clear hb1))
  go_ret
  exact ⟨rfl, hb⟩

theorem l03Desk_any (wd hg a1 a2 a3 : Int) (iw : I8 wd) (ih : I8 hg) (ix : I8 a1) (iy : I8 a2) (il : I8 a3) (sv : Value) (gb : Nat) (T : TypeId) (fr : Nat × Nat) (w : World) (hb0 : w.heap[gb]? = some (.cells (roomC wd hg sv) T fr)) :
    Calls Tryz.prog 151 #[.pointer (some ⟨gb, 0, none⟩), .agg (deskC a1 a2 a3)] w fun e w' => e = .returned (.bool (isD wd hg a1 a2 a3)) ∧ Below w.heap.size w w' := by
  cases h : isT wd hg a1 a2 with
  | true => rw [show isD wd hg a1 a2 a3 = inI 0 3 a3 by simp [isD, h]]; exact l03Desk_true wd hg a1 a2 a3 iw ih ix iy il sv h gb T fr w hb0
  | false => rw [show isD wd hg a1 a2 a3 = false by simp [isD, h]]; exact l03Desk_false wd hg a1 a2 a3 iw ih ix iy il sv h gb T fr w hb0

set_option maxRecDepth 100000 in
set_option maxHeartbeats 1000000 in
theorem toDesk_any (a1 a2 a3 : Int) (w : World) :
    Calls Tryz.prog 79 #[.agg (deskC a1 a2 a3)] w fun e w' => e = .returned (.agg (deskC a1 a2 a3)) ∧ Below w.heap.size w w' := by
  go_enter Tryz.func79, Tryz.ntmps79
  go_upto_region 2 with (fail)
  refine abs_world (fun W => W.heap[w.heap.size]? = some (.cells (deskC a1 a2 a3) 132 (0, 0)) ∧ W.heap[w.heap.size + 1]? = some (.cells (deskC 0 0 0) 128 (0, 0)) ∧ W.heap[w.heap.size + 1 + 1]? = some (.cells (deskC 0 0 0) 128 (0, 0)) ∧ Below w.heap.size w W) (box3 w (.cells (deskC a1 a2 a3) 132) (.cells (deskC 0 0 0) 128) (.cells (deskC 0 0 0) 128)) ?_
  rintro W ⟨h0, h1, h2, hb⟩
  generalize hg2 : w.heap.size + 1 + 1 = g2 at *
  generalize hg1 : w.heap.size + 1 = g1 at *
  have l1 : w.heap.size ≤ g1 := by omega
  have l2 : w.heap.size ≤ g2 := by omega
  have n01 : w.heap.size ≠ g2 := by omega
  have n12 : g1 ≠ g2 := by omega
  clear hg1 hg2
  have H0 := Lib.hid h0
  have H1 := Lib.hid h1
  have H2 := Lib.hid h2
  clear h0 h1 h2
  go_upto_region 3 with (first | (refine wpList_load_partG 130 _ rfl w.heap.size 0 2 rfl rfl 132 (deskC a1 a2 a3) (0, 0) _ H0.out Tryz.underlying130 rfl info_tileL (desk_fits2 _ _ _) _ (desk_tile _ _ _) ?_) | (go_at_call 117; refine (toTile_any a1 a2 _).mono ?_; rintro e W1 ⟨rfl, hb1⟩; replace H0 := Lib.hid (below_row hb1 H0.out); replace H1 := Lib.hid (below_row hb1 H1.out); replace H2 := Lib.hid (below_row hb1 H2.out); replace hb := hb.trans (hb1.mono hb.size); clear hb1) | (refine wpList_store_part rfl 126 _ _ rfl g2 0 (tileC a1 a2) rfl rfl 128 (deskC 0 0 0) H2.out (by kernel_rfl) (by show 0 + 2 ≤ 3; decide) (tile_one _ _) ?_; rw [show laid (deskC 0 0 0) (tileC a1 a2) 0 = deskC a1 a2 0 from rfl]))
  refine abs_world (fun W => W.heap[w.heap.size]? = some (.cells (deskC a1 a2 a3) 132 (0, 0)) ∧ W.heap[g1]? = some (.cells (deskC 0 0 0) 128 (0, 0)) ∧ W.heap[g2]? = some (.cells (deskC a1 a2 0) 128 (0, 0)) ∧ Below w.heap.size w W) ⟨(setRow_other _ _ _ _ n01).trans H0.out, (setRow_other _ _ _ _ n12).trans H1.out, setRow_heap _ _ _ _ _ _ H2.out, below_setRow hb l2 _⟩ ?_
  clear H0 H1 H2 hb
  rintro W ⟨h0, h1, h2, hb⟩
  obtain ⟨_, _, k2⟩ := desk_cells h0
  have f2 := frozen_of_row W g2 2 _ _ h2
  have k3 := (desk_cells h2).2.2
  have H1 := Lib.hid h1
  have H2 := Lib.hid h2
  clear h0 h1 h2
  go_upto_region 4 with (fail)
  refine abs_world (fun W => W.heap[g1]? = some (.cells (deskC 0 0 0) 128 (0, 0)) ∧ W.heap[g2]? = some (.cells (deskC a1 a2 a3) 128 (0, 0)) ∧ Below w.heap.size w W) ⟨(heap_setCell_other _ _ _ _ n12).trans H1.out, heap_setCell_same _ _ _ _ _ _ H2.out, hb.setCell (p := ⟨g2, 2, none⟩) l2 _⟩ ?_
  clear H1 H2 hb k2 f2 k3
  rintro W ⟨h1, h2, hb⟩
  have H1 := Lib.hid h1
  have H2 := Lib.hid h2
  clear h1 h2
  go_wp2_with (first | (refine wpList_load_partG 128 _ rfl g2 0 3 rfl rfl 128 (deskC a1 a2 a3) (0, 0) _ H2.out Tryz.underlying128 rfl info_desk (desk_fits _ _ _) _ (desk_all _ _ _) ?_) | (refine wpList_store_part rfl 128 _ _ rfl g1 0 (deskC a1 a2 a3) rfl rfl 128 (deskC 0 0 0) H1.out (by kernel_rfl) (Nat.le_refl _) (desk_one _ _ _) ?_; rw [show laid (deskC 0 0 0) (deskC a1 a2 a3) 0 = deskC a1 a2 a3 from rfl]))
  exact bodyPost_ret (v := .agg (deskC a1 a2 a3)) (results_cell_row rfl _ _ _ _ _ _ _ rfl (setRow_heap _ _ _ _ _ _ H1.out) Tryz.underlying128 rfl (by kernel_rfl)) rfl ⟨rfl, below_setRow hb l1 _⟩

end Go.Proofs.YtpcmcopfdghdgaaGreatDoor

namespace Go.Proofs.YtpcmcopfdghdgaaGreatDoor
open Go.ChangeShapes Go.WideShapes Go.ChangeAt Go.RowKit Go.Deep Go.Joins

attribute [local go_sem] run_store_f

/-- A desk: where it stands, and the wall that it is faced to. -/
abbrev Dk := Int × Int × Int

def dkC (x : Dk) : Array Value := #[.int .i8 x.1, .int .i8 x.2.1, .int .i8 x.2.2]

def DkWf (x : Dk) : Prop := I8 x.1 ∧ I8 x.2.1 ∧ I8 x.2.2

def DksAt (W : World) (v : Value) (ws : List Dk) : Prop :=
  ∃ a cap, v = .slice a ws.length cap ∧ ws.length ≤ cap ∧ cap ≤ maxLen ∧ ∀ i x, ws[i]? = some x → ∃ g o, a = some ⟨g, o, none⟩ ∧
    W.cell? ⟨g, o + i * 3, none⟩ = some (.int .i8 x.1) ∧ W.cell? ⟨g, o + i * 3 + 1, none⟩ = some (.int .i8 x.2.1) ∧ W.cell? ⟨g, o + i * 3 + 2, none⟩ = some (.int .i8 x.2.2)

theorem dks_below {W W' : World} {v : Value} {ws : List Dk} (h : DksAt W v ws) (hb : Below W.heap.size W W') : DksAt W' v ws := by
  obtain ⟨a, cap, h1, h2, h3, h4⟩ := h
  refine ⟨a, cap, h1, h2, h3, fun i x hx => ?_⟩
  obtain ⟨g, o, e, c0, c1, c2⟩ := h4 i x hx
  exact ⟨g, o, e, cell_below hb c0, cell_below hb c1, cell_below hb c2⟩

set_option maxRecDepth 100000 in
theorem open_dks {H : Type} {enc : TypeId × Value → H} {W : World} {base : Nat} {spare : Nat → Bool} {held : Bool} {fuel : Nat} {v : Value} {x : DataW H × List MemPlace}
    (h : DataW.trod enc Tryz.prog W base spare held fuel 60 [v] = some x) : ∃ ws, DksAt W v ws ∧ ∀ x ∈ ws, DkWf x := by
  obtain ⟨f0, f1, s0, s1, hu, t0, t1, o0, o1, hu2, u0, u1, q0, q1⟩ := under_deskL
  obtain ⟨cd, ct, ci⟩ := cells_deskL
  rcases open_slice Tryz.underlying60 h with ⟨hc, _⟩ | ⟨a, len, cap, m, n, D, Pl, hc, _, hl, hm, hmm, _, hi⟩
  · obtain rfl : v = .slice none 0 0 := by simpa using hc
    exact ⟨[], ⟨none, 0, rfl, Nat.le_refl _, by unfold maxLen; omega, fun i x hx => by simp at hx⟩, fun x hx => by cases hx⟩
  · obtain rfl : v = .slice (some a) len cap := by simpa using hc
    have hspot : 0 < len → a.spot = none := by
      intro h0
      obtain ⟨cs', hcs, _⟩ := hi 0 (by rw [hmm]; split <;> omega)
      rw [cd] at hcs
      obtain ⟨_, hcl, hat⟩ := World.cells?_some hcs
      have g0 := hat 0 (by omega)
      rw [List.getElem?_eq_getElem (by omega)] at g0
      have := World.cell?_spot g0
      simpa [Addr.add] using this
    have key : ∀ i, i < len → ∃ x : Dk, DkWf x ∧ ∃ g o, some a = some ⟨g, o, none⟩ ∧
        W.cell? ⟨g, o + i * 3, none⟩ = some (.int .i8 x.1) ∧ W.cell? ⟨g, o + i * 3 + 1, none⟩ = some (.int .i8 x.2.1) ∧ W.cell? ⟨g, o + i * 3 + 2, none⟩ = some (.int .i8 x.2.2) := by
      intro i hlt
      have him : i < m := by rw [hmm]; split <;> omega
      obtain ⟨cs', hcs, ht⟩ := hi i him
      rw [cd] at hcs
      obtain ⟨_, hcl, hat⟩ := World.cells?_some hcs
      obtain ⟨y0, y1, n', _, _, h0, h1⟩ := trod_struct2 hu ht
      rw [t0, o0, ct] at h0
      rw [t1, o1, ci] at h1
      match cs', hcl with
      | [c0, c1, c2], _ =>
        obtain ⟨z0, z1, m', _, _, k0, k1⟩ := trod_struct2 hu2 h0
        rw [u0, q0, ci] at k0
        rw [u1, q1, ci] at k1
        obtain ⟨n0, e0, _, w0⟩ := DataW.trod_int Tryz.underlying24 k0
        obtain ⟨n1, e1, _, w1⟩ := DataW.trod_int Tryz.underlying24 k1
        obtain ⟨n2, e2, _, w2⟩ := DataW.trod_int Tryz.underlying24 h1
        simp only [List.drop_zero, List.drop_succ_cons, List.take_succ_cons, List.take_zero, List.cons.injEq, and_true] at e0 e1 e2
        subst e0 e1 e2
        have g0 := hat 0 (by omega)
        have g1 := hat 1 (by omega)
        have g2 := hat 2 (by omega)
        have hsp := hspot (by omega)
        obtain ⟨g, o, spot⟩ := a
        obtain rfl : spot = none := hsp
        simp only [addr_add, Nat.add_zero] at g0 g1 g2
        exact ⟨(n0, n1, n2), ⟨wf_i8 w0, wf_i8 w1, wf_i8 w2⟩, g, o, rfl, g0, g1, g2⟩
    obtain ⟨ws, hlen, hall⟩ := list_of len key
    subst hlen
    refine ⟨ws, ⟨some a, cap, rfl, hl, hm, fun i x hx => (hall i x hx).2⟩, fun x hx => ?_⟩
    obtain ⟨i, hi⟩ := List.mem_iff_getElem?.1 hx
    exact (hall i x hi).1

theorem toDk_any (x : Dk) (w : World) : Calls Tryz.prog 79 #[.agg (dkC x)] w fun e w' => e = .returned (.agg (dkC x)) ∧ Below w.heap.size w w' := toDesk_any x.1 x.2.1 x.2.2 w

theorem dk_fits (x : Dk) : 0 + 3 ≤ (dkC x).size := Nat.le_refl _

theorem dk_all (x : Dk) : (dkC x).extract 0 (0 + 3) = dkC x := rfl

theorem dk_one (x : Dk) : ∀ v ∈ dkC x, v.oneCell' = true := by
  intro v hv
  simp only [dkC, List.mem_toArray, List.mem_cons, List.not_mem_nil, or_false] at hv
  rcases hv with rfl | rfl | rfl <;> rfl

theorem dk_cells {x : Dk} {W : World} {g : Nat} {T : TypeId} {fr : Nat × Nat} (h : W.heap[g]? = some (.cells (dkC x) T fr)) :
    W.cell? ⟨g, 0, none⟩ = some (.int .i8 x.1) ∧ W.cell? ⟨g, 1, none⟩ = some (.int .i8 x.2.1) ∧ W.cell? ⟨g, 2, none⟩ = some (.int .i8 x.2.2) :=
  ⟨by rw [cell_of_row W _ _ _ _ _ h]; rfl, by rw [cell_of_row W _ _ _ _ _ h]; rfl, by rw [cell_of_row W _ _ _ _ _ h]; rfl⟩

theorem dk_at {W : World} {a : Option Addr} {n cap : Nat} {ws : List Dk} (h : DksAt W (.slice a n cap) ws) {k : Nat} {x : Dk} (hx : ws[k]? = some x) :
    ∃ g o, a = some ⟨g, o, none⟩ ∧ ∀ j v, (dkC x)[j]? = some v → W.cell? ⟨g, o + k * 3 + j, none⟩ = some v := by
  obtain ⟨a', cap', e, _, _, h4⟩ := h
  injection e with e1 e2 e3
  subst e1
  obtain ⟨g, o, rfl, c0, c1, c2⟩ := h4 k x hx
  refine ⟨g, o, rfl, fun j v hv => ?_⟩
  match j, hv with
  | 0, hv => simp [dkC] at hv; subst hv; exact c0
  | 1, hv => simp [dkC] at hv; subst hv; exact c1
  | 2, hv => simp [dkC] at hv; subst hv; exact c2
  | j + 3, hv => simp [dkC] at hv

theorem dks_len {W : World} {a : Option Addr} {n cap : Nat} {ws : List Dk} (h : DksAt W (.slice a n cap) ws) : n = ws.length ∧ n ≤ cap ∧ cap ≤ maxLen := by
  obtain ⟨a', cap', e, h2, h3, _⟩ := h
  injection e with e1 e2 e3
  subst e2; subst e3
  exact ⟨rfl, h2, h3⟩

def OwnDk (w : World) (b : Nat) (v : Value) (ws : List Dk) : Prop :=
  ∃ g cur, v = .slice (some ⟨g, 0, none⟩) ws.length ws.length ∧ b ≤ g ∧ w.heap[g]? = some (.cells cur 128 (0, 0)) ∧ cur.size = ws.length * 3 ∧ ws.length ≤ 1048576 ∧ ∀ k x, ws[k]? = some x → cur.extract (k * 3) (k * 3 + 3) = dkC x

theorem ownDk_below {w w' : World} {b B : Nat} {v : Value} {ws : List Dk} (h : OwnDk w b v ws) (hb : Below w.heap.size w w') (hB : B ≤ b) : OwnDk w' B v ws := by
  obtain ⟨g, cur, h1, h2, h3, h4, h5, h6⟩ := h
  exact ⟨g, cur, h1, by omega, below_row hb h3, h4, h5, h6⟩

theorem ownDk_at {w : World} {b : Nat} {v : Value} {ws : List Dk} (h : OwnDk w b v ws) : DksAt w v ws := by
  obtain ⟨g, cur, rfl, h2, h3, h4, h5, h6⟩ := h
  refine ⟨_, _, rfl, Nat.le_refl _, by unfold maxLen; omega, fun k x hx => ⟨g, 0, rfl, ?_, ?_, ?_⟩⟩
  all_goals
    have hk : k < ws.length := (List.getElem?_eq_some_iff.1 hx).1
    have he := h6 k x hx
    rw [cell_of_row w _ _ _ _ _ h3]
  · have : (cur.extract (k * 3) (k * 3 + 3))[0]? = some (.int .i8 x.1) := by rw [he]; rfl
    rw [Array.getElem?_extract] at this
    split at this
    · simpa using this
    · cases this
  · have : (cur.extract (k * 3) (k * 3 + 3))[1]? = some (.int .i8 x.2.1) := by rw [he]; rfl
    rw [Array.getElem?_extract] at this
    split at this
    · simpa using this
    · cases this
  · have : (cur.extract (k * 3) (k * 3 + 3))[2]? = some (.int .i8 x.2.2) := by rw [he]; rfl
    rw [Array.getElem?_extract] at this
    split at this
    · simpa using this
    · cases this

set_option maxRecDepth 100000 in
set_option maxHeartbeats 1000000 in
theorem szDeskS_any (a : Option Addr) (n cap : Nat) (left : Int) (hn : n ≤ 9223372036854775807) (h0 : 0 ≤ left) (h1 : left ≤ 1048576) (w : World) :
    Calls Tryz.prog 27 #[.slice a n cap, .int .i64 left] w fun e w' => e = .returned (.int .i64 (leftI n left)) ∧ w = w' := by
  unfold leftI
  by_cases h : left - (n : Int) < 0
  · rw [if_pos h]
    go_enter Tryz.func27, Tryz.ntmps27
    go_wp2
    go_ret
    exact ⟨rfl, rfl⟩
  · rw [if_neg h]
    go_enter Tryz.func27, Tryz.ntmps27
    go_wp2
    go_ret
    exact ⟨rfl, rfl⟩

theorem infoDkI : (Tryz.prog.info? 128).map (fun i => (i.zero, i.size, i.bytes)) = some (some (.agg #[.int .i8 0, .int .i8 0, .int .i8 0]), 3, 3) := by kernel_rfl

theorem make_dks (n : Nat) (hn : n ≤ 1048576) (w : World) : (Instr.makeSlice 72 (.int .i64 (n : Int)) (.int .i64 (n : Int))).run Tryz.prog w = .ok (.slice (some ⟨w.heap.size, 0, none⟩) n n) (w.alloc (.cells (madeCells #[.int .i8 0, .int .i8 0, .int .i8 0] (n * 3)) 128)) := by
  obtain ⟨i0, hi, hz0, hz1, hz2⟩ := info_parts infoDkI
  have h := run_make (P := Tryz.prog) w 72 128 i0 _ Tryz.underlying72 hi hz0 .i64 .i64 (n : Int) (n : Int) (by omega) (Int.le_refl _) (by rw [hz2]; omega) (by omega)
  rw [hz1] at h
  simpa [Value.cells] using h

def RetDk (w : World) (ws : List Dk) (e : Ending) (w' : World) : Prop := (∃ v, e = .returned v ∧ OwnDk w' w.heap.size v ws) ∧ Below w.heap.size w w'

set_option maxRecDepth 100000 in
set_option maxHeartbeats 1000000 in
theorem toDeskS_any (sv : Value) (ws : List Dk) (hlen : ws.length ≤ 1048576) (w : World) (hws : DksAt w sv ws) :
    Calls Tryz.prog 31 #[sv] w fun e w' => RetDk w ws e w' := by
  have HW := Lib.hid hws
  obtain ⟨a, cap, rfl, hl1, hl2, _⟩ := hws
  unfold maxLen at hl2
  generalize hn : ws.length = n at *
  have HN := Lib.hid hn
  have hmk := fun w => make_dks n hlen w
  clear hn
  go_enter Tryz.func31, Tryz.ntmps31
  go_wp2
  go_loopw [4] (fun i wr => ∃ k : Nat, k ≤ n ∧ i = .int .i64 k ∧ Below w.heap.size w wr ∧ ∃ cur, wr.heap[w.heap.size]? = some (.cells cur 128 (0, 0)) ∧ cur.size = n * 3 ∧ ∀ j x, j < k → ws[j]? = some x → cur.extract (j * 3) (j * 3 + 3) = dkC x) (fun i _ => n - (intOf i).toNat)
  case atStart => exact ⟨0, Nat.zero_le _, rfl, (Below.refl _ _).alloc (Nat.le_refl _) _, _, heap_alloc_new _ _, size_madeCells _ _, fun j x hj => by omega⟩
  case round =>
    clear hmk
    obtain ⟨k, hk, rfl, hb, cur, hg, hs, hp⟩ := hrel
    have HP := Lib.hid hp
    have HG := Lib.hid hg
    have hgl := row_lt hg
    clear hp hg
    by_cases hlt : k < n
    · have hx : ws[k]? = some (ws[k]'(by rw [HN.out]; exact hlt)) := List.getElem?_eq_getElem _
      obtain ⟨g, o, rfl, hc⟩ := dk_at (dks_below HW.out hb) hx
      have HC := Lib.hid hc
      generalize (ws[k]'(by rw [HN.out]; exact hlt)) = x at *
      have HX := Lib.hid hx
      have hks : k * 3 + 3 ≤ cur.size := by omega
      have z1 : (k : Int) < (n : Int) := by omega
      have z2 : (0 : Int) ≤ (k : Int) := by omega
      clear hc hx
      go_wp2_with (first | (refine wpList_load_cells rfl 132 _ rfl g (o + k * 3) 3 rfl _ Tryz.underlying132 rfl info_deskL (dkC x) rfl HC.out ?_) | (go_at_call 79; refine (toDk_any _ _).mono ?_; rintro e W1 ⟨rfl, hb1⟩) | (refine wpList_store_part rfl 128 _ _ rfl w.heap.size (k * 3) (dkC x) rfl rfl 128 cur (below_row hb1 HG.out) (by kernel_rfl) hks (dk_one _) ?_))
      go_roundw
      case rel =>
        refine ⟨k + 1, by omega, by go_num, below_setRow (hb.trans (hb1.mono hb.size)) (Nat.le_refl _) _, _, setRow_heap _ _ _ _ _ _ (below_row hb1 HG.out), by rw [laid_size _ _ _ hks]; exact hs, fun j y hj hy => ?_⟩
        by_cases e : j = k
        · subst e
          rw [HX.out] at hy
          obtain rfl := Option.some.inj hy
          exact laid_here cur (dkC x) (j * 3) hks
        · rw [laid_there cur (dkC x) (k * 3) (j * 3) 3 hks (by omega)]
          exact HP.out j y (by omega) hy
      case measure => simp [intOf]; omega
    · obtain rfl : k = n := by omega
      have HR : Hid (OwnDk wr w.heap.size (.slice (some ⟨w.heap.size, 0, none⟩) k k) ws) := by
        refine ⟨_, cur, by rw [HN.out], Nat.le_refl _, HG.out, by rw [HN.out]; exact hs, by rw [HN.out]; exact hlen, fun j x hx => ?_⟩
        have := (List.getElem?_eq_some_iff.1 hx).1
        exact HP.out j x (by have := HN.out; omega) hx
      go_wp2
      go_ret
      exact ⟨⟨_, rfl, HR.out⟩, hb⟩

set_option maxRecDepth 100000 in
set_option maxHeartbeats 4000000 in
theorem eqTile_anyD (p q : Int) (w : World) : Calls Tryz.prog 127 #[.agg (tileC p q), .agg (tileC p q)] w fun e w' => e = .returned (.bool true) ∧ Below w.heap.size w w' := by
  have z1 : (p != p) = false := by simp
  have z2 : (q != q) = false := by simp
  have HA := Lib.hid (two_at w (.cells (tileC p q) 126) (.cells (tileC p q) 126))
  go_enter Tryz.func127, Tryz.ntmps127
  go_upto_region 1 with (fail)
  refine abs_world (fun W => W.heap[w.heap.size]? = some (.cells (tileC p q) 126 (0, 0)) ∧ W.heap[w.heap.size + 1]? = some (.cells (tileC p q) 126 (0, 0)) ∧ Below w.heap.size w W) HA.out ?_
  clear HA
  rintro W ⟨h0, h1, hb⟩
  obtain ⟨k0, k1⟩ := tile_cells h0
  obtain ⟨p0, p1⟩ := tile_cells h1
  clear h0 h1
  go_wp2
  go_ret
  exact ⟨rfl, hb⟩

set_option maxRecDepth 100000 in
set_option maxHeartbeats 4000000 in
theorem eqDk_any (x : Dk) (w : World) : Calls Tryz.prog 85 #[.agg (dkC x), .agg (dkC x)] w fun e w' => e = .returned (.bool true) ∧ Below w.heap.size w w' := by
  show Calls Tryz.prog 85 #[.agg (deskC x.1 x.2.1 x.2.2), .agg (deskC x.1 x.2.1 x.2.2)] w fun e w' => e = .returned (.bool true) ∧ Below w.heap.size w w'
  have HA := Lib.hid (two_at w (.cells (deskC x.1 x.2.1 x.2.2) 128) (.cells (deskC x.1 x.2.1 x.2.2) 128))
  go_enter Tryz.func85, Tryz.ntmps85
  go_upto_region 1 with (fail)
  refine abs_world (fun W => W.heap[w.heap.size]? = some (.cells (deskC x.1 x.2.1 x.2.2) 128 (0, 0)) ∧ W.heap[w.heap.size + 1]? = some (.cells (deskC x.1 x.2.1 x.2.2) 128 (0, 0)) ∧ Below w.heap.size w W) HA.out ?_
  clear HA
  rintro W ⟨h0, h1, hb⟩
  have n01 : w.heap.size < w.heap.size + 1 := by omega
  generalize w.heap.size + 1 = b1 at *
  have k2 := (desk_cells h0).2.2
  have p2 := (desk_cells h1).2.2
  have z3 : (x.2.2 != x.2.2) = false := by simp
  have H0 := Lib.hid h0
  have H1 := Lib.hid h1
  clear h0 h1
  go_wp2_with (first | (refine wpList_load_partG 126 _ rfl w.heap.size 0 2 rfl rfl 128 (deskC x.1 x.2.1 x.2.2) (0, 0) _ H0.out Tryz.underlying126 rfl info_tile (desk_fits2 _ _ _) _ (desk_tile _ _ _) ?_) | (refine wpList_load_partG 126 _ rfl b1 0 2 rfl rfl 128 (deskC x.1 x.2.1 x.2.2) (0, 0) _ H1.out Tryz.underlying126 rfl info_tile (desk_fits2 _ _ _) _ (desk_tile _ _ _) ?_) | (go_at_call 127; refine (eqTile_anyD _ _ _).mono ?_; rintro e W1 ⟨rfl, hb1⟩; replace k2 := cell_belowB hb1 k2; replace p2 := cell_belowB hb1 p2; replace hb := hb.trans (hb1.mono hb.size); clear hb1))
  go_ret
  exact ⟨rfl, hb⟩

set_option maxRecDepth 100000 in
set_option maxHeartbeats 1000000 in
theorem eqDeskS_any (v1 v2 : Value) (ws : List Dk) (w : World) (hv1 : DksAt w v1 ws) (hv2 : DksAt w v2 ws) :
    Calls Tryz.prog 36 #[v1, v2] w fun e w' => e = .returned (.bool true) ∧ Below w.heap.size w w' := by
  have HW1 := Lib.hid hv1
  have HW2 := Lib.hid hv2
  obtain ⟨a1, c1, rfl, hl1, hm1, _⟩ := hv1
  obtain ⟨a2, c2, rfl, hl2, hm2, _⟩ := hv2
  unfold maxLen at hm1 hm2
  generalize hn : ws.length = n at *
  have HN := Lib.hid hn
  have zn : ((n : Int) != (n : Int)) = false := by simp
  clear hn
  go_enter Tryz.func36, Tryz.ntmps36
  go_wp2
  go_loopw [5] (fun i wr => ∃ k : Nat, k ≤ n ∧ i = .int .i64 k ∧ Below w.heap.size w wr) (fun i _ => n - (intOf i).toNat)
  case atStart => exact ⟨0, Nat.zero_le _, rfl, Below.refl _ _⟩
  case round =>
    obtain ⟨k, hk, rfl, hb⟩ := hrel
    by_cases hlt : k < n
    · have hx : ws[k]? = some (ws[k]'(by rw [HN.out]; exact hlt)) := List.getElem?_eq_getElem _
      obtain ⟨g1, o1, rfl, hc1⟩ := dk_at (dks_below HW1.out hb) hx
      obtain ⟨g2, o2, rfl, hc2⟩ := dk_at (dks_below HW2.out hb) hx
      have HC1 := Lib.hid hc1
      have HC2 := Lib.hid hc2
      generalize (ws[k]'(by rw [HN.out]; exact hlt)) = x at *
      have z1 : (k : Int) < (n : Int) := by omega
      have z2 : (0 : Int) ≤ (k : Int) := by omega
      have z3 : decide ((k : Int) < (n : Int)) = true := decide_eq_true z1
      clear hc1 hc2 hx
      go_wp2
      refine wp_region_held_drew (S := (fun W => (∀ j v, (dkC x)[j]? = some v → W.cell? ⟨g1, o1 + k * 3 + j, none⟩ = some v) ∧ (∀ j v, (dkC x)[j]? = some v → W.cell? ⟨g2, o2 + k * 3 + j, none⟩ = some v) ∧ Below w.heap.size w W)) (by kernel_rfl) ⟨HC1.out, HC2.out, hb.drew⟩ (fun hHeld => ?_)
      refine take_op (i := 0) (d := 17) (v := ?_) rfl rfl (by kernel_rfl) (by kernel_rfl) (by kernel_rfl) (fun _ _ _ h => h) (Or.inl ⟨by rfl, ?hy0u1⟩) hHeld ?rest0u1
      case hy0u1 =>
        intro w' hS'
        go_simp
        try with_reducible rfl
      simp only [List.setIfInBounds_toArray, List.set_cons_zero, List.set_cons_succ]
      refine take_op (i := 1) (d := 18) (v := ?_) rfl rfl (by kernel_rfl) (by kernel_rfl) (by kernel_rfl) (fun _ _ _ h => h) (Or.inl ⟨by rfl, ?hy1u2⟩) hHeld ?rest1u2
      case hy1u2 =>
        intro w' hS'
        go_simp
        try with_reducible rfl
      simp only [List.setIfInBounds_toArray, List.set_cons_zero, List.set_cons_succ]
      refine take_op (i := 2) (d := 19) (v := ?_) rfl rfl (by kernel_rfl) (by kernel_rfl) (by kernel_rfl) (fun _ _ _ h => h) (Or.inl ⟨by rfl, ?hy2u3⟩) hHeld ?rest2u3
      case hy2u3 =>
        intro w' hS'
        go_simp
        try with_reducible rfl
      simp only [List.setIfInBounds_toArray, List.set_cons_zero, List.set_cons_succ]
      refine take_op (i := 3) (d := 20) (v := .agg (dkC x)) rfl rfl (by kernel_rfl) (by kernel_rfl) (by kernel_rfl) (fun _ _ _ h => h) (yields_cells (by rfl) 128 (.tmp 19) (by rfl) g1 (o1 + k * 3) 3 (by rfl) _ Tryz.underlying128 rfl info_desk (dkC x) rfl (fun W h => h.1)) hHeld ?_
      simp only [List.setIfInBounds_toArray, List.set_cons_zero, List.set_cons_succ]
      refine take_op (i := 4) (d := 21) (v := ?_) rfl rfl (by kernel_rfl) (by kernel_rfl) (by kernel_rfl) (fun _ _ _ h => h) (Or.inl ⟨by rfl, ?hy4u4⟩) hHeld ?rest4u4
      case hy4u4 =>
        intro w' hS'
        go_simp
        try with_reducible rfl
      simp only [List.setIfInBounds_toArray, List.set_cons_zero, List.set_cons_succ]
      refine take_op (i := 5) (d := 22) (v := ?_) rfl rfl (by kernel_rfl) (by kernel_rfl) (by kernel_rfl) (fun _ _ _ h => h) (Or.inl ⟨by rfl, ?hy5u5⟩) hHeld ?rest5u5
      case hy5u5 =>
        intro w' hS'
        go_simp
        try with_reducible rfl
      simp only [List.setIfInBounds_toArray, List.set_cons_zero, List.set_cons_succ]
      refine take_op (i := 6) (d := 23) (v := ?_) rfl rfl (by kernel_rfl) (by kernel_rfl) (by kernel_rfl) (fun _ _ _ h => h) (Or.inl ⟨by rfl, ?hy6u6⟩) hHeld ?rest6u6
      case hy6u6 =>
        intro w' hS'
        go_simp
        try with_reducible rfl
      simp only [List.setIfInBounds_toArray, List.set_cons_zero, List.set_cons_succ]
      refine take_op (i := 7) (d := 24) (v := .agg (dkC x)) rfl rfl (by kernel_rfl) (by kernel_rfl) (by kernel_rfl) (fun _ _ _ h => h) (yields_cells (by rfl) 128 (.tmp 23) (by rfl) g2 (o2 + k * 3) 3 (by rfl) _ Tryz.underlying128 rfl info_desk (dkC x) rfl (fun W h => h.2.1)) hHeld ?_
      simp only [List.setIfInBounds_toArray, List.set_cons_zero, List.set_cons_succ]
      refine wpAnyH_ready (rs := [8]) (by kernel_rfl) (by simp) ?_
      refine AllReadyH.cons rfl (fun K hK => ?_) AllReadyH.nil
      go_simp
      refine (eqDk_any x _).mono ?_
      rintro e W1 ⟨rfl, hb1⟩
      refine hK.out _ _ (⟨fun j v h => cell_below hb1 (hHeld.1 j v h), fun j v h => cell_below hb1 (hHeld.2.1 j v h), hHeld.2.2.trans (hb1.mono hHeld.2.2.size)⟩) (fun hHeld2 => ?_)
      clear hK K
      replace hHeld := hHeld2
      clear hHeld2
      refine take_op (i := 9) (d := 26) (v := ?_) rfl rfl (by kernel_rfl) (by kernel_rfl) (by kernel_rfl) (fun _ _ _ h => h) (Or.inl ⟨by rfl, ?hy9u7⟩) hHeld ?rest9u7
      case hy9u7 =>
        intro w' hS'
        go_simp
        try with_reducible rfl
      simp only [List.setIfInBounds_toArray, List.set_cons_zero, List.set_cons_succ]
      refine wpAnyH_done (by kernel_rfl) ?_ _
      have hbx := hHeld.2.2
      clear hHeld hb
      go_wp2
      go_roundw
      case rel => exact ⟨k + 1, by omega, by go_num, hbx⟩
      case measure => simp [intOf]; omega
    · obtain rfl : k = n := by omega
      go_wp2
      go_ret
      exact ⟨rfl, hb⟩

end Go.Proofs.YtpcmcopfdghdgaaGreatDoor

namespace Go.Proofs.YtpcmcopfdghdgaaGreatDoor
open Go.RowKit

attribute [local go_sem] run_store_f

/-- Is a desk one of a room's? -/
def fitD (wd hg : Int) (x : Dk) : Bool := isD wd hg x.1 x.2.1 x.2.2

theorem isDk_any (wd hg : Int) (sv : Value) (x : Dk) (w : World) : Calls Tryz.prog 162 #[.agg (roomC wd hg sv), .agg (dkC x)] w fun e w' => e = .returned (.bool (fitD wd hg x)) ∧ Below w.heap.size w w' := isDesk_any wd hg x.1 x.2.1 x.2.2 sv w

set_option maxRecDepth 100000 in
set_option maxHeartbeats 1000000 in
theorem deskFn_any (wd hg : Int) (sv : Value) (x : Dk) (gb : Nat) (w : World) (hb0 : w.heap[gb]? = some (.cells (roomC wd hg sv) 70 (0, 0))) :
    Calls Tryz.prog 161 #[.agg (dkC x), .pointer (some ⟨gb, 0, none⟩)] w fun e w' => e = .returned (.bool (!fitD wd hg x)) ∧ Below w.heap.size w w' := by
  have hl := row_lt hb0
  have H0 := Lib.hid hb0
  clear hb0
  go_enter Tryz.func161, Tryz.ntmps161
  go_upto_region 1 with (fail)
  refine abs_world (fun W => Below w.heap.size w W ∧ W.heap[w.heap.size]? = some (.cells (dkC x) 128 (0, 0))) ⟨(Below.refl _ _).alloc (Nat.le_refl _) _, heap_alloc_new _ _⟩ ?_
  rintro W ⟨hb, h1⟩
  replace H0 := Lib.hid (below_row hb H0.out)
  have H1 := Lib.hid h1
  clear h1
  go_wp2_with (first | (refine wpList_load_part rfl 70 _ rfl gb 0 3 rfl 70 (roomC wd hg sv) (0, 0) _ H0.out Tryz.underlying70 rfl info_room (room_fits _ _ _) _ (room_all _ _ _) ?_) | (refine wpList_load_part rfl 128 _ rfl w.heap.size 0 3 rfl 128 (dkC x) (0, 0) _ H1.out Tryz.underlying128 rfl info_desk (dk_fits _) _ (dk_all _) ?_) | (go_at_call 162; refine (isDk_any wd hg sv x _).mono ?_; rintro e W1 ⟨rfl, hb1⟩))
  go_ret
  exact ⟨rfl, hb.trans (hb1.mono hb.size)⟩

/-- What looking for a window that does not fit finds. -/
def FoundDk (wd hg : Int) (ws : List Dk) (w : World) (e : Ending) (w' : World) : Prop := ∃ r : Int, e = .returned (.int .i64 r) ∧ decide (0 ≤ r) = !ws.all (fitD wd hg) ∧ Below w.heap.size w w'

set_option maxRecDepth 100000 in
set_option maxHeartbeats 1000000 in
theorem indexDk_any (wd hg : Int) (sv dv : Value) (ws : List Dk) (gb : Nat) (w : World) (hb0 : w.heap[gb]? = some (.cells (roomC wd hg sv) 70 (0, 0))) (hws : DksAt w dv ws) :
    Calls Tryz.prog 183 #[dv, .func (.func 161) #[] #[.pointer (some ⟨gb, 0, none⟩)]] w fun e w' => FoundDk wd hg ws w e w' := by
  have hws' := hws
  obtain ⟨a, cap, rfl, hl1, hl2, _⟩ := hws'
  have HW := Lib.hid hws
  have H0 := Lib.hid hb0
  clear hws hb0
  unfold maxLen at hl2
  generalize hn : ws.length = n at *
  go_enter Tryz.func183, Tryz.ntmps183
  go_wp2
  go_loopw [8] (fun i wr => ∃ k : Nat, k ≤ n ∧ i = .int .i64 k ∧ Below w.heap.size w wr ∧ (ws.take k).all (fitD wd hg) = true) (fun i _ => n - (intOf i).toNat)
  case atStart => exact ⟨0, Nat.zero_le _, rfl, Below.refl _ _, rfl⟩
  case round =>
    obtain ⟨k, hk, rfl, hb, hall⟩ := hrel
    have HA := Lib.hid hall
    clear hall
    by_cases hlt : k < n
    · have hx : ws[k]? = some ws[k] := List.getElem?_eq_getElem (by omega)
      obtain ⟨g, o, rfl, hc⟩ := dk_at (dks_below HW.out hb) hx
      have HC := Lib.hid hc
      have hts : ws.take (k + 1) = ws.take k ++ [ws[k]] := by rw [List.take_succ_eq_append_getElem (by omega)]
      have HT := Lib.hid hts
      have hdx := HW.out
      generalize ws[k] = x at *
      have HD : Hid (ws[k]? = some x) := Lib.hid hx
      replace H0 := Lib.hid (below_row hb H0.out)
      have z1 : (k : Int) < (n : Int) := by omega
      have z2 : (0 : Int) ≤ (k : Int) := by omega
      clear hc hts hx hdx
      cases hf : fitD wd hg x with
      | true =>
        have hnf : (!fitD wd hg x) = false := by rw [hf]; rfl
        go_wp2_with (first | (refine wpList_load_cells rfl 128 _ rfl g (o + k * 3) 3 rfl _ Tryz.underlying128 rfl info_desk (dkC x) rfl HC.out ?_) | (go_at_call 161; refine (deskFn_any wd hg _ x gb _ H0.out).mono ?_; rw [hnf]; rintro e W1 ⟨rfl, hb1⟩))
        go_roundw
        case rel => exact ⟨k + 1, by omega, by go_num, hb.trans (hb1.mono hb.size), by rw [HT.out, List.all_append, HA.out]; simp [hf]⟩
        case measure => simp [intOf]; omega
      | false =>
        have hnf : (!fitD wd hg x) = true := by rw [hf]; rfl
        go_wp2_with (first | (refine wpList_load_cells rfl 128 _ rfl g (o + k * 3) 3 rfl _ Tryz.underlying128 rfl info_desk (dkC x) rfl HC.out ?_) | (go_at_call 161; refine (deskFn_any wd hg _ x gb _ H0.out).mono ?_; rw [hnf]; rintro e W1 ⟨rfl, hb1⟩))
        go_ret
        refine ⟨k, rfl, ?_, hb.trans (hb1.mono hb.size)⟩
        have hmem := List.mem_of_getElem? HD.out
        have hall : ws.all (fitD wd hg) = false := by
          rw [Bool.eq_false_iff]
          intro ha
          have := List.all_eq_true.1 ha x hmem
          rw [hf] at this; cases this
        rw [hall]; simp
    · obtain rfl : k = n := by omega
      go_wp2
      go_ret
      refine ⟨-1, rfl, ?_, hb⟩
      have hall := HA.out
      rw [List.take_of_length_le (by omega)] at hall
      rw [hall]; rfl

set_option maxRecDepth 100000 in
set_option maxHeartbeats 1000000 in
theorem containsDk_any (wd hg : Int) (sv dv : Value) (ws : List Dk) (gb : Nat) (w : World) (hb0 : w.heap[gb]? = some (.cells (roomC wd hg sv) 70 (0, 0))) (hws : DksAt w dv ws) :
    Calls Tryz.prog 160 #[dv, .func (.func 161) #[] #[.pointer (some ⟨gb, 0, none⟩)]] w fun e w' => e = .returned (.bool (!ws.all (fitD wd hg))) ∧ Below w.heap.size w w' := by
  have HC := indexDk_any wd hg sv dv ws gb w hb0 hws
  clear hb0 hws
  go_enter Tryz.func160, Tryz.ntmps160
  go_wp2_with (go_at_call 183; refine HC.mono ?_; rintro e W1 ⟨r, rfl, hd, hb1⟩)
  go_ret
  first | exact ⟨ret_boolR hd, hb1⟩ | exact ⟨rfl, hb1⟩

set_option maxRecDepth 100000 in
set_option maxHeartbeats 4000000 in
theorem areDesks_any (wd hg : Int) (sv dv : Value) (ds : List Dk) (w : World) (hds : DksAt w dv ds) :
    Calls Tryz.prog 123 #[.agg (roomC wd hg sv), dv] w fun e w' => e = .returned (.bool (ds.all (fitD wd hg))) ∧ Below w.heap.size w w' := by
  have HD := Lib.hid hds
  have HCC := Lib.hid (fun gb W h => containsDk_any wd hg sv dv ds gb W h)
  generalize ds.all (fitD wd hg) = ok at *
  clear hds
  go_enter Tryz.func123, Tryz.ntmps123
  go_upto_region 1 with (fail)
  refine abs_world (fun W => Below w.heap.size w W ∧ W.heap[w.heap.size]? = some (.cells (roomC wd hg sv) 70 (0, 0))) ⟨(Below.refl _ _).alloc (Nat.le_refl _) _, heap_alloc_new _ _⟩ ?_
  rintro W ⟨hb, h1⟩
  have HC := Lib.hid (HCC.out w.heap.size W h1 (dks_below HD.out hb))
  clear h1 HD HCC
  go_wp2_with (go_at_call 160; refine HC.out.mono ?_; rintro e W1 ⟨rfl, hb1⟩)
  go_ret
  first | exact ⟨rfl, hb.trans (hb1.mono hb.size)⟩ | exact ⟨ret_boolR (Bool.not_not _), hb.trans (hb1.mono hb.size)⟩ | exact ⟨ret_boolR (by cases ok <;> rfl), hb.trans (hb1.mono hb.size)⟩

end Go.Proofs.YtpcmcopfdghdgaaGreatDoor

namespace Go.Proofs.YtpcmcopfdghdgaaGreatDoor
open Go.RowKit

def plainB (a : Nat) : Bool := betw a 3380609024 1233125376

set_option maxHeartbeats 1000000 in
theorem isPlain_any (a : Nat) (w : World) : Calls Tryz.prog 155 #[.float .f32 a] w fun e w' => e = .returned (.bool (plainB a)) ∧ w = w' := by
  unfold plainB betw
  rcases h0 : FloatKind.f32.format.order a 3380609024 with _ | (_ | _ | _)
  all_goals
    rcases h1 : FloatKind.f32.format.order a 1233125376 with _ | (_ | _ | _)
    all_goals
      go_enter Tryz.func155, Tryz.ntmps155
      go_wp2
      go_ret
      exact ⟨rfl, rfl⟩

set_option maxHeartbeats 1000000 in
theorem l01Plain_any (a : Nat) (w : World) : Calls Tryz.prog 150 #[.float .f32 a] w fun e w' => e = .returned (.bool (plainB a)) ∧ w = w' := by
  unfold plainB betw
  rcases h0 : FloatKind.f32.format.order a 3380609024 with _ | (_ | _ | _)
  all_goals
    rcases h1 : FloatKind.f32.format.order a 1233125376 with _ | (_ | _ | _)
    all_goals
      go_enter Tryz.func150, Tryz.ntmps150
      go_wp2
      go_ret
      exact ⟨rfl, rfl⟩

end Go.Proofs.YtpcmcopfdghdgaaGreatDoor

namespace Go.Proofs.YtpcmcopfdghdgaaGreatDoor
open Go.ChangeShapes Go.WideShapes Go.ChangeAt Go.RowKit Go.Deep Go.Joins

def okPe (l m g : Nat) : Bool := plainB l && plainB m && plainB g && le0 (FloatKind.f32.format.order l m)

set_option maxRecDepth 100000 in
set_option maxHeartbeats 1000000 in
theorem implValidPerson_any (l m g : Nat) (w : World) :
    Calls Tryz.prog 119 #[.agg (persC l m g)] w fun e w' => e = .returned (.bool (okPe l m g)) ∧ Below w.heap.size w w' := by
  unfold persC okPe
  rcases h0 : FloatKind.f32.format.order l m with _ | (_ | _ | _)
  all_goals
    cases hl : plainB l <;> cases hm : plainB m <;> cases hg : plainB g
    all_goals
      go_enter Tryz.func119, Tryz.ntmps119
      go_wp2_with (go_at_call 155; refine (isPlain_any _ _).mono ?_; rw [‹plainB _ = _›]; rintro e w' ⟨rfl, rfl⟩)
      go_ret
      exact ⟨rfl, by repeat' first | exact Below.refl _ _ | assumption | refine Below.alloc ?_ (by first | omega | (simp; done) | (simp; omega)) _ | refine Below.setCell ?_ (by first | omega | (simp; done) | (simp; omega)) _ | refine Below.drew ?_⟩

set_option maxRecDepth 100000 in
set_option maxHeartbeats 1000000 in
theorem specValidPerson_any (l m g : Nat) (w : World) :
    Calls Tryz.prog 113 #[.agg (persC l m g)] w fun e w' => e = .returned (.bool (okPe l m g)) ∧ Below w.heap.size w w' := by
  unfold persC okPe
  rcases h0 : FloatKind.f32.format.order l m with _ | (_ | _ | _)
  all_goals
    cases hl : plainB l <;> cases hm : plainB m <;> cases hg : plainB g
    all_goals
      go_enter Tryz.func113, Tryz.ntmps113
      go_wp2_with (go_at_call 150; refine (l01Plain_any _ _).mono ?_; rw [‹plainB _ = _›]; rintro e w' ⟨rfl, rfl⟩)
      go_ret
      exact ⟨rfl, by repeat' first | exact Below.refl _ _ | assumption | refine Below.alloc ?_ (by first | omega | (simp; done) | (simp; omega)) _ | refine Below.setCell ?_ (by first | omega | (simp; done) | (simp; omega)) _ | refine Below.drew ?_⟩

end Go.Proofs.YtpcmcopfdghdgaaGreatDoor

namespace Go.Proofs.YtpcmcopfdghdgaaGreatDoor
open Go.ChangeShapes Go.WideShapes Go.ChangeAt Go.RowKit

theorem laidMet_skip {P : Program} {x y : String × DataW Unit} {r : List (String × DataW Unit)} {w : World} (h : laidMet P (x :: y :: r) w) : laidMet P (x :: r) w := by
  obtain ⟨ps, hv, hnd, hrows⟩ := h
  obtain ⟨n, d⟩ := x
  obtain ⟨m, e⟩ := y
  obtain ⟨g, t, cs, fuel, p, q, h1, h2, h3, h4, hq, rfl⟩ := hv
  obtain ⟨g', t', cs', fuel', p', q', _, _, _, _, hq', rfl⟩ := hq
  refine ⟨MemPlace.row ⟨g, 0, none⟩ cs.size ++ p ++ q', ⟨g, t, cs, fuel, p, q', h1, h2, h3, h4, hq', rfl⟩, ?_, fun b off hm => hrows b off ?_⟩
  · exact hnd.sublist (List.Sublist.append (List.Sublist.refl _) (List.sublist_append_right _ _))
  · rcases List.mem_append.1 hm with hm | hm
    · exact List.mem_append_left _ hm
    · exact List.mem_append_right _ (List.mem_append_right _ hm)

/-- The variables that the rows list, and what they hold. -/
def lst : List (String × DataW Unit) := [("loop.example/g01367/impl.errInvalid", Rows.laid_loop_example_g01367_impl_errInvalid), ("loop.example/g01367/impl.errRange", Rows.laid_loop_example_g01367_impl_errRange), ("loop.example/g01367/impl.errLimit", Rows.laid_loop_example_g01367_impl_errLimit), ("loop.example/g01367/impl.errNotFound", Rows.laid_loop_example_g01367_impl_errNotFound)]

theorem star_err : ("*" ++ "errors.errorString") = "*errors.errorString" := by decide
theorem row_err (u : TypeId) (h : Tryz.prog.typeName? 3 u = some "*errors.errorString") : u = 267 :=
  typeName_ptr_named (nm := "errors.errorString") (by rw [star_err]; kernel_rfl) (by kernel_rfl) (by decide) u (by rw [star_err]; exact h)
theorem g_inv : Tryz.prog.globalNamed "loop.example/g01367/impl.errInvalid" = some 0 := by kernel_rfl
theorem g_ran : Tryz.prog.globalNamed "loop.example/g01367/impl.errRange" = some 1 := by kernel_rfl
theorem g_lim : Tryz.prog.globalNamed "loop.example/g01367/impl.errLimit" = some 2 := by kernel_rfl
theorem g_not : Tryz.prog.globalNamed "loop.example/g01367/impl.errNotFound" = some 3 := by kernel_rfl
theorem gt_inv : (Tryz.prog.globals[0]?).map (·.type) = some 100 := by kernel_rfl
theorem gt_ran : (Tryz.prog.globals[1]?).map (·.type) = some 100 := by kernel_rfl
theorem gt_lim : (Tryz.prog.globals[2]?).map (·.type) = some 100 := by kernel_rfl
theorem gt_not : (Tryz.prog.globals[3]?).map (·.type) = some 100 := by kernel_rfl

/-- A sentinel's value. -/
def errV (a : Addr) : Value := .iface 267 (.pointer (some a))
/-- A place whose block is a row of cells that is not marked. -/
def Plain0 (W : World) (a : Addr) : Prop := ∃ c t, W.heap[a.block]? = some (.cells c t (0, 0))

/-- The four sentinels, each at a place of its own. -/
structure ErrsAt (W : World) (a0 a1 a2 a3 : Addr) : Prop where
  v0 : W.cell? ⟨0, 0, none⟩ = some (errV a0)
  v1 : W.cell? ⟨1, 0, none⟩ = some (errV a1)
  v2 : W.cell? ⟨2, 0, none⟩ = some (errV a2)
  v3 : W.cell? ⟨3, 0, none⟩ = some (errV a3)
  b0 : Plain0 W a0
  b1 : Plain0 W a1
  b2 : Plain0 W a2
  b3 : Plain0 W a3
  n01 : a0 ≠ a1
  n02 : a0 ≠ a2
  n03 : a0 ≠ a3
  n12 : a1 ≠ a2
  n13 : a1 ≠ a3
  n23 : a2 ≠ a3

theorem plain0_below {W W' : World} {a : Addr} (hb : Below W.heap.size W W') (h : Plain0 W a) : Plain0 W' a := by
  obtain ⟨c, t, h⟩ := h
  exact ⟨c, t, (hb.block _ (Array.getElem?_eq_some_iff.1 h).1).trans h⟩
theorem errs_below {W W' : World} {a0 a1 a2 a3 : Addr} (h : ErrsAt W a0 a1 a2 a3) (hb : Below W.heap.size W W') : ErrsAt W' a0 a1 a2 a3 :=
  have cb : ∀ {a : Addr} {v : Value}, W.cell? a = some v → W'.cell? a = some v := fun {a _} h => (hb.cell (World.block_lt_of_cell? W a h)).trans h
  ⟨cb h.v0, cb h.v1, cb h.v2, cb h.v3, plain0_below hb h.b0, plain0_below hb h.b1, plain0_below hb h.b2, plain0_below hb h.b3, h.n01, h.n02, h.n03, h.n12, h.n13, h.n23⟩

theorem two_of {n0 n1 : String} {t0 t1 : List UInt8} {r : List (String × DataW Unit)} {W : World} {g0 g1 : Nat}
    (h : laidMet Tryz.prog ((n0, .iface "*errors.errorString" (.ptr (.agg [.lit (.string t0)]))) :: (n1, .iface "*errors.errorString" (.ptr (.agg [.lit (.string t1)]))) :: r) W)
    (hg0 : Tryz.prog.globalNamed n0 = some g0) (ht0 : (Tryz.prog.globals[g0]?).map (·.type) = some 100) (hg1 : Tryz.prog.globalNamed n1 = some g1) (ht1 : (Tryz.prog.globals[g1]?).map (·.type) = some 100) :
    ∃ a0 a1, W.cell? ⟨g0, 0, none⟩ = some (errV a0) ∧ W.cell? ⟨g1, 0, none⟩ = some (errV a1) ∧ a0 ≠ a1 ∧ Plain0 W a0 ∧ Plain0 W a1 := by
  obtain ⟨a0, a1, s0, s1, c0, c1, u0, u1, v0, v1, _, _, _, _, _, _, hne, hb0, hb1⟩ := laid_sentinels2 h hg0 ht0 hg1 ht1 Tryz.underlying100 row_err Tryz.underlying267 Tryz.underlying288 rfl rfl Tryz.underlying9 (by kernel_rfl) (by kernel_rfl)
  exact ⟨a0, a1, by simpa [errV] using World.var?_cell hg0 v0 0, by simpa [errV] using World.var?_cell hg1 v1 0, hne, ⟨_, _, hb0⟩, ⟨_, _, hb1⟩⟩

theorem errV_inj {W : World} {p : Addr} {a b : Addr} (h : W.cell? p = some (errV a)) (k : W.cell? p = some (errV b)) : b = a := by
  rw [h] at k
  simp only [errV, Option.some.injEq, Value.iface.injEq, Value.pointer.injEq, true_and] at k
  exact k.symm

theorem errs_of {W : World} (h : laidMetH Tryz.prog lst W) : ∃ a0 a1 a2 a3, ErrsAt W a0 a1 a2 a3 := by
  have h' : laidMet Tryz.prog lst W := h
  obtain ⟨a0, a1, v0, v1, n01, b0, b1⟩ := two_of h' g_inv gt_inv g_ran gt_ran
  obtain ⟨x0, a2, w0, v2, n02, _, b2⟩ := two_of (laidMet_skip h') g_inv gt_inv g_lim gt_lim
  obtain ⟨y0, a3, z0, v3, n03, _, b3⟩ := two_of (laidMet_skip (laidMet_skip h')) g_inv gt_inv g_not gt_not
  obtain ⟨x1, x2, w1, w2, n12, _, _⟩ := two_of h'.tail g_ran gt_ran g_lim gt_lim
  obtain ⟨y1, x3, z1, w3, n13, _, _⟩ := two_of (laidMet_skip h'.tail) g_ran gt_ran g_not gt_not
  obtain ⟨y2, y3, z2, z3, n23, _, _⟩ := two_of h'.tail.tail g_lim gt_lim g_not gt_not
  obtain rfl := errV_inj v0 w0
  obtain rfl := errV_inj v0 z0
  obtain rfl := errV_inj v1 w1
  obtain rfl := errV_inj v1 z1
  obtain rfl := errV_inj v2 w2
  obtain rfl := errV_inj v2 z2
  obtain rfl := errV_inj v3 w3
  obtain rfl := errV_inj v3 z3
  exact ⟨_, _, _, _, v0, v1, v2, v3, b0, b1, b2, b3, n01, n02, n03, n12, n13, n23⟩

end Go.Proofs.YtpcmcopfdghdgaaGreatDoor

namespace Go.Proofs.YtpcmcopfdghdgaaGreatDoor
open Go.RowKit Go.Extern.Stop Go.Stop Go.Extern

/-- The handle of the sentinels' type. -/
noncomputable def errH : Value := typeHandle Tryz.prog 267
theorem is_typeOf (v : Value) (w : World) : (Extern.ReflectliteType.typeOf #[.iface 267 v]).run Tryz.prog w = .ok (.iface 226 (.agg #[errH])) w := by kernel_rfl
theorem is_comparable (w : World) : (Extern.ReflectliteType.method (fun t => do Extern.Rtype.noPackHeld "Comparable" t; (fun a => Value.bool a.comparable) <$> typeInfo t) #[.agg #[errH]]).run Tryz.prog w = .ok (.bool true) w := by kernel_rfl
theorem is_method (n : Nat) (v : Value) (w : World) : (Go.method (n + 1) 226 v "Comparable").run Tryz.prog w = .ok (221, v) w := by kernel_rfl
theorem is_comp : (Tryz.prog.info? 267).map (·.comparable) = some true := by kernel_rfl
theorem is_size : (Tryz.prog.info? 288).map (·.size) = some 1 := by kernel_rfl
theorem is_noIs (v : Value) (xT : TypeId) (w : World) : (Instr.typeAssert (.iface 267 v) xT 253 true).run Tryz.prog w = .ok (.tuple #[.nilIface, .bool false]) w := run_typeAssert_lacksB Tryz.underlying253 (by kernel_rfl) (by kernel_rfl) v xT w
theorem is_noUnwrap (v : Value) (xT : TypeId) (w : World) : (Instr.typeAssert (.iface 267 v) xT 233 true).run Tryz.prog w = .ok (.tuple #[.nilIface, .bool false]) w := run_typeAssert_lacksB Tryz.underlying233 (by kernel_rfl) (by kernel_rfl) v xT w
theorem is_noUnwraps (v : Value) (xT : TypeId) (w : World) : (Instr.typeAssert (.iface 267 v) xT 235 true).run Tryz.prog w = .ok (.tuple #[.nilIface, .bool false]) w := run_typeAssert_lacksB Tryz.underlying235 (by kernel_rfl) (by kernel_rfl) v xT w

set_option maxRecDepth 1000000 in
theorem is_same {W : World} (a : Addr) : Calls Tryz.prog 164 #[errV a, errV a, .bool true] W fun e w' => e = .returned (.bool true) ∧ W = w' := by
  obtain ⟨i, hi, hcmp⟩ := Option.map_eq_some_iff.1 is_comp
  obtain ⟨j, hj, hjs⟩ := Option.map_eq_some_iff.1 is_size
  have heq := fun w => run_eql_iface_ptr_same (P := Tryz.prog) w a Tryz.underlying100 Tryz.underlying267 hi hcmp hj
  unfold errV
  go_enter Tryz.func164, Tryz.ntmps164
  go_wp2
  go_loopw [0] (fun E wl => wl = W ∧ E = .iface 267 (.pointer (some a))) (fun _ _ => 0)
  case atStart => exact ⟨rfl, rfl⟩
  case round =>
    obtain ⟨rfl, rfl⟩ := hrel
    go_wp2
    go_ret
    exact ⟨rfl, rfl⟩

set_option maxRecDepth 1000000 in
theorem is_other {W : World} {a b : Addr} (hne : a ≠ b) (ha : Plain0 W a) (hb : Plain0 W b) : Calls Tryz.prog 164 #[errV a, errV b, .bool true] W fun e w' => e = .returned (.bool false) ∧ W = w' := by
  obtain ⟨i, hi, hcmp⟩ := Option.map_eq_some_iff.1 is_comp
  obtain ⟨j, hj, hjs⟩ := Option.map_eq_some_iff.1 is_size
  obtain ⟨ca, ta, ha⟩ := ha
  obtain ⟨cb, tb, hb⟩ := hb
  have heq := run_eql_iface_ptr_other (P := Tryz.prog) W Tryz.underlying100 Tryz.underlying267 hi hcmp hj (by rw [hjs]; decide) hne ha hb
  have nE := is_noIs
  have uE := is_noUnwrap
  have vE := is_noUnwraps
  unfold errV
  go_enter Tryz.func164, Tryz.ntmps164
  go_wp2
  go_loopw [0] (fun E wl => wl = W ∧ E = .iface 267 (.pointer (some a))) (fun _ _ => 0)
  case atStart => exact ⟨rfl, rfl⟩
  case round =>
    obtain ⟨rfl, rfl⟩ := hrel
    go_wp2
    go_ret
    exact ⟨rfl, rfl⟩

/-- errors.Is of an error and a sentinel. -/
def IsB (W : World) (E : Value) (b : Addr) (r : Bool) : Prop := Calls Tryz.prog 124 #[E, errV b] W fun e w' => e = .returned (.bool r) ∧ W = w'

set_option maxRecDepth 1000000 in
theorem isB_nil (W : World) (b : Addr) : IsB W .nilIface b false := by
  have hn := run_eql_iface_nil_left (P := Tryz.prog) W 267 (.pointer (some b)) Tryz.underlying100
  unfold IsB errV
  go_enter Tryz.func124, Tryz.ntmps124
  go_wp2
  go_ret
  exact ⟨rfl, rfl⟩

set_option maxRecDepth 1000000 in
theorem isB_some (W : World) (a b : Addr) (r : Bool) (h : Calls Tryz.prog 164 #[errV a, errV b, .bool true] W fun e w' => e = .returned (.bool r) ∧ W = w') : IsB W (errV a) b r := by
  have h10 := @run_callFunc_extern Tryz.prog 163 _ Extern.ReflectliteType.typeOf Tryz.func163 (by kernel_rfl) (by kernel_rfl) (by kernel_rfl) (by kernel_rfl)
  have h30 := @run_callFunc_extern Tryz.prog 221 _ (Extern.ReflectliteType.method fun t => do Extern.Rtype.noPackHeld "Comparable" t; pure (.bool (← typeInfo t).comparable)) Tryz.func221 (by kernel_rfl) (by kernel_rfl) (by kernel_rfl) (by kernel_rfl)
  have tT := is_typeOf
  have cT := is_comparable
  have mR := is_method
  unfold IsB
  unfold errV at *
  go_enter Tryz.func124, Tryz.ntmps124
  go_wp2_with (first | (go_at_call 164; refine h.mono ?_; rintro e w' ⟨rfl, rfl⟩) | go_in)
  go_ret
  exact ⟨rfl, rfl⟩

/-- The code of an error, told by which sentinel it is. -/
def errOf (a0 a1 a2 a3 : Addr) : Nat → Value
  | 0 => .nilIface
  | 1 => errV a0
  | 2 => errV a1
  | 3 => errV a2
  | _ => errV a3
def codeE : Nat → Int
  | 0 => 0
  | 1 => 1
  | 2 => 2
  | 3 => 3
  | _ => 6

theorem isB_of {W : World} {a0 a1 a2 a3 : Addr} (h : ErrsAt W a0 a1 a2 a3) (k : Nat) :
    IsB W (errOf a0 a1 a2 a3 k) a0 (k == 1) ∧ IsB W (errOf a0 a1 a2 a3 k) a1 (k == 2) ∧ IsB W (errOf a0 a1 a2 a3 k) a2 (k == 3) ∧ IsB W (errOf a0 a1 a2 a3 k) a3 (decide (4 ≤ k)) := by
  match k with
  | 0 => exact ⟨isB_nil _ _, isB_nil _ _, isB_nil _ _, isB_nil _ _⟩
  | 1 => exact ⟨isB_some _ _ _ _ (is_same _), isB_some _ _ _ _ (is_other h.n01 h.b0 h.b1), isB_some _ _ _ _ (is_other h.n02 h.b0 h.b2), isB_some _ _ _ _ (is_other h.n03 h.b0 h.b3)⟩
  | 2 => exact ⟨isB_some _ _ _ _ (is_other h.n01.symm h.b1 h.b0), isB_some _ _ _ _ (is_same _), isB_some _ _ _ _ (is_other h.n12 h.b1 h.b2), isB_some _ _ _ _ (is_other h.n13 h.b1 h.b3)⟩
  | 3 => exact ⟨isB_some _ _ _ _ (is_other h.n02.symm h.b2 h.b0), isB_some _ _ _ _ (is_other h.n12.symm h.b2 h.b1), isB_some _ _ _ _ (is_same _), isB_some _ _ _ _ (is_other h.n23 h.b2 h.b3)⟩
  | k + 4 =>
    have e : decide (4 ≤ k + 4) = true := decide_eq_true (by omega)
    have e1 : (k + 4 == 1) = false := by simp
    have e2 : (k + 4 == 2) = false := by simp
    have e3 : (k + 4 == 3) = false := by simp
    rw [e, e1, e2, e3]
    exact ⟨isB_some _ _ _ _ (is_other h.n03.symm h.b3 h.b0), isB_some _ _ _ _ (is_other h.n13.symm h.b3 h.b1), isB_some _ _ _ _ (is_other h.n23.symm h.b3 h.b2), isB_some _ _ _ _ (is_same _)⟩

set_option maxRecDepth 1000000 in
theorem codeOf_any {W : World} {a0 a1 a2 a3 : Addr} (h : ErrsAt W a0 a1 a2 a3) (k : Nat) :
    Calls Tryz.prog 82 #[errOf a0 a1 a2 a3 k] W fun e w' => e = .returned (.int .i64 (codeE k)) ∧ W = w' := by
  obtain ⟨i0, i1, i2, i3⟩ := isB_of h k
  have c0 := h.v0
  have c1 := h.v1
  have c2 := h.v2
  have c3 := h.v3
  unfold IsB at i0 i1 i2 i3
  have I0 := Lib.hid i0
  have I1 := Lib.hid i1
  have I2 := Lib.hid i2
  have I3 := Lib.hid i3
  clear i0 i1 i2 i3 h
  match k with
  | 0 =>
    go_enter Tryz.func82, Tryz.ntmps82
    go_wp2_with (first | (go_at_call 124; (with_reducible refine I0.out.mono ?_); rintro e w' ⟨rfl, rfl⟩) | (go_at_call 124; (with_reducible refine I1.out.mono ?_); rintro e w' ⟨rfl, rfl⟩) | (go_at_call 124; (with_reducible refine I2.out.mono ?_); rintro e w' ⟨rfl, rfl⟩) | (go_at_call 124; (with_reducible refine I3.out.mono ?_); rintro e w' ⟨rfl, rfl⟩))
    go_ret
    exact ⟨rfl, rfl⟩
  | 1 =>
    go_enter Tryz.func82, Tryz.ntmps82
    go_wp2_with (go_at_call 124; (with_reducible refine I0.out.mono ?_); rintro e w' ⟨rfl, rfl⟩)
    go_ret
    exact ⟨rfl, rfl⟩
  | 2 =>
    go_enter Tryz.func82, Tryz.ntmps82
    go_wp2_with (first | (go_at_call 124; (with_reducible refine I0.out.mono ?_); rintro e w' ⟨rfl, rfl⟩) | (go_at_call 124; (with_reducible refine I1.out.mono ?_); rintro e w' ⟨rfl, rfl⟩))
    go_ret
    exact ⟨rfl, rfl⟩
  | 3 =>
    go_enter Tryz.func82, Tryz.ntmps82
    go_wp2_with (first | (go_at_call 124; (with_reducible refine I0.out.mono ?_); rintro e w' ⟨rfl, rfl⟩) | (go_at_call 124; (with_reducible refine I1.out.mono ?_); rintro e w' ⟨rfl, rfl⟩) | (go_at_call 124; (with_reducible refine I2.out.mono ?_); rintro e w' ⟨rfl, rfl⟩))
    go_ret
    exact ⟨rfl, rfl⟩
  | k + 4 =>
    go_enter Tryz.func82, Tryz.ntmps82
    go_wp2_with (first | (go_at_call 124; (with_reducible refine I0.out.mono ?_); rintro e w' ⟨rfl, rfl⟩) | (go_at_call 124; (with_reducible refine I1.out.mono ?_); rintro e w' ⟨rfl, rfl⟩) | (go_at_call 124; (with_reducible refine I2.out.mono ?_); rintro e w' ⟨rfl, rfl⟩) | (go_at_call 124; (with_reducible refine I3.out.mono ?_); rintro e w' ⟨rfl, rfl⟩))
    go_ret
    exact ⟨rfl, rfl⟩

/-- Which error a call is refused with. -/
def refN (v r f : Bool) : Nat := if !v then 1 else if !r then 2 else if !f then 3 else 0

set_option maxRecDepth 1000000 in
theorem refusal_any {W : World} {a0 a1 a2 a3 : Addr} (h : ErrsAt W a0 a1 a2 a3) (v r f : Bool) :
    Calls Tryz.prog 122 #[.bool v, .bool r, .bool f] W fun e w' => e = .returned (errOf a0 a1 a2 a3 (refN v r f)) ∧ W = w' := by
  have c0 := h.v0
  have c1 := h.v1
  have c2 := h.v2
  cases v <;> cases r <;> cases f
  all_goals
    go_enter Tryz.func122, Tryz.ntmps122
    go_wp2
    go_ret
    exact ⟨rfl, rfl⟩

end Go.Proofs.YtpcmcopfdghdgaaGreatDoor

namespace Go.Proofs.YtpcmcopfdghdgaaGreatDoor
open Go.RowKit

attribute [local go_sem] run_store_f

/-- A person is valid. -/
def fitP (x : Pn) : Bool := okPe x.1 x.2.1 x.2.2

theorem validPn_any (x : Pn) (w : World) : Calls Tryz.prog 119 #[.agg (pnC x)] w fun e w' => e = .returned (.bool (fitP x)) ∧ Below w.heap.size w w' := implValidPerson_any x.1 x.2.1 x.2.2 w

theorem ret_boolSB {a b : Bool} (h : a = b) : Ending.returned (.bool a) = .returned (.bool b) := by rw [h]

set_option maxRecDepth 100000 in
set_option maxHeartbeats 1000000 in
theorem badPn_any (x : Pn) (w : World) :
    Calls Tryz.prog 118 #[.agg (pnC x)] w fun e w' => e = .returned (.bool (!fitP x)) ∧ Below w.heap.size w w' := by
  go_enter Tryz.func118, Tryz.ntmps118
  go_upto_region 1 with (fail)
  refine abs_world (fun W => Below w.heap.size w W ∧ W.heap[w.heap.size]? = some (.cells (pnC x) 134 (0, 0))) ⟨(Below.refl _ _).alloc (Nat.le_refl _) _, heap_alloc_new _ _⟩ ?_
  rintro W ⟨hb, h1⟩
  have H1 := Lib.hid h1
  clear h1
  go_wp2_with (first | (refine wpList_load_part rfl 134 _ rfl w.heap.size 0 3 rfl 134 (pnC x) (0, 0) _ H1.out Tryz.underlying134 rfl info_pers (pn_fits _) _ (pn_all _) ?_) | (go_at_call 119; refine (validPn_any x _).mono ?_; rintro e W1 ⟨rfl, hb1⟩))
  go_ret
  exact ⟨rfl, hb.trans (hb1.mono hb.size)⟩

/-- What looking for a person that is not valid finds. -/
def FoundPn (ts : List Pn) (w : World) (e : Ending) (w' : World) : Prop := ∃ r : Int, e = .returned (.int .i64 r) ∧ decide (0 ≤ r) = !ts.all fitP ∧ Below w.heap.size w w'

set_option maxRecDepth 100000 in
set_option maxHeartbeats 1000000 in
theorem indexPn_any (sv : Value) (ws : List Pn) (w : World) (hws : PnsAt w sv ws) :
    Calls Tryz.prog 159 #[sv, .func (.func 118) #[] #[]] w fun e w' => FoundPn ws w e w' := by
  have hws' := hws
  obtain ⟨a, cap, rfl, hl1, hl2, _⟩ := hws'
  have HW := Lib.hid hws
  clear hws
  unfold maxLen at hl2
  generalize hn : ws.length = n at *
  go_enter Tryz.func159, Tryz.ntmps159
  go_wp2
  go_loopw [8] (fun i wr => ∃ k : Nat, k ≤ n ∧ i = .int .i64 k ∧ Below w.heap.size w wr ∧ (ws.take k).all fitP = true) (fun i _ => n - (intOf i).toNat)
  case atStart => exact ⟨0, Nat.zero_le _, rfl, Below.refl _ _, rfl⟩
  case round =>
    obtain ⟨k, hk, rfl, hb, hall⟩ := hrel
    have HA := Lib.hid hall
    clear hall
    by_cases hlt : k < n
    · have hx : ws[k]? = some ws[k] := List.getElem?_eq_getElem (by omega)
      obtain ⟨g, o, rfl, hc⟩ := pn_at (pns_below HW.out hb) hx
      have HC := Lib.hid hc
      have hts : ws.take (k + 1) = ws.take k ++ [ws[k]] := by rw [List.take_succ_eq_append_getElem (by omega)]
      have HT := Lib.hid hts
      have hdx := HW.out
      generalize ws[k] = x at *
      have HD : Hid (ws[k]? = some x) := Lib.hid hx
      have z1 : (k : Int) < (n : Int) := by omega
      have z2 : (0 : Int) ≤ (k : Int) := by omega
      clear hc hts hx hdx
      cases hf : fitP x with
      | true =>
        have hnf : (!fitP x) = false := by rw [hf]; rfl
        go_wp2_with (first | (refine wpList_load_cells rfl 134 _ rfl g (o + k * 3) 3 rfl _ Tryz.underlying134 rfl info_pers (pnC x) rfl HC.out ?_) | (go_at_call 118; refine (badPn_any x _).mono ?_; rw [hnf]; rintro e W1 ⟨rfl, hb1⟩))
        go_roundw
        case rel => exact ⟨k + 1, by omega, by go_num, hb.trans (hb1.mono hb.size), by rw [HT.out, List.all_append, HA.out]; simp [hf]⟩
        case measure => simp [intOf]; omega
      | false =>
        have hnf : (!fitP x) = true := by rw [hf]; rfl
        go_wp2_with (first | (refine wpList_load_cells rfl 134 _ rfl g (o + k * 3) 3 rfl _ Tryz.underlying134 rfl info_pers (pnC x) rfl HC.out ?_) | (go_at_call 118; refine (badPn_any x _).mono ?_; rw [hnf]; rintro e W1 ⟨rfl, hb1⟩))
        go_ret
        refine ⟨k, rfl, ?_, hb.trans (hb1.mono hb.size)⟩
        have hmem := List.mem_of_getElem? HD.out
        have hall : ws.all fitP = false := by
          rw [Bool.eq_false_iff]
          intro ha
          have := List.all_eq_true.1 ha x hmem
          rw [hf] at this; cases this
        rw [hall]; simp
    · obtain rfl : k = n := by omega
      go_wp2
      go_ret
      refine ⟨-1, rfl, ?_, hb⟩
      have hall := HA.out
      rw [List.take_of_length_le (by omega)] at hall
      rw [hall]; rfl

set_option maxRecDepth 100000 in
set_option maxHeartbeats 1000000 in
theorem containsPn_any (sv : Value) (ws : List Pn) (w : World) (hws : PnsAt w sv ws) :
    Calls Tryz.prog 121 #[sv, .func (.func 118) #[] #[]] w fun e w' => e = .returned (.bool (!ws.all fitP)) ∧ Below w.heap.size w w' := by
  have HC := indexPn_any sv ws w hws
  clear hws
  go_enter Tryz.func121, Tryz.ntmps121
  go_wp2_with (go_at_call 159; refine HC.mono ?_; rintro e W1 ⟨r, rfl, hd, hb1⟩)
  go_ret
  first | exact ⟨ret_boolSB hd, hb1⟩ | exact ⟨rfl, hb1⟩


/-- Neither of two lists is too long. -/
def limB (n m : Nat) : Bool := decide ((n : Int) ≤ 8) && decide ((m : Int) ≤ 8)

set_option maxRecDepth 100000 in
set_option maxHeartbeats 4000000 in
theorem seatRef_tt (wd hg : Int) (sv dv pv : Value) (ws : List Wn) (ds : List Dk) (ps : List Pn) (e0 e1 e2 e3 : Addr) (w : World) (hws : WinsAt w sv ws) (hds : DksAt w dv ds) (hps : PnsAt w pv ps) (hE : ErrsAt w e0 e1 e2 e3) (hv : okRm wd hg ws = true) (hl : (ds.length : Int) ≤ 8) :
    Calls Tryz.prog 81 #[.agg (roomC wd hg sv), dv, pv] w fun e w' => e = .returned (errOf e0 e1 e2 e3 (refN (ps.all fitP) (ds.all (fitD wd hg)) (decide ((ps.length : Int) ≤ 8)))) ∧ Below w.heap.size w w' := by
  have HVR : Hid (∀ V, WinsAt V sv ws → Calls Tryz.prog 120 #[.agg (roomC wd hg sv)] V fun e w' => e = .returned (.bool true) ∧ Below V.heap.size V w') := Lib.hid (fun V h => by have := ValidRoom_any wd hg sv ws V h; rw [hv] at this; exact this)
  have HAR := Lib.hid (fun V h => areDesks_any wd hg sv dv ds V h)
  have HCP := Lib.hid (fun V h => containsPn_any pv ps V h)
  have HRF := Lib.hid (fun V h => refusal_any (W := V) (a0 := e0) (a1 := e1) (a2 := e2) (a3 := e3) h (ps.all fitP) (ds.all (fitD wd hg)) (decide ((ps.length : Int) ≤ 8)))
  have znn : (!(!ps.all fitP)) = ps.all fitP := Bool.not_not _
  have zdl : decide ((ds.length : Int) ≤ 8) = true := decide_eq_true hl
  have HW := Lib.hid hws
  have HDK := Lib.hid hds
  have HPN := Lib.hid hps
  have HX0 := Lib.hid hE
  obtain ⟨da, dc, rfl, -, -, -⟩ := hds
  obtain ⟨pa, pc, rfl, -, -, -⟩ := hps
  clear hws hE hv
  generalize ds.all (fitD wd hg) = da2 at *
  generalize ps.all fitP = pa2 at *
  generalize ds.length = nd at *
  generalize ps.length = np at *
  go_enter Tryz.func81, Tryz.ntmps81
  go_upto_region 1 with (fail)
  refine abs_world (fun W => W.heap[w.heap.size]? = some (.cells (roomC wd hg sv) 70 (0, 0)) ∧ Below w.heap.size w W) ⟨heap_alloc_new _ _, (Below.refl _ _).alloc (Nat.le_refl _) _⟩ ?_
  rintro W ⟨h0, hbz⟩
  have H0 := Lib.hid h0
  have HV := Lib.hid (wins_below HW.out hbz)
  have HD := Lib.hid (dks_below HDK.out hbz)
  have HP := Lib.hid (pns_below HPN.out hbz)
  have HX := Lib.hid (errs_below HX0.out hbz)
  clear h0
  go_wp2_with (first | (refine wpList_load_part rfl 70 _ rfl w.heap.size 0 3 rfl 70 (roomC wd hg sv) (0, 0) _ H0.out Tryz.underlying70 rfl info_room (room_fits _ _ _) _ (room_all _ _ _) ?_) | (go_at_call 120; refine (HVR.out _ HV.out).mono ?_; rintro e W1 ⟨rfl, hb1⟩; replace H0 := Lib.hid (below_row hb1 H0.out); replace HV := Lib.hid (wins_below HV.out hb1); replace HD := Lib.hid (dks_below HD.out hb1); replace HP := Lib.hid (pns_below HP.out hb1); replace HX := Lib.hid (errs_below HX.out hb1); replace hbz := hbz.trans (hb1.mono hbz.size); clear hb1) | (go_at_call 121; refine (HCP.out _ HP.out).mono ?_; rintro e W2 ⟨rfl, hb2⟩; replace H0 := Lib.hid (below_row hb2 H0.out); replace HV := Lib.hid (wins_below HV.out hb2); replace HD := Lib.hid (dks_below HD.out hb2); replace HP := Lib.hid (pns_below HP.out hb2); replace HX := Lib.hid (errs_below HX.out hb2); replace hbz := hbz.trans (hb2.mono hbz.size); clear hb2) | (go_at_call 123; refine (HAR.out _ HD.out).mono ?_; rintro e W3 ⟨rfl, hb3⟩; replace H0 := Lib.hid (below_row hb3 H0.out); replace HV := Lib.hid (wins_below HV.out hb3); replace HD := Lib.hid (dks_below HD.out hb3); replace HP := Lib.hid (pns_below HP.out hb3); replace HX := Lib.hid (errs_below HX.out hb3); replace hbz := hbz.trans (hb3.mono hbz.size); clear hb3) | (go_at_call 122; refine (HRF.out _ HX.out).mono ?_; rintro e W4 ⟨rfl, rfl⟩))
  go_ret
  exact ⟨rfl, hbz⟩

set_option maxRecDepth 100000 in
set_option maxHeartbeats 4000000 in
theorem seatRef_tf (wd hg : Int) (sv dv pv : Value) (ws : List Wn) (ds : List Dk) (ps : List Pn) (e0 e1 e2 e3 : Addr) (w : World) (hws : WinsAt w sv ws) (hds : DksAt w dv ds) (hps : PnsAt w pv ps) (hE : ErrsAt w e0 e1 e2 e3) (hv : okRm wd hg ws = true) (hl : ¬ (ds.length : Int) ≤ 8) :
    Calls Tryz.prog 81 #[.agg (roomC wd hg sv), dv, pv] w fun e w' => e = .returned (errOf e0 e1 e2 e3 (refN (ps.all fitP) (ds.all (fitD wd hg)) (false))) ∧ Below w.heap.size w w' := by
  have HVR : Hid (∀ V, WinsAt V sv ws → Calls Tryz.prog 120 #[.agg (roomC wd hg sv)] V fun e w' => e = .returned (.bool true) ∧ Below V.heap.size V w') := Lib.hid (fun V h => by have := ValidRoom_any wd hg sv ws V h; rw [hv] at this; exact this)
  have HAR := Lib.hid (fun V h => areDesks_any wd hg sv dv ds V h)
  have HCP := Lib.hid (fun V h => containsPn_any pv ps V h)
  have HRF := Lib.hid (fun V h => refusal_any (W := V) (a0 := e0) (a1 := e1) (a2 := e2) (a3 := e3) h (ps.all fitP) (ds.all (fitD wd hg)) (false))
  have znn : (!(!ps.all fitP)) = ps.all fitP := Bool.not_not _
  have zdl : decide ((ds.length : Int) ≤ 8) = false := decide_eq_false hl
  have HW := Lib.hid hws
  have HDK := Lib.hid hds
  have HPN := Lib.hid hps
  have HX0 := Lib.hid hE
  obtain ⟨da, dc, rfl, -, -, -⟩ := hds
  obtain ⟨pa, pc, rfl, -, -, -⟩ := hps
  clear hws hE hv
  generalize ds.all (fitD wd hg) = da2 at *
  generalize ps.all fitP = pa2 at *
  generalize ds.length = nd at *
  generalize ps.length = np at *
  go_enter Tryz.func81, Tryz.ntmps81
  go_upto_region 1 with (fail)
  refine abs_world (fun W => W.heap[w.heap.size]? = some (.cells (roomC wd hg sv) 70 (0, 0)) ∧ Below w.heap.size w W) ⟨heap_alloc_new _ _, (Below.refl _ _).alloc (Nat.le_refl _) _⟩ ?_
  rintro W ⟨h0, hbz⟩
  have H0 := Lib.hid h0
  have HV := Lib.hid (wins_below HW.out hbz)
  have HD := Lib.hid (dks_below HDK.out hbz)
  have HP := Lib.hid (pns_below HPN.out hbz)
  have HX := Lib.hid (errs_below HX0.out hbz)
  clear h0
  go_wp2_with (first | (refine wpList_load_part rfl 70 _ rfl w.heap.size 0 3 rfl 70 (roomC wd hg sv) (0, 0) _ H0.out Tryz.underlying70 rfl info_room (room_fits _ _ _) _ (room_all _ _ _) ?_) | (go_at_call 120; refine (HVR.out _ HV.out).mono ?_; rintro e W1 ⟨rfl, hb1⟩; replace H0 := Lib.hid (below_row hb1 H0.out); replace HV := Lib.hid (wins_below HV.out hb1); replace HD := Lib.hid (dks_below HD.out hb1); replace HP := Lib.hid (pns_below HP.out hb1); replace HX := Lib.hid (errs_below HX.out hb1); replace hbz := hbz.trans (hb1.mono hbz.size); clear hb1) | (go_at_call 121; refine (HCP.out _ HP.out).mono ?_; rintro e W2 ⟨rfl, hb2⟩; replace H0 := Lib.hid (below_row hb2 H0.out); replace HV := Lib.hid (wins_below HV.out hb2); replace HD := Lib.hid (dks_below HD.out hb2); replace HP := Lib.hid (pns_below HP.out hb2); replace HX := Lib.hid (errs_below HX.out hb2); replace hbz := hbz.trans (hb2.mono hbz.size); clear hb2) | (go_at_call 123; refine (HAR.out _ HD.out).mono ?_; rintro e W3 ⟨rfl, hb3⟩; replace H0 := Lib.hid (below_row hb3 H0.out); replace HV := Lib.hid (wins_below HV.out hb3); replace HD := Lib.hid (dks_below HD.out hb3); replace HP := Lib.hid (pns_below HP.out hb3); replace HX := Lib.hid (errs_below HX.out hb3); replace hbz := hbz.trans (hb3.mono hbz.size); clear hb3) | (go_at_call 122; refine (HRF.out _ HX.out).mono ?_; rintro e W4 ⟨rfl, rfl⟩))
  go_ret
  exact ⟨rfl, hbz⟩

set_option maxRecDepth 100000 in
set_option maxHeartbeats 4000000 in
theorem seatRef_ft (wd hg : Int) (sv dv pv : Value) (ws : List Wn) (ds : List Dk) (ps : List Pn) (e0 e1 e2 e3 : Addr) (w : World) (hws : WinsAt w sv ws) (hds : DksAt w dv ds) (hps : PnsAt w pv ps) (hE : ErrsAt w e0 e1 e2 e3) (hv : okRm wd hg ws = false) (hl : (ds.length : Int) ≤ 8) :
    Calls Tryz.prog 81 #[.agg (roomC wd hg sv), dv, pv] w fun e w' => e = .returned (errOf e0 e1 e2 e3 (refN (false) (ds.all (fitD wd hg)) (decide ((ps.length : Int) ≤ 8)))) ∧ Below w.heap.size w w' := by
  have HVR : Hid (∀ V, WinsAt V sv ws → Calls Tryz.prog 120 #[.agg (roomC wd hg sv)] V fun e w' => e = .returned (.bool false) ∧ Below V.heap.size V w') := Lib.hid (fun V h => by have := ValidRoom_any wd hg sv ws V h; rw [hv] at this; exact this)
  have HAR := Lib.hid (fun V h => areDesks_any wd hg sv dv ds V h)
  have HCP := Lib.hid (fun V h => containsPn_any pv ps V h)
  have HRF := Lib.hid (fun V h => refusal_any (W := V) (a0 := e0) (a1 := e1) (a2 := e2) (a3 := e3) h (false) (ds.all (fitD wd hg)) (decide ((ps.length : Int) ≤ 8)))
  have znn : (!(!ps.all fitP)) = ps.all fitP := Bool.not_not _
  have zdl : decide ((ds.length : Int) ≤ 8) = true := decide_eq_true hl
  have HW := Lib.hid hws
  have HDK := Lib.hid hds
  have HPN := Lib.hid hps
  have HX0 := Lib.hid hE
  obtain ⟨da, dc, rfl, -, -, -⟩ := hds
  obtain ⟨pa, pc, rfl, -, -, -⟩ := hps
  clear hws hE hv
  generalize ds.all (fitD wd hg) = da2 at *
  generalize ps.all fitP = pa2 at *
  generalize ds.length = nd at *
  generalize ps.length = np at *
  go_enter Tryz.func81, Tryz.ntmps81
  go_upto_region 1 with (fail)
  refine abs_world (fun W => W.heap[w.heap.size]? = some (.cells (roomC wd hg sv) 70 (0, 0)) ∧ Below w.heap.size w W) ⟨heap_alloc_new _ _, (Below.refl _ _).alloc (Nat.le_refl _) _⟩ ?_
  rintro W ⟨h0, hbz⟩
  have H0 := Lib.hid h0
  have HV := Lib.hid (wins_below HW.out hbz)
  have HD := Lib.hid (dks_below HDK.out hbz)
  have HP := Lib.hid (pns_below HPN.out hbz)
  have HX := Lib.hid (errs_below HX0.out hbz)
  clear h0
  go_wp2_with (first | (refine wpList_load_part rfl 70 _ rfl w.heap.size 0 3 rfl 70 (roomC wd hg sv) (0, 0) _ H0.out Tryz.underlying70 rfl info_room (room_fits _ _ _) _ (room_all _ _ _) ?_) | (go_at_call 120; refine (HVR.out _ HV.out).mono ?_; rintro e W1 ⟨rfl, hb1⟩; replace H0 := Lib.hid (below_row hb1 H0.out); replace HV := Lib.hid (wins_below HV.out hb1); replace HD := Lib.hid (dks_below HD.out hb1); replace HP := Lib.hid (pns_below HP.out hb1); replace HX := Lib.hid (errs_below HX.out hb1); replace hbz := hbz.trans (hb1.mono hbz.size); clear hb1) | (go_at_call 121; refine (HCP.out _ HP.out).mono ?_; rintro e W2 ⟨rfl, hb2⟩; replace H0 := Lib.hid (below_row hb2 H0.out); replace HV := Lib.hid (wins_below HV.out hb2); replace HD := Lib.hid (dks_below HD.out hb2); replace HP := Lib.hid (pns_below HP.out hb2); replace HX := Lib.hid (errs_below HX.out hb2); replace hbz := hbz.trans (hb2.mono hbz.size); clear hb2) | (go_at_call 123; refine (HAR.out _ HD.out).mono ?_; rintro e W3 ⟨rfl, hb3⟩; replace H0 := Lib.hid (below_row hb3 H0.out); replace HV := Lib.hid (wins_below HV.out hb3); replace HD := Lib.hid (dks_below HD.out hb3); replace HP := Lib.hid (pns_below HP.out hb3); replace HX := Lib.hid (errs_below HX.out hb3); replace hbz := hbz.trans (hb3.mono hbz.size); clear hb3) | (go_at_call 122; refine (HRF.out _ HX.out).mono ?_; rintro e W4 ⟨rfl, rfl⟩))
  go_ret
  exact ⟨rfl, hbz⟩

set_option maxRecDepth 100000 in
set_option maxHeartbeats 4000000 in
theorem seatRef_ff (wd hg : Int) (sv dv pv : Value) (ws : List Wn) (ds : List Dk) (ps : List Pn) (e0 e1 e2 e3 : Addr) (w : World) (hws : WinsAt w sv ws) (hds : DksAt w dv ds) (hps : PnsAt w pv ps) (hE : ErrsAt w e0 e1 e2 e3) (hv : okRm wd hg ws = false) (hl : ¬ (ds.length : Int) ≤ 8) :
    Calls Tryz.prog 81 #[.agg (roomC wd hg sv), dv, pv] w fun e w' => e = .returned (errOf e0 e1 e2 e3 (refN (false) (ds.all (fitD wd hg)) (false))) ∧ Below w.heap.size w w' := by
  have HVR : Hid (∀ V, WinsAt V sv ws → Calls Tryz.prog 120 #[.agg (roomC wd hg sv)] V fun e w' => e = .returned (.bool false) ∧ Below V.heap.size V w') := Lib.hid (fun V h => by have := ValidRoom_any wd hg sv ws V h; rw [hv] at this; exact this)
  have HAR := Lib.hid (fun V h => areDesks_any wd hg sv dv ds V h)
  have HCP := Lib.hid (fun V h => containsPn_any pv ps V h)
  have HRF := Lib.hid (fun V h => refusal_any (W := V) (a0 := e0) (a1 := e1) (a2 := e2) (a3 := e3) h (false) (ds.all (fitD wd hg)) (false))
  have znn : (!(!ps.all fitP)) = ps.all fitP := Bool.not_not _
  have zdl : decide ((ds.length : Int) ≤ 8) = false := decide_eq_false hl
  have HW := Lib.hid hws
  have HDK := Lib.hid hds
  have HPN := Lib.hid hps
  have HX0 := Lib.hid hE
  obtain ⟨da, dc, rfl, -, -, -⟩ := hds
  obtain ⟨pa, pc, rfl, -, -, -⟩ := hps
  clear hws hE hv
  generalize ds.all (fitD wd hg) = da2 at *
  generalize ps.all fitP = pa2 at *
  generalize ds.length = nd at *
  generalize ps.length = np at *
  go_enter Tryz.func81, Tryz.ntmps81
  go_upto_region 1 with (fail)
  refine abs_world (fun W => W.heap[w.heap.size]? = some (.cells (roomC wd hg sv) 70 (0, 0)) ∧ Below w.heap.size w W) ⟨heap_alloc_new _ _, (Below.refl _ _).alloc (Nat.le_refl _) _⟩ ?_
  rintro W ⟨h0, hbz⟩
  have H0 := Lib.hid h0
  have HV := Lib.hid (wins_below HW.out hbz)
  have HD := Lib.hid (dks_below HDK.out hbz)
  have HP := Lib.hid (pns_below HPN.out hbz)
  have HX := Lib.hid (errs_below HX0.out hbz)
  clear h0
  go_wp2_with (first | (refine wpList_load_part rfl 70 _ rfl w.heap.size 0 3 rfl 70 (roomC wd hg sv) (0, 0) _ H0.out Tryz.underlying70 rfl info_room (room_fits _ _ _) _ (room_all _ _ _) ?_) | (go_at_call 120; refine (HVR.out _ HV.out).mono ?_; rintro e W1 ⟨rfl, hb1⟩; replace H0 := Lib.hid (below_row hb1 H0.out); replace HV := Lib.hid (wins_below HV.out hb1); replace HD := Lib.hid (dks_below HD.out hb1); replace HP := Lib.hid (pns_below HP.out hb1); replace HX := Lib.hid (errs_below HX.out hb1); replace hbz := hbz.trans (hb1.mono hbz.size); clear hb1) | (go_at_call 121; refine (HCP.out _ HP.out).mono ?_; rintro e W2 ⟨rfl, hb2⟩; replace H0 := Lib.hid (below_row hb2 H0.out); replace HV := Lib.hid (wins_below HV.out hb2); replace HD := Lib.hid (dks_below HD.out hb2); replace HP := Lib.hid (pns_below HP.out hb2); replace HX := Lib.hid (errs_below HX.out hb2); replace hbz := hbz.trans (hb2.mono hbz.size); clear hb2) | (go_at_call 123; refine (HAR.out _ HD.out).mono ?_; rintro e W3 ⟨rfl, hb3⟩; replace H0 := Lib.hid (below_row hb3 H0.out); replace HV := Lib.hid (wins_below HV.out hb3); replace HD := Lib.hid (dks_below HD.out hb3); replace HP := Lib.hid (pns_below HP.out hb3); replace HX := Lib.hid (errs_below HX.out hb3); replace hbz := hbz.trans (hb3.mono hbz.size); clear hb3) | (go_at_call 122; refine (HRF.out _ HX.out).mono ?_; rintro e W4 ⟨rfl, rfl⟩))
  go_ret
  exact ⟨rfl, hbz⟩

theorem seatRef_any (wd hg : Int) (sv dv pv : Value) (ws : List Wn) (ds : List Dk) (ps : List Pn) (e0 e1 e2 e3 : Addr) (w : World) (hws : WinsAt w sv ws) (hds : DksAt w dv ds) (hps : PnsAt w pv ps) (hE : ErrsAt w e0 e1 e2 e3) :
    Calls Tryz.prog 81 #[.agg (roomC wd hg sv), dv, pv] w fun e w' => e = .returned (errOf e0 e1 e2 e3 (refN (okRm wd hg ws && ps.all fitP) (ds.all (fitD wd hg)) (limB ds.length ps.length))) ∧ Below w.heap.size w w' := by
  unfold limB
  cases hv : okRm wd hg ws with
  | true =>
    by_cases hl : (ds.length : Int) ≤ 8
    · rw [decide_eq_true hl]; exact seatRef_tt wd hg sv dv pv ws ds ps e0 e1 e2 e3 w hws hds hps hE hv hl
    · rw [decide_eq_false hl]; exact seatRef_tf wd hg sv dv pv ws ds ps e0 e1 e2 e3 w hws hds hps hE hv hl
  | false =>
    by_cases hl : (ds.length : Int) ≤ 8
    · rw [decide_eq_true hl]; exact seatRef_ft wd hg sv dv pv ws ds ps e0 e1 e2 e3 w hws hds hps hE hv hl
    · rw [decide_eq_false hl]; exact seatRef_ff wd hg sv dv pv ws ds ps e0 e1 e2 e3 w hws hds hps hE hv hl

end Go.Proofs.YtpcmcopfdghdgaaGreatDoor

namespace Go.Proofs.YtpcmcopfdghdgaaGreatDoor
open Go.RowKit

attribute [local go_sem] run_store_f

set_option maxRecDepth 100000 in
set_option maxHeartbeats 1000000 in
theorem lightFrom_any (wd hg : Int) (sv : Value) (ws : List Wn) (ok : RmOk wd hg ws) (hwf : ∀ x ∈ ws, WnWf x) (a1 a2 : Int) (ha : inRoom wd hg (a1, a2)) (Fc : FuncId) (hE : ∀ args w, (callFunc Fc args).run Tryz.prog w = .ok (.enter Fc args) w) (lbw : Array Value) (c : Wn → Bool) (C : World → Prop) (w : World) (hws : WinsAt w sv ws)
    (hC : ∀ W, Below w.heap.size w W → C W)
    (hP : ∀ (x : Wn) (W : World), FitOk wd hg x → C W → Calls Tryz.prog Fc (#[.agg (winC x), .agg (tileC (tlW wd hg x).1 (tlW wd hg x).2)] ++ lbw) W fun e W' => e = .returned (.bool (c x)) ∧ Below W.heap.size W W') :
    Calls Tryz.prog 185 #[.agg (roomC wd hg sv), .agg (tileC a1 a2), .func (.func Fc) #[] lbw] w fun e w' => e = .returned (.float .f32 (litW wd hg (a1, a2) c ws)) ∧ Below w.heap.size w w' := by
  have HW := Lib.hid hws
  have HOk := Lib.hid ok
  have HF := Lib.hid hwf
  have HCc := Lib.hid hC
  have HPp := Lib.hid hP
  have HAt := Lib.hid ha
  obtain ⟨a, cap, rfl, hl1, hl2, _⟩ := hws
  unfold maxLen at hl2
  generalize hn : ws.length = n at *
  have HN := Lib.hid hn
  have hrb : RB wd hg := ⟨ok.w0, ok.w1, ok.h0, ok.h1⟩
  have HRB := Lib.hid hrb
  have HA : Hid (0 ≤ a1 ∧ a1 ≤ 9 ∧ 0 ≤ a2 ∧ a2 ≤ 9) := by
    obtain ⟨p1, p2, p3, p4⟩ := ha
    have := ok.w1
    have := ok.h1
    dsimp only at *
    exact Lib.hid ⟨by omega, by omega, by omega, by omega⟩
  clear hn hC hP hwf ha ok hrb
  go_enter Tryz.func185, Tryz.ntmps185
  go_upto_region 2 with (fail)
  refine abs_world (fun W => W.heap[w.heap.size]? = some (.cells (roomC wd hg (.slice a n cap)) 70 (0, 0)) ∧ W.heap[w.heap.size + 1]? = some (.cells (tileC a1 a2) 126 (0, 0)) ∧ Below w.heap.size w W) (two_at w (.cells (roomC wd hg (.slice a n cap)) 70) (.cells (tileC a1 a2) 126)) ?_
  rintro W ⟨h0, h1, hb⟩
  obtain ⟨r0, r1, r2⟩ := room_cells h0
  have H0 := Lib.hid h0
  have H1 := Lib.hid h1
  clear h0 h1
  go_wp2
  go_loopw [7, 14] (fun q i wr => ∃ k : Nat, k ≤ n ∧ i = .int .i64 k ∧ q = .float .f32 (sumL (qsW wd hg (a1, a2) c (ws.take k))) ∧ Below w.heap.size w wr ∧ wr.heap[w.heap.size]? = some (.cells (roomC wd hg (.slice a n cap)) 70 (0, 0)) ∧ wr.heap[w.heap.size + 1]? = some (.cells (tileC a1 a2) 126 (0, 0))) (fun _ i _ => n - (intOf i).toNat)
  case atStart => exact ⟨0, Nat.zero_le _, rfl, rfl, hb, H0.out, H1.out⟩
  case round =>
    clear H0 H1 hb r0 r1 r2
    obtain ⟨k, hk, rfl, rfl, hb, h0, h1⟩ := hrel
    have H0 := Lib.hid h0
    have H1 := Lib.hid h1
    have hl1' := row_lt h1
    clear h0 h1
    by_cases hlt : k < n
    · have hx : ws[k]? = some (ws[k]'(by rw [HN.out]; exact hlt)) := List.getElem?_eq_getElem _
      obtain ⟨g, o, rfl, hc⟩ := win_at (wins_below HW.out hb) hx
      have HCl := Lib.hid hc
      have hts : ws.take (k + 1) = ws.take k ++ [ws[k]'(by rw [HN.out]; exact hlt)] := by rw [List.take_succ_eq_append_getElem]
      have hmem := List.mem_of_getElem? hx
      generalize (ws[k]'(by rw [HN.out]; exact hlt)) = x at *
      have hfx : FitOk wd hg x := fit_get (HF.out x hmem) (HOk.out.all x hmem)
      have HT := Lib.hid hts
      have HFx := Lib.hid hfx
      obtain ⟨f1, f2⟩ := from_facts HOk.out.w0 HOk.out.w1 HOk.out.h0 HOk.out.h1 HAt.out hfx
      have hin := tlW_in HOk.out.w0 HOk.out.h0 hfx
      have hsq := sqT_le HOk.out.w1 HOk.out.h1 HAt.out hin
      have hqs : ∀ q ∈ qsW wd hg (a1, a2) c (ws.take k), PartOk q := qsW_ok HOk.out.w0 HOk.out.w1 HOk.out.h0 HOk.out.h1 HAt.out (fun y hy => fit_get (HF.out y (List.mem_of_mem_take hy)) (HOk.out.all y (List.mem_of_mem_take hy)))
      have hql : (qsW wd hg (a1, a2) c (ws.take k)).length ≤ 12 := Nat.le_trans (qsW_len _ _ _ _ _) (Nat.le_trans (List.length_take_le _ _) (by have := HOk.out.len; have := HN.out; omega))
      have f3 := sumL_step hqs f2 hql
      have HPl := Lib.hid (fun w => placeOf_any wd hg (.slice (some ⟨g, o, none⟩) n cap) x hfx HRB.out w)
      have HPx := Lib.hid (fun W hW => HPp.out x W hfx hW)
      obtain ⟨t1, t2, htl⟩ : ∃ t1 t2, tlW wd hg x = (t1, t2) := ⟨_, _, rfl⟩
      have HB : Hid (0 ≤ t1 ∧ t1 ≤ 9 ∧ 0 ≤ t2 ∧ t2 ≤ 9) := by
        rw [htl] at hin
        obtain ⟨p1, p2, p3, p4⟩ := hin
        have := HOk.out.w1
        have := HOk.out.h1
        dsimp only at *
        exact Lib.hid ⟨by omega, by omega, by omega, by omega⟩
      unfold Hid at HPl HPx
      rw [htl] at f1 hsq HPl HPx
      dsimp only at HPl HPx
      have HPl2 := Lib.hid HPl
      have HPx2 := Lib.hid HPx
      have HQ1 : Hid (c x = true → qsW wd hg (a1, a2) c (ws.take (k + 1)) = qsW wd hg (a1, a2) c (ws.take k) ++ [fromW wd hg (a1, a2) x]) := Lib.hid (fun h => by rw [HT.out]; exact qsW_hit _ _ _ _ _ _ h)
      have HQ2 : Hid (c x = false → qsW wd hg (a1, a2) c (ws.take (k + 1)) = qsW wd hg (a1, a2) c (ws.take k)) := Lib.hid (fun h => by rw [HT.out]; exact qsW_miss _ _ _ _ _ _ h)
      have z1 : (k : Int) < (n : Int) := by omega
      have z2 : (0 : Int) ≤ (k : Int) := by omega
      obtain ⟨s0, s1⟩ := hsq
      have rq : ∀ T w, (binOp .quo T (.float .f32 x.2.2) (.float .f32 (floatOfInt .f32 (1 + sqT (a1, a2) (t1, t2))))).run Tryz.prog w = .ok (.float .f32 (fromW wd hg (a1, a2) x)) w := fun T w => run_float_arith w .quo T .f32 _ _ _ f1
      have ra : ∀ T w, (binOp .add T (.float .f32 (sumL (qsW wd hg (a1, a2) c (ws.take k)))) (.float .f32 (fromW wd hg (a1, a2) x))).run Tryz.prog w = .ok (.float .f32 (sumL (qsW wd hg (a1, a2) c (ws.take k) ++ [fromW wd hg (a1, a2) x]))) w := fun T w => run_float_arith w .add T .f32 _ _ _ f3
      have u1 : IntKind.i16.wrap (1 + sqT (a1, a2) (t1, t2)) = 1 + sqT (a1, a2) (t1, t2) := IntWalk.i16_in _ (by omega)
      clear hc hx hts hmem hfx f1 f2 f3 hin hqs hql HPl HPx htl s0 s1
      go_upto_region 5 with (first | (refine wpList_load_cells rfl 174 _ rfl g (o + k * 3) 3 rfl _ Tryz.underlying174 rfl info_win (winC x) rfl HCl.out ?_) | (refine wpList_store_part rfl 174 _ _ rfl _ 0 (winC x) rfl rfl 174 _ (heap_alloc_new _ _) (by kernel_rfl) (Nat.le_refl _) (win_one _) ?_; rw [laid_allr _ _ (by rfl)]))
      refine abs_world (fun V => Below wr.heap.size wr V ∧ V.heap[wr.heap.size]? = some (.cells (winC x) 174 (0, 0))) ⟨below_setRow ((Below.refl _ _).alloc (Nat.le_refl _) _) (Nat.le_refl _) _, setRow_heap _ _ _ _ _ _ (heap_alloc_new _ _)⟩ ?_
      have hwb : w.heap.size + 1 < wr.heap.size := hl1'
      have HBr := Lib.hid hb
      clear hb hl1'
      rintro V1 ⟨hb1, h2⟩
      have hb := HBr.out.trans (hb1.mono HBr.out.size)
      replace H0 := Lib.hid (below_row hb1 H0.out); replace H1 := Lib.hid (below_row hb1 H1.out)
      have H2 := Lib.hid h2
      clear hb1 h2 HBr
      generalize wr.heap.size = wb at *
      go_upto_region 6 with (first | (refine wpList_load_part rfl 70 _ rfl w.heap.size 0 3 rfl 70 (roomC wd hg (.slice (some ⟨g, o, none⟩) n cap)) (0, 0) _ H0.out Tryz.underlying70 rfl info_room (room_fits _ _ _) _ (room_all _ _ _) ?_) | (refine wpList_load_part rfl 174 _ rfl wb 0 3 rfl 174 (winC x) (0, 0) _ H2.out Tryz.underlying174 rfl info_win (win_fits _) _ (win_all _) ?_) | (go_at_call 194; refine (HPl2.out _).mono ?_; rintro e W5 ⟨rfl, hb5⟩) | (refine wpList_store_part rfl 126 _ _ rfl _ 0 (tileC t1 t2) rfl rfl 126 _ (heap_alloc_new _ _) (by kernel_rfl) (Nat.le_refl _) (tile_one _ _) ?_; rw [laid_allr _ _ (by rfl)]))
      refine abs_world (fun V => Below W5.heap.size W5 V ∧ V.heap[W5.heap.size]? = some (.cells (tileC t1 t2) 126 (0, 0))) ⟨below_setRow ((Below.refl _ _).alloc (Nat.le_refl _) _) (Nat.le_refl _) _, setRow_heap _ _ _ _ _ _ (heap_alloc_new _ _)⟩ ?_
      rintro V2 ⟨hb6, h3⟩
      replace H0 := Lib.hid (below_row hb6 (below_row hb5 H0.out))
      replace H1 := Lib.hid (below_row hb6 (below_row hb5 H1.out))
      replace H2 := Lib.hid (below_row hb6 (below_row hb5 H2.out))
      replace hb := (hb.trans (hb5.mono hb.size)).trans (hb6.mono (hb.trans (hb5.mono hb.size)).size)
      have H3 := Lib.hid h3
      clear hb5 hb6 h3
      generalize W5.heap.size = tb at *
      have HPv := Lib.hid (HPx2.out V2 (HCc.out V2 hb))
      cases hcx : c x with
      | true =>
        unfold Hid at HPv
        rw [hcx] at HPv
        have HPw := Lib.hid HPv
        have HQ := Lib.hid (HQ1.out hcx)
        clear HPv hcx HQ1 HQ2 HPx2
        go_upto_region 7 with (first | (refine wpList_load_part rfl 174 _ rfl wb 0 3 rfl 174 (winC x) (0, 0) _ H2.out Tryz.underlying174 rfl info_win (win_fits _) _ (win_all _) ?_) | (refine wpList_load_part rfl 126 _ rfl tb 0 2 rfl 126 (tileC t1 t2) (0, 0) _ H3.out Tryz.underlying126 rfl info_tile (tile_fits _ _) _ (tile_all _ _) ?_) | (refine HPw.out.mono ?_; rintro e W7 ⟨rfl, hb7⟩))
        replace H0 := Lib.hid (below_row hb7 H0.out)
        replace H1 := Lib.hid (below_row hb7 H1.out)
        replace H2 := Lib.hid (below_row hb7 H2.out)
        replace H3 := Lib.hid (below_row hb7 H3.out)
        replace hb := hb.trans (hb7.mono hb.size)
        clear hb7
        refine wp_region_held_drew (S := (fun W => W.heap[w.heap.size]? = some (.cells (roomC wd hg (.slice (some ⟨g, o, none⟩) n cap)) 70 (0, 0)) ∧ W.heap[w.heap.size + 1]? = some (.cells (tileC a1 a2) 126 (0, 0)) ∧ W.heap[wb]? = some (.cells (winC x) 174 (0, 0)) ∧ W.heap[tb]? = some (.cells (tileC t1 t2) 126 (0, 0)) ∧ Below w.heap.size w W)) (by kernel_rfl) ⟨H0.out, H1.out, H2.out, H3.out, hb.drew⟩ (fun hHeld => ?_)
        refine take_op (i := 0) (d := 25) (v := ?_) rfl rfl (by kernel_rfl) (by kernel_rfl) (by kernel_rfl) (fun _ _ _ h => h) (Or.inl ⟨by rfl, ?hy0u34⟩) hHeld ?rest0u34
        case hy0u34 =>
          intro w' hS'
          go_simp
          try with_reducible rfl
        simp only [List.setIfInBounds_toArray, List.set_cons_zero, List.set_cons_succ]
        refine take_op (i := 1) (d := 26) (v := ?_) rfl rfl (by kernel_rfl) (by kernel_rfl) (by kernel_rfl) (fun _ _ _ h => h) (Or.inl ⟨by rfl, ?hy1u35⟩) hHeld ?rest1u35
        case hy1u35 =>
          intro w' hS'
          go_simp
          try with_reducible rfl
        simp only [List.setIfInBounds_toArray, List.set_cons_zero, List.set_cons_succ]
        refine take_op (i := 2) (d := 27) (v := ?_) rfl rfl (by kernel_rfl) (by kernel_rfl) (by kernel_rfl) (fun _ _ _ h => h) (Or.inl ⟨by rfl, ?hy2u36⟩) hHeld ?rest2u36
        case hy2u36 =>
          intro w' hS'
          obtain ⟨_, _, s1, _⟩ := hS'
          obtain ⟨k0, k1, k2⟩ := win_cells s1
          clear s1
          go_simp
          try with_reducible rfl
        simp only [List.setIfInBounds_toArray, List.set_cons_zero, List.set_cons_succ]
        refine take_op (i := 3) (d := 28) (v := .agg (tileC a1 a2)) rfl rfl (by kernel_rfl) (by kernel_rfl) (by kernel_rfl) (fun _ _ _ h => h) (yields_row (by rfl) 126 (.tmp 4) (by rfl) (w.heap.size + 1) 0 2 (by rfl) 126 (tileC a1 a2) (0, 0) _ (fun _ h => h.2.1) Tryz.underlying126 rfl info_tile (tile_fits _ _) (tileC a1 a2) (tile_all _ _)) hHeld ?_
        simp only [List.setIfInBounds_toArray, List.set_cons_zero, List.set_cons_succ]
        refine take_op (i := 4) (d := 29) (v := .agg (tileC t1 t2)) rfl rfl (by kernel_rfl) (by kernel_rfl) (by kernel_rfl) (fun _ _ _ h => h) (yields_row (by rfl) 126 (.tmp 10) (by rfl) tb 0 2 (by rfl) 126 (tileC t1 t2) (0, 0) _ (fun _ h => h.2.2.2.1) Tryz.underlying126 rfl info_tile (tile_fits _ _) (tileC t1 t2) (tile_all _ _)) hHeld ?_
        simp only [List.setIfInBounds_toArray, List.set_cons_zero, List.set_cons_succ]
        refine wpAnyH_ready (rs := [5]) (by kernel_rfl) (by simp) ?_
        refine AllReadyH.cons rfl (fun K hK => ?_) AllReadyH.nil
        go_simp
        refine (squares_any a1 a2 t1 t2 HA.out HB.out _).mono ?_
        rintro e W1 ⟨rfl, hb1⟩
        refine hK.out _ _ (⟨below_row hb1 hHeld.1, below_row hb1 hHeld.2.1, below_row hb1 hHeld.2.2.1, below_row hb1 hHeld.2.2.2.1, hHeld.2.2.2.2.trans (hb1.mono hHeld.2.2.2.2.size)⟩) (fun hHeld2 => ?_)
        clear hK K
        replace hHeld := hHeld2
        clear hHeld2
        refine take_op (i := 6) (d := 31) (v := ?_) rfl rfl (by kernel_rfl) (by kernel_rfl) (by kernel_rfl) (fun _ _ _ h => h) (Or.inl ⟨by rfl, ?hy6u37⟩) hHeld ?rest6u37
        case hy6u37 =>
          intro w' hS'
          go_simp
          try with_reducible rfl
        simp only [List.setIfInBounds_toArray, List.set_cons_zero, List.set_cons_succ]
        refine take_op (i := 7) (d := 32) (v := ?_) rfl rfl (by kernel_rfl) (by kernel_rfl) (by kernel_rfl) (fun _ _ _ h => h) (Or.inl ⟨by rfl, ?hy7u38⟩) hHeld ?rest7u38
        case hy7u38 =>
          intro w' hS'
          go_simp
          try with_reducible rfl
        simp only [List.setIfInBounds_toArray, List.set_cons_zero, List.set_cons_succ]
        refine take_op (i := 8) (d := 33) (v := ?_) rfl rfl (by kernel_rfl) (by kernel_rfl) (by kernel_rfl) (fun _ _ _ h => h) (Or.inl ⟨by rfl, ?hy8u39⟩) hHeld ?rest8u39
        case hy8u39 =>
          intro w' hS'
          go_simp
          try with_reducible rfl
        simp only [List.setIfInBounds_toArray, List.set_cons_zero, List.set_cons_succ]
        refine take_op (i := 9) (d := 34) (v := ?_) rfl rfl (by kernel_rfl) (by kernel_rfl) (by kernel_rfl) (fun _ _ _ h => h) (Or.inl ⟨by rfl, ?hy9u40⟩) hHeld ?rest9u40
        case hy9u40 =>
          intro w' hS'
          go_simp
          try with_reducible rfl
        simp only [List.setIfInBounds_toArray, List.set_cons_zero, List.set_cons_succ]
        refine take_op (i := 10) (d := 7) (v := ?_) rfl rfl (by kernel_rfl) (by kernel_rfl) (by kernel_rfl) (fun _ _ _ h => h) (Or.inl ⟨by rfl, ?hy10u41⟩) hHeld ?rest10u41
        case hy10u41 =>
          intro w' hS'
          go_simp
          try with_reducible rfl
        simp only [List.setIfInBounds_toArray, List.set_cons_zero, List.set_cons_succ]
        refine wpAnyH_done (by kernel_rfl) ?_ _
        have HH := Lib.hid hHeld
        clear hHeld u1 rq ra hb H0 H1 H2 H3
        go_wp2
        go_roundw
        case rel =>
          refine ⟨k + 1, by omega, by go_num, by rw [HQ.out], HH.out.2.2.2.2, HH.out.1, HH.out.2.1⟩
        case measure => simp [intOf]; omega
      | false =>
        unfold Hid at HPv
        rw [hcx] at HPv
        have HPw := Lib.hid HPv
        have HQ := Lib.hid (HQ2.out hcx)
        clear HPv hcx HQ1 HQ2 HPx2
        go_wp2_with (first | (refine wpList_load_part rfl 174 _ rfl wb 0 3 rfl 174 (winC x) (0, 0) _ H2.out Tryz.underlying174 rfl info_win (win_fits _) _ (win_all _) ?_) | (refine wpList_load_part rfl 126 _ rfl tb 0 2 rfl 126 (tileC t1 t2) (0, 0) _ H3.out Tryz.underlying126 rfl info_tile (tile_fits _ _) _ (tile_all _ _) ?_) | (refine HPw.out.mono ?_; rintro e W7 ⟨rfl, hb7⟩))
        go_roundw
        case rel =>
          refine ⟨k + 1, by omega, by go_num, by rw [HQ.out], hb.trans (hb7.mono hb.size), below_row hb7 H0.out, below_row hb7 H1.out⟩
        case measure => simp [intOf]; omega
    · obtain rfl : k = n := by omega
      have HL : Hid (ws.take k = ws) := Lib.hid (List.take_of_length_le (by rw [HN.out]; exact Nat.le_refl _))
      go_wp2
      go_ret
      refine ⟨?_, hb⟩
      rw [litW, HL.out]; rfl

end Go.Proofs.YtpcmcopfdghdgaaGreatDoor

namespace Go.Proofs.YtpcmcopfdghdgaaGreatDoor
open Go.RowKit

attribute [local go_sem] run_store_f

set_option maxRecDepth 100000 in
set_option maxHeartbeats 1000000 in
theorem allFn_any (x : Wn) (p q : Int) (w : World) : Calls Tryz.prog 186 #[.agg (winC x), .agg (tileC p q)] w fun e w' => e = .returned (.bool true) ∧ Below w.heap.size w w' := by
  go_enter Tryz.func186, Tryz.ntmps186
  go_wp2
  go_ret
  exact ⟨rfl, by repeat' first | exact Below.refl _ _ | assumption | refine Below.alloc ?_ (by first | omega | (simp; done) | (simp; omega)) _ | refine Below.setCell ?_ (by first | omega | (simp; done) | (simp; omega)) _ | refine Below.drew ?_⟩

set_option maxRecDepth 100000 in
set_option maxHeartbeats 1000000 in
theorem lightAt_any (wd hg : Int) (sv : Value) (ws : List Wn) (ok : RmOk wd hg ws) (hwf : ∀ x ∈ ws, WnWf x) (a1 a2 : Int) (ha : inRoom wd hg (a1, a2)) (w : World) (hws : WinsAt w sv ws) :
    Calls Tryz.prog 165 #[.agg (roomC wd hg sv), .agg (tileC a1 a2)] w fun e w' => e = .returned (.float .f32 (litW wd hg (a1, a2) (fun _ => true) ws)) ∧ Below w.heap.size w w' := by
  have HL := Lib.hid (fun (W : World) (hW : WinsAt W sv ws) => lightFrom_any wd hg sv ws ok hwf a1 a2 ha 186 (enters_of Tryz.func186 (by kernel_rfl) rfl) #[] (fun _ => true) (fun _ => True) W hW (fun _ _ => trivial) (fun x V _ _ => allFn_any x _ _ V))
  have HW := Lib.hid hws
  clear hws ok hwf ha
  go_enter Tryz.func165, Tryz.ntmps165
  go_upto_region 1 with (fail)
  refine abs_world (fun W => W.heap[w.heap.size]? = some (.cells (roomC wd hg sv) 70 (0, 0)) ∧ W.heap[w.heap.size + 1]? = some (.cells (tileC a1 a2) 126 (0, 0)) ∧ Below w.heap.size w W) (two_at w (.cells (roomC wd hg sv) 70) (.cells (tileC a1 a2) 126)) ?_
  rintro W ⟨h0, h1, hb⟩
  have H0 := Lib.hid h0
  have H1 := Lib.hid h1
  have HV := Lib.hid (wins_below HW.out hb)
  clear h0 h1
  go_wp2_with (first | (refine wpList_load_part rfl 70 _ rfl w.heap.size 0 3 rfl 70 (roomC wd hg sv) (0, 0) _ H0.out Tryz.underlying70 rfl info_room (room_fits _ _ _) _ (room_all _ _ _) ?_) | (refine wpList_load_part rfl 126 _ rfl (w.heap.size + 1) 0 2 rfl 126 (tileC a1 a2) (0, 0) _ H1.out Tryz.underlying126 rfl info_tile (tile_fits _ _) _ (tile_all _ _) ?_) | (go_at_call 185; refine (HL.out _ HV.out).mono ?_; rintro e W1 ⟨rfl, hb1⟩))
  go_ret
  exact ⟨rfl, hb.trans (hb1.mono hb.size)⟩

end Go.Proofs.YtpcmcopfdghdgaaGreatDoor
