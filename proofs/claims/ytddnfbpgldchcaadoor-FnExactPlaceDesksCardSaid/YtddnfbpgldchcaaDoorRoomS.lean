/-
  Whether a room is valid, and what is asked of it: the model's contracts.
-/
import Derived.Test.YtddnfbpgldchcaaDoorRoomW
namespace Go.Proofs.YtddnfbpgldchcaaDoor
open Go.RowKit

attribute [local go_sem] run_store_f

set_option maxRecDepth 100000 in
set_option maxHeartbeats 1000000 in
theorem l03Ok_any (wd hg : Int) (iw : I8 wd) (ih : I8 hg) (sv : Value) (ws : List Wn) (hwf : ∀ x ∈ ws, WnWf x) (gb : Nat) (T : TypeId) (fr : Nat × Nat) (w : World) (hb0 : w.heap[gb]? = some (.cells (roomC wd hg sv) T fr)) (hws : WinsAt w sv ws) :
    Calls Tryd.prog 30 #[.pointer (some ⟨gb, 0, none⟩)] w fun e w' => e = .returned (.bool (okRm wd hg ws)) ∧ Below w.heap.size w w' := by
  have HW := Lib.hid hws
  have HF := Lib.hid hwf
  obtain ⟨a, cap, rfl, hl1, hl2, _⟩ := hws
  unfold maxLen at hl2
  generalize hn : ws.length = n at *
  have HN := Lib.hid hn
  have H0 := Lib.hid hb0
  obtain ⟨k0, k1, k2⟩ := room_cells hb0
  have HIW := Lib.hid iw
  have HIH := Lib.hid ih
  obtain ⟨iw0, iw1⟩ := iw
  obtain ⟨ih0, ih1⟩ := ih
  clear hn hb0 hwf
  cases ew : inI 1 10 wd with
  | false =>
    have eo : okRm wd hg ws = false := by simp [okRm, ew]
    rw [eo]
    have EW := Lib.hid ew
    have EH := EW
    clear ew eo
    go_enter Tryd.func30, Tryd.ntmps30
    go_wp2_with (go_at_call 16; refine (l00In_ban _ _ _ _).mono ?_; (first | rw [EW.out] | rw [EH.out]); rintro e w' ⟨rfl, rfl⟩)
    go_ret
    exact ⟨rfl, Below.refl _ _⟩
  | true =>
    cases eh : inI 1 10 hg with
    | false =>
      have eo : okRm wd hg ws = false := by simp [okRm, eh]
      rw [eo]
      have EW := Lib.hid ew
      have EH := Lib.hid eh
      clear ew eh eo
      go_enter Tryd.func30, Tryd.ntmps30
      go_wp2_with (go_at_call 16; refine (l00In_ban _ _ _ _).mono ?_; (first | rw [EW.out] | rw [EH.out]); rintro e w' ⟨rfl, rfl⟩)
      go_ret
      exact ⟨rfl, Below.refl _ _⟩
    | true =>
      by_cases h12 : n ≤ 12
      · have eo : okRm wd hg ws = ws.all (fitB wd hg) := by
          have := HN.out
          simp [okRm, ew, eh]; omega
        rw [eo]
        have EW := Lib.hid ew
        have EH := Lib.hid eh
        have z12 : (n : Int) ≤ 12 := by omega
        clear ew eh eo
        go_enter Tryd.func30, Tryd.ntmps30
        go_wp2_with (go_at_call 16; refine (l00In_ban _ _ _ _).mono ?_; (first | rw [EW.out] | rw [EH.out]); rintro e w' ⟨rfl, rfl⟩)
        go_loopw [3] (fun i wr => ∃ k : Nat, k ≤ n ∧ i = .int .i64 k ∧ Below w.heap.size w wr ∧ (ws.take k).all (fitB wd hg) = true) (fun i _ => n - (intOf i).toNat)
        case atStart => exact ⟨0, Nat.zero_le _, rfl, Below.refl _ _, rfl⟩
        case round =>
          clear k0 k1 k2
          obtain ⟨k, hk, rfl, hb, hall⟩ := hrel
          have HA := Lib.hid hall
          replace H0 := Lib.hid (below_row hb H0.out)
          obtain ⟨k0, k1, k2⟩ := room_cells H0.out
          clear hall
          by_cases hlt : k < n
          · have hx : ws[k]? = some (ws[k]'(by rw [HN.out]; exact hlt)) := List.getElem?_eq_getElem _
            obtain ⟨g, o, rfl, hc⟩ := win_at (wins_below HW.out hb) hx
            have HC := Lib.hid hc
            have hts : ws.take (k + 1) = ws.take k ++ [ws[k]'(by rw [HN.out]; exact hlt)] := by rw [List.take_succ_eq_append_getElem]
            have HT := Lib.hid hts
            have hwx := HF.out _ (List.mem_of_getElem? hx)
            generalize (ws[k]'(by rw [HN.out]; exact hlt)) = x at *
            have HD := Lib.hid hx
            have HWx := Lib.hid hwx
            have z1 : (k : Int) < (n : Int) := by omega
            have z2 : (0 : Int) ≤ (k : Int) := by omega
            clear hc hts hx hwx
            cases hf : fitB wd hg x with
            | true =>
              have HFt := Lib.hid hf
              clear hf
              go_wp2_with (first | (refine wpList_load_cells rfl 68 _ rfl g (o + k * 3) 3 rfl _ Tryd.underlying68 rfl info_win (winC x) rfl HC.out ?_) | (go_at_call 43; refine (l03Window_any wd hg HIW.out HIH.out _ x HWx.out gb _ _ _ H0.out).mono ?_; rw [HFt.out]; rintro e W1 ⟨rfl, hb1⟩))
              go_roundw
              case rel => exact ⟨k + 1, by omega, by go_num, hb.trans (hb1.mono hb.size), by rw [HT.out, List.all_append, HA.out]; simp [HFt.out]⟩
              case measure => simp [intOf]; omega
            | false =>
              have HFt := Lib.hid hf
              clear hf
              go_wp2_with (first | (refine wpList_load_cells rfl 68 _ rfl g (o + k * 3) 3 rfl _ Tryd.underlying68 rfl info_win (winC x) rfl HC.out ?_) | (go_at_call 43; refine (l03Window_any wd hg HIW.out HIH.out _ x HWx.out gb _ _ _ H0.out).mono ?_; rw [HFt.out]; rintro e W1 ⟨rfl, hb1⟩))
              go_ret
              refine ⟨?_, hb.trans (hb1.mono hb.size)⟩
              have hall : ws.all (fitB wd hg) = false := by
                rw [Bool.eq_false_iff]
                intro ha
                have := List.all_eq_true.1 ha x (List.mem_of_getElem? HD.out)
                rw [HFt.out] at this; cases this
              rw [hall]; rfl
          · obtain rfl : k = n := by omega
            have hall := HA.out
            rw [List.take_of_length_le (by rw [HN.out]; exact Nat.le_refl _)] at hall
            have HL := Lib.hid hall
            clear hall
            go_wp2
            go_ret
            exact ⟨by rw [HL.out]; rfl, hb⟩
      · have eo : okRm wd hg ws = false := by
          have := HN.out
          simp [okRm, ew, eh]; intro h; omega
        rw [eo]
        have EW := Lib.hid ew
        have EH := Lib.hid eh
        have z12 : (12 : Int) < (n : Int) := by omega
        clear ew eh eo
        go_enter Tryd.func30, Tryd.ntmps30
        go_wp2_with (go_at_call 16; refine (l00In_ban _ _ _ _).mono ?_; (first | rw [EW.out] | rw [EH.out]); rintro e w' ⟨rfl, rfl⟩)
        go_ret
        exact ⟨rfl, Below.refl _ _⟩

/-- The code of a room, and whether numbers are as told. -/
def codeR (ok fine : Bool) : Int := if !ok then 1 else if !fine then 2 else 0
set_option maxRecDepth 100000 in
set_option maxHeartbeats 1000000 in
theorem l03Asked_any (wd hg : Int) (iw : I8 wd) (ih : I8 hg) (sv : Value) (ws : List Wn) (hwf : ∀ x ∈ ws, WnWf x) (fine : Bool) (gb : Nat) (T : TypeId) (fr : Nat × Nat) (w : World) (hb0 : w.heap[gb]? = some (.cells (roomC wd hg sv) T fr)) (hws : WinsAt w sv ws) :
    Calls Tryd.prog 14 #[.pointer (some ⟨gb, 0, none⟩), .bool fine] w fun e w' => e = .returned (.int .i64 (codeR (okRm wd hg ws) fine)) ∧ Below w.heap.size w w' := by
  have HO := Lib.hid (l03Ok_any wd hg iw ih sv ws hwf gb T fr w hb0 hws)
  clear hb0 hws hwf
  generalize okRm wd hg ws = ok at *
  cases ok <;> cases fine
  all_goals
    go_enter Tryd.func14, Tryd.ntmps14
    go_wp2_with (go_at_call 30; refine HO.out.mono ?_; rintro e W1 ⟨rfl, hb1⟩)
    go_ret
    exact ⟨rfl, hb1⟩

end Go.Proofs.YtddnfbpgldchcaaDoor
