/-
  Whether a room is valid: the program's contract.
-/
import Derived.Test.YtddnfbpgldchcaaDoorRoomF
namespace Go.Proofs.YtddnfbpgldchcaaDoor
open Go.RowKit

attribute [local go_sem] run_store_f

set_option maxRecDepth 100000 in
set_option maxHeartbeats 1000000 in
theorem validFn_any (wd hg : Int) (sv : Value) (x : Wn) (gb : Nat) (w : World) (hb0 : w.heap[gb]? = some (.cells (roomC wd hg sv) 33 (0, 0))) :
    Calls Tryd.prog 35 #[.agg (winC x), .pointer (some ⟨gb, 0, none⟩)] w fun e w' => e = .returned (.bool (!fitB wd hg x)) ∧ Below w.heap.size w w' := by
  have hl := row_lt hb0
  have H0 := Lib.hid hb0
  clear hb0
  go_enter Tryd.func35, Tryd.ntmps35
  go_upto_region 1 with (fail)
  refine abs_world (fun W => Below w.heap.size w W ∧ W.heap[w.heap.size]? = some (.cells (winC x) 68 (0, 0))) ⟨(Below.refl _ _).alloc (Nat.le_refl _) _, heap_alloc_new _ _⟩ ?_
  rintro W ⟨hb, h1⟩
  replace H0 := Lib.hid (below_row hb H0.out)
  have H1 := Lib.hid h1
  clear h1
  go_wp2_with (first | (refine wpList_load_part rfl 33 _ rfl gb 0 3 rfl 33 (roomC wd hg sv) (0, 0) _ H0.out Tryd.underlying33 rfl info_room (room_fits _ _ _) _ (room_all _ _ _) ?_) | (refine wpList_load_part rfl 68 _ rfl w.heap.size 0 3 rfl 68 (winC x) (0, 0) _ H1.out Tryd.underlying68 rfl info_win (win_fits _) _ (win_all _) ?_) | (go_at_call 36; refine (fits_any wd hg sv x _).mono ?_; rintro e W1 ⟨rfl, hb1⟩))
  go_ret
  exact ⟨rfl, hb.trans (hb1.mono hb.size)⟩

/-- What looking for a window that does not fit finds. -/
def Found (wd hg : Int) (ws : List Wn) (w : World) (e : Ending) (w' : World) : Prop := ∃ r : Int, e = .returned (.int .i64 r) ∧ decide (0 ≤ r) = !ws.all (fitB wd hg) ∧ Below w.heap.size w w'
set_option maxRecDepth 100000 in
set_option maxHeartbeats 1000000 in
theorem indexFn_any (wd hg : Int) (sv : Value) (ws : List Wn) (gb : Nat) (w : World) (hb0 : w.heap[gb]? = some (.cells (roomC wd hg sv) 33 (0, 0))) (hws : WinsAt w sv ws) :
    Calls Tryd.prog 45 #[sv, .func (.func 35) #[] #[.pointer (some ⟨gb, 0, none⟩)]] w fun e w' => Found wd hg ws w e w' := by
  have hws' := hws
  obtain ⟨a, cap, rfl, hl1, hl2, _⟩ := hws'
  have HW := Lib.hid hws
  have H0 := Lib.hid hb0
  clear hws hb0
  unfold maxLen at hl2
  generalize hn : ws.length = n at *
  go_enter Tryd.func45, Tryd.ntmps45
  go_wp2
  go_loopw [8] (fun i wr => ∃ k : Nat, k ≤ n ∧ i = .int .i64 k ∧ Below w.heap.size w wr ∧ (ws.take k).all (fitB wd hg) = true) (fun i _ => n - (intOf i).toNat)
  case atStart => exact ⟨0, Nat.zero_le _, rfl, Below.refl _ _, rfl⟩
  case round =>
    obtain ⟨k, hk, rfl, hb, hall⟩ := hrel
    have HA := Lib.hid hall
    clear hall
    by_cases hlt : k < n
    · have hx : ws[k]? = some ws[k] := List.getElem?_eq_getElem (by omega)
      obtain ⟨g, o, rfl, hc⟩ := win_at (wins_below HW.out hb) hx
      have HC := Lib.hid hc
      have hts : ws.take (k + 1) = ws.take k ++ [ws[k]] := by rw [List.take_succ_eq_append_getElem (by omega)]
      have HT := Lib.hid hts
      have hdx := HW.out
      generalize ws[k] = x at *
      have HD : Hid (ws[k]? = some x) := Lib.hid hx
      replace H0 := Lib.hid (below_row hb H0.out)
      have z1 : (k : Int) < (n : Int) := by omega
      have z2 : (0 : Int) ≤ (k : Int) := by omega
      clear hc hts hx hdx
      cases hf : fitB wd hg x with
      | true =>
        have hnf : (!fitB wd hg x) = false := by rw [hf]; rfl
        go_wp2_with (first | (refine wpList_load_cells rfl 68 _ rfl g (o + k * 3) 3 rfl _ Tryd.underlying68 rfl info_win (winC x) rfl HC.out ?_) | (go_at_call 35; refine (validFn_any wd hg _ x gb _ H0.out).mono ?_; rw [hnf]; rintro e W1 ⟨rfl, hb1⟩))
        go_roundw
        case rel => exact ⟨k + 1, by omega, by go_num, hb.trans (hb1.mono hb.size), by rw [HT.out, List.all_append, HA.out]; simp [hf]⟩
        case measure => simp [intOf]; omega
      | false =>
        have hnf : (!fitB wd hg x) = true := by rw [hf]; rfl
        go_wp2_with (first | (refine wpList_load_cells rfl 68 _ rfl g (o + k * 3) 3 rfl _ Tryd.underlying68 rfl info_win (winC x) rfl HC.out ?_) | (go_at_call 35; refine (validFn_any wd hg _ x gb _ H0.out).mono ?_; rw [hnf]; rintro e W1 ⟨rfl, hb1⟩))
        go_ret
        refine ⟨k, rfl, ?_, hb.trans (hb1.mono hb.size)⟩
        have hmem := List.mem_of_getElem? HD.out
        have hall : ws.all (fitB wd hg) = false := by
          rw [Bool.eq_false_iff]
          intro ha
          have := List.all_eq_true.1 ha x hmem
          rw [hf] at this; cases this
        rw [hall]; simp
    · obtain rfl : k = n := by omega
      go_wp2
      go_ret
      refine ⟨-1, rfl, ?_, hb⟩
      have hall := HA.out
      rw [List.take_of_length_le (by omega)] at hall
      rw [hall]; rfl

set_option maxRecDepth 100000 in
set_option maxHeartbeats 1000000 in
theorem containsFn_any (wd hg : Int) (sv : Value) (ws : List Wn) (gb : Nat) (w : World) (hb0 : w.heap[gb]? = some (.cells (roomC wd hg sv) 33 (0, 0))) (hws : WinsAt w sv ws) :
    Calls Tryd.prog 34 #[sv, .func (.func 35) #[] #[.pointer (some ⟨gb, 0, none⟩)]] w fun e w' => e = .returned (.bool (!ws.all (fitB wd hg))) ∧ Below w.heap.size w w' := by
  have HC := indexFn_any wd hg sv ws gb w hb0 hws
  clear hb0 hws
  go_enter Tryd.func34, Tryd.ntmps34
  go_wp2_with (go_at_call 45; refine HC.mono ?_; rintro e W1 ⟨r, rfl, hd, hb1⟩)
  go_ret
  first | exact ⟨ret_boolR hd, hb1⟩ | exact ⟨rfl, hb1⟩

theorem okRm_len {wd hg : Int} {ws : List Wn} (h0 : 1 ≤ wd ∧ wd ≤ 10) (h1 : 1 ≤ hg ∧ hg ≤ 10) (h2 : ws.length ≤ 12) : okRm wd hg ws = ws.all (fitB wd hg) := by
  simp [okRm, inI, h0, h1, h2]
theorem okRm_bad {wd hg : Int} {ws : List Wn} (h : ¬ ((1 ≤ wd ∧ wd ≤ 10) ∧ (1 ≤ hg ∧ hg ≤ 10) ∧ ws.length ≤ 12)) : okRm wd hg ws = false := by
  rw [Bool.eq_false_iff]
  intro k
  have r := okRm_get k
  exact h ⟨⟨r.w0, r.w1⟩, ⟨r.h0, r.h1⟩, r.len⟩

set_option maxRecDepth 100000 in
set_option maxHeartbeats 1000000 in
theorem ValidRoom_any (wd hg : Int) (sv : Value) (ws : List Wn) (w : World) (hws : WinsAt w sv ws) :
    Calls Tryd.prog 23 #[.agg (roomC wd hg sv)] w fun e w' => e = .returned (.bool (okRm wd hg ws)) ∧ Below w.heap.size w w' := by
  have HW := Lib.hid hws
  obtain ⟨a, cap, rfl, hl1, hl2, _⟩ := hws
  unfold maxLen at hl2
  generalize hn : ws.length = n at *
  have HN := Lib.hid hn
  clear hn
  by_cases hw : 1 ≤ wd ∧ wd ≤ 10
  · by_cases hh : 1 ≤ hg ∧ hg ≤ 10
    · by_cases hn : n ≤ 12
      · have e := okRm_len (ws := ws) hw hh (by rw [HN.out]; exact hn)
        rw [e]
        obtain ⟨w0, w1⟩ := hw
        obtain ⟨q0, q1⟩ := hh
        have z : (n : Int) ≤ 12 := by omega
        clear e
        go_enter Tryd.func23, Tryd.ntmps23
        go_upto_region 1 with (fail)
        refine abs_world (fun W => Below w.heap.size w W ∧ W.heap[w.heap.size]? = some (.cells (roomC wd hg (.slice a n cap)) 33 (0, 0))) ⟨(Below.refl _ _).alloc (Nat.le_refl _) _, heap_alloc_new _ _⟩ ?_
        rintro W ⟨hb, h0⟩
        have H0 := Lib.hid h0
        obtain ⟨k0, k1, k2⟩ := room_cells h0
        replace HW := Lib.hid (wins_below HW.out hb)
        clear h0
        have HC := Lib.hid (containsFn_any wd hg _ ws w.heap.size W H0.out HW.out)
        go_wp2_with (go_at_call 34; refine HC.out.mono ?_; rintro e W1 ⟨rfl, hb1⟩)
        go_ret
        exact ⟨ret_boolR (by cases ws.all (fitB wd hg) <;> rfl), hb.trans (hb1.mono hb.size)⟩
      · rw [okRm_bad (by rw [HN.out]; omega)]
        obtain ⟨w0, w1⟩ := hw
        obtain ⟨q0, q1⟩ := hh
        have z : (12 : Int) < (n : Int) := by omega
        go_enter Tryd.func23, Tryd.ntmps23
        go_upto_region 1 with (fail)
        refine abs_world (fun W => Below w.heap.size w W ∧ W.heap[w.heap.size]? = some (.cells (roomC wd hg (.slice a n cap)) 33 (0, 0))) ⟨(Below.refl _ _).alloc (Nat.le_refl _) _, heap_alloc_new _ _⟩ ?_
        rintro W ⟨hb, h0⟩
        have H0 := Lib.hid h0
        obtain ⟨k0, k1, k2⟩ := room_cells h0
        replace HW := Lib.hid (wins_below HW.out hb)
        clear h0
        go_wp2
        go_ret
        exact ⟨rfl, hb⟩
    · rw [okRm_bad (by omega)]
      obtain ⟨w0, w1⟩ := hw
      have hc : hg < 1 ∨ 10 < hg := by omega
      clear hh
      by_cases q : hg < 1
      · clear hc
        go_enter Tryd.func23, Tryd.ntmps23
        go_upto_region 1 with (fail)
        refine abs_world (fun W => Below w.heap.size w W ∧ W.heap[w.heap.size]? = some (.cells (roomC wd hg (.slice a n cap)) 33 (0, 0))) ⟨(Below.refl _ _).alloc (Nat.le_refl _) _, heap_alloc_new _ _⟩ ?_
        rintro W ⟨hb, h0⟩
        have H0 := Lib.hid h0
        obtain ⟨k0, k1, k2⟩ := room_cells h0
        replace HW := Lib.hid (wins_below HW.out hb)
        clear h0
        go_wp2
        go_ret
        exact ⟨rfl, hb⟩
      · have q1 : 1 ≤ hg := by omega
        have q2 : 10 < hg := by omega
        clear q hc
        go_enter Tryd.func23, Tryd.ntmps23
        go_upto_region 1 with (fail)
        refine abs_world (fun W => Below w.heap.size w W ∧ W.heap[w.heap.size]? = some (.cells (roomC wd hg (.slice a n cap)) 33 (0, 0))) ⟨(Below.refl _ _).alloc (Nat.le_refl _) _, heap_alloc_new _ _⟩ ?_
        rintro W ⟨hb, h0⟩
        have H0 := Lib.hid h0
        obtain ⟨k0, k1, k2⟩ := room_cells h0
        replace HW := Lib.hid (wins_below HW.out hb)
        clear h0
        go_wp2
        go_ret
        exact ⟨rfl, hb⟩
  · rw [okRm_bad (by omega)]
    have hc : wd < 1 ∨ 10 < wd := by omega
    clear hw
    by_cases q : wd < 1
    · clear hc
      go_enter Tryd.func23, Tryd.ntmps23
      go_upto_region 1 with (fail)
      refine abs_world (fun W => Below w.heap.size w W ∧ W.heap[w.heap.size]? = some (.cells (roomC wd hg (.slice a n cap)) 33 (0, 0))) ⟨(Below.refl _ _).alloc (Nat.le_refl _) _, heap_alloc_new _ _⟩ ?_
      rintro W ⟨hb, h0⟩
      have H0 := Lib.hid h0
      obtain ⟨k0, k1, k2⟩ := room_cells h0
      replace HW := Lib.hid (wins_below HW.out hb)
      clear h0
      go_wp2
      go_ret
      exact ⟨rfl, hb⟩
    · have q1 : 1 ≤ wd := by omega
      have q2 : 10 < wd := by omega
      clear q hc
      go_enter Tryd.func23, Tryd.ntmps23
      go_upto_region 1 with (fail)
      refine abs_world (fun W => Below w.heap.size w W ∧ W.heap[w.heap.size]? = some (.cells (roomC wd hg (.slice a n cap)) 33 (0, 0))) ⟨(Below.refl _ _).alloc (Nat.le_refl _) _, heap_alloc_new _ _⟩ ?_
      rintro W ⟨hb, h0⟩
      have H0 := Lib.hid h0
      obtain ⟨k0, k1, k2⟩ := room_cells h0
      replace HW := Lib.hid (wins_below HW.out hb)
      clear h0
      go_wp2
      go_ret
      exact ⟨rfl, hb⟩

end Go.Proofs.YtddnfbpgldchcaaDoor
