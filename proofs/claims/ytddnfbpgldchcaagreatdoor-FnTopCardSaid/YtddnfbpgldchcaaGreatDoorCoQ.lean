/-
  What is asked of a control, a blind, a state and ticks: the model's.

-/
import Derived.Test.YtddnfbpgldchcaaGreatDoorTkC

namespace Go.Proofs.YtddnfbpgldchcaaGreatDoor

open Go.ChangeShapes Go.WideShapes Go.ChangeAt Go.RowKit Go.Deep Go.Joins

attribute [local go_sem] run_store_f

/-- The code of ticks alone. -/
def codeL (ts : List Tk) : Int := if ts.all okT = false then 1 else if 100 < ts.length then 3 else 0

theorem ret_i64q {a b : Int} (h : a = b) : Ending.returned (.int .i64 a) = .returned (.int .i64 b) := by rw [h]

set_option maxRecDepth 100000 in
set_option maxHeartbeats 1000000 in
theorem asked_c (lo : Nat) (hi : Nat) (wi : Nat) (st : Int) (de : Int) (ca : Int) (cw : CtWf lo hi wi st de ca) (n : Int) (wd gp : Nat) (t : Int) (sh : Nat) (_bw : BlWf n wd gp t sh) (ti : Int) (wt : Int) (sm : Int) (_sw : SaWf ti wt sm) (sv : Value) (ts : List Tk) (_hwf : ∀ x ∈ ts, TWf x) (g1 g2 g3 : Nat) (T1 T2 T3 : TypeId) (f1 f2 f3 : Nat × Nat) (w : World) (h1 : w.heap[g1]? = some (.cells (ctC lo hi wi st de ca) T1 f1)) (h2 : w.heap[g2]? = some (.cells (blindC n wd gp t sh) T2 f2)) (h3 : w.heap[g3]? = some (.cells (saC ti wt sm) T3 f3)) (hts : TicksAt w sv ts) (hc : okCt lo hi wi st de ca = false) :
    Calls Tryz.prog 62 #[.pointer (some ⟨g1, 0, none⟩), .pointer (some ⟨g2, 0, none⟩), .pointer (some ⟨g3, 0, none⟩), sv] w fun e w' => e = .returned (.int .i64 1) ∧ Below w.heap.size w w' := by
  have VC := Lib.hid (fun W hq => l05Ok_is lo hi wi st de ca cw g1 T1 f1 false hc W hq)
  have H1 := Lib.hid h1
  have H2 := Lib.hid h2
  have H3 := Lib.hid h3
  have hb : Below w.heap.size w w := Below.refl _ _
  have HT := Lib.hid hts
  obtain ⟨a0, cap, rfl, hl1, hl2, _⟩ := hts
  unfold maxLen at hl2
  clear h1 h2 h3 cw hc
  go_enter Tryz.func62, Tryz.ntmps62
  go_wp2_with (go_at_call 126; refine (VC.out _ H1.out).mono ?_; rintro e W1 ⟨rfl, hb1⟩; replace H2 := Lib.hid (below_row hb1 H2.out); replace H3 := Lib.hid (below_row hb1 H3.out); replace hb := hb.trans (hb1.mono hb.size); clear hb1)
  go_ret
  exact ⟨rfl, hb⟩

set_option maxRecDepth 100000 in
set_option maxHeartbeats 1000000 in
theorem asked_b (lo : Nat) (hi : Nat) (wi : Nat) (st : Int) (de : Int) (ca : Int) (cw : CtWf lo hi wi st de ca) (n : Int) (wd gp : Nat) (t : Int) (sh : Nat) (bw : BlWf n wd gp t sh) (ti : Int) (wt : Int) (sm : Int) (_sw : SaWf ti wt sm) (sv : Value) (ts : List Tk) (_hwf : ∀ x ∈ ts, TWf x) (g1 g2 g3 : Nat) (T1 T2 T3 : TypeId) (f1 f2 f3 : Nat × Nat) (w : World) (h1 : w.heap[g1]? = some (.cells (ctC lo hi wi st de ca) T1 f1)) (h2 : w.heap[g2]? = some (.cells (blindC n wd gp t sh) T2 f2)) (h3 : w.heap[g3]? = some (.cells (saC ti wt sm) T3 f3)) (hts : TicksAt w sv ts) (hc : okCt lo hi wi st de ca = true) (hbl : okBl n wd gp t sh = false) :
    Calls Tryz.prog 62 #[.pointer (some ⟨g1, 0, none⟩), .pointer (some ⟨g2, 0, none⟩), .pointer (some ⟨g3, 0, none⟩), sv] w fun e w' => e = .returned (.int .i64 1) ∧ Below w.heap.size w w' := by
  have VC := Lib.hid (fun W hq => l05Ok_is lo hi wi st de ca cw g1 T1 f1 true hc W hq)
  have VB := Lib.hid (fun W hq => l02Ok_is n wd gp t sh bw g2 T2 f2 false hbl W hq)
  have H1 := Lib.hid h1
  have H2 := Lib.hid h2
  have H3 := Lib.hid h3
  have hb : Below w.heap.size w w := Below.refl _ _
  have HT := Lib.hid hts
  obtain ⟨a0, cap, rfl, hl1, hl2, _⟩ := hts
  unfold maxLen at hl2
  clear h1 h2 h3 cw hc bw hbl
  go_enter Tryz.func62, Tryz.ntmps62
  go_wp2_with (first | (go_at_call 126; refine (VC.out _ H1.out).mono ?_; rintro e W1 ⟨rfl, hb1⟩; replace H2 := Lib.hid (below_row hb1 H2.out); replace H3 := Lib.hid (below_row hb1 H3.out); replace hb := hb.trans (hb1.mono hb.size); clear hb1) | (go_at_call 85; refine (VB.out _ H2.out).mono ?_; rintro e w' ⟨rfl, rfl⟩))
  go_ret
  exact ⟨rfl, hb⟩

set_option maxRecDepth 100000 in
set_option maxHeartbeats 1000000 in
theorem asked_s (lo : Nat) (hi : Nat) (wi : Nat) (st : Int) (de : Int) (ca : Int) (cw : CtWf lo hi wi st de ca) (n : Int) (wd gp : Nat) (t : Int) (sh : Nat) (bw : BlWf n wd gp t sh) (ti : Int) (wt : Int) (sm : Int) (sw : SaWf ti wt sm) (sv : Value) (ts : List Tk) (_hwf : ∀ x ∈ ts, TWf x) (g1 g2 g3 : Nat) (T1 T2 T3 : TypeId) (f1 f2 f3 : Nat × Nat) (w : World) (h1 : w.heap[g1]? = some (.cells (ctC lo hi wi st de ca) T1 f1)) (h2 : w.heap[g2]? = some (.cells (blindC n wd gp t sh) T2 f2)) (h3 : w.heap[g3]? = some (.cells (saC ti wt sm) T3 f3)) (hts : TicksAt w sv ts) (hc : okCt lo hi wi st de ca = true) (hbl : okBl n wd gp t sh = true) (hs : okSa ti wt sm = false) :
    Calls Tryz.prog 62 #[.pointer (some ⟨g1, 0, none⟩), .pointer (some ⟨g2, 0, none⟩), .pointer (some ⟨g3, 0, none⟩), sv] w fun e w' => e = .returned (.int .i64 1) ∧ Below w.heap.size w w' := by
  have VC := Lib.hid (fun W hq => l05Ok_is lo hi wi st de ca cw g1 T1 f1 true hc W hq)
  have VB := Lib.hid (fun W hq => l02Ok_is n wd gp t sh bw g2 T2 f2 true hbl W hq)
  have VS := Lib.hid (fun W hq => l05State_is ti wt sm sw g3 T3 f3 false hs W hq)
  have H1 := Lib.hid h1
  have H2 := Lib.hid h2
  have H3 := Lib.hid h3
  have hb : Below w.heap.size w w := Below.refl _ _
  have HT := Lib.hid hts
  obtain ⟨a0, cap, rfl, hl1, hl2, _⟩ := hts
  unfold maxLen at hl2
  clear h1 h2 h3 cw hc bw hbl sw hs
  go_enter Tryz.func62, Tryz.ntmps62
  go_wp2_with (first | (go_at_call 126; refine (VC.out _ H1.out).mono ?_; rintro e W1 ⟨rfl, hb1⟩; replace H2 := Lib.hid (below_row hb1 H2.out); replace H3 := Lib.hid (below_row hb1 H3.out); replace hb := hb.trans (hb1.mono hb.size); clear hb1) | (go_at_call 85; refine (VB.out _ H2.out).mono ?_; rintro e w' ⟨rfl, rfl⟩) | (go_at_call 127; refine (VS.out _ H3.out).mono ?_; rintro e w' ⟨rfl, rfl⟩))
  go_ret
  exact ⟨rfl, hb⟩

set_option maxRecDepth 100000 in
set_option maxHeartbeats 1000000 in
theorem asked_t (lo : Nat) (hi : Nat) (wi : Nat) (st : Int) (de : Int) (ca : Int) (cw : CtWf lo hi wi st de ca) (n : Int) (wd gp : Nat) (t : Int) (sh : Nat) (bw : BlWf n wd gp t sh) (ti : Int) (wt : Int) (sm : Int) (sw : SaWf ti wt sm) (sv : Value) (ts : List Tk) (hwf : ∀ x ∈ ts, TWf x) (g1 g2 g3 : Nat) (T1 T2 T3 : TypeId) (f1 f2 f3 : Nat × Nat) (w : World) (h1 : w.heap[g1]? = some (.cells (ctC lo hi wi st de ca) T1 f1)) (h2 : w.heap[g2]? = some (.cells (blindC n wd gp t sh) T2 f2)) (h3 : w.heap[g3]? = some (.cells (saC ti wt sm) T3 f3)) (hts : TicksAt w sv ts) (hc : okCt lo hi wi st de ca = true) (hbl : okBl n wd gp t sh = true) (hs : okSa ti wt sm = true) :
    Calls Tryz.prog 62 #[.pointer (some ⟨g1, 0, none⟩), .pointer (some ⟨g2, 0, none⟩), .pointer (some ⟨g3, 0, none⟩), sv] w fun e w' => e = .returned (.int .i64 (codeL ts)) ∧ Below w.heap.size w w' := by
  have VC := Lib.hid (fun W hq => l05Ok_is lo hi wi st de ca cw g1 T1 f1 true hc W hq)
  have VB := Lib.hid (fun W hq => l02Ok_is n wd gp t sh bw g2 T2 f2 true hbl W hq)
  have VS := Lib.hid (fun W hq => l05State_is ti wt sm sw g3 T3 f3 true hs W hq)
  have H1 := Lib.hid h1
  have H2 := Lib.hid h2
  have H3 := Lib.hid h3
  have hb : Below w.heap.size w w := Below.refl _ _
  have HT := Lib.hid hts
  obtain ⟨a0, cap, rfl, hl1, hl2, _⟩ := hts
  unfold maxLen at hl2
  clear h1 h2 h3 cw hc bw hbl sw hs
  have HWF := Lib.hid hwf
  clear hwf
  generalize hn : ts.length = m at *
  have HN := Lib.hid hn
  clear hn
  go_enter Tryz.func62, Tryz.ntmps62
  go_wp2_with (first | (go_at_call 126; refine (VC.out _ H1.out).mono ?_; rintro e W1 ⟨rfl, hb1⟩; replace H2 := Lib.hid (below_row hb1 H2.out); replace H3 := Lib.hid (below_row hb1 H3.out); replace hb := hb.trans (hb1.mono hb.size); clear hb1) | (go_at_call 85; refine (VB.out _ H2.out).mono ?_; rintro e w' ⟨rfl, rfl⟩) | (go_at_call 127; refine (VS.out _ H3.out).mono ?_; rintro e w' ⟨rfl, rfl⟩))
  go_loopw [9] (fun i wr => ∃ k : Nat, k ≤ m ∧ i = .int .i64 k ∧ Below w.heap.size w wr ∧ (ts.take k).all okT = true) (fun i _ => m - (intOf i).toNat)
  case atStart => exact ⟨0, Nat.zero_le _, rfl, hb, rfl⟩
  case round =>
    clear hb H2 H3
    obtain ⟨k, hk, rfl, hb, hall⟩ := hrel
    have HL := Lib.hid hall
    clear hall
    by_cases hlt : k < m
    · have hx : ts[k]? = some (ts[k]'(by rw [HN.out]; exact hlt)) := List.getElem?_eq_getElem _
      obtain ⟨g, o, rfl, hc⟩ := tick_at (ticks_below HT.out hb) hx
      have HC := Lib.hid hc
      have hts : ts.take (k + 1) = ts.take k ++ [ts[k]'(by rw [HN.out]; exact hlt)] := by rw [List.take_succ_eq_append_getElem]
      have HTS := Lib.hid hts
      generalize (ts[k]'(by rw [HN.out]; exact hlt)) = x at *
      have HX := Lib.hid hx
      have HWx := Lib.hid (HWF.out x (List.mem_of_getElem? hx))
      have z1 : (k : Int) < (m : Int) := by omega
      have z2 : (0 : Int) ≤ (k : Int) := by omega
      clear hc hts hx
      cases hf : okT x with
      | true =>
        have HF := Lib.hid hf
        clear hf
        go_wp2_with (go_at_call 128; refine (l05Tick_is x HWx.out g (o + k * 3) true HF.out _ HC.out).mono ?_; rintro e w' ⟨rfl, rfl⟩)
        go_roundw
        case rel => exact ⟨k + 1, by omega, by go_num, hb, by rw [HTS.out, List.all_append, HL.out]; simp [HF.out]⟩
        case measure => simp [intOf]; omega
      | false =>
        have HF := Lib.hid hf
        clear hf
        go_wp2_with (go_at_call 128; refine (l05Tick_is x HWx.out g (o + k * 3) false HF.out _ HC.out).mono ?_; rintro e w' ⟨rfl, rfl⟩)
        go_ret
        refine ⟨ret_i64q ?_, hb⟩
        have hall : ts.all okT = false := by
          rw [Bool.eq_false_iff]
          intro ha
          have := List.all_eq_true.1 ha x (List.mem_of_getElem? HX.out)
          rw [HF.out] at this; cases this
        unfold codeL
        rw [if_pos hall]
    · obtain rfl : k = m := by omega
      have hall : ts.all okT = true := by
        have h := HL.out
        rwa [List.take_of_length_le (by rw [HN.out]; exact Nat.le_refl _)] at h
      have HR : Hid (codeL ts = if 100 < k then 3 else 0) := by
        unfold Hid codeL
        rw [if_neg (by rw [hall]; decide), HN.out]
      clear hall HL
      by_cases hn : 100 < k
      · have zn : (100 : Int) < (k : Int) := by omega
        go_wp2
        go_ret
        exact ⟨ret_i64q (by rw [HR.out, if_pos hn]), hb⟩
      · have zn : (k : Int) ≤ 100 := by omega
        go_wp2
        go_ret
        exact ⟨ret_i64q (by rw [HR.out, if_neg hn]), hb⟩

theorem l05Asked_any (lo : Nat) (hi : Nat) (wi : Nat) (st : Int) (de : Int) (ca : Int) (cw : CtWf lo hi wi st de ca) (n : Int) (wd gp : Nat) (t : Int) (sh : Nat) (bw : BlWf n wd gp t sh) (ti : Int) (wt : Int) (sm : Int) (sw : SaWf ti wt sm) (sv : Value) (ts : List Tk) (hwf : ∀ x ∈ ts, TWf x) (g1 g2 g3 : Nat) (T1 T2 T3 : TypeId) (f1 f2 f3 : Nat × Nat) (w : World) (h1 : w.heap[g1]? = some (.cells (ctC lo hi wi st de ca) T1 f1)) (h2 : w.heap[g2]? = some (.cells (blindC n wd gp t sh) T2 f2)) (h3 : w.heap[g3]? = some (.cells (saC ti wt sm) T3 f3)) (hts : TicksAt w sv ts) :
    Calls Tryz.prog 62 #[.pointer (some ⟨g1, 0, none⟩), .pointer (some ⟨g2, 0, none⟩), .pointer (some ⟨g3, 0, none⟩), sv] w fun e w' => e = .returned (.int .i64 (codeT (okCt lo hi wi st de ca) (okBl n wd gp t sh) (okSa ti wt sm) ts)) ∧ Below w.heap.size w w' := by
  unfold codeT
  cases hc : okCt lo hi wi st de ca with
  | false => rw [if_pos (by simp)]; exact asked_c lo hi wi st de ca cw n wd gp t sh bw ti wt sm sw sv ts hwf g1 g2 g3 T1 T2 T3 f1 f2 f3 w h1 h2 h3 hts hc
  | true =>
    cases hb : okBl n wd gp t sh with
    | false => rw [if_pos (by simp)]; exact asked_b lo hi wi st de ca cw n wd gp t sh bw ti wt sm sw sv ts hwf g1 g2 g3 T1 T2 T3 f1 f2 f3 w h1 h2 h3 hts hc hb
    | true =>
      cases hs : okSa ti wt sm with
      | false => rw [if_pos (by simp)]; exact asked_s lo hi wi st de ca cw n wd gp t sh bw ti wt sm sw sv ts hwf g1 g2 g3 T1 T2 T3 f1 f2 f3 w h1 h2 h3 hts hc hb hs
      | true =>
        rw [show (if (true && true && true && ts.all okT) = false then (1 : Int) else if 100 < ts.length then 3 else 0) = codeL ts from rfl]
        exact asked_t lo hi wi st de ca cw n wd gp t sh bw ti wt sm sw sv ts hwf g1 g2 g3 T1 T2 T3 f1 f2 f3 w h1 h2 h3 hts hc hb hs

end Go.Proofs.YtddnfbpgldchcaaGreatDoor
