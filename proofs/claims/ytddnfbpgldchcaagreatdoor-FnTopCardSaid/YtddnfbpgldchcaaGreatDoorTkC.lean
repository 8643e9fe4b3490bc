/-
  Ticks that lie in a list, and what is asked of a control, a blind, a state and ticks.

-/
import Derived.Test.YtddnfbpgldchcaaGreatDoorGenL
import Derived.Test.YtddnfbpgldchcaaGreatDoorCoA
import Derived.Test.YtddnfbpgldchcaaGreatDoorBfn

namespace Go.Proofs.YtddnfbpgldchcaaGreatDoor

open Go.ChangeShapes Go.WideShapes Go.ChangeAt Go.RowKit Go.Deep Go.Joins

attribute [local go_sem] run_store_f

/-- A tick: the light, the gust, the height. -/
abbrev Tk := Nat × Nat × Int

def tickC (x : Tk) : Array Value := tkC x.1 x.2.1 x.2.2

def TWf (x : Tk) : Prop := TkWf x.1 x.2.1 x.2.2

def okT (x : Tk) : Bool := okTk x.1 x.2.1 x.2.2

def TicksAt (W : World) (v : Value) (ws : List Tk) : Prop :=
  ∃ a cap, v = .slice a ws.length cap ∧ ws.length ≤ cap ∧ cap ≤ maxLen ∧ ∀ i x, ws[i]? = some x → ∃ g o, a = some ⟨g, o, none⟩ ∧
    W.cell? ⟨g, o + i * 3, none⟩ = some (.float .f32 x.1) ∧ W.cell? ⟨g, o + i * 3 + 1, none⟩ = some (.float .f32 x.2.1) ∧ W.cell? ⟨g, o + i * 3 + 2, none⟩ = some (.int .i8 x.2.2)

theorem ticks_below {W W' : World} {v : Value} {ws : List Tk} (h : TicksAt W v ws) (hb : Below W.heap.size W W') : TicksAt W' v ws := by
  obtain ⟨a, cap, h1, h2, h3, h4⟩ := h
  refine ⟨a, cap, h1, h2, h3, fun i x hx => ?_⟩
  obtain ⟨g, o, e, c0, c1, c2⟩ := h4 i x hx
  exact ⟨g, o, e, cell_below hb c0, cell_below hb c1, cell_below hb c2⟩

theorem tick_at {W : World} {a : Option Addr} {n cap : Nat} {ws : List Tk} (h : TicksAt W (.slice a n cap) ws) {k : Nat} {x : Tk} (hx : ws[k]? = some x) :
    ∃ g o, a = some ⟨g, o, none⟩ ∧ ∀ j v, (tickC x)[j]? = some v → W.cell? ⟨g, o + k * 3 + j, none⟩ = some v := by
  obtain ⟨a', cap', e, _, _, h4⟩ := h
  injection e with e1 e2 e3
  subst e1
  obtain ⟨g, o, rfl, c0, c1, c2⟩ := h4 k x hx
  refine ⟨g, o, rfl, fun j v hv => ?_⟩
  match j, hv with
  | 0, hv => simp [tickC, tkC] at hv; subst hv; exact c0
  | 1, hv => simp [tickC, tkC] at hv; subst hv; exact c1
  | 2, hv => simp [tickC, tkC] at hv; subst hv; exact c2
  | j + 3, hv => simp [tickC, tkC] at hv

/-- One tick in a block of its own. -/
theorem one_tick {W : World} {g : Nat} {T : TypeId} {fr : Nat × Nat} (x : Tk) (h : W.heap[g]? = some (.cells (tickC x) T fr)) : TicksAt W (.slice (some ⟨g, 0, none⟩) 1 1) [x] := by
  obtain ⟨c0, c1, c2⟩ := tk_cells h
  refine ⟨_, 1, rfl, Nat.le_refl _, by unfold maxLen; omega, fun i y hy => ⟨g, 0, rfl, ?_⟩⟩
  match i, hy with
  | 0, hy => simp at hy; subst hy; exact ⟨c0, c1, c2⟩
  | i + 1, hy => simp at hy

set_option maxRecDepth 100000 in
set_option maxHeartbeats 1000000 in
theorem badTick_any (x : Tk) (hx : TWf x) (w : World) :
    Calls Tryz.prog 117 #[.agg (tickC x)] w fun e w' => e = .returned (.bool (!okT x)) ∧ Below w.heap.size w w' := by
  have HC := Lib.hid (fun w => implValidTick_any x.1 x.2.1 x.2.2 hx w)
  unfold tickC okT
  clear hx
  go_enter Tryz.func117, Tryz.ntmps117
  go_upto_region 1 with (fail)
  refine abs_world (fun W => Below w.heap.size w W ∧ W.heap[w.heap.size]? = some (.cells (tkC x.1 x.2.1 x.2.2) 47 (0, 0))) ⟨(Below.refl _ _).alloc (Nat.le_refl _) _, heap_alloc_new _ _⟩ ?_
  rintro W ⟨hb, h1⟩
  have H1 := Lib.hid h1
  clear h1
  go_wp2_with (first | (refine wpList_load_part rfl 47 _ rfl w.heap.size 0 3 rfl 47 (tkC x.1 x.2.1 x.2.2) (0, 0) _ H1.out Tryz.underlying47 rfl info_tk (tk_fits _ _ _) _ (tk_all _ _ _) ?_) | (go_at_call 118; refine (HC.out _).mono ?_; rintro e W1 ⟨rfl, hb1⟩))
  go_ret
  exact ⟨rfl, hb.trans (hb1.mono hb.size)⟩

/-- What looking for a tick that is not valid finds. -/
def FoundK (ts : List Tk) (w : World) (e : Ending) (w' : World) : Prop := ∃ r : Int, e = .returned (.int .i64 r) ∧ decide (0 ≤ r) = !ts.all okT ∧ Below w.heap.size w w'

set_option maxRecDepth 100000 in
set_option maxHeartbeats 1000000 in
theorem indexTk_any (sv : Value) (ws : List Tk) (hwf : ∀ x ∈ ws, TWf x) (w : World) (hws : TicksAt w sv ws) :
    Calls Tryz.prog 159 #[sv, .func (.func 117) #[] #[]] w fun e w' => FoundK ws w e w' := by
  have hws' := hws
  obtain ⟨a, cap, rfl, hl1, hl2, _⟩ := hws'
  have HW := Lib.hid hws
  have HWF := Lib.hid hwf
  clear hws hwf
  unfold maxLen at hl2
  generalize hn : ws.length = n at *
  go_enter Tryz.func159, Tryz.ntmps159
  go_wp2
  go_loopw [8] (fun i wr => ∃ k : Nat, k ≤ n ∧ i = .int .i64 k ∧ Below w.heap.size w wr ∧ (ws.take k).all okT = true) (fun i _ => n - (intOf i).toNat)
  case atStart => exact ⟨0, Nat.zero_le _, rfl, Below.refl _ _, rfl⟩
  case round =>
    obtain ⟨k, hk, rfl, hb, hall⟩ := hrel
    have HA := Lib.hid hall
    clear hall
    by_cases hlt : k < n
    · have hx : ws[k]? = some ws[k] := List.getElem?_eq_getElem (by omega)
      obtain ⟨g, o, rfl, hc⟩ := tick_at (ticks_below HW.out hb) hx
      have HC := Lib.hid hc
      have hts : ws.take (k + 1) = ws.take k ++ [ws[k]] := by rw [List.take_succ_eq_append_getElem (by omega)]
      have HT := Lib.hid hts
      have hdx := HW.out
      generalize ws[k] = x at *
      have HD : Hid (ws[k]? = some x) := Lib.hid hx
      have HWx := Lib.hid (HWF.out x (List.mem_of_getElem? hx))
      have z1 : (k : Int) < (n : Int) := by omega
      have z2 : (0 : Int) ≤ (k : Int) := by omega
      clear hc hts hx hdx
      cases hf : okT x with
      | true =>
        have hnf : (!okT x) = false := by rw [hf]; rfl
        go_wp2_with (first | (refine wpList_load_cells rfl 47 _ rfl g (o + k * 3) 3 rfl _ Tryz.underlying47 rfl info_tk (tickC x) rfl HC.out ?_) | (go_at_call 117; refine (badTick_any x HWx.out _).mono ?_; rw [hnf]; rintro e W1 ⟨rfl, hb1⟩))
        go_roundw
        case rel => exact ⟨k + 1, by omega, by go_num, hb.trans (hb1.mono hb.size), by rw [HT.out, List.all_append, HA.out]; simp [hf]⟩
        case measure => simp [intOf]; omega
      | false =>
        have hnf : (!okT x) = true := by rw [hf]; rfl
        go_wp2_with (first | (refine wpList_load_cells rfl 47 _ rfl g (o + k * 3) 3 rfl _ Tryz.underlying47 rfl info_tk (tickC x) rfl HC.out ?_) | (go_at_call 117; refine (badTick_any x HWx.out _).mono ?_; rw [hnf]; rintro e W1 ⟨rfl, hb1⟩))
        go_ret
        refine ⟨k, rfl, ?_, hb.trans (hb1.mono hb.size)⟩
        have hmem := List.mem_of_getElem? HD.out
        have hall : ws.all okT = false := by
          rw [Bool.eq_false_iff]
          intro ha
          have := List.all_eq_true.1 ha x hmem
          rw [hf] at this; cases this
        rw [hall]; simp
    · obtain rfl : k = n := by omega
      go_wp2
      go_ret
      refine ⟨-1, rfl, ?_, hb⟩
      have hall := HA.out
      rw [List.take_of_length_le (by omega)] at hall
      rw [hall]; rfl

set_option maxRecDepth 100000 in
set_option maxHeartbeats 1000000 in
theorem containsTk_any (sv : Value) (ws : List Tk) (hwf : ∀ x ∈ ws, TWf x) (w : World) (hws : TicksAt w sv ws) :
    Calls Tryz.prog 121 #[sv, .func (.func 117) #[] #[]] w fun e w' => e = .returned (.bool (!ws.all okT)) ∧ Below w.heap.size w w' := by
  have HC := indexTk_any sv ws hwf w hws
  clear hwf hws
  go_enter Tryz.func121, Tryz.ntmps121
  go_wp2_with (go_at_call 159; refine HC.mono ?_; rintro e W1 ⟨r, rfl, hd, hb1⟩)
  go_ret
  first | exact ⟨ret_bool5 hd, hb1⟩ | exact ⟨rfl, hb1⟩

/-- The code of a control, a blind, a state and ticks. -/
def codeT (okc okb oks : Bool) (ts : List Tk) : Int := if (okc && okb && oks && ts.all okT) = false then 1 else if 100 < ts.length then 3 else 0

theorem vctl_is (lo : Nat) (hi : Nat) (wi : Nat) (st : Int) (de : Int) (ca : Int) (cw : CtWf lo hi wi st de ca) (r : Bool) (h : okCt lo hi wi st de ca = r) (w : World) : Calls Tryz.prog 119 #[.agg (ctC lo hi wi st de ca)] w fun e w' => e = .returned (.bool r) ∧ Below w.heap.size w w' := by subst h; exact implValidControl_any lo hi wi st de ca cw w

theorem vbl_is (n : Int) (wd gp : Nat) (t : Int) (sh : Nat) (t0 : -32768 ≤ t) (t1 : t ≤ 32767) (r : Bool) (h : okBl n wd gp t sh = r) (w : World) : Calls Tryz.prog 110 #[.agg (blindC n wd gp t sh)] w fun e w' => e = .returned (.bool r) ∧ Below w.heap.size w w' := by subst h; exact ValidBlind_any n wd gp t sh t0 t1 w

theorem vsa_is (ti : Int) (wt : Int) (sm : Int) (sw : SaWf ti wt sm) (r : Bool) (h : okSa ti wt sm = r) (w : World) : Calls Tryz.prog 120 #[.agg (saC ti wt sm)] w fun e w' => e = .returned (.bool r) ∧ Below w.heap.size w w' := by subst h; exact implValidState_any ti wt sm sw w

theorem l05Ok_is (lo : Nat) (hi : Nat) (wi : Nat) (st : Int) (de : Int) (ca : Int) (cw : CtWf lo hi wi st de ca) (g : Nat) (T : TypeId) (fr : Nat × Nat) (r : Bool) (h : okCt lo hi wi st de ca = r) (w : World) (hg : w.heap[g]? = some (.cells (ctC lo hi wi st de ca) T fr)) : Calls Tryz.prog 126 #[.pointer (some ⟨g, 0, none⟩)] w fun e w' => e = .returned (.bool r) ∧ Below w.heap.size w w' := by subst h; exact l05Ok_any lo hi wi st de ca cw g T fr w hg

theorem l02Ok_is (n : Int) (wd gp : Nat) (t : Int) (sh : Nat) (bw : BlWf n wd gp t sh) (g : Nat) (T : TypeId) (fr : Nat × Nat) (r : Bool) (h : okBl n wd gp t sh = r) (w : World) (hg : w.heap[g]? = some (.cells (blindC n wd gp t sh) T fr)) : Calls Tryz.prog 85 #[.pointer (some ⟨g, 0, none⟩)] w fun e w' => e = .returned (.bool r) ∧ w = w' := by subst h; exact l02Ok_any n wd gp t sh (blwf_t bw).1 (blwf_t bw).2 (blwf_n bw).1 (blwf_n bw).2 g T fr w hg

theorem l05State_is (ti : Int) (wt : Int) (sm : Int) (sw : SaWf ti wt sm) (g : Nat) (T : TypeId) (fr : Nat × Nat) (r : Bool) (h : okSa ti wt sm = r) (w : World) (hg : w.heap[g]? = some (.cells (saC ti wt sm) T fr)) : Calls Tryz.prog 127 #[.pointer (some ⟨g, 0, none⟩)] w fun e w' => e = .returned (.bool r) ∧ w = w' := by subst h; exact l05State_any ti wt sm sw g T fr w hg

theorem l05Tick_is (x : Tk) (hx : TWf x) (g o : Nat) (r : Bool) (h : okT x = r) (w : World) (hc : ∀ j v, (tickC x)[j]? = some v → w.cell? ⟨g, o + j, none⟩ = some v) : Calls Tryz.prog 128 #[.pointer (some ⟨g, o, none⟩)] w fun e w' => e = .returned (.bool r) ∧ w = w' := by
  subst h; exact l05Tick_any x.1 x.2.1 x.2.2 hx g o w (hc 0 _ rfl) (hc 1 _ rfl) (hc 2 _ rfl)

set_option maxRecDepth 100000 in
set_option maxHeartbeats 1000000 in
theorem ck_c (lo : Nat) (hi : Nat) (wi : Nat) (st : Int) (de : Int) (ca : Int) (cw : CtWf lo hi wi st de ca) (n : Int) (wd gp : Nat) (t : Int) (sh : Nat) (_bw : BlWf n wd gp t sh) (ti : Int) (wt : Int) (sm : Int) (_sw : SaWf ti wt sm) (sv : Value) (ts : List Tk) (_hwf : ∀ x ∈ ts, TWf x) (w : World) (hts : TicksAt w sv ts) (hc : okCt lo hi wi st de ca = false) :
    Calls Tryz.prog 59 #[.agg (ctC lo hi wi st de ca), .agg (blindC n wd gp t sh), .agg (saC ti wt sm), sv] w fun e w' => e = .returned (.int .i64 1) ∧ Below w.heap.size w w' := by
  have Vc := Lib.hid (fun w => vctl_is lo hi wi st de ca cw false hc w)
  have HT := Lib.hid hts
  obtain ⟨a0, cap, rfl, hl1, hl2, _⟩ := hts
  unfold maxLen at hl2
  clear cw hc
  go_enter Tryz.func59, Tryz.ntmps59
  go_upto_region 1 with (fail)
  refine abs_world (fun W => W.heap[w.heap.size]? = some (.cells (ctC lo hi wi st de ca) 40 (0, 0)) ∧ W.heap[w.heap.size + 1]? = some (.cells (blindC n wd gp t sh) 32 (0, 0)) ∧ W.heap[w.heap.size + 1 + 1]? = some (.cells (saC ti wt sm) 43 (0, 0)) ∧ Below w.heap.size w W) (box3 w (.cells (ctC lo hi wi st de ca) 40) (.cells (blindC n wd gp t sh) 32) (.cells (saC ti wt sm) 43)) ?_
  rintro W ⟨h0, h1, h2, hb⟩
  have hl1 : w.heap.size < w.heap.size + 1 := by omega
  have hl2 : w.heap.size + 1 < w.heap.size + 1 + 1 := by omega
  generalize w.heap.size + 1 + 1 = b2 at *
  generalize w.heap.size + 1 = b1 at *
  have H0 := Lib.hid h0
  have H1 := Lib.hid h1
  have H2 := Lib.hid h2
  clear h0 h1 h2
  have hbw := hb
  go_wp2_with (first | (refine wpList_load_partG 40 _ rfl w.heap.size 0 6 rfl rfl 40 (ctC lo hi wi st de ca) (0, 0) _ H0.out Tryz.underlying40 rfl info_ct (ct_fits _ _ _ _ _ _) _ (ct_all _ _ _ _ _ _) ?_) | (refine wpList_load_partG 32 _ rfl b1 0 5 rfl rfl 32 (blindC n wd gp t sh) (0, 0) _ H1.out Tryz.underlying32 rfl info_blind (blind_fits _ _ _ _ _) _ (blind_all _ _ _ _ _) ?_) | (refine wpList_load_partG 43 _ rfl b2 0 3 rfl rfl 43 (saC ti wt sm) (0, 0) _ H2.out Tryz.underlying43 rfl info_sa (sa_fits _ _ _) _ (sa_all _ _ _) ?_) | (go_at_call 119; refine (Vc.out _).mono ?_; rintro e W1 ⟨rfl, hb1⟩; replace H0 := Lib.hid (below_row hb1 H0.out); replace H1 := Lib.hid (below_row hb1 H1.out); replace H2 := Lib.hid (below_row hb1 H2.out); replace hb := hb.trans (hb1.mono hb.size); replace hbw := hbw.trans (hb1.mono hbw.size); clear hb1))
  go_ret
  exact ⟨rfl, hb⟩

set_option maxRecDepth 100000 in
set_option maxHeartbeats 1000000 in
theorem ck_b (lo : Nat) (hi : Nat) (wi : Nat) (st : Int) (de : Int) (ca : Int) (cw : CtWf lo hi wi st de ca) (n : Int) (wd gp : Nat) (t : Int) (sh : Nat) (bw : BlWf n wd gp t sh) (ti : Int) (wt : Int) (sm : Int) (_sw : SaWf ti wt sm) (sv : Value) (ts : List Tk) (_hwf : ∀ x ∈ ts, TWf x) (w : World) (hts : TicksAt w sv ts) (hc : okCt lo hi wi st de ca = true) (hb : okBl n wd gp t sh = false) :
    Calls Tryz.prog 59 #[.agg (ctC lo hi wi st de ca), .agg (blindC n wd gp t sh), .agg (saC ti wt sm), sv] w fun e w' => e = .returned (.int .i64 1) ∧ Below w.heap.size w w' := by
  have Vc := Lib.hid (fun w => vctl_is lo hi wi st de ca cw true hc w)
  have Vb := Lib.hid (fun w => vbl_is n wd gp t sh (blwf_t bw).1 (blwf_t bw).2 false hb w)
  have HT := Lib.hid hts
  obtain ⟨a0, cap, rfl, hl1, hl2, _⟩ := hts
  unfold maxLen at hl2
  clear cw bw hc hb
  go_enter Tryz.func59, Tryz.ntmps59
  go_upto_region 1 with (fail)
  refine abs_world (fun W => W.heap[w.heap.size]? = some (.cells (ctC lo hi wi st de ca) 40 (0, 0)) ∧ W.heap[w.heap.size + 1]? = some (.cells (blindC n wd gp t sh) 32 (0, 0)) ∧ W.heap[w.heap.size + 1 + 1]? = some (.cells (saC ti wt sm) 43 (0, 0)) ∧ Below w.heap.size w W) (box3 w (.cells (ctC lo hi wi st de ca) 40) (.cells (blindC n wd gp t sh) 32) (.cells (saC ti wt sm) 43)) ?_
  rintro W ⟨h0, h1, h2, hb⟩
  have hl1 : w.heap.size < w.heap.size + 1 := by omega
  have hl2 : w.heap.size + 1 < w.heap.size + 1 + 1 := by omega
  generalize w.heap.size + 1 + 1 = b2 at *
  generalize w.heap.size + 1 = b1 at *
  have H0 := Lib.hid h0
  have H1 := Lib.hid h1
  have H2 := Lib.hid h2
  clear h0 h1 h2
  have hbw := hb
  go_wp2_with (first | (refine wpList_load_partG 40 _ rfl w.heap.size 0 6 rfl rfl 40 (ctC lo hi wi st de ca) (0, 0) _ H0.out Tryz.underlying40 rfl info_ct (ct_fits _ _ _ _ _ _) _ (ct_all _ _ _ _ _ _) ?_) | (refine wpList_load_partG 32 _ rfl b1 0 5 rfl rfl 32 (blindC n wd gp t sh) (0, 0) _ H1.out Tryz.underlying32 rfl info_blind (blind_fits _ _ _ _ _) _ (blind_all _ _ _ _ _) ?_) | (refine wpList_load_partG 43 _ rfl b2 0 3 rfl rfl 43 (saC ti wt sm) (0, 0) _ H2.out Tryz.underlying43 rfl info_sa (sa_fits _ _ _) _ (sa_all _ _ _) ?_) | (go_at_call 119; refine (Vc.out _).mono ?_; rintro e W1 ⟨rfl, hb1⟩; replace H0 := Lib.hid (below_row hb1 H0.out); replace H1 := Lib.hid (below_row hb1 H1.out); replace H2 := Lib.hid (below_row hb1 H2.out); replace hb := hb.trans (hb1.mono hb.size); replace hbw := hbw.trans (hb1.mono hbw.size); clear hb1) | (go_at_call 110; refine (Vb.out _).mono ?_; rintro e W2 ⟨rfl, hb2⟩; replace H0 := Lib.hid (below_row hb2 H0.out); replace H1 := Lib.hid (below_row hb2 H1.out); replace H2 := Lib.hid (below_row hb2 H2.out); replace hb := hb.trans (hb2.mono hb.size); replace hbw := hbw.trans (hb2.mono hbw.size); clear hb2))
  go_ret
  exact ⟨rfl, hb⟩

set_option maxRecDepth 100000 in
set_option maxHeartbeats 1000000 in
theorem ck_s (lo : Nat) (hi : Nat) (wi : Nat) (st : Int) (de : Int) (ca : Int) (cw : CtWf lo hi wi st de ca) (n : Int) (wd gp : Nat) (t : Int) (sh : Nat) (bw : BlWf n wd gp t sh) (ti : Int) (wt : Int) (sm : Int) (sw : SaWf ti wt sm) (sv : Value) (ts : List Tk) (_hwf : ∀ x ∈ ts, TWf x) (w : World) (hts : TicksAt w sv ts) (hc : okCt lo hi wi st de ca = true) (hb : okBl n wd gp t sh = true) (hs : okSa ti wt sm = false) :
    Calls Tryz.prog 59 #[.agg (ctC lo hi wi st de ca), .agg (blindC n wd gp t sh), .agg (saC ti wt sm), sv] w fun e w' => e = .returned (.int .i64 1) ∧ Below w.heap.size w w' := by
  have Vc := Lib.hid (fun w => vctl_is lo hi wi st de ca cw true hc w)
  have Vb := Lib.hid (fun w => vbl_is n wd gp t sh (blwf_t bw).1 (blwf_t bw).2 true hb w)
  have Vs := Lib.hid (fun w => vsa_is ti wt sm sw false hs w)
  have HT := Lib.hid hts
  obtain ⟨a0, cap, rfl, hl1, hl2, _⟩ := hts
  unfold maxLen at hl2
  clear cw bw sw hc hb hs
  go_enter Tryz.func59, Tryz.ntmps59
  go_upto_region 1 with (fail)
  refine abs_world (fun W => W.heap[w.heap.size]? = some (.cells (ctC lo hi wi st de ca) 40 (0, 0)) ∧ W.heap[w.heap.size + 1]? = some (.cells (blindC n wd gp t sh) 32 (0, 0)) ∧ W.heap[w.heap.size + 1 + 1]? = some (.cells (saC ti wt sm) 43 (0, 0)) ∧ Below w.heap.size w W) (box3 w (.cells (ctC lo hi wi st de ca) 40) (.cells (blindC n wd gp t sh) 32) (.cells (saC ti wt sm) 43)) ?_
  rintro W ⟨h0, h1, h2, hb⟩
  have hl1 : w.heap.size < w.heap.size + 1 := by omega
  have hl2 : w.heap.size + 1 < w.heap.size + 1 + 1 := by omega
  generalize w.heap.size + 1 + 1 = b2 at *
  generalize w.heap.size + 1 = b1 at *
  have H0 := Lib.hid h0
  have H1 := Lib.hid h1
  have H2 := Lib.hid h2
  clear h0 h1 h2
  have hbw := hb
  go_wp2_with (first | (refine wpList_load_partG 40 _ rfl w.heap.size 0 6 rfl rfl 40 (ctC lo hi wi st de ca) (0, 0) _ H0.out Tryz.underlying40 rfl info_ct (ct_fits _ _ _ _ _ _) _ (ct_all _ _ _ _ _ _) ?_) | (refine wpList_load_partG 32 _ rfl b1 0 5 rfl rfl 32 (blindC n wd gp t sh) (0, 0) _ H1.out Tryz.underlying32 rfl info_blind (blind_fits _ _ _ _ _) _ (blind_all _ _ _ _ _) ?_) | (refine wpList_load_partG 43 _ rfl b2 0 3 rfl rfl 43 (saC ti wt sm) (0, 0) _ H2.out Tryz.underlying43 rfl info_sa (sa_fits _ _ _) _ (sa_all _ _ _) ?_) | (go_at_call 119; refine (Vc.out _).mono ?_; rintro e W1 ⟨rfl, hb1⟩; replace H0 := Lib.hid (below_row hb1 H0.out); replace H1 := Lib.hid (below_row hb1 H1.out); replace H2 := Lib.hid (below_row hb1 H2.out); replace hb := hb.trans (hb1.mono hb.size); replace hbw := hbw.trans (hb1.mono hbw.size); clear hb1) | (go_at_call 110; refine (Vb.out _).mono ?_; rintro e W2 ⟨rfl, hb2⟩; replace H0 := Lib.hid (below_row hb2 H0.out); replace H1 := Lib.hid (below_row hb2 H1.out); replace H2 := Lib.hid (below_row hb2 H2.out); replace hb := hb.trans (hb2.mono hb.size); replace hbw := hbw.trans (hb2.mono hbw.size); clear hb2) | (go_at_call 120; refine (Vs.out _).mono ?_; rintro e W3 ⟨rfl, hb3⟩; replace H0 := Lib.hid (below_row hb3 H0.out); replace H1 := Lib.hid (below_row hb3 H1.out); replace H2 := Lib.hid (below_row hb3 H2.out); replace hb := hb.trans (hb3.mono hb.size); replace hbw := hbw.trans (hb3.mono hbw.size); clear hb3))
  go_ret
  exact ⟨rfl, hb⟩

set_option maxRecDepth 100000 in
set_option maxHeartbeats 1000000 in
theorem ck_t (lo : Nat) (hi : Nat) (wi : Nat) (st : Int) (de : Int) (ca : Int) (cw : CtWf lo hi wi st de ca) (n : Int) (wd gp : Nat) (t : Int) (sh : Nat) (bw : BlWf n wd gp t sh) (ti : Int) (wt : Int) (sm : Int) (sw : SaWf ti wt sm) (sv : Value) (ts : List Tk) (hwf : ∀ x ∈ ts, TWf x) (w : World) (hts : TicksAt w sv ts) (hc : okCt lo hi wi st de ca = true) (hb : okBl n wd gp t sh = true) (hs : okSa ti wt sm = true) (ht : ts.all okT = false) :
    Calls Tryz.prog 59 #[.agg (ctC lo hi wi st de ca), .agg (blindC n wd gp t sh), .agg (saC ti wt sm), sv] w fun e w' => e = .returned (.int .i64 1) ∧ Below w.heap.size w w' := by
  have Vc := Lib.hid (fun w => vctl_is lo hi wi st de ca cw true hc w)
  have Vb := Lib.hid (fun w => vbl_is n wd gp t sh (blwf_t bw).1 (blwf_t bw).2 true hb w)
  have Vs := Lib.hid (fun w => vsa_is ti wt sm sw true hs w)
  have VT := Lib.hid (fun w h => containsTk_any sv ts hwf w h)
  rw [ht] at VT
  have HT := Lib.hid hts
  obtain ⟨a0, cap, rfl, hl1, hl2, _⟩ := hts
  unfold maxLen at hl2
  clear cw bw sw hc hb hs ht hwf
  go_enter Tryz.func59, Tryz.ntmps59
  go_upto_region 1 with (fail)
  refine abs_world (fun W => W.heap[w.heap.size]? = some (.cells (ctC lo hi wi st de ca) 40 (0, 0)) ∧ W.heap[w.heap.size + 1]? = some (.cells (blindC n wd gp t sh) 32 (0, 0)) ∧ W.heap[w.heap.size + 1 + 1]? = some (.cells (saC ti wt sm) 43 (0, 0)) ∧ Below w.heap.size w W) (box3 w (.cells (ctC lo hi wi st de ca) 40) (.cells (blindC n wd gp t sh) 32) (.cells (saC ti wt sm) 43)) ?_
  rintro W ⟨h0, h1, h2, hb⟩
  have hl1 : w.heap.size < w.heap.size + 1 := by omega
  have hl2 : w.heap.size + 1 < w.heap.size + 1 + 1 := by omega
  generalize w.heap.size + 1 + 1 = b2 at *
  generalize w.heap.size + 1 = b1 at *
  have H0 := Lib.hid h0
  have H1 := Lib.hid h1
  have H2 := Lib.hid h2
  clear h0 h1 h2
  have hbw := hb
  go_wp2_with (first | (refine wpList_load_partG 40 _ rfl w.heap.size 0 6 rfl rfl 40 (ctC lo hi wi st de ca) (0, 0) _ H0.out Tryz.underlying40 rfl info_ct (ct_fits _ _ _ _ _ _) _ (ct_all _ _ _ _ _ _) ?_) | (refine wpList_load_partG 32 _ rfl b1 0 5 rfl rfl 32 (blindC n wd gp t sh) (0, 0) _ H1.out Tryz.underlying32 rfl info_blind (blind_fits _ _ _ _ _) _ (blind_all _ _ _ _ _) ?_) | (refine wpList_load_partG 43 _ rfl b2 0 3 rfl rfl 43 (saC ti wt sm) (0, 0) _ H2.out Tryz.underlying43 rfl info_sa (sa_fits _ _ _) _ (sa_all _ _ _) ?_) | (go_at_call 119; refine (Vc.out _).mono ?_; rintro e W1 ⟨rfl, hb1⟩; replace H0 := Lib.hid (below_row hb1 H0.out); replace H1 := Lib.hid (below_row hb1 H1.out); replace H2 := Lib.hid (below_row hb1 H2.out); replace hb := hb.trans (hb1.mono hb.size); replace hbw := hbw.trans (hb1.mono hbw.size); clear hb1) | (go_at_call 110; refine (Vb.out _).mono ?_; rintro e W2 ⟨rfl, hb2⟩; replace H0 := Lib.hid (below_row hb2 H0.out); replace H1 := Lib.hid (below_row hb2 H1.out); replace H2 := Lib.hid (below_row hb2 H2.out); replace hb := hb.trans (hb2.mono hb.size); replace hbw := hbw.trans (hb2.mono hbw.size); clear hb2) | (go_at_call 120; refine (Vs.out _).mono ?_; rintro e W3 ⟨rfl, hb3⟩; replace H0 := Lib.hid (below_row hb3 H0.out); replace H1 := Lib.hid (below_row hb3 H1.out); replace H2 := Lib.hid (below_row hb3 H2.out); replace hb := hb.trans (hb3.mono hb.size); replace hbw := hbw.trans (hb3.mono hbw.size); clear hb3) | (go_at_call 121; refine (VT.out _ (ticks_below HT.out hbw)).mono ?_; rintro e W4 ⟨rfl, hb4⟩; replace hb := hb.trans (hb4.mono hb.size); clear hb4))
  go_ret
  exact ⟨rfl, hb⟩

set_option maxRecDepth 100000 in
set_option maxHeartbeats 1000000 in
theorem ck_l (lo : Nat) (hi : Nat) (wi : Nat) (st : Int) (de : Int) (ca : Int) (cw : CtWf lo hi wi st de ca) (n : Int) (wd gp : Nat) (t : Int) (sh : Nat) (bw : BlWf n wd gp t sh) (ti : Int) (wt : Int) (sm : Int) (sw : SaWf ti wt sm) (sv : Value) (ts : List Tk) (hwf : ∀ x ∈ ts, TWf x) (w : World) (hts : TicksAt w sv ts) (hc : okCt lo hi wi st de ca = true) (hb : okBl n wd gp t sh = true) (hs : okSa ti wt sm = true) (ht : ts.all okT = true) (hn : 100 < ts.length) :
    Calls Tryz.prog 59 #[.agg (ctC lo hi wi st de ca), .agg (blindC n wd gp t sh), .agg (saC ti wt sm), sv] w fun e w' => e = .returned (.int .i64 3) ∧ Below w.heap.size w w' := by
  have Vc := Lib.hid (fun w => vctl_is lo hi wi st de ca cw true hc w)
  have Vb := Lib.hid (fun w => vbl_is n wd gp t sh (blwf_t bw).1 (blwf_t bw).2 true hb w)
  have Vs := Lib.hid (fun w => vsa_is ti wt sm sw true hs w)
  have VT := Lib.hid (fun w h => containsTk_any sv ts hwf w h)
  rw [ht] at VT
  have HT := Lib.hid hts
  obtain ⟨a0, cap, rfl, hl1, hl2, _⟩ := hts
  unfold maxLen at hl2
  have zn : (100 : Int) < ((ts.length : Nat) : Int) := by omega
  clear cw bw sw hc hb hs ht hwf hn
  go_enter Tryz.func59, Tryz.ntmps59
  go_upto_region 1 with (fail)
  refine abs_world (fun W => W.heap[w.heap.size]? = some (.cells (ctC lo hi wi st de ca) 40 (0, 0)) ∧ W.heap[w.heap.size + 1]? = some (.cells (blindC n wd gp t sh) 32 (0, 0)) ∧ W.heap[w.heap.size + 1 + 1]? = some (.cells (saC ti wt sm) 43 (0, 0)) ∧ Below w.heap.size w W) (box3 w (.cells (ctC lo hi wi st de ca) 40) (.cells (blindC n wd gp t sh) 32) (.cells (saC ti wt sm) 43)) ?_
  rintro W ⟨h0, h1, h2, hb⟩
  have hl1 : w.heap.size < w.heap.size + 1 := by omega
  have hl2 : w.heap.size + 1 < w.heap.size + 1 + 1 := by omega
  generalize w.heap.size + 1 + 1 = b2 at *
  generalize w.heap.size + 1 = b1 at *
  have H0 := Lib.hid h0
  have H1 := Lib.hid h1
  have H2 := Lib.hid h2
  clear h0 h1 h2
  have hbw := hb
  go_wp2_with (first | (refine wpList_load_partG 40 _ rfl w.heap.size 0 6 rfl rfl 40 (ctC lo hi wi st de ca) (0, 0) _ H0.out Tryz.underlying40 rfl info_ct (ct_fits _ _ _ _ _ _) _ (ct_all _ _ _ _ _ _) ?_) | (refine wpList_load_partG 32 _ rfl b1 0 5 rfl rfl 32 (blindC n wd gp t sh) (0, 0) _ H1.out Tryz.underlying32 rfl info_blind (blind_fits _ _ _ _ _) _ (blind_all _ _ _ _ _) ?_) | (refine wpList_load_partG 43 _ rfl b2 0 3 rfl rfl 43 (saC ti wt sm) (0, 0) _ H2.out Tryz.underlying43 rfl info_sa (sa_fits _ _ _) _ (sa_all _ _ _) ?_) | (go_at_call 119; refine (Vc.out _).mono ?_; rintro e W1 ⟨rfl, hb1⟩; replace H0 := Lib.hid (below_row hb1 H0.out); replace H1 := Lib.hid (below_row hb1 H1.out); replace H2 := Lib.hid (below_row hb1 H2.out); replace hb := hb.trans (hb1.mono hb.size); replace hbw := hbw.trans (hb1.mono hbw.size); clear hb1) | (go_at_call 110; refine (Vb.out _).mono ?_; rintro e W2 ⟨rfl, hb2⟩; replace H0 := Lib.hid (below_row hb2 H0.out); replace H1 := Lib.hid (below_row hb2 H1.out); replace H2 := Lib.hid (below_row hb2 H2.out); replace hb := hb.trans (hb2.mono hb.size); replace hbw := hbw.trans (hb2.mono hbw.size); clear hb2) | (go_at_call 120; refine (Vs.out _).mono ?_; rintro e W3 ⟨rfl, hb3⟩; replace H0 := Lib.hid (below_row hb3 H0.out); replace H1 := Lib.hid (below_row hb3 H1.out); replace H2 := Lib.hid (below_row hb3 H2.out); replace hb := hb.trans (hb3.mono hb.size); replace hbw := hbw.trans (hb3.mono hbw.size); clear hb3) | (go_at_call 121; refine (VT.out _ (ticks_below HT.out hbw)).mono ?_; rintro e W4 ⟨rfl, hb4⟩; replace hb := hb.trans (hb4.mono hb.size); clear hb4))
  go_ret
  exact ⟨rfl, hb⟩

set_option maxRecDepth 100000 in
set_option maxHeartbeats 1000000 in
theorem ck_ok (lo : Nat) (hi : Nat) (wi : Nat) (st : Int) (de : Int) (ca : Int) (cw : CtWf lo hi wi st de ca) (n : Int) (wd gp : Nat) (t : Int) (sh : Nat) (bw : BlWf n wd gp t sh) (ti : Int) (wt : Int) (sm : Int) (sw : SaWf ti wt sm) (sv : Value) (ts : List Tk) (hwf : ∀ x ∈ ts, TWf x) (w : World) (hts : TicksAt w sv ts) (hc : okCt lo hi wi st de ca = true) (hb : okBl n wd gp t sh = true) (hs : okSa ti wt sm = true) (ht : ts.all okT = true) (hn : ts.length ≤ 100) :
    Calls Tryz.prog 59 #[.agg (ctC lo hi wi st de ca), .agg (blindC n wd gp t sh), .agg (saC ti wt sm), sv] w fun e w' => e = .returned (.int .i64 0) ∧ Below w.heap.size w w' := by
  have Vc := Lib.hid (fun w => vctl_is lo hi wi st de ca cw true hc w)
  have Vb := Lib.hid (fun w => vbl_is n wd gp t sh (blwf_t bw).1 (blwf_t bw).2 true hb w)
  have Vs := Lib.hid (fun w => vsa_is ti wt sm sw true hs w)
  have VT := Lib.hid (fun w h => containsTk_any sv ts hwf w h)
  rw [ht] at VT
  have HT := Lib.hid hts
  obtain ⟨a0, cap, rfl, hl1, hl2, _⟩ := hts
  unfold maxLen at hl2
  have zn : ((ts.length : Nat) : Int) ≤ 100 := by omega
  clear cw bw sw hc hb hs ht hwf hn
  go_enter Tryz.func59, Tryz.ntmps59
  go_upto_region 1 with (fail)
  refine abs_world (fun W => W.heap[w.heap.size]? = some (.cells (ctC lo hi wi st de ca) 40 (0, 0)) ∧ W.heap[w.heap.size + 1]? = some (.cells (blindC n wd gp t sh) 32 (0, 0)) ∧ W.heap[w.heap.size + 1 + 1]? = some (.cells (saC ti wt sm) 43 (0, 0)) ∧ Below w.heap.size w W) (box3 w (.cells (ctC lo hi wi st de ca) 40) (.cells (blindC n wd gp t sh) 32) (.cells (saC ti wt sm) 43)) ?_
  rintro W ⟨h0, h1, h2, hb⟩
  have hl1 : w.heap.size < w.heap.size + 1 := by omega
  have hl2 : w.heap.size + 1 < w.heap.size + 1 + 1 := by omega
  generalize w.heap.size + 1 + 1 = b2 at *
  generalize w.heap.size + 1 = b1 at *
  have H0 := Lib.hid h0
  have H1 := Lib.hid h1
  have H2 := Lib.hid h2
  clear h0 h1 h2
  have hbw := hb
  go_wp2_with (first | (refine wpList_load_partG 40 _ rfl w.heap.size 0 6 rfl rfl 40 (ctC lo hi wi st de ca) (0, 0) _ H0.out Tryz.underlying40 rfl info_ct (ct_fits _ _ _ _ _ _) _ (ct_all _ _ _ _ _ _) ?_) | (refine wpList_load_partG 32 _ rfl b1 0 5 rfl rfl 32 (blindC n wd gp t sh) (0, 0) _ H1.out Tryz.underlying32 rfl info_blind (blind_fits _ _ _ _ _) _ (blind_all _ _ _ _ _) ?_) | (refine wpList_load_partG 43 _ rfl b2 0 3 rfl rfl 43 (saC ti wt sm) (0, 0) _ H2.out Tryz.underlying43 rfl info_sa (sa_fits _ _ _) _ (sa_all _ _ _) ?_) | (go_at_call 119; refine (Vc.out _).mono ?_; rintro e W1 ⟨rfl, hb1⟩; replace H0 := Lib.hid (below_row hb1 H0.out); replace H1 := Lib.hid (below_row hb1 H1.out); replace H2 := Lib.hid (below_row hb1 H2.out); replace hb := hb.trans (hb1.mono hb.size); replace hbw := hbw.trans (hb1.mono hbw.size); clear hb1) | (go_at_call 110; refine (Vb.out _).mono ?_; rintro e W2 ⟨rfl, hb2⟩; replace H0 := Lib.hid (below_row hb2 H0.out); replace H1 := Lib.hid (below_row hb2 H1.out); replace H2 := Lib.hid (below_row hb2 H2.out); replace hb := hb.trans (hb2.mono hb.size); replace hbw := hbw.trans (hb2.mono hbw.size); clear hb2) | (go_at_call 120; refine (Vs.out _).mono ?_; rintro e W3 ⟨rfl, hb3⟩; replace H0 := Lib.hid (below_row hb3 H0.out); replace H1 := Lib.hid (below_row hb3 H1.out); replace H2 := Lib.hid (below_row hb3 H2.out); replace hb := hb.trans (hb3.mono hb.size); replace hbw := hbw.trans (hb3.mono hbw.size); clear hb3) | (go_at_call 121; refine (VT.out _ (ticks_below HT.out hbw)).mono ?_; rintro e W4 ⟨rfl, hb4⟩; replace hb := hb.trans (hb4.mono hb.size); clear hb4))
  go_ret
  exact ⟨rfl, hb⟩

theorem checkTicks_any (lo : Nat) (hi : Nat) (wi : Nat) (st : Int) (de : Int) (ca : Int) (cw : CtWf lo hi wi st de ca) (n : Int) (wd gp : Nat) (t : Int) (sh : Nat) (bw : BlWf n wd gp t sh) (ti : Int) (wt : Int) (sm : Int) (sw : SaWf ti wt sm) (sv : Value) (ts : List Tk) (hwf : ∀ x ∈ ts, TWf x) (w : World) (hts : TicksAt w sv ts) :
    Calls Tryz.prog 59 #[.agg (ctC lo hi wi st de ca), .agg (blindC n wd gp t sh), .agg (saC ti wt sm), sv] w fun e w' => e = .returned (.int .i64 (codeT (okCt lo hi wi st de ca) (okBl n wd gp t sh) (okSa ti wt sm) ts)) ∧ Below w.heap.size w w' := by
  unfold codeT
  cases hc : okCt lo hi wi st de ca with
  | false => rw [if_pos (by simp)]; exact ck_c lo hi wi st de ca cw n wd gp t sh bw ti wt sm sw sv ts hwf w hts hc
  | true =>
    cases hb : okBl n wd gp t sh with
    | false => rw [if_pos (by simp)]; exact ck_b lo hi wi st de ca cw n wd gp t sh bw ti wt sm sw sv ts hwf w hts hc hb
    | true =>
      cases hs : okSa ti wt sm with
      | false => rw [if_pos (by simp)]; exact ck_s lo hi wi st de ca cw n wd gp t sh bw ti wt sm sw sv ts hwf w hts hc hb hs
      | true =>
        cases ht : ts.all okT with
        | false => rw [if_pos (by simp)]; exact ck_t lo hi wi st de ca cw n wd gp t sh bw ti wt sm sw sv ts hwf w hts hc hb hs ht
        | true =>
          rw [if_neg (by simp)]
          by_cases hn : 100 < ts.length
          · rw [if_pos hn]; exact ck_l lo hi wi st de ca cw n wd gp t sh bw ti wt sm sw sv ts hwf w hts hc hb hs ht hn
          · rw [if_neg hn]; exact ck_ok lo hi wi st de ca cw n wd gp t sh bw ti wt sm sw sv ts hwf w hts hc hb hs ht (by omega)

end Go.Proofs.YtddnfbpgldchcaaGreatDoor
