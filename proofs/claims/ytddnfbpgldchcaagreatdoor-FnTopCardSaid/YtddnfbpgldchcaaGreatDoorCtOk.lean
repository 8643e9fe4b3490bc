/-
  Which controls, states and ticks are valid: contracts of the program and of the model.

-/
import Derived.Test.YtddnfbpgldchcaaGreatDoorCtA
import Derived.Test.YtddnfbpgldchcaaGreatDoorBok
import Derived.Test.YtddnfbpgldchcaaGreatDoorLaw
import Derived.Deep.QuietTactic
import Derived.BigQuiet

namespace Go.Proofs.YtddnfbpgldchcaaGreatDoor

open Go.ChangeShapes Go.WideShapes Go.ChangeAt Go.RowKit Go.Deep Go.Joins

attribute [local go_sem] run_store_f

theorem ret_bool5 {a b : Bool} (h : a = b) : Ending.returned (.bool a) = .returned (.bool b) := by rw [h]

/-- At most, and greater: truth values of an order. -/
def gt0 (o : Option Ordering) : Bool := o == some .gt

def lt0 (o : Option Ordering) : Bool := o == some .lt

def ordB (x y : Nat) : Option Ordering := FloatKind.f32.format.order x y

def okCt (lo : Nat) (hi : Nat) (wi : Nat) (st : Int) (de : Int) (ca : Int) : Bool := partB lo && partB hi && le0 (ordB lo hi) && partB wi && inI 1 64 st && inI 0 20 de && inI 1 20 ca

def okSa (ti : Int) (wt : Int) (sm : Int) : Bool := inI (-64) 64 ti && inI 0 20 wt && inI 0 20 sm

def okTk (lg : Nat) (gu : Nat) (hg : Int) : Bool := partB lg && partB gu && inI 1 64 hg

theorem part_num {a : Nat} (hw : (Lit.float .f32 a).wf = true) (h : partB a = true) : isNum a := by
  rcases betw_zero hw (by decide) h with h | h
  · exact .inl (by omega)
  · exact .inr (by omega)

theorem quiet_sym {P : Program} {f : FuncId} {args : Array Value} {w : World} {n : Nat} {v : Value}
    (h : Calls P f args (w.drewN n) fun e w' => e = .returned v ∧ w.drewN n = w') : Calls P f args (w.drewN n) fun e w'' => e = .returned v ∧ ∃ m, w'' = w.drewN m :=
  h.mono fun _ _ ⟨he, hm⟩ => ⟨he, n, hm.symm⟩

theorem below_drewN5 {B : Nat} {a w : World} (h : Below B a w) (n : Nat) : Below B a (w.drewN n) := h.trans ⟨rfl, rfl, rfl, Nat.le_refl _, fun _ _ => rfl⟩

theorem l01Part_w5 (x : Nat) (fine : Bool) (hx : partB x = fine) (w : World) : Calls Tryz.prog 72 #[.float .f32 x] w fun e w' => e = .returned (.bool fine) ∧ w = w' := by
  rw [← hx]; exact l01Part_any x w

set_option maxHeartbeats 1000000 in
theorem isWait_any (a : Int) (w : World) :
    Calls Tryz.prog 158 #[.int .i8 a] w fun e w' => e = .returned (.bool (inI 0 20 a)) ∧ w = w' := by
  unfold inI
  by_cases h0 : 0 ≤ a
  · by_cases h1 : a ≤ 20
    all_goals
      go_enter Tryz.func158, Tryz.ntmps158
      go_wp2
      go_ret
      first | (simp; done) | (simp; omega)
  · go_enter Tryz.func158, Tryz.ntmps158
    go_wp2
    go_ret
    first | (simp; done) | (simp; omega)

set_option maxRecDepth 100000 in
set_option maxHeartbeats 1000000 in
theorem l05Ok_any (lo : Nat) (hi : Nat) (wi : Nat) (st : Int) (de : Int) (ca : Int) (cw : CtWf lo hi wi st de ca) (g : Nat) (T : TypeId) (fr : Nat × Nat) (w : World) (hg : w.heap[g]? = some (.cells (ctC lo hi wi st de ca) T fr)) :
    Calls Tryz.prog 126 #[.pointer (some ⟨g, 0, none⟩)] w fun e w' => e = .returned (.bool (okCt lo hi wi st de ca)) ∧ Below w.heap.size w w' := by
  obtain ⟨c0, c1, c2, c3, c4, c5⟩ := ct_cells hg
  clear hg
  obtain ⟨s0, s1⟩ := ctwf_st cw
  obtain ⟨d0, d1⟩ := ctwf_de cw
  obtain ⟨a0, a1⟩ := ctwf_ca cw
  cases hl : partB lo with
  | false =>
    rw [show okCt lo hi wi st de ca = false by simp [okCt, hl]]
    clear cw
    go_enter Tryz.func126, Tryz.ntmps126
    go_wp2
    go_quiet ((go_at_call 72; exact quiet_sym (l01Part_w5 _ _ (by assumption) _)))
    go_wp2
    go_ret
    exact ⟨rfl, below_drewN5 (Below.refl _ _) _⟩
  | true =>
    cases hh : partB hi with
    | false =>
      rw [show okCt lo hi wi st de ca = false by simp [okCt, hh]]
      clear cw
      go_enter Tryz.func126, Tryz.ntmps126
      go_wp2
      go_quiet ((go_at_call 72; exact quiet_sym (l01Part_w5 _ _ (by assumption) _)))
      go_wp2
      go_ret
      exact ⟨rfl, below_drewN5 (Below.refl _ _) _⟩
    | true =>
      cases hw : partB wi with
      | false =>
        rw [show okCt lo hi wi st de ca = false by simp [okCt, hw]]
        clear cw
        go_enter Tryz.func126, Tryz.ntmps126
        go_wp2
        go_quiet ((go_at_call 72; exact quiet_sym (l01Part_w5 _ _ (by assumption) _)))
        go_wp2
        go_ret
        exact ⟨rfl, below_drewN5 (Below.refl _ _) _⟩
      | true =>
        have ho : FloatKind.f32.format.order lo hi = some (compare (sv lo) (sv hi)) := order_num (part_num cw.1 hl) (part_num cw.2.1 hh)
        clear cw
        rcases hc : compare (sv lo) (sv hi) with _ | _ | _
        all_goals
          rw [hc] at ho
          clear hc
        · rw [show okCt lo hi wi st de ca = (inI 1 64 st && (inI 0 20 de && inI 1 20 ca)) by simp [okCt, hl, hh, hw, ordB, ho, le0, Bool.and_assoc]]
          go_enter Tryz.func126, Tryz.ntmps126
          go_wp2
          go_quiet ((go_at_call 72; exact quiet_sym (l01Part_w5 _ _ (by assumption) _)))
          go_wp2_with (go_at_call 98; refine (l00In_ban _ _ _ _).mono ?_; rintro e w' ⟨rfl, rfl⟩)
          all_goals
            go_ret
            refine ⟨ret_bool5 ?_, below_drewN5 (Below.refl _ _) _⟩
            first | rfl | (simp [*]; done)
        · rw [show okCt lo hi wi st de ca = (inI 1 64 st && (inI 0 20 de && inI 1 20 ca)) by simp [okCt, hl, hh, hw, ordB, ho, le0, Bool.and_assoc]]
          go_enter Tryz.func126, Tryz.ntmps126
          go_wp2
          go_quiet ((go_at_call 72; exact quiet_sym (l01Part_w5 _ _ (by assumption) _)))
          go_wp2_with (go_at_call 98; refine (l00In_ban _ _ _ _).mono ?_; rintro e w' ⟨rfl, rfl⟩)
          all_goals
            go_ret
            refine ⟨ret_bool5 ?_, below_drewN5 (Below.refl _ _) _⟩
            first | rfl | (simp [*]; done)
        · rw [show okCt lo hi wi st de ca = false by simp [okCt, ordB, ho, le0]]
          go_enter Tryz.func126, Tryz.ntmps126
          go_wp2
          go_quiet ((go_at_call 72; exact quiet_sym (l01Part_w5 _ _ (by assumption) _)))
          go_wp2
          go_ret
          exact ⟨rfl, below_drewN5 (Below.refl _ _) _⟩

set_option maxRecDepth 100000 in
set_option maxHeartbeats 1000000 in
theorem l05State_any (ti : Int) (wt : Int) (sm : Int) (sw : SaWf ti wt sm) (g : Nat) (T : TypeId) (fr : Nat × Nat) (w : World) (hg : w.heap[g]? = some (.cells (saC ti wt sm) T fr)) :
    Calls Tryz.prog 127 #[.pointer (some ⟨g, 0, none⟩)] w fun e w' => e = .returned (.bool (okSa ti wt sm)) ∧ w = w' := by
  obtain ⟨c0, c1, c2⟩ := sa_cells hg
  clear hg
  obtain ⟨⟨t0, t1⟩, ⟨w0, w1⟩, s0, s1⟩ := sawf_b sw
  go_enter Tryz.func127, Tryz.ntmps127
  go_wp2_with (first | (go_at_call 142; refine (l02Tilt_any _ _).mono ?_; rintro e w' ⟨rfl, rfl⟩) | (go_at_call 98; refine (l00In_ban _ _ _ _).mono ?_; rintro e w' ⟨rfl, rfl⟩))
  all_goals
    go_ret
    refine ⟨ret_bool5 ?_, rfl⟩
    first | (simp only [okSa, Bool.and_assoc]; done) | (simp [okSa, *]; done)

set_option maxRecDepth 100000 in
set_option maxHeartbeats 1000000 in
theorem l05Tick_any (lg : Nat) (gu : Nat) (hg : Int) (kw : TkWf lg gu hg) (g o : Nat) (w : World) (c0 : w.cell? ⟨g, o, none⟩ = some (.float .f32 lg)) (c1 : w.cell? ⟨g, o + 1, none⟩ = some (.float .f32 gu)) (c2 : w.cell? ⟨g, o + 2, none⟩ = some (.int .i8 hg)) :
    Calls Tryz.prog 128 #[.pointer (some ⟨g, o, none⟩)] w fun e w' => e = .returned (.bool (okTk lg gu hg)) ∧ w = w' := by
  obtain ⟨h0, h1⟩ := tkwf_b kw
  go_enter Tryz.func128, Tryz.ntmps128
  go_wp2_with (first | (go_at_call 72; refine (l01Part_any _ _).mono ?_; rintro e w' ⟨rfl, rfl⟩) | (go_at_call 86; refine (l02Up_any _ _).mono ?_; rintro e w' ⟨rfl, rfl⟩))
  all_goals
    go_ret
    refine ⟨ret_bool5 ?_, rfl⟩
    first | (simp only [okTk, Bool.and_assoc]; done) | (simp [okTk, *]; done)

set_option maxRecDepth 100000 in
set_option maxHeartbeats 1000000 in
theorem boundsOf_any (lo : Nat) (hi : Nat) (wi : Nat) (st : Int) (de : Int) (ca : Int) (w : World) :
    Calls Tryz.prog 122 #[.agg (ctC lo hi wi st de ca)] w fun e w' => e = .returned (.agg #[.float .f32 lo, .float .f32 hi]) ∧ Below w.heap.size w w' := by
  unfold ctC
  go_enter Tryz.func122, Tryz.ntmps122
  go_wp2
  refine bodyPost_ret (v := .agg #[.float .f32 lo, .float .f32 hi]) (by simp [results, Tryz.results122, go_sem]) rfl ⟨rfl, ?_⟩
  (repeat' first | exact Below.refl _ _ | assumption | refine Below.alloc ?_ (by first | omega | (simp; done) | (simp; omega)) _ | refine Below.setCell ?_ (by first | omega | (simp; done) | (simp; omega)) _ | refine Below.drew ?_)

def okBd (lo hi : Nat) : Bool := partB lo && partB hi && le0 (ordB lo hi)

set_option maxRecDepth 100000 in
set_option maxHeartbeats 1000000 in
theorem areValid_any (lo hi : Nat) (w : World) :
    Calls Tryz.prog 157 #[.agg #[.float .f32 lo, .float .f32 hi]] w fun e w' => e = .returned (.bool (okBd lo hi)) ∧ Below w.heap.size w w' := by
  unfold okBd ordB le0
  go_enter Tryz.func157, Tryz.ntmps157
  go_wp2_with (go_at_call 65; refine (isPart_any _ _).mono ?_; rintro e w' ⟨rfl, rfl⟩)
  all_goals
    go_ret
    refine ⟨ret_bool5 ?_, by (repeat' first | exact Below.refl _ _ | assumption | refine Below.alloc ?_ (by first | omega | (simp; done) | (simp; omega)) _ | refine Below.setCell ?_ (by first | omega | (simp; done) | (simp; omega)) _ | refine Below.drew ?_)⟩
    first | (simp only [Bool.and_assoc]; done) | (simp [*]; done)

set_option maxRecDepth 100000 in
set_option maxHeartbeats 1000000 in
theorem implValidControl_any (lo : Nat) (hi : Nat) (wi : Nat) (st : Int) (de : Int) (ca : Int) (cw : CtWf lo hi wi st de ca) (w : World) :
    Calls Tryz.prog 119 #[.agg (ctC lo hi wi st de ca)] w fun e w' => e = .returned (.bool (okCt lo hi wi st de ca)) ∧ Below w.heap.size w w' := by
  obtain ⟨s0, s1⟩ := ctwf_st cw
  obtain ⟨d0, d1⟩ := ctwf_de cw
  obtain ⟨a0, a1⟩ := ctwf_ca cw
  clear cw
  go_enter Tryz.func119, Tryz.ntmps119
  go_upto_region 1 with (fail)
  refine abs_world (fun W => Below w.heap.size w W ∧ W.heap[w.heap.size]? = some (.cells (ctC lo hi wi st de ca) 40 (0, 0))) ⟨(Below.refl _ _).alloc (Nat.le_refl _) _, heap_alloc_new _ _⟩ ?_
  rintro W ⟨hb, h0⟩
  have H0 := Lib.hid h0
  obtain ⟨c0, c1, c2, c3, c4, c5⟩ := ct_cells h0
  clear h0
  go_wp2_with (first | (refine wpList_load_part rfl 40 _ rfl w.heap.size 0 6 rfl 40 (ctC lo hi wi st de ca) (0, 0) _ H0.out Tryz.underlying40 rfl info_ct (ct_fits _ _ _ _ _ _) _ (ct_all _ _ _ _ _ _) ?_) | (go_at_call 122; refine (boundsOf_any lo hi wi st de ca _).mono ?_; rintro e W1 ⟨rfl, hb1⟩; replace H0 := Lib.hid (below_row hb1 H0.out); replace hb := hb.trans (hb1.mono hb.size); clear hb1 c0 c1 c2 c3 c4 c5; obtain ⟨c0, c1, c2, c3, c4, c5⟩ := ct_cells H0.out) | (go_at_call 157; refine (areValid_any lo hi _).mono ?_; rintro e W2 ⟨rfl, hb2⟩; replace H0 := Lib.hid (below_row hb2 H0.out); replace hb := hb.trans (hb2.mono hb.size); clear hb2 c0 c1 c2 c3 c4 c5; obtain ⟨c0, c1, c2, c3, c4, c5⟩ := ct_cells H0.out) | (go_at_call 65; refine (isPart_any _ _).mono ?_; rintro e w' ⟨rfl, rfl⟩) | (go_at_call 158; refine (isWait_any _ _).mono ?_; rintro e w' ⟨rfl, rfl⟩))
  all_goals
    go_ret
    refine ⟨ret_bool5 ?_, hb⟩
    first | (simp_all [okCt, okBd, inI, Bool.and_assoc]; done) | (simp_all [okCt, okBd, inI, Bool.and_assoc]; omega)

set_option maxRecDepth 100000 in
set_option maxHeartbeats 1000000 in
theorem implValidState_any (ti : Int) (wt : Int) (sm : Int) (sw : SaWf ti wt sm) (w : World) :
    Calls Tryz.prog 120 #[.agg (saC ti wt sm)] w fun e w' => e = .returned (.bool (okSa ti wt sm)) ∧ Below w.heap.size w w' := by
  obtain ⟨⟨t0, t1⟩, ⟨w0, w1⟩, s0, s1⟩ := sawf_b sw
  go_enter Tryz.func120, Tryz.ntmps120
  go_upto_region 1 with (fail)
  refine abs_world (fun W => Below w.heap.size w W ∧ W.heap[w.heap.size]? = some (.cells (saC ti wt sm) 43 (0, 0))) ⟨(Below.refl _ _).alloc (Nat.le_refl _) _, heap_alloc_new _ _⟩ ?_
  rintro W ⟨hb, h0⟩
  obtain ⟨c0, c1, c2⟩ := sa_cells h0
  clear h0
  go_wp2_with (first | (go_at_call 153; refine (isTilt_any _ _).mono ?_; rintro e w' ⟨rfl, rfl⟩) | (go_at_call 158; refine (isWait_any _ _).mono ?_; rintro e w' ⟨rfl, rfl⟩))
  all_goals
    go_ret
    refine ⟨ret_bool5 ?_, hb⟩
    first | (simp only [okSa, Bool.and_assoc]; done) | (simp_all [okSa]; done)

set_option maxRecDepth 100000 in
set_option maxHeartbeats 1000000 in
theorem implValidTick_any (lg : Nat) (gu : Nat) (hg : Int) (kw : TkWf lg gu hg) (w : World) :
    Calls Tryz.prog 118 #[.agg (tkC lg gu hg)] w fun e w' => e = .returned (.bool (okTk lg gu hg)) ∧ Below w.heap.size w w' := by
  obtain ⟨h0, h1⟩ := tkwf_b kw
  go_enter Tryz.func118, Tryz.ntmps118
  go_upto_region 1 with (fail)
  refine abs_world (fun W => Below w.heap.size w W ∧ W.heap[w.heap.size]? = some (.cells (tkC lg gu hg) 47 (0, 0))) ⟨(Below.refl _ _).alloc (Nat.le_refl _) _, heap_alloc_new _ _⟩ ?_
  rintro W ⟨hb, q0⟩
  obtain ⟨c0, c1, c2⟩ := tk_cells q0
  clear q0
  go_wp2_with (first | (go_at_call 65; refine (isPart_any _ _).mono ?_; rintro e w' ⟨rfl, rfl⟩) | (go_at_call 82; refine (isHeight_any _ _).mono ?_; rintro e w' ⟨rfl, rfl⟩))
  all_goals
    go_ret
    refine ⟨ret_bool5 ?_, hb⟩
    first | (simp only [okTk, Bool.and_assoc]; done) | (simp_all [okTk]; done)

end Go.Proofs.YtddnfbpgldchcaaGreatDoor
