/-
  For every blind and every sun, valid or not, every hour and facing: the light that passes into a window is what the model says. No conditions.
-/
import Derived.Test.YtdbleddcnknmiabWin
import Derived.Test.YtdbleddcnknmiabLaw
namespace Go.Proofs.Ytdbleddcnknmiab
open Go.ChangeShapes Go.WideShapes Go.ChangeAt Go.RowKit

/-- The code of a blind and a sun, and of what else is asked. -/
def codeBS (okb oks fine : Bool) : Int := if okb then codeB oks fine else 1
theorem codeBS_ne {okb oks fine : Bool} (h : ¬ (okb = true ∧ oks = true ∧ fine = true)) : codeBS okb oks fine ≠ 0 := by
  cases okb <;> cases oks <;> cases fine <;> simp_all [codeBS, codeB]

set_option maxRecDepth 100000 in
set_option maxHeartbeats 1000000 in
theorem checkBS_true (n : Int) (wd gp : Nat) (t : Int) (sh : Nat) (hs ts : List Int) (hh : hs.length = 24) (ht : ts.length = 24) (T0 : -32768 ≤ t) (T1 : t ≤ 32767) (hk : okBl n wd gp t sh = true) (fine : Bool) (w : World) :
    Calls Try.prog 50 #[.agg (blindC n wd gp t sh), .agg (sunC hs ts), .bool fine] w fun e w' => e = .returned (.int .i64 (codeB (okB hs ts) fine)) ∧ Below w.heap.size w w' := by
  have Hh := Lib.hid hh
  have Ht := Lib.hid ht
  have HV := Lib.hid (fun w => ValidBlind_any n wd gp t sh T0 T1 w)
  rw [hk] at HV
  clear hh ht hk T0 T1
  go_enter Try.func50, Try.ntmps50
  go_upto_region 1 with (fail)
  refine abs_world (fun W => W.heap[w.heap.size]? = some (.cells (blindC n wd gp t sh) 32 (0, 0)) ∧ W.heap[w.heap.size + 1]? = some (.cells (sunC hs ts) 34 (0, 0)) ∧ Below w.heap.size w W) ⟨heap_alloc2_old _ _ _, heap_alloc2_new _ _ _, ((Below.refl _ _).alloc (Nat.le_refl _) _).alloc (by simp) _⟩ ?_
  rintro W ⟨h0, h1, hb⟩
  generalize w.heap.size + 1 = g2 at *
  have H0 := Lib.hid h0
  have HS := Lib.hid h1
  clear h0 h1
  go_wp2_with (first | (refine wpList_load_part rfl 32 _ rfl w.heap.size 0 5 rfl 32 (blindC n wd gp t sh) (0, 0) _ H0.out Try.underlying32 rfl info_blind (blind_fits _ _ _ _ _) _ (blind_all _ _ _ _ _) ?_) | (refine wpList_load_part rfl 34 _ rfl g2 0 48 rfl 34 (sunC hs ts) (0, 0) _ HS.out Try.underlying34 rfl info_sun (sun_fits _ _ Hh.out Ht.out) (sunC hs ts) (sun_all _ _ Hh.out Ht.out) ?_) | (go_at_call 105; refine (HV.out _).mono ?_; rintro e W1 ⟨rfl, hb1⟩; replace H0 := Lib.hid (below_row hb1 H0.out); replace HS := Lib.hid (below_row hb1 HS.out); replace hb := hb.trans (hb1.mono hb.size); clear hb1) | (go_at_call 56; refine (checkSun_is hs ts Hh.out Ht.out fine _ rfl _).mono ?_; rintro e W1 ⟨rfl, hb1⟩; replace hb := hb.trans (hb1.mono hb.size); clear hb1))
  go_ret
  exact ⟨rfl, hb⟩

set_option maxRecDepth 100000 in
set_option maxHeartbeats 1000000 in
theorem checkBS_false (n : Int) (wd gp : Nat) (t : Int) (sh : Nat) (hs ts : List Int) (hh : hs.length = 24) (ht : ts.length = 24) (T0 : -32768 ≤ t) (T1 : t ≤ 32767) (hk : okBl n wd gp t sh = false) (fine : Bool) (w : World) :
    Calls Try.prog 50 #[.agg (blindC n wd gp t sh), .agg (sunC hs ts), .bool fine] w fun e w' => e = .returned (.int .i64 (1)) ∧ Below w.heap.size w w' := by
  have Hh := Lib.hid hh
  have Ht := Lib.hid ht
  have HV := Lib.hid (fun w => ValidBlind_any n wd gp t sh T0 T1 w)
  rw [hk] at HV
  clear hh ht hk T0 T1
  go_enter Try.func50, Try.ntmps50
  go_upto_region 1 with (fail)
  refine abs_world (fun W => W.heap[w.heap.size]? = some (.cells (blindC n wd gp t sh) 32 (0, 0)) ∧ W.heap[w.heap.size + 1]? = some (.cells (sunC hs ts) 34 (0, 0)) ∧ Below w.heap.size w W) ⟨heap_alloc2_old _ _ _, heap_alloc2_new _ _ _, ((Below.refl _ _).alloc (Nat.le_refl _) _).alloc (by simp) _⟩ ?_
  rintro W ⟨h0, h1, hb⟩
  generalize w.heap.size + 1 = g2 at *
  have H0 := Lib.hid h0
  have HS := Lib.hid h1
  clear h0 h1
  go_wp2_with (first | (refine wpList_load_part rfl 32 _ rfl w.heap.size 0 5 rfl 32 (blindC n wd gp t sh) (0, 0) _ H0.out Try.underlying32 rfl info_blind (blind_fits _ _ _ _ _) _ (blind_all _ _ _ _ _) ?_) | (refine wpList_load_part rfl 34 _ rfl g2 0 48 rfl 34 (sunC hs ts) (0, 0) _ HS.out Try.underlying34 rfl info_sun (sun_fits _ _ Hh.out Ht.out) (sunC hs ts) (sun_all _ _ Hh.out Ht.out) ?_) | (go_at_call 105; refine (HV.out _).mono ?_; rintro e W1 ⟨rfl, hb1⟩; replace H0 := Lib.hid (below_row hb1 H0.out); replace HS := Lib.hid (below_row hb1 HS.out); replace hb := hb.trans (hb1.mono hb.size); clear hb1))
  go_ret
  exact ⟨rfl, hb⟩

theorem checkBS_is (n : Int) (wd gp : Nat) (t : Int) (sh : Nat) (hs ts : List Int) (hh : hs.length = 24) (ht : ts.length = 24) (T0 : -32768 ≤ t) (T1 : t ≤ 32767) (fine : Bool) (c : Int) (hc : codeBS (okBl n wd gp t sh) (okB hs ts) fine = c) (w : World) :
    Calls Try.prog 50 #[.agg (blindC n wd gp t sh), .agg (sunC hs ts), .bool fine] w fun e w' => e = .returned (.int .i64 c) ∧ Below w.heap.size w w' := by
  subst hc
  unfold codeBS
  cases hk : okBl n wd gp t sh with
  | true => exact checkBS_true n wd gp t sh hs ts hh ht T0 T1 hk fine w
  | false => exact checkBS_false n wd gp t sh hs ts hh ht T0 T1 hk fine w

set_option maxRecDepth 100000 in
set_option maxHeartbeats 1000000 in
theorem l02With_is (n : Int) (wd gp : Nat) (t : Int) (sh : Nat) (hs ts : List Int) (hh : hs.length = 24) (ht : ts.length = 24) (rb : ∀ x ∈ hs ++ ts, -32768 ≤ x ∧ x ≤ 32767) (T0 : -32768 ≤ t) (T1 : t ≤ 32767) (N0 : -128 ≤ n) (N1 : n ≤ 127) (g1 g2 : Nat) (w : World) (c1 : w.heap[g1]? = some (.cells (blindC n wd gp t sh) 32 (0, 0))) (c2 : w.heap[g2]? = some (.cells (sunC hs ts) 34 (0, 0))) (fine : Bool) (c : Int) (hc : codeBS (okBl n wd gp t sh) (okB hs ts) fine = c) :
    Calls Try.prog 46 #[.pointer (some ⟨g1, 0, none⟩), .pointer (some ⟨g2, 0, none⟩), .bool fine] w fun e w' => e = .returned (.int .i64 c) ∧ w = w' := by
  subst hc
  have HB := Lib.hid (l02Ok_any n wd gp t sh T0 T1 N0 N1 g1 32 (0, 0) w c1)
  have HS := Lib.hid (l01Ok_any g2 hs ts hh ht rb 34 (0, 0) w c2)
  clear c1 c2 hh ht rb T0 T1 N0 N1
  unfold codeBS codeB
  generalize okBl n wd gp t sh = kb at *
  generalize okB hs ts = ks at *
  go_enter Try.func46, Try.ntmps46
  cases kb
  · go_wp2_with (first | (go_at_call 103; refine HB.out.mono ?_; rintro e w' ⟨rfl, rfl⟩) | (go_at_call 54; refine HS.out.mono ?_; rintro e w' ⟨rfl, rfl⟩))
    go_ret
    exact ⟨rfl, rfl⟩
  · cases ks
    · go_wp2_with (first | (go_at_call 103; refine HB.out.mono ?_; rintro e w' ⟨rfl, rfl⟩) | (go_at_call 54; refine HS.out.mono ?_; rintro e w' ⟨rfl, rfl⟩))
      go_ret
      exact ⟨rfl, rfl⟩
    · cases fine
      · go_wp2_with (first | (go_at_call 103; refine HB.out.mono ?_; rintro e w' ⟨rfl, rfl⟩) | (go_at_call 54; refine HS.out.mono ?_; rintro e w' ⟨rfl, rfl⟩))
        go_ret
        exact ⟨rfl, rfl⟩
      · go_wp2_with (first | (go_at_call 103; refine HB.out.mono ?_; rintro e w' ⟨rfl, rfl⟩) | (go_at_call 54; refine HS.out.mono ?_; rintro e w' ⟨rfl, rfl⟩))
        go_ret
        exact ⟨rfl, rfl⟩

end Go.Proofs.Ytdbleddcnknmiab
