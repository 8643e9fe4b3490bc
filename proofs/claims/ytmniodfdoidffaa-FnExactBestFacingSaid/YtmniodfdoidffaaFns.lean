/-
  Checks of suns, hours and facings; whether the sun is up. The program's functions and the model's.
-/
import Derived.Test.YtmniodfdoidffaaLawValid
namespace Go.Proofs.Ytmniodfdoidffaa
open Go.RowKit

def inH (n : Int) : Bool := inB n 0 23

def inF (n : Int) : Bool := inB n 0 255

/-- The code of a sun, and of what is asked of numbers. -/
def codeB (ok fine : Bool) : Int := if ok then (if fine then 0 else 2) else 1

set_option maxRecDepth 100000 in
set_option maxHeartbeats 1000000 in
theorem checkSun_any (hs ts : List Int) (hh : hs.length = 24) (ht : ts.length = 24) (fine : Bool) (w : World) :
    Calls Try.prog 79 #[.agg (sunC hs ts), .bool fine] w fun e w' => e = .returned (.int .i64 (codeB (okB hs ts) fine)) ∧ Below w.heap.size w w' := by
  have Hh := Lib.hid hh
  have Ht := Lib.hid ht
  clear hh ht
  generalize hok : okB hs ts = ok
  have Hok := Lib.hid hok
  clear hok
  cases ok <;> cases fine
  all_goals
    go_enter Try.func79, Try.ntmps79
    go_upto_region 1 with (fail)
    refine abs_code (fun W => Below w.heap.size w W ∧ W.heap[w.heap.size]? = some (.cells (sunC hs ts) 59 (0, 0))) ⟨(Below.refl _ _).alloc (Nat.le_refl _) _, heap_alloc_new _ _⟩ ?_
    rintro W ⟨hb, h0⟩
    have H0 := Lib.hid h0
    clear h0
    go_wp2_with (first | (refine wpList_load_part rfl 59 _ rfl w.heap.size 0 48 rfl 59 (sunC hs ts) (0, 0) _ H0.out Try.underlying59 rfl info_sun (sun_fits _ _ Hh.out Ht.out) (sunC hs ts) (sun_all _ _ Hh.out Ht.out) ?_) | (go_at_call 100; refine (ValidSun_any hs ts Hh.out Ht.out _).mono ?_; rw [Hok.out]; rintro e W1 ⟨rfl, hb1⟩; replace H0 := Lib.hid (below_row hb1 H0.out); replace hb := hb.trans (hb1.mono hb.size); clear hb1))
    go_ret
    exact ⟨rfl, hb⟩

/-- The height at an hour; the turn at an hour. -/
def atH (xs : List Int) (hour : Int) : Int := xs[hour.toNat]?.getD 0

set_option maxRecDepth 100000 in
set_option maxHeartbeats 400000 in
theorem upAt_any (hs ts : List Int) (hh : hs.length = 24) (hour : Int) (h0 : 0 ≤ hour) (h1 : hour < 24) (w : World) :
    Calls Try.prog 103 #[.agg (sunC hs ts), .int .i64 hour] w fun e w' => e = .returned (.bool (decide (0 < atH hs hour))) ∧ Below w.heap.size w w' := by
  obtain ⟨k, rfl⟩ := Int.eq_ofNat_of_zero_le h0
  have hk : k < 24 := by omega
  have hc := cell_sun_h (heap_alloc_new w (.cells (sunC hs ts) 59)) hh k hk
  have ea : atH hs (k : Int) = hs[k]?.getD 0 := by unfold atH; rw [Int.toNat_natCast]
  rw [ea]
  generalize hs[k]?.getD 0 = x at *
  clear ea hh
  go_enter Try.func103, Try.ntmps103
  go_wp2
  go_ret
  exact ⟨rfl, (Below.refl _ _).alloc (Nat.le_refl _) _⟩

end Go.Proofs.Ytmniodfdoidffaa
