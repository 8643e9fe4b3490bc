/-
  Day, WithBS, DyO, DyM, DyP, Tilts, RoundL, Where, ListLaw, TaA, Over, FallDay, Best, BestRun, FwA, FwB, GenL.
-/
import Derived.Test.YtmniodfdoidffaaGreatDoorMz1
import Derived.Test.YtmniodfdoidffaaGreatDoorMz2
import Derived.Test.YtmniodfdoidffaaGreatDoorLaw
import Derived.Test.YtmniodfdoidffaaGreatDoorPnV
import Derived.Test.YtmniodfdoidffaaGreatDoorNew
import Derived.RangeFuncFrom
import Derived.RangeFuncWrites
import Derived.Test.YtmniodfdoidffaaGreatDoorCkP
import Derived.RangeFuncNested
import Derived.RangeFuncBound
import Derived.RangeFuncCalls
import Derived.RangeFuncLeaves
import Derived.Shelf.Abstract
import Derived.Shelf.RegionOpen
import Derived.OwnWalkIn
import Derived.TacticsInMore
import Derived.LoopNIn
import Derived.LoopIn
import Derived.Sort.AtCallIn
import Derived.Test.YtmniodfdoidffaaGreatDoorRound
import Derived.RangeFuncBox
import Derived.Maps.AppendAt
import Derived.Test.YtmniodfdoidffaaGreatDoorList
import Derived.RowKit
import Derived.Test.YtmniodfdoidffaaGreatDoorAgg
import Derived.Test.YtmniodfdoidffaaGreatDoorRow
import Derived.Test.YtmniodfdoidffaaGreatDoorTake
import Derived.Laws.Rows
import Derived.Laws.MakeOwn
import Derived.OwnWalk
import Derived.ChangeSlices
import Derived.ChangeShapes
import Derived.ChangeSame
import Derived.WalkSpells

namespace Go.Proofs.YtmniodfdoidffaaGreatDoor
open Go.RowKit Go.Shelf

theorem run_store_float (P : Program) (w : World) (a : Addr) (k : FloatKind) (b : Nat) (m : Mode) : (store a (.float k b) m).run P w = stored P w a (.float k b) m := run_store P w a _ m rfl

attribute [local go_sem] Oper.semAt_some run_store_float

/-- What a sum over the hours keeps: the sun, the sum so far, whatever lay before. -/
def SumI (w : World) (hs ts : List Int) (sb : Nat) (g : Nat → Nat) (pre : List Hr) (W : World) : Prop :=
  ∃ s : Nat, pos32 s = true ∧ W.heap[w.heap.size]? = some (.cells (sunC hs ts) 35 (0, 0)) ∧ W.heap[sb]? = some (.cells #[.float .f32 s] 23 (0, 0)) ∧ (Good pre → s = sumTo g pre.length) ∧ Below w.heap.size w W

theorem keeps_of_below {W W1 : World} (hb : Below W.heap.size W W1) : KeepsOthers W W1 := by
  exact ⟨hb.size, fun b o ho _ => (hb.block b (Array.getElem?_eq_some_iff.1 ho).1).trans ho⟩

theorem sumI_own (w : World) (hs ts : List Int) (sb : Nat) (g : Nat → Nat) (B : Nat) (hB : w.heap.size ≤ B) : OwnFrom B (SumI w hs ts sb g) := by
  intro s W W' row ⟨x, hx, h0, h1, hg, hb⟩ hg' hr
  have hr2 := fun r e => (hr r e).2
  exact ⟨x, hx, heap_kept h0 hg' hr2, heap_kept h1 hg' hr2, hg, ownFrom_below (β := Unit) (Nat.le_refl _) hB () W W' row hb hg' hr⟩

theorem sum_step {w W W1 : World} {hs ts : List Int} {sb : Nat} {g : Nat → Nat} {pre : List Hr} {k : Nat} {h01 : 0 ≤ (k : Int) ∧ (k : Int) < 24} {s : Nat} (hsb : w.heap.size < sb) (hl : pre.length < 24) (hs0 : pos32 s = true) (hg0 : pos32 (g k) = true)
    (hgood : Good pre → s = sumTo g pre.length) (hk : KeepsOthers W W1) (hbW : Below w.heap.size W W1) (hH : W1.heap[w.heap.size]? = some (.cells (sunC hs ts) 35 (0, 0))) (hS : W1.heap[sb]? = some (.cells #[.float .f32 s] 23 (0, 0))) (hb : Below w.heap.size w W1) :
    KeepsOthers W (W1.setCell ⟨sb, 0, none⟩ (.float .f32 (fadd s (g k)))) ∧ Below w.heap.size W (W1.setCell ⟨sb, 0, none⟩ (.float .f32 (fadd s (g k)))) ∧ SumI w hs ts sb g (pre ++ [⟨k, h01⟩]) (W1.setCell ⟨sb, 0, none⟩ (.float .f32 (fadd s (g k)))) := by
  refine ⟨hk.trans (KeepsOthers.setCell _ _ _), hbW.setCell (p := ⟨sb, 0, none⟩) (Nat.le_of_lt hsb) _, fadd s (g k), (add_ok hs0 hg0).2, ?_, ?_, ?_, hb.setCell (p := ⟨sb, 0, none⟩) (Nat.le_of_lt hsb) _⟩
  · rw [heap_setCell_other _ _ _ _ (Nat.ne_of_lt hsb)]; exact hH
  · rw [heap_setCell_same _ _ _ _ _ _ hS]; rfl
  · intro hgs
    obtain ⟨hgp, hxk⟩ := good_snoc hgs hl
    have hkl : k = pre.length := by have : (k : Int) = (pre.length : Int) := hxk; omega
    rw [List.length_append, List.length_singleton, sumTo_succ, ← hgood hgp, hkl]

end Go.Proofs.YtmniodfdoidffaaGreatDoor

namespace Go.Proofs.YtmniodfdoidffaaGreatDoor
open Go.ChangeShapes Go.WideShapes Go.ChangeAt Go.RowKit

/-- The code of a blind and a sun, and of what else is asked. -/
def codeBS (okb oks fine : Bool) : Int := if okb then codeB oks fine else 1

theorem codeBS_ne {okb oks fine : Bool} (h : ¬ (okb = true ∧ oks = true ∧ fine = true)) : codeBS okb oks fine ≠ 0 := by
  cases okb <;> cases oks <;> cases fine <;> simp_all [codeBS, codeB]

set_option maxRecDepth 100000 in
set_option maxHeartbeats 1000000 in
theorem checkBS_true (n : Int) (wd gp : Nat) (t : Int) (sh : Nat) (hs ts : List Int) (hh : hs.length = 24) (ht : ts.length = 24) (T0 : -32768 ≤ t) (T1 : t ≤ 32767) (hk : okBl n wd gp t sh = true) (fine : Bool) (w : World) :
    Calls Tryz.prog 39 #[.agg (blindC n wd gp t sh), .agg (sunC hs ts), .bool fine] w fun e w' => e = .returned (.int .i64 (codeB (okB hs ts) fine)) ∧ Below w.heap.size w w' := by
  have Hh := Lib.hid hh
  have Ht := Lib.hid ht
  have HV := Lib.hid (fun w => ValidBlind_any n wd gp t sh T0 T1 w)
  rw [hk] at HV
  clear hh ht hk T0 T1
  go_enter Tryz.func39, Tryz.ntmps39
  go_upto_region 1 with (fail)
  refine abs_world (fun W => W.heap[w.heap.size]? = some (.cells (blindC n wd gp t sh) 33 (0, 0)) ∧ W.heap[w.heap.size + 1]? = some (.cells (sunC hs ts) 35 (0, 0)) ∧ Below w.heap.size w W) ⟨heap_alloc2_old _ _ _, heap_alloc2_new _ _ _, ((Below.refl _ _).alloc (Nat.le_refl _) _).alloc (by simp) _⟩ ?_
  rintro W ⟨h0, h1, hb⟩
  generalize w.heap.size + 1 = g2 at *
  have H0 := Lib.hid h0
  have HS := Lib.hid h1
  clear h0 h1
  go_wp2_with (first | (refine wpList_load_part rfl 33 _ rfl w.heap.size 0 5 rfl 33 (blindC n wd gp t sh) (0, 0) _ H0.out Tryz.underlying33 rfl info_blind (blind_fits _ _ _ _ _) _ (blind_all _ _ _ _ _) ?_) | (refine wpList_load_part rfl 35 _ rfl g2 0 48 rfl 35 (sunC hs ts) (0, 0) _ HS.out Tryz.underlying35 rfl info_sun (sun_fits _ _ Hh.out Ht.out) (sunC hs ts) (sun_all _ _ Hh.out Ht.out) ?_) | (go_at_call 52; refine (HV.out _).mono ?_; rintro e W1 ⟨rfl, hb1⟩; replace H0 := Lib.hid (below_row hb1 H0.out); replace HS := Lib.hid (below_row hb1 HS.out); replace hb := hb.trans (hb1.mono hb.size); clear hb1) | (go_at_call 53; refine (checkSun_is hs ts Hh.out Ht.out fine _ rfl _).mono ?_; rintro e W1 ⟨rfl, hb1⟩; replace hb := hb.trans (hb1.mono hb.size); clear hb1))
  go_ret
  exact ⟨rfl, hb⟩

set_option maxRecDepth 100000 in
set_option maxHeartbeats 1000000 in
theorem checkBS_false (n : Int) (wd gp : Nat) (t : Int) (sh : Nat) (hs ts : List Int) (hh : hs.length = 24) (ht : ts.length = 24) (T0 : -32768 ≤ t) (T1 : t ≤ 32767) (hk : okBl n wd gp t sh = false) (fine : Bool) (w : World) :
    Calls Tryz.prog 39 #[.agg (blindC n wd gp t sh), .agg (sunC hs ts), .bool fine] w fun e w' => e = .returned (.int .i64 (1)) ∧ Below w.heap.size w w' := by
  have Hh := Lib.hid hh
  have Ht := Lib.hid ht
  have HV := Lib.hid (fun w => ValidBlind_any n wd gp t sh T0 T1 w)
  rw [hk] at HV
  clear hh ht hk T0 T1
  go_enter Tryz.func39, Tryz.ntmps39
  go_upto_region 1 with (fail)
  refine abs_world (fun W => W.heap[w.heap.size]? = some (.cells (blindC n wd gp t sh) 33 (0, 0)) ∧ W.heap[w.heap.size + 1]? = some (.cells (sunC hs ts) 35 (0, 0)) ∧ Below w.heap.size w W) ⟨heap_alloc2_old _ _ _, heap_alloc2_new _ _ _, ((Below.refl _ _).alloc (Nat.le_refl _) _).alloc (by simp) _⟩ ?_
  rintro W ⟨h0, h1, hb⟩
  generalize w.heap.size + 1 = g2 at *
  have H0 := Lib.hid h0
  have HS := Lib.hid h1
  clear h0 h1
  go_wp2_with (first | (refine wpList_load_part rfl 33 _ rfl w.heap.size 0 5 rfl 33 (blindC n wd gp t sh) (0, 0) _ H0.out Tryz.underlying33 rfl info_blind (blind_fits _ _ _ _ _) _ (blind_all _ _ _ _ _) ?_) | (refine wpList_load_part rfl 35 _ rfl g2 0 48 rfl 35 (sunC hs ts) (0, 0) _ HS.out Tryz.underlying35 rfl info_sun (sun_fits _ _ Hh.out Ht.out) (sunC hs ts) (sun_all _ _ Hh.out Ht.out) ?_) | (go_at_call 52; refine (HV.out _).mono ?_; rintro e W1 ⟨rfl, hb1⟩; replace H0 := Lib.hid (below_row hb1 H0.out); replace HS := Lib.hid (below_row hb1 HS.out); replace hb := hb.trans (hb1.mono hb.size); clear hb1))
  go_ret
  exact ⟨rfl, hb⟩

theorem checkBS_is (n : Int) (wd gp : Nat) (t : Int) (sh : Nat) (hs ts : List Int) (hh : hs.length = 24) (ht : ts.length = 24) (T0 : -32768 ≤ t) (T1 : t ≤ 32767) (fine : Bool) (c : Int) (hc : codeBS (okBl n wd gp t sh) (okB hs ts) fine = c) (w : World) :
    Calls Tryz.prog 39 #[.agg (blindC n wd gp t sh), .agg (sunC hs ts), .bool fine] w fun e w' => e = .returned (.int .i64 c) ∧ Below w.heap.size w w' := by
  subst hc
  unfold codeBS
  cases hk : okBl n wd gp t sh with
  | true => exact checkBS_true n wd gp t sh hs ts hh ht T0 T1 hk fine w
  | false => exact checkBS_false n wd gp t sh hs ts hh ht T0 T1 hk fine w

end Go.Proofs.YtmniodfdoidffaaGreatDoor

namespace Go.Proofs.YtmniodfdoidffaaGreatDoor
open Go.ChangeShapes Go.WideShapes Go.ChangeAt Go.RowKit Go.Shelf

attribute [local go_sem] Oper.semAt_some run_store_float

/-- The first number below a bound for which something does not hold. -/
def firstNo (p : Nat → Bool) : Nat → Nat → Option Nat
  | _, 0 => none
  | a, m + 1 => if p a then firstNo p (a + 1) m else some a

theorem firstNo_none (p : Nat → Bool) : ∀ m a, (∀ j, a ≤ j → j < a + m → p j = true) → firstNo p a m = none
  | 0, _, _ => rfl
  | m + 1, a, h => by
    rw [firstNo, if_pos (h a (Nat.le_refl _) (by omega))]
    exact firstNo_none p m (a + 1) (fun j h1 h2 => h j (by omega) (by omega))

theorem firstNo_some (p : Nat → Bool) (k : Nat) (hk : p k = false) : ∀ m a, a ≤ k → k < a + m → (∀ j, a ≤ j → j < k → p j = true) → firstNo p a m = some k
  | 0, a, h1, h2, _ => by omega
  | m + 1, a, h1, h2, h => by
    by_cases e : a = k
    · subst e
      rw [firstNo, if_neg (by rw [hk]; decide)]
    · rw [firstNo, if_pos (h a (Nat.le_refl _) (by omega))]
      exact firstNo_some p k hk m (a + 1) (by omega) (by omega) (fun j h1 h2 => h j (by omega) h2)

def hourV : Option Nat → Value
  | none => .nilIface
  | some k => .iface 86 (.agg #[.int .i64 (k : Int)])

def OutI (W0 : World) (b2 : Nat) (p : Nat → Bool) (pre : List Hr) (W : World) : Prop :=
  Below W0.heap.size W0 W ∧ (Good pre → ∀ j, j < pre.length → p j = true) ∧ W0.heap[b2]? = some (.cells #[.nilIface] 56 (0, 0))

def OutX (n0 : Nat) (w0 : World) (b2 : Nat) (p : Nat → Bool) (c : Code) (xs : List Hr) (W : World) : Prop :=
  c = .ret ∧ Below n0 w0 W ∧ n0 ≤ b2 ∧ ∃ k : Nat, k < 24 ∧ p k = false ∧ (Good xs → ∀ j, j < k → p j = true) ∧ W.heap[b2]? = some (.cells #[.iface 86 (.agg #[.int .i64 (k : Int)])] 56 (0, 0))

theorem outI_own (W0 : World) (b2 : Nat) (p : Nat → Bool) (B : Nat) (hB : W0.heap.size ≤ B) : OwnFrom B (OutI W0 b2 p) := by
  intro s W W' row ⟨hb, hg, h2⟩ hg' hr
  exact ⟨ownFrom_below (β := Unit) (Nat.le_refl _) hB () W W' row hb hg' hr, hg, h2⟩

theorem outX_own (n0 : Nat) (w0 : World) (b2 : Nat) (p : Nat → Bool) (c : Code) (B : Nat) (hn : n0 ≤ w0.heap.size) (hB : n0 ≤ B) : OwnFrom B (OutX n0 w0 b2 p c) := by
  intro s W W' row ⟨hc, hb, hnb, k, hk, hp, hg, h2⟩ hg' hr
  have hr2 := fun r e => (hr r e).2
  exact ⟨hc, ownFrom_below (β := Unit) hn hB () W W' row hb hg' hr, hnb, k, hk, hp, hg, heap_kept h2 hg' hr2⟩

/-- What is asked of a day whose hours are looked at. -/
structure DyHr (hs ts : List Int) (fc : Int) : Prop where
  all : ∀ k : Nat, k < 24 → HrOk hs ts (k : Int) fc

def kpAt (hs ts : List Int) (fc : Int) (lo hi : Nat) (wd gp sh : Nat) (ps : List Int) (k : Nat) : Bool := kpB hs ts fc lo hi wd gp sh (k : Int) (ps[k]?.getD 0)

theorem plan_tilt {ps : List Int} (hp : ps.length = 24) (ho : okP ps = true) {k : Nat} (hk : k < 24) : -64 ≤ ps[k]?.getD 0 ∧ ps[k]?.getD 0 ≤ 64 := inI_get ((okP_iff ps hp).1 ho k hk)

end Go.Proofs.YtmniodfdoidffaaGreatDoor

namespace Go.Proofs.YtmniodfdoidffaaGreatDoor
open Go.ChangeShapes Go.WideShapes Go.ChangeAt Go.RowKit Go.Deep Go.Joins

attribute [local go_sem] run_store_f

theorem bl_one (n : Int) (wd gp : Nat) (t : Int) (sh : Nat) : ∀ v ∈ blindC n wd gp t sh, v.oneCell' = true := by
  intro v hv
  simp only [blindC, List.mem_toArray, List.mem_cons, List.not_mem_nil, or_false] at hv
  rcases hv with rfl | rfl | rfl | rfl | rfl <;> rfl

set_option maxRecDepth 100000 in
set_option maxHeartbeats 2000000 in
theorem l07At_any (n : Int) (wd gp : Nat) (t : Int) (sh : Nat) (hs ts : List Int) (hh : hs.length = 24) (ht : ts.length = 24) (ok : BlOk n wd gp t sh) (fc hour x : Int) (k : HrOk hs ts hour fc) (x0 : -64 ≤ x) (x1 : x ≤ 64) (g1 g2 : Nat) (w : World) (q1 : w.heap[g1]? = some (.cells (blindC n wd gp t sh) 33 (0, 0))) (q2 : w.heap[g2]? = some (.cells (sunC hs ts) 35 (0, 0))) :
    Calls Tryz.prog 28 #[.pointer (some ⟨g1, 0, none⟩), .pointer (some ⟨g2, 0, none⟩), .int .i64 fc, .int .i64 hour, .int .i64 x] w fun e w' => e = .returned (.float .f32 (winB wd gp x sh hs ts hour fc)) ∧ Below w.heap.size w w' := by
  have okx : BlOk n wd gp x sh := ⟨ok.1, ok.2.1, ok.2.2.1, ok.2.2.2.1, ok.2.2.2.2.1, ok.2.2.2.2.2.1, x0, x1, ok.2.2.2.2.2.2.2.2⟩
  have HW := Lib.hid (fun g1 g2 w c1 c2 => l02Window_any n wd gp x sh hs ts hh ht okx hour fc k.h0 k.h1 k.f0 k.f1 k.x1 k.y0 k.y1 g1 g2 w c1 c2)
  have z1 : IntKind.i16.wrap x = x := by rw [IntWalk.i16_in _ (by omega)]
  have Q1 := Lib.hid q1
  have Q2 := Lib.hid q2
  generalize winB wd gp x sh hs ts hour fc = v at *
  clear ok okx k x0 x1 hh ht q1 q2
  go_enter Tryz.func28, Tryz.ntmps28
  go_upto_region 2 with (first | (refine wpList_load_part rfl 33 _ rfl g1 0 5 rfl 33 (blindC n wd gp t sh) (0, 0) _ Q1.out Tryz.underlying33 rfl info_blind (blind_fits _ _ _ _ _) _ (blind_all _ _ _ _ _) ?_) | (refine wpList_store_part rfl 33 _ _ rfl _ 0 (blindC n wd gp t sh) rfl rfl 33 _ (heap_alloc_new _ _) info_blind (Nat.le_refl _) (bl_one n wd gp t sh) ?_; rw [laid_all _ _ (by rfl)]))
  refine abs_code (fun W => W.heap[w.heap.size]? = some (.cells (blindC n wd gp t sh) 33 (0, 0)) ∧ Below w.heap.size w W) ⟨setRow_heap _ _ _ _ _ _ (heap_alloc_new _ _), below_setRow ((Below.refl _ _).alloc (Nat.le_refl _) _) (Nat.le_refl _) _⟩ ?_
  rintro W ⟨h0, hb⟩
  obtain ⟨k0, k1, k2, k3, k4⟩ := blind_cells h0
  have f3 := frozen_of_row W w.heap.size 3 _ _ h0
  have H0 := Lib.hid h0
  clear h0
  go_upto_region 3 with (fail)
  refine abs_code (fun V => V.heap[w.heap.size]? = some (.cells (blindC n wd gp x sh) 33 (0, 0)) ∧ Below w.heap.size w V) ⟨by rw [heap_setCell_same _ _ _ _ _ _ H0.out]; rfl, hb.setCell (p := ⟨w.heap.size, 3, none⟩) (Nat.le_refl _) _⟩ ?_
  clear H0 hb k0 k1 k2 k3 k4 f3
  rintro V ⟨h0, hb⟩
  go_wp2_with (go_at_call 45; refine (HW.out _ _ _ h0 (below_row hb Q2.out)).mono ?_; rintro e W1 ⟨rfl, hb1⟩)
  go_ret
  exact ⟨rfl, hb.trans (hb1.mono hb.size)⟩

set_option maxRecDepth 100000 in
set_option maxHeartbeats 4000000 in
theorem l07Within_any (n : Int) (wd gp : Nat) (t : Int) (sh : Nat) (hs ts : List Int) (hh : hs.length = 24) (ht : ts.length = 24) (ok : BlOk n wd gp t sh) (fc hour x : Int) (k : HrOk hs ts hour fc) (x0 : -64 ≤ x) (x1 : x ≤ 64) (lo hi : Nat) (hlo : fin32 lo = true) (hhi : fin32 hi = true) (g1 g2 : Nat) (w : World) (q1 : w.heap[g1]? = some (.cells (blindC n wd gp t sh) 33 (0, 0))) (q2 : w.heap[g2]? = some (.cells (sunC hs ts) 35 (0, 0))) :
    Calls Tryz.prog 36 #[.pointer (some ⟨g1, 0, none⟩), .pointer (some ⟨g2, 0, none⟩), .int .i64 fc, .int .i64 hour, .int .i64 x, .float .f32 lo, .float .f32 hi] w fun e w' => e = .returned (.bool (kpB hs ts fc lo hi wd gp sh hour x)) ∧ Below w.heap.size w w' := by
  have HA := Lib.hid (fun w q1 q2 => l07At_any n wd gp t sh hs ts hh ht ok fc hour x k x0 x1 g1 g2 w q1 q2)
  have HF := Lib.hid (fun w q2 => l01Fall_any g2 hs ts hh ht hour fc k.h0 k.h1 k.f0 k.f1 k.x1 k.y0 k.y1 35 (0, 0) w q2)
  have hv : fin32 (winB wd gp x sh hs ts hour fc) = true := pos_fin (winB_pos wd gp x ok.2.2.2.2.2.2.2.2 hs ts hour fc k.x1)
  have Q1 := Lib.hid q1
  have Q2 := Lib.hid q2
  obtain ⟨o1, h1⟩ := order_some hv hhi
  obtain ⟨o2, h2⟩ := order_some hv hlo
  unfold kpB gtO ltO
  rw [h1, h2]
  generalize winB wd gp x sh hs ts hour fc = v at *
  generalize fallOf hs ts hour fc = f at *
  clear ok k x0 x1 hh ht q1 q2 hv hlo hhi
  cases o1
  · cases o2
    · skip
      go_enter Tryz.func36, Tryz.ntmps36
      go_wp2_with (first | (go_at_call 28; refine (HA.out _ Q1.out Q2.out).mono ?_; rintro e W1 ⟨rfl, hb1⟩) | (go_at_call 51; refine (HF.out _ (below_row hb1 Q2.out)).mono ?_; rintro e W2 ⟨rfl, hb2⟩; replace hb1 := hb1.trans (hb2.mono hb1.size)))
      go_ret
      exact ⟨rfl, hb1⟩
    · skip
      go_enter Tryz.func36, Tryz.ntmps36
      go_wp2_with (first | (go_at_call 28; refine (HA.out _ Q1.out Q2.out).mono ?_; rintro e W1 ⟨rfl, hb1⟩) | (go_at_call 51; refine (HF.out _ (below_row hb1 Q2.out)).mono ?_; rintro e W2 ⟨rfl, hb2⟩; replace hb1 := hb1.trans (hb2.mono hb1.size)))
      go_ret
      exact ⟨rfl, hb1⟩
    · skip
      go_enter Tryz.func36, Tryz.ntmps36
      go_wp2_with (first | (go_at_call 28; refine (HA.out _ Q1.out Q2.out).mono ?_; rintro e W1 ⟨rfl, hb1⟩) | (go_at_call 51; refine (HF.out _ (below_row hb1 Q2.out)).mono ?_; rintro e W2 ⟨rfl, hb2⟩; replace hb1 := hb1.trans (hb2.mono hb1.size)))
      go_ret
      exact ⟨rfl, hb1⟩
  · cases o2
    · skip
      go_enter Tryz.func36, Tryz.ntmps36
      go_wp2_with (first | (go_at_call 28; refine (HA.out _ Q1.out Q2.out).mono ?_; rintro e W1 ⟨rfl, hb1⟩) | (go_at_call 51; refine (HF.out _ (below_row hb1 Q2.out)).mono ?_; rintro e W2 ⟨rfl, hb2⟩; replace hb1 := hb1.trans (hb2.mono hb1.size)))
      go_ret
      exact ⟨rfl, hb1⟩
    · skip
      go_enter Tryz.func36, Tryz.ntmps36
      go_wp2_with (first | (go_at_call 28; refine (HA.out _ Q1.out Q2.out).mono ?_; rintro e W1 ⟨rfl, hb1⟩) | (go_at_call 51; refine (HF.out _ (below_row hb1 Q2.out)).mono ?_; rintro e W2 ⟨rfl, hb2⟩; replace hb1 := hb1.trans (hb2.mono hb1.size)))
      go_ret
      exact ⟨rfl, hb1⟩
    · skip
      go_enter Tryz.func36, Tryz.ntmps36
      go_wp2_with (first | (go_at_call 28; refine (HA.out _ Q1.out Q2.out).mono ?_; rintro e W1 ⟨rfl, hb1⟩) | (go_at_call 51; refine (HF.out _ (below_row hb1 Q2.out)).mono ?_; rintro e W2 ⟨rfl, hb2⟩; replace hb1 := hb1.trans (hb2.mono hb1.size)))
      go_ret
      exact ⟨rfl, hb1⟩
  · skip
    go_enter Tryz.func36, Tryz.ntmps36
    go_wp2_with (first | (go_at_call 28; refine (HA.out _ Q1.out Q2.out).mono ?_; rintro e W1 ⟨rfl, hb1⟩) | (go_at_call 51; refine (HF.out _ (below_row hb1 Q2.out)).mono ?_; rintro e W2 ⟨rfl, hb2⟩; replace hb1 := hb1.trans (hb2.mono hb1.size)))
    go_ret
    exact ⟨rfl, hb1⟩

def idxV : Option Nat → Int
  | none => -1
  | some k => (k : Int)

end Go.Proofs.YtmniodfdoidffaaGreatDoor

namespace Go.Proofs.YtmniodfdoidffaaGreatDoor
open Go.ChangeShapes Go.WideShapes Go.ChangeAt Go.RowKit Go.Deep Go.Joins

attribute [local go_sem] run_store_f

/-- The code of a call with a blind, a sun and a plan. -/
def cdP (okp okb oks fine : Bool) : Int := if okp then codeBS okb oks fine else 1

theorem isPart_is (a : Nat) (r : Bool) (h : partB a = r) (w : World) : Calls Tryz.prog 22 #[.float .f32 a] w fun e w' => e = .returned (.bool r) ∧ w = w' := by subst h; exact isPart_any a w

theorem l01Part_is (a : Nat) (r : Bool) (h : partB a = r) (w : World) : Calls Tryz.prog 15 #[.float .f32 a] w fun e w' => e = .returned (.bool r) ∧ w = w' := by subst h; exact l01Part_any a w

theorem part_fin {a : Nat} (hw : (Lit.float .f32 a).wf = true) (h : partB a = true) : fin32 a = true := by
  rcases part_get hw h with h | h
  · exact fin_of_lt (by omega)
  · subst h; decide

set_option maxRecDepth 100000 in
set_option maxHeartbeats 1000000 in
theorem refusedBy_ok (w : World) : Calls Tryz.prog 38 #[.int .i64 0] w fun e w' => e = .returned .nilIface ∧ w = w' := by
  go_enter Tryz.func38, Tryz.ntmps38
  go_wp2
  go_ret
  exact ⟨rfl, rfl⟩

set_option maxRecDepth 100000 in
set_option maxHeartbeats 1000000 in
theorem refusedBy_no (c : Int) (hc : c ≠ 0) (w : World) : Calls Tryz.prog 38 #[.int .i64 c] w fun e w' => e = .returned (.iface 84 (.agg #[.int .i64 c])) ∧ w = w' := by
  go_enter Tryz.func38, Tryz.ntmps38
  go_wp2
  go_ret
  exact ⟨rfl, rfl⟩

set_option maxRecDepth 100000 in
set_option maxHeartbeats 2000000 in
theorem checkDay_ok (n : Int) (wd gp : Nat) (t : Int) (sh : Nat) (hs ts : List Int) (hh : hs.length = 24) (ht : ts.length = 24) (T0 : -32768 ≤ t) (T1 : t ≤ 32767) (fine : Bool) (hc : codeBS (okBl n wd gp t sh) (okB hs ts) fine = 0) (w : World) :
    Calls Tryz.prog 20 #[.agg (blindC n wd gp t sh), .agg (sunC hs ts), .bool fine] w fun e w' => e = .returned (.nilIface) ∧ Below w.heap.size w w' := by
  have HC := Lib.hid (fun w => checkBS_is n wd gp t sh hs ts hh ht T0 T1 fine 0 hc w)
  have HR := Lib.hid (fun w => refusedBy_ok w)
  have Hh := Lib.hid hh
  have Ht := Lib.hid ht
  clear hh ht hc
  go_enter Tryz.func20, Tryz.ntmps20
  go_upto_region 1 with (fail)
  refine abs_code (fun W => W.heap[w.heap.size]? = some (.cells (blindC n wd gp t sh) 33 (0, 0)) ∧ W.heap[w.heap.size + 1]? = some (.cells (sunC hs ts) 35 (0, 0)) ∧ Below w.heap.size w W) ⟨heap_alloc2_old _ _ _, heap_alloc2_new _ _ _, ((Below.refl _ _).alloc (Nat.le_refl _) _).alloc (by simp) _⟩ ?_
  rintro W ⟨h0, h1, hb⟩
  generalize w.heap.size + 1 = b1 at *
  have H0 := Lib.hid h0
  have H1 := Lib.hid h1
  clear h0 h1
  go_wp2_with (first | (refine wpList_load_part rfl 33 _ rfl w.heap.size 0 5 rfl 33 (blindC n wd gp t sh) (0, 0) _ H0.out Tryz.underlying33 rfl info_blind (blind_fits _ _ _ _ _) _ (blind_all _ _ _ _ _) ?_) | (refine wpList_load_part rfl 35 _ rfl b1 0 48 rfl 35 (sunC hs ts) (0, 0) _ H1.out Tryz.underlying35 rfl info_sun (sun_fits _ _ Hh.out Ht.out) (sunC hs ts) (sun_all _ _ Hh.out Ht.out) ?_) | (go_at_call 39; refine (HC.out _).mono ?_; rintro e W1 ⟨rfl, hb1⟩; replace H0 := Lib.hid (below_row hb1 H0.out); replace H1 := Lib.hid (below_row hb1 H1.out); replace hb := hb.trans (hb1.mono hb.size); clear hb1) | (go_at_call 38; refine (HR.out _).mono ?_; rintro e w' ⟨rfl, rfl⟩))
  go_ret
  exact ⟨rfl, hb⟩

set_option maxRecDepth 100000 in
set_option maxHeartbeats 2000000 in
theorem checkDay_no (n : Int) (wd gp : Nat) (t : Int) (sh : Nat) (hs ts : List Int) (hh : hs.length = 24) (ht : ts.length = 24) (T0 : -32768 ≤ t) (T1 : t ≤ 32767) (fine : Bool) (c : Int) (hc : codeBS (okBl n wd gp t sh) (okB hs ts) fine = c) (hne : c ≠ 0) (w : World) :
    Calls Tryz.prog 20 #[.agg (blindC n wd gp t sh), .agg (sunC hs ts), .bool fine] w fun e w' => e = .returned (.iface 84 (.agg #[.int .i64 c])) ∧ Below w.heap.size w w' := by
  have HC := Lib.hid (fun w => checkBS_is n wd gp t sh hs ts hh ht T0 T1 fine c hc w)
  have HR := Lib.hid (fun w => refusedBy_no c hne w)
  have Hh := Lib.hid hh
  have Ht := Lib.hid ht
  clear hh ht hc hne
  go_enter Tryz.func20, Tryz.ntmps20
  go_upto_region 1 with (fail)
  refine abs_code (fun W => W.heap[w.heap.size]? = some (.cells (blindC n wd gp t sh) 33 (0, 0)) ∧ W.heap[w.heap.size + 1]? = some (.cells (sunC hs ts) 35 (0, 0)) ∧ Below w.heap.size w W) ⟨heap_alloc2_old _ _ _, heap_alloc2_new _ _ _, ((Below.refl _ _).alloc (Nat.le_refl _) _).alloc (by simp) _⟩ ?_
  rintro W ⟨h0, h1, hb⟩
  generalize w.heap.size + 1 = b1 at *
  have H0 := Lib.hid h0
  have H1 := Lib.hid h1
  clear h0 h1
  go_wp2_with (first | (refine wpList_load_part rfl 33 _ rfl w.heap.size 0 5 rfl 33 (blindC n wd gp t sh) (0, 0) _ H0.out Tryz.underlying33 rfl info_blind (blind_fits _ _ _ _ _) _ (blind_all _ _ _ _ _) ?_) | (refine wpList_load_part rfl 35 _ rfl b1 0 48 rfl 35 (sunC hs ts) (0, 0) _ H1.out Tryz.underlying35 rfl info_sun (sun_fits _ _ Hh.out Ht.out) (sunC hs ts) (sun_all _ _ Hh.out Ht.out) ?_) | (go_at_call 39; refine (HC.out _).mono ?_; rintro e W1 ⟨rfl, hb1⟩; replace H0 := Lib.hid (below_row hb1 H0.out); replace H1 := Lib.hid (below_row hb1 H1.out); replace hb := hb.trans (hb1.mono hb.size); clear hb1) | (go_at_call 38; refine (HR.out _).mono ?_; rintro e w' ⟨rfl, rfl⟩))
  go_ret
  exact ⟨rfl, hb⟩

theorem cdP_bad {okp okb oks fine : Bool} (h : (okb && oks && okp) = false) : cdP okp okb oks fine = 1 := by
  cases okp <;> cases okb <;> cases oks <;> simp_all [cdP, codeBS, codeB]

theorem cdP_fine {okp okb oks fine : Bool} (h : (okb && oks && okp) = true) : cdP okp okb oks fine = if fine then 0 else 2 := by
  cases okp <;> cases okb <;> cases oks <;> simp_all [cdP, codeBS, codeB]

theorem cdP_yes {okp okb oks fine : Bool} (h : cdP okp okb oks fine = 0) : okp = true ∧ okb = true ∧ oks = true ∧ fine = true := by
  cases okp <;> cases okb <;> cases oks <;> cases fine <;> simp_all [cdP, codeBS, codeB]

set_option maxRecDepth 100000 in
set_option maxHeartbeats 2000000 in
theorem l07Asked_is (n : Int) (wd gp : Nat) (t : Int) (sh : Nat) (hs ts : List Int) (hh : hs.length = 24) (ht : ts.length = 24) (ps : List Int) (hp : ps.length = 24) (T0 : -32768 ≤ t) (T1 : t ≤ 32767) (N0 : -128 ≤ n) (N1 : n ≤ 127) (rb : ∀ x ∈ hs ++ ts, -32768 ≤ x ∧ x ≤ 32767) (pb : ∀ x ∈ ps, -32768 ≤ x ∧ x ≤ 32767) (fine : Bool) (c : Int) (hc : cdP (okP ps) (okBl n wd gp t sh) (okB hs ts) fine = c) (g1 g2 g3 : Nat) (w : World) (q1 : w.heap[g1]? = some (.cells (blindC n wd gp t sh) 33 (0, 0))) (q2 : w.heap[g2]? = some (.cells (sunC hs ts) 35 (0, 0))) (q3 : w.heap[g3]? = some (.cells (i16s ps) 30 (0, 0))) :
    Calls Tryz.prog 13 #[.pointer (some ⟨g1, 0, none⟩), .pointer (some ⟨g2, 0, none⟩), .pointer (some ⟨g3, 0, none⟩), .bool fine] w fun e w' => e = .returned (.int .i64 c) ∧ w = w' := by
  have HB : Hid (∀ _ : Unit, Calls Tryz.prog 32 #[.pointer (some ⟨g1, 0, none⟩)] w fun e w' => e = .returned (.bool (okBl n wd gp t sh)) ∧ w = w') := fun _ => l02Ok_any n wd gp t sh T0 T1 N0 N1 g1 33 (0, 0) w q1
  have HS : Hid (∀ _ : Unit, Calls Tryz.prog 33 #[.pointer (some ⟨g2, 0, none⟩)] w fun e w' => e = .returned (.bool (okB hs ts)) ∧ w = w') := fun _ => l01Ok_any g2 hs ts hh ht rb 35 (0, 0) w q2
  have HQ : Hid (∀ _ : Unit, Calls Tryz.prog 34 #[.pointer (some ⟨g3, 0, none⟩)] w fun e w' => e = .returned (.bool (okP ps)) ∧ w = w') := fun _ => l07Plan_any g3 ps hp pb 30 (0, 0) w q3
  subst hc
  clear T0 T1 N0 N1 rb pb hh ht hp q1 q2 q3
  generalize okBl n wd gp t sh = okb at *
  generalize okB hs ts = oks at *
  generalize okP ps = okp at *
  cases okb
  · rw [cdP_bad (by rfl)]
    go_enter Tryz.func13, Tryz.ntmps13
    go_wp2_with (go_at_call 32; refine (HB.out ()).mono ?_; rintro e w' ⟨rfl, rfl⟩)
    go_ret
    exact ⟨rfl, rfl⟩
  · cases oks
    · rw [cdP_bad (by rfl)]
      go_enter Tryz.func13, Tryz.ntmps13
      go_wp2_with (first | (go_at_call 32; refine (HB.out ()).mono ?_; rintro e w' ⟨rfl, rfl⟩) | (go_at_call 33; refine (HS.out ()).mono ?_; rintro e w' ⟨rfl, rfl⟩))
      go_ret
      exact ⟨rfl, rfl⟩
    · cases okp
      · rw [cdP_bad (by rfl)]
        go_enter Tryz.func13, Tryz.ntmps13
        go_wp2_with (first | (go_at_call 32; refine (HB.out ()).mono ?_; rintro e w' ⟨rfl, rfl⟩) | (go_at_call 33; refine (HS.out ()).mono ?_; rintro e w' ⟨rfl, rfl⟩) | (go_at_call 34; refine (HQ.out ()).mono ?_; rintro e w' ⟨rfl, rfl⟩))
        go_ret
        exact ⟨rfl, rfl⟩
      · rw [cdP_fine (by rfl)]
        cases fine
        · go_enter Tryz.func13, Tryz.ntmps13
          go_wp2_with (first | (go_at_call 32; refine (HB.out ()).mono ?_; rintro e w' ⟨rfl, rfl⟩) | (go_at_call 33; refine (HS.out ()).mono ?_; rintro e w' ⟨rfl, rfl⟩) | (go_at_call 34; refine (HQ.out ()).mono ?_; rintro e w' ⟨rfl, rfl⟩))
          go_ret
          exact ⟨rfl, rfl⟩
        · go_enter Tryz.func13, Tryz.ntmps13
          go_wp2_with (first | (go_at_call 32; refine (HB.out ()).mono ?_; rintro e w' ⟨rfl, rfl⟩) | (go_at_call 33; refine (HS.out ()).mono ?_; rintro e w' ⟨rfl, rfl⟩) | (go_at_call 34; refine (HQ.out ()).mono ?_; rintro e w' ⟨rfl, rfl⟩))
          go_ret
          exact ⟨rfl, rfl⟩

end Go.Proofs.YtmniodfdoidffaaGreatDoor

namespace Go.Proofs.YtmniodfdoidffaaGreatDoor
open Go.RowKit Go.Shelf

/-- A tilt. -/
abbrev Tl := { x : Int // -64 ≤ x ∧ x ≤ 64 }

def tl (k : Nat) : Tl := ⟨((k % 129 : Nat) : Int) - 64, by omega⟩

theorem tl_val (k : Nat) (h : k < 129) : (tl k).1 = (k : Int) - 64 := by simp [tl, Nat.mod_eq_of_lt h]

def tls (k : Nat) : List Tl := (List.range k).map tl

theorem tls_succ (k : Nat) : tls (k + 1) = tls k ++ [tl k] := by simp [tls, List.range_succ]
@[simp] theorem tls_length (k : Nat) : (tls k).length = k := by simp [tls]

/-- One block stays as it is. -/
def KeepsAt (g : Nat) (A B : World) : Prop := ∀ o, A.heap[g]? = some o → B.heap[g]? = some o

theorem keepsAt_t {g : Nat} {A B C : World} (h : KeepsAt g A B) (k : KeepsAt g B C) : KeepsAt g A C := fun o ho => k o (h o ho)

theorem keepsAt_b {g : Nat} {w : World} (hg : g < w.heap.size) (W : World) (l : Nat) (o o' : Obj) (hl : w.heap.size ≤ l) (_ : W.heap[l]? = some o) (_ : o.isCells = false) (_ : o.isWalk = false) : KeepsAt g W (W.putObj l o') := by
  intro x hx
  rw [World.putObj_heap_other (by omega)]; exact hx

theorem grown_of_below {w w' : World} (h : Below w.heap.size w w') (row : Option Nat) : w.grownBy w' row := ⟨h.os, h.tape, h.output, h.size, fun k hk _ => h.block k hk⟩

set_option maxRecDepth 100000 in
set_option maxHeartbeats 1000000 in
theorem eachTilted_in (n : Int) (wd gp : Nat) (t : Int) (sh : Nat) (gb : Nat) (m : Nat) (l : Nat) (J Jx : List Tl → World → Prop)
    (hY : ∀ pre x W, J pre W → pre.length < 129 → YieldAt Fence.wide (m + 1) Tryz.prog l #[.agg (blindC n wd gp x.1 sh)] W fun e W' =>
      (e = .returned (.bool true) ∧ J (pre ++ [x]) W' ∧ KeepsAt gb W W') ∨ (e = .returned (.bool false) ∧ Jx (pre ++ [x]) W'))
    (W : World) (hJ : AbidesFrom W.heap.size J) (h0 : J [] W) (hg : W.heap[gb]? = some (.cells (blindC n wd gp t sh) 33 (0, 0))) :
    CallsIn Fence.wide (m + 2) Tryz.prog 89 #[.func (.yield l) #[] #[], .pointer (some ⟨gb, 0, none⟩)] W fun e W' => (∃ v, e = .returned v) ∧
      ((∃ xs, xs = tls 129 ∧ J xs W') ∨ (∃ pre, (∃ k, k ≤ 129 ∧ pre = tls k) ∧ Jx pre W')) := by
  refine callsIn_of_wp Tryz.func89 rfl trivial ?_ rfl
  simp only [Tryz.ntmps89, List.size_toArray, List.length_cons, List.length_nil, Nat.reduceAdd, Nat.reduceSub, Array.replicate_succ, Array.replicate_zero, List.push_toArray, List.append_toArray, List.nil_append, List.cons_append]
  gi_wp2
  gi_loopw [3] (fun i wr => ∃ k : Nat, k ≤ 129 ∧ i = .int .i64 ((k : Int) - 64) ∧ J (tls k) wr ∧ wr.heap[gb]? = some (.cells (blindC n wd gp t sh) 33 (0, 0))) (fun i _ => (65 - intOf i).toNat)
  case atStart => exact ⟨0, Nat.zero_le _, rfl, h0, hg⟩
  case round =>
    obtain ⟨k, hk, rfl, hJs, hgk⟩ := hrel
    by_cases hlt : k < 129
    · have HT := Lib.hid (fun w => tilted_any2 n wd gp t sh ((k : Int) - 64) (by omega) (by omega) w)
      have HGK := Lib.hid hgk
      have HJS := Lib.hid hJs
      clear hgk hJs
      obtain ⟨k0, k1, k2, k3, k4⟩ := blind_cells HGK.out
      have z0 : (-64 : Int) ≤ (k : Int) - 64 := by omega
      have z1 : (k : Int) - 64 ≤ 64 := by omega
      gi_wp2_with (refine ⟨trivial, (callsIn_wide.2 (HT.out _)).mono ?_⟩; rintro e W1 ⟨rfl, hb1⟩)
      obtain ⟨fn, tmps, assign, body, hy, hR⟩ := hY (tls k) (tl k) W1 (hJ (tls k) wr W1 none HJS.out (grown_of_below hb1 none) (fun r e => by cases e)) (by rw [tls_length]; exact hlt)
      rw [tl_val k hlt] at hy
      have HG1 := Lib.hid (below_row hb1 HGK.out)
      clear k0 k1 k2 k3 k4
      rw [hy]
      go_simp
      refine hR.mono ?_
      rintro e W3 (⟨rfl, hJ3, hk3⟩ | ⟨rfl, hJx3⟩)
      · gi_wp2
        go_roundw
        case rel => exact ⟨k + 1, by omega, by simp; omega, by rw [tls_succ]; exact hJ3, hk3 _ HG1.out⟩
        case measure => simp [intOf]; omega
      · gi_wp2
        refine bodyPost_ret (results_none rfl _ _ _) rfl ?_
        exact ⟨⟨_, rfl⟩, .inr ⟨_, ⟨k + 1, by omega, (tls_succ _).symm⟩, hJx3⟩⟩
    · obtain rfl : k = 129 := by omega
      gi_wp2
      go_end0
      exact ⟨⟨_, rfl⟩, .inl ⟨_, rfl, hJs⟩⟩

end Go.Proofs.YtmniodfdoidffaaGreatDoor

namespace Go.Proofs.YtmniodfdoidffaaGreatDoor
open Go Go.RowKit

theorem list_roundL {P : Program} {l n : Nat} {ops : Array Oper} {Q : Exit → Act → World → Prop} (hlo : ¬ LetsOut Q) :
    ∀ (os : List Oper) (_ : ∀ o ∈ os, ∀ c, o.op ≠ .defer c) (a : Act) (w : World), wpList P ops Q os a w → wpListIn (Fence.wide.inRound l) n P ops Q os a w
  | [], _, _, _, h => h
  | o :: os, hd, a, w, h => by
    unfold wpList at h
    unfold wpListIn
    split
    · rename_i hw
      rw [if_pos hw] at h
      have h2 := h.resolve_right (fun h => hlo h.2)
      exact Oper.wpIn_mono (fun a w h => list_roundL hlo os (fun o ho => hd o (List.mem_cons_of_mem _ ho)) a w h) (op_round (hd o List.mem_cons_self) h2)
    · rename_i hw
      rw [if_neg hw] at h
      exact ⟨fun _ _ => trivial, list_roundL hlo os (fun o ho => hd o (List.mem_cons_of_mem _ ho)) _ w h⟩

/-- A region that draws no order, in a round: from the law outside. -/
theorem region_plain_round {P : Program} {l n id : Nat} {os : List Oper} {Q : Exit → Act → World → Prop} {a : Act} {w : World} (hd : os.all (fun o => match o.op with | .defer _ => false | _ => true) = true) (hlo : ¬ LetsOut Q)
    (h : wpList P os.toArray Q os a w) : (Code.region id os.toArray false).wpIn (Fence.wide.inRound l) n P Q a w :=
  wpIn_region_lit (list_roundL hlo os (fun o ho c hc => by
    have := List.all_eq_true.1 hd o ho
    rw [hc] at this
    cases this) a w h)

theorem wp_onlyL {P : Program} {c : Code} {K : Act → World → Prop} {Q : Exit → Act → World → Prop} {a : Act} {w : World} (h : c.wp P (Exit.then K (fun _ _ _ => False)) a w) : c.wp P (Exit.then K Q) a w :=
  Code.wp_mono (fun e a w h => by cases e <;> first | exact h | exact h.elim) h

end Go.Proofs.YtmniodfdoidffaaGreatDoor

namespace Go.Proofs.YtmniodfdoidffaaGreatDoor
open Go.RowKit Go.Shelf

attribute [local go_sem] Oper.semAt_some run_store_f

/-- The tilts of a list that are wanted. -/
def wantT (p : Int → Bool) (pre : List Tl) : List Int := (pre.map (·.1)).filter p

theorem wantT_hit (p : Int → Bool) (pre : List Tl) (x : Tl) (h : p x.1 = true) : wantT p (pre ++ [x]) = wantT p pre ++ [x.1] := by simp [wantT, h]

theorem wantT_miss (p : Int → Bool) (pre : List Tl) (x : Tl) (h : p x.1 = false) : wantT p (pre ++ [x]) = wantT p pre := by simp [wantT, h]

theorem wantT_len (p : Int → Bool) (pre : List Tl) : (wantT p pre).length ≤ pre.length := by
  have := List.length_filter_le p (pre.map (·.1))
  rw [List.length_map] at this
  exact this

theorem heap_keptW {W W' : World} {row : Option Nat} {b : Nat} {cs : Array Value} {t : TypeId} {fr : Nat × Nat} (h : W.heap[b]? = some (.cells cs t fr)) (hg : W.grownBy W' row)
    (hr : ∀ r, row = some r → ∃ o : Obj, W.heap[r]? = some o ∧ o.isCells = false) : W'.heap[b]? = some (.cells cs t fr) := by
  have hlt := (Array.getElem?_eq_some_iff.1 h).1
  rw [← h]
  refine hg.block b hlt fun e => ?_
  obtain ⟨o, ho, hc⟩ := hr b e.symm
  rw [h] at ho
  cases ho
  cases hc

theorem keeps_of_belowW {W W1 : World} (hb : Below W.heap.size W W1) : KeepsOthers W W1 := ⟨hb.size, fun b _ ho _ => (hb.block b (Array.getElem?_eq_some_iff.1 ho).1).trans ho⟩

theorem laid_allw (cs vs : Array Value) (h : cs.size = vs.size) : laid cs vs 0 = vs := by
  apply Array.ext'
  simp [laid]
  rw [← h]; simp

theorem blind_onew (n : Int) (wd gp : Nat) (t : Int) (sh : Nat) : ∀ v ∈ blindC n wd gp t sh, v.oneCell' = true := by
  intro v hv
  simp only [blindC, List.mem_toArray, List.mem_cons, List.not_mem_nil, or_false] at hv
  rcases hv with rfl | rfl | rfl | rfl | rfl <;> rfl

theorem not_rowW {W : World} {g : Nat} {cs : Array Value} {t e : TypeId} {fr : Nat × Nat} (h : W.heap[g]? = some (.cells cs t fr)) (hte : t ≠ e) {base size k : Nat} {v : Value} {xs : List Value} (hr : W.ownsRow base e size v k xs) : some g ≠ v.ownBlock := by
  rcases hr.2 with ⟨rfl, _⟩ | ⟨g', cap, cur, rfl, _, hgb, _⟩
  · simp [Value.ownBlock]
  · intro e'
    obtain rfl : g = g' := by simpa [Value.ownBlock] using e'
    rw [h] at hgb
    injection hgb with e1
    injection e1 with _ e2 _
    exact hte e2

theorem kept_append {W w1 : World} {g b3 base k : Nat} {cs : Array Value} {t e : TypeId} {fr : Nat × Nat} {v u : Value} {xs : List Value} {tmp : Obj} (h : W.heap[g]? = some (.cells cs t fr)) (hte : t ≠ e) (hr : W.ownsRow base e 1 v k xs)
    (hg : (W.alloc tmp).grownBy w1 v.ownBlock) (hne : g ≠ b3) : (w1.setCell ⟨b3, 0, none⟩ u).heap[g]? = some (.cells cs t fr) := by
  rw [heap_setCell_other _ _ _ _ hne]
  have h1 : (W.alloc tmp).heap[g]? = some (.cells cs t fr) := below_row ((Below.refl W.heap.size W).alloc (Nat.le_refl _) _) h
  exact (hg.block g (row_lt h1) (not_rowW h hte hr)).trans h1

theorem owns_below {W w1 : World} {base k : Nat} {e : TypeId} {v : Value} {xs : List Value} (h : W.ownsRow base e 1 v k xs) (hb : Below W.heap.size W w1) : w1.ownsRow base e 1 v k xs :=
  h.kept (grown_of_below hb none) (by cases v.ownBlock <;> simp)

theorem own_of_row {α : Type} {W : World} {base : Nat} {e : TypeId} {mk : α → Value} {v : Value} {xs : List α} (h : W.ownsRow base e 1 v xs.length (xs.map mk)) (_ : xs.length ≤ maxLen) : Own W base e mk v xs := by
  rcases h.2 with ⟨rfl, hz⟩ | ⟨g, cap, cur, rfl, hbg, hg, hnc, hcm, hsz, htk⟩
  · exact ⟨none, 0, by rw [hz], Nat.zero_le _, by omega, .inl ⟨rfl, List.eq_nil_of_length_eq_zero hz⟩⟩
  · refine ⟨_, cap, rfl, hcm, hnc, .inr ⟨g, cur, rfl, hbg, hg, fun k hk => ?_⟩⟩
    have h1 : (cur.toList.take (xs.length * 1))[k]? = cur[k]? := by
      rw [List.getElem?_take_of_lt (by omega), Array.getElem?_toList]
    rw [← h1, htk, List.getElem?_map]

/-- A list cut to its length, behind the turn of a block that is no cells. -/
theorem own_cut {α : Type} {W : World} {base g cap D : Nat} {e : TypeId} {mk : α → Value} {xs : List α} {o o' : Obj} (h : Own W base e mk (.slice (some ⟨g, 0, none⟩) xs.length cap) xs) (hD : W.heap[D]? = some o) (ho : o.isCells = false) :
    Own (W.putObj D o') base e mk (.slice (some ⟨g, 0, none⟩) xs.length xs.length) xs := by
  obtain ⟨a, c, h1, h2, h3, h4⟩ := h
  injection h1 with e1 e2 e3
  refine ⟨_, _, rfl, by omega, Nat.le_refl _, ?_⟩
  rcases h4 with ⟨ea, _⟩ | ⟨g', cur, ea, hb, hc, hk⟩
  · rw [ea] at e1; cases e1
  · rw [ea] at e1
    injection e1 with e1
    injection e1 with e1
    subst e1
    refine .inr ⟨g, cur, rfl, hb, ?_, hk⟩
    rw [World.putObj_heap_other ?_]
    · exact hc
    · rintro rfl
      rw [hc] at hD
      injection hD with hD
      subst hD
      cases ho

/-- What the walk over the tilts keeps: the tilts so far, what asks, the blind that the iterator holds. -/
def WhereI (n : Int) (wd gp : Nat) (t : Int) (sh : Nat) (p : Int → Bool) (w : World) (b1 b3 gb : Nat) (fv : Value) (pre : List Tl) (W : World) : Prop :=
  (∃ v, Boxed W b3 50 v ∧ W.ownsRow w.heap.size 2 1 v (wantT p pre).length ((wantT p pre).map (Value.int .i64)) ∧ True) ∧ Boxed W b1 104 fv ∧ W.heap[gb]? = some (.cells (blindC n wd gp t sh) 33 (0, 0)) ∧ Below w.heap.size w W

theorem whereI_own (n : Int) (wd gp : Nat) (t : Int) (sh : Nat) (p : Int → Bool) (w : World) (b1 b3 gb : Nat) (fv : Value) (B : Nat) (hB : w.heap.size ≤ B) : OwnFrom B (WhereI n wd gp t sh p w b1 b3 gb fv) := by
  intro s W W' row ⟨h1, h2, h3, h4⟩ hg' hr
  have hr2 := fun r e => (hr r e).2
  refine ⟨Go.holdsRow_own w.heap.size b3 50 2 1 (fun pre => (wantT p pre).length) (fun pre => (wantT p pre).map (Value.int .i64)) (fun _ _ => True) s W W' row h1 hg' hr2, ?_, ?_, ownFrom_below (β := Unit) (Nat.le_refl _) hB () W W' row h4 hg' hr⟩
  · exact boxed_own (β := Unit) b1 104 (fun _ => fv) () W W' row h2 hg' hr2
  · exact heap_keptW h3 hg' hr2

theorem infoW : (Tryz.prog.info? 2).map (fun i => (i.zero, i.size, i.bytes)) = some (some (.int .i64 0), 1, 8) := by kernel_rfl

set_option maxRecDepth 100000 in
set_option maxHeartbeats 1000000 in
theorem eachTilted_any (n : Int) (wd gp : Nat) (t : Int) (sh : Nat) (w : World) :
    Calls Tryz.prog 73 #[.agg (blindC n wd gp t sh)] w fun e w' => e = .returned (.func (.func 89) #[] #[.pointer (some ⟨w.heap.size, 0, none⟩)]) ∧ w' = w.alloc (.cells (blindC n wd gp t sh) 33) := by
  go_enter Tryz.func73, Tryz.ntmps73
  go_wp2
  go_ret
  exact ⟨rfl, rfl⟩

theorem eachTilted_stops (n : Int) (wd gp : Nat) (t : Int) (sh : Nat) (gb : Nat) (w : World) (hg : w.heap[gb]? = some (.cells (blindC n wd gp t sh) 33 (0, 0))) :
    SeqStopsK Fence.wide 3 Tryz.prog 89 #[.pointer (some ⟨gb, 0, none⟩)] (fun x : Tl => #[.agg (blindC n wd gp x.1 sh)]) (KeepsAt gb) (fun xs => xs = tls 129) (fun pre => ∃ k, k ≤ 129 ∧ pre = tls k) 129 w := fun l J Jx W hW hJ _ hY h0 =>
  eachTilted_in n wd gp t sh gb 1 l J Jx hY W hJ h0 (below_row hW hg)

set_option maxRecDepth 100000 in
set_option maxHeartbeats 2000000 in
theorem tiltsWhere_any (n : Int) (wd gp : Nat) (t : Int) (sh : Nat) (Fc : FuncId) (hE : ∀ args w, (callFunc Fc args).run Tryz.prog w = .ok (.enter Fc args) w) (lbw : Array Value) (p : Int → Bool) (C : World → Prop) (w : World) (hC : ∀ W, Below w.heap.size w W → C W)
    (hP : ∀ (x : Int) (W : World), -64 ≤ x → x ≤ 64 → C W → Calls Tryz.prog Fc (#[.agg (blindC n wd gp x sh)] ++ lbw) W fun e W' => e = .returned (.bool (p x)) ∧ Below W.heap.size W W') :
    Calls Tryz.prog 58 #[.agg (blindC n wd gp t sh), .func (.func Fc) #[] lbw] w fun e w' => (∃ v, e = .returned v ∧ Own w' w.heap.size 2 (Value.int .i64) v (wantT p (tls 129))) ∧ Below w.heap.size w w' := by
  refine (callsIn_wide (n := 4)).1 ?_
  obtain ⟨i0, hi, hz0, hz1, hz2⟩ := info_parts infoW
  have hmk : ∀ w, (Instr.makeSlice 50 (.int .i64 0) (.int .i64 129)).run Tryz.prog w = .ok (.slice (some ⟨w.heap.size, 0, none⟩) 0 129) (w.alloc (.cells (List.replicate 129 (.int .i64 0)).toArray 2)) := fun _ => by kernel_rfl
  refine callsIn_of_wp_marks Tryz.func58 rfl trivial ?_ rfl
  simp only [Tryz.ntmps58, List.size_toArray, List.length_cons, List.length_nil, Nat.reduceAdd, Nat.reduceSub, Array.replicate_succ, Array.replicate_zero, List.push_toArray, List.append_toArray, List.nil_append, List.cons_append]
  refine wpIn_wide.2 ?_
  go_upto_region 2 with (fail)
  refine abs_world (fun W => Below w.heap.size w W ∧ W.heap[w.heap.size]? = some (.cells (blindC n wd gp t sh) 33 (0, 0)) ∧ Boxed W (w.heap.size + 1) 104 (.func (.func Fc) #[] lbw) ∧ Boxed W (w.heap.size + 1 + 1 + 1) 50 (.slice (some ⟨w.heap.size + 1 + 1, 0, none⟩) 0 129) ∧ W.ownsRow w.heap.size 2 1 (.slice (some ⟨w.heap.size + 1 + 1, 0, none⟩) 0 129) 0 []) ⟨(four_new _ _ _ _ _).2.2.2.2, (four_new _ _ _ _ _).1, (four_new _ _ _ _ _).2.1, (four_new _ _ _ _ _).2.2.2.1, by simp, .inr ⟨_, _, _, rfl, by omega, (four_new _ _ _ _ _).2.2.1, by omega, by decide, rfl, by simp⟩⟩ ?_
  rintro W ⟨hb, h0, hF, hS, hrow⟩
  have hlt := row_lt hF
  have hlt3 := row_lt hS
  generalize hb3 : w.heap.size + 1 + 1 + 1 = b3 at *
  generalize hb2 : w.heap.size + 1 + 1 = b2 at *
  generalize hb1 : w.heap.size + 1 = b1 at *
  have H0 := Lib.hid h0
  clear h0
  go_wp2_with (first | (refine wpList_load_part rfl 33 _ rfl w.heap.size 0 5 rfl 33 (blindC n wd gp t sh) (0, 0) _ H0.out Tryz.underlying33 rfl info_blind (blind_fits _ _ _ _ _) _ (blind_all _ _ _ _ _) ?_) | (go_at_call 73; refine (eachTilted_any _ _ _ _ _ _).mono ?_; rintro e w' ⟨rfl, rfl⟩))
  refine (wpIn_wide (n := 4)).1 ?_
  have hgl : w.heap.size ≤ W.heap.size := hb.size
  refine wpIn_rangeFunc_ownH rfl (by decide) (gf := 89) (lb := #[.pointer (some ⟨W.heap.size, 0, none⟩)]) rfl trivial (enters_of Tryz.func89 (by kernel_rfl) rfl)
    (eachTilted_stops n wd gp t sh W.heap.size _ (heap_alloc_new _ _)) keepsAt_t (keepsAt_b (by simp)) (Below.refl _ _) (fun _ => rfl)
    (WhereI n wd gp t sh p w b1 b3 W.heap.size (.func (.func Fc) #[] lbw)) (fun _ _ _ => False) (whereI_own _ _ _ _ _ _ _ _ _ _ _ _ (by simp; omega)) (fun _ _ _ _ _ hs _ _ => hs) ?h0
    (fun x a' V => ∃ b6 : Nat, a' = { tmps := #[.agg (blindC n wd gp t sh), .func (.func Fc) #[] lbw, .pointer (some ⟨w.heap.size, 0, none⟩), .pointer (some ⟨b1, 0, none⟩), .slice none 0 0, .pointer (some ⟨b3, 0, none⟩), .pointer (some ⟨b6, 0, none⟩), .slice (some ⟨b2, 0, none⟩) 0 129, .agg (blindC n wd gp t sh), .func (.func 89) #[] #[.pointer (some ⟨W.heap.size, 0, none⟩)], .agg (blindC n wd gp x.1 sh), undef, undef, undef, undef, undef, undef, undef, undef, undef, undef, undef, undef, undef, undef, undef], defers := [] } ∧ V.heap[b6]? = some (.cells (blindC n wd gp x.1 sh) 33 (0, 0)))
    (fun x a' s V V' row hx hg hr => by obtain ⟨b6, e, h⟩ := hx; exact ⟨b6, e, heap_keptW h hg (fun r e => (hr r e).2)⟩) ?assign ?body ?done ?stop
  case h0 =>
    exact ⟨⟨_, hS.alloc _, hrow.alloc _, trivial⟩, hF.alloc _, heap_alloc_new _ _, hb.alloc hb.size _⟩
  case assign =>
    rintro l pre x W2 K hI hK
    refine region_plain_round (by rfl) (fun ⟨_, _, h⟩ => h) ?_
    go_wp2_with (refine wpList_store_part rfl 33 _ _ rfl _ 0 (blindC n wd gp x.1 sh) rfl rfl 33 _ (heap_alloc_new _ _) (by kernel_rfl) (Nat.le_refl _) (blind_onew _ _ _ _ _) ?_; rw [laid_allw _ _ (by rfl)])
    have hbn : ∀ o, Below W2.heap.size W2 ((W2.alloc o).setRow W2.heap.size (blindC n wd gp x.1 sh)) := fun o => below_setRow ((Below.refl _ _).alloc (Nat.le_refl _) _) (Nat.le_refl _) _
    exact hK _ _ ((keeps_of_belowW (hbn _)).from _) (fun _ ho => below_row (hbn _) ho) (whereI_own _ _ _ _ _ _ _ _ _ _ _ _ (Nat.le_refl _) _ _ _ none hI (grown_of_below (hbn _) none) (fun r e => by cases e)) ⟨_, rfl, setRow_heap _ _ _ _ _ _ (heap_alloc_new _ _)⟩
  case body =>
    rintro l pre ⟨x, hx0, hx1⟩ a' W2 hl0 hlr ⟨⟨v, hv, hrow2, _⟩, hF2, hG2, hbw⟩ ⟨b6, rfl, h6⟩ hl
    have HP := Lib.hid (hP x W2 hx0 hx1 (hC W2 hbw))
    have H6 := Lib.hid h6
    have cF := hF2.cell
    dsimp only
    cases hp : p x with
    | true =>
      rw [hp] at HP
      refine wpIn_block (wpIn_seq ?_)
      refine region_plain_round (by rfl) (fun ⟨_, _, h⟩ => h) ?_
      go_wp2_with (first | (refine wpList_load_part rfl 33 _ rfl b6 0 5 rfl 33 (blindC n wd gp x sh) (0, 0) _ H6.out Tryz.underlying33 rfl info_blind (blind_fits _ _ _ _ _) _ (blind_all _ _ _ _ _) ?_) | (refine HP.out.mono ?_; rintro e W3 ⟨rfl, hb3⟩))
      have hv3 : Boxed W3 b3 50 v := below_row hb3 hv
      have hrow3 := owns_below hrow2 hb3
      have h63 := below_row hb3 H6.out
      obtain ⟨k0, k1, k2, k3, k4⟩ := blind_cells h63
      have hG3 := below_row hb3 hG2
      have hF3 : W3.heap[b1]? = some (.cells #[.func (.func Fc) #[] lbw] 104 (0, 0)) := below_row hb3 hF2
      have hbw3 := hbw.trans (hb3.mono hbw.size)
      have hcv := hv3.cell
      have hwl := wantT_len p pre
      have hsz3 := hbw3.size
      have hk23 := keeps_of_belowW hb3
      have HX : Hid (wantT p (pre ++ [⟨x, hx0, hx1⟩]) = wantT p pre ++ [x]) := wantT_hit p pre ⟨x, hx0, hx1⟩ hp
      have HG3 := Lib.hid hG3
      have HF3 := Lib.hid hF3
      have HKA : Hid (KeepsAt W.heap.size W2 W3) := fun o ho => below_row hb3 ho
      clear h63 hG3 hF3 hG2 hF2 cF H6 h6 hp hv hrow2 hb3 HP
      gi_wp2_with (gi_at_builtin; refine wpListIn_append_own _ rfl _ _ 50 rfl w.heap.size 2 i0 (.int .i64 0) 1 8 Tryz.underlying50 hi hz0 hz1 hz2 rfl (by decide) _ _ _ rfl (hrow3.alloc _) ⟨W3.heap.size, 0, none⟩ 1 1 [.int .i64 x] rfl rfl (cell_one_new _ _ _) (by simp [Value.oneCell']) (by unfold maxLen; omega) (by omega) (by simp; omega) ?_; intro v' w1 hown' hgrow _; obtain ⟨g', cap', rfl⟩ := ownsRow_succ hown'; obtain ⟨hv1, hv2, hr2, hk2, hbA⟩ := hv3.appended (by decide) hrow3 hsz3 (by omega) hown' hgrow; have hc1 := hv1.cell; have hf1 := hv1.frozen)
      refine ⟨(hk23.trans hk2).from _, ?_, ⟨_, hv2, ?_, trivial⟩, ?_, ?_, hbw3.trans hbA⟩
      · intro o ho
        have ho3 := HKA.out o ho
        rw [HG3.out] at ho3
        injection ho3 with ho3
        subst ho3
        exact kept_append HG3.out (by decide) hrow3 hgrow (by omega)
      · rw [HX.out]; simpa using hr2
      · exact kept_append HF3.out (by decide) hrow3 hgrow (by omega)
      · exact kept_append HG3.out (by decide) hrow3 hgrow (by omega)
    | false =>
      rw [hp] at HP
      refine wpIn_block (wpIn_seq ?_)
      refine region_plain_round (by rfl) (fun ⟨_, _, h⟩ => h) ?_
      go_wp2_with (first | (refine wpList_load_part rfl 33 _ rfl b6 0 5 rfl 33 (blindC n wd gp x sh) (0, 0) _ H6.out Tryz.underlying33 rfl info_blind (blind_fits _ _ _ _ _) _ (blind_all _ _ _ _ _) ?_) | (refine HP.out.mono ?_; rintro e W3 ⟨rfl, hb3⟩))
      have hwl : wantT p (pre ++ [⟨x, hx0, hx1⟩]) = wantT p pre := wantT_miss p pre ⟨x, hx0, hx1⟩ hp
      gi_wp2
      exact ⟨(keeps_of_belowW hb3).from _, fun o ho => below_row hb3 ho, ⟨v, below_row hb3 hv, by rw [hwl]; exact owns_below hrow2 hb3, trivial⟩, below_row hb3 hF2, below_row hb3 hG2, hbw.trans (hb3.mono hbw.size)⟩
  case done =>
    rintro D zs W2 hD rfl ⟨⟨v, hv, hrow2, -⟩, hF2, hG2, hbw⟩ hK
    rename_i K hcont
    have hcv := hv.cell
    have hD' : w.heap.size ≤ D := by simp at hD; omega
    have hwl := wantT_len p (tls 129)
    rw [tls_length] at hwl
    have HK := Lib.hid hK
    have HB := Lib.hid hbw
    have HO : Hid (Own W2 w.heap.size 2 (Value.int .i64) v (wantT p (tls 129))) := own_of_row hrow2 (by unfold maxLen; omega)
    clear hF2 hG2 hbw hv hK
    rcases hrow2.2 with ⟨rfl, hz⟩ | ⟨g, cap, cur, rfl, hbg, hg, hnc, hcm, hsz, htk⟩
    · refine hcont _ _ ?_
      go_wp2
      refine ⟨by simp, .inl ⟨_, _, rfl, run_takeDeferred HK.out, ?_⟩⟩
      refine ⟨_, results_tmp (fn := Tryz.f58) rfl _ _ _, ⟨_, rfl, ?_⟩, HB.out.trans (belowK_b (w := w) (Nat.le_refl _) W2 D _ _ hD' HK.out rfl rfl)⟩
      show Own _ _ _ _ (.slice none 0 0) _
      exact ⟨none, 0, by rw [hz], Nat.zero_le _, by omega, .inl ⟨rfl, List.eq_nil_of_length_eq_zero hz⟩⟩
    · have z0 : ((wantT p (tls 129)).length : Int) ≤ (cap : Int) := by omega
      have z1 : (0 : Int) ≤ ((wantT p (tls 129)).length : Int) := by omega
      have HG := Lib.hid hg
      clear hg htk
      refine hcont _ _ ?_
      go_wp2
      refine ⟨by simp, .inl ⟨_, _, rfl, run_takeDeferred HK.out, ?_⟩⟩
      refine ⟨_, results_tmp (fn := Tryz.f58) rfl _ _ _, ⟨_, rfl, ?_⟩, HB.out.trans (belowK_b (w := w) (Nat.le_refl _) W2 D _ _ hD' HK.out rfl rfl)⟩
      exact own_cut HO.out HK.out rfl
  case stop =>
    rintro D c pre W _ _ h _
    exact h.elim

end Go.Proofs.YtmniodfdoidffaaGreatDoor

namespace Go.Proofs.YtmniodfdoidffaaGreatDoor
open Go.RowKit

/-- The block of a list lies below B, or from B on. -/
def Under (v : Value) (B : Nat) : Prop := ∀ g n c, v = .slice (some ⟨g, 0, none⟩) n c → g < B

def Above (v : Value) (B : Nat) : Prop := ∀ g n c, v = .slice (some ⟨g, 0, none⟩) n c → B ≤ g

theorem under_of {α : Type} {w : World} {b : Nat} {E : TypeId} {mk : α → Value} {v : Value} {xs : List α} (h : Own w b E mk v xs) : Under v w.heap.size := by
  obtain ⟨a, c, rfl, _, _, h4⟩ := h
  intro g n c' e
  injection e with e1 e2 e3
  rcases h4 with ⟨ea, _⟩ | ⟨g', cur, ea, _, hc, _⟩
  · rw [ea] at e1; cases e1
  · rw [ea] at e1
    injection e1 with e1
    injection e1 with e1
    subst e1
    exact row_lt hc

theorem above_of {α : Type} {w : World} {b : Nat} {E : TypeId} {mk : α → Value} {v : Value} {xs : List α} (h : Own w b E mk v xs) : Above v b := by
  obtain ⟨a, c, rfl, _, _, h4⟩ := h
  intro g n c' e
  injection e with e1 e2 e3
  rcases h4 with ⟨ea, _⟩ | ⟨g', cur, ea, hb, hc, _⟩
  · rw [ea] at e1; cases e1
  · rw [ea] at e1
    injection e1 with e1
    injection e1 with e1
    subst e1
    exact hb

theorem under_mono {v : Value} {B C : Nat} (h : Under v B) (hBC : B ≤ C) : Under v C := fun g n c e => Nat.lt_of_lt_of_le (h g n c e) hBC

/-- A list is as it was, when another one has been written into. -/
theorem own_marked {α : Type} {w w' : World} {b B : Nat} {E : TypeId} {mk : α → Value} {v v1 : Value} {xs : List α} {m : Int} {n : Nat} {e : Ending} {E1 : TypeId} (h : Own w b E mk v xs) (hu : Under v B) (ha : Above v1 B) (hm : Marked w E1 B v1 m n e w') : Own w' b E mk v xs := by
  obtain ⟨a, c, rfl, h2, h3, h4⟩ := h
  refine ⟨a, c, rfl, h2, h3, h4.imp id ?_⟩
  rintro ⟨g, cur, rfl, hg, hc, hk⟩
  refine ⟨g, cur, rfl, hg, hm.2.2.2 g _ hc ?_, hk⟩
  intro g' n' c' e'
  have h5 := hu g _ _ rfl
  have h6 := ha g' _ _ e'
  omega

theorem row_marked {w w' : World} {B g : Nat} {v1 : Value} {m : Int} {n : Nat} {e : Ending} {E1 : TypeId} {o : Obj} (h : w.heap[g]? = some o) (hg : g < B) (ha : Above v1 B) (hm : Marked w E1 B v1 m n e w') : w'.heap[g]? = some o := by
  refine hm.2.2.2 g o h ?_
  intro g' n' c' e'
  have h6 := ha g' _ _ e'
  omega

/-- A list and a code, the list being the call's own. -/
def RetList (xs : List Int) (c : Int) (w : World) (e : Ending) (w' : World) : Prop := (∃ v, e = .returned (.tuple #[v, .int .i64 c]) ∧ Own w' w.heap.size 2 (Value.int .i64) v xs) ∧ Below w.heap.size w w'

end Go.Proofs.YtmniodfdoidffaaGreatDoor

namespace Go.Proofs.YtmniodfdoidffaaGreatDoor
open Go.ChangeShapes Go.WideShapes Go.ChangeAt Go.RowKit Go.Deep Go.Joins

attribute [local go_sem] run_store_f

set_option maxRecDepth 100000 in
set_option maxHeartbeats 2000000 in
theorem tiltsAt_call (hs ts : List Int) (hh : hs.length = 24) (ht : ts.length = 24) (fc : Int) (lo hi : Nat) (n : Int) (wd gp : Nat) (t : Int) (sh : Nat) (ok : BlOk n wd gp t sh) (hour x : Int) (k : HrOk hs ts hour fc) (x0 : -64 ≤ x) (x1 : x ≤ 64) (g1 g2 : Nat) (w : World) (c1 : w.heap[g1]? = some (.cells (dayC hs ts fc lo hi n wd gp t sh) 66 (0, 0))) (c2 : w.heap[g2]? = some (.cells #[.int .i64 hour] 2 (0, 0))) :
    Calls Tryz.prog 59 #[.agg (blindC n wd gp x sh), .pointer (some ⟨g1, 0, none⟩), .pointer (some ⟨g2, 0, none⟩)] w fun e w' => e = .returned (.bool (kpB hs ts fc lo hi wd gp sh hour x)) ∧ Below w.heap.size w w' := by
  have HK := Lib.hid (fun w => keeps_any hs ts hh ht fc lo hi n wd gp t sh ok hour x k x0 x1 w)
  have Hh := Lib.hid hh
  have Ht := Lib.hid ht
  have C1 := Lib.hid c1
  have C2 := Lib.hid c2
  clear ok k c1 c2 hh ht
  generalize kpB hs ts fc lo hi wd gp sh hour x = kb at *
  go_enter Tryz.func59, Tryz.ntmps59
  go_upto_region 1 with (fail)
  refine abs_code (fun W => W.heap[w.heap.size]? = some (.cells (blindC n wd gp x sh) 33 (0, 0)) ∧ W.heap[g1]? = some (.cells (dayC hs ts fc lo hi n wd gp t sh) 66 (0, 0)) ∧ W.heap[g2]? = some (.cells #[.int .i64 hour] 2 (0, 0)) ∧ Below w.heap.size w W) ⟨heap_alloc_new _ _, below_row ((Below.refl _ _).alloc (Nat.le_refl _) _) C1.out, below_row ((Below.refl _ _).alloc (Nat.le_refl _) _) C2.out, (Below.refl _ _).alloc (Nat.le_refl _) _⟩ ?_
  clear C1 C2
  rintro W ⟨h0, h1, h2, hb⟩
  obtain ⟨k0, k1, k2, k3, k4⟩ := blind_cells h0
  have q2 : W.cell? ⟨g2, 0, none⟩ = some (.int .i64 hour) := by rw [cell_of_row W _ _ _ _ _ h2]; rfl
  have H1 := Lib.hid h1
  clear h0 h1 h2 k0 k1 k2 k4
  go_wp2_with (first | (refine wpList_load_part rfl 66 _ rfl g1 0 56 rfl 66 (dayC hs ts fc lo hi n wd gp t sh) (0, 0) _ H1.out Tryz.underlying66 rfl info_dy (dy_fits 56 (by decide) hs ts Hh.out Ht.out fc lo hi n wd gp t sh) _ (dy_all hs ts Hh.out Ht.out fc lo hi n wd gp t sh) ?_) | (go_at_call 60; refine (HK.out _).mono ?_; rintro e W9 ⟨rfl, hb1⟩; replace hb := hb.trans (hb1.mono hb.size); clear hb1))
  go_ret
  exact ⟨rfl, hb⟩

theorem two_newQ (w : World) (a b : Obj) : ((w.alloc a).alloc b).heap[w.heap.size]? = some a ∧ ((w.alloc a).alloc b).heap[w.heap.size + 1]? = some b ∧ Below w.heap.size w ((w.alloc a).alloc b) := by
  have hb : Below w.heap.size w (w.alloc a) := (Below.refl _ _).alloc (Nat.le_refl _) _
  refine ⟨below_row ((Below.refl (w.alloc a).heap.size _).alloc (Nat.le_refl _) b) (heap_alloc_new w a), ?_, hb.alloc hb.size _⟩
  have := heap_alloc_new (w.alloc a) b
  rwa [World.size_alloc] at this

set_option maxRecDepth 100000 in
set_option maxHeartbeats 2000000 in
theorem dayTilts_any (hs ts : List Int) (hh : hs.length = 24) (ht : ts.length = 24) (fc : Int) (lo hi : Nat) (n : Int) (wd gp : Nat) (t : Int) (sh : Nat) (ok : BlOk n wd gp t sh) (hour : Int) (k : HrOk hs ts hour fc) (w : World) :
    Calls Tryz.prog 42 #[.agg (dayC hs ts fc lo hi n wd gp t sh), .int .i64 hour] w fun e w' => (∃ v, e = .returned v ∧ Own w' w.heap.size 2 (Value.int .i64) v (wantT (kpB hs ts fc lo hi wd gp sh hour) (tls 129))) ∧ Below w.heap.size w w' := by
  have HW : Hid (∀ (g1 g2 : Nat) (W : World), W.heap[g1]? = some (.cells (dayC hs ts fc lo hi n wd gp t sh) 66 (0, 0)) → W.heap[g2]? = some (.cells #[.int .i64 hour] 2 (0, 0)) → Calls Tryz.prog 58 #[.agg (blindC n wd gp t sh), .func (.func 59) #[] #[.pointer (some ⟨g1, 0, none⟩), .pointer (some ⟨g2, 0, none⟩)]] W fun e w' => (∃ v, e = .returned v ∧ Own w' W.heap.size 2 (Value.int .i64) v (wantT (kpB hs ts fc lo hi wd gp sh hour) (tls 129))) ∧ Below W.heap.size W w') := by
    intro g1 g2 W q1 q2
    exact tiltsWhere_any n wd gp t sh 59 (enters_of Tryz.func59 (by kernel_rfl) rfl) #[.pointer (some ⟨g1, 0, none⟩), .pointer (some ⟨g2, 0, none⟩)] (kpB hs ts fc lo hi wd gp sh hour) (fun V => V.heap[g1]? = some (.cells (dayC hs ts fc lo hi n wd gp t sh) 66 (0, 0)) ∧ V.heap[g2]? = some (.cells #[.int .i64 hour] 2 (0, 0))) W (fun V hV => ⟨below_row hV q1, below_row hV q2⟩)
      (fun x V x0 x1 hV => tiltsAt_call hs ts hh ht fc lo hi n wd gp t sh ok hour x k x0 x1 g1 g2 V hV.1 hV.2)
  have Hh := Lib.hid hh
  have Ht := Lib.hid ht
  clear ok k hh ht
  generalize kpB hs ts fc lo hi wd gp sh hour = P at *
  go_enter Tryz.func42, Tryz.ntmps42
  go_upto_region 1 with (fail)
  refine abs_code (fun W => W.heap[w.heap.size]? = some (.cells (dayC hs ts fc lo hi n wd gp t sh) 66 (0, 0)) ∧ W.heap[w.heap.size + 1]? = some (.cells #[.int .i64 hour] 2 (0, 0)) ∧ Below w.heap.size w W) ⟨(two_newQ _ _ _).1, (two_newQ _ _ _).2.1, (two_newQ _ _ _).2.2⟩ ?_
  rintro W ⟨h0, h1, hb⟩
  generalize w.heap.size + 1 = b1 at *
  have H0 := Lib.hid h0
  have H1 := Lib.hid h1
  clear h0 h1
  go_wp2_with (first | (refine wpList_load_part rfl 33 _ rfl w.heap.size 51 5 rfl 66 (dayC hs ts fc lo hi n wd gp t sh) (0, 0) _ H0.out Tryz.underlying33 rfl info_blind (dy_fits 56 (by decide) hs ts Hh.out Ht.out fc lo hi n wd gp t sh) _ (dy_bl hs ts Hh.out Ht.out fc lo hi n wd gp t sh) ?_) | (go_at_call 58; refine (HW.out _ _ _ H0.out H1.out).mono ?_; rintro e W9 ⟨⟨v, rfl, hv⟩, hb1⟩))
  go_ret
  exact ⟨⟨_, rfl, own_below hv (Below.refl _ _) hb.size⟩, hb.trans (hb1.mono hb.size)⟩

theorem row_baseQ {W : World} {base k : Nat} {e : TypeId} {v : Value} {xs : List Value} (h : W.ownsRow base e 1 v k xs) : ∀ j, v.ownBlock = some j → base ≤ j := fun j e => (h.lt j e).1

set_option maxRecDepth 100000 in
set_option maxHeartbeats 2000000 in
theorem l07Tilts_any (n : Int) (wd gp : Nat) (t : Int) (sh : Nat) (hs ts : List Int) (hh : hs.length = 24) (ht : ts.length = 24) (ok : BlOk n wd gp t sh) (fc hour : Int) (kk : HrOk hs ts hour fc) (lo hi : Nat) (hlo : fin32 lo = true) (hhi : fin32 hi = true) (g1 g2 : Nat) (w : World) (q1 : w.heap[g1]? = some (.cells (blindC n wd gp t sh) 33 (0, 0))) (q2 : w.heap[g2]? = some (.cells (sunC hs ts) 35 (0, 0))) :
    Calls Tryz.prog 16 #[.pointer (some ⟨g1, 0, none⟩), .pointer (some ⟨g2, 0, none⟩), .int .i64 fc, .int .i64 hour, .float .f32 lo, .float .f32 hi] w fun e w' => (∃ v, e = .returned v ∧ Own w' w.heap.size 2 (Value.int .i64) v (wantT (kpB hs ts fc lo hi wd gp sh hour) (tls 129))) ∧ Below w.heap.size w w' := by
  obtain ⟨i0, hin, hz0, hz1, hz2⟩ := info_parts infoW
  have HO := Lib.hid (fun (x : Int) (x0 : -64 ≤ x) (x1 : x ≤ 64) W q1 q2 => l07Within_any n wd gp t sh hs ts hh ht ok fc hour x kk x0 x1 lo hi hlo hhi g1 g2 W q1 q2)
  have Q1 := Lib.hid q1
  have Q2 := Lib.hid q2
  clear ok kk hlo hhi hh ht q1 q2
  generalize kpB hs ts fc lo hi wd gp sh hour = P at *
  go_enter Tryz.func16, Tryz.ntmps16
  go_wp2
  have hrow0 : (w.alloc (.cells #[] 2)).ownsRow w.heap.size 2 1 (.slice (some ⟨w.heap.size, 0, none⟩) 0 0) 0 [] := World.ownsRow_made _ _ _ (Nat.le_refl _) (Nat.zero_le _) rfl
  go_loopw [13, 14] (fun o i wr => ∃ (vo : Value) (k : Nat), vo = o ∧ k ≤ 129 ∧ i = .int .i64 ((k : Int) - 64) ∧ wr.ownsRow w.heap.size 2 1 o (wantT P (tls k)).length ((wantT P (tls k)).map (Value.int .i64)) ∧ Below w.heap.size w wr) (fun _ i _ => (65 - intOf i).toNat)
  case atStart => exact ⟨_, 0, rfl, Nat.zero_le _, rfl, hrow0, (Below.refl _ _).alloc (Nat.le_refl _) _⟩
  case round =>
    clear hrow0
    obtain ⟨vo, k, rfl, hk, rfl, hrow, hb⟩ := hrel
    have hwl := wantT_len P (tls k)
    rw [tls_length] at hwl
    by_cases hlt : k < 129
    · have z0 : (-64 : Int) ≤ (k : Int) - 64 := by omega
      have z1 : (k : Int) - 64 ≤ 64 := by omega
      have HX := Lib.hid (HO.out ((k : Int) - 64) z0 z1)
      have hsz := hb.size
      cases hI : P ((k : Int) - 64) with
      | true =>
        have HN : Hid (wantT P (tls (k + 1)) = wantT P (tls k) ++ [(k : Int) - 64]) := by
          unfold Hid; rw [tls_succ, wantT_hit _ _ _ (by rw [tl_val k hlt]; exact hI), tl_val k hlt]
        rw [hI] at HX
        clear hI
        go_wp2_with (first | (go_at_call 36; refine (HX.out _ (below_row hb Q1.out) (below_row hb Q2.out)).mono ?_; rintro e W3 ⟨rfl, hb3⟩; have hrow3 := owns_below hrow hb3; have hbw3 := hb.trans (hb3.mono hb.size); have hsz3 := hbw3.size) | (at_builtin; refine wpList_append_own _ rfl _ _ 50 rfl w.heap.size 2 i0 (.int .i64 0) 1 8 Tryz.underlying50 hin hz0 hz1 hz2 rfl (by decide) _ _ _ rfl (hrow3.alloc _) ⟨W3.heap.size, 0, none⟩ 1 1 [.int .i64 ((k : Int) - 64)] rfl rfl (cell_one_new _ _ _) (by simp [Value.oneCell']) (by unfold maxLen; omega) (by omega) (by simp; omega) ?_; intro v' w1 hown' hgrow _))
        go_roundw
        case rel => exact ⟨_, k + 1, rfl, by omega, by simp; omega, by rw [HN.out]; simpa using hown', (hbw3.alloc (by omega) _).grown hgrow (by simp; omega) (row_baseQ hrow3)⟩
        case measure => simp [intOf]; omega
      | false =>
        have HN : Hid (wantT P (tls (k + 1)) = wantT P (tls k)) := by
          unfold Hid; rw [tls_succ]; exact wantT_miss _ _ _ (by rw [tl_val k hlt]; exact hI)
        rw [hI] at HX
        clear hI
        go_wp2_with (go_at_call 36; refine (HX.out _ (below_row hb Q1.out) (below_row hb Q2.out)).mono ?_; rintro e W3 ⟨rfl, hb3⟩; have hrow3 := owns_below hrow hb3; have hbw3 := hb.trans (hb3.mono hb.size); have hsz3 := hbw3.size)
        go_roundw
        case rel => exact ⟨_, k + 1, rfl, by omega, by simp; omega, by rw [HN.out]; exact hrow3, hbw3⟩
        case measure => simp [intOf]; omega
    · obtain rfl : k = 129 := by omega
      have HR2 : Hid (Own wr w.heap.size 2 (Value.int .i64) vo (wantT P (tls 129))) := own_of_row hrow (by unfold maxLen; omega)
      clear hrow
      go_wp2
      go_ret
      exact ⟨⟨_, rfl, HR2.out⟩, hb⟩

end Go.Proofs.YtmniodfdoidffaaGreatDoor

namespace Go.Proofs.YtmniodfdoidffaaGreatDoor
open Go.RowKit Go.Shelf

attribute [local go_sem] Oper.semAt_some run_store_float

def FallI (w : World) (hs ts : List Int) (facing : Int) (g : Nat → Nat) (pre : List Hr) (W : World) : Prop :=
  ∃ s : Nat, pos32 s = true ∧ W.heap[w.heap.size]? = some (.cells (sunC hs ts) 35 (0, 0)) ∧ W.heap[w.heap.size + 1]? = some (.cells #[.int .i64 facing] 2 (0, 0)) ∧ W.heap[w.heap.size + 1 + 1]? = some (.cells #[.float .f32 s] 23 (0, 0)) ∧ (Good pre → s = sumTo g pre.length) ∧ Below w.heap.size w W

theorem fallI_own (w : World) (hs ts : List Int) (facing : Int) (g : Nat → Nat) (B : Nat) (hB : w.heap.size ≤ B) : OwnFrom B (FallI w hs ts facing g) := by
  intro s W W' row ⟨x, hx, h0, h1, h2, hg, hb⟩ hg' hr
  have hr2 := fun r e => (hr r e).2
  exact ⟨x, hx, heap_kept h0 hg' hr2, heap_kept h1 hg' hr2, heap_kept h2 hg' hr2, hg, ownFrom_below (β := Unit) (Nat.le_refl _) hB () W W' row hb hg' hr⟩

theorem fall_step {w W W1 : World} {hs ts : List Int} {facing : Int} {g : Nat → Nat} {pre : List Hr} {k : Nat} {h01 : 0 ≤ (k : Int) ∧ (k : Int) < 24} {s : Nat} (hl : pre.length < 24) (hs0 : pos32 s = true) (hg0 : pos32 (g k) = true)
    (hgood : Good pre → s = sumTo g pre.length) (hk : KeepsOthers W W1) (hbW : Below w.heap.size W W1) (hH : W1.heap[w.heap.size]? = some (.cells (sunC hs ts) 35 (0, 0))) (hF : W1.heap[w.heap.size + 1]? = some (.cells #[.int .i64 facing] 2 (0, 0))) (hS : W1.heap[w.heap.size + 1 + 1]? = some (.cells #[.float .f32 s] 23 (0, 0))) (hb : Below w.heap.size w W1) :
    KeepsOthers W (W1.setCell ⟨w.heap.size + 1 + 1, 0, none⟩ (.float .f32 (fadd s (g k)))) ∧ Below w.heap.size W (W1.setCell ⟨w.heap.size + 1 + 1, 0, none⟩ (.float .f32 (fadd s (g k)))) ∧ FallI w hs ts facing g (pre ++ [⟨k, h01⟩]) (W1.setCell ⟨w.heap.size + 1 + 1, 0, none⟩ (.float .f32 (fadd s (g k)))) := by
  refine ⟨hk.trans (KeepsOthers.setCell _ _ _), hbW.setCell (p := ⟨w.heap.size + 1 + 1, 0, none⟩) (by simp; omega) _, fadd s (g k), (add_ok hs0 hg0).2, ?_, ?_, ?_, ?_, hb.setCell (p := ⟨w.heap.size + 1 + 1, 0, none⟩) (by simp; omega) _⟩
  · rw [heap_setCell_other _ _ _ _ (by simp; omega)]; exact hH
  · rw [heap_setCell_other _ _ _ _ (by simp)]; exact hF
  · rw [heap_setCell_same _ _ _ _ _ _ hS]; rfl
  · intro hgs
    obtain ⟨hgp, hxk⟩ := good_snoc hgs hl
    have hkl : k = pre.length := by have : (k : Int) = (pre.length : Int) := hxk; omega
    rw [List.length_append, List.length_singleton, sumTo_succ, ← hgood hgp, hkl]

end Go.Proofs.YtmniodfdoidffaaGreatDoor

namespace Go.Proofs.YtmniodfdoidffaaGreatDoor
open Go.ChangeShapes Go.WideShapes Go.ChangeAt Go.RowKit

/-- The light on a window of a day. -/
def dayOf (hs ts : List Int) (facing : Int) : Nat := sumTo (fun h => fallOf hs ts (h : Int) facing) 24
theorem dayOf_pos (hs ts : List Int) (facing : Int) : pos32 (dayOf hs ts facing) = true := sumTo_pos _ 24 (fun _ _ => fallB_pos _ _) 24 (Nat.le_refl _)

theorem dayOf_eq (hs ts : List Int) (facing : Int) : sumTo (fun h => fallOf hs ts (h : Int) facing) 24 = dayOf hs ts facing := rfl

end Go.Proofs.YtmniodfdoidffaaGreatDoor

namespace Go.Proofs.YtmniodfdoidffaaGreatDoor
open Go.ChangeShapes Go.WideShapes Go.ChangeAt Go.RowKit

/-- The first of the greatest, and where it is; what is not above 0 is never it. -/
def bestTo (g : Nat → Nat) : Nat → Nat × Nat
  | 0 => (0, 0)
  | k + 1 => if FloatKind.f32.format.order (g k) (bestTo g k).2 = some .gt then (k, g k) else bestTo g k

theorem bestTo_gt {g : Nat → Nat} {k : Nat} (h : FloatKind.f32.format.order (g k) (bestTo g k).2 = some .gt) : bestTo g (k + 1) = (k, g k) := if_pos h
theorem bestTo_no {g : Nat → Nat} {k : Nat} {o : Ordering} (h : FloatKind.f32.format.order (g k) (bestTo g k).2 = some o) (ho : o ≠ .gt) : bestTo g (k + 1) = bestTo g k := by
  show (if FloatKind.f32.format.order (g k) (bestTo g k).2 = some .gt then (k, g k) else bestTo g k) = bestTo g k
  exact if_neg (fun e => ho (by rw [h] at e; injection e))
theorem bestTo_pos {g : Nat → Nat} (hg : ∀ k, pos32 (g k) = true) : ∀ k, pos32 (bestTo g k).2 = true
  | 0 => by unfold bestTo; decide
  | k + 1 => by
    unfold bestTo
    split
    · exact hg k
    · exact bestTo_pos hg k
theorem bestTo_one {g : Nat → Nat} (h : g 0 = 0 ∨ FloatKind.f32.format.order (g 0) 0 = some .gt) : bestTo g 1 = (0, g 0) := by
  rcases h with h | h
  · unfold bestTo
    split
    · rfl
    · unfold bestTo; rw [h]
  · exact bestTo_gt (g := g) (k := 0) h
theorem litB_zero_or (l : Nat) : litB l = 0 ∨ FloatKind.f32.format.order (litB l) 0 = some .gt := by
  by_cases h : FloatKind.f32.format.order l 0 = some .gt
  · right; rw [litB_gt h]; exact h
  · left; exact if_neg h
theorem fallB_zero_or (x d : Int) : fallB x d = 0 ∨ FloatKind.f32.format.order (fallB x d) 0 = some .gt := by
  unfold fallB
  split
  · exact litB_zero_or _
  · exact .inl rfl
theorem best_pos (hs ts : List Int) (facing : Int) (k : Nat) : pos32 (bestTo (fun h => fallOf hs ts (h : Int) facing) k).2 = true := bestTo_pos (fun _ => fallB_pos _ _) k
theorem best_order (hs ts : List Int) (facing : Int) (k : Nat) : ∃ o, FloatKind.f32.format.order (fallOf hs ts (k : Int) facing) (bestTo (fun h => fallOf hs ts (h : Int) facing) k).2 = some o :=
  order_some (pos_fin (fallB_pos _ _)) (pos_fin (best_pos hs ts facing k))

end Go.Proofs.YtmniodfdoidffaaGreatDoor

namespace Go.Proofs.YtmniodfdoidffaaGreatDoor
open Go.RowKit Go.Shelf

attribute [local go_sem] Oper.semAt_some run_store_float

theorem list_round {P : Program} {l n : Nat} {ops : Array Oper} {Q : Exit → Act → World → Prop} (hlo : ¬ LetsOut Q) :
    ∀ (os : List Oper) (_ : ∀ o ∈ os, ∀ c, o.op ≠ .defer c) (a : Act) (w : World), wpList P ops Q os a w → wpListIn (Fence.wide.inRound l) n P ops Q os a w
  | [], _, _, _, h => h
  | o :: os, hd, a, w, h => by
    unfold wpList at h
    unfold wpListIn
    split
    · rename_i hw
      rw [if_pos hw] at h
      have h2 := h.resolve_right (fun h => hlo h.2)
      exact Oper.wpIn_mono (fun a w h => list_round hlo os (fun o ho => hd o (List.mem_cons_of_mem _ ho)) a w h) (op_round (hd o List.mem_cons_self) h2)
    · rename_i hw
      rw [if_neg hw] at h
      exact ⟨fun _ _ => trivial, list_round hlo os (fun o ho => hd o (List.mem_cons_of_mem _ ho)) _ w h⟩

/-- A region that draws no order, in a round: from the law outside. -/
theorem region_list_round {P : Program} {l n id : Nat} {os : List Oper} {Q : Exit → Act → World → Prop} {a : Act} {w : World} (hd : os.all (fun o => match o.op with | .defer _ => false | _ => true) = true) (hlo : ¬ LetsOut Q)
    (h : wpList P os.toArray Q os a w) : (Code.region id os.toArray false).wpIn (Fence.wide.inRound l) n P Q a w :=
  wpIn_region_lit (list_round hlo os (fun o ho c hc => by
    have := List.all_eq_true.1 hd o ho
    rw [hc] at this
    cases this) a w h)

theorem wp_only {P : Program} {c : Code} {K : Act → World → Prop} {Q : Exit → Act → World → Prop} {a : Act} {w : World} (h : c.wp P (Exit.then K (fun _ _ _ => False)) a w) : c.wp P (Exit.then K Q) a w :=
  Code.wp_mono (fun e a w h => by cases e <;> first | exact h | exact h.elim) h

/-- What the walk over the hours keeps: the sun, the facing, the best so far, whatever lay before. -/
def BestI (w : World) (hs ts : List Int) (facing : Int) (sb : Nat) (g : Nat → Nat) (pre : List Hr) (W : World) : Prop :=
  ∃ b s : Nat, pos32 s = true ∧ W.heap[w.heap.size]? = some (.cells (sunC hs ts) 35 (0, 0)) ∧ W.heap[w.heap.size + 1]? = some (.cells #[.int .i64 facing] 2 (0, 0)) ∧ W.heap[sb]? = some (.cells #[.int .i64 (b : Int)] 2 (0, 0)) ∧ W.heap[sb + 1]? = some (.cells #[.float .f32 s] 23 (0, 0)) ∧ (Good pre → bestTo g pre.length = (b, s)) ∧ Below w.heap.size w W

theorem bestI_own (w : World) (hs ts : List Int) (facing : Int) (sb : Nat) (g : Nat → Nat) (B : Nat) (hB : w.heap.size ≤ B) : OwnFrom B (BestI w hs ts facing sb g) := by
  intro s W W' row ⟨x, y, hx, h0, h1, h2, h3, hg, hb⟩ hg' hr
  have hr2 := fun r e => (hr r e).2
  exact ⟨x, y, hx, heap_kept h0 hg' hr2, heap_kept h1 hg' hr2, heap_kept h2 hg' hr2, heap_kept h3 hg' hr2, hg, ownFrom_below (β := Unit) (Nat.le_refl _) hB () W W' row hb hg' hr⟩

theorem best_snoc {g : Nat → Nat} {pre : List Hr} {k : Nat} {h01 : 0 ≤ (k : Int) ∧ (k : Int) < 24} {bs bs' : Nat × Nat} (hl : pre.length < 24) (hgood : Good pre → bestTo g pre.length = bs) (hn : bestTo g k = bs → bestTo g (k + 1) = bs') (hgs : Good (pre ++ [⟨k, h01⟩])) :
    bestTo g (pre ++ [(⟨k, h01⟩ : Hr)]).length = bs' := by
  obtain ⟨hgp, hxk⟩ := good_snoc hgs hl
  have hkl : k = pre.length := by have : (k : Int) = (pre.length : Int) := hxk; omega
  rw [List.length_append, List.length_singleton, ← hkl]
  exact hn (by rw [hkl]; exact hgood hgp)

theorem best_keep {w W W2 : World} {hs ts : List Int} {facing : Int} {sb : Nat} {g : Nat → Nat} {pre : List Hr} {k : Nat} {h01 : 0 ≤ (k : Int) ∧ (k : Int) < 24} {b s : Nat} {o : Ordering} (hl : pre.length < 24) (hs0 : pos32 s = true)
    (ho : FloatKind.f32.format.order (g k) s = some o) (hgt : o ≠ .gt)
    (hgood : Good pre → bestTo g pre.length = (b, s)) (hk : KeepsOthers W W2) (hbW : Below w.heap.size W W2) (hH : W2.heap[w.heap.size]? = some (.cells (sunC hs ts) 35 (0, 0))) (hF : W2.heap[w.heap.size + 1]? = some (.cells #[.int .i64 facing] 2 (0, 0))) (hB : W2.heap[sb]? = some (.cells #[.int .i64 (b : Int)] 2 (0, 0))) (hS : W2.heap[sb + 1]? = some (.cells #[.float .f32 s] 23 (0, 0))) (hb : Below w.heap.size w W2) :
    KeepsOthers W W2 ∧ Below w.heap.size W W2 ∧ BestI w hs ts facing sb g (pre ++ [⟨k, h01⟩]) W2 := by
  refine ⟨hk, hbW, b, s, hs0, hH, hF, hB, hS, best_snoc hl hgood (fun e => ?_), hb⟩
  exact (bestTo_no (g := g) (k := k) (by rw [e]; exact ho) hgt).trans e

theorem best_take {w W W2 : World} {hs ts : List Int} {facing : Int} {sb : Nat} {g : Nat → Nat} {pre : List Hr} {k : Nat} {h01 : 0 ≤ (k : Int) ∧ (k : Int) < 24} {b s : Nat} (hsb : w.heap.size + 1 < sb) (hl : pre.length < 24) (hg0 : pos32 (g k) = true)
    (ho : FloatKind.f32.format.order (g k) s = some .gt)
    (hgood : Good pre → bestTo g pre.length = (b, s)) (hk : KeepsOthers W W2) (hbW : Below w.heap.size W W2) (hH : W2.heap[w.heap.size]? = some (.cells (sunC hs ts) 35 (0, 0))) (hF : W2.heap[w.heap.size + 1]? = some (.cells #[.int .i64 facing] 2 (0, 0))) (hB : W2.heap[sb]? = some (.cells #[.int .i64 (b : Int)] 2 (0, 0))) (hS : W2.heap[sb + 1]? = some (.cells #[.float .f32 s] 23 (0, 0))) (hb : Below w.heap.size w W2) :
    let W3 := (W2.setCell ⟨sb, 0, none⟩ (.int .i64 (k : Int))).setCell ⟨sb + 1, 0, none⟩ (.float .f32 (g k))
    KeepsOthers W W3 ∧ Below w.heap.size W W3 ∧ BestI w hs ts facing sb g (pre ++ [⟨k, h01⟩]) W3 := by
  refine ⟨(hk.trans (KeepsOthers.setCell _ _ _)).trans (KeepsOthers.setCell _ _ _), (hbW.setCell (p := ⟨sb, 0, none⟩) (by simp; omega) _).setCell (p := ⟨sb + 1, 0, none⟩) (by simp; omega) _, k, g k, hg0, ?_, ?_, ?_, ?_, best_snoc hl hgood (fun e => ?_), (hb.setCell (p := ⟨sb, 0, none⟩) (by simp; omega) _).setCell (p := ⟨sb + 1, 0, none⟩) (by simp; omega) _⟩
  · rw [heap_setCell_other _ _ _ _ (by simp; omega), heap_setCell_other _ _ _ _ (by simp; omega)]; exact hH
  · rw [heap_setCell_other _ _ _ _ (by simp; omega), heap_setCell_other _ _ _ _ (by simp; omega)]; exact hF
  · rw [heap_setCell_other _ _ _ _ (by simp), heap_setCell_same _ _ _ _ _ _ hB]; rfl
  · rw [heap_setCell_same _ _ _ _ _ _ ((heap_setCell_other _ ⟨sb, 0, none⟩ _ _ (by simp)).trans hS)]; rfl
  · exact bestTo_gt (g := g) (k := k) (by rw [e]; exact ho)

end Go.Proofs.YtmniodfdoidffaaGreatDoor

namespace Go.Proofs.YtmniodfdoidffaaGreatDoor
open Go.RowKit

/-- The numbers of a list that another one has as well. -/
def bothL (a b : List Int) : List Int := a.filter (fun x => b.contains x)

theorem bothL_self (a : List Int) : bothL a a = a := by
  unfold bothL
  rw [List.filter_eq_self]
  intro x hx
  rw [List.contains_iff_mem]
  exact hx

theorem bothL_mem {a b : List Int} {x : Int} (h : x ∈ bothL a b) : x ∈ a := (List.mem_filter.1 h).1

/-- The first hour that shares tilts, the tilts that are shared, and the plan. -/
structure StF where
  first : Nat
  shared : List Int
  plan : List Int

def fillP (p : List Int) (a h : Nat) (v : Int) : List Int := p.zipIdx.map (fun x => if a ≤ x.2 ∧ x.2 ≤ h then v else x.1)

theorem fillP_len (p : List Int) (a h : Nat) (v : Int) : (fillP p a h v).length = p.length := by simp [fillP]

theorem fillP_get (p : List Int) (a h : Nat) (v : Int) {k : Nat} (hk : k < p.length) : (fillP p a h v)[k]? = some (if a ≤ k ∧ k ≤ h then v else p[k]?.getD 0) := by
  unfold fillP
  rw [List.getElem?_map, List.getElem?_zipIdx, List.getElem?_eq_getElem hk]
  simp

/-- A plan that is filled up to an hour. -/
def fillTo (p : List Int) (a : Nat) (v : Int) (k : Nat) : List Int := p.zipIdx.map (fun x => if a ≤ x.2 ∧ x.2 < k then v else x.1)

theorem fillTo_len (p : List Int) (a : Nat) (v : Int) (k : Nat) : (fillTo p a v k).length = p.length := by simp [fillTo]

theorem fillTo_get (p : List Int) (a : Nat) (v : Int) (m : Nat) {k : Nat} (hk : k < p.length) : (fillTo p a v m)[k]? = some (if a ≤ k ∧ k < m then v else p[k]?.getD 0) := by
  unfold fillTo
  rw [List.getElem?_map, List.getElem?_zipIdx, List.getElem?_eq_getElem hk]
  simp

theorem ext_len {p q : List Int} {n : Nat} (hp : p.length = n) (hq : q.length = n) (h : ∀ k, k < n → p[k]? = q[k]?) : p = q := by
  apply List.ext_getElem?
  intro k
  by_cases hk : k < n
  · exact h k hk
  · rw [List.getElem?_eq_none (by omega), List.getElem?_eq_none (by omega)]

theorem fillTo_start (p : List Int) (a : Nat) (v : Int) : fillTo p a v a = p := by
  refine ext_len (fillTo_len _ _ _ _) rfl (fun k hk => ?_)
  rw [fillTo_get _ _ _ _ hk, if_neg (by omega), List.getElem?_eq_getElem hk]
  rfl

theorem fillTo_step (p : List Int) (a : Nat) (v : Int) {m : Nat} (h : a ≤ m) (hm : m < p.length) : (fillTo p a v m).set m v = fillTo p a v (m + 1) := by
  refine ext_len (n := p.length) (by simp [fillTo_len]) (fillTo_len _ _ _ _) (fun k hk => ?_)
  rw [fillTo_get _ _ _ _ hk]
  by_cases e : m = k
  · subst e
    rw [List.getElem?_set_self (by rw [fillTo_len]; exact hm), if_pos ⟨h, by omega⟩]
  · rw [List.getElem?_set_ne e, fillTo_get _ _ _ _ hk]
    by_cases c : a ≤ k ∧ k < m
    · rw [if_pos c, if_pos ⟨c.1, by omega⟩]
    · rw [if_neg c, if_neg (by omega)]

theorem fillTo_end (p : List Int) (a : Nat) (v : Int) (h : Nat) : fillTo p a v (h + 1) = fillP p a h v := by
  refine ext_len (n := p.length) (fillTo_len _ _ _ _) (fillP_len _ _ _ _) (fun k hk => ?_)
  rw [fillTo_get _ _ _ _ hk, fillP_get _ _ _ _ hk]
  by_cases c : a ≤ k ∧ k ≤ h
  · rw [if_pos c, if_pos ⟨c.1, by omega⟩]
  · rw [if_neg c, if_neg (by omega)]

def stepF (own : List Int) (h : Nat) (s : StF) : StF :=
  if bothL s.shared own = [] then ⟨h, own, fillP s.plan h h (own.headD 0)⟩
  else ⟨s.first, bothL s.shared own, fillP s.plan s.first h ((bothL s.shared own).headD 0)⟩

def stF (T : Nat → List Int) (z : List Int) : Nat → StF
  | 0 => ⟨0, z, List.replicate 24 0⟩
  | k + 1 => stepF (T k) k (stF T z k)

theorem stF_len (T : Nat → List Int) (z : List Int) : ∀ k, (stF T z k).plan.length = 24
  | 0 => by simp [stF]
  | k + 1 => by
    rw [stF]
    unfold stepF
    split <;> (dsimp only; rw [fillP_len]; exact stF_len T z k)

theorem stF_first (T : Nat → List Int) (z : List Int) : ∀ k, (stF T z k).first ≤ k
  | 0 => Nat.le_refl _
  | k + 1 => by
    rw [stF]
    unfold stepF
    split
    · exact Nat.le_succ _
    · exact Nat.le_succ_of_le (stF_first T z k)

theorem stF_same (T : Nat → List Int) (h0 : T 0 ≠ []) : ∀ k, stF T [] (k + 1) = stF T (T 0) (k + 1)
  | 0 => by
    have e1 : bothL (T 0) (T 0) = T 0 := bothL_self _
    have e2 : bothL [] (T 0) = [] := rfl
    show stepF (T 0) 0 ⟨0, [], _⟩ = stepF (T 0) 0 ⟨0, T 0, _⟩
    unfold stepF
    dsimp only
    rw [e1, e2, if_pos rfl, if_neg h0]
  | k + 1 => by
    show stepF _ _ (stF T [] (k + 1)) = stepF _ _ (stF T (T 0) (k + 1))
    rw [stF_same T h0 k]

/-- All that is shared is one of a list's numbers. -/
theorem stF_mem (T : Nat → List Int) (z : List Int) (P : Int → Prop) (hT : ∀ h, h < 24 → ∀ x ∈ T h, P x) (hz : ∀ x ∈ z, P x) : ∀ k, k ≤ 24 → ∀ x ∈ (stF T z k).shared, P x
  | 0, _ => hz
  | k + 1, hk => by
    intro x hx
    rw [stF] at hx
    unfold stepF at hx
    split at hx
    · exact hT k (by omega) x hx
    · exact stF_mem T z P hT hz k (by omega) x (bothL_mem hx)

theorem stF_some (T : Nat → List Int) (z : List Int) (hT : ∀ h, h < 24 → T h ≠ []) : ∀ k, k < 24 → (stF T z (k + 1)).shared ≠ [] := by
  intro k hk
  rw [stF]
  unfold stepF
  split
  · exact hT k hk
  · next h => exact h

end Go.Proofs.YtmniodfdoidffaaGreatDoor

namespace Go.Proofs.YtmniodfdoidffaaGreatDoor
open Go.ChangeShapes Go.WideShapes Go.ChangeAt Go.RowKit Go.Shelf

attribute [local go_sem] Oper.semAt_some run_store_float

def nonS : Array Value := #[.slice none 0 0, .slice none 0 0, .slice none 0 0, .slice none 0 0, .slice none 0 0, .slice none 0 0, .slice none 0 0, .slice none 0 0, .slice none 0 0, .slice none 0 0, .slice none 0 0, .slice none 0 0, .slice none 0 0, .slice none 0 0, .slice none 0 0, .slice none 0 0, .slice none 0 0, .slice none 0 0, .slice none 0 0, .slice none 0 0, .slice none 0 0, .slice none 0 0, .slice none 0 0, .slice none 0 0]

theorem nonS_one : ∀ v ∈ nonS, v.oneCell' = true := by
  intro v hv
  simp only [nonS, List.mem_toArray, List.mem_cons, List.not_mem_nil, or_false] at hv
  simp only [or_self] at hv
  subst hv
  rfl

set_option maxRecDepth 100000 in
theorem info_59 : (Tryz.prog.info? 59).map (·.size) = some 24 := by kernel_rfl

theorem own_one {w : World} {b : Nat} {E : TypeId} {v : Value} {xs : List Int} (h : Own w b E (Value.int .i64) v xs) : v.oneCell' = true := by
  obtain ⟨a, c, rfl, _⟩ := h
  rfl

theorem own_kept {w w' : World} {b : Nat} {v : Value} {xs : List Int} (h : Own w b 2 (Value.int .i64) v xs) (hk : ∀ (g : Nat) (cs : Array Value) (t : TypeId) (fr : Nat × Nat), w.heap[g]? = some (.cells cs t fr) → w'.heap[g]? = some (.cells cs t fr)) : Own w' b 2 (Value.int .i64) v xs := by
  obtain ⟨a, c, rfl, h2, h3, h4⟩ := h
  refine ⟨a, c, rfl, h2, h3, h4.imp id ?_⟩
  rintro ⟨g, cur, rfl, hg, hc, hx⟩
  exact ⟨g, cur, rfl, hg, hk g _ _ _ hc, hx⟩

theorem own_setCell {w : World} {b g i : Nat} {v x : Value} {xs : List Int} {zs : Array Value} (h : Own w b 2 (Value.int .i64) v xs) (hg : w.heap[g]? = some (.cells zs 59 (0, 0))) : Own (w.setCell ⟨g, i, none⟩ x) b 2 (Value.int .i64) v xs := by
  obtain ⟨a, c, rfl, h2, h3, h4⟩ := h
  refine ⟨a, c, rfl, h2, h3, h4.imp id ?_⟩
  rintro ⟨g', cur, rfl, hg', hc, hx⟩
  refine ⟨g', cur, rfl, hg', ?_, hx⟩
  rw [heap_setCell_other _ _ _ _ ?_]
  · exact hc
  · intro e
    rw [e, hg] at hc
    injection hc with e1
    injection e1 with _ e2 _
    revert e2
    decide

theorem keeps_setRow {W : World} {g : Nat} {cs zs : Array Value} {t : TypeId} {fr : Nat × Nat} (hg : W.heap[g]? = some (.cells cs t fr)) : KeepsOthers W (W.setRow g zs) := by
  refine ⟨by simp, fun k o hk ho => ?_⟩
  rw [setRow_other _ _ _ _ ?_]
  · exact hk
  · intro e
    rw [e, hg] at hk
    injection hk with hk
    subst hk
    cases ho

/-- What the walk keeps. -/
def TlI (w : World) (dc : Array Value) (b2 b3 b4 : Nat) (T : Nat → List Int) (pre : List Hr) (W : World) : Prop :=
  ∃ zs : Array Value, zs.size = 24 ∧ (∀ v ∈ zs, v.oneCell' = true) ∧ (W.heap[w.heap.size]? = some (.cells dc 66 (0, 0)) ∧ W.heap[b2]? = some (.cells nonS 59 (0, 0)) ∧ W.heap[b3]? = some (.cells #[.nilIface] 56 (0, 0))) ∧ W.heap[b4]? = some (.cells zs 59 (0, 0)) ∧
    (Good pre → ∀ j, j < pre.length → T j ≠ [] ∧ ∃ v, zs[j]? = some v ∧ Own W w.heap.size 2 (Value.int .i64) v (T j)) ∧ Below w.heap.size w W

/-- What lies there where it is left early. -/
def TlX (w : World) (b2 b3 : Nat) (T : Nat → List Int) (c : Code) (_ : List Hr) (W : World) : Prop :=
  c = .ret ∧ Below w.heap.size w W ∧ w.heap.size ≤ b2 ∧ w.heap.size ≤ b3 ∧ ∃ (k : Nat) (zs : Array Value), k < 24 ∧ T k = [] ∧ zs.size = 24 ∧ (∀ v ∈ zs, v.oneCell' = true) ∧ W.heap[b2]? = some (.cells zs 59 (0, 0)) ∧ W.heap[b3]? = some (.cells #[.iface 86 (.agg #[.int .i64 (k : Int)])] 56 (0, 0))

theorem tlI_own (w : World) (dc : Array Value) (b2 b3 b4 : Nat) (T : Nat → List Int) (B : Nat) (hB : w.heap.size ≤ B) : OwnFrom B (TlI w dc b2 b3 b4 T) := by
  intro s W W' row ⟨zs, hz, h1, ⟨h0, h2, h3⟩, h4, hg, hb⟩ hg' hr
  have hr2 := fun r e => (hr r e).2
  exact ⟨zs, hz, h1, ⟨heap_kept h0 hg' hr2, heap_kept h2 hg' hr2, heap_kept h3 hg' hr2⟩, heap_kept h4 hg' hr2, fun hgd j hj => ⟨(hg hgd j hj).1, (hg hgd j hj).2.imp fun v hv => ⟨hv.1, own_kept hv.2 (fun g _ _ _ ho => heap_kept ho hg' hr2)⟩⟩, ownFrom_below (β := Unit) (Nat.le_refl _) hB () W W' row hb hg' hr⟩

theorem tlX_own (w : World) (b2 b3 : Nat) (T : Nat → List Int) (c : Code) (B : Nat) (hB : w.heap.size ≤ B) : OwnFrom B (TlX w b2 b3 T c) := by
  intro s W W' row ⟨hc, hb, n2, n3, k, zs, hk, hT, hz, h1, h2, h3⟩ hg' hr
  have hr2 := fun r e => (hr r e).2
  exact ⟨hc, ownFrom_below (β := Unit) (Nat.le_refl _) hB () W W' row hb hg' hr, n2, n3, k, zs, hk, hT, hz, h1, heap_kept h2 hg' hr2, heap_kept h3 hg' hr2⟩

/-- What is found: the tilts of each hour, or the refusal of an hour that has none. -/
def AllT (w : World) (T : Nat → List Int) (e : Ending) (w' : World) : Prop :=
  ∃ (zs : Array Value) (er : Value), e = .returned (.tuple #[.agg zs, er]) ∧ zs.size = 24 ∧ (∀ v ∈ zs, v.oneCell' = true) ∧ Below w.heap.size w w' ∧
    ((er = .nilIface ∧ ∀ j, j < 24 → T j ≠ [] ∧ ∃ v, zs[j]? = some v ∧ Own w' w.heap.size 2 (Value.int .i64) v (T j)) ∨ (∃ k : Nat, k < 24 ∧ T k = [] ∧ er = .iface 86 (.agg #[.int .i64 (k : Int)])))

theorem results_two {fn : Func} {p q : Tmp} (h : fn.results = #[.cell p 59, .cell q 56]) (tmps : Array Value) (w : World) (b2 b3 : Nat) (zs : Array Value) (er : Value) (hp : tmps.getD p undef = .pointer (some ⟨b2, 0, none⟩)) (hq : tmps.getD q undef = .pointer (some ⟨b3, 0, none⟩)) (hg : w.heap[b2]? = some (.cells zs 59 (0, 0))) (hs : zs.size = 24) (hc : w.cell? ⟨b3, 0, none⟩ = some er) :
    (results fn tmps).run Tryz.prog w = .ok (.tuple #[.agg zs, er]) w := by
  have e := run_loadVar_row w b2 59 59 zs (0, 0) _ hg Tryz.underlying59 rfl (by rw [hs]; exact info_59)
  have e3 : (loadVar 56 ⟨b3, 0, none⟩).run Tryz.prog w = .ok er w := by simp [go_sem, hc]
  have e0 : (results fn tmps).run Tryz.prog w =
      ((asAddr (tmps.getD p undef)).run Tryz.prog w).andThen fun a w₁ => ((loadVar 59 a).run Tryz.prog w₁).andThen fun v w₂ => ((asAddr (tmps.getD q undef)).run Tryz.prog w₂).andThen fun a' w₃ => ((loadVar 56 a').run Tryz.prog w₃).andThen fun v' w₄ => .ok (.tuple #[v, v']) w₄ := by
    simp only [results, h]
    simp [Sem.run_bind, Result.andThen]
  rw [e0, hp, hq]
  simp only [asAddr, Sem.run_pure, Result.andThen_ok, e, e3]

set_option maxRecDepth 100000 in
set_option maxHeartbeats 8000000 in
theorem allTilts_any (hs ts : List Int) (hh : hs.length = 24) (ht : ts.length = 24) (fc : Int) (lo hi : Nat) (n : Int) (wd gp : Nat) (t : Int) (sh : Nat) (ok : BlOk n wd gp t sh) (dh : DyHr hs ts fc) (w : World) :
    Calls Tryz.prog 25 #[.agg (dayC hs ts fc lo hi n wd gp t sh)] w (AllT w (fun h : Nat => wantT (kpB hs ts fc lo hi wd gp sh (h : Int)) (tls 129))) := by
  refine (callsIn_wide (n := 4)).1 ?_
  have HKP : Hid (∀ k : Nat, k < 24 → ∀ w, Calls Tryz.prog 42 #[.agg (dayC hs ts fc lo hi n wd gp t sh), .int .i64 (k : Int)] w fun e w' => (∃ v, e = .returned v ∧ Own w' w.heap.size 2 (Value.int .i64) v (wantT (kpB hs ts fc lo hi wd gp sh (k : Int)) (tls 129))) ∧ Below w.heap.size w w') := fun k hk w => dayTilts_any hs ts hh ht fc lo hi n wd gp t sh ok (k : Int) (dh.all k hk) w
  have Hh := Lib.hid hh
  have Ht := Lib.hid ht
  obtain ⟨T, hT⟩ : ∃ T : Nat → List Int, T = (fun h : Nat => wantT (kpB hs ts fc lo hi wd gp sh (h : Int)) (tls 129)) := ⟨_, rfl⟩
  have HKQ : Hid (∀ k : Nat, k < 24 → ∀ w, Calls Tryz.prog 42 #[.agg (dayC hs ts fc lo hi n wd gp t sh), .int .i64 (k : Int)] w fun e w' => (∃ v, e = .returned v ∧ Own w' w.heap.size 2 (Value.int .i64) v (T k)) ∧ Below w.heap.size w w') := by rw [hT]; exact HKP.out
  have HLT : Hid (∀ k, (T k).length ≤ 129) := by
    rw [hT]
    intro k
    refine Nat.le_trans (wantT_len _ _) ?_
    simp [tls]
  rw [← hT]
  clear hh ht ok dh HKP hT
  refine callsIn_of_wp_marks Tryz.func25 rfl trivial ?_ rfl
  simp only [Tryz.ntmps25, List.size_toArray, List.length_cons, List.length_nil, Nat.reduceAdd, Nat.reduceSub, Array.replicate_succ, Array.replicate_zero, List.push_toArray, List.append_toArray, List.nil_append, List.cons_append]
  refine wpIn_wide.2 ?_
  go_upto_region 2 with (fail)
  refine abs_world (fun W => W.heap[w.heap.size]? = some (.cells (dayC hs ts fc lo hi n wd gp t sh) 66 (0, 0)) ∧ W.heap[w.heap.size + 1]? = some (.cells nonS 59 (0, 0)) ∧ W.heap[w.heap.size + 1 + 1]? = some (.cells #[.nilIface] 56 (0, 0)) ∧ W.heap[w.heap.size + 1 + 1 + 1]? = some (.cells nonS 59 (0, 0)) ∧ Below w.heap.size w W) ⟨(four_new _ _ _ _ _).1, (four_new _ _ _ _ _).2.1, (four_new _ _ _ _ _).2.2.1, (four_new _ _ _ _ _).2.2.2.1, (four_new _ _ _ _ _).2.2.2.2⟩ ?_
  rintro W0 ⟨r0, r2, r3, r4, hb⟩
  have hl4 := row_lt r4
  have hle4 : w.heap.size ≤ w.heap.size + 1 + 1 + 1 := by omega
  have hle3 : w.heap.size ≤ w.heap.size + 1 + 1 := by omega
  have hle2 : w.heap.size ≤ w.heap.size + 1 := by omega
  have n01 : w.heap.size < w.heap.size + 1 := by omega
  have n12 : w.heap.size + 1 < w.heap.size + 1 + 1 := by omega
  have n23 : w.heap.size + 1 + 1 < w.heap.size + 1 + 1 + 1 := by omega
  generalize w.heap.size + 1 + 1 + 1 = b4 at *
  generalize w.heap.size + 1 + 1 = b3 at *
  generalize w.heap.size + 1 = b2 at *
  have hle : w.heap.size ≤ W0.heap.size := hb.size
  have R0 := Lib.hid r0
  have R2 := Lib.hid r2
  have R3 := Lib.hid r3
  have R4 := Lib.hid r4
  have HB := Lib.hid hb
  clear r0 r2 r3 r4 hb
  go_wp2
  refine (wpIn_wide (n := 4)).1 ?_
  refine wpIn_rangeFunc_ownF rfl (by decide) (gf := 41) (lb := #[]) rfl trivial (enters_of Tryz.func41 (by kernel_rfl) rfl)
    (eachHour_stops Fence.wide _ trivial rfl (by decide) w.heap.size _) belowK_t (belowK_b hle) (Below.refl _ _) (fun _ => rfl)
    (TlI w (dayC hs ts fc lo hi n wd gp t sh) b2 b3 b4 T) (TlX w b2 b3 T) (tlI_own w _ b2 b3 b4 T _ (by first | (simp; done) | (simp; omega) | exact hle)) (fun c => tlX_own w b2 b3 T c _ (by first | (simp; done) | (simp; omega) | exact hle)) ?h0
    (fun x => { tmps := #[.agg (dayC hs ts fc lo hi n wd gp t sh), .pointer (some ⟨w.heap.size, 0, none⟩), .pointer (some ⟨b2, 0, none⟩), .pointer (some ⟨b3, 0, none⟩), .pointer (some ⟨b4, 0, none⟩), .int .i64 x.1, .int .i64 x.1, undef, undef, undef, undef, undef, undef, undef, undef, undef, undef, undef, undef, undef, undef, undef], defers := [] }) ?assign ?body ?done ?stop
  case h0 => exact ⟨nonS, rfl, nonS_one, ⟨R0.out, R2.out, R3.out⟩, R4.out, fun _ j hj => by simp at hj, HB.out⟩
  case assign =>
    intro l x W K hK
    gi_wp2
    exact hK
  case body =>
    rintro l pre ⟨x, hx0, hx1⟩ W ⟨zs, hz, hone, ⟨h0, h2, h3⟩, h4, hg, hbw⟩ hl
    obtain ⟨k, rfl⟩ := Int.eq_ofNat_of_zero_le hx0
    have hk : k < 24 := by omega
    have H0 := Lib.hid h0
    have H2 := Lib.hid h2
    have H3 := Lib.hid h3
    have H4 := Lib.hid h4
    have HG := Lib.hid hg
    have HZ := Lib.hid hz
    have HON := Lib.hid hone
    have HK := Lib.hid (HKQ.out k hk)
    have hcur : zs[k]? = some (zs[k]'(by rw [HZ.out]; exact hk)) := Array.getElem?_eq_getElem _
    have z1 : (k : Int) < 24 := by omega
    have z2 : (0 : Int) ≤ (k : Int) := by omega
    have hwW := hbw.size
    have HBW := Lib.hid hbw
    have hlt := HLT.out k
    clear h0 h2 h3 h4 hg hone hbw hz
    refine wpIn_block (wpIn_seq ?_)
    refine region_list_round (by rfl) (fun ⟨_, _, h⟩ => h) ?_
    go_wp2_with (first | (refine wpList_load_part rfl 66 _ rfl w.heap.size 0 56 rfl 66 (dayC hs ts fc lo hi n wd gp t sh) (0, 0) _ H0.out Tryz.underlying66 rfl info_dy (dy_fits 56 (by decide) hs ts Hh.out Ht.out fc lo hi n wd gp t sh) (dayC hs ts fc lo hi n wd gp t sh) (dy_all hs ts Hh.out Ht.out fc lo hi n wd gp t sh) ?_) | (go_at_call 42; refine (HK.out _).mono ?_; rintro e W1 ⟨⟨v, rfl, hv⟩, hb1⟩; replace H0 := Lib.hid (below_row hb1 H0.out); replace H2 := Lib.hid (below_row hb1 H2.out); replace H3 := Lib.hid (below_row hb1 H3.out); replace H4 := Lib.hid (below_row hb1 H4.out); obtain ⟨a, cap, ev, -⟩ := id hv; subst ev; have HV := Lib.hid hv; clear hv; have HB1 := Lib.hid hb1; clear hb1; have q1 := cell_of_row W1 b4 k _ _ _ H4.out; rw [hcur] at q1; have q2 := frozen_of_row W1 b4 k _ _ H4.out))
    clear q1 q2 hcur
    obtain ⟨v, ev⟩ : ∃ v, v = Value.slice a (T k).length cap := ⟨_, rfl⟩
    rw [← ev] at HV ⊢
    have HEV := Lib.hid ev
    clear ev
    have hz2 : (zs.setIfInBounds k v).size = 24 := by rw [Array.size_setIfInBounds]; exact HZ.out
    have HZ2 := Lib.hid hz2
    have HO2 : Hid (∀ x ∈ zs.setIfInBounds k v, x.oneCell' = true) := by
      intro x hx
      rcases Array.mem_or_eq_of_mem_setIfInBounds hx with h | h
      · exact HON.out x h
      · rw [h]; exact own_one HV.out
    have hg4 : (W1.setCell ⟨b4, k, none⟩ v).heap[b4]? = some (.cells (zs.setIfInBounds k v) 59 (0, 0)) := heap_setCell_same _ _ _ _ _ _ H4.out
    have HV2 := Lib.hid (own_setCell (i := k) (x := v) HV.out H4.out)
    have HC4 : Hid ((zs.setIfInBounds k v)[k]? = some v) := Lib.hid (by rw [Array.getElem?_setIfInBounds, if_pos rfl, if_pos (by rw [HZ.out]; exact hk)])
    have HPREV : Hid (Good pre → ∀ j, j < pre.length → T j ≠ [] ∧ ∃ v', zs[j]? = some v' ∧ Own (W1.setCell ⟨b4, k, none⟩ v) w.heap.size 2 (Value.int .i64) v' (T j)) := Lib.hid (fun hgd j hj => ⟨(HG.out hgd j hj).1, (HG.out hgd j hj).2.imp fun v' hv' => ⟨hv'.1, own_setCell (own_below hv'.2 HB1.out (Nat.le_refl _)) H4.out⟩⟩)
    have HBV : Hid (Below w.heap.size W (W1.setCell ⟨b4, k, none⟩ v)) := Lib.hid ((HB1.out.mono hwW).setCell (p := ⟨b4, k, none⟩) hle4 _)
    have HKO := Lib.hid ((keeps_of_below HB1.out).trans (KeepsOthers.setCell W1 ⟨b4, k, none⟩ v))
    have g0 : Hid ((W1.setCell ⟨b4, k, none⟩ v).heap[w.heap.size]? = some (.cells (dayC hs ts fc lo hi n wd gp t sh) 66 (0, 0))) := Lib.hid ((heap_setCell_other _ _ _ _ (by simp; omega)).trans H0.out)
    have g2 : Hid ((W1.setCell ⟨b4, k, none⟩ v).heap[b2]? = some (.cells nonS 59 (0, 0))) := Lib.hid ((heap_setCell_other _ _ _ _ (by simp; omega)).trans H2.out)
    have g3 : Hid ((W1.setCell ⟨b4, k, none⟩ v).heap[b3]? = some (.cells #[.nilIface] 56 (0, 0))) := Lib.hid ((heap_setCell_other _ _ _ _ (by simp; omega)).trans H3.out)
    have G4 := Lib.hid hg4
    clear HB1 H0 H2 H3 H4 HV HG hg4 hz2 HON HZ
    generalize W1.setCell ⟨b4, k, none⟩ v = U at *
    have q3 : U.cell? ⟨b4, k, none⟩ = some v := by rw [cell_of_row U _ _ _ _ _ G4.out]; exact HC4.out
    have HM : Hid (T k ≠ [] → Good (pre ++ [⟨(k : Int), hx0, hx1⟩]) → ∀ j, j < (pre ++ [(⟨(k : Int), hx0, hx1⟩ : Hr)]).length → T j ≠ [] ∧ ∃ v', (zs.setIfInBounds k v)[j]? = some v' ∧ Own U w.heap.size 2 (Value.int .i64) v' (T j)) := by
      refine Lib.hid (fun hne hgs j hj => ?_)
      obtain ⟨hgp, hxk⟩ := good_snoc hgs hl
      have hkl : k = pre.length := by have : (k : Int) = (pre.length : Int) := hxk; omega
      rw [List.length_append, List.length_singleton] at hj
      by_cases e : k = j
      · subst e
        exact ⟨hne, v, HC4.out, own_below HV2.out (Below.refl _ _) hwW⟩
      · obtain ⟨h1, v', h2, h3⟩ := HPREV.out hgp j (by omega)
        refine ⟨h1, v', ?_, h3⟩
        rw [Array.getElem?_setIfInBounds, if_neg e]
        exact h2
    have ev := HEV.out
    generalize zs.setIfInBounds k v = zt at *
    clear HPREV HC4
    rw [ev] at q3 ⊢
    have HLN : Hid ((T k).length = 0 ↔ T k = []) := Lib.hid List.length_eq_zero_iff
    clear ev HV2 HEV
    generalize (T k).length = m at *
    by_cases hm0 : m = 0
    · subst hm0
      have hTk := HLN.out.1 rfl
      have HTK := Lib.hid hTk
      have r2 : Hid ((U.setRow b2 zt).heap[b2]? = some (.cells zt 59 (0, 0))) := Lib.hid (setRow_heap _ _ _ _ _ _ g2.out)
      have r3 : (U.setRow b2 zt).heap[b3]? = some (.cells #[.nilIface] 56 (0, 0)) := (setRow_other _ _ _ _ (by omega)).trans g3.out
      have R3b := Lib.hid r3
      have c3 : (U.setRow b2 zt).cell? ⟨b3, 0, none⟩ = some .nilIface := by rw [cell_of_row _ _ _ _ _ _ r3]; rfl
      have f3 := frozen_of_row (U.setRow b2 zt) b3 0 _ _ r3
      clear hTk r3
      refine wpIn_seq ?_
      refine region_list_round (by rfl) (fun ⟨_, _, h⟩ => h) ?_
      go_wp2
      refine wpIn_cond_true (by rfl) ?_
      refine wpIn_seq ?_
      refine region_list_round (by rfl) (fun ⟨_, _, h⟩ => h) ?_
      go_wp2_with (first | (refine wpList_load_part rfl 59 _ rfl b4 0 24 rfl 59 (zt) (0, 0) _ G4.out Tryz.underlying59 rfl info_59 (by rw [HZ2.out]; decide) (zt) (by rw [Nat.zero_add, ← HZ2.out, Array.extract_size]) ?_) | (refine wpList_store_part rfl 59 _ _ rfl b2 0 (zt) rfl rfl 59 nonS g2.out (by rw [HZ2.out]; exact info_59) (by rw [HZ2.out]; decide) HO2.out ?_; rw [laid_all _ _ (by rw [HZ2.out]; rfl)]))
      gi_wp2
      exact ⟨HKO.out.trans ((keeps_setRow g2.out).trans (KeepsOthers.setCell _ _ _)), rfl, (below_setRow (HBW.out.trans HBV.out) hle2 _).setCell (p := ⟨b3, 0, none⟩) hle3 _, hle2, hle3, k, zt, hk, HTK.out, HZ2.out, HO2.out, (heap_setCell_other _ _ _ _ (by simp; omega)).trans r2.out, by rw [heap_setCell_same _ _ _ _ _ _ R3b.out]; rfl⟩
    · have hTk : T k ≠ [] := fun h => hm0 (HLN.out.2 h)
      have y1 : ((m : Int) == 0) = false := by simp; omega
      have HMM := Lib.hid (HM.out hTk)
      refine wpIn_seq ?_
      refine region_list_round (by rfl) (fun ⟨_, _, h⟩ => h) ?_
      go_wp2
      gi_wp2
      exact ⟨HKO.out, HBV.out, zt, HZ2.out, HO2.out, ⟨g0.out, g2.out, g3.out⟩, G4.out, HMM.out, HBW.out.trans HBV.out⟩
  case done =>
    rintro D xs W hD rfl ⟨zs, hz, hone, ⟨h0, h2, h3⟩, h4, hg, hbw⟩ hK
    rename_i K hcont
    have hD' : w.heap.size ≤ D := by first | omega | (simp at hD; omega)
    have hDb : D ≠ b2 ∧ D ≠ b3 ∧ D ≠ b4 := by first | omega | (simp at hD; omega)
    have HZ := Lib.hid hz
    have HON := Lib.hid hone
    have HQ : Hid (∀ j, j < 24 → T j ≠ [] ∧ ∃ v, zs[j]? = some v ∧ Own W w.heap.size 2 (Value.int .i64) v (T j)) := Lib.hid (fun j hj => hg good_all j (by rw [hrs_length]; exact hj))
    have H4 := Lib.hid h4
    have H2 := Lib.hid h2
    have HK := Lib.hid hK
    have HBW := Lib.hid hbw
    have r2 : Hid ((W.setRow b2 zs).heap[b2]? = some (.cells zs 59 (0, 0))) := Lib.hid (setRow_heap _ _ _ _ _ _ h2)
    have r3 : (W.setRow b2 zs).heap[b3]? = some (.cells #[.nilIface] 56 (0, 0)) := (setRow_other _ _ _ _ (by omega)).trans h3
    have R3b := Lib.hid r3
    have c3 : (W.setRow b2 zs).cell? ⟨b3, 0, none⟩ = some .nilIface := by rw [cell_of_row _ _ _ _ _ _ r3]; rfl
    have f3 := frozen_of_row (W.setRow b2 zs) b3 0 _ _ r3
    have hK2 : Hid (((W.setRow b2 zs).setCell ⟨b3, 0, none⟩ .nilIface).heap[D]? = some (.deferred (some []))) := Lib.hid ((heap_setCell_other _ _ _ _ (by simp; omega)).trans ((setRow_other _ _ _ _ (by omega)).trans hK))
    have hB2 : Hid (Below w.heap.size w ((W.setRow b2 zs).setCell ⟨b3, 0, none⟩ .nilIface)) := Lib.hid ((below_setRow hbw hle2 _).setCell (p := ⟨b3, 0, none⟩) hle3 _)
    clear hg hK h0 h2 h3 h4 hbw r3 hz hone
    refine hcont _ _ ?_
    go_wp2_with (first | (refine wpList_load_part rfl 59 _ rfl b4 0 24 rfl 59 (zs) (0, 0) _ H4.out Tryz.underlying59 rfl info_59 (by rw [HZ.out]; decide) (zs) (by rw [Nat.zero_add, ← HZ.out, Array.extract_size]) ?_) | (refine wpList_store_part rfl 59 _ _ rfl b2 0 (zs) rfl rfl 59 nonS H2.out (by rw [HZ.out]; exact info_59) (by rw [HZ.out]; decide) HON.out ?_; rw [laid_all _ _ (by rw [HZ.out]; rfl)]))
    refine ⟨by simp, .inl ⟨_, _, rfl, run_takeDeferred hK2.out, ?_⟩⟩
    have e2 : (((W.setRow b2 zs).setCell ⟨b3, 0, none⟩ .nilIface).putObj D (.deferred none)).heap[b2]? = some (.cells zs 59 (0, 0)) := (World.putObj_heap_other (by omega)).trans ((heap_setCell_other _ _ _ _ (by simp; omega)).trans r2.out)
    have e3 : (((W.setRow b2 zs).setCell ⟨b3, 0, none⟩ .nilIface).putObj D (.deferred none)).cell? ⟨b3, 0, none⟩ = some .nilIface := by rw [cell_of_row _ _ _ _ _ _ ((World.putObj_heap_other (by omega)).trans (heap_setCell_same _ _ _ _ _ _ R3b.out))]; rfl
    refine ⟨_, results_two rfl _ _ b2 b3 zs _ rfl rfl e2 HZ.out e3, zs, .nilIface, rfl, HZ.out, HON.out, hB2.out.trans (belowK_b (w := w) (Nat.le_refl _) _ D _ _ (by omega) hK2.out rfl rfl), .inl ⟨rfl, fun j hj => ?_⟩⟩
    obtain ⟨q1, v, q2, q3⟩ := HQ.out j hj
    refine ⟨q1, v, q2, ?_⟩
    obtain ⟨a, cp, rfl, y2, y3, y4⟩ := q3
    refine ⟨a, cp, rfl, y2, y3, y4.imp id ?_⟩
    rintro ⟨g, cur, rfl, y5, y6, y7⟩
    refine ⟨g, cur, rfl, y5, ?_, y7⟩
    have d2 : b2 ≠ g := by
      intro e
      rw [← e, H2.out] at y6
      injection y6 with y8
      injection y8 with _ y9 _
      revert y9
      decide
    have d3 : b3 ≠ g := by
      intro e
      have y10 := R3b.out
      rw [setRow_other _ _ _ _ (by omega), e, y6] at y10
      injection y10 with y8
      injection y8 with _ y9 _
      revert y9
      decide
    have d4 : D ≠ g := by
      intro e
      have y10 := HK.out
      rw [e, y6] at y10
      cases y10
    exact (World.putObj_heap_other (Ne.symm d4)).trans ((heap_setCell_other _ _ _ _ (by simpa using Ne.symm d3)).trans ((setRow_other _ _ _ _ (Ne.symm d2)).trans y6))
  case stop =>
    rintro D c pre W hD _ ⟨rfl, hbw, n2, n3, k, zs, hk, hTk, hz, hone, h2, h3⟩ hK
    have hD' : w.heap.size ≤ D := by first | omega | (simp at hD; omega)
    have hDb : D ≠ b2 ∧ D ≠ b3 := by first | omega | (simp at hD; omega)
    gi_wp2
    refine ⟨by simp, .inl ⟨_, _, rfl, run_takeDeferred hK, ?_⟩⟩
    have e2 : (W.putObj D (.deferred none)).heap[b2]? = some (.cells zs 59 (0, 0)) := (World.putObj_heap_other (by omega)).trans h2
    have e3 : (W.putObj D (.deferred none)).cell? ⟨b3, 0, none⟩ = some (.iface 86 (.agg #[.int .i64 (k : Int)])) := by rw [cell_of_row _ _ _ _ _ _ ((World.putObj_heap_other (by omega)).trans h3)]; rfl
    exact ⟨_, results_two rfl _ _ b2 b3 zs _ rfl rfl e2 hz e3, zs, _, rfl, hz, hone, hbw.trans (belowK_b (w := w) (Nat.le_refl _) _ D _ _ (by omega) hK rfl rfl), .inr ⟨k, hk, hTk, rfl⟩⟩

end Go.Proofs.YtmniodfdoidffaaGreatDoor

namespace Go.Proofs.YtmniodfdoidffaaGreatDoor
open Go.ChangeShapes Go.WideShapes Go.ChangeAt Go.RowKit Go.Deep Go.Joins

theorem cell_below {W W' : World} (hb : Below W.heap.size W W') {a : Addr} {v : Value} (h : W.cell? a = some v) : W'.cell? a = some v :=
  (hb.cell (World.block_lt_of_cell? W a h)).trans h
theorem list_of {α : Type} {Pr : Nat → α → Prop} : ∀ n, (∀ i, i < n → ∃ x, Pr i x) → ∃ l : List α, l.length = n ∧ ∀ i x, l[i]? = some x → Pr i x
  | 0, _ => ⟨[], rfl, fun i x h => by simp at h⟩
  | n + 1, h => by
    obtain ⟨l, hl, hp⟩ := list_of n (fun i hi => h i (by omega))
    obtain ⟨x, hx⟩ := h n (by omega)
    refine ⟨l ++ [x], by simp [hl], fun i y hy => ?_⟩
    by_cases c : i < l.length
    · rw [List.getElem?_append_left c] at hy
      exact hp i y hy
    · rw [List.getElem?_append_right (by omega)] at hy
      have hi := (List.getElem?_eq_some_iff.1 hy).1
      simp only [List.length_cons, List.length_nil] at hi
      have e0 : i - l.length = 0 := by omega
      rw [e0] at hy
      simp only [List.getElem?_cons_zero, Option.some.injEq] at hy
      subst hy
      have e1 : i = n := by omega
      subst e1
      exact hx
section
variable {P : Program}
theorem run_loadVar_cells (w : World) (g off n : Nat) (ty : TypeId) (d : TypeDesc) (hu : P.underlying ty = some d) (hd : (match d with | .struct _ | .array _ _ => true | _ => false) = true) (hi : (P.info? ty).map (·.size) = some n)
    (vs : Array Value) (hn : vs.size = n) (hc : ∀ j v, vs[j]? = some v → w.cell? ⟨g, off + j, none⟩ = some v) : (loadVar ty ⟨g, off, none⟩).run P w = .ok (.agg vs) w := by
  have hl : (loadCells ⟨g, off, none⟩ n).run P w = .ok vs w := by
    have h := run_loadCells_list (P := P) w ⟨g, off, none⟩ vs.toList (fun j v hv => by
      rw [addr_add]
      exact hc j v (by simpa using hv))
    rw [Array.length_toList, hn, Array.toArray_toList] at h
    exact h
  cases hq : P.info? ty with
  | none => simp [hq] at hi
  | some i =>
    have hs : i.size = n := by simpa [hq] using hi
    have hagg : (isAgg ty).run P w = .ok true w := by
      unfold isAgg
      rw [Sem.run_bind, run_underlying hu w]
      cases d <;> simp_all
    simp [loadVar, Sem.run_bind, hagg, sizeOf, typeInfo, hq, hs, hl]

theorem wpList_load_cells {ops : Array Oper} {rest : List Oper} {o : Oper} {a : Act} {w : World} {Q : Exit → Act → World → Prop} (hgd : o.guard = none) (ty : TypeId) (x : Operand) (ho : o.op = .load ty x)
    (g off n : Nat) (hx : a.eval x = .pointer (some ⟨g, off, none⟩)) (d : TypeDesc) (hu : P.underlying ty = some d) (hd : (match d with | .struct _ | .array _ _ => true | _ => false) = true) (hi : (P.info? ty).map (·.size) = some n)
    (vs : Array Value) (hn : vs.size = n) (hc : ∀ j v, vs[j]? = some v → w.cell? ⟨g, off + j, none⟩ = some v) (h : wpList P ops Q rest (a.put o.dst (.agg vs)) w) : wpList P ops Q (o :: rest) a w := by
  refine wpList_plain hgd fun K hK => ?_
  unfold Oper.wp execOp
  simp only [ho, hx, Instr.loadAt, Instr.sureAddr, Sem.run_bind, Sem.run_pure, Result.andThen_ok, run_loadVar_cells w g off n ty d hu hd hi vs hn hc]
  exact hK _ _ h
end
theorem laid_here (cs vs : Array Value) (off : Nat) (h : off + vs.size ≤ cs.size) : (laid cs vs off).extract off (off + vs.size) = vs := by
  apply Array.ext'
  rw [Array.toList_extract, List.extract_eq_take_drop, Nat.add_sub_cancel_left]
  unfold laid
  have hl : (cs.toList.take off).length = off := by simp; omega
  rw [List.append_assoc, List.drop_append_of_le_length (by omega), List.drop_of_length_le (by omega), List.nil_append, List.take_append_of_le_length (by simp), List.take_of_length_le (by simp)]
theorem laid_there (cs vs : Array Value) (off j n : Nat) (h : off + vs.size ≤ cs.size) (hj : j + n ≤ off) : (laid cs vs off).extract j (j + n) = cs.extract j (j + n) := by
  apply Array.ext'
  rw [Array.toList_extract, Array.toList_extract, List.extract_eq_take_drop, List.extract_eq_take_drop, Nat.add_sub_cancel_left]
  unfold laid
  have hl : (cs.toList.take off).length = off := by simp; omega
  rw [List.append_assoc, List.drop_append_of_le_length (by omega), List.take_append_of_le_length (by simp; omega), List.drop_take, List.take_take, Nat.min_eq_left (by omega)]
def leftI (n left : Int) : Int := if left - n < 0 then -1 else left - n
theorem three_at (w : World) (a b c : Obj) : (((w.alloc a).alloc b).alloc c).heap[w.heap.size]? = some a ∧ (((w.alloc a).alloc b).alloc c).heap[w.heap.size + 1]? = some b ∧ (((w.alloc a).alloc b).alloc c).heap[w.heap.size + 1 + 1]? = some c ∧ Below w.heap.size w (((w.alloc a).alloc b).alloc c) := by
  have key : ∀ (w : World) (o : Obj) (i : Nat), (w.alloc o).heap[i]? = if i = w.heap.size then some o else w.heap[i]? := fun w o i => by
    show (w.heap.push o)[i]? = _
    exact Array.getElem?_push
  refine ⟨?_, ?_, ?_, (((Below.refl _ _).alloc (Nat.le_refl _) _).alloc (by simp) _).alloc (by simp; omega) _⟩
  all_goals simp only [key, World.size_alloc]
  · rw [if_neg (by omega), if_neg (by omega), if_true]
  · rw [if_neg (by omega), if_true]
  · rw [if_true]
theorem two_at (w : World) (a b : Obj) : ((w.alloc a).alloc b).heap[w.heap.size]? = some a ∧ ((w.alloc a).alloc b).heap[w.heap.size + 1]? = some b ∧ Below w.heap.size w ((w.alloc a).alloc b) :=
  ⟨by rw [Below.heap_alloc _ _ _ (by simp)]; exact heap_alloc_new _ _, by have h := heap_alloc_new (w.alloc a) b; simpa using h, ((Below.refl _ _).alloc (Nat.le_refl _) _).alloc (by simp) _⟩
theorem yields_cells {P : Program} {ops : Array Oper} {S : World → Prop} {o : Oper} {a : Act} (hw : Region.wanted o (yielded ops a.tmps) = true) (ty : TypeId) (x : Operand) (ho : o.op = .load ty x)
    (g off n : Nat) (hx : a.eval x = .pointer (some ⟨g, off, none⟩)) (d : TypeDesc) (hu : P.underlying ty = some d) (hd : (match d with | .struct _ | .array _ _ => true | _ => false) = true) (hi : (P.info? ty).map (·.size) = some n)
    (vs : Array Value) (hn : vs.size = n) (hc : ∀ w, S w → ∀ j v, vs[j]? = some v → w.cell? ⟨g, off + j, none⟩ = some v) : YieldsIf P ops S o (.agg vs) a :=
  .inl ⟨hw, fun w hw' => by
    unfold execOp
    simp only [ho, hx, Instr.loadAt, Instr.sureAddr, Sem.run_bind, Sem.run_pure, Result.andThen_ok, run_loadVar_cells w g off n ty d hu hd hi vs hn (hc w hw')]⟩

end Go.Proofs.YtmniodfdoidffaaGreatDoor
