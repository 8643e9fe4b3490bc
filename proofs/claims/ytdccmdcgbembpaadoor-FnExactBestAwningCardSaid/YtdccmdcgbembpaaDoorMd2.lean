/-
  BaP, BaO, BaS, LawC, BaL.
-/
import Derived.Test.YtdccmdcgbembpaaDoorMd1
import Derived.Test.YtdccmdcgbembpaaDoorShF
import Derived.Test.YtdccmdcgbembpaaDoorSumD
import Derived.Test.YtdccmdcgbembpaaDoorNear
import Derived.Test.YtdccmdcgbembpaaDoorValid
import Derived.Test.YtdccmdcgbembpaaDoorFallOn
import Derived.Test.YtdccmdcgbembpaaDoorAwOk
import Derived.Test.YtdccmdcgbembpaaDoorOk
import Derived.Test.YtdccmdcgbembpaaDoorRows
import Derived.Test.YtdccmdcgbembpaaDoorLaw
import Derived.WalkKit
import Derived.ProofKit
import Derived.OpenShut
import Derived.ChangeVars
import Derived.JoinedOf
import Derived.LaidLaws
import Derived.Stop.Joined
import Derived.OpenVars
import Derived.Test.YtdccmdcgbembpaaDoorRoomK
import Derived.Test.YtdccmdcgbembpaaDoorOpen
import Derived.Test.YtdccmdcgbembpaaDoorEq

namespace Go.Proofs.YtdccmdcgbembpaaDoor
open Go.RowKit

attribute [local go_sem] run_store_f

/-- The light behind an awning over a day; that of one of a list. -/
def baS (hs ts : List Int) (fc : Int) (x : Awn) : Nat := sumTo (fun k => behOf x.1 x.2.1 x.2.2.1 x.2.2.2 hs ts (k : Int) fc) 24

def baN (hs ts : List Int) (fc : Int) (ws : List Awn) (k : Nat) : Nat :=
  match ws[k]? with
  | some x => baS hs ts fc x
  | none => 0

/-- The best one of the first k, and its light. -/
def bestA (d : Nat → Nat) : Nat → Nat
  | 0 => 0
  | k + 1 => firstMin d k

def leastA (d : Nat → Nat) : Nat → Nat
  | 0 => 0
  | k + 1 => d (firstMin d k)

/-- The code that awnings are refused with. -/
def codeA (okS okA inR : Bool) (n : Nat) : Int := if !(okS && okA) then 1 else if !inR then 2 else if 8 < n then 3 else if n = 0 then 6 else 0

theorem ordA {x y : Nat} (hx : fin32 x = true) (hy : fin32 y = true) : (FloatKind.f32.format.order x y = some .lt ∧ ltF x y = true) ∨ (FloatKind.f32.format.order x y = some .eq ∧ ltF x y = false) ∨ (FloatKind.f32.format.order x y = some .gt ∧ ltF x y = false) := by
  obtain ⟨o, ho⟩ := order_some hx hy
  unfold ltF
  rw [ho]
  cases o <;> simp

theorem baS_fin {hs ts : List Int} {fc : Int} {x : Awn} (aw : AwOk x.1 x.2.1 x.2.2.1 x.2.2.2) (q : ∀ k : Nat, k < 24 → HrOk hs ts (k : Int) fc) : fin32 (baS hs ts fc x) = true := pos_fin (sumTo_pos _ 24 (fun j hj => pos_le (beh_le aw (q j hj))) 24 (Nat.le_refl _))

theorem baN_fin {hs ts : List Int} {fc : Int} {ws : List Awn} (aw : ∀ x ∈ ws, AwOk x.1 x.2.1 x.2.2.1 x.2.2.2) (q : ∀ k : Nat, k < 24 → HrOk hs ts (k : Int) fc) (k : Nat) : fin32 (baN hs ts fc ws k) = true := by
  unfold baN
  cases h : ws[k]? with
  | none => exact zero_fin
  | some x => exact baS_fin (aw x (List.mem_of_getElem? h)) q

theorem baDay_any (hs ts : List Int) (fc : Int) (x : Awn) (aw : AwOk x.1 x.2.1 x.2.2.1 x.2.2.2) (hh : hs.length = 24) (ht : ts.length = 24) (q : ∀ k : Nat, k < 24 → HrOk hs ts (k : Int) fc) (w : World) :
    Calls Tryd.prog 94 #[.func (.func 96) #[.agg (shC hs ts fc x.1 x.2.1 x.2.2.1 x.2.2.2)] #[]] w fun e w' => e = .returned (.float .f32 (baS hs ts fc x)) ∧ Below w.heap.size w w' :=
  sumBehind_any hs ts fc x.1 x.2.1 x.2.2.1 x.2.2.2 (fun k => behOf x.1 x.2.1 x.2.2.1 x.2.2.2 hs ts (k : Int) fc) w (fun k hk w2 _ => behind_any aw hs ts hh ht fc (k : Int) (q k hk) w2) (fun k hk => pos_le (beh_le aw (q k hk)))

theorem baZ (V : World) (o : Obj) (cs : Array Value) : Below V.heap.size V ((V.alloc o).setRow V.heap.size cs) := below_setRow ((Below.refl _ _).alloc (Nat.le_refl _) _) (Nat.le_refl _) _

theorem laid_allA (cs vs : Array Value) (h : cs.size = vs.size) : laid cs vs 0 = vs := by
  apply Array.ext'
  simp [laid]
  rw [← h]; simp

set_option maxRecDepth 100000 in
set_option maxHeartbeats 4000000 in
theorem iBa_ffff (hs ts : List Int) (hh : hs.length = 24) (ht : ts.length = 24) (fc : Int) (dv : Value) (ws : List Awn) (e0 e1 e2 e3 : Addr) (w : World) (hds : AwsAt w dv ws) (hE : ErrsAt w e0 e1 e2 e3) (hv : okB hs ts = false) (hf : inF fc = false) (hl : 8 < ws.length) :
    Calls Tryd.prog 41 #[dv, .agg (sunC hs ts), .int .i64 fc] w fun e w' => e = .returned (.tuple #[.int .i64 0, .float .f32 0, .int .i64 1]) ∧ Below w.heap.size w w' := by
  have HVS : Hid (∀ V, Calls Tryd.prog 81 #[.agg (sunC hs ts)] V fun e w' => e = .returned (.bool false) ∧ Below V.heap.size V w') := Lib.hid (fun V => by have := ValidSun_any hs ts hh ht V; rw [hv] at this; exact this)
  have HFC := Lib.hid (fun V => isFacing_is fc false hf V)
  have HRF : Hid (∀ V, ErrsAt V e0 e1 e2 e3 → Calls Tryd.prog 48 #[.bool false, .bool false, .bool false] V fun e w' => e = .returned (.iface 211 (.pointer (some e0))) ∧ V = w') := Lib.hid (fun V h => refusal_any h false false false)
  have hn := fun w => run_neq_held_nil (P := Tryd.prog) (w := w) 88 211 (.pointer (some e0)) (by kernel_rfl)
  have hln : ∃ a0 cap0, dv = .slice a0 ws.length cap0 := by obtain ⟨a, c, e, _⟩ := hds; exact ⟨a, c, e⟩
  obtain ⟨da, dcap, edv⟩ := hln
  have Hh := Lib.hid hh
  have Ht := Lib.hid ht
  have HDK := Lib.hid hds
  have HX := Lib.hid hE
  clear hds hE hh ht
  have zd : decide (((ws.length : Nat) : Int) ≤ 8) = false := decide_eq_false (by omega)
  generalize ws.length = n at *
  clear hv hf hl
  subst edv
  go_enter Tryd.func41, Tryd.ntmps41
  go_upto_region 1 with (fail)
  refine abs_world (fun W => W.heap[w.heap.size]? = some (.cells (sunC hs ts) 69 (0, 0)) ∧ Below w.heap.size w W) ⟨heap_alloc_new _ _, (Below.refl _ _).alloc (Nat.le_refl _) _⟩ ?_
  rintro W ⟨h0, hbz⟩
  have H0 := Lib.hid h0
  have HD := Lib.hid (aws_below HDK.out hbz)
  replace HX := Lib.hid (errs_below HX.out hbz)
  clear h0
  go_wp2_with (first | (refine wpList_load_part rfl 69 _ rfl w.heap.size 0 48 rfl 69 (sunC hs ts) (0, 0) _ H0.out Tryd.underlying69 rfl info_sun (sun_fits _ _ Hh.out Ht.out) _ (sun_all _ _ Hh.out Ht.out) ?_) | (go_at_call 81; refine (HVS.out _).mono ?_; rintro e W1 ⟨rfl, hb1⟩; replace H0 := Lib.hid (below_row hb1 H0.out); replace HX := Lib.hid (errs_below HX.out hb1); replace HD := Lib.hid (aws_below HD.out hb1); replace hbz := hbz.trans (hb1.mono hbz.size); clear hb1) | fail | (go_at_call 83; refine (HFC.out _).mono ?_; rintro e w3 ⟨rfl, rfl⟩) | (go_at_call 48; refine (HRF.out _ HX.out).mono ?_; rintro e W3 ⟨rfl, rfl⟩) | (go_at_call 50; refine (codeOf_any HX.out 1).mono ?_; rintro e W4 ⟨rfl, rfl⟩))
  go_ret3
  exact ⟨rfl, hbz⟩

set_option maxRecDepth 100000 in
set_option maxHeartbeats 4000000 in
theorem iBa_ffft (hs ts : List Int) (hh : hs.length = 24) (ht : ts.length = 24) (fc : Int) (dv : Value) (ws : List Awn) (e0 e1 e2 e3 : Addr) (w : World) (hds : AwsAt w dv ws) (hE : ErrsAt w e0 e1 e2 e3) (hv : okB hs ts = false) (hf : inF fc = false) (hl : ws.length ≤ 8) :
    Calls Tryd.prog 41 #[dv, .agg (sunC hs ts), .int .i64 fc] w fun e w' => e = .returned (.tuple #[.int .i64 0, .float .f32 0, .int .i64 1]) ∧ Below w.heap.size w w' := by
  have HVS : Hid (∀ V, Calls Tryd.prog 81 #[.agg (sunC hs ts)] V fun e w' => e = .returned (.bool false) ∧ Below V.heap.size V w') := Lib.hid (fun V => by have := ValidSun_any hs ts hh ht V; rw [hv] at this; exact this)
  have HFC := Lib.hid (fun V => isFacing_is fc false hf V)
  have HRF : Hid (∀ V, ErrsAt V e0 e1 e2 e3 → Calls Tryd.prog 48 #[.bool false, .bool false, .bool true] V fun e w' => e = .returned (.iface 211 (.pointer (some e0))) ∧ V = w') := Lib.hid (fun V h => refusal_any h false false true)
  have hn := fun w => run_neq_held_nil (P := Tryd.prog) (w := w) 88 211 (.pointer (some e0)) (by kernel_rfl)
  have hln : ∃ a0 cap0, dv = .slice a0 ws.length cap0 := by obtain ⟨a, c, e, _⟩ := hds; exact ⟨a, c, e⟩
  obtain ⟨da, dcap, edv⟩ := hln
  have Hh := Lib.hid hh
  have Ht := Lib.hid ht
  have HDK := Lib.hid hds
  have HX := Lib.hid hE
  clear hds hE hh ht
  have zd : decide (((ws.length : Nat) : Int) ≤ 8) = true := decide_eq_true (by omega)
  generalize ws.length = n at *
  clear hv hf hl
  subst edv
  go_enter Tryd.func41, Tryd.ntmps41
  go_upto_region 1 with (fail)
  refine abs_world (fun W => W.heap[w.heap.size]? = some (.cells (sunC hs ts) 69 (0, 0)) ∧ Below w.heap.size w W) ⟨heap_alloc_new _ _, (Below.refl _ _).alloc (Nat.le_refl _) _⟩ ?_
  rintro W ⟨h0, hbz⟩
  have H0 := Lib.hid h0
  have HD := Lib.hid (aws_below HDK.out hbz)
  replace HX := Lib.hid (errs_below HX.out hbz)
  clear h0
  go_wp2_with (first | (refine wpList_load_part rfl 69 _ rfl w.heap.size 0 48 rfl 69 (sunC hs ts) (0, 0) _ H0.out Tryd.underlying69 rfl info_sun (sun_fits _ _ Hh.out Ht.out) _ (sun_all _ _ Hh.out Ht.out) ?_) | (go_at_call 81; refine (HVS.out _).mono ?_; rintro e W1 ⟨rfl, hb1⟩; replace H0 := Lib.hid (below_row hb1 H0.out); replace HX := Lib.hid (errs_below HX.out hb1); replace HD := Lib.hid (aws_below HD.out hb1); replace hbz := hbz.trans (hb1.mono hbz.size); clear hb1) | fail | (go_at_call 83; refine (HFC.out _).mono ?_; rintro e w3 ⟨rfl, rfl⟩) | (go_at_call 48; refine (HRF.out _ HX.out).mono ?_; rintro e W3 ⟨rfl, rfl⟩) | (go_at_call 50; refine (codeOf_any HX.out 1).mono ?_; rintro e W4 ⟨rfl, rfl⟩))
  go_ret3
  exact ⟨rfl, hbz⟩

set_option maxRecDepth 100000 in
set_option maxHeartbeats 4000000 in
theorem iBa_fftf (hs ts : List Int) (hh : hs.length = 24) (ht : ts.length = 24) (fc : Int) (dv : Value) (ws : List Awn) (e0 e1 e2 e3 : Addr) (w : World) (hds : AwsAt w dv ws) (hE : ErrsAt w e0 e1 e2 e3) (hv : okB hs ts = false) (hf : inF fc = true) (hl : 8 < ws.length) :
    Calls Tryd.prog 41 #[dv, .agg (sunC hs ts), .int .i64 fc] w fun e w' => e = .returned (.tuple #[.int .i64 0, .float .f32 0, .int .i64 1]) ∧ Below w.heap.size w w' := by
  have HVS : Hid (∀ V, Calls Tryd.prog 81 #[.agg (sunC hs ts)] V fun e w' => e = .returned (.bool false) ∧ Below V.heap.size V w') := Lib.hid (fun V => by have := ValidSun_any hs ts hh ht V; rw [hv] at this; exact this)
  have HFC := Lib.hid (fun V => isFacing_is fc true hf V)
  have HRF : Hid (∀ V, ErrsAt V e0 e1 e2 e3 → Calls Tryd.prog 48 #[.bool false, .bool true, .bool false] V fun e w' => e = .returned (.iface 211 (.pointer (some e0))) ∧ V = w') := Lib.hid (fun V h => refusal_any h false true false)
  have hn := fun w => run_neq_held_nil (P := Tryd.prog) (w := w) 88 211 (.pointer (some e0)) (by kernel_rfl)
  have hln : ∃ a0 cap0, dv = .slice a0 ws.length cap0 := by obtain ⟨a, c, e, _⟩ := hds; exact ⟨a, c, e⟩
  obtain ⟨da, dcap, edv⟩ := hln
  have Hh := Lib.hid hh
  have Ht := Lib.hid ht
  have HDK := Lib.hid hds
  have HX := Lib.hid hE
  clear hds hE hh ht
  have zd : decide (((ws.length : Nat) : Int) ≤ 8) = false := decide_eq_false (by omega)
  generalize ws.length = n at *
  clear hv hf hl
  subst edv
  go_enter Tryd.func41, Tryd.ntmps41
  go_upto_region 1 with (fail)
  refine abs_world (fun W => W.heap[w.heap.size]? = some (.cells (sunC hs ts) 69 (0, 0)) ∧ Below w.heap.size w W) ⟨heap_alloc_new _ _, (Below.refl _ _).alloc (Nat.le_refl _) _⟩ ?_
  rintro W ⟨h0, hbz⟩
  have H0 := Lib.hid h0
  have HD := Lib.hid (aws_below HDK.out hbz)
  replace HX := Lib.hid (errs_below HX.out hbz)
  clear h0
  go_wp2_with (first | (refine wpList_load_part rfl 69 _ rfl w.heap.size 0 48 rfl 69 (sunC hs ts) (0, 0) _ H0.out Tryd.underlying69 rfl info_sun (sun_fits _ _ Hh.out Ht.out) _ (sun_all _ _ Hh.out Ht.out) ?_) | (go_at_call 81; refine (HVS.out _).mono ?_; rintro e W1 ⟨rfl, hb1⟩; replace H0 := Lib.hid (below_row hb1 H0.out); replace HX := Lib.hid (errs_below HX.out hb1); replace HD := Lib.hid (aws_below HD.out hb1); replace hbz := hbz.trans (hb1.mono hbz.size); clear hb1) | fail | (go_at_call 83; refine (HFC.out _).mono ?_; rintro e w3 ⟨rfl, rfl⟩) | (go_at_call 48; refine (HRF.out _ HX.out).mono ?_; rintro e W3 ⟨rfl, rfl⟩) | (go_at_call 50; refine (codeOf_any HX.out 1).mono ?_; rintro e W4 ⟨rfl, rfl⟩))
  go_ret3
  exact ⟨rfl, hbz⟩

set_option maxRecDepth 100000 in
set_option maxHeartbeats 4000000 in
theorem iBa_fftt (hs ts : List Int) (hh : hs.length = 24) (ht : ts.length = 24) (fc : Int) (dv : Value) (ws : List Awn) (e0 e1 e2 e3 : Addr) (w : World) (hds : AwsAt w dv ws) (hE : ErrsAt w e0 e1 e2 e3) (hv : okB hs ts = false) (hf : inF fc = true) (hl : ws.length ≤ 8) :
    Calls Tryd.prog 41 #[dv, .agg (sunC hs ts), .int .i64 fc] w fun e w' => e = .returned (.tuple #[.int .i64 0, .float .f32 0, .int .i64 1]) ∧ Below w.heap.size w w' := by
  have HVS : Hid (∀ V, Calls Tryd.prog 81 #[.agg (sunC hs ts)] V fun e w' => e = .returned (.bool false) ∧ Below V.heap.size V w') := Lib.hid (fun V => by have := ValidSun_any hs ts hh ht V; rw [hv] at this; exact this)
  have HFC := Lib.hid (fun V => isFacing_is fc true hf V)
  have HRF : Hid (∀ V, ErrsAt V e0 e1 e2 e3 → Calls Tryd.prog 48 #[.bool false, .bool true, .bool true] V fun e w' => e = .returned (.iface 211 (.pointer (some e0))) ∧ V = w') := Lib.hid (fun V h => refusal_any h false true true)
  have hn := fun w => run_neq_held_nil (P := Tryd.prog) (w := w) 88 211 (.pointer (some e0)) (by kernel_rfl)
  have hln : ∃ a0 cap0, dv = .slice a0 ws.length cap0 := by obtain ⟨a, c, e, _⟩ := hds; exact ⟨a, c, e⟩
  obtain ⟨da, dcap, edv⟩ := hln
  have Hh := Lib.hid hh
  have Ht := Lib.hid ht
  have HDK := Lib.hid hds
  have HX := Lib.hid hE
  clear hds hE hh ht
  have zd : decide (((ws.length : Nat) : Int) ≤ 8) = true := decide_eq_true (by omega)
  generalize ws.length = n at *
  clear hv hf hl
  subst edv
  go_enter Tryd.func41, Tryd.ntmps41
  go_upto_region 1 with (fail)
  refine abs_world (fun W => W.heap[w.heap.size]? = some (.cells (sunC hs ts) 69 (0, 0)) ∧ Below w.heap.size w W) ⟨heap_alloc_new _ _, (Below.refl _ _).alloc (Nat.le_refl _) _⟩ ?_
  rintro W ⟨h0, hbz⟩
  have H0 := Lib.hid h0
  have HD := Lib.hid (aws_below HDK.out hbz)
  replace HX := Lib.hid (errs_below HX.out hbz)
  clear h0
  go_wp2_with (first | (refine wpList_load_part rfl 69 _ rfl w.heap.size 0 48 rfl 69 (sunC hs ts) (0, 0) _ H0.out Tryd.underlying69 rfl info_sun (sun_fits _ _ Hh.out Ht.out) _ (sun_all _ _ Hh.out Ht.out) ?_) | (go_at_call 81; refine (HVS.out _).mono ?_; rintro e W1 ⟨rfl, hb1⟩; replace H0 := Lib.hid (below_row hb1 H0.out); replace HX := Lib.hid (errs_below HX.out hb1); replace HD := Lib.hid (aws_below HD.out hb1); replace hbz := hbz.trans (hb1.mono hbz.size); clear hb1) | fail | (go_at_call 83; refine (HFC.out _).mono ?_; rintro e w3 ⟨rfl, rfl⟩) | (go_at_call 48; refine (HRF.out _ HX.out).mono ?_; rintro e W3 ⟨rfl, rfl⟩) | (go_at_call 50; refine (codeOf_any HX.out 1).mono ?_; rintro e W4 ⟨rfl, rfl⟩))
  go_ret3
  exact ⟨rfl, hbz⟩

set_option maxRecDepth 100000 in
set_option maxHeartbeats 4000000 in
theorem iBa_tfff (hs ts : List Int) (hh : hs.length = 24) (ht : ts.length = 24) (fc : Int) (dv : Value) (ws : List Awn) (e0 e1 e2 e3 : Addr) (w : World) (hds : AwsAt w dv ws) (hE : ErrsAt w e0 e1 e2 e3) (hv : okB hs ts = true) (ha : ws.all fitA = false) (hf : inF fc = false) (hl : 8 < ws.length) :
    Calls Tryd.prog 41 #[dv, .agg (sunC hs ts), .int .i64 fc] w fun e w' => e = .returned (.tuple #[.int .i64 0, .float .f32 0, .int .i64 1]) ∧ Below w.heap.size w w' := by
  have HVS : Hid (∀ V, Calls Tryd.prog 81 #[.agg (sunC hs ts)] V fun e w' => e = .returned (.bool true) ∧ Below V.heap.size V w') := Lib.hid (fun V => by have := ValidSun_any hs ts hh ht V; rw [hv] at this; exact this)
  have HCA : Hid (∀ V, AwsAt V dv ws → Calls Tryd.prog 93 #[dv, .func (.func 91) #[] #[]] V fun e w' => e = .returned (.bool true) ∧ Below V.heap.size V w') := Lib.hid (fun V h => by have := containsAwn_any dv ws V h; rw [ha] at this; exact this)
  have HFC := Lib.hid (fun V => isFacing_is fc false hf V)
  have HRF : Hid (∀ V, ErrsAt V e0 e1 e2 e3 → Calls Tryd.prog 48 #[.bool false, .bool false, .bool false] V fun e w' => e = .returned (.iface 211 (.pointer (some e0))) ∧ V = w') := Lib.hid (fun V h => refusal_any h false false false)
  have hn := fun w => run_neq_held_nil (P := Tryd.prog) (w := w) 88 211 (.pointer (some e0)) (by kernel_rfl)
  have hln : ∃ a0 cap0, dv = .slice a0 ws.length cap0 := by obtain ⟨a, c, e, _⟩ := hds; exact ⟨a, c, e⟩
  obtain ⟨da, dcap, edv⟩ := hln
  have Hh := Lib.hid hh
  have Ht := Lib.hid ht
  have HDK := Lib.hid hds
  have HX := Lib.hid hE
  clear hds hE hh ht
  have zd : decide (((ws.length : Nat) : Int) ≤ 8) = false := decide_eq_false (by omega)
  generalize ws.length = n at *
  clear hv hf hl ha
  subst edv
  go_enter Tryd.func41, Tryd.ntmps41
  go_upto_region 1 with (fail)
  refine abs_world (fun W => W.heap[w.heap.size]? = some (.cells (sunC hs ts) 69 (0, 0)) ∧ Below w.heap.size w W) ⟨heap_alloc_new _ _, (Below.refl _ _).alloc (Nat.le_refl _) _⟩ ?_
  rintro W ⟨h0, hbz⟩
  have H0 := Lib.hid h0
  have HD := Lib.hid (aws_below HDK.out hbz)
  replace HX := Lib.hid (errs_below HX.out hbz)
  clear h0
  go_wp2_with (first | (refine wpList_load_part rfl 69 _ rfl w.heap.size 0 48 rfl 69 (sunC hs ts) (0, 0) _ H0.out Tryd.underlying69 rfl info_sun (sun_fits _ _ Hh.out Ht.out) _ (sun_all _ _ Hh.out Ht.out) ?_) | (go_at_call 81; refine (HVS.out _).mono ?_; rintro e W1 ⟨rfl, hb1⟩; replace H0 := Lib.hid (below_row hb1 H0.out); replace HX := Lib.hid (errs_below HX.out hb1); replace HD := Lib.hid (aws_below HD.out hb1); replace hbz := hbz.trans (hb1.mono hbz.size); clear hb1) | (go_at_call 93; refine (HCA.out _ HD.out).mono ?_; rintro e W2 ⟨rfl, hb2⟩; replace H0 := Lib.hid (below_row hb2 H0.out); replace HX := Lib.hid (errs_below HX.out hb2); replace HD := Lib.hid (aws_below HD.out hb2); replace hbz := hbz.trans (hb2.mono hbz.size); clear hb2) | (go_at_call 83; refine (HFC.out _).mono ?_; rintro e w3 ⟨rfl, rfl⟩) | (go_at_call 48; refine (HRF.out _ HX.out).mono ?_; rintro e W3 ⟨rfl, rfl⟩) | (go_at_call 50; refine (codeOf_any HX.out 1).mono ?_; rintro e W4 ⟨rfl, rfl⟩))
  go_ret3
  exact ⟨rfl, hbz⟩

set_option maxRecDepth 100000 in
set_option maxHeartbeats 4000000 in
theorem iBa_tfft (hs ts : List Int) (hh : hs.length = 24) (ht : ts.length = 24) (fc : Int) (dv : Value) (ws : List Awn) (e0 e1 e2 e3 : Addr) (w : World) (hds : AwsAt w dv ws) (hE : ErrsAt w e0 e1 e2 e3) (hv : okB hs ts = true) (ha : ws.all fitA = false) (hf : inF fc = false) (hl : ws.length ≤ 8) :
    Calls Tryd.prog 41 #[dv, .agg (sunC hs ts), .int .i64 fc] w fun e w' => e = .returned (.tuple #[.int .i64 0, .float .f32 0, .int .i64 1]) ∧ Below w.heap.size w w' := by
  have HVS : Hid (∀ V, Calls Tryd.prog 81 #[.agg (sunC hs ts)] V fun e w' => e = .returned (.bool true) ∧ Below V.heap.size V w') := Lib.hid (fun V => by have := ValidSun_any hs ts hh ht V; rw [hv] at this; exact this)
  have HCA : Hid (∀ V, AwsAt V dv ws → Calls Tryd.prog 93 #[dv, .func (.func 91) #[] #[]] V fun e w' => e = .returned (.bool true) ∧ Below V.heap.size V w') := Lib.hid (fun V h => by have := containsAwn_any dv ws V h; rw [ha] at this; exact this)
  have HFC := Lib.hid (fun V => isFacing_is fc false hf V)
  have HRF : Hid (∀ V, ErrsAt V e0 e1 e2 e3 → Calls Tryd.prog 48 #[.bool false, .bool false, .bool true] V fun e w' => e = .returned (.iface 211 (.pointer (some e0))) ∧ V = w') := Lib.hid (fun V h => refusal_any h false false true)
  have hn := fun w => run_neq_held_nil (P := Tryd.prog) (w := w) 88 211 (.pointer (some e0)) (by kernel_rfl)
  have hln : ∃ a0 cap0, dv = .slice a0 ws.length cap0 := by obtain ⟨a, c, e, _⟩ := hds; exact ⟨a, c, e⟩
  obtain ⟨da, dcap, edv⟩ := hln
  have Hh := Lib.hid hh
  have Ht := Lib.hid ht
  have HDK := Lib.hid hds
  have HX := Lib.hid hE
  clear hds hE hh ht
  have zd : decide (((ws.length : Nat) : Int) ≤ 8) = true := decide_eq_true (by omega)
  generalize ws.length = n at *
  clear hv hf hl ha
  subst edv
  go_enter Tryd.func41, Tryd.ntmps41
  go_upto_region 1 with (fail)
  refine abs_world (fun W => W.heap[w.heap.size]? = some (.cells (sunC hs ts) 69 (0, 0)) ∧ Below w.heap.size w W) ⟨heap_alloc_new _ _, (Below.refl _ _).alloc (Nat.le_refl _) _⟩ ?_
  rintro W ⟨h0, hbz⟩
  have H0 := Lib.hid h0
  have HD := Lib.hid (aws_below HDK.out hbz)
  replace HX := Lib.hid (errs_below HX.out hbz)
  clear h0
  go_wp2_with (first | (refine wpList_load_part rfl 69 _ rfl w.heap.size 0 48 rfl 69 (sunC hs ts) (0, 0) _ H0.out Tryd.underlying69 rfl info_sun (sun_fits _ _ Hh.out Ht.out) _ (sun_all _ _ Hh.out Ht.out) ?_) | (go_at_call 81; refine (HVS.out _).mono ?_; rintro e W1 ⟨rfl, hb1⟩; replace H0 := Lib.hid (below_row hb1 H0.out); replace HX := Lib.hid (errs_below HX.out hb1); replace HD := Lib.hid (aws_below HD.out hb1); replace hbz := hbz.trans (hb1.mono hbz.size); clear hb1) | (go_at_call 93; refine (HCA.out _ HD.out).mono ?_; rintro e W2 ⟨rfl, hb2⟩; replace H0 := Lib.hid (below_row hb2 H0.out); replace HX := Lib.hid (errs_below HX.out hb2); replace HD := Lib.hid (aws_below HD.out hb2); replace hbz := hbz.trans (hb2.mono hbz.size); clear hb2) | (go_at_call 83; refine (HFC.out _).mono ?_; rintro e w3 ⟨rfl, rfl⟩) | (go_at_call 48; refine (HRF.out _ HX.out).mono ?_; rintro e W3 ⟨rfl, rfl⟩) | (go_at_call 50; refine (codeOf_any HX.out 1).mono ?_; rintro e W4 ⟨rfl, rfl⟩))
  go_ret3
  exact ⟨rfl, hbz⟩

set_option maxRecDepth 100000 in
set_option maxHeartbeats 4000000 in
theorem iBa_tftf (hs ts : List Int) (hh : hs.length = 24) (ht : ts.length = 24) (fc : Int) (dv : Value) (ws : List Awn) (e0 e1 e2 e3 : Addr) (w : World) (hds : AwsAt w dv ws) (hE : ErrsAt w e0 e1 e2 e3) (hv : okB hs ts = true) (ha : ws.all fitA = false) (hf : inF fc = true) (hl : 8 < ws.length) :
    Calls Tryd.prog 41 #[dv, .agg (sunC hs ts), .int .i64 fc] w fun e w' => e = .returned (.tuple #[.int .i64 0, .float .f32 0, .int .i64 1]) ∧ Below w.heap.size w w' := by
  have HVS : Hid (∀ V, Calls Tryd.prog 81 #[.agg (sunC hs ts)] V fun e w' => e = .returned (.bool true) ∧ Below V.heap.size V w') := Lib.hid (fun V => by have := ValidSun_any hs ts hh ht V; rw [hv] at this; exact this)
  have HCA : Hid (∀ V, AwsAt V dv ws → Calls Tryd.prog 93 #[dv, .func (.func 91) #[] #[]] V fun e w' => e = .returned (.bool true) ∧ Below V.heap.size V w') := Lib.hid (fun V h => by have := containsAwn_any dv ws V h; rw [ha] at this; exact this)
  have HFC := Lib.hid (fun V => isFacing_is fc true hf V)
  have HRF : Hid (∀ V, ErrsAt V e0 e1 e2 e3 → Calls Tryd.prog 48 #[.bool false, .bool true, .bool false] V fun e w' => e = .returned (.iface 211 (.pointer (some e0))) ∧ V = w') := Lib.hid (fun V h => refusal_any h false true false)
  have hn := fun w => run_neq_held_nil (P := Tryd.prog) (w := w) 88 211 (.pointer (some e0)) (by kernel_rfl)
  have hln : ∃ a0 cap0, dv = .slice a0 ws.length cap0 := by obtain ⟨a, c, e, _⟩ := hds; exact ⟨a, c, e⟩
  obtain ⟨da, dcap, edv⟩ := hln
  have Hh := Lib.hid hh
  have Ht := Lib.hid ht
  have HDK := Lib.hid hds
  have HX := Lib.hid hE
  clear hds hE hh ht
  have zd : decide (((ws.length : Nat) : Int) ≤ 8) = false := decide_eq_false (by omega)
  generalize ws.length = n at *
  clear hv hf hl ha
  subst edv
  go_enter Tryd.func41, Tryd.ntmps41
  go_upto_region 1 with (fail)
  refine abs_world (fun W => W.heap[w.heap.size]? = some (.cells (sunC hs ts) 69 (0, 0)) ∧ Below w.heap.size w W) ⟨heap_alloc_new _ _, (Below.refl _ _).alloc (Nat.le_refl _) _⟩ ?_
  rintro W ⟨h0, hbz⟩
  have H0 := Lib.hid h0
  have HD := Lib.hid (aws_below HDK.out hbz)
  replace HX := Lib.hid (errs_below HX.out hbz)
  clear h0
  go_wp2_with (first | (refine wpList_load_part rfl 69 _ rfl w.heap.size 0 48 rfl 69 (sunC hs ts) (0, 0) _ H0.out Tryd.underlying69 rfl info_sun (sun_fits _ _ Hh.out Ht.out) _ (sun_all _ _ Hh.out Ht.out) ?_) | (go_at_call 81; refine (HVS.out _).mono ?_; rintro e W1 ⟨rfl, hb1⟩; replace H0 := Lib.hid (below_row hb1 H0.out); replace HX := Lib.hid (errs_below HX.out hb1); replace HD := Lib.hid (aws_below HD.out hb1); replace hbz := hbz.trans (hb1.mono hbz.size); clear hb1) | (go_at_call 93; refine (HCA.out _ HD.out).mono ?_; rintro e W2 ⟨rfl, hb2⟩; replace H0 := Lib.hid (below_row hb2 H0.out); replace HX := Lib.hid (errs_below HX.out hb2); replace HD := Lib.hid (aws_below HD.out hb2); replace hbz := hbz.trans (hb2.mono hbz.size); clear hb2) | (go_at_call 83; refine (HFC.out _).mono ?_; rintro e w3 ⟨rfl, rfl⟩) | (go_at_call 48; refine (HRF.out _ HX.out).mono ?_; rintro e W3 ⟨rfl, rfl⟩) | (go_at_call 50; refine (codeOf_any HX.out 1).mono ?_; rintro e W4 ⟨rfl, rfl⟩))
  go_ret3
  exact ⟨rfl, hbz⟩

set_option maxRecDepth 100000 in
set_option maxHeartbeats 4000000 in
theorem iBa_tftt (hs ts : List Int) (hh : hs.length = 24) (ht : ts.length = 24) (fc : Int) (dv : Value) (ws : List Awn) (e0 e1 e2 e3 : Addr) (w : World) (hds : AwsAt w dv ws) (hE : ErrsAt w e0 e1 e2 e3) (hv : okB hs ts = true) (ha : ws.all fitA = false) (hf : inF fc = true) (hl : ws.length ≤ 8) :
    Calls Tryd.prog 41 #[dv, .agg (sunC hs ts), .int .i64 fc] w fun e w' => e = .returned (.tuple #[.int .i64 0, .float .f32 0, .int .i64 1]) ∧ Below w.heap.size w w' := by
  have HVS : Hid (∀ V, Calls Tryd.prog 81 #[.agg (sunC hs ts)] V fun e w' => e = .returned (.bool true) ∧ Below V.heap.size V w') := Lib.hid (fun V => by have := ValidSun_any hs ts hh ht V; rw [hv] at this; exact this)
  have HCA : Hid (∀ V, AwsAt V dv ws → Calls Tryd.prog 93 #[dv, .func (.func 91) #[] #[]] V fun e w' => e = .returned (.bool true) ∧ Below V.heap.size V w') := Lib.hid (fun V h => by have := containsAwn_any dv ws V h; rw [ha] at this; exact this)
  have HFC := Lib.hid (fun V => isFacing_is fc true hf V)
  have HRF : Hid (∀ V, ErrsAt V e0 e1 e2 e3 → Calls Tryd.prog 48 #[.bool false, .bool true, .bool true] V fun e w' => e = .returned (.iface 211 (.pointer (some e0))) ∧ V = w') := Lib.hid (fun V h => refusal_any h false true true)
  have hn := fun w => run_neq_held_nil (P := Tryd.prog) (w := w) 88 211 (.pointer (some e0)) (by kernel_rfl)
  have hln : ∃ a0 cap0, dv = .slice a0 ws.length cap0 := by obtain ⟨a, c, e, _⟩ := hds; exact ⟨a, c, e⟩
  obtain ⟨da, dcap, edv⟩ := hln
  have Hh := Lib.hid hh
  have Ht := Lib.hid ht
  have HDK := Lib.hid hds
  have HX := Lib.hid hE
  clear hds hE hh ht
  have zd : decide (((ws.length : Nat) : Int) ≤ 8) = true := decide_eq_true (by omega)
  generalize ws.length = n at *
  clear hv hf hl ha
  subst edv
  go_enter Tryd.func41, Tryd.ntmps41
  go_upto_region 1 with (fail)
  refine abs_world (fun W => W.heap[w.heap.size]? = some (.cells (sunC hs ts) 69 (0, 0)) ∧ Below w.heap.size w W) ⟨heap_alloc_new _ _, (Below.refl _ _).alloc (Nat.le_refl _) _⟩ ?_
  rintro W ⟨h0, hbz⟩
  have H0 := Lib.hid h0
  have HD := Lib.hid (aws_below HDK.out hbz)
  replace HX := Lib.hid (errs_below HX.out hbz)
  clear h0
  go_wp2_with (first | (refine wpList_load_part rfl 69 _ rfl w.heap.size 0 48 rfl 69 (sunC hs ts) (0, 0) _ H0.out Tryd.underlying69 rfl info_sun (sun_fits _ _ Hh.out Ht.out) _ (sun_all _ _ Hh.out Ht.out) ?_) | (go_at_call 81; refine (HVS.out _).mono ?_; rintro e W1 ⟨rfl, hb1⟩; replace H0 := Lib.hid (below_row hb1 H0.out); replace HX := Lib.hid (errs_below HX.out hb1); replace HD := Lib.hid (aws_below HD.out hb1); replace hbz := hbz.trans (hb1.mono hbz.size); clear hb1) | (go_at_call 93; refine (HCA.out _ HD.out).mono ?_; rintro e W2 ⟨rfl, hb2⟩; replace H0 := Lib.hid (below_row hb2 H0.out); replace HX := Lib.hid (errs_below HX.out hb2); replace HD := Lib.hid (aws_below HD.out hb2); replace hbz := hbz.trans (hb2.mono hbz.size); clear hb2) | (go_at_call 83; refine (HFC.out _).mono ?_; rintro e w3 ⟨rfl, rfl⟩) | (go_at_call 48; refine (HRF.out _ HX.out).mono ?_; rintro e W3 ⟨rfl, rfl⟩) | (go_at_call 50; refine (codeOf_any HX.out 1).mono ?_; rintro e W4 ⟨rfl, rfl⟩))
  go_ret3
  exact ⟨rfl, hbz⟩

set_option maxRecDepth 100000 in
set_option maxHeartbeats 4000000 in
theorem iBa_ttff (hs ts : List Int) (hh : hs.length = 24) (ht : ts.length = 24) (fc : Int) (dv : Value) (ws : List Awn) (e0 e1 e2 e3 : Addr) (w : World) (hds : AwsAt w dv ws) (hE : ErrsAt w e0 e1 e2 e3) (hv : okB hs ts = true) (ha : ws.all fitA = true) (hf : inF fc = false) (hl : 8 < ws.length) :
    Calls Tryd.prog 41 #[dv, .agg (sunC hs ts), .int .i64 fc] w fun e w' => e = .returned (.tuple #[.int .i64 0, .float .f32 0, .int .i64 2]) ∧ Below w.heap.size w w' := by
  have HVS : Hid (∀ V, Calls Tryd.prog 81 #[.agg (sunC hs ts)] V fun e w' => e = .returned (.bool true) ∧ Below V.heap.size V w') := Lib.hid (fun V => by have := ValidSun_any hs ts hh ht V; rw [hv] at this; exact this)
  have HCA : Hid (∀ V, AwsAt V dv ws → Calls Tryd.prog 93 #[dv, .func (.func 91) #[] #[]] V fun e w' => e = .returned (.bool false) ∧ Below V.heap.size V w') := Lib.hid (fun V h => by have := containsAwn_any dv ws V h; rw [ha] at this; exact this)
  have HFC := Lib.hid (fun V => isFacing_is fc false hf V)
  have HRF : Hid (∀ V, ErrsAt V e0 e1 e2 e3 → Calls Tryd.prog 48 #[.bool true, .bool false, .bool false] V fun e w' => e = .returned (.iface 211 (.pointer (some e1))) ∧ V = w') := Lib.hid (fun V h => refusal_any h true false false)
  have hn := fun w => run_neq_held_nil (P := Tryd.prog) (w := w) 88 211 (.pointer (some e1)) (by kernel_rfl)
  have hln : ∃ a0 cap0, dv = .slice a0 ws.length cap0 := by obtain ⟨a, c, e, _⟩ := hds; exact ⟨a, c, e⟩
  obtain ⟨da, dcap, edv⟩ := hln
  have Hh := Lib.hid hh
  have Ht := Lib.hid ht
  have HDK := Lib.hid hds
  have HX := Lib.hid hE
  clear hds hE hh ht
  have zd : decide (((ws.length : Nat) : Int) ≤ 8) = false := decide_eq_false (by omega)
  generalize ws.length = n at *
  clear hv hf hl ha
  subst edv
  go_enter Tryd.func41, Tryd.ntmps41
  go_upto_region 1 with (fail)
  refine abs_world (fun W => W.heap[w.heap.size]? = some (.cells (sunC hs ts) 69 (0, 0)) ∧ Below w.heap.size w W) ⟨heap_alloc_new _ _, (Below.refl _ _).alloc (Nat.le_refl _) _⟩ ?_
  rintro W ⟨h0, hbz⟩
  have H0 := Lib.hid h0
  have HD := Lib.hid (aws_below HDK.out hbz)
  replace HX := Lib.hid (errs_below HX.out hbz)
  clear h0
  go_wp2_with (first | (refine wpList_load_part rfl 69 _ rfl w.heap.size 0 48 rfl 69 (sunC hs ts) (0, 0) _ H0.out Tryd.underlying69 rfl info_sun (sun_fits _ _ Hh.out Ht.out) _ (sun_all _ _ Hh.out Ht.out) ?_) | (go_at_call 81; refine (HVS.out _).mono ?_; rintro e W1 ⟨rfl, hb1⟩; replace H0 := Lib.hid (below_row hb1 H0.out); replace HX := Lib.hid (errs_below HX.out hb1); replace HD := Lib.hid (aws_below HD.out hb1); replace hbz := hbz.trans (hb1.mono hbz.size); clear hb1) | (go_at_call 93; refine (HCA.out _ HD.out).mono ?_; rintro e W2 ⟨rfl, hb2⟩; replace H0 := Lib.hid (below_row hb2 H0.out); replace HX := Lib.hid (errs_below HX.out hb2); replace HD := Lib.hid (aws_below HD.out hb2); replace hbz := hbz.trans (hb2.mono hbz.size); clear hb2) | (go_at_call 83; refine (HFC.out _).mono ?_; rintro e w3 ⟨rfl, rfl⟩) | (go_at_call 48; refine (HRF.out _ HX.out).mono ?_; rintro e W3 ⟨rfl, rfl⟩) | (go_at_call 50; refine (codeOf_any HX.out 2).mono ?_; rintro e W4 ⟨rfl, rfl⟩))
  go_ret3
  exact ⟨rfl, hbz⟩

set_option maxRecDepth 100000 in
set_option maxHeartbeats 4000000 in
theorem iBa_ttft (hs ts : List Int) (hh : hs.length = 24) (ht : ts.length = 24) (fc : Int) (dv : Value) (ws : List Awn) (e0 e1 e2 e3 : Addr) (w : World) (hds : AwsAt w dv ws) (hE : ErrsAt w e0 e1 e2 e3) (hv : okB hs ts = true) (ha : ws.all fitA = true) (hf : inF fc = false) (hl : ws.length ≤ 8) :
    Calls Tryd.prog 41 #[dv, .agg (sunC hs ts), .int .i64 fc] w fun e w' => e = .returned (.tuple #[.int .i64 0, .float .f32 0, .int .i64 2]) ∧ Below w.heap.size w w' := by
  have HVS : Hid (∀ V, Calls Tryd.prog 81 #[.agg (sunC hs ts)] V fun e w' => e = .returned (.bool true) ∧ Below V.heap.size V w') := Lib.hid (fun V => by have := ValidSun_any hs ts hh ht V; rw [hv] at this; exact this)
  have HCA : Hid (∀ V, AwsAt V dv ws → Calls Tryd.prog 93 #[dv, .func (.func 91) #[] #[]] V fun e w' => e = .returned (.bool false) ∧ Below V.heap.size V w') := Lib.hid (fun V h => by have := containsAwn_any dv ws V h; rw [ha] at this; exact this)
  have HFC := Lib.hid (fun V => isFacing_is fc false hf V)
  have HRF : Hid (∀ V, ErrsAt V e0 e1 e2 e3 → Calls Tryd.prog 48 #[.bool true, .bool false, .bool true] V fun e w' => e = .returned (.iface 211 (.pointer (some e1))) ∧ V = w') := Lib.hid (fun V h => refusal_any h true false true)
  have hn := fun w => run_neq_held_nil (P := Tryd.prog) (w := w) 88 211 (.pointer (some e1)) (by kernel_rfl)
  have hln : ∃ a0 cap0, dv = .slice a0 ws.length cap0 := by obtain ⟨a, c, e, _⟩ := hds; exact ⟨a, c, e⟩
  obtain ⟨da, dcap, edv⟩ := hln
  have Hh := Lib.hid hh
  have Ht := Lib.hid ht
  have HDK := Lib.hid hds
  have HX := Lib.hid hE
  clear hds hE hh ht
  have zd : decide (((ws.length : Nat) : Int) ≤ 8) = true := decide_eq_true (by omega)
  generalize ws.length = n at *
  clear hv hf hl ha
  subst edv
  go_enter Tryd.func41, Tryd.ntmps41
  go_upto_region 1 with (fail)
  refine abs_world (fun W => W.heap[w.heap.size]? = some (.cells (sunC hs ts) 69 (0, 0)) ∧ Below w.heap.size w W) ⟨heap_alloc_new _ _, (Below.refl _ _).alloc (Nat.le_refl _) _⟩ ?_
  rintro W ⟨h0, hbz⟩
  have H0 := Lib.hid h0
  have HD := Lib.hid (aws_below HDK.out hbz)
  replace HX := Lib.hid (errs_below HX.out hbz)
  clear h0
  go_wp2_with (first | (refine wpList_load_part rfl 69 _ rfl w.heap.size 0 48 rfl 69 (sunC hs ts) (0, 0) _ H0.out Tryd.underlying69 rfl info_sun (sun_fits _ _ Hh.out Ht.out) _ (sun_all _ _ Hh.out Ht.out) ?_) | (go_at_call 81; refine (HVS.out _).mono ?_; rintro e W1 ⟨rfl, hb1⟩; replace H0 := Lib.hid (below_row hb1 H0.out); replace HX := Lib.hid (errs_below HX.out hb1); replace HD := Lib.hid (aws_below HD.out hb1); replace hbz := hbz.trans (hb1.mono hbz.size); clear hb1) | (go_at_call 93; refine (HCA.out _ HD.out).mono ?_; rintro e W2 ⟨rfl, hb2⟩; replace H0 := Lib.hid (below_row hb2 H0.out); replace HX := Lib.hid (errs_below HX.out hb2); replace HD := Lib.hid (aws_below HD.out hb2); replace hbz := hbz.trans (hb2.mono hbz.size); clear hb2) | (go_at_call 83; refine (HFC.out _).mono ?_; rintro e w3 ⟨rfl, rfl⟩) | (go_at_call 48; refine (HRF.out _ HX.out).mono ?_; rintro e W3 ⟨rfl, rfl⟩) | (go_at_call 50; refine (codeOf_any HX.out 2).mono ?_; rintro e W4 ⟨rfl, rfl⟩))
  go_ret3
  exact ⟨rfl, hbz⟩

set_option maxRecDepth 100000 in
set_option maxHeartbeats 4000000 in
theorem iBa_tttf (hs ts : List Int) (hh : hs.length = 24) (ht : ts.length = 24) (fc : Int) (dv : Value) (ws : List Awn) (e0 e1 e2 e3 : Addr) (w : World) (hds : AwsAt w dv ws) (hE : ErrsAt w e0 e1 e2 e3) (hv : okB hs ts = true) (ha : ws.all fitA = true) (hf : inF fc = true) (hl : 8 < ws.length) :
    Calls Tryd.prog 41 #[dv, .agg (sunC hs ts), .int .i64 fc] w fun e w' => e = .returned (.tuple #[.int .i64 0, .float .f32 0, .int .i64 3]) ∧ Below w.heap.size w w' := by
  have HVS : Hid (∀ V, Calls Tryd.prog 81 #[.agg (sunC hs ts)] V fun e w' => e = .returned (.bool true) ∧ Below V.heap.size V w') := Lib.hid (fun V => by have := ValidSun_any hs ts hh ht V; rw [hv] at this; exact this)
  have HCA : Hid (∀ V, AwsAt V dv ws → Calls Tryd.prog 93 #[dv, .func (.func 91) #[] #[]] V fun e w' => e = .returned (.bool false) ∧ Below V.heap.size V w') := Lib.hid (fun V h => by have := containsAwn_any dv ws V h; rw [ha] at this; exact this)
  have HFC := Lib.hid (fun V => isFacing_is fc true hf V)
  have HRF : Hid (∀ V, ErrsAt V e0 e1 e2 e3 → Calls Tryd.prog 48 #[.bool true, .bool true, .bool false] V fun e w' => e = .returned (.iface 211 (.pointer (some e2))) ∧ V = w') := Lib.hid (fun V h => refusal_any h true true false)
  have hn := fun w => run_neq_held_nil (P := Tryd.prog) (w := w) 88 211 (.pointer (some e2)) (by kernel_rfl)
  have hln : ∃ a0 cap0, dv = .slice a0 ws.length cap0 := by obtain ⟨a, c, e, _⟩ := hds; exact ⟨a, c, e⟩
  obtain ⟨da, dcap, edv⟩ := hln
  have Hh := Lib.hid hh
  have Ht := Lib.hid ht
  have HDK := Lib.hid hds
  have HX := Lib.hid hE
  clear hds hE hh ht
  have zd : decide (((ws.length : Nat) : Int) ≤ 8) = false := decide_eq_false (by omega)
  generalize ws.length = n at *
  clear hv hf hl ha
  subst edv
  go_enter Tryd.func41, Tryd.ntmps41
  go_upto_region 1 with (fail)
  refine abs_world (fun W => W.heap[w.heap.size]? = some (.cells (sunC hs ts) 69 (0, 0)) ∧ Below w.heap.size w W) ⟨heap_alloc_new _ _, (Below.refl _ _).alloc (Nat.le_refl _) _⟩ ?_
  rintro W ⟨h0, hbz⟩
  have H0 := Lib.hid h0
  have HD := Lib.hid (aws_below HDK.out hbz)
  replace HX := Lib.hid (errs_below HX.out hbz)
  clear h0
  go_wp2_with (first | (refine wpList_load_part rfl 69 _ rfl w.heap.size 0 48 rfl 69 (sunC hs ts) (0, 0) _ H0.out Tryd.underlying69 rfl info_sun (sun_fits _ _ Hh.out Ht.out) _ (sun_all _ _ Hh.out Ht.out) ?_) | (go_at_call 81; refine (HVS.out _).mono ?_; rintro e W1 ⟨rfl, hb1⟩; replace H0 := Lib.hid (below_row hb1 H0.out); replace HX := Lib.hid (errs_below HX.out hb1); replace HD := Lib.hid (aws_below HD.out hb1); replace hbz := hbz.trans (hb1.mono hbz.size); clear hb1) | (go_at_call 93; refine (HCA.out _ HD.out).mono ?_; rintro e W2 ⟨rfl, hb2⟩; replace H0 := Lib.hid (below_row hb2 H0.out); replace HX := Lib.hid (errs_below HX.out hb2); replace HD := Lib.hid (aws_below HD.out hb2); replace hbz := hbz.trans (hb2.mono hbz.size); clear hb2) | (go_at_call 83; refine (HFC.out _).mono ?_; rintro e w3 ⟨rfl, rfl⟩) | (go_at_call 48; refine (HRF.out _ HX.out).mono ?_; rintro e W3 ⟨rfl, rfl⟩) | (go_at_call 50; refine (codeOf_any HX.out 3).mono ?_; rintro e W4 ⟨rfl, rfl⟩))
  go_ret3
  exact ⟨rfl, hbz⟩

set_option maxRecDepth 100000 in
set_option maxHeartbeats 4000000 in
theorem iBa_e (hs ts : List Int) (hh : hs.length = 24) (ht : ts.length = 24) (fc : Int) (dv : Value) (ws : List Awn) (e0 e1 e2 e3 : Addr) (w : World) (hds : AwsAt w dv ws) (hE : ErrsAt w e0 e1 e2 e3) (hv : okB hs ts = true) (ha : ws.all fitA = true) (hf : inF fc = true) (hl : ws.length = 0) :
    Calls Tryd.prog 41 #[dv, .agg (sunC hs ts), .int .i64 fc] w fun e w' => e = .returned (.tuple #[.int .i64 0, .float .f32 0, .int .i64 6]) ∧ Below w.heap.size w w' := by
  have HVS : Hid (∀ V, Calls Tryd.prog 81 #[.agg (sunC hs ts)] V fun e w' => e = .returned (.bool true) ∧ Below V.heap.size V w') := Lib.hid (fun V => by have := ValidSun_any hs ts hh ht V; rw [hv] at this; exact this)
  have HCA : Hid (∀ V, AwsAt V dv ws → Calls Tryd.prog 93 #[dv, .func (.func 91) #[] #[]] V fun e w' => e = .returned (.bool false) ∧ Below V.heap.size V w') := Lib.hid (fun V h => by have := containsAwn_any dv ws V h; rw [ha] at this; exact this)
  have HFC := Lib.hid (fun V => isFacing_is fc true hf V)
  have HRF : Hid (∀ V, ErrsAt V e0 e1 e2 e3 → Calls Tryd.prog 48 #[.bool true, .bool true, .bool true] V fun e w' => e = .returned .nilIface ∧ V = w') := Lib.hid (fun V h => refusal_any h true true true)
  have hn := fun w => run_neq_nil_nil (P := Tryd.prog) (w := w) 88 (by kernel_rfl)
  have hln : ∃ a0 cap0, dv = .slice a0 ws.length cap0 := by obtain ⟨a, c, e, _⟩ := hds; exact ⟨a, c, e⟩
  obtain ⟨da, dcap, edv⟩ := hln
  have Hh := Lib.hid hh
  have Ht := Lib.hid ht
  have HDK := Lib.hid hds
  have HX := Lib.hid hE
  clear hds hE hh ht
  rw [hl] at edv
  clear hv ha hf hl
  subst edv
  go_enter Tryd.func41, Tryd.ntmps41
  go_upto_region 1 with (fail)
  refine abs_world (fun W => W.heap[w.heap.size]? = some (.cells (sunC hs ts) 69 (0, 0)) ∧ Below w.heap.size w W) ⟨heap_alloc_new _ _, (Below.refl _ _).alloc (Nat.le_refl _) _⟩ ?_
  rintro W ⟨h0, hbz⟩
  have H0 := Lib.hid h0
  have HD := Lib.hid (aws_below HDK.out hbz)
  replace HX := Lib.hid (errs_below HX.out hbz)
  clear h0
  go_wp2_with (first | (refine wpList_load_part rfl 69 _ rfl w.heap.size 0 48 rfl 69 (sunC hs ts) (0, 0) _ H0.out Tryd.underlying69 rfl info_sun (sun_fits _ _ Hh.out Ht.out) _ (sun_all _ _ Hh.out Ht.out) ?_) | (go_at_call 81; refine (HVS.out _).mono ?_; rintro e W1 ⟨rfl, hb1⟩; replace H0 := Lib.hid (below_row hb1 H0.out); replace HX := Lib.hid (errs_below HX.out hb1); replace HD := Lib.hid (aws_below HD.out hb1); replace hbz := hbz.trans (hb1.mono hbz.size); clear hb1) | (go_at_call 93; refine (HCA.out _ HD.out).mono ?_; rintro e W2 ⟨rfl, hb2⟩; replace H0 := Lib.hid (below_row hb2 H0.out); replace HX := Lib.hid (errs_below HX.out hb2); replace HD := Lib.hid (aws_below HD.out hb2); replace hbz := hbz.trans (hb2.mono hbz.size); clear hb2) | (go_at_call 83; refine (HFC.out _).mono ?_; rintro e w3 ⟨rfl, rfl⟩) | (go_at_call 48; refine (HRF.out _ HX.out).mono ?_; rintro e W3 ⟨rfl, rfl⟩))
  go_ret3
  exact ⟨rfl, hbz⟩

theorem iBa_n (hs ts : List Int) (hh : hs.length = 24) (ht : ts.length = 24) (fc : Int) (dv : Value) (ws : List Awn) (e0 e1 e2 e3 : Addr) (w : World) (hds : AwsAt w dv ws) (hE : ErrsAt w e0 e1 e2 e3) (c : Int) (hc : codeA (okB hs ts) (ws.all fitA) (inF fc) ws.length = c) (hne : c ≠ 0) :
    Calls Tryd.prog 41 #[dv, .agg (sunC hs ts), .int .i64 fc] w fun e w' => e = .returned (.tuple #[.int .i64 0, .float .f32 0, .int .i64 c]) ∧ Below w.heap.size w w' := by
  by_cases hl : ws.length ≤ 8
  · have hl' : ¬ 8 < ws.length := by omega
    by_cases hz : ws.length = 0
    · cases hv : okB hs ts <;> cases ha : ws.all fitA <;> cases hf : inF fc <;> rw [hv, ha, hf] at hc <;> simp only [codeA, hz] at hc <;> simp at hc <;> subst hc
      · exact iBa_ffft hs ts hh ht fc dv ws e0 e1 e2 e3 w hds hE hv hf hl
      · exact iBa_fftt hs ts hh ht fc dv ws e0 e1 e2 e3 w hds hE hv hf hl
      · exact iBa_ffft hs ts hh ht fc dv ws e0 e1 e2 e3 w hds hE hv hf hl
      · exact iBa_fftt hs ts hh ht fc dv ws e0 e1 e2 e3 w hds hE hv hf hl
      · exact iBa_tfft hs ts hh ht fc dv ws e0 e1 e2 e3 w hds hE hv ha hf hl
      · exact iBa_tftt hs ts hh ht fc dv ws e0 e1 e2 e3 w hds hE hv ha hf hl
      · exact iBa_ttft hs ts hh ht fc dv ws e0 e1 e2 e3 w hds hE hv ha hf hl
      · exact iBa_e hs ts hh ht fc dv ws e0 e1 e2 e3 w hds hE hv ha hf hz
    · cases hv : okB hs ts <;> cases ha : ws.all fitA <;> cases hf : inF fc <;> rw [hv, ha, hf] at hc <;> simp only [codeA, hl', hz] at hc <;> simp at hc <;> subst hc
      · exact iBa_ffft hs ts hh ht fc dv ws e0 e1 e2 e3 w hds hE hv hf hl
      · exact iBa_fftt hs ts hh ht fc dv ws e0 e1 e2 e3 w hds hE hv hf hl
      · exact iBa_ffft hs ts hh ht fc dv ws e0 e1 e2 e3 w hds hE hv hf hl
      · exact iBa_fftt hs ts hh ht fc dv ws e0 e1 e2 e3 w hds hE hv hf hl
      · exact iBa_tfft hs ts hh ht fc dv ws e0 e1 e2 e3 w hds hE hv ha hf hl
      · exact iBa_tftt hs ts hh ht fc dv ws e0 e1 e2 e3 w hds hE hv ha hf hl
      · exact iBa_ttft hs ts hh ht fc dv ws e0 e1 e2 e3 w hds hE hv ha hf hl
      · exact absurd rfl hne
  · have hl : 8 < ws.length := by omega
    cases hv : okB hs ts <;> cases ha : ws.all fitA <;> cases hf : inF fc <;> rw [hv, ha, hf] at hc <;> simp only [codeA, hl] at hc <;> simp at hc <;> subst hc
    · exact iBa_ffff hs ts hh ht fc dv ws e0 e1 e2 e3 w hds hE hv hf hl
    · exact iBa_fftf hs ts hh ht fc dv ws e0 e1 e2 e3 w hds hE hv hf hl
    · exact iBa_ffff hs ts hh ht fc dv ws e0 e1 e2 e3 w hds hE hv hf hl
    · exact iBa_fftf hs ts hh ht fc dv ws e0 e1 e2 e3 w hds hE hv hf hl
    · exact iBa_tfff hs ts hh ht fc dv ws e0 e1 e2 e3 w hds hE hv ha hf hl
    · exact iBa_tftf hs ts hh ht fc dv ws e0 e1 e2 e3 w hds hE hv ha hf hl
    · exact iBa_ttff hs ts hh ht fc dv ws e0 e1 e2 e3 w hds hE hv ha hf hl
    · exact iBa_tttf hs ts hh ht fc dv ws e0 e1 e2 e3 w hds hE hv ha hf hl

set_option maxRecDepth 100000 in
set_option maxHeartbeats 4000000 in
theorem iBa_y (hs ts : List Int) (hh : hs.length = 24) (ht : ts.length = 24) (fc : Int) (dv : Value) (ws : List Awn) (e0 e1 e2 e3 : Addr) (w : World) (hds : AwsAt w dv ws) (hE : ErrsAt w e0 e1 e2 e3) (aw : ∀ x ∈ ws, AwOk x.1 x.2.1 x.2.2.1 x.2.2.2) (q : ∀ k : Nat, k < 24 → HrOk hs ts (k : Int) fc) (hv : okB hs ts = true) (ha : ws.all fitA = true) (hf : inF fc = true) (hl : ws.length ≤ 8) (hl0 : ws.length ≠ 0) :
    Calls Tryd.prog 41 #[dv, .agg (sunC hs ts), .int .i64 fc] w fun e w' => e = .returned (.tuple #[.int .i64 ((bestA (baN hs ts fc ws) ws.length : Nat) : Int), .float .f32 (leastA (baN hs ts fc ws) ws.length), .int .i64 0]) ∧ Below w.heap.size w w' := by
  have HVS : Hid (∀ V, Calls Tryd.prog 81 #[.agg (sunC hs ts)] V fun e w' => e = .returned (.bool true) ∧ Below V.heap.size V w') := Lib.hid (fun V => by have := ValidSun_any hs ts hh ht V; rw [hv] at this; exact this)
  have HCA : Hid (∀ V, AwsAt V dv ws → Calls Tryd.prog 93 #[dv, .func (.func 91) #[] #[]] V fun e w' => e = .returned (.bool false) ∧ Below V.heap.size V w') := Lib.hid (fun V h => by have := containsAwn_any dv ws V h; rw [ha] at this; exact this)
  have HFC := Lib.hid (fun V => isFacing_is fc true hf V)
  have HRF : Hid (∀ V, ErrsAt V e0 e1 e2 e3 → Calls Tryd.prog 48 #[.bool true, .bool true, .bool true] V fun e w' => e = .returned .nilIface ∧ V = w') := Lib.hid (fun V h => refusal_any h true true true)
  have hn := fun w => run_neq_nil_nil (P := Tryd.prog) (w := w) 88 (by kernel_rfl)
  have HGL : Hid (∀ (k : Nat) (x : Awn), ws[k]? = some x → ∀ W, Calls Tryd.prog 94 #[.func (.func 96) #[.agg (shC hs ts fc x.1 x.2.1 x.2.2.1 x.2.2.2)] #[]] W fun e w' => e = .returned (.float .f32 (baN hs ts fc ws k)) ∧ Below W.heap.size W w') := Lib.hid (fun k x hx W => by
    have := baDay_any hs ts fc x (aw x (List.mem_of_getElem? hx)) hh ht q W
    unfold baN
    rw [hx]
    exact this)
  have HSO : Hid (∀ (x : Awn) W, Calls Tryd.prog 95 #[.agg (awnC x), .agg (sunC hs ts), .int .i64 fc] W fun e w' => e = .returned (.agg (shC hs ts fc x.1 x.2.1 x.2.2.1 x.2.2.2)) ∧ Below W.heap.size W w') := Lib.hid (fun x W => shadeOf_any x.1 x.2.1 x.2.2.1 x.2.2.2 hs ts hh ht fc W)
  have HFN := Lib.hid (fun k => baN_fin (ws := ws) aw q k)
  have hln : ∃ a0 cap0, dv = .slice a0 ws.length cap0 := by obtain ⟨a, c, e, _⟩ := hds; exact ⟨a, c, e⟩
  obtain ⟨da, dcap, edv⟩ := hln
  have Hh := Lib.hid hh
  have Ht := Lib.hid ht
  have HDK := Lib.hid hds
  have HX := Lib.hid hE
  clear hds hE hh ht
  have zd : decide (((ws.length : Nat) : Int) ≤ 8) = true := decide_eq_true (by omega)
  have z0 : (((ws.length : Nat) : Int) == 0) = false := beq_eq_false_iff_ne.2 (by omega)
  generalize baN hs ts fc ws = d at *
  clear hv ha hf aw q
  generalize hnn : ws.length = n at *
  have HN := Lib.hid hnn
  clear hnn
  subst edv
  go_enter Tryd.func41, Tryd.ntmps41
  go_upto_region 1 with (fail)
  refine abs_world (fun W => W.heap[w.heap.size]? = some (.cells (sunC hs ts) 69 (0, 0)) ∧ Below w.heap.size w W) ⟨heap_alloc_new _ _, (Below.refl _ _).alloc (Nat.le_refl _) _⟩ ?_
  rintro W ⟨h0, hbz⟩
  have H0 := Lib.hid h0
  have HD := Lib.hid (aws_below HDK.out hbz)
  replace HX := Lib.hid (errs_below HX.out hbz)
  clear h0
  go_upto_region 8 with (first | (refine wpList_load_part rfl 69 _ rfl w.heap.size 0 48 rfl 69 (sunC hs ts) (0, 0) _ H0.out Tryd.underlying69 rfl info_sun (sun_fits _ _ Hh.out Ht.out) _ (sun_all _ _ Hh.out Ht.out) ?_) | (go_at_call 81; refine (HVS.out _).mono ?_; rintro e W1 ⟨rfl, hb1⟩; replace H0 := Lib.hid (below_row hb1 H0.out); replace HX := Lib.hid (errs_below HX.out hb1); replace HD := Lib.hid (aws_below HD.out hb1); replace hbz := hbz.trans (hb1.mono hbz.size); clear hb1) | (go_at_call 93; refine (HCA.out _ HD.out).mono ?_; rintro e W2 ⟨rfl, hb2⟩; replace H0 := Lib.hid (below_row hb2 H0.out); replace HX := Lib.hid (errs_below HX.out hb2); replace HD := Lib.hid (aws_below HD.out hb2); replace hbz := hbz.trans (hb2.mono hbz.size); clear hb2) | (go_at_call 83; refine (HFC.out _).mono ?_; rintro e w3 ⟨rfl, rfl⟩) | (go_at_call 48; refine (HRF.out _ HX.out).mono ?_; rintro e W3 ⟨rfl, rfl⟩))
  clear HD HX HVS HCA HFC HRF hn zd z0
  go_wp2
  go_loopw [12, 13, 41] (fun a f i wr => ∃ k : Nat, k ≤ n ∧ i = .int .i64 (k : Int) ∧ a = .int .i64 ((bestA d k : Nat) : Int) ∧ f = .float .f32 (leastA d k) ∧ wr.heap[w.heap.size]? = some (.cells (sunC hs ts) 69 (0, 0)) ∧ Below w.heap.size w wr) (fun _ _ i _ => n - (intOf i).toNat)
  case atStart => exact ⟨0, Nat.zero_le _, rfl, rfl, rfl, H0.out, hbz⟩
  case round =>
    clear H0 hbz
    obtain ⟨k, hk, rfl, rfl, rfl, h0, hbz⟩ := hrel
    have H0 := Lib.hid h0
    clear h0
    by_cases hlt : k < n
    · have hx : ws[k]? = some (ws[k]'(by rw [HN.out]; exact hlt)) := List.getElem?_eq_getElem _
      obtain ⟨g, o, rfl, hc⟩ := awn_at (aws_below HDK.out hbz) hx
      have HCl := Lib.hid hc
      have HGX := Lib.hid (HGL.out k _ hx)
      generalize (ws[k]'(by rw [HN.out]; exact hlt)) = x at *
      have HSH := Lib.hid (HSO.out x)
      have z1 : (k : Int) < (n : Int) := by omega
      have z2 : (0 : Int) ≤ (k : Int) := by omega
      clear hc hx HGL HSO
      go_upto_region 13 with (first | (refine wpList_load_cells rfl 139 _ rfl g (o + k * 4) 4 rfl _ Tryd.underlying139 rfl info_aw (awnC x) rfl HCl.out ?_) | (refine wpList_store_part rfl 139 _ _ rfl _ 0 (awnC x) rfl rfl 139 _ (heap_alloc_new _ _) info_aw (Nat.le_refl _) (awn_one _) ?_; rw [laid_allA _ _ (by rfl)]))
      refine abs_world (fun X => X.heap[w.heap.size]? = some (.cells (sunC hs ts) 69 (0, 0)) ∧ X.heap[wr.heap.size]? = some (.cells (awnC x) 139 (0, 0)) ∧ Below w.heap.size w X) ⟨below_row (baZ _ _ _) H0.out, setRow_heap _ _ _ _ _ _ (heap_alloc_new _ _), hbz.trans ((baZ _ _ _).mono hbz.size)⟩ ?_
      clear H0 hbz
      generalize wr.heap.size = db at *
      rintro X ⟨h0, h1, hbz⟩
      have H0 := Lib.hid h0
      have HB := Lib.hid h1
      clear h0 h1
      cases k with
      | zero =>
        have zk : (((0 : Nat) : Int) == 0) = true := rfl
        go_wp2_with (first | (refine wpList_load_part rfl 69 _ rfl w.heap.size 0 48 rfl 69 (sunC hs ts) (0, 0) _ H0.out Tryd.underlying69 rfl info_sun (sun_fits _ _ Hh.out Ht.out) _ (sun_all _ _ Hh.out Ht.out) ?_) | (refine wpList_load_part rfl 139 _ rfl db 0 4 rfl 139 (awnC x) (0, 0) _ HB.out Tryd.underlying139 rfl info_aw (awn_fits _) _ (awn_all _) ?_) | (go_at_call 95; refine (HSH.out _).mono ?_; rintro e W5 ⟨rfl, hb5⟩; replace H0 := Lib.hid (below_row hb5 H0.out); replace hbz := hbz.trans (hb5.mono hbz.size); clear hb5) | (go_at_call 94; refine (HGX.out _).mono ?_; rintro e W6 ⟨rfl, hb6⟩; replace H0 := Lib.hid (below_row hb6 H0.out); replace hbz := hbz.trans (hb6.mono hbz.size); clear hb6))
        go_roundw
        case rel => exact ⟨1, by omega, by go_num, by trivial, by trivial, H0.out, hbz⟩
        case measure => simp [intOf]; omega
      | succ j =>
        have zk : (((j + 1 : Nat) : Int) == 0) = false := beq_eq_false_iff_ne.2 (by omega)
        have hord := ordA (HFN.out (j + 1)) (HFN.out (firstMin d j))
        have HM : Hid (_ ∧ _) := Lib.hid (And.intro (@firstMin_hit d j) (@firstMin_miss d j))
        rw [show bestA d (j + 1) = firstMin d j from rfl, show leastA d (j + 1) = d (firstMin d j) from rfl]
        have HKL := Lib.hid (rfl : ((j + 1 : Nat) : Int) = ((j + 1 : Nat) : Int))
        clear HFN
        generalize hkk : j + 1 = k1 at *
        rcases hord with ⟨ho, hm⟩ | ⟨ho, hm⟩ | ⟨ho, hm⟩
        · have HF := Lib.hid (HM.out.1 hm)
          clear HM hm
          go_wp2_with (first | (refine wpList_load_part rfl 69 _ rfl w.heap.size 0 48 rfl 69 (sunC hs ts) (0, 0) _ H0.out Tryd.underlying69 rfl info_sun (sun_fits _ _ Hh.out Ht.out) _ (sun_all _ _ Hh.out Ht.out) ?_) | (refine wpList_load_part rfl 139 _ rfl db 0 4 rfl 139 (awnC x) (0, 0) _ HB.out Tryd.underlying139 rfl info_aw (awn_fits _) _ (awn_all _) ?_) | (go_at_call 95; refine (HSH.out _).mono ?_; rintro e W5 ⟨rfl, hb5⟩; replace H0 := Lib.hid (below_row hb5 H0.out); replace hbz := hbz.trans (hb5.mono hbz.size); clear hb5) | (go_at_call 94; refine (HGX.out _).mono ?_; rintro e W6 ⟨rfl, hb6⟩; replace H0 := Lib.hid (below_row hb6 H0.out); replace hbz := hbz.trans (hb6.mono hbz.size); clear hb6))
          go_roundw
          case rel => exact ⟨k1 + 1, by omega, by go_num, by rw [show bestA d (k1 + 1) = firstMin d k1 from rfl, HF.out], by rw [show leastA d (k1 + 1) = d (firstMin d k1) from rfl, HF.out], H0.out, hbz⟩
          case measure => simp [intOf]; omega
        · have HF := Lib.hid (HM.out.2 hm)
          clear HM hm
          go_wp2_with (first | (refine wpList_load_part rfl 69 _ rfl w.heap.size 0 48 rfl 69 (sunC hs ts) (0, 0) _ H0.out Tryd.underlying69 rfl info_sun (sun_fits _ _ Hh.out Ht.out) _ (sun_all _ _ Hh.out Ht.out) ?_) | (refine wpList_load_part rfl 139 _ rfl db 0 4 rfl 139 (awnC x) (0, 0) _ HB.out Tryd.underlying139 rfl info_aw (awn_fits _) _ (awn_all _) ?_) | (go_at_call 95; refine (HSH.out _).mono ?_; rintro e W5 ⟨rfl, hb5⟩; replace H0 := Lib.hid (below_row hb5 H0.out); replace hbz := hbz.trans (hb5.mono hbz.size); clear hb5) | (go_at_call 94; refine (HGX.out _).mono ?_; rintro e W6 ⟨rfl, hb6⟩; replace H0 := Lib.hid (below_row hb6 H0.out); replace hbz := hbz.trans (hb6.mono hbz.size); clear hb6))
          go_roundw
          case rel => exact ⟨k1 + 1, by omega, by go_num, by rw [show bestA d (k1 + 1) = firstMin d k1 from rfl, HF.out], by rw [show leastA d (k1 + 1) = d (firstMin d k1) from rfl, HF.out], H0.out, hbz⟩
          case measure => simp [intOf]; omega
        · have HF := Lib.hid (HM.out.2 hm)
          clear HM hm
          go_wp2_with (first | (refine wpList_load_part rfl 69 _ rfl w.heap.size 0 48 rfl 69 (sunC hs ts) (0, 0) _ H0.out Tryd.underlying69 rfl info_sun (sun_fits _ _ Hh.out Ht.out) _ (sun_all _ _ Hh.out Ht.out) ?_) | (refine wpList_load_part rfl 139 _ rfl db 0 4 rfl 139 (awnC x) (0, 0) _ HB.out Tryd.underlying139 rfl info_aw (awn_fits _) _ (awn_all _) ?_) | (go_at_call 95; refine (HSH.out _).mono ?_; rintro e W5 ⟨rfl, hb5⟩; replace H0 := Lib.hid (below_row hb5 H0.out); replace hbz := hbz.trans (hb5.mono hbz.size); clear hb5) | (go_at_call 94; refine (HGX.out _).mono ?_; rintro e W6 ⟨rfl, hb6⟩; replace H0 := Lib.hid (below_row hb6 H0.out); replace hbz := hbz.trans (hb6.mono hbz.size); clear hb6))
          go_roundw
          case rel => exact ⟨k1 + 1, by omega, by go_num, by rw [show bestA d (k1 + 1) = firstMin d k1 from rfl, HF.out], by rw [show leastA d (k1 + 1) = d (firstMin d k1) from rfl, HF.out], H0.out, hbz⟩
          case measure => simp [intOf]; omega
    · obtain rfl : k = n := by omega
      go_wp2
      go_ret3
      exact ⟨rfl, hbz⟩

end Go.Proofs.YtdccmdcgbembpaaDoor

namespace Go.Proofs.YtdccmdcgbembpaaDoor
open Go.RowKit

attribute [local go_sem] run_store_f

/-- An awning that lies somewhere in a block. -/
def AwAt (w : World) (g p o dr gp tl : Nat) : Prop := w.cell? ⟨g, p, none⟩ = some (.float .f32 o) ∧ w.cell? ⟨g, p + 1, none⟩ = some (.float .f32 dr) ∧ w.cell? ⟨g, p + 2, none⟩ = some (.float .f32 gp) ∧ w.cell? ⟨g, p + 3, none⟩ = some (.float .f32 tl)

theorem awAt_below {w w' : World} {g p o dr gp tl : Nat} (hb : Below w.heap.size w w') (h : AwAt w g p o dr gp tl) : AwAt w' g p o dr gp tl := ⟨cell_below hb h.1, cell_below hb h.2.1, cell_below hb h.2.2.1, cell_below hb h.2.2.2⟩

theorem awAt_of {w : World} {g p : Nat} {x : Awn} (h : ∀ j v, (awnC x)[j]? = some v → w.cell? ⟨g, p + j, none⟩ = some v) : AwAt w g p x.1 x.2.1 x.2.2.1 x.2.2.2 := ⟨h 0 _ rfl, h 1 _ rfl, h 2 _ rfl, h 3 _ rfl⟩

set_option maxRecDepth 100000 in
set_option maxHeartbeats 4000000 in
theorem l04OkO_any (o dr gp tl : Nat) (g p : Nat) (w : World) (hg : AwAt w g p o dr gp tl) :
    Calls Tryd.prog 88 #[.pointer (some ⟨g, p, none⟩)] w fun e w' => e = .returned (.bool (okAw o dr gp tl)) ∧ w = w' := by
  obtain ⟨c0, c1, c2, c3⟩ := id hg
  clear hg
  go_enter Tryd.func88, Tryd.ntmps88
  go_wp2_with (go_at_call 122; refine (l04Between_any _ _ _ _).mono ?_; rintro e w' ⟨rfl, rfl⟩)
  all_goals
    go_ret
    refine ⟨?_, rfl⟩
    simp [okAw, *]

set_option maxRecDepth 100000 in
set_option maxHeartbeats 4000000 in
theorem l04PartO_zero (o dr gp tl : Nat) (hs ts : List Int) (hh : hs.length = 24) (ht : ts.length = 24) (fc hour : Int) (k : HrOk hs ts hour fc) (hf : fallOf hs ts hour fc = 0) (g1 p1 g2 : Nat) (T2 : TypeId) (f2 : Nat × Nat) (w : World) (q1 : AwAt w g1 p1 o dr gp tl) (q2 : w.heap[g2]? = some (.cells (sunC hs ts) T2 f2)) :
    Calls Tryd.prog 141 #[.pointer (some ⟨g1, p1, none⟩), .pointer (some ⟨g2, 0, none⟩), .int .i64 hour, .int .i64 fc] w fun e w' => e = .returned (.float .f32 0) ∧ Below w.heap.size w w' := by
  have HF := Lib.hid (fun w (h : w.heap[g2]? = some (.cells (sunC hs ts) T2 f2)) => l01Fall_any g2 hs ts hh ht hour fc k.h0 k.h1 k.f0 k.f1 k.x1 k.y0 k.y1 T2 f2 w h)
  rw [hf] at HF
  have ho := fall_eq
  have H1 := Lib.hid q1
  have H2 := Lib.hid q2
  have hb : Below w.heap.size w w := Below.refl _ _
  clear k hf hh ht q1 q2
  go_enter Tryd.func141, Tryd.ntmps141
  go_wp2_with (go_at_call 78; refine (HF.out _ H2.out).mono ?_; rintro e W1 ⟨rfl, hb1⟩; replace H1 := Lib.hid (awAt_below hb1 H1.out); replace H2 := Lib.hid (below_row hb1 H2.out); replace hb := hb.trans (hb1.mono hb.size); clear hb1)
  go_ret
  exact ⟨rfl, hb⟩

set_option maxRecDepth 100000 in
set_option maxHeartbeats 4000000 in
theorem l04PartO_pos {o dr gp tl : Nat} (aw : AwOk o dr gp tl) (hs ts : List Int) (hh : hs.length = 24) (ht : ts.length = 24) (fc hour : Int) (k : HrOk hs ts hour fc) (f : Nat) (hf : fallOf hs ts hour fc = f) (f0 : 975015322 ≤ f) (f1 : f ≤ 1065353216) (x0 : 0 < atH hs hour) (g1 p1 g2 : Nat) (T2 : TypeId) (fr2 : Nat × Nat) (w : World) (q1 : AwAt w g1 p1 o dr gp tl) (q2 : w.heap[g2]? = some (.cells (sunC hs ts) T2 fr2)) :
    Calls Tryd.prog 141 #[.pointer (some ⟨g1, p1, none⟩), .pointer (some ⟨g2, 0, none⟩), .int .i64 hour, .int .i64 fc] w fun e w' => e = .returned (.float .f32 (cutB (quoA o dr gp tl (atH hs hour) f))) ∧ Below w.heap.size w w' := by
  have HF := Lib.hid (fun w (h : w.heap[g2]? = some (.cells (sunC hs ts) T2 fr2)) => l01Fall_any g2 hs ts hh ht hour fc k.h0 k.h1 k.f0 k.f1 k.x1 k.y0 k.y1 T2 fr2 w h)
  rw [hf] at HF
  have HG := Lib.hid (fun w => l01Sine_any (atH hs hour) w)
  rw [angB_id (atH hs hour) (Int.le_of_lt x0) (Int.le_trans k.x1 (by decide))] at HG
  have ho := fall_gt f0 f1
  obtain ⟨r1, r2, r3, r4, r5, r6⟩ := shade_facts aw.o aw.d aw.g aw.t0 aw.t1 x0 k.x1 f0 f1
  have hq := quoA_lt r5
  obtain ⟨oq, hoq⟩ := order_some r6 zero_fin
  obtain ⟨o1, ho1⟩ := order_some r6 (num_fin (num_of_isNum (x := 1065353216) (.inl (by decide))))
  obtain ⟨n, rfl⟩ := Int.eq_ofNat_of_zero_le k.h0
  have hn : n < 24 := by have := k.h1; omega
  have e1 : hs[n]?.getD 0 = atH hs (n : Int) := by unfold atH; rw [Int.toNat_natCast]
  generalize quoA o dr gp tl (atH hs (n : Int)) f = q at *
  generalize depB o dr (atH hs (n : Int)) f = de at *
  generalize ratB (atH hs (n : Int)) f = ra at *
  generalize sineB (atH hs (n : Int)) = sx at *
  generalize fsub de gp = su at *
  generalize fmul o ra = mu at *
  have z1 := run_qf _ _ _ _ r1
  have z2 := run_qf _ _ _ _ r2
  have z3 := run_qf _ _ _ _ r3
  have z4 := run_qf _ _ _ _ r4
  have z5 := run_qf _ _ _ _ r5
  have cx := cell_sun_h q2 hh n hn
  rw [e1] at cx
  have b0 := k.x0
  have b1 := k.x1
  clear e1
  generalize atH hs (n : Int) = x at *
  obtain ⟨c0, c1, c2, c3⟩ := id q1
  have hb : Below w.heap.size w w := Below.refl _ _
  have H2 := Lib.hid q2
  clear k hf r1 r2 r3 r4 r5 x0 f0 f1 aw q1 q2 hh ht r6 hq
  go_enter Tryd.func141, Tryd.ntmps141
  go_upto_region 5 with (first | (go_at_call 78; refine (HF.out _ H2.out).mono ?_; rintro e W1 ⟨rfl, hb1⟩; replace c0 := cell_belowB hb1 c0; replace c1 := cell_belowB hb1 c1; replace c2 := cell_belowB hb1 c2; replace c3 := cell_belowB hb1 c3; replace cx := cell_belowB hb1 cx; replace hb := hb.trans (hb1.mono hb.size); clear hb1) | (go_at_call 139; refine (HG.out _).mono ?_; rintro e w2 ⟨rfl, rfl⟩))
  refine wp_region_held_drew (S := (fun V => Below W1.heap.size W1 V)) (by kernel_rfl) ((Below.refl _ _).drew) (fun hHeld => ?_)
  refine take_op (i := 0) (d := 29) (v := ?_) rfl rfl (by kernel_rfl) (by kernel_rfl) (by kernel_rfl) (fun _ _ _ h => h) (Or.inl ⟨by rfl, ?hy0u1⟩) hHeld ?rest0u1
  case hy0u1 =>
    intro w' hS'
    go_simp
    try with_reducible rfl
  simp only [List.setIfInBounds_toArray, List.set_cons_zero, List.set_cons_succ]
  refine take_op (i := 1) (d := 30) (v := ?_) rfl rfl (by kernel_rfl) (by kernel_rfl) (by kernel_rfl) (fun _ _ _ h => h) (Or.inl ⟨by rfl, ?hy1u2⟩) hHeld ?rest1u2
  case hy1u2 =>
    intro w' hS'
    go_simp
    try with_reducible rfl
  simp only [List.setIfInBounds_toArray, List.set_cons_zero, List.set_cons_succ]
  refine take_op (i := 2) (d := 31) (v := ?_) rfl rfl (by kernel_rfl) (by kernel_rfl) (by kernel_rfl) (fun _ _ _ h => h) (Or.inl ⟨by rfl, ?hy2u3⟩) hHeld ?rest2u3
  case hy2u3 =>
    intro w' hS'
    go_simp
    try with_reducible rfl
  simp only [List.setIfInBounds_toArray, List.set_cons_zero, List.set_cons_succ]
  refine take_op (i := 3) (d := 32) (v := ?_) rfl rfl (by kernel_rfl) (by kernel_rfl) (by kernel_rfl) (fun _ _ _ h => h) (Or.inl ⟨by rfl, ?hy3u4⟩) hHeld ?rest3u4
  case hy3u4 =>
    intro w' hS'
    have c0 := cell_belowB hS' c0
    have c1 := cell_belowB hS' c1
    have c2 := cell_belowB hS' c2
    have c3 := cell_belowB hS' c3
    have cx := cell_belowB hS' cx
    go_simp
    try with_reducible rfl
  simp only [List.setIfInBounds_toArray, List.set_cons_zero, List.set_cons_succ]
  refine take_op (i := 4) (d := 33) (v := ?_) rfl rfl (by kernel_rfl) (by kernel_rfl) (by kernel_rfl) (fun _ _ _ h => h) (Or.inl ⟨by rfl, ?hy4u5⟩) hHeld ?rest4u5
  case hy4u5 =>
    intro w' hS'
    go_simp
    try with_reducible rfl
  simp only [List.setIfInBounds_toArray, List.set_cons_zero, List.set_cons_succ]
  refine take_op (i := 5) (d := 34) (v := ?_) rfl rfl (by kernel_rfl) (by kernel_rfl) (by kernel_rfl) (fun _ _ _ h => h) (Or.inl ⟨by rfl, ?hy5u6⟩) hHeld ?rest5u6
  case hy5u6 =>
    intro w' hS'
    go_simp
    try with_reducible rfl
  simp only [List.setIfInBounds_toArray, List.set_cons_zero, List.set_cons_succ]
  refine take_op (i := 6) (d := 35) (v := ?_) rfl rfl (by kernel_rfl) (by kernel_rfl) (by kernel_rfl) (fun _ _ _ h => h) (Or.inl ⟨by rfl, ?hy6u7⟩) hHeld ?rest6u7
  case hy6u7 =>
    intro w' hS'
    go_simp
    try with_reducible rfl
  simp only [List.setIfInBounds_toArray, List.set_cons_zero, List.set_cons_succ]
  refine take_op (i := 7) (d := 36) (v := ?_) rfl rfl (by kernel_rfl) (by kernel_rfl) (by kernel_rfl) (fun _ _ _ h => h) (Or.inl ⟨by rfl, ?hy7u8⟩) hHeld ?rest7u8
  case hy7u8 =>
    intro w' hS'
    go_simp
    try with_reducible rfl
  simp only [List.setIfInBounds_toArray, List.set_cons_zero, List.set_cons_succ]
  refine take_op (i := 8) (d := 37) (v := ?_) rfl rfl (by kernel_rfl) (by kernel_rfl) (by kernel_rfl) (fun _ _ _ h => h) (Or.inl ⟨by rfl, ?hy8u9⟩) hHeld ?rest8u9
  case hy8u9 =>
    intro w' hS'
    go_simp
    try with_reducible rfl
  simp only [List.setIfInBounds_toArray, List.set_cons_zero, List.set_cons_succ]
  refine take_op (i := 9) (d := 38) (v := ?_) rfl rfl (by kernel_rfl) (by kernel_rfl) (by kernel_rfl) (fun _ _ _ h => h) (Or.inl ⟨by rfl, ?hy9u10⟩) hHeld ?rest9u10
  case hy9u10 =>
    intro w' hS'
    have c0 := cell_belowB hS' c0
    have c1 := cell_belowB hS' c1
    have c2 := cell_belowB hS' c2
    have c3 := cell_belowB hS' c3
    have cx := cell_belowB hS' cx
    go_simp
    try with_reducible rfl
  simp only [List.setIfInBounds_toArray, List.set_cons_zero, List.set_cons_succ]
  refine take_op (i := 10) (d := 39) (v := ?_) rfl rfl (by kernel_rfl) (by kernel_rfl) (by kernel_rfl) (fun _ _ _ h => h) (Or.inl ⟨by rfl, ?hy10u11⟩) hHeld ?rest10u11
  case hy10u11 =>
    intro w' hS'
    go_simp
    try with_reducible rfl
  simp only [List.setIfInBounds_toArray, List.set_cons_zero, List.set_cons_succ]
  refine take_op (i := 11) (d := 11) (v := ?_) rfl rfl (by kernel_rfl) (by kernel_rfl) (by kernel_rfl) (fun _ _ _ h => h) (Or.inl ⟨by rfl, ?hy11u12⟩) hHeld ?rest11u12
  case hy11u12 =>
    intro w' hS'
    go_simp
    try with_reducible rfl
  simp only [List.setIfInBounds_toArray, List.set_cons_zero, List.set_cons_succ]
  refine wpAnyH_done (by kernel_rfl) ?_ _
  revert hHeld
  generalize W1.drew = W3
  intro hHeld
  replace c0 := cell_belowB hHeld c0
  replace c1 := cell_belowB hHeld c1
  replace c2 := cell_belowB hHeld c2
  replace c3 := cell_belowB hHeld c3
  replace cx := cell_belowB hHeld cx
  replace hb := hb.trans (hHeld.mono hb.size)
  clear hHeld
  go_upto_region 6 with (fail)
  refine wp_region_held_drew (S := (fun V => Below W3.heap.size W3 V)) (by kernel_rfl) ((Below.refl _ _).drew) (fun hHeld => ?_)
  refine take_op (i := 0) (d := 40) (v := ?_) rfl rfl (by kernel_rfl) (by kernel_rfl) (by kernel_rfl) (fun _ _ _ h => h) (Or.inl ⟨by rfl, ?hy0u13⟩) hHeld ?rest0u13
  case hy0u13 =>
    intro w' hS'
    go_simp
    try with_reducible rfl
  simp only [List.setIfInBounds_toArray, List.set_cons_zero, List.set_cons_succ]
  refine take_op (i := 1) (d := 41) (v := ?_) rfl rfl (by kernel_rfl) (by kernel_rfl) (by kernel_rfl) (fun _ _ _ h => h) (Or.inl ⟨by rfl, ?hy1u14⟩) hHeld ?rest1u14
  case hy1u14 =>
    intro w' hS'
    go_simp
    try with_reducible rfl
  simp only [List.setIfInBounds_toArray, List.set_cons_zero, List.set_cons_succ]
  refine take_op (i := 2) (d := 42) (v := ?_) rfl rfl (by kernel_rfl) (by kernel_rfl) (by kernel_rfl) (fun _ _ _ h => h) (Or.inl ⟨by rfl, ?hy2u15⟩) hHeld ?rest2u15
  case hy2u15 =>
    intro w' hS'
    go_simp
    try with_reducible rfl
  simp only [List.setIfInBounds_toArray, List.set_cons_zero, List.set_cons_succ]
  refine take_op (i := 3) (d := 43) (v := ?_) rfl rfl (by kernel_rfl) (by kernel_rfl) (by kernel_rfl) (fun _ _ _ h => h) (Or.inl ⟨by rfl, ?hy3u16⟩) hHeld ?rest3u16
  case hy3u16 =>
    intro w' hS'
    go_simp
    try with_reducible rfl
  simp only [List.setIfInBounds_toArray, List.set_cons_zero, List.set_cons_succ]
  refine take_op (i := 4) (d := 44) (v := ?_) rfl rfl (by kernel_rfl) (by kernel_rfl) (by kernel_rfl) (fun _ _ _ h => h) (Or.inl ⟨by rfl, ?hy4u17⟩) hHeld ?rest4u17
  case hy4u17 =>
    intro w' hS'
    have c0 := cell_belowB hS' c0
    have c1 := cell_belowB hS' c1
    have c2 := cell_belowB hS' c2
    have c3 := cell_belowB hS' c3
    have cx := cell_belowB hS' cx
    go_simp
    try with_reducible rfl
  simp only [List.setIfInBounds_toArray, List.set_cons_zero, List.set_cons_succ]
  refine take_op (i := 5) (d := 45) (v := ?_) rfl rfl (by kernel_rfl) (by kernel_rfl) (by kernel_rfl) (fun _ _ _ h => h) (Or.inl ⟨by rfl, ?hy5u18⟩) hHeld ?rest5u18
  case hy5u18 =>
    intro w' hS'
    go_simp
    try with_reducible rfl
  simp only [List.setIfInBounds_toArray, List.set_cons_zero, List.set_cons_succ]
  refine take_op (i := 6) (d := 46) (v := ?_) rfl rfl (by kernel_rfl) (by kernel_rfl) (by kernel_rfl) (fun _ _ _ h => h) (Or.inl ⟨by rfl, ?hy6u19⟩) hHeld ?rest6u19
  case hy6u19 =>
    intro w' hS'
    go_simp
    try with_reducible rfl
  simp only [List.setIfInBounds_toArray, List.set_cons_zero, List.set_cons_succ]
  refine take_op (i := 7) (d := 47) (v := ?_) rfl rfl (by kernel_rfl) (by kernel_rfl) (by kernel_rfl) (fun _ _ _ h => h) (Or.inl ⟨by rfl, ?hy7u20⟩) hHeld ?rest7u20
  case hy7u20 =>
    intro w' hS'
    go_simp
    try with_reducible rfl
  simp only [List.setIfInBounds_toArray, List.set_cons_zero, List.set_cons_succ]
  refine take_op (i := 8) (d := 48) (v := ?_) rfl rfl (by kernel_rfl) (by kernel_rfl) (by kernel_rfl) (fun _ _ _ h => h) (Or.inl ⟨by rfl, ?hy8u21⟩) hHeld ?rest8u21
  case hy8u21 =>
    intro w' hS'
    go_simp
    try with_reducible rfl
  simp only [List.setIfInBounds_toArray, List.set_cons_zero, List.set_cons_succ]
  refine take_op (i := 9) (d := 49) (v := ?_) rfl rfl (by kernel_rfl) (by kernel_rfl) (by kernel_rfl) (fun _ _ _ h => h) (Or.inl ⟨by rfl, ?hy9u22⟩) hHeld ?rest9u22
  case hy9u22 =>
    intro w' hS'
    have c0 := cell_belowB hS' c0
    have c1 := cell_belowB hS' c1
    have c2 := cell_belowB hS' c2
    have c3 := cell_belowB hS' c3
    have cx := cell_belowB hS' cx
    go_simp
    try with_reducible rfl
  simp only [List.setIfInBounds_toArray, List.set_cons_zero, List.set_cons_succ]
  refine take_op (i := 10) (d := 50) (v := ?_) rfl rfl (by kernel_rfl) (by kernel_rfl) (by kernel_rfl) (fun _ _ _ h => h) (Or.inl ⟨by rfl, ?hy10u23⟩) hHeld ?rest10u23
  case hy10u23 =>
    intro w' hS'
    go_simp
    try with_reducible rfl
  simp only [List.setIfInBounds_toArray, List.set_cons_zero, List.set_cons_succ]
  refine take_op (i := 11) (d := 12) (v := ?_) rfl rfl (by kernel_rfl) (by kernel_rfl) (by kernel_rfl) (fun _ _ _ h => h) (Or.inl ⟨by rfl, ?hy11u24⟩) hHeld ?rest11u24
  case hy11u24 =>
    intro w' hS'
    go_simp
    try with_reducible rfl
  simp only [List.setIfInBounds_toArray, List.set_cons_zero, List.set_cons_succ]
  refine wpAnyH_done (by kernel_rfl) ?_ _
  revert hHeld
  generalize W3.drew = W4
  intro hHeld
  replace c0 := cell_belowB hHeld c0
  replace c1 := cell_belowB hHeld c1
  replace c2 := cell_belowB hHeld c2
  replace c3 := cell_belowB hHeld c3
  replace cx := cell_belowB hHeld cx
  replace hb := hb.trans (hHeld.mono hb.size)
  clear hHeld
  clear c0 c1 c2 c3 cx
  go_upto_region 7 with (fail)
  cases oq
  · have hc := Lib.hid (cut_le0 (.inl hoq))
    go_wp2
    go_ret
    exact ⟨ret_f32 hc.out.symm, hb⟩
  · have hc := Lib.hid (cut_le0 (.inr hoq))
    go_wp2
    go_ret
    exact ⟨ret_f32 hc.out.symm, hb⟩
  · cases o1
    · have hc := Lib.hid (cut_mid hoq ho1 (by decide))
      go_wp2
      go_ret
      exact ⟨ret_f32 hc.out.symm, hb⟩
    · have hc := Lib.hid (cut_mid hoq ho1 (by decide))
      go_wp2
      go_ret
      exact ⟨ret_f32 hc.out.symm, hb⟩
    · have hc := Lib.hid (cut_top hoq ho1)
      go_wp2
      go_ret
      exact ⟨ret_f32 hc.out.symm, hb⟩

set_option maxRecDepth 100000 in
set_option maxHeartbeats 4000000 in
theorem l04PartO_any {o dr gp tl : Nat} (aw : AwOk o dr gp tl) (hs ts : List Int) (hh : hs.length = 24) (ht : ts.length = 24) (fc hour : Int) (k : HrOk hs ts hour fc) (g1 p1 g2 : Nat) (T2 : TypeId) (f2 : Nat × Nat) (w : World) (q1 : AwAt w g1 p1 o dr gp tl) (q2 : w.heap[g2]? = some (.cells (sunC hs ts) T2 f2)) :
    Calls Tryd.prog 141 #[.pointer (some ⟨g1, p1, none⟩), .pointer (some ⟨g2, 0, none⟩), .int .i64 hour, .int .i64 fc] w fun e w' => e = .returned (.float .f32 (shB o dr gp tl (atH hs hour) (fallOf hs ts hour fc))) ∧ Below w.heap.size w w' := by
  by_cases x0 : 0 < atH hs hour
  · rcases fall_rng (atH hs hour) (atH ts hour - fc) x0 k.x1 with h | ⟨h0, h1⟩
    · rw [show fallOf hs ts hour fc = 0 from h, shB_zero]
      exact l04PartO_zero o dr gp tl hs ts hh ht fc hour k h g1 p1 g2 T2 f2 w q1 q2
    · rw [shB_pos (f := fallOf hs ts hour fc) h0]
      exact l04PartO_pos aw hs ts hh ht fc hour k _ rfl h0 h1 x0 g1 p1 g2 T2 f2 w q1 q2
  · have h : fallOf hs ts hour fc = 0 := if_neg x0
    rw [h, shB_zero]
    exact l04PartO_zero o dr gp tl hs ts hh ht fc hour k h g1 p1 g2 T2 f2 w q1 q2

set_option maxRecDepth 100000 in
set_option maxHeartbeats 4000000 in
theorem l04BehindO_any {o dr gp tl : Nat} (aw : AwOk o dr gp tl) (hs ts : List Int) (hh : hs.length = 24) (ht : ts.length = 24) (fc hour : Int) (k : HrOk hs ts hour fc) (g1 p1 g2 : Nat) (T2 : TypeId) (f2 : Nat × Nat) (w : World) (q1 : AwAt w g1 p1 o dr gp tl) (q2 : w.heap[g2]? = some (.cells (sunC hs ts) T2 f2)) :
    Calls Tryd.prog 123 #[.pointer (some ⟨g1, p1, none⟩), .pointer (some ⟨g2, 0, none⟩), .int .i64 hour, .int .i64 fc] w fun e w' => e = .returned (.float .f32 (behOf o dr gp tl hs ts hour fc)) ∧ Below w.heap.size w w' := by
  have HF := Lib.hid (fun w (h : w.heap[g2]? = some (.cells (sunC hs ts) T2 f2)) => l01Fall_any g2 hs ts hh ht hour fc k.h0 k.h1 k.f0 k.f1 k.x1 k.y0 k.y1 T2 f2 w h)
  have HP := Lib.hid (fun w (h : AwAt w g1 p1 o dr gp tl) (h' : w.heap[g2]? = some (.cells (sunC hs ts) T2 f2)) => l04PartO_any aw hs ts hh ht fc hour k g1 p1 g2 T2 f2 w h h')
  obtain ⟨r1, r2, _⟩ := beh_facts (fall_le k) (shB_le aw k)
  unfold behOf
  generalize shB o dr gp tl (atH hs hour) (fallOf hs ts hour fc) = p at *
  generalize fallOf hs ts hour fc = f at *
  have z1 := run_qf _ _ _ _ r1
  have z2 := run_qf _ _ _ _ r2
  have H1 := Lib.hid q1
  have H2 := Lib.hid q2
  have hb : Below w.heap.size w w := Below.refl _ _
  clear k r1 r2 aw hh ht q1 q2
  go_enter Tryd.func123, Tryd.ntmps123
  go_wp2_with (first | (go_at_call 78; refine (HF.out _ H2.out).mono ?_; rintro e W1 ⟨rfl, hb1⟩; replace H1 := Lib.hid (awAt_below hb1 H1.out); replace H2 := Lib.hid (below_row hb1 H2.out); replace hb := hb.trans (hb1.mono hb.size); clear hb1) | (go_at_call 141; refine (HP.out _ H1.out H2.out).mono ?_; rintro e W2 ⟨rfl, hb2⟩; replace H1 := Lib.hid (awAt_below hb2 H1.out); replace H2 := Lib.hid (below_row hb2 H2.out); replace hb := hb.trans (hb2.mono hb.size); clear hb2))
  go_ret
  exact ⟨rfl, hb⟩

set_option maxRecDepth 100000 in
set_option maxHeartbeats 4000000 in
theorem l04GustyO_any {o dr gp tl : Nat} (aw : AwOk o dr gp tl) (hs ts : List Int) (hh : hs.length = 24) (ht : ts.length = 24) (fc out : Int) (u : 0 ≤ out ∧ out ≤ 4294967295) (q : ∀ k : Nat, k < 24 → HrOk hs ts (k : Int) fc) (g1 p1 g2 : Nat) (T2 : TypeId) (f2 : Nat × Nat) (w : World) (q1 : AwAt w g1 p1 o dr gp tl) (q2 : w.heap[g2]? = some (.cells (sunC hs ts) T2 f2)) :
    Calls Tryd.prog 89 #[.pointer (some ⟨g1, p1, none⟩), .pointer (some ⟨g2, 0, none⟩), .int .i64 fc, .int .u32 out] w fun e w' => e = .returned (.float .f32 (sumTo (gusB o dr gp tl hs ts fc out) 24)) ∧ Below w.heap.size w w' := by
  obtain ⟨u0, u1⟩ := u
  have HB := Lib.hid (fun (k : Nat) (hk : k < 24) w' (h : Below w.heap.size w w') => l04BehindO_any aw hs ts hh ht fc (k : Int) (q k hk) g1 p1 g2 T2 f2 w' (awAt_below h q1) (below_row h q2))
  have HF := Lib.hid (fun (k : Nat) (hk : k < 24) w' (h : Below w.heap.size w w') => l01Fall_any g2 hs ts hh ht (k : Int) fc (q k hk).h0 (q k hk).h1 (q k hk).f0 (q k hk).f1 (q k hk).x1 (q k hk).y0 (q k hk).y1 T2 f2 w' (below_row h q2))
  have HPOS : Hid (∀ k : Nat, k < 24 → pos32 (gusB o dr gp tl hs ts fc out k) = true) := fun k hk => pos_le (gus_le aw out (q k hk))
  clear aw q q1 q2 hh ht
  go_enter Tryd.func89, Tryd.ntmps89
  go_wp2
  go_loopw [9, 10] (fun s i wr => ∃ k : Nat, k ≤ 24 ∧ i = .int .i64 k ∧ s = .float .f32 (sumTo (gusB o dr gp tl hs ts fc out) k) ∧ Below w.heap.size w wr) (fun _ i _ => 24 - (intOf i).toNat)
  case atStart => exact ⟨0, Nat.zero_le _, rfl, rfl, Below.refl _ _⟩
  case round =>
    obtain ⟨k, hk, rfl, rfl, hb⟩ := hrel
    by_cases hlt : k < 24
    · have hp : pos32 (sumTo (gusB o dr gp tl hs ts fc out) k) = true := sumTo_pos _ 24 (fun j hj => HPOS.out j hj) k hk
      have hgp := HPOS.out k hlt
      have hs1 := sumTo_succ (gusB o dr gp tl hs ts fc out) k
      cases hbt : bitB out k
      · have hgk : gusB o dr gp tl hs ts fc out k = fallOf hs ts (k : Int) fc := if_neg (by rw [hbt]; decide)
        rw [hgk] at hs1 hgp
        have HS1 := Lib.hid hs1
        have radd : ∀ T w, (binOp .add T (.float .f32 (sumTo (gusB o dr gp tl hs ts fc out) k)) (.float .f32 (fallOf hs ts (k : Int) fc))).run Tryd.prog w = .ok (.float .f32 (fadd (sumTo (gusB o dr gp tl hs ts fc out) k) (fallOf hs ts (k : Int) fc))) w := fun T w => run_float_arith w .add T .f32 _ _ _ (add_ok hp hgp).1
        unfold bitB at hbt
        clear hs1 hgp hp hgk
        go_wp2_with (go_at_call 78; refine (HF.out k hlt _ hb).mono ?_; rintro e w1 ⟨rfl, hb1⟩; replace hb := hb.trans (hb1.mono hb.size); clear hb1)
        go_roundw
        case rel => exact ⟨k + 1, by omega, by go_num, by rw [HS1.out], hb⟩
        case measure => simp [intOf]; omega
      · have hgk : gusB o dr gp tl hs ts fc out k = behOf o dr gp tl hs ts (k : Int) fc := if_pos hbt
        rw [hgk] at hs1 hgp
        have HS1 := Lib.hid hs1
        have radd : ∀ T w, (binOp .add T (.float .f32 (sumTo (gusB o dr gp tl hs ts fc out) k)) (.float .f32 (behOf o dr gp tl hs ts (k : Int) fc))).run Tryd.prog w = .ok (.float .f32 (fadd (sumTo (gusB o dr gp tl hs ts fc out) k) (behOf o dr gp tl hs ts (k : Int) fc))) w := fun T w => run_float_arith w .add T .f32 _ _ _ (add_ok hp hgp).1
        unfold bitB at hbt
        clear hs1 hgp hp hgk
        go_wp2_with (go_at_call 123; refine (HB.out k hlt _ hb).mono ?_; rintro e w1 ⟨rfl, hb1⟩; replace hb := hb.trans (hb1.mono hb.size); clear hb1)
        go_roundw
        case rel => exact ⟨k + 1, by omega, by go_num, by rw [HS1.out], hb⟩
        case measure => simp [intOf]; omega
    · obtain rfl : k = 24 := by omega
      go_wp2
      go_ret
      exact ⟨rfl, hb⟩

end Go.Proofs.YtdccmdcgbembpaaDoor

namespace Go.Proofs.YtdccmdcgbembpaaDoor
open Go.RowKit

attribute [local go_sem] run_store_f

theorem codeA_1 {okS okA inR : Bool} {n : Nat} (h : (okS && okA) = false) : codeA okS okA inR n = 1 := by unfold codeA; rw [h]; rfl

theorem all_badA {ws : List Awn} {k : Nat} {x : Awn} (h : ws[k]? = some x) (hf : fitA x = false) : ws.all fitA = false := by
  rw [Bool.eq_false_iff]
  intro ha
  have := List.all_eq_true.1 ha x (List.mem_of_getElem? h)
  rw [hf] at this; cases this

theorem l04OkA_any (x : Awn) (g p : Nat) (w : World) (h : ∀ j v, (awnC x)[j]? = some v → w.cell? ⟨g, p + j, none⟩ = some v) : Calls Tryd.prog 88 #[.pointer (some ⟨g, p, none⟩)] w fun e w' => e = .returned (.bool (fitA x)) ∧ w = w' :=
  l04OkO_any x.1 x.2.1 x.2.2.1 x.2.2.2 g p w (awAt_of h)

theorem l04GuA_any (hs ts : List Int) (fc : Int) (x : Awn) (aw : AwOk x.1 x.2.1 x.2.2.1 x.2.2.2) (hh : hs.length = 24) (ht : ts.length = 24) (q : ∀ k : Nat, k < 24 → HrOk hs ts (k : Int) fc) (g p g2 : Nat) (T2 : TypeId) (f2 : Nat × Nat) (w : World) (h : ∀ j v, (awnC x)[j]? = some v → w.cell? ⟨g, p + j, none⟩ = some v) (q2 : w.heap[g2]? = some (.cells (sunC hs ts) T2 f2)) :
    Calls Tryd.prog 89 #[.pointer (some ⟨g, p, none⟩), .pointer (some ⟨g2, 0, none⟩), .int .i64 fc, .int .u32 16777215] w fun e w' => e = .returned (.float .f32 (baS hs ts fc x)) ∧ Below w.heap.size w w' := by
  have h1 := l04GustyO_any aw hs ts hh ht fc 16777215 (by decide) q g p g2 T2 f2 w (awAt_of h) q2
  rw [gus_full] at h1
  exact h1

set_option maxRecDepth 100000 in
set_option maxHeartbeats 4000000 in
theorem sBa_n (hs ts : List Int) (hh : hs.length = 24) (ht : ts.length = 24) (rb : ∀ x ∈ hs ++ ts, -32768 ≤ x ∧ x ≤ 32767) (fc : Int) (dv : Value) (ws : List Awn) (w : World) (hds : AwsAt w dv ws) (c : Int) (hc : codeA (okB hs ts) (ws.all fitA) (inF fc) ws.length = c) (hne : c ≠ 0) :
    Calls Tryd.prog 39 #[dv, .agg (sunC hs ts), .int .i64 fc] w fun e w' => e = .returned (.tuple #[.int .i64 0, .float .f32 0, .int .i64 c]) ∧ Below w.heap.size w w' := by
  have HVS := Lib.hid (fun V (h : V.heap[w.heap.size]? = some (.cells (sunC hs ts) 69 (0, 0))) => l01Ok_any w.heap.size hs ts hh ht rb 69 (0, 0) V h)
  have HFC := Lib.hid (fun V => l01Faced_is fc _ rfl V)
  have HBAD : Hid (∀ (k : Nat) x, ws[k]? = some x → fitA x = false → c = 1) := Lib.hid (fun k x h1 h2 => by rw [← hc]; exact codeA_1 (by rw [all_badA h1 h2, Bool.and_false]))
  have HALL : Hid (ws.take ws.length = ws) := Lib.hid List.take_length
  have HC : Hid (ws.all fitA = true → codeA (okB hs ts) true (inF fc) ws.length = c) := Lib.hid (fun h => by rw [← hc, h])
  have hln : ∃ a0 cap0, dv = .slice a0 ws.length cap0 ∧ ws.length ≤ 9223372036854775807 := by obtain ⟨a, c, e, h1, h2, _⟩ := hds; exact ⟨a, c, e, by unfold maxLen at h2; omega⟩
  obtain ⟨da, dcap, edv, hbig⟩ := hln
  have HDK := Lib.hid hds
  clear hds hh ht rb
  clear hc
  generalize hnn : ws.length = n at *
  have HN := Lib.hid hnn
  clear hnn
  subst edv
  go_enter Tryd.func39, Tryd.ntmps39
  go_upto_region 1 with (fail)
  refine abs_world (fun W => W.heap[w.heap.size]? = some (.cells (sunC hs ts) 69 (0, 0)) ∧ Below w.heap.size w W) ⟨heap_alloc_new _ _, (Below.refl _ _).alloc (Nat.le_refl _) _⟩ ?_
  rintro W ⟨h0, hbz⟩
  have H0 := Lib.hid h0
  have HD := Lib.hid (aws_below HDK.out hbz)
  clear h0
  go_wp2
  go_loopw [9] (fun i wr => ∃ k : Nat, k ≤ n ∧ i = .int .i64 (k : Int) ∧ wr = W ∧ (ws.take k).all fitA = true) (fun i _ => n - (intOf i).toNat)
  case atStart => exact ⟨0, Nat.zero_le _, rfl, rfl, rfl⟩
  case round =>
    obtain ⟨k, hk, rfl, rfl, hall⟩ := hrel
    have HA := Lib.hid hall
    clear hall
    by_cases hlt : k < n
    · have hx : ws[k]? = some (ws[k]'(by rw [HN.out]; exact hlt)) := List.getElem?_eq_getElem _
      obtain ⟨g, o, rfl, hcx⟩ := awn_at HD.out hx
      have hts : ws.take (k + 1) = ws.take k ++ [ws[k]'(by rw [HN.out]; exact hlt)] := by rw [List.take_succ_eq_append_getElem]
      have HT := Lib.hid hts
      have HOX := Lib.hid (l04OkA_any (ws[k]'(by rw [HN.out]; exact hlt)) g (o + k * 4) wr hcx)
      generalize (ws[k]'(by rw [HN.out]; exact hlt)) = x at *
      have HXX := Lib.hid hx
      have z1 : (k : Int) < (n : Int) := by omega
      have z2 : (0 : Int) ≤ (k : Int) := by omega
      clear hx hcx hts
      cases hfx : fitA x with
      | true =>
        rw [hfx] at HOX
        go_wp2_with (go_at_call 88; refine HOX.out.mono ?_; rintro e w2 ⟨rfl, rfl⟩)
        go_roundw
        case rel => exact ⟨k + 1, by omega, by go_num, by first | trivial | rfl, by rw [HT.out, List.all_append, HA.out]; simp [hfx]⟩
        case measure => simp [intOf]; omega
      | false =>
        rw [hfx] at HOX
        obtain rfl := HBAD.out k x HXX.out hfx
        go_wp2_with (go_at_call 88; refine HOX.out.mono ?_; rintro e w2 ⟨rfl, rfl⟩)
        go_ret3
        exact ⟨rfl, hbz⟩
    · obtain rfl : k = n := by omega
      have hall := HA.out
      rw [HALL.out] at hall
      have hcc := HC.out hall
      clear HBAD HALL HC HA hall HN HD HDK
      generalize okB hs ts = sb at *
      generalize inF fc = fb at *
      cases sb with
      | false =>
        obtain rfl : 1 = c := hcc
        go_wp2_with (go_at_call 75; refine (HVS.out _ H0.out).mono ?_; rintro e w2 ⟨rfl, rfl⟩)
        go_ret3
        exact ⟨rfl, hbz⟩
      | true =>
        cases fb with
        | false =>
          obtain rfl : 2 = c := hcc
          go_wp2_with (first | (go_at_call 75; refine (HVS.out _ H0.out).mono ?_; rintro e w2 ⟨rfl, rfl⟩) | (go_at_call 77; refine (HFC.out _).mono ?_; rintro e w2 ⟨rfl, rfl⟩))
          go_ret3
          exact ⟨rfl, hbz⟩
        | true =>
          by_cases h8 : 8 < k
          · obtain rfl : 3 = c := by rw [← hcc]; simp [codeA, h8]
            have z8 : (8 : Int) < (k : Int) := by omega
            clear hcc
            go_wp2_with (first | (go_at_call 75; refine (HVS.out _ H0.out).mono ?_; rintro e w2 ⟨rfl, rfl⟩) | (go_at_call 77; refine (HFC.out _).mono ?_; rintro e w2 ⟨rfl, rfl⟩))
            go_ret3
            exact ⟨rfl, hbz⟩
          · by_cases h0k : k = 0
            · obtain rfl : 6 = c := by rw [← hcc]; simp [codeA, h0k]
              subst h0k
              clear hcc
              go_wp2_with (first | (go_at_call 75; refine (HVS.out _ H0.out).mono ?_; rintro e w2 ⟨rfl, rfl⟩) | (go_at_call 77; refine (HFC.out _).mono ?_; rintro e w2 ⟨rfl, rfl⟩))
              go_ret3
              exact ⟨rfl, hbz⟩
            · exact absurd (by rw [← hcc]; simp [codeA, h8, h0k]) hne

set_option maxRecDepth 100000 in
set_option maxHeartbeats 4000000 in
theorem sBa_y (hs ts : List Int) (hh : hs.length = 24) (ht : ts.length = 24) (rb : ∀ x ∈ hs ++ ts, -32768 ≤ x ∧ x ≤ 32767) (fc : Int) (dv : Value) (ws : List Awn) (w : World) (hds : AwsAt w dv ws) (aw : ∀ x ∈ ws, AwOk x.1 x.2.1 x.2.2.1 x.2.2.2) (q : ∀ k : Nat, k < 24 → HrOk hs ts (k : Int) fc) (hv : okB hs ts = true) (ha : ws.all fitA = true) (hf : inF fc = true) (hl : ws.length ≤ 8) (hl0 : ws.length ≠ 0) :
    Calls Tryd.prog 39 #[dv, .agg (sunC hs ts), .int .i64 fc] w fun e w' => e = .returned (.tuple #[.int .i64 ((bestA (baN hs ts fc ws) ws.length : Nat) : Int), .float .f32 (leastA (baN hs ts fc ws) ws.length), .int .i64 0]) ∧ Below w.heap.size w w' := by
  have HVS : Hid (∀ V, V.heap[w.heap.size]? = some (.cells (sunC hs ts) 69 (0, 0)) → Calls Tryd.prog 75 #[.pointer (some ⟨w.heap.size, 0, none⟩)] V fun e w' => e = .returned (.bool true) ∧ V = w') := Lib.hid (fun V h => by have := l01Ok_any w.heap.size hs ts hh ht rb 69 (0, 0) V h; rw [hv] at this; exact this)
  have HFC := Lib.hid (fun V => l01Faced_is fc true hf V)
  have HBAD : Hid (∀ (k : Nat) x, ws[k]? = some x → fitA x = true) := Lib.hid (fun k x h1 => List.all_eq_true.1 ha x (List.mem_of_getElem? h1))
  have HGL : Hid (∀ (k : Nat) (x : Awn), ws[k]? = some x → ∀ (g p : Nat) W, (∀ j v, (awnC x)[j]? = some v → W.cell? ⟨g, p + j, none⟩ = some v) → W.heap[w.heap.size]? = some (.cells (sunC hs ts) 69 (0, 0)) → Calls Tryd.prog 89 #[.pointer (some ⟨g, p, none⟩), .pointer (some ⟨w.heap.size, 0, none⟩), .int .i64 fc, .int .u32 16777215] W fun e w' => e = .returned (.float .f32 (baN hs ts fc ws k)) ∧ Below W.heap.size W w') := Lib.hid (fun k x hx g p W h h2 => by
    have := l04GuA_any hs ts fc x (aw x (List.mem_of_getElem? hx)) hh ht q g p w.heap.size 69 (0, 0) W h h2
    unfold baN
    rw [hx]
    exact this)
  have HFN := Lib.hid (fun k => baN_fin (ws := ws) aw q k)
  have hln : ∃ a0 cap0, dv = .slice a0 ws.length cap0 ∧ ws.length ≤ 9223372036854775807 := by obtain ⟨a, c, e, h1, h2, _⟩ := hds; exact ⟨a, c, e, by unfold maxLen at h2; omega⟩
  obtain ⟨da, dcap, edv, hbig⟩ := hln
  have HDK := Lib.hid hds
  clear hds hh ht rb
  generalize baN hs ts fc ws = d at *
  clear hv ha hf aw q
  generalize hnn : ws.length = n at *
  have HN := Lib.hid hnn
  clear hnn
  subst edv
  go_enter Tryd.func39, Tryd.ntmps39
  go_upto_region 1 with (fail)
  refine abs_world (fun W => W.heap[w.heap.size]? = some (.cells (sunC hs ts) 69 (0, 0)) ∧ Below w.heap.size w W) ⟨heap_alloc_new _ _, (Below.refl _ _).alloc (Nat.le_refl _) _⟩ ?_
  rintro W ⟨h0, hbz⟩
  have H0 := Lib.hid h0
  have HD := Lib.hid (aws_below HDK.out hbz)
  clear h0
  go_wp2
  go_loopw [9] (fun i wr => ∃ k : Nat, k ≤ n ∧ i = .int .i64 (k : Int) ∧ wr = W ∧ (ws.take k).all fitA = true) (fun i _ => n - (intOf i).toNat)
  case atStart => exact ⟨0, Nat.zero_le _, rfl, rfl, rfl⟩
  case round =>
    obtain ⟨k, hk, rfl, rfl, hall⟩ := hrel
    have HA := Lib.hid hall
    clear hall
    by_cases hlt : k < n
    · have hx : ws[k]? = some (ws[k]'(by rw [HN.out]; exact hlt)) := List.getElem?_eq_getElem _
      obtain ⟨g, o, rfl, hcx⟩ := awn_at HD.out hx
      have hts : ws.take (k + 1) = ws.take k ++ [ws[k]'(by rw [HN.out]; exact hlt)] := by rw [List.take_succ_eq_append_getElem]
      have HT := Lib.hid hts
      have HOX := Lib.hid (l04OkA_any (ws[k]'(by rw [HN.out]; exact hlt)) g (o + k * 4) wr hcx)
      generalize (ws[k]'(by rw [HN.out]; exact hlt)) = x at *
      have HXX := Lib.hid hx
      have z1 : (k : Int) < (n : Int) := by omega
      have z2 : (0 : Int) ≤ (k : Int) := by omega
      clear hx hcx hts
      cases hfx : fitA x with
      | true =>
        rw [hfx] at HOX
        go_wp2_with (go_at_call 88; refine HOX.out.mono ?_; rintro e w2 ⟨rfl, rfl⟩)
        go_roundw
        case rel => exact ⟨k + 1, by omega, by go_num, by first | trivial | rfl, by rw [HT.out, List.all_append, HA.out]; simp [hfx]⟩
        case measure => simp [intOf]; omega
      | false =>
        rw [hfx] at HOX
        rw [HBAD.out k x HXX.out] at hfx
        cases hfx
    · obtain rfl : k = n := by omega
      have z8 : ¬ (8 : Int) < (k : Int) := by omega
      have z80 : (k : Int) ≤ 8 := by omega
      have z0 : ((k : Int) == 0) = false := beq_eq_false_iff_ne.2 (by omega)
      have zp : (0 : Int) < (k : Int) := by omega
      have hx0 : ws[0]? = some (ws[0]'(by rw [HN.out]; omega)) := List.getElem?_eq_getElem _
      obtain ⟨g, o, rfl, hcx⟩ := awn_at HD.out hx0
      have HCX := Lib.hid hcx
      have HG0 := Lib.hid (HGL.out 0 _ hx0 g o)
      generalize (ws[0]'(by rw [HN.out]; omega)) = x0 at *
      have HCW : Hid (∀ V, Below wr.heap.size wr V → ∀ j v, (awnC x0)[j]? = some v → V.cell? ⟨g, o + j, none⟩ = some v) := Lib.hid (fun V hb j v h => cell_below hb (by have := HCX.out j v h; simpa using this))
      have HG1 := Lib.hid (fun V (hb : Below wr.heap.size wr V) h => HG0.out V (HCW.out V hb) h)
      have HG2 := Lib.hid (HG1.out wr (Below.refl _ _))
      clear hcx hx0 HBAD HA HCX HCW HG0 HG1
      go_upto_region 17 with (first | (go_at_call 75; refine (HVS.out _ H0.out).mono ?_; rintro e w2 ⟨rfl, rfl⟩) | (go_at_call 77; refine (HFC.out _).mono ?_; rintro e w2 ⟨rfl, rfl⟩) | (go_at_call 89; refine (HG2.out H0.out).mono ?_; rintro e W5 ⟨rfl, hb5⟩; replace H0 := Lib.hid (below_row hb5 H0.out); replace hbz := hbz.trans (hb5.mono hbz.size); clear hb5))
      clear HG2 HVS HFC z8 z80 z0 zp
      go_loopw [10, 11, 12] (fun a f i wr => ∃ (j : Nat) (l m : Int), j + 1 ≤ k ∧ l = ((j + 1 : Nat) : Int) ∧ m = ((firstMin d j : Nat) : Int) ∧ i = .int .i64 l ∧ a = .int .i64 m ∧ f = .float .f32 (d (firstMin d j)) ∧ wr.heap[w.heap.size]? = some (.cells (sunC hs ts) 69 (0, 0)) ∧ Below w.heap.size w wr) (fun _ _ i _ => k - (intOf i).toNat)
      case atStart => exact ⟨0, 1, 0, by omega, rfl, rfl, rfl, rfl, rfl, H0.out, hbz⟩
      case round =>
        clear H0 hbz
        obtain ⟨j, l, m, hjk, hlj, hmj, rfl, rfl, rfl, h0, hbz⟩ := hrel
        have H0 := Lib.hid h0
        have HMM := Lib.hid hmj
        clear h0 hmj
        by_cases hlt2 : j + 1 < k
        · have hx : ws[j + 1]? = some (ws[j + 1]'(by rw [HN.out]; exact hlt2)) := List.getElem?_eq_getElem _
          obtain ⟨g', o', eg, hcx⟩ := awn_at (aws_below HDK.out hbz) hx
          obtain ⟨rfl, rfl⟩ : g = g' ∧ o = o' := by injection eg with eg; injection eg with e1 e2; exact ⟨e1, e2⟩
          have HGX := Lib.hid (HGL.out (j + 1) _ hx g (o + (j + 1) * 4) wr hcx)
          generalize (ws[j + 1]'(by rw [HN.out]; exact hlt2)) = x at *
          have hord := ordA (HFN.out (j + 1)) (HFN.out (firstMin d j))
          have HM : Hid (_ ∧ _) := Lib.hid (And.intro (@firstMin_hit d j) (@firstMin_miss d j))
          have HLL := Lib.hid hlj
          have z1 : l < (k : Int) := by omega
          have z2 : (0 : Int) ≤ l := by omega
          have hix : (o + l.toNat * 4) = o + (j + 1) * 4 := by rw [hlj, Int.toNat_natCast]
          have hw1 : IntKind.i64.wrap (l + 1) = l + 1 := by rw [IntWalk.i64_in _ (by omega)]
          have HL2 : Hid (l + 1 = ((j + 1 + 1 : Nat) : Int)) := Lib.hid (by omega)
          have htn : l.toNat = j + 1 := by omega
          clear hx hcx eg HFN HGL hlj
          generalize hjj : j + 1 = j1 at *
          rcases hord with ⟨ho, hm⟩ | ⟨ho, hm⟩ | ⟨ho, hm⟩
          · have HF := Lib.hid (HM.out.1 hm)
            clear HM hm
            go_wp2_with (go_at_call 89; refine (HGX.out H0.out).mono ?_; rintro e W5 ⟨rfl, hb5⟩; replace H0 := Lib.hid (below_row hb5 H0.out); replace hbz := hbz.trans (hb5.mono hbz.size); clear hb5)
            go_roundw
            case rel => exact ⟨j1, l + 1, l, by omega, HL2.out, by rw [HF.out]; exact HLL.out, by first | trivial | rfl, by first | trivial | rfl, by rw [HF.out], H0.out, hbz⟩
            case measure => simp [intOf]; omega
          · have HF := Lib.hid (HM.out.2 hm)
            clear HM hm
            go_wp2_with (go_at_call 89; refine (HGX.out H0.out).mono ?_; rintro e W5 ⟨rfl, hb5⟩; replace H0 := Lib.hid (below_row hb5 H0.out); replace hbz := hbz.trans (hb5.mono hbz.size); clear hb5)
            go_roundw
            case rel => exact ⟨j1, l + 1, m, by omega, HL2.out, by rw [HF.out]; exact HMM.out, by first | trivial | rfl, by first | trivial | rfl, by rw [HF.out], H0.out, hbz⟩
            case measure => simp [intOf]; omega
          · have HF := Lib.hid (HM.out.2 hm)
            clear HM hm
            go_wp2_with (go_at_call 89; refine (HGX.out H0.out).mono ?_; rintro e W5 ⟨rfl, hb5⟩; replace H0 := Lib.hid (below_row hb5 H0.out); replace hbz := hbz.trans (hb5.mono hbz.size); clear hb5)
            go_roundw
            case rel => exact ⟨j1, l + 1, m, by omega, HL2.out, by rw [HF.out]; exact HMM.out, by first | trivial | rfl, by first | trivial | rfl, by rw [HF.out], H0.out, hbz⟩
            case measure => simp [intOf]; omega
        · obtain rfl : k = j + 1 := by omega
          have z1 : ¬ l < ((j + 1 : Nat) : Int) := by omega
          go_wp2
          go_ret3
          exact ⟨by rw [HMM.out]; rfl, hbz⟩

end Go.Proofs.YtdccmdcgbembpaaDoor

namespace Go.Proofs.YtdccmdcgbembpaaDoor
open Go.ChangeShapes Go.WideShapes Go.ChangeAt Go.RowKit

set_option maxRecDepth 100000 in
theorem door_met (os : Os) (args : Array Value) : laidMetH Tryd.prog lst ((World.doorLaid Tryd.prog 200 os).forCall (fun _ _ => 0) ⟨#[], args, []⟩).memory :=
  laidMetH_of_parts3 (fuel := 8) (laidMet_of_run' 8 (by kernel_rfl) (by kernel_rfl)) (by kernel_rfl) (by kernel_rfl)

set_option maxRecDepth 100000 in
theorem door_shaped (os : Os) : (World.doorLaid Tryd.prog 200 os).Shaped Tryd.prog := World.shaped_of_RefB (by kernel_rfl) (by kernel_rfl)

/-- The condition of a row that lists the sentinels. -/
abbrev Met (w : World) (_ : Array Value) : Prop := laidMetH Tryd.prog lst w

set_option maxRecDepth 100000 in
theorem law_liftedC (F : FuncId) (fn : Func) (s : ChangeSpec) (conds : List PathCond) (os : Os) (started : os.Started) (H : Type) (enc : TypeId × Value → H)
    (hno : Tryd.checked.prog.inits.idxOf? F = none) (hfn : Tryd.checked.prog.funcs[F]? = some fn) (hv : varsRowed Tryd.prog s.vars = true) (hvl : s.vars.length = 4) (hr : fn.resultTypes = #[4])
    (hts : ∀ t ∈ fn.params.toList, Tryd.prog.readableRec t = true ∧ t < Tryd.prog.types.size)
    (hspec : ∀ ds gs : List (DataW H), ds.length = fn.params.size → gs.length = 4 → s.fn H (ds ++ gs) = { results := [.lit (.bool true)], args := ds, vars := gs })
    (wit : ∃ (w : World) (tape : Tape) (i : Input), w.os = os ∧ (w.forCall tape i).Shaped Tryd.checked.prog ∧ i.vars = [] ∧ Input.okWide Tryd.checked.prog (w.forCall tape i) .any w.heap.size F i ∧
      ((s.pre enc Tryd.checked.prog fn conds false (w.forCall tape i).memory i.args ∧ Met (w.forCall tape i).memory i.args) ∧ sizedMet enc Tryd.checked.prog fn (OpenSpec.ofChange s) false (w.forCall tape i).memory i.args) ∧ ({} : Assume).holds Tryd.checked.prog (lone (Frame.enter Tryd.checked.prog F i.args .normal) [] (w.forCall tape i)))
    (walk : ∀ (W : World) (base : Nat) (args : Array Value) (ds : List (DataW H)) (p : List MemPlace),
      (∀ (j : Nat) t v, fn.params[j]? = some t → args[j]? = some v → Value.okWide Tryd.prog W .any base t v) →
      DataW.TrodAll enc Tryd.prog W 0 (fun _ => true) true fn.params.toList args.toList ds p → laidMetH Tryd.prog lst W →
      Calls Tryd.prog F args W fun e W' => e = .returned (.bool true) ∧ Below W.heap.size W W') :
    ReturnsInHanded {} Tryd.checked os F .any (fun w args => (s.pre enc Tryd.prog fn conds false w args ∧ laidMetH Tryd.prog lst w) ∧ sizedMet enc Tryd.prog fn (OpenSpec.ofChange s) false w args) (s.post enc Tryd.prog fn false true false false) := by
  refine returnsInHanded_of_change_and (C := Tryd.checked) (X := Met) (fun _ _ _ hh h => h.of_heap hh) law_own started hno hfn wit ?_
  intro W base args ds gs before hval0 hW hcnd _ hL _
  have hW' := hW
  obtain ⟨p, q, hA0, hV, rfl, hfz, hnd⟩ := hW
  have hgl : gs.length = 4 := by
    have key : ∀ (ns : List String) (gs : List (DataW H)) (ps : List MemPlace), DataW.TrodVars enc Tryd.checked.prog W (fun _ => true) ns gs ps → gs.length = ns.length := by
      intro ns
      induction ns with
      | nil => intro gs ps h; obtain ⟨rfl, _⟩ := trodVars_none h; rfl
      | cons n ns ih =>
        intro gs ps h
        cases gs with
        | nil => exact h.elim
        | cons d ds => obtain ⟨_, _, _, _, _, _, _, _, _, _, hs, _⟩ := h; simp [ih _ _ hs]
    rw [key _ _ _ hV, hvl]
  have hlen : ds.length = fn.params.size := by
    have key : ∀ (ts : List TypeId) (vs : List Value) (ds : List (DataW H)) (ps : List MemPlace), DataW.TrodAll enc Tryd.checked.prog W 0 (fun _ => true) true ts vs ds ps → ds.length = ts.length := by
      intro ts
      induction ts with
      | nil => intro vs ds ps h; obtain ⟨_, rfl, _⟩ := trodAll_nil h; rfl
      | cons t ts ih => intro vs ds ps h; obtain ⟨v, vs', d, ds', p, q, _, rfl, _, _, r0⟩ := trodAll_cons h; simp [ih _ _ _ r0]
    simpa using key _ _ _ _ hA0
  refine (walk W base args ds p hval0 hA0 hL).mono fun e W' ⟨he, hg⟩ => ?_
  subst he
  have hlt : ∀ x ∈ p, x.block < W.heap.size := fun x hx => hW'.lt x (by simp [hx])
  refine ⟨_, rfl, _, _, _, [], p, q, hW', ?_, ?_, ?_, hg.frame _, fun h => by cases h⟩
  · rw [hspec ds gs hlen hgl, hr]
    exact trodAll_mk1 (shut_bool Tryd.underlying4 _)
  · rw [hspec ds gs hlen hgl]
    exact trodAll_below law_laidOut hg _ _ _ _ hts hA0 hlt
  · rw [hspec ds gs hlen hgl]
    exact Below.trodVars law_laidOut hg hv hV

end Go.Proofs.YtdccmdcgbembpaaDoor

namespace Go.Proofs.YtdccmdcgbembpaaDoor
open Go.ChangeShapes Go.WideShapes Go.ChangeAt Go.RowKit Go.Deep Go.Joins

attribute [local go_sem] run_store_f

set_option maxRecDepth 100000 in
set_option maxHeartbeats 8000000 in
theorem lawBa_core (hs ts : List Int) (hh : hs.length = 24) (ht : ts.length = 24) (fc : Int) (dv : Value) (ws : List Awn) (vb : Int) (v0 : Nat) (v1 : Int) (hv0 : fin32 v0 = true) (e0 e1 e2 e3 : Addr)
    (hS : ∀ (d : Value) (W : World), AwsAt W d ws → Calls Tryd.prog 39 #[d, .agg (sunC hs ts), .int .i64 fc] W fun e w' => e = .returned (.tuple #[.int .i64 vb, .float .f32 v0, .int .i64 v1]) ∧ Below W.heap.size W w')
    (hI : ∀ (d : Value) (W : World), AwsAt W d ws → ErrsAt W e0 e1 e2 e3 → Calls Tryd.prog 41 #[d, .agg (sunC hs ts), .int .i64 fc] W fun e w' => e = .returned (.tuple #[.int .i64 vb, .float .f32 v0, .int .i64 v1]) ∧ Below W.heap.size W w')
    (w : World) (hds : AwsAt w dv ws) (hE : ErrsAt w e0 e1 e2 e3) :
    Calls Tryd.prog 10 #[dv, .agg (sunC hs ts), .int .i64 fc] w fun e w' => e = .returned (.bool true) ∧ Below w.heap.size w w' := by
  have HA := Lib.hid hds
  have HX := Lib.hid hE
  have HS := Lib.hid hS
  have HI := Lib.hid hI
  have hw0 := run_wide _ hv0
  have Hv0 := Lib.hid hv0
  have Hh := Lib.hid hh
  have Ht := Lib.hid ht
  have zb : (vb != vb) = false := by simp
  have zc : (v1 != v1) = false := by simp
  have hdv := hds
  obtain ⟨d0, dcap, edv, hm1, hm2, _⟩ := hdv
  unfold maxLen at hm2
  have HZ := Lib.hid (fun w => szAwningS_any d0 ws.length dcap 1048576 (by omega) (by decide) (by decide) w)
  rw [← edv] at HZ
  have hlr : (leftI ws.length 1048576 < 0 ∧ 1048576 < ws.length) ∨ (0 ≤ leftI ws.length 1048576 ∧ ws.length ≤ 1048576) := by unfold leftI; split <;> omega
  clear hds edv hm1 hm2 hE hS hI hh ht hv0
  generalize leftI (ws.length : Int) 1048576 = lf at *
  go_enter Tryd.func10, Tryd.ntmps10
  go_upto_region 1 with (fail)
  refine abs_world (fun W => W.heap[w.heap.size]? = some (.cells (sunC hs ts) 67 (0, 0)) ∧ Below w.heap.size w W) ⟨heap_alloc_new _ _, (Below.refl _ _).alloc (Nat.le_refl _) _⟩ ?_
  rintro W ⟨h0, hb⟩
  have H0 := Lib.hid h0
  replace HA := Lib.hid (aws_below HA.out hb)
  replace HX := Lib.hid (errs_below HX.out hb)
  clear h0
  rcases hlr with ⟨hlf, _⟩ | ⟨hlf, hlen⟩
  · go_wp2_with (go_at_call 38; refine (HZ.out _).mono ?_; rintro e W1 ⟨rfl, rfl⟩)
    go_ret
    exact ⟨rfl, hb⟩
  · go_upto_region 5 with (go_at_call 38; refine (HZ.out _).mono ?_; rintro e W1 ⟨rfl, rfl⟩)
    refine wp_region_held_drew (S := (fun V => Below W.heap.size W V)) (by kernel_rfl) ((Below.refl _ _).drew) (fun hHeld => ?_)
    refine take_op (i := 0) (d := 21) (v := ?_) rfl rfl (by kernel_rfl) (by kernel_rfl) (by kernel_rfl) (fun _ _ _ h => h) (Or.inl ⟨by rfl, ?hy0e16⟩) hHeld ?rest0e16
    case hy0e16 =>
      intro w' hS'
      go_simp
      try with_reducible rfl
    simp only [List.setIfInBounds_toArray, List.set_cons_zero, List.set_cons_succ]
    refine take_op (i := 2) (d := 23) (v := .agg (sunC hs ts)) rfl rfl (by kernel_rfl) (by kernel_rfl) (by kernel_rfl) (fun _ _ _ h => h) (yields_row (by rfl) 67 (.tmp 4) (by rfl) w.heap.size 0 48 (by rfl) 67 (sunC hs ts) (0, 0) _ (fun _ h => below_row h H0.out) Tryd.underlying67 rfl info_sunL (sun_fits _ _ Hh.out Ht.out) (sunC hs ts) (sun_all _ _ Hh.out Ht.out)) hHeld ?_
    simp only [List.setIfInBounds_toArray, List.set_cons_zero, List.set_cons_succ]
    refine take_op (i := 4) (d := 25) (v := ?_) rfl rfl (by kernel_rfl) (by kernel_rfl) (by kernel_rfl) (fun _ _ _ h => h) (Or.inl ⟨by rfl, ?hy4e17⟩) hHeld ?rest4e17
    case hy4e17 =>
      intro w' hS'
      go_simp
      try with_reducible rfl
    simp only [List.setIfInBounds_toArray, List.set_cons_zero, List.set_cons_succ]
    refine wpAnyH_ready (rs := [1]) (by kernel_rfl) (by simp) ?_
    refine AllReadyH.cons rfl (fun K hK => ?_) AllReadyH.nil
    go_simp
    refine (toAwningS_any dv ws hlen _ (aws_below HA.out hHeld)).mono ?_
    rintro e Wa ⟨⟨v3, rfl, hv3⟩, hb1⟩
    have HV3 := Lib.hid hv3
    clear hv3
    refine hK.out _ _ (hHeld.trans (hb1.mono hHeld.size)) (fun hHeld2 => ?_)
    clear hK K
    replace hHeld := hHeld2
    clear hHeld2 hb1
    refine wpAnyH_ready (rs := [3]) (by kernel_rfl) (by simp) ?_
    refine AllReadyH.cons rfl (fun K hK => ?_) AllReadyH.nil
    go_simp
    refine (toSun_any hs ts Hh.out Ht.out _).mono ?_
    rintro e Wb ⟨rfl, hb2⟩
    replace HV3 := Lib.hid (aws_below HV3.out hb2)
    refine hK.out _ _ (hHeld.trans (hb2.mono hHeld.size)) (fun hHeld2 => ?_)
    clear hK K
    replace hHeld := hHeld2
    clear hHeld2 hb2
    refine wpAnyH_ready (rs := [5]) (by kernel_rfl) (by simp) ?_
    refine AllReadyH.cons rfl (fun K hK => ?_) AllReadyH.nil
    go_simp
    refine (HS.out _ _ HV3.out).mono ?_
    rintro e Wc ⟨rfl, hb3⟩
    refine hK.out _ _ (hHeld.trans (hb3.mono hHeld.size)) (fun hHeld2 => ?_)
    clear hK K
    replace hHeld := hHeld2
    clear hHeld2 hb3 HV3
    refine take_op (i := 6) (d := 20) (v := ?_) rfl rfl (by kernel_rfl) (by kernel_rfl) (by kernel_rfl) (fun _ _ _ h => h) (Or.inl ⟨by rfl, ?hy6e18⟩) hHeld ?rest6e18
    case hy6e18 =>
      intro w' hS'
      go_simp
      try with_reducible rfl
    simp only [List.setIfInBounds_toArray, List.set_cons_zero, List.set_cons_succ]
    refine take_op (i := 7) (d := 27) (v := ?_) rfl rfl (by kernel_rfl) (by kernel_rfl) (by kernel_rfl) (fun _ _ _ h => h) (Or.inl ⟨by rfl, ?hy7e19⟩) hHeld ?rest7e19
    case hy7e19 =>
      intro w' hS'
      go_simp
      try with_reducible rfl
    simp only [List.setIfInBounds_toArray, List.set_cons_zero, List.set_cons_succ]
    refine take_op (i := 8) (d := 28) (v := ?_) rfl rfl (by kernel_rfl) (by kernel_rfl) (by kernel_rfl) (fun _ _ _ h => h) (Or.inl ⟨by rfl, ?hy8e20⟩) hHeld ?rest8e20
    case hy8e20 =>
      intro w' hS'
      go_simp
      try with_reducible rfl
    simp only [List.setIfInBounds_toArray, List.set_cons_zero, List.set_cons_succ]
    refine take_op (i := 9) (d := 29) (v := ?_) rfl rfl (by kernel_rfl) (by kernel_rfl) (by kernel_rfl) (fun _ _ _ h => h) (Or.inl ⟨by rfl, ?hy9e21⟩) hHeld ?rest9e21
    case hy9e21 =>
      intro w' hS'
      go_simp
      try with_reducible rfl
    simp only [List.setIfInBounds_toArray, List.set_cons_zero, List.set_cons_succ]
    refine take_op (i := 10) (d := 8) (v := ?_) rfl rfl (by kernel_rfl) (by kernel_rfl) (by kernel_rfl) (fun _ _ _ h => h) (Or.inl ⟨by rfl, ?hy10e22⟩) hHeld ?rest10e22
    case hy10e22 =>
      intro w' hS'
      go_simp
      try with_reducible rfl
    simp only [List.setIfInBounds_toArray, List.set_cons_zero, List.set_cons_succ]
    refine take_op (i := 11) (d := 9) (v := ?_) rfl rfl (by kernel_rfl) (by kernel_rfl) (by kernel_rfl) (fun _ _ _ h => h) (Or.inl ⟨by rfl, ?hy11e23⟩) hHeld ?rest11e23
    case hy11e23 =>
      intro w' hS'
      go_simp
      try with_reducible rfl
    simp only [List.setIfInBounds_toArray, List.set_cons_zero, List.set_cons_succ]
    refine take_op (i := 12) (d := 10) (v := ?_) rfl rfl (by kernel_rfl) (by kernel_rfl) (by kernel_rfl) (fun _ _ _ h => h) (Or.inl ⟨by rfl, ?hy12e24⟩) hHeld ?rest12e24
    case hy12e24 =>
      intro w' hS'
      go_simp
      try with_reducible rfl
    simp only [List.setIfInBounds_toArray, List.set_cons_zero, List.set_cons_succ]
    refine wpAnyH_done (by kernel_rfl) ?_ _
    replace H0 := Lib.hid (below_row hHeld H0.out)
    replace HA := Lib.hid (aws_below HA.out hHeld)
    replace HX := Lib.hid (errs_below HX.out hHeld)
    replace hb := hb.trans (hHeld.mono hb.size)
    clear hHeld HZ HS
    go_upto_region 7 with (go_at_call 40; refine (toAwningS_any dv ws hlen _ HA.out).mono ?_; rintro e W3 ⟨⟨v6, rfl, hv⟩, hb1⟩; have HV6 := Lib.hid hv; clear hv; replace H0 := Lib.hid (below_row hb1 H0.out); replace HA := Lib.hid (aws_below HA.out hb1); replace HX := Lib.hid (errs_below HX.out hb1); replace hb := hb.trans (hb1.mono hb.size); clear hb1)
    go_upto_region 8 with (first | (refine wpList_load_part rfl 67 _ rfl w.heap.size 0 48 rfl 67 (sunC hs ts) (0, 0) _ H0.out Tryd.underlying67 rfl info_sunL (sun_fits _ _ Hh.out Ht.out) _ (sun_all _ _ Hh.out Ht.out) ?_) | (go_at_call 34; refine (toSun_any hs ts Hh.out Ht.out _).mono ?_; rintro e W4 ⟨rfl, hb1⟩; replace H0 := Lib.hid (below_row hb1 H0.out); replace HA := Lib.hid (aws_below HA.out hb1); replace HX := Lib.hid (errs_below HX.out hb1); replace hb := hb.trans (hb1.mono hb.size); replace HV6 := Lib.hid (aws_below HV6.out hb1); clear hb1) | (go_at_call 41; refine (HI.out _ _ HV6.out HX.out).mono ?_; rintro e W5 ⟨rfl, hb1⟩; replace H0 := Lib.hid (below_row hb1 H0.out); replace HA := Lib.hid (aws_below HA.out hb1); replace HX := Lib.hid (errs_below HX.out hb1); replace hb := hb.trans (hb1.mono hb.size); replace HV6 := Lib.hid (aws_below HV6.out hb1); clear hb1))
    clear HI
    go_upto_region 10 with (go_at_call 16; refine (same_wide _ Hv0.out _).mono ?_; rintro e w1 ⟨rfl, rfl⟩)
    go_wp2_with (first | (go_at_call 40; refine (toAwningS_any dv ws hlen _ HA.out).mono ?_; rintro e W3 ⟨⟨v7, rfl, hv⟩, hb1⟩; have HV7 := Lib.hid hv; clear hv; replace H0 := Lib.hid (below_row hb1 H0.out); replace HA := Lib.hid (aws_below HA.out hb1); replace HX := Lib.hid (errs_below HX.out hb1); replace hb := hb.trans (hb1.mono hb.size); replace HV6 := Lib.hid (aws_below HV6.out hb1); clear hb1) | (go_at_call 42; refine (eqAwningS_any v6 v7 ws _ HV6.out HV7.out).mono ?_; rintro e W9 ⟨rfl, hb1⟩; replace hb := hb.trans (hb1.mono hb.size); clear hb1))
    go_ret
    exact ⟨rfl, hb⟩

theorem FnExactBestAwning_walk (dv : Value) (ws : List Awn) (hwf : ∀ x ∈ ws, AwnWf x) (hs ts : List Int) (hh : hs.length = 24) (ht : ts.length = 24) (rb : ∀ x ∈ hs ++ ts, -32768 ≤ x ∧ x ≤ 32767) (fc : Int) (w : World) (hds : AwsAt w dv ws) {e0 e1 e2 e3 : Addr} (hE : ErrsAt w e0 e1 e2 e3) :
    Calls Tryd.prog 10 #[dv, .agg (sunC hs ts), .int .i64 fc] w fun e w' => e = .returned (.bool true) ∧ Below w.heap.size w w' := by
  by_cases hc : codeA (okB hs ts) (ws.all fitA) (inF fc) ws.length = 0
  · have hk : okB hs ts = true ∧ ws.all fitA = true ∧ inF fc = true ∧ ws.length ≤ 8 ∧ ws.length ≠ 0 := by
      unfold codeA at hc
      generalize ws.length = n at hc ⊢
      cases h1 : okB hs ts <;> cases h2 : ws.all fitA <;> cases h3 : inF fc <;> rw [h1, h2, h3] at hc <;> simp at hc
      exact ⟨rfl, rfl, rfl, by omega, by omega⟩
    obtain ⟨hv, ha, hf, hl, hl0⟩ := hk
    have aw : ∀ x ∈ ws, AwOk x.1 x.2.1 x.2.2.1 x.2.2.2 := fun x hx => awok_of (hwf x hx) (List.all_eq_true.1 ha x hx)
    have q : ∀ k : Nat, k < 24 → HrOk hs ts (k : Int) fc := fun k hk => hrok_of hh ht hv (by omega) (by omega) hf
    have hfin : fin32 (leastA (baN hs ts fc ws) ws.length) = true := by
      obtain ⟨j, hj⟩ : ∃ j, ws.length = j + 1 := ⟨ws.length - 1, by omega⟩
      rw [hj]
      exact baN_fin aw q _
    exact lawBa_core hs ts hh ht fc dv ws _ _ _ hfin e0 e1 e2 e3 (fun d W h1 => sBa_y hs ts hh ht rb fc d ws W h1 aw q hv ha hf hl hl0) (fun d W h1 h3 => iBa_y hs ts hh ht fc d ws e0 e1 e2 e3 W h1 h3 aw q hv ha hf hl hl0) w hds hE
  · exact lawBa_core hs ts hh ht fc dv ws _ _ _ zero_fin e0 e1 e2 e3 (fun d W h1 => sBa_n hs ts hh ht rb fc d ws W h1 _ rfl hc) (fun d W h1 h3 => iBa_n hs ts hh ht fc d ws e0 e1 e2 e3 W h1 h3 _ rfl hc) w hds hE

end Go.Proofs.YtdccmdcgbembpaaDoor
