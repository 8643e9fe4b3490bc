/-
  YrP, YrG, YrA, YrS, YrI, YrB, SuM, YrL, Mag, Sms.
-/
import Derived.Test.YtmniodfdoidffaaDoorMy1
import Derived.Test.YtmniodfdoidffaaDoorWoD
import Derived.Test.YtmniodfdoidffaaDoorBfn
import Derived.Test.YtmniodfdoidffaaDoorPasser
import Derived.Test.YtmniodfdoidffaaDoorAdd
import Derived.Test.YtmniodfdoidffaaDoorMul
import Derived.Test.YtmniodfdoidffaaDoorDay
import Derived.Test.YtmniodfdoidffaaDoorLawH
import Derived.Test.YtmniodfdoidffaaDoorNear

namespace Go.Proofs.YtmniodfdoidffaaDoor
open Go.ChangeShapes Go.WideShapes Go.ChangeAt Go.RowKit Go.Deep Go.Joins

attribute [local go_sem] run_store_f

def codeY (okb : Bool) (ws : List Su) (fine : Bool) : Int := if (okb && ws.all okSu) = false then 1 else if inI 1 12 (ws.length : Int) = false then 3 else if fine = false then 2 else 0

theorem codeY_ok {okb : Bool} {ws : List Su} {fine : Bool} (h : codeY okb ws fine = 0) : okb = true ∧ ws.all okSu = true ∧ (1 ≤ ws.length ∧ ws.length ≤ 12) ∧ fine = true := by
  unfold codeY at h
  cases hk : okb && ws.all okSu with
  | false => rw [hk, if_pos rfl] at h; cases h
  | true =>
    rw [hk, if_neg (by decide)] at h
    cases hl : inI 1 12 (ws.length : Int) with
    | false => rw [hl, if_pos rfl] at h; cases h
    | true =>
      rw [hl, if_neg (by decide)] at h
      cases fine with
      | false => cases h
      | true =>
        rw [Bool.and_eq_true] at hk
        have := inI_get hl
        exact ⟨hk.1, hk.2, ⟨by omega, by omega⟩, rfl⟩

def yrRf (c : Int) : Rf := if c = 0 then .non else .call c

set_option maxRecDepth 100000 in
set_option maxHeartbeats 2000000 in
theorem checkYear_b (n : Int) (wd gp : Nat) (t : Int) (sh : Nat) (T0 : -32768 ≤ t) (T1 : t ≤ 32767) (sv : Value) (ws : List Su) (hwf : ∀ x ∈ ws, SuWf x) (fine : Bool) (hk : okBl n wd gp t sh = false) (w : World) (hz : SunsAt w sv ws) :
    Calls Tryd.prog 91 #[.agg (blindC n wd gp t sh), sv, .bool fine] w fun e w' => e = .returned (.iface 181 (.agg #[.int .i64 1])) ∧ Below w.heap.size w w' := by
  have HV := Lib.hid (fun w => ValidBlind_any n wd gp t sh T0 T1 w)
  rw [hk] at HV
  have HF := Lib.hid (fun W hz => containsSu_any sv ws hwf W hz)
  have HZ := Lib.hid hz
  obtain ⟨a, cap, rfl, hl1, hl2, _⟩ := hz
  unfold maxLen at hl2
  generalize hn : ws.length = n' at *
  clear hn hwf hk T0 T1
  go_enter Tryd.func91, Tryd.ntmps91
  go_upto_region 1 with (fail)
  refine abs_world (fun W => Below w.heap.size w W ∧ W.heap[w.heap.size]? = some (.cells (blindC n wd gp t sh) 59 (0, 0))) ⟨(Below.refl _ _).alloc (Nat.le_refl _) _, heap_alloc_new _ _⟩ ?_
  rintro W ⟨hb, h0⟩
  have H0 := Lib.hid h0
  clear h0
  go_wp2_with (first | (refine wpList_load_part rfl 59 _ rfl w.heap.size 0 5 rfl 59 (blindC n wd gp t sh) (0, 0) _ H0.out Tryd.underlying59 rfl info_blind (blind_fits _ _ _ _ _) _ (blind_all _ _ _ _ _) ?_) | (go_at_call 134; refine (HV.out _).mono ?_; rintro e W1 ⟨rfl, hb1⟩; replace H0 := Lib.hid (below_row hb1 H0.out); replace hb := hb.trans (hb1.mono hb.size); clear hb1) | (go_at_call 145; refine (HF.out _ (suns_below HZ.out hb)).mono ?_; rintro e W1 ⟨rfl, hb1⟩; replace hb := hb.trans (hb1.mono hb.size); clear hb1))
  go_ret
  exact ⟨rfl, hb⟩

set_option maxRecDepth 100000 in
set_option maxHeartbeats 2000000 in
theorem checkYear_a (n : Int) (wd gp : Nat) (t : Int) (sh : Nat) (T0 : -32768 ≤ t) (T1 : t ≤ 32767) (sv : Value) (ws : List Su) (hwf : ∀ x ∈ ws, SuWf x) (fine : Bool) (hk : okBl n wd gp t sh = true) (ha : ws.all okSu = false) (w : World) (hz : SunsAt w sv ws) :
    Calls Tryd.prog 91 #[.agg (blindC n wd gp t sh), sv, .bool fine] w fun e w' => e = .returned (.iface 181 (.agg #[.int .i64 1])) ∧ Below w.heap.size w w' := by
  have HV := Lib.hid (fun w => ValidBlind_any n wd gp t sh T0 T1 w)
  rw [hk] at HV
  have HF := Lib.hid (fun W hz => containsSu_any sv ws hwf W hz)
  rw [ha] at HF
  have HZ := Lib.hid hz
  obtain ⟨a, cap, rfl, hl1, hl2, _⟩ := hz
  unfold maxLen at hl2
  generalize hn : ws.length = n' at *
  clear hn hwf hk T0 T1 ha
  go_enter Tryd.func91, Tryd.ntmps91
  go_upto_region 1 with (fail)
  refine abs_world (fun W => Below w.heap.size w W ∧ W.heap[w.heap.size]? = some (.cells (blindC n wd gp t sh) 59 (0, 0))) ⟨(Below.refl _ _).alloc (Nat.le_refl _) _, heap_alloc_new _ _⟩ ?_
  rintro W ⟨hb, h0⟩
  have H0 := Lib.hid h0
  clear h0
  go_wp2_with (first | (refine wpList_load_part rfl 59 _ rfl w.heap.size 0 5 rfl 59 (blindC n wd gp t sh) (0, 0) _ H0.out Tryd.underlying59 rfl info_blind (blind_fits _ _ _ _ _) _ (blind_all _ _ _ _ _) ?_) | (go_at_call 134; refine (HV.out _).mono ?_; rintro e W1 ⟨rfl, hb1⟩; replace H0 := Lib.hid (below_row hb1 H0.out); replace hb := hb.trans (hb1.mono hb.size); clear hb1) | (go_at_call 145; refine (HF.out _ (suns_below HZ.out hb)).mono ?_; rintro e W1 ⟨rfl, hb1⟩; replace hb := hb.trans (hb1.mono hb.size); clear hb1))
  go_ret
  exact ⟨rfl, hb⟩

set_option maxRecDepth 100000 in
set_option maxHeartbeats 2000000 in
theorem checkYear_s (n : Int) (wd gp : Nat) (t : Int) (sh : Nat) (T0 : -32768 ≤ t) (T1 : t ≤ 32767) (sv : Value) (ws : List Su) (hwf : ∀ x ∈ ws, SuWf x) (fine : Bool) (hk : okBl n wd gp t sh = true) (ha : ws.all okSu = true) (hl : (ws.length : Int) < 1) (w : World) (hz : SunsAt w sv ws) :
    Calls Tryd.prog 91 #[.agg (blindC n wd gp t sh), sv, .bool fine] w fun e w' => e = .returned (.iface 181 (.agg #[.int .i64 3])) ∧ Below w.heap.size w w' := by
  have HV := Lib.hid (fun w => ValidBlind_any n wd gp t sh T0 T1 w)
  rw [hk] at HV
  have HF := Lib.hid (fun W hz => containsSu_any sv ws hwf W hz)
  rw [ha] at HF
  have HZ := Lib.hid hz
  obtain ⟨a, cap, rfl, hl1, hl2, _⟩ := hz
  unfold maxLen at hl2
  generalize hn : ws.length = n' at *
  clear hn hwf hk T0 T1 ha
  go_enter Tryd.func91, Tryd.ntmps91
  go_upto_region 1 with (fail)
  refine abs_world (fun W => Below w.heap.size w W ∧ W.heap[w.heap.size]? = some (.cells (blindC n wd gp t sh) 59 (0, 0))) ⟨(Below.refl _ _).alloc (Nat.le_refl _) _, heap_alloc_new _ _⟩ ?_
  rintro W ⟨hb, h0⟩
  have H0 := Lib.hid h0
  clear h0
  go_wp2_with (first | (refine wpList_load_part rfl 59 _ rfl w.heap.size 0 5 rfl 59 (blindC n wd gp t sh) (0, 0) _ H0.out Tryd.underlying59 rfl info_blind (blind_fits _ _ _ _ _) _ (blind_all _ _ _ _ _) ?_) | (go_at_call 134; refine (HV.out _).mono ?_; rintro e W1 ⟨rfl, hb1⟩; replace H0 := Lib.hid (below_row hb1 H0.out); replace hb := hb.trans (hb1.mono hb.size); clear hb1) | (go_at_call 145; refine (HF.out _ (suns_below HZ.out hb)).mono ?_; rintro e W1 ⟨rfl, hb1⟩; replace hb := hb.trans (hb1.mono hb.size); clear hb1))
  go_ret
  exact ⟨rfl, hb⟩

set_option maxRecDepth 100000 in
set_option maxHeartbeats 2000000 in
theorem checkYear_l (n : Int) (wd gp : Nat) (t : Int) (sh : Nat) (T0 : -32768 ≤ t) (T1 : t ≤ 32767) (sv : Value) (ws : List Su) (hwf : ∀ x ∈ ws, SuWf x) (fine : Bool) (hk : okBl n wd gp t sh = true) (ha : ws.all okSu = true) (hl : 12 < (ws.length : Int)) (w : World) (hz : SunsAt w sv ws) :
    Calls Tryd.prog 91 #[.agg (blindC n wd gp t sh), sv, .bool fine] w fun e w' => e = .returned (.iface 181 (.agg #[.int .i64 3])) ∧ Below w.heap.size w w' := by
  have HV := Lib.hid (fun w => ValidBlind_any n wd gp t sh T0 T1 w)
  rw [hk] at HV
  have HF := Lib.hid (fun W hz => containsSu_any sv ws hwf W hz)
  rw [ha] at HF
  have HZ := Lib.hid hz
  obtain ⟨a, cap, rfl, hl1, hl2, _⟩ := hz
  unfold maxLen at hl2
  generalize hn : ws.length = n' at *
  have hl' : ¬ (n' : Int) < 1 := by omega
  clear hn hwf hk T0 T1 ha
  go_enter Tryd.func91, Tryd.ntmps91
  go_upto_region 1 with (fail)
  refine abs_world (fun W => Below w.heap.size w W ∧ W.heap[w.heap.size]? = some (.cells (blindC n wd gp t sh) 59 (0, 0))) ⟨(Below.refl _ _).alloc (Nat.le_refl _) _, heap_alloc_new _ _⟩ ?_
  rintro W ⟨hb, h0⟩
  have H0 := Lib.hid h0
  clear h0
  go_wp2_with (first | (refine wpList_load_part rfl 59 _ rfl w.heap.size 0 5 rfl 59 (blindC n wd gp t sh) (0, 0) _ H0.out Tryd.underlying59 rfl info_blind (blind_fits _ _ _ _ _) _ (blind_all _ _ _ _ _) ?_) | (go_at_call 134; refine (HV.out _).mono ?_; rintro e W1 ⟨rfl, hb1⟩; replace H0 := Lib.hid (below_row hb1 H0.out); replace hb := hb.trans (hb1.mono hb.size); clear hb1) | (go_at_call 145; refine (HF.out _ (suns_below HZ.out hb)).mono ?_; rintro e W1 ⟨rfl, hb1⟩; replace hb := hb.trans (hb1.mono hb.size); clear hb1))
  go_ret
  exact ⟨rfl, hb⟩

set_option maxRecDepth 100000 in
set_option maxHeartbeats 2000000 in
theorem checkYear_f (n : Int) (wd gp : Nat) (t : Int) (sh : Nat) (T0 : -32768 ≤ t) (T1 : t ≤ 32767) (sv : Value) (ws : List Su) (hwf : ∀ x ∈ ws, SuWf x) (fine : Bool) (hk : okBl n wd gp t sh = true) (ha : ws.all okSu = true) (hl : 1 ≤ ws.length ∧ ws.length ≤ 12) (hf : fine = false) (w : World) (hz : SunsAt w sv ws) :
    Calls Tryd.prog 91 #[.agg (blindC n wd gp t sh), sv, .bool fine] w fun e w' => e = .returned (.iface 181 (.agg #[.int .i64 2])) ∧ Below w.heap.size w w' := by
  have HV := Lib.hid (fun w => ValidBlind_any n wd gp t sh T0 T1 w)
  rw [hk] at HV
  have HF := Lib.hid (fun W hz => containsSu_any sv ws hwf W hz)
  rw [ha] at HF
  have HZ := Lib.hid hz
  obtain ⟨a, cap, rfl, hl1, hl2, _⟩ := hz
  unfold maxLen at hl2
  generalize hn : ws.length = n' at *
  have hl' : ¬ (n' : Int) < 1 := by omega
  have hl2 : ¬ 12 < (n' : Int) := by omega
  clear hl
  subst hf
  clear hn hwf hk T0 T1 ha
  go_enter Tryd.func91, Tryd.ntmps91
  go_upto_region 1 with (fail)
  refine abs_world (fun W => Below w.heap.size w W ∧ W.heap[w.heap.size]? = some (.cells (blindC n wd gp t sh) 59 (0, 0))) ⟨(Below.refl _ _).alloc (Nat.le_refl _) _, heap_alloc_new _ _⟩ ?_
  rintro W ⟨hb, h0⟩
  have H0 := Lib.hid h0
  clear h0
  go_wp2_with (first | (refine wpList_load_part rfl 59 _ rfl w.heap.size 0 5 rfl 59 (blindC n wd gp t sh) (0, 0) _ H0.out Tryd.underlying59 rfl info_blind (blind_fits _ _ _ _ _) _ (blind_all _ _ _ _ _) ?_) | (go_at_call 134; refine (HV.out _).mono ?_; rintro e W1 ⟨rfl, hb1⟩; replace H0 := Lib.hid (below_row hb1 H0.out); replace hb := hb.trans (hb1.mono hb.size); clear hb1) | (go_at_call 145; refine (HF.out _ (suns_below HZ.out hb)).mono ?_; rintro e W1 ⟨rfl, hb1⟩; replace hb := hb.trans (hb1.mono hb.size); clear hb1))
  go_ret
  exact ⟨rfl, hb⟩

set_option maxRecDepth 100000 in
set_option maxHeartbeats 2000000 in
theorem checkYear_y (n : Int) (wd gp : Nat) (t : Int) (sh : Nat) (T0 : -32768 ≤ t) (T1 : t ≤ 32767) (sv : Value) (ws : List Su) (hwf : ∀ x ∈ ws, SuWf x) (fine : Bool) (hk : okBl n wd gp t sh = true) (ha : ws.all okSu = true) (hl : 1 ≤ ws.length ∧ ws.length ≤ 12) (hf : fine = true) (w : World) (hz : SunsAt w sv ws) :
    Calls Tryd.prog 91 #[.agg (blindC n wd gp t sh), sv, .bool fine] w fun e w' => e = .returned .nilIface ∧ Below w.heap.size w w' := by
  have HV := Lib.hid (fun w => ValidBlind_any n wd gp t sh T0 T1 w)
  rw [hk] at HV
  have HF := Lib.hid (fun W hz => containsSu_any sv ws hwf W hz)
  rw [ha] at HF
  have HZ := Lib.hid hz
  obtain ⟨a, cap, rfl, hl1, hl2, _⟩ := hz
  unfold maxLen at hl2
  generalize hn : ws.length = n' at *
  have hl' : ¬ (n' : Int) < 1 := by omega
  have hl2 : ¬ 12 < (n' : Int) := by omega
  clear hl
  subst hf
  clear hn hwf hk T0 T1 ha
  go_enter Tryd.func91, Tryd.ntmps91
  go_upto_region 1 with (fail)
  refine abs_world (fun W => Below w.heap.size w W ∧ W.heap[w.heap.size]? = some (.cells (blindC n wd gp t sh) 59 (0, 0))) ⟨(Below.refl _ _).alloc (Nat.le_refl _) _, heap_alloc_new _ _⟩ ?_
  rintro W ⟨hb, h0⟩
  have H0 := Lib.hid h0
  clear h0
  go_wp2_with (first | (refine wpList_load_part rfl 59 _ rfl w.heap.size 0 5 rfl 59 (blindC n wd gp t sh) (0, 0) _ H0.out Tryd.underlying59 rfl info_blind (blind_fits _ _ _ _ _) _ (blind_all _ _ _ _ _) ?_) | (go_at_call 134; refine (HV.out _).mono ?_; rintro e W1 ⟨rfl, hb1⟩; replace H0 := Lib.hid (below_row hb1 H0.out); replace hb := hb.trans (hb1.mono hb.size); clear hb1) | (go_at_call 145; refine (HF.out _ (suns_below HZ.out hb)).mono ?_; rintro e W1 ⟨rfl, hb1⟩; replace hb := hb.trans (hb1.mono hb.size); clear hb1))
  go_ret
  exact ⟨rfl, hb⟩

theorem checkYear_any (n : Int) (wd gp : Nat) (t : Int) (sh : Nat) (T0 : -32768 ≤ t) (T1 : t ≤ 32767) (sv : Value) (ws : List Su) (hwf : ∀ x ∈ ws, SuWf x) (fine : Bool) (w : World) (hz : SunsAt w sv ws) :
    Calls Tryd.prog 91 #[.agg (blindC n wd gp t sh), sv, .bool fine] w fun e w' => e = .returned (rfV (yrRf (codeY (okBl n wd gp t sh) ws fine))) ∧ Below w.heap.size w w' := by
  unfold codeY
  cases hk : okBl n wd gp t sh with
  | false => exact checkYear_b n wd gp t sh T0 T1 sv ws hwf fine hk w hz
  | true =>
    cases ha : ws.all okSu with
    | false => exact checkYear_a n wd gp t sh T0 T1 sv ws hwf fine hk ha w hz
    | true =>
      cases hl : inI 1 12 (ws.length : Int) with
      | false =>
        have hl' : (ws.length : Int) < 1 ∨ 12 < (ws.length : Int) := by
          unfold inI at hl
          simp at hl
          omega
        rcases hl' with h | h
        · exact checkYear_s n wd gp t sh T0 T1 sv ws hwf fine hk ha h w hz
        · exact checkYear_l n wd gp t sh T0 T1 sv ws hwf fine hk ha h w hz
      | true =>
        have hl' := inI_get hl
        have hl2 : 1 ≤ ws.length ∧ ws.length ≤ 12 := by omega
        cases fine with
        | false => exact checkYear_f n wd gp t sh T0 T1 sv ws hwf false hk ha hl2 rfl w hz
        | true => exact checkYear_y n wd gp t sh T0 T1 sv ws hwf true hk ha hl2 rfl w hz

set_option maxRecDepth 100000 in
set_option maxHeartbeats 4000000 in
theorem yearLight_any (n : Int) (wd gp : Nat) (t : Int) (sh : Nat) (OK : BlOk n wd gp t sh) (sv : Value) (ws : List Su) (hwf : ∀ x ∈ ws, SuWf x) (hok : ∀ x ∈ ws, okSu x = true) (hlen : ws.length ≤ 12) (fc : Int) (h3 : inF fc = true) (w : World) (hz : SunsAt w sv ws) :
    Calls Tryd.prog 93 #[.agg (blindC n wd gp t sh), sv, .int .i64 fc] w fun e w' => (∃ v, e = .returned v ∧ Own w' w.heap.size 25 (Value.float .f32) v (ws.map (dyL wd gp t sh fc))) ∧ Below w.heap.size w w' := by
  have HP := Lib.hid (fun w => passer_any n wd gp t sh OK w)
  have HX : Hid (∀ x ∈ ws, ∀ (p1 p2 : Nat) (W : World), W.heap[p1]? = some (.cells (blindC n wd gp t sh) 59 (0, 0)) → W.heap[p2]? = some (.cells #[.float .f32 (opnB wd gp t 1)] 25 (0, 0)) →
      Calls Tryd.prog 147 #[(.func (.func 192) #[] #[.pointer (some ⟨p1, 0, none⟩), .pointer (some ⟨p2, 0, none⟩)]), .agg (suC x), .int .i64 fc] W fun e w' => e = .returned (.float .f32 (dyL wd gp t sh fc x)) ∧ Below W.heap.size W w') := fun x hx p1 p2 W c1 c2 => windowOver_is n wd gp t sh x.1 x.2 (hwf x hx).1 (hwf x hx).2.1 OK fc (hok x hx) h3 p1 p2 W c1 c2
  have HZ := Lib.hid hz
  have HS := Lib.hid (fun x hx => suC_size (hwf x hx))
  obtain ⟨a, cap, rfl, hl1, hl2, _⟩ := hz
  unfold maxLen at hl2
  generalize hn : ws.length = n' at *
  have HN := Lib.hid hn
  have hmk := fun w => make_floats n' (by omega) w
  generalize hd : dyL wd gp t sh fc = d at *
  clear hn hd OK hwf hok h3
  go_enter Tryd.func93, Tryd.ntmps93
  go_upto_region 1 with (fail)
  refine abs_world (fun W => Below w.heap.size w W ∧ W.heap[w.heap.size]? = some (.cells (blindC n wd gp t sh) 59 (0, 0))) ⟨(Below.refl _ _).alloc (Nat.le_refl _) _, heap_alloc_new _ _⟩ ?_
  rintro W ⟨hb, h0⟩
  have H0 := Lib.hid h0
  clear h0
  go_upto_region 2 with (first | (refine wpList_load_part rfl 59 _ rfl w.heap.size 0 5 rfl 59 (blindC n wd gp t sh) (0, 0) _ H0.out Tryd.underlying59 rfl info_blind (blind_fits _ _ _ _ _) _ (blind_all _ _ _ _ _) ?_) | (go_at_call 146; refine (HP.out _).mono ?_; rintro e W1 ⟨⟨v, rfl, p1, p2, rfl, c1, c2⟩, hb1⟩; replace hb := hb.trans (hb1.mono hb.size); clear hb1))
  have C1 := Lib.hid c1
  have C2 := Lib.hid c2
  have hws := hb.size
  clear c1 c2 H0 HP
  go_upto_region 3 with (fail)
  refine abs_code (fun V => V.heap[p1]? = some (.cells (blindC n wd gp t sh) 59 (0, 0)) ∧ V.heap[p2]? = some (.cells #[.float .f32 (opnB wd gp t 1)] 25 (0, 0)) ∧ (∃ cur : Array Value, V.heap[W1.heap.size]? = some (.cells cur 25 (0, 0)) ∧ cur.size = n') ∧ Below w.heap.size w V) ⟨below_row ((Below.refl W1.heap.size _).alloc (Nat.le_refl _) _) C1.out, below_row ((Below.refl W1.heap.size _).alloc (Nat.le_refl _) _) C2.out, ⟨_, heap_alloc_new _ _, size_madeCells _ _⟩, hb.alloc hb.size _⟩ ?_
  have hp1 := row_lt C1.out
  have hp2 := row_lt C2.out
  clear C1 C2 hb hmk
  generalize W1.heap.size = g at *
  rintro V ⟨c1, c2, ⟨cur0, hg0, hs0⟩, hbv⟩
  have C1 := Lib.hid c1
  have C2 := Lib.hid c2
  have HG0 := Lib.hid hg0
  clear c1 c2 hg0
  go_wp2
  go_loopw [18] (fun i wr => ∃ k : Nat, k ≤ n' ∧ i = .int .i64 k ∧ wr.heap[p1]? = some (.cells (blindC n wd gp t sh) 59 (0, 0)) ∧ wr.heap[p2]? = some (.cells #[.float .f32 (opnB wd gp t 1)] 25 (0, 0)) ∧ (∃ cur : Array Value, wr.heap[g]? = some (.cells cur 25 (0, 0)) ∧ cur.size = n' ∧ ∀ j x, j < k → ws[j]? = some x → cur[j]? = some (.float .f32 (d x))) ∧ Below w.heap.size w wr) (fun i _ => n' - (intOf i).toNat)
  case atStart => exact ⟨0, Nat.zero_le _, rfl, C1.out, C2.out, ⟨cur0, HG0.out, hs0, fun j x hj => by omega⟩, hbv⟩
  case round =>
    clear C1 C2 HG0 hbv
    obtain ⟨k, hk, rfl, c1, c2, ⟨cur, hg, hs, hp⟩, hb⟩ := hrel
    have C1 := Lib.hid c1
    have C2 := Lib.hid c2
    have HP := Lib.hid hp
    have HG := Lib.hid hg
    clear c1 c2 hp hg
    by_cases hlt : k < n'
    · have hx : ws[k]? = some (ws[k]'(by rw [HN.out]; exact hlt)) := List.getElem?_eq_getElem _
      obtain ⟨g0, o, rfl, hc⟩ := sun_at (suns_below HZ.out hb) hx
      have HC := Lib.hid hc
      have HM := List.mem_of_getElem? hx
      generalize (ws[k]'(by rw [HN.out]; exact hlt)) = x at *
      have HD := Lib.hid hx
      have HSZ := Lib.hid (HS.out x HM)
      have HXX := Lib.hid (HX.out x HM)
      have z1 : (k : Int) < (n' : Int) := by omega
      have z2 : (0 : Int) ≤ (k : Int) := by omega
      have hgl := row_lt HG.out
      clear hc hx HM
      go_upto_region 6 with (first | (refine wpList_load_cells rfl 126 _ rfl g0 (o + k * 48) 48 rfl _ Tryd.underlying126 rfl info_sun (suC x) HSZ.out HC.out ?_) | (refine wpList_store_part rfl 126 _ _ rfl _ 0 (suC x) rfl rfl 126 _ (heap_alloc_new _ _) (by rw [HSZ.out]; exact info_sun) (by rw [HSZ.out]; decide) (i16s_one _) ?_; rw [laid_allb _ _ (by rw [HSZ.out]; rfl)]))
      refine abs_code (fun U => U.heap[p1]? = some (.cells (blindC n wd gp t sh) 59 (0, 0)) ∧ U.heap[p2]? = some (.cells #[.float .f32 (opnB wd gp t 1)] 25 (0, 0)) ∧ U.heap[g]? = some (.cells cur 25 (0, 0)) ∧ U.heap[wr.heap.size]? = some (.cells (suC x) 126 (0, 0)) ∧ Below w.heap.size w U) ⟨(setRow_other _ _ _ _ (by have := row_lt C1.out; omega)).trans (below_row ((Below.refl wr.heap.size _).alloc (Nat.le_refl _) _) C1.out), (setRow_other _ _ _ _ (by have := row_lt C2.out; omega)).trans (below_row ((Below.refl wr.heap.size _).alloc (Nat.le_refl _) _) C2.out), (setRow_other _ _ _ _ (by omega)).trans (below_row ((Below.refl wr.heap.size _).alloc (Nat.le_refl _) _) HG.out), setRow_heap _ _ _ _ _ _ (heap_alloc_new _ _), below_setRow (hb.alloc hb.size _) hb.size _⟩ ?_
      have hgw := hb.size
      clear C1 C2 HG HC hb
      generalize wr.heap.size = tb at *
      rintro U ⟨c1, c2, hg, h1, hb⟩
      have C1 := Lib.hid c1
      have C2 := Lib.hid c2
      have HG := Lib.hid hg
      have H1 := Lib.hid h1
      clear c1 c2 hg h1
      have hcur : cur[k]? = some (cur[k]'(by omega)) := Array.getElem?_eq_getElem (by omega)
      go_wp2_with (first | (refine wpList_load_part rfl 126 _ rfl tb 0 48 rfl 126 (suC x) (0, 0) _ H1.out Tryd.underlying126 rfl info_sun (by rw [HSZ.out]; decide) (suC x) (by rw [Nat.zero_add, ← HSZ.out, Array.extract_size]) ?_) | (go_at_call 147; refine (HXX.out p1 p2 _ C1.out C2.out).mono ?_; rintro e W5 ⟨rfl, hb5⟩; replace C1 := Lib.hid (below_row hb5 C1.out); replace C2 := Lib.hid (below_row hb5 C2.out); replace HG := Lib.hid (below_row hb5 HG.out); replace hb := hb.trans (hb5.mono hb.size); clear hb5 H1; have q1 := cell_k HG.out hcur; have q2 := frozen_of_row W5 g k _ _ HG.out))
      clear q1 q2 hcur
      go_roundw
      case rel =>
        refine ⟨k + 1, by omega, by go_num, (heap_setCell_other _ _ _ _ (by simp; omega)).trans C1.out, (heap_setCell_other _ _ _ _ (by simp; omega)).trans C2.out, ⟨cur.setIfInBounds k (.float .f32 (d x)), heap_setCell_same _ _ _ _ _ _ HG.out, by simpa using hs, fun j y hj hy => ?_⟩, hb.setCell (p := ⟨g, k, none⟩) (by simp; omega) _⟩
        rw [Array.getElem?_setIfInBounds]
        by_cases e : k = j
        · subst e
          rw [HD.out] at hy
          obtain rfl := Option.some.inj hy
          rw [if_pos rfl, if_pos (by omega)]
        · rw [if_neg e]; exact HP.out j y (by omega) hy
      case measure => simp [intOf]; omega
    · obtain rfl : k = n' := by omega
      have HR : Hid (Own wr w.heap.size 25 (Value.float .f32) (.slice (some ⟨g, 0, none⟩) k k) (ws.map d)) := by
        refine ⟨_, k, by rw [List.length_map, HN.out], by unfold maxLen; omega, by rw [List.length_map, HN.out]; exact Nat.le_refl _, .inr ⟨g, cur, rfl, hws, HG.out, fun j hj => ?_⟩⟩
        rw [List.length_map] at hj
        rw [List.getElem?_map, List.getElem?_eq_getElem hj]
        exact HP.out j _ (by have := HN.out; omega) (List.getElem?_eq_getElem hj)
      clear C1 C2 HP HG
      go_wp2
      go_ret
      exact ⟨⟨_, rfl, HR.out⟩, hb⟩

end Go.Proofs.YtmniodfdoidffaaDoor

namespace Go.Proofs.YtmniodfdoidffaaDoor
open Go.RowKit

def gtY (x y : Nat) : Bool := FloatKind.f32.format.order x y == some .gt

def bstI (zs : List Nat) : Nat → Nat
  | 0 => 0
  | k + 1 => if gtY (zs.getD k 0) (zs.getD (bstI zs k) 0) then k else bstI zs k

theorem bstI_lt (zs : List Nat) {n : Nat} (hn : 0 < n) : ∀ k, k ≤ n → bstI zs k < n
  | 0, _ => hn
  | k + 1, h => by
    rw [bstI]
    split
    · omega
    · exact bstI_lt zs hn k (by omega)

theorem bstI_up {zs : List Nat} {k : Nat} (h : gtY (zs.getD k 0) (zs.getD (bstI zs k) 0) = true) : bstI zs (k + 1) = k := by rw [bstI, if_pos h]

theorem bstI_stay {zs : List Nat} {k : Nat} (h : gtY (zs.getD k 0) (zs.getD (bstI zs k) 0) = false) : bstI zs (k + 1) = bstI zs k := by rw [bstI, if_neg (by rw [h]; decide)]

theorem bstI_one (zs : List Nat) : bstI zs 1 = 0 := by
  rw [bstI]
  split <;> rfl

/-- A sum of numbers from the first one on. -/
def sumL (zs : List Nat) (k : Nat) : Nat := sumTo (fun i => zs.getD i 0) k

theorem sumL_pos {zs : List Nat} (h : ∀ z ∈ zs, pos32 z = true) {k : Nat} (hk : k ≤ zs.length) : pos32 (sumL zs k) = true := by
  refine sumTo_pos _ zs.length (fun i hi => ?_) k hk
  have e : zs[i]? = some zs[i] := List.getElem?_eq_getElem hi
  rw [List.getD, e]
  exact h _ (List.getElem_mem _)

theorem sumL_step {zs : List Nat} (h : ∀ z ∈ zs, pos32 z = true) {k x : Nat} (hx : zs[k]? = some x) : floatBits .add .f32 (sumL zs k) x = some (sumL zs (k + 1)) := by
  have hk := (List.getElem?_eq_some_iff.1 hx).1
  have e : sumL zs (k + 1) = fadd (sumL zs k) x := by
    unfold sumL
    rw [sumTo_succ, List.getD, hx]
    rfl
  rw [e]
  exact (add_ok (sumL_pos h (by omega)) (h x (List.mem_of_getElem? hx))).1

theorem pos_above {x : Nat} (h : pos32 x = true) : FloatKind.f32.format.order x 3212836864 = some .gt := by
  show (Ieee.single.read x).order (Ieee.single.read 3212836864) = some .gt
  rw [show Ieee.single.read 3212836864 = .number true 8388608 (-23) by decide +kernel]
  unfold pos32 at h
  cases hr : Ieee.single.read x with
  | nan s f => rw [hr] at h; cases h
  | infinity s =>
    rw [hr] at h
    cases s
    · rfl
    · cases h
  | number s m e =>
    rw [hr] at h
    cases s
    · have h1 : 0 ≤ Ieee.signed false m (e - min e (-23)).toNat := signed_nonneg _ _
      have h2 : Ieee.signed true 8388608 (-23 - min e (-23)).toNat < 0 := by
        unfold Ieee.signed
        rw [if_pos rfl]
        have h3 : 0 < 8388608 <<< (-23 - min e (-23)).toNat := by
          rw [Nat.shiftLeft_eq]
          exact Nat.mul_pos (by decide) (Nat.two_pow_pos _)
        omega
      show some (compare (Ieee.signed false m (e - min e (-23)).toNat) (Ieee.signed true 8388608 (-23 - min e (-23)).toNat)) = some .gt
      simp only [compare, compareOfLessAndEq]
      rw [if_neg (by omega), if_neg (by omega)]
    · cases h

end Go.Proofs.YtmniodfdoidffaaDoor

namespace Go.Proofs.YtmniodfdoidffaaDoor
open Go.ChangeShapes Go.WideShapes Go.ChangeAt Go.RowKit Go.Deep Go.Joins

attribute [local go_sem] run_store_f

theorem getD_at {zs : List Nat} {k x : Nat} (h : zs[k]? = some x) : zs.getD k 0 = x := by rw [List.getD, h]; rfl

set_option maxRecDepth 100000 in
set_option maxHeartbeats 4000000 in
theorem greatestOf_any (sv : Value) (zs : List Nat) (hf : ∀ z ∈ zs, fin32 z = true) (h0 : 1 ≤ zs.length) (w : World) (hz : FloatsAt w sv zs) :
    Calls Tryd.prog 95 #[sv] w fun e w' => e = .returned (.tuple #[.int .i64 (bstI zs zs.length : Int), .float .f32 (zs.getD (bstI zs zs.length) 0)]) ∧ Below w.heap.size w w' := by
  have HW := Lib.hid hz
  have HF := Lib.hid hf
  obtain ⟨a, cap, rfl, hl, hm, _⟩ := hz
  unfold maxLen at hm
  generalize hn : zs.length = n' at *
  have HN := Lib.hid hn
  have HB := Lib.hid (fun k (hk : k ≤ n') => bstI_lt zs (n := n') (by omega) k hk)
  clear hn hf
  go_enter Tryd.func95, Tryd.ntmps95
  go_wp2
  go_loopw [4, 9] (fun b i wr => ∃ k : Nat, k ≤ n' ∧ i = .int .i64 k ∧ b = .int .i64 (bstI zs k : Int) ∧ w = wr) (fun _ i _ => n' - (intOf i).toNat)
  case atStart => exact ⟨0, Nat.zero_le _, rfl, rfl, rfl⟩
  case round =>
    obtain ⟨k, hk, rfl, rfl, rfl⟩ := hrel
    have hbl := HB.out k hk
    have hy : zs[bstI zs k]? = some (zs[bstI zs k]'(by rw [HN.out]; exact hbl)) := List.getElem?_eq_getElem _
    obtain ⟨g1, o1, rfl, hcy⟩ := float_at HW.out hy
    have HFY := Lib.hid (HF.out _ (List.mem_of_getElem? hy))
    generalize (zs[bstI zs k]'(by rw [HN.out]; exact hbl)) = y at *
    have HY := Lib.hid (getD_at hy)
    clear hy
    by_cases hlt : k < n'
    · have hx : zs[k]? = some (zs[k]'(by rw [HN.out]; exact hlt)) := List.getElem?_eq_getElem _
      obtain ⟨g2, o2, e2, hcx⟩ := float_at HW.out hx
      injection e2 with e2
      injection e2 with e2 e3
      subst e2 e3
      have HFX := Lib.hid (HF.out _ (List.mem_of_getElem? hx))
      generalize (zs[k]'(by rw [HN.out]; exact hlt)) = x at *
      have HX := Lib.hid (getD_at hx)
      obtain ⟨od, ho⟩ := order_some HFX.out HFY.out
      have hg : gtY (zs.getD k 0) (zs.getD (bstI zs k) 0) = (od == .gt) := by
        rw [HX.out, HY.out]
        unfold gtY
        rw [ho]
        rfl
      have HG := Lib.hid hg
      have z1 : (k : Int) < (n' : Int) := by omega
      have z2 : (0 : Int) ≤ (k : Int) := by omega
      have z3 : decide ((k : Int) < (n' : Int)) = true := decide_eq_true z1
      have y1 : ((bstI zs k : Nat) : Int) < (n' : Int) := by omega
      have y2 : (0 : Int) ≤ ((bstI zs k : Nat) : Int) := by omega
      have HSU := Lib.hid (fun h => bstI_up (zs := zs) (k := k) h)
      have HSS := Lib.hid (fun h => bstI_stay (zs := zs) (k := k) h)
      clear hx hg HFX HFY
      generalize bstI zs k = bi at *
      cases od with
      | gt =>
        have HE := Lib.hid (HSU.out HG.out)
        clear HSU HSS
        go_wp2
        go_roundw
        case rel => exact ⟨k + 1, by omega, by go_num, by rw [HE.out], by trivial⟩
        case measure => simp [intOf]; omega
      | lt =>
        have HE := Lib.hid (HSS.out HG.out)
        clear HSU HSS
        go_wp2
        go_roundw
        case rel => exact ⟨k + 1, by omega, by go_num, by rw [HE.out], by trivial⟩
        case measure => simp [intOf]; omega
      | eq =>
        have HE := Lib.hid (HSS.out HG.out)
        clear HSU HSS
        go_wp2
        go_roundw
        case rel => exact ⟨k + 1, by omega, by go_num, by rw [HE.out], by trivial⟩
        case measure => simp [intOf]; omega
    · obtain rfl : k = n' := by omega
      have HCB : Hid (w.cell? ⟨g1, o1 + bstI zs k, none⟩ = some (.float .f32 (zs.getD (bstI zs k) 0))) := by rw [HY.out]; exact hcy
      have y1 : ((bstI zs k : Nat) : Int) < (k : Int) := by omega
      have y2 : (0 : Int) ≤ ((bstI zs k : Nat) : Int) := by omega
      have z1 : decide ((k : Int) < (k : Int)) = false := decide_eq_false (by omega)
      clear hcy hlt
      go_wp2
      refine wp_region_held_drew (S := (fun V => V.cell? ⟨g1, o1 + bstI zs k, none⟩ = some (.float .f32 (zs.getD (bstI zs k) 0)) ∧ Below w.heap.size w V)) (by kernel_rfl) ⟨HCB.out, (Below.refl _ _).drew⟩ (fun hHeld => ?_)
      refine take_op (i := 0) (d := 22) (v := ?_) rfl rfl (by kernel_rfl) (by kernel_rfl) (by kernel_rfl) (fun _ _ _ h => h) (Or.inl ⟨by rfl, ?hy0u8⟩) hHeld ?rest0u8
      case hy0u8 =>
        intro w' hS'
        go_simp
        try with_reducible rfl
      simp only [List.setIfInBounds_toArray, List.set_cons_zero, List.set_cons_succ]
      refine take_op (i := 1) (d := 23) (v := ?_) rfl rfl (by kernel_rfl) (by kernel_rfl) (by kernel_rfl) (fun _ _ _ h => h) (Or.inl ⟨by rfl, ?hy1u9⟩) hHeld ?rest1u9
      case hy1u9 =>
        intro w' hS'
        go_simp
        try with_reducible rfl
      simp only [List.setIfInBounds_toArray, List.set_cons_zero, List.set_cons_succ]
      refine take_op (i := 2) (d := 24) (v := ?_) rfl rfl (by kernel_rfl) (by kernel_rfl) (by kernel_rfl) (fun _ _ _ h => h) (Or.inl ⟨by rfl, ?hy2u10⟩) hHeld ?rest2u10
      case hy2u10 =>
        intro w' hS'
        go_simp
        try with_reducible rfl
      simp only [List.setIfInBounds_toArray, List.set_cons_zero, List.set_cons_succ]
      refine take_op (i := 3) (d := 25) (v := ?_) rfl rfl (by kernel_rfl) (by kernel_rfl) (by kernel_rfl) (fun _ _ _ h => h) (Or.inl ⟨by rfl, ?hy3u11⟩) hHeld ?rest3u11
      case hy3u11 =>
        intro w' hS'
        go_simp
        try with_reducible rfl
      simp only [List.setIfInBounds_toArray, List.set_cons_zero, List.set_cons_succ]
      refine take_op (i := 4) (d := 26) (v := ?_) rfl rfl (by kernel_rfl) (by kernel_rfl) (by kernel_rfl) (fun _ _ _ h => h) (Or.inl ⟨by rfl, ?hy4u12⟩) hHeld ?rest4u12
      case hy4u12 =>
        intro w' hS'
        obtain ⟨s1, _⟩ := hS'
        go_simp
        try with_reducible rfl
      simp only [List.setIfInBounds_toArray, List.set_cons_zero, List.set_cons_succ]
      refine take_op (i := 5) (d := 2) (v := ?_) rfl rfl (by kernel_rfl) (by kernel_rfl) (by kernel_rfl) (fun _ _ _ h => h) (Or.inl ⟨by rfl, ?hy5u13⟩) hHeld ?rest5u13
      case hy5u13 =>
        intro w' hS'
        go_simp
        try with_reducible rfl
      simp only [List.setIfInBounds_toArray, List.set_cons_zero, List.set_cons_succ]
      refine take_op (i := 6) (d := 3) (v := ?_) rfl rfl (by kernel_rfl) (by kernel_rfl) (by kernel_rfl) (fun _ _ _ h => h) (Or.inl ⟨by rfl, ?hy6u14⟩) hHeld ?rest6u14
      case hy6u14 =>
        intro w' hS'
        go_simp
        try with_reducible rfl
      simp only [List.setIfInBounds_toArray, List.set_cons_zero, List.set_cons_succ]
      refine wpAnyH_done (by kernel_rfl) ?_ _
      have hbx := hHeld.2
      clear hHeld HCB
      go_wp2
      go_ret2
      exact ⟨rfl, hbx⟩

set_option maxRecDepth 100000 in
set_option maxHeartbeats 1000000 in
theorem addedP_any (sv : Value) (zs : List Nat) (hq : ∀ z ∈ zs, pos32 z = true) (w : World) (hz : FloatsAt w sv zs) :
    Calls Tryd.prog 97 #[sv] w fun e w' => e = .returned (.float .f32 (sumL zs zs.length)) ∧ w = w' := by
  have HT := Lib.hid (fun k x => sumL_step (k := k) (x := x) hq)
  have HW := Lib.hid hz
  obtain ⟨a, cap, rfl, hl, hm, _⟩ := hz
  unfold maxLen at hm
  generalize hn : zs.length = n at *
  have HN := Lib.hid hn
  clear hn hq
  go_enter Tryd.func97, Tryd.ntmps97
  go_wp2
  go_loopw [3, 8] (fun s i wr => ∃ k : Nat, k ≤ n ∧ i = .int .i64 k ∧ s = .float .f32 (sumL zs k) ∧ wr = w) (fun _ i _ => n - (intOf i).toNat)
  case atStart => exact ⟨0, Nat.zero_le _, rfl, rfl, rfl⟩
  case round =>
    obtain ⟨k, hk, rfl, rfl, rfl⟩ := hrel
    by_cases hlt : k < n
    · have hx : zs[k]? = some (zs[k]'(by rw [HN.out]; exact hlt)) := List.getElem?_eq_getElem _
      obtain ⟨g, o, rfl, hc⟩ := float_at HW.out hx
      generalize (zs[k]'(by rw [HN.out]; exact hlt)) = x at *
      have z1 : (k : Int) < (n : Int) := by omega
      have z2 : (0 : Int) ≤ (k : Int) := by omega
      have z3 : decide ((k : Int) < (n : Int)) = true := decide_eq_true z1
      have ra := fun T w => run_float_arith (P := Tryd.prog) w .add T .f32 _ _ _ (HT.out k x hx)
      clear hx
      go_wp2
      go_roundw
      case rel => exact ⟨k + 1, by omega, by go_num, by trivial, by trivial⟩
      case measure => simp [intOf]; omega
    · obtain rfl : k = n := by omega
      go_wp2
      go_ret
      exact ⟨rfl, rfl⟩

end Go.Proofs.YtmniodfdoidffaaDoor

namespace Go.Proofs.YtmniodfdoidffaaDoor
open Go.ChangeShapes Go.WideShapes Go.ChangeAt Go.RowKit Go.Deep Go.Joins

attribute [local go_sem] run_store_f

theorem l00In_isY (a lo hi : Int) (r : Bool) (h : inI lo hi a = r) (w : World) : Calls Tryd.prog 96 #[.int .i64 a, .int .i64 lo, .int .i64 hi] w fun e w' => e = .returned (.bool r) ∧ w = w' := by subst h; exact l00In_ban a lo hi w

theorem allSu_no {ws : List Su} {k : Nat} {x : Su} (h : ws[k]? = some x) (hx : okSu x = false) : ws.all okSu = false := by
  rw [Bool.eq_false_iff]
  intro ha
  have := List.all_eq_true.1 ha x (List.mem_of_getElem? h)
  rw [hx] at this; cases this

set_option maxRecDepth 100000 in
set_option maxHeartbeats 4000000 in
theorem l07Year_any (n : Int) (wd gp : Nat) (t : Int) (sh : Nat) (T0 : -32768 ≤ t) (T1 : t ≤ 32767) (N0 : -128 ≤ n) (N1 : n ≤ 127) (sv : Value) (ws : List Su) (hwf : ∀ x ∈ ws, SuWf x) (fine : Bool) (c : Int) (hc : codeY (okBl n wd gp t sh) ws fine = c) (g1 : Nat) (w : World) (c1 : w.heap[g1]? = some (.cells (blindC n wd gp t sh) 59 (0, 0))) (hz : SunsAt w sv ws) :
    Calls Tryd.prog 87 #[.pointer (some ⟨g1, 0, none⟩), sv, .bool fine] w fun e w' => e = .returned (.int .i64 c) ∧ w = w' := by
  have HK := Lib.hid (fun w hg => l02Ok_any n wd gp t sh T0 T1 N0 N1 g1 59 (0, 0) w hg)
  have HC := Lib.hid hc
  have HZ := Lib.hid hz
  have HWF := Lib.hid hwf
  have C1 := Lib.hid c1
  obtain ⟨a, cap, rfl, hl1, hl2, _⟩ := hz
  unfold maxLen at hl2
  generalize hn : ws.length = n' at *
  have HN := Lib.hid hn
  clear hc hn hwf c1 T0 T1 N0 N1
  generalize okBl n wd gp t sh = okb at *
  cases okb with
  | false =>
    have hc' : c = 1 := by rw [← HC.out]; rfl
    subst hc'
    clear HC
    go_enter Tryd.func87, Tryd.ntmps87
    go_wp2_with (first | (go_at_call 130; refine (HK.out _ C1.out).mono ?_; rintro e w' ⟨rfl, rfl⟩))
    go_ret
    exact ⟨rfl, rfl⟩
  | true =>
    have HI := Lib.hid (fun w => l00In_isY (n' : Int) 1 12 _ rfl w)
    go_enter Tryd.func87, Tryd.ntmps87
    go_wp2_with (first | (go_at_call 130; refine (HK.out _ C1.out).mono ?_; rintro e w' ⟨rfl, rfl⟩))
    go_loopw [7] (fun i wr => ∃ k : Nat, k ≤ n' ∧ i = .int .i64 k ∧ w = wr ∧ (ws.take k).all okSu = true) (fun i _ => n' - (intOf i).toNat)
    case atStart => exact ⟨0, Nat.zero_le _, rfl, rfl, rfl⟩
    case round =>
      obtain ⟨k, hk, rfl, rfl, hall⟩ := hrel
      have HA := Lib.hid hall
      clear hall
      by_cases hlt : k < n'
      · have hx : ws[k]? = some (ws[k]'(by rw [HN.out]; exact hlt)) := List.getElem?_eq_getElem _
        obtain ⟨g, o, rfl, hcx⟩ := sun_at HZ.out hx
        have HT : Hid (ws.take (k + 1) = ws.take k ++ [(ws[k]'(by rw [HN.out]; exact hlt))]) := by rw [List.take_succ_eq_append_getElem (by rw [HN.out]; exact hlt)]; exact Lib.hid rfl
        generalize (ws[k]'(by rw [HN.out]; exact hlt)) = x at *
        have HX := Lib.hid hx
        have hv := HWF.out x (List.mem_of_getElem? hx)
        have HO := Lib.hid (fun w hg => l01Ok_o g (o + k * 48) x.1 x.2 hv.1 hv.2.1 hv.2.2 w hg)
        have HCX := Lib.hid hcx
        have z1 : (k : Int) < (n' : Int) := by omega
        have z2 : (0 : Int) ≤ (k : Int) := by omega
        clear hx hcx hv
        cases hf : okSu x with
        | true =>
          have hf' : okB x.1 x.2 = true := hf
          rw [hf'] at HO
          have HF := Lib.hid hf
          clear hf hf'
          go_wp2_with (go_at_call 140; refine (HO.out _ HCX.out).mono ?_; rintro e w' ⟨rfl, rfl⟩)
          go_roundw
          case rel => exact ⟨k + 1, by omega, by go_num, by trivial, by rw [HT.out, List.all_append, HA.out]; simp [HF.out]⟩
          case measure => simp [intOf]; omega
        | false =>
          have hf' : okB x.1 x.2 = false := hf
          rw [hf'] at HO
          have hc' : c = 1 := by rw [← HC.out]; unfold codeY; rw [allSu_no HX.out hf]; rfl
          subst hc'
          clear HC hf hf'
          go_wp2_with (go_at_call 140; refine (HO.out _ HCX.out).mono ?_; rintro e w' ⟨rfl, rfl⟩)
          go_ret
          exact ⟨rfl, rfl⟩
      · obtain rfl : k = n' := by omega
        have hall : ws.all okSu = true := by
          have := HA.out
          rwa [List.take_of_length_le (by rw [HN.out]; exact Nat.le_refl _)] at this
        have HL := Lib.hid hall
        clear hall hlt
        cases hl : inI 1 12 (k : Int) with
        | false =>
          rw [hl] at HI
          have hc' : c = 3 := by rw [← HC.out]; unfold codeY; rw [HL.out, HN.out, hl]; rfl
          subst hc'
          clear HC hl
          go_wp2_with (first | (go_at_call 96; refine (HI.out _).mono ?_; rintro e w' ⟨rfl, rfl⟩))
          go_ret
          exact ⟨rfl, rfl⟩
        | true =>
          rw [hl] at HI
          cases fine with
          | false =>
            have hc' : c = 2 := by rw [← HC.out]; unfold codeY; rw [HL.out, HN.out, hl]; rfl
            subst hc'
            clear HC hl
            go_wp2_with (first | (go_at_call 96; refine (HI.out _).mono ?_; rintro e w' ⟨rfl, rfl⟩))
            go_ret
            exact ⟨rfl, rfl⟩
          | true =>
            have hc' : c = 0 := by rw [← HC.out]; unfold codeY; rw [HL.out, HN.out, hl]; rfl
            subst hc'
            clear HC hl
            go_wp2_with (first | (go_at_call 96; refine (HI.out _).mono ?_; rintro e w' ⟨rfl, rfl⟩))
            go_ret
            exact ⟨rfl, rfl⟩

set_option maxRecDepth 100000 in
set_option maxHeartbeats 2000000 in
theorem sYearLight_no (n : Int) (wd gp : Nat) (t : Int) (sh : Nat) (T0 : -32768 ≤ t) (T1 : t ≤ 32767) (N0 : -128 ≤ n) (N1 : n ≤ 127) (sv : Value) (ws : List Su) (hwf : ∀ x ∈ ws, SuWf x) (fc : Int) (fv : Bool) (hf : inF fc = fv) (c : Int) (hc : codeY (okBl n wd gp t sh) ws fv = c) (hne : c ≠ 0) (w : World) (hz : SunsAt w sv ws) :
    Calls Tryd.prog 39 #[.agg (blindC n wd gp t sh), sv, .int .i64 fc] w (RetF6 [] c w) := by
  have HY := Lib.hid (fun g1 w c1 hz => l07Year_any n wd gp t sh T0 T1 N0 N1 sv ws hwf fv c hc g1 w c1 hz)
  have HZ := Lib.hid hz
  have HFc := Lib.hid hf
  have hne' : (c != 0) = true := bne_iff_ne.2 hne
  obtain ⟨a, cap, rfl, -⟩ := hz
  clear hc hf hne hwf T0 T1 N0 N1
  go_enter Tryd.func39, Tryd.ntmps39
  go_upto_region 1 with (fail)
  refine abs_world (fun W => Below w.heap.size w W ∧ W.heap[w.heap.size]? = some (.cells (blindC n wd gp t sh) 59 (0, 0))) ⟨(Below.refl _ _).alloc (Nat.le_refl _) _, heap_alloc_new _ _⟩ ?_
  rintro W ⟨hb, h0⟩
  have H0 := Lib.hid h0
  clear h0
  go_wp2_with (first | (go_at_call 88; refine (l01Faced_is fc fv HFc.out _).mono ?_; rintro e w' ⟨rfl, rfl⟩) | (go_at_call 87; refine (HY.out _ _ H0.out (suns_below HZ.out hb)).mono ?_; rintro e w' ⟨rfl, rfl⟩))
  go_ret2
  exact ⟨⟨_, rfl, ⟨_, 0, rfl, Nat.zero_le _, Nat.le_refl _, .inr ⟨_, #[], rfl, hb.size, heap_alloc_new _ _, fun k hk => absurd hk (Nat.not_lt_zero k)⟩⟩⟩, hb.alloc hb.size _⟩

set_option maxRecDepth 100000 in
set_option maxHeartbeats 2000000 in
theorem sBestMonth_no (n : Int) (wd gp : Nat) (t : Int) (sh : Nat) (T0 : -32768 ≤ t) (T1 : t ≤ 32767) (N0 : -128 ≤ n) (N1 : n ≤ 127) (sv : Value) (ws : List Su) (hwf : ∀ x ∈ ws, SuWf x) (fc : Int) (fv : Bool) (hf : inF fc = fv) (c : Int) (hc : codeY (okBl n wd gp t sh) ws fv = c) (hne : c ≠ 0) (w : World) (hz : SunsAt w sv ws) :
    Calls Tryd.prog 47 #[.agg (blindC n wd gp t sh), sv, .int .i64 fc] w fun e w' => e = .returned (.tuple #[.int .i64 0, .float .f32 0, .int .i64 c]) ∧ Below w.heap.size w w' := by
  have HY := Lib.hid (fun g1 w c1 hz => l07Year_any n wd gp t sh T0 T1 N0 N1 sv ws hwf fv c hc g1 w c1 hz)
  have HZ := Lib.hid hz
  have HFc := Lib.hid hf
  have hne' : (c != 0) = true := bne_iff_ne.2 hne
  obtain ⟨a, cap, rfl, -⟩ := hz
  clear hc hf hne hwf T0 T1 N0 N1
  go_enter Tryd.func47, Tryd.ntmps47
  go_upto_region 1 with (fail)
  refine abs_world (fun W => Below w.heap.size w W ∧ W.heap[w.heap.size]? = some (.cells (blindC n wd gp t sh) 59 (0, 0))) ⟨(Below.refl _ _).alloc (Nat.le_refl _) _, heap_alloc_new _ _⟩ ?_
  rintro W ⟨hb, h0⟩
  have H0 := Lib.hid h0
  clear h0
  go_wp2_with (first | (go_at_call 88; refine (l01Faced_is fc fv HFc.out _).mono ?_; rintro e w' ⟨rfl, rfl⟩) | (go_at_call 87; refine (HY.out _ _ H0.out (suns_below HZ.out hb)).mono ?_; rintro e w' ⟨rfl, rfl⟩))
  go_ret3
  exact ⟨rfl, hb⟩

set_option maxRecDepth 100000 in
set_option maxHeartbeats 2000000 in
theorem sYearFacing_no (n : Int) (wd gp : Nat) (t : Int) (sh : Nat) (T0 : -32768 ≤ t) (T1 : t ≤ 32767) (N0 : -128 ≤ n) (N1 : n ≤ 127) (sv : Value) (ws : List Su) (hwf : ∀ x ∈ ws, SuWf x) (fc : Int) (fv : Bool) (hf : inI 8 255 fc = fv) (c : Int) (hc : codeY (okBl n wd gp t sh) ws fv = c) (hne : c ≠ 0) (w : World) (hz : SunsAt w sv ws) :
    Calls Tryd.prog 49 #[.agg (blindC n wd gp t sh), sv, .int .i64 fc] w fun e w' => e = .returned (.tuple #[.int .i64 0, .float .f32 0, .int .i64 c]) ∧ Below w.heap.size w w' := by
  have HY := Lib.hid (fun g1 w c1 hz => l07Year_any n wd gp t sh T0 T1 N0 N1 sv ws hwf fv c hc g1 w c1 hz)
  have HZ := Lib.hid hz
  have HFc := Lib.hid hf
  have hne' : (c != 0) = true := bne_iff_ne.2 hne
  obtain ⟨a, cap, rfl, -⟩ := hz
  clear hc hf hne hwf T0 T1 N0 N1
  go_enter Tryd.func49, Tryd.ntmps49
  go_upto_region 1 with (fail)
  refine abs_world (fun W => Below w.heap.size w W ∧ W.heap[w.heap.size]? = some (.cells (blindC n wd gp t sh) 59 (0, 0))) ⟨(Below.refl _ _).alloc (Nat.le_refl _) _, heap_alloc_new _ _⟩ ?_
  rintro W ⟨hb, h0⟩
  have H0 := Lib.hid h0
  clear h0
  go_wp2_with (first | (go_at_call 96; refine (l00In_isY fc 8 255 fv HFc.out _).mono ?_; rintro e w' ⟨rfl, rfl⟩) | (go_at_call 87; refine (HY.out _ _ H0.out (suns_below HZ.out hb)).mono ?_; rintro e w' ⟨rfl, rfl⟩))
  go_ret3
  exact ⟨rfl, hb⟩

set_option maxRecDepth 100000 in
set_option maxHeartbeats 4000000 in
theorem sYearLight_yes (n : Int) (wd gp : Nat) (t : Int) (sh : Nat) (T0 : -32768 ≤ t) (T1 : t ≤ 32767) (N0 : -128 ≤ n) (N1 : n ≤ 127) (sv : Value) (ws : List Su) (hwf : ∀ x ∈ ws, SuWf x) (bw : BlWf n wd gp t sh) (fc : Int) (fv : Bool) (hf : inF fc = true) (hfv : fv = true) (hc : codeY (okBl n wd gp t sh) ws fv = 0) (w : World) (hz : SunsAt w sv ws) :
    Calls Tryd.prog 39 #[.agg (blindC n wd gp t sh), sv, .int .i64 fc] w (RetF6 (ws.map (dyL wd gp t sh fc)) 0 w) := by
  obtain ⟨i0, hin, hz0, hz1, hz2⟩ := info_parts info_f32
  obtain ⟨hk, ha, ⟨l1, l12⟩, hff⟩ := codeY_ok hc
  have OK := blok_of bw hk
  have HY := Lib.hid (fun g1 w c1 hz => l07Year_any n wd gp t sh T0 T1 N0 N1 sv ws hwf fv 0 hc g1 w c1 hz)
  subst hff
  have hok : ∀ x ∈ ws, okSu x = true := List.all_eq_true.1 ha
  have HD : Hid (∀ x ∈ ws, ∀ (g1 g2 o : Nat) (W : World), W.heap[g1]? = some (.cells (blindC n wd gp t sh) 59 (0, 0)) → SunAt W g2 o x.1 x.2 → Calls Tryd.prog 89 #[.pointer (some ⟨g1, 0, none⟩), .pointer (some ⟨g2, o, none⟩), .int .i64 fc] W fun e w' => e = .returned (.float .f32 (dyL wd gp t sh fc x)) ∧ Below W.heap.size W w') := fun x hx g1 g2 o W c1 c2 => l07Day_any n wd gp t sh OK fc x (hwf x hx) (hok x hx) hf g1 g2 o W c1 c2
  have HZ := Lib.hid hz
  have HFc := Lib.hid hf
  obtain ⟨a, cap, rfl, hl1, hl2, _⟩ := hz
  unfold maxLen at hl2
  generalize hn : ws.length = n' at *
  have HN := Lib.hid hn
  generalize hd : dyL wd gp t sh fc = d at *
  clear hn hd OK hwf hok hc hk ha bw hf T0 T1 N0 N1
  go_enter Tryd.func39, Tryd.ntmps39
  go_upto_region 1 with (fail)
  refine abs_world (fun W => Below w.heap.size w W ∧ W.heap[w.heap.size]? = some (.cells (blindC n wd gp t sh) 59 (0, 0))) ⟨(Below.refl _ _).alloc (Nat.le_refl _) _, heap_alloc_new _ _⟩ ?_
  rintro W ⟨hb, h0⟩
  have H0 := Lib.hid h0
  clear h0
  go_upto_region 4 with (first | (go_at_call 88; refine (l01Faced_is fc true HFc.out _).mono ?_; rintro e w' ⟨rfl, rfl⟩) | (go_at_call 87; refine (HY.out _ _ H0.out (suns_below HZ.out hb)).mono ?_; rintro e w' ⟨rfl, rfl⟩))
  go_wp2
  have hrow0 : (W.alloc (.cells #[] 25)).ownsRow W.heap.size 25 1 (.slice (some ⟨W.heap.size, 0, none⟩) 0 0) 0 [] := World.ownsRow_made _ _ _ (Nat.le_refl _) (Nat.zero_le _) rfl
  go_loopw [9, 10] (fun o i wr => ∃ (vo : Value) (k : Nat), vo = o ∧ k ≤ n' ∧ i = .int .i64 (k : Int) ∧ wr.ownsRow W.heap.size 25 1 o k (((ws.take k).map d).map (Value.float .f32)) ∧ Below W.heap.size W wr) (fun _ i _ => n' - (intOf i).toNat)
  case atStart => exact ⟨_, 0, rfl, Nat.zero_le _, rfl, hrow0, (Below.refl _ _).alloc (Nat.le_refl _) _⟩
  case round =>
    clear hrow0
    obtain ⟨vo, k, rfl, hkn, rfl, hrow, hbw⟩ := hrel
    by_cases hlt : k < n'
    · have z0 : (0 : Int) ≤ (k : Int) := by omega
      have z1 : (k : Int) < (n' : Int) := by omega
      have HT : Hid ((ws.take (k + 1)).map d = (ws.take k).map d ++ [d (ws[k]'(by rw [HN.out]; exact hlt))]) := by
        rw [List.take_succ_eq_append_getElem (by rw [HN.out]; exact hlt), List.map_append]
        exact Lib.hid rfl
      have hx : ws[k]? = some (ws[k]'(by rw [HN.out]; exact hlt)) := List.getElem?_eq_getElem _
      obtain ⟨g, o, rfl, hcx⟩ := sun_at (suns_below HZ.out (hb.trans (hbw.mono hb.size))) hx
      generalize hxe : (ws[k]'(by rw [HN.out]; exact hlt)) = x at *
      have HX := Lib.hid hx
      have HDX := Lib.hid (HD.out x (List.mem_of_getElem? hx))
      have HCX : Hid (SunAt _ g (o + k * 48) x.1 x.2) := Lib.hid hcx
      clear hx hcx hxe
      go_wp2_with (first | (go_at_call 89; refine (HDX.out _ _ _ _ (below_row hbw H0.out) HCX.out).mono ?_; rintro e W3 ⟨rfl, hb3⟩; have hrow3 := owns_below hrow hb3; have hbw3 := hbw.trans (hb3.mono hbw.size); have hsz3 := hbw3.size) | (at_builtin; refine wpList_append_own _ rfl _ _ 66 rfl W.heap.size 25 i0 (.float .f32 0) 1 4 Tryd.underlying66 hin hz0 hz1 hz2 rfl (by decide) _ _ _ rfl (hrow3.alloc _) ⟨W3.heap.size, 0, none⟩ 1 1 [.float .f32 (d x)] rfl rfl (cell_one_new _ _ _) (by simp [Value.oneCell']) (by unfold maxLen; omega) (by omega) (by simp; omega) ?_; intro v' w1 hown' hgrow _))
      go_roundw
      case rel => exact ⟨_, k + 1, rfl, by omega, by first | (simp; done) | (simp; omega), by rw [HT.out]; simpa using hown', (hbw3.alloc (by omega) _).grown hgrow (by simp; omega) (row_base hrow3)⟩
      case measure => simp [intOf]; omega
    · obtain rfl : k = n' := by omega
      rw [List.take_of_length_le (by rw [HN.out]; exact Nat.le_refl _)] at hrow
      have HR2 : Hid (Own wr W.heap.size 25 (Value.float .f32) vo (ws.map d)) := own_of_row (by rw [List.length_map, HN.out]; exact hrow) (by rw [List.length_map, HN.out]; unfold maxLen; omega)
      clear hrow
      go_wp2
      go_ret2
      exact ⟨⟨_, rfl, own_below HR2.out (Below.refl _ _) hb.size⟩, hb.trans (hbw.mono hb.size)⟩

end Go.Proofs.YtmniodfdoidffaaDoor

namespace Go.Proofs.YtmniodfdoidffaaDoor
open Go.ChangeShapes Go.WideShapes Go.ChangeAt Go.RowKit Go.Deep Go.Joins

attribute [local go_sem] run_store_f

set_option maxRecDepth 100000 in
set_option maxHeartbeats 4000000 in
theorem iYearLight_no (n : Int) (wd gp : Nat) (t : Int) (sh : Nat) (T0 : -32768 ≤ t) (T1 : t ≤ 32767) (sv : Value) (ws : List Su) (hwf : ∀ x ∈ ws, SuWf x) (fc : Int) (fv : Bool) (hf : inF fc = fv) (c : Int) (hc : codeY (okBl n wd gp t sh) ws fv = c) (hne : c ≠ 0) (w : World) (hE : ErrT w) (hz : SunsAt w sv ws) :
    Calls Tryd.prog 41 #[.agg (blindC n wd gp t sh), sv, .int .i64 fc] w (RetF6 [] c w) := by
  have hcc : rfV (yrRf c) = (.iface 181 (.agg #[.int .i64 c])) := by unfold yrRf; rw [if_neg hne]; rfl
  have HC := Lib.hid (fun w hz => checkYear_any n wd gp t sh T0 T1 sv ws hwf fv w hz)
  rw [hc, hcc] at HC
  have HZ := Lib.hid hz
  have HE := Lib.hid hE
  have HFc := Lib.hid hf
  have hn := fun w => run_neq_held_nil (P := Tryd.prog) (w := w) 86 181 (.agg #[.int .i64 c]) (by kernel_rfl)
  obtain ⟨a, cap, rfl, -⟩ := hz
  clear hc hf hne hwf T0 T1 hcc hE
  go_enter Tryd.func41, Tryd.ntmps41
  go_upto_region 1 with (fail)
  refine abs_world (fun W => Below w.heap.size w W ∧ W.heap[w.heap.size]? = some (.cells (blindC n wd gp t sh) 59 (0, 0))) ⟨(Below.refl _ _).alloc (Nat.le_refl _) _, heap_alloc_new _ _⟩ ?_
  rintro W ⟨hb, h0⟩
  have H0 := Lib.hid h0
  clear h0
  refine wp_region_held_drew (S := (fun V => Below W.heap.size W V)) (by kernel_rfl) (Below.refl _ _).drew (fun hHeld => ?_)
  refine take_op (i := 0) (d := 9) (v := .agg (blindC n wd gp t sh)) rfl rfl (by kernel_rfl) (by kernel_rfl) (by kernel_rfl) (fun _ _ _ h => h) (yields_row (by rfl) 59 (.tmp 3) (by rfl) w.heap.size 0 5 (by rfl) 59 (blindC n wd gp t sh) (0, 0) _ (fun _ h => below_row h H0.out) Tryd.underlying59 rfl info_blind (blind_fits _ _ _ _ _) (blindC n wd gp t sh) (blind_all _ _ _ _ _)) hHeld ?_
  simp only [List.setIfInBounds_toArray, List.set_cons_zero, List.set_cons_succ]
  refine take_op (i := 1) (d := 10) (v := ?_) rfl rfl (by kernel_rfl) (by kernel_rfl) (by kernel_rfl) (fun _ _ _ h => h) (Or.inl ⟨by rfl, ?hy1u15⟩) hHeld ?rest1u15
  case hy1u15 =>
    intro w' hS'
    go_simp
    try with_reducible rfl
  simp only [List.setIfInBounds_toArray, List.set_cons_zero, List.set_cons_succ]
  refine take_op (i := 2) (d := 11) (v := ?_) rfl rfl (by kernel_rfl) (by kernel_rfl) (by kernel_rfl) (fun _ _ _ h => h) (Or.inl ⟨by rfl, ?hy2u16⟩) hHeld ?rest2u16
  case hy2u16 =>
    intro w' hS'
    go_simp
    try with_reducible rfl
  simp only [List.setIfInBounds_toArray, List.set_cons_zero, List.set_cons_succ]
  refine wpAnyH_ready (rs := [3]) (by kernel_rfl) (by simp) ?_
  refine AllReadyH.cons rfl (fun K hK => ?_) AllReadyH.nil
  go_simp
  refine (isFacing_is fc fv HFc.out _).mono ?_
  rintro e w' ⟨rfl, rfl⟩
  refine hK.out _ _ (hHeld) (fun hHeld2 => ?_)
  clear hK K
  replace hHeld := hHeld2
  clear hHeld2
  refine wpAnyH_ready (rs := [4]) (by kernel_rfl) (by simp) ?_
  refine AllReadyH.cons rfl (fun K hK => ?_) AllReadyH.nil
  go_simp
  refine (HC.out _ (suns_below HZ.out (hb.trans (hHeld.mono hb.size)))).mono ?_
  rintro e W1 ⟨rfl, hb1⟩
  refine hK.out _ _ (hHeld.trans (hb1.mono hHeld.size)) (fun hHeld2 => ?_)
  clear hK K
  replace hHeld := hHeld2
  clear hHeld2
  clear hb1
  refine take_op (i := 5) (d := 8) (v := ?_) rfl rfl (by kernel_rfl) (by kernel_rfl) (by kernel_rfl) (fun _ _ _ h => h) (Or.inl ⟨by rfl, ?hy5u17⟩) hHeld ?rest5u17
  case hy5u17 =>
    intro w' hS'
    go_simp
    try with_reducible rfl
  simp only [List.setIfInBounds_toArray, List.set_cons_zero, List.set_cons_succ]
  refine wpAnyH_done (by kernel_rfl) ?_ _
  replace H0 := Lib.hid (below_row hHeld H0.out)
  replace hb := hb.trans (hHeld.mono hb.size)
  clear hHeld
  go_wp2_with (go_at_call 86; refine (codeD_call c _ (errT_below HE.out hb)).mono ?_; rintro e W9 ⟨rfl, hb1⟩; replace hb := hb.trans (hb1.mono hb.size); clear hb1)
  go_ret2
  exact ⟨⟨_, rfl, own_noneF _ _⟩, hb⟩

set_option maxRecDepth 100000 in
set_option maxHeartbeats 4000000 in
theorem iBestMonth_no (n : Int) (wd gp : Nat) (t : Int) (sh : Nat) (T0 : -32768 ≤ t) (T1 : t ≤ 32767) (sv : Value) (ws : List Su) (hwf : ∀ x ∈ ws, SuWf x) (fc : Int) (fv : Bool) (hf : inF fc = fv) (c : Int) (hc : codeY (okBl n wd gp t sh) ws fv = c) (hne : c ≠ 0) (w : World) (hE : ErrT w) (hz : SunsAt w sv ws) :
    Calls Tryd.prog 48 #[.agg (blindC n wd gp t sh), sv, .int .i64 fc] w fun e w' => e = .returned (.tuple #[.int .i64 0, .float .f32 0, .int .i64 c]) ∧ Below w.heap.size w w' := by
  have hcc : rfV (yrRf c) = (.iface 181 (.agg #[.int .i64 c])) := by unfold yrRf; rw [if_neg hne]; rfl
  have HC := Lib.hid (fun w hz => checkYear_any n wd gp t sh T0 T1 sv ws hwf fv w hz)
  rw [hc, hcc] at HC
  have HZ := Lib.hid hz
  have HE := Lib.hid hE
  have HFc := Lib.hid hf
  have hn := fun w => run_neq_held_nil (P := Tryd.prog) (w := w) 86 181 (.agg #[.int .i64 c]) (by kernel_rfl)
  obtain ⟨a, cap, rfl, -⟩ := hz
  clear hc hf hne hwf T0 T1 hcc hE
  go_enter Tryd.func48, Tryd.ntmps48
  go_upto_region 1 with (fail)
  refine abs_world (fun W => Below w.heap.size w W ∧ W.heap[w.heap.size]? = some (.cells (blindC n wd gp t sh) 59 (0, 0))) ⟨(Below.refl _ _).alloc (Nat.le_refl _) _, heap_alloc_new _ _⟩ ?_
  rintro W ⟨hb, h0⟩
  have H0 := Lib.hid h0
  clear h0
  refine wp_region_held_drew (S := (fun V => Below W.heap.size W V)) (by kernel_rfl) (Below.refl _ _).drew (fun hHeld => ?_)
  refine take_op (i := 0) (d := 12) (v := .agg (blindC n wd gp t sh)) rfl rfl (by kernel_rfl) (by kernel_rfl) (by kernel_rfl) (fun _ _ _ h => h) (yields_row (by rfl) 59 (.tmp 3) (by rfl) w.heap.size 0 5 (by rfl) 59 (blindC n wd gp t sh) (0, 0) _ (fun _ h => below_row h H0.out) Tryd.underlying59 rfl info_blind (blind_fits _ _ _ _ _) (blindC n wd gp t sh) (blind_all _ _ _ _ _)) hHeld ?_
  simp only [List.setIfInBounds_toArray, List.set_cons_zero, List.set_cons_succ]
  refine take_op (i := 1) (d := 13) (v := ?_) rfl rfl (by kernel_rfl) (by kernel_rfl) (by kernel_rfl) (fun _ _ _ h => h) (Or.inl ⟨by rfl, ?hy1u18⟩) hHeld ?rest1u18
  case hy1u18 =>
    intro w' hS'
    go_simp
    try with_reducible rfl
  simp only [List.setIfInBounds_toArray, List.set_cons_zero, List.set_cons_succ]
  refine take_op (i := 2) (d := 14) (v := ?_) rfl rfl (by kernel_rfl) (by kernel_rfl) (by kernel_rfl) (fun _ _ _ h => h) (Or.inl ⟨by rfl, ?hy2u19⟩) hHeld ?rest2u19
  case hy2u19 =>
    intro w' hS'
    go_simp
    try with_reducible rfl
  simp only [List.setIfInBounds_toArray, List.set_cons_zero, List.set_cons_succ]
  refine wpAnyH_ready (rs := [3]) (by kernel_rfl) (by simp) ?_
  refine AllReadyH.cons rfl (fun K hK => ?_) AllReadyH.nil
  go_simp
  refine (isFacing_is fc fv HFc.out _).mono ?_
  rintro e w' ⟨rfl, rfl⟩
  refine hK.out _ _ (hHeld) (fun hHeld2 => ?_)
  clear hK K
  replace hHeld := hHeld2
  clear hHeld2
  refine wpAnyH_ready (rs := [4]) (by kernel_rfl) (by simp) ?_
  refine AllReadyH.cons rfl (fun K hK => ?_) AllReadyH.nil
  go_simp
  refine (HC.out _ (suns_below HZ.out (hb.trans (hHeld.mono hb.size)))).mono ?_
  rintro e W1 ⟨rfl, hb1⟩
  refine hK.out _ _ (hHeld.trans (hb1.mono hHeld.size)) (fun hHeld2 => ?_)
  clear hK K
  replace hHeld := hHeld2
  clear hHeld2
  clear hb1
  refine take_op (i := 5) (d := 9) (v := ?_) rfl rfl (by kernel_rfl) (by kernel_rfl) (by kernel_rfl) (fun _ _ _ h => h) (Or.inl ⟨by rfl, ?hy5u20⟩) hHeld ?rest5u20
  case hy5u20 =>
    intro w' hS'
    go_simp
    try with_reducible rfl
  simp only [List.setIfInBounds_toArray, List.set_cons_zero, List.set_cons_succ]
  refine wpAnyH_done (by kernel_rfl) ?_ _
  replace H0 := Lib.hid (below_row hHeld H0.out)
  replace hb := hb.trans (hHeld.mono hb.size)
  clear hHeld
  go_wp2_with (go_at_call 86; refine (codeD_call c _ (errT_below HE.out hb)).mono ?_; rintro e W9 ⟨rfl, hb1⟩; replace hb := hb.trans (hb1.mono hb.size); clear hb1)
  go_ret3
  exact ⟨rfl, hb⟩

set_option maxRecDepth 100000 in
set_option maxHeartbeats 4000000 in
theorem iYearFacing_no (n : Int) (wd gp : Nat) (t : Int) (sh : Nat) (T0 : -32768 ≤ t) (T1 : t ≤ 32767) (sv : Value) (ws : List Su) (hwf : ∀ x ∈ ws, SuWf x) (fc : Int) (fv : Bool) (hf : inI 8 255 fc = fv) (c : Int) (hc : codeY (okBl n wd gp t sh) ws fv = c) (hne : c ≠ 0) (w : World) (hE : ErrT w) (hz : SunsAt w sv ws) :
    Calls Tryd.prog 50 #[.agg (blindC n wd gp t sh), sv, .int .i64 fc] w fun e w' => e = .returned (.tuple #[.int .i64 0, .float .f32 0, .int .i64 c]) ∧ Below w.heap.size w w' := by
  have hcc : rfV (yrRf c) = (.iface 181 (.agg #[.int .i64 c])) := by unfold yrRf; rw [if_neg hne]; rfl
  have HC := Lib.hid (fun w hz => checkYear_any n wd gp t sh T0 T1 sv ws hwf fv w hz)
  rw [hc, hcc] at HC
  have HZ := Lib.hid hz
  have HE := Lib.hid hE
  have HFc := Lib.hid hf
  have hn := fun w => run_neq_held_nil (P := Tryd.prog) (w := w) 86 181 (.agg #[.int .i64 c]) (by kernel_rfl)
  obtain ⟨a, cap, rfl, -⟩ := hz
  clear hc hf hne hwf T0 T1 hcc hE
  by_cases q1 : 8 ≤ fc
  · by_cases q2 : fc < 256
    · have hfv : fv = true := by rw [← HFc.out]; unfold inI; rw [decide_eq_true q1, decide_eq_true (by omega : fc ≤ 255)]; rfl
      subst hfv
      clear HFc
      go_enter Tryd.func50, Tryd.ntmps50
      go_upto_region 1 with (fail)
      refine abs_world (fun W => Below w.heap.size w W ∧ W.heap[w.heap.size]? = some (.cells (blindC n wd gp t sh) 59 (0, 0))) ⟨(Below.refl _ _).alloc (Nat.le_refl _) _, heap_alloc_new _ _⟩ ?_
      rintro W ⟨hb, h0⟩
      have H0 := Lib.hid h0
      clear h0
      go_wp2_with (first | (refine wpList_load_part rfl 59 _ rfl w.heap.size 0 5 rfl 59 (blindC n wd gp t sh) (0, 0) _ H0.out Tryd.underlying59 rfl info_blind (blind_fits _ _ _ _ _) _ (blind_all _ _ _ _ _) ?_) | (go_at_call 91; refine (HC.out _ (suns_below HZ.out hb)).mono ?_; rintro e W1 ⟨rfl, hb1⟩; replace H0 := Lib.hid (below_row hb1 H0.out); replace hb := hb.trans (hb1.mono hb.size); clear hb1) | (go_at_call 86; refine (codeD_call c _ (errT_below HE.out hb)).mono ?_; rintro e W9 ⟨rfl, hb1⟩; replace hb := hb.trans (hb1.mono hb.size); clear hb1))
      go_ret3
      exact ⟨rfl, hb⟩
    · have hfv : fv = false := by rw [← HFc.out]; unfold inI; rw [decide_eq_true q1, decide_eq_false (by omega : ¬ fc ≤ 255)]; rfl
      subst hfv
      clear HFc
      go_enter Tryd.func50, Tryd.ntmps50
      go_upto_region 1 with (fail)
      refine abs_world (fun W => Below w.heap.size w W ∧ W.heap[w.heap.size]? = some (.cells (blindC n wd gp t sh) 59 (0, 0))) ⟨(Below.refl _ _).alloc (Nat.le_refl _) _, heap_alloc_new _ _⟩ ?_
      rintro W ⟨hb, h0⟩
      have H0 := Lib.hid h0
      clear h0
      go_wp2_with (first | (refine wpList_load_part rfl 59 _ rfl w.heap.size 0 5 rfl 59 (blindC n wd gp t sh) (0, 0) _ H0.out Tryd.underlying59 rfl info_blind (blind_fits _ _ _ _ _) _ (blind_all _ _ _ _ _) ?_) | (go_at_call 91; refine (HC.out _ (suns_below HZ.out hb)).mono ?_; rintro e W1 ⟨rfl, hb1⟩; replace H0 := Lib.hid (below_row hb1 H0.out); replace hb := hb.trans (hb1.mono hb.size); clear hb1) | (go_at_call 86; refine (codeD_call c _ (errT_below HE.out hb)).mono ?_; rintro e W9 ⟨rfl, hb1⟩; replace hb := hb.trans (hb1.mono hb.size); clear hb1))
      go_ret3
      exact ⟨rfl, hb⟩
  · have hfv : fv = false := by rw [← HFc.out]; unfold inI; rw [decide_eq_false q1]; rfl
    subst hfv
    clear HFc
    go_enter Tryd.func50, Tryd.ntmps50
    go_upto_region 1 with (fail)
    refine abs_world (fun W => Below w.heap.size w W ∧ W.heap[w.heap.size]? = some (.cells (blindC n wd gp t sh) 59 (0, 0))) ⟨(Below.refl _ _).alloc (Nat.le_refl _) _, heap_alloc_new _ _⟩ ?_
    rintro W ⟨hb, h0⟩
    have H0 := Lib.hid h0
    clear h0
    go_wp2_with (first | (refine wpList_load_part rfl 59 _ rfl w.heap.size 0 5 rfl 59 (blindC n wd gp t sh) (0, 0) _ H0.out Tryd.underlying59 rfl info_blind (blind_fits _ _ _ _ _) _ (blind_all _ _ _ _ _) ?_) | (go_at_call 91; refine (HC.out _ (suns_below HZ.out hb)).mono ?_; rintro e W1 ⟨rfl, hb1⟩; replace H0 := Lib.hid (below_row hb1 H0.out); replace hb := hb.trans (hb1.mono hb.size); clear hb1) | (go_at_call 86; refine (codeD_call c _ (errT_below HE.out hb)).mono ?_; rintro e W9 ⟨rfl, hb1⟩; replace hb := hb.trans (hb1.mono hb.size); clear hb1))
    go_ret3
    exact ⟨rfl, hb⟩

theorem dyL_pos (n : Int) (wd gp : Nat) (t : Int) (sh : Nat) (OK : BlOk n wd gp t sh) (fc : Int) (x : Su) (hx : SuWf x) (ho : okSu x = true) : pos32 (dyL wd gp t sh fc x) = true := by
  unfold dyL
  exact sumTo_pos _ 24 (fun j hj => winB_pos wd gp t OK.2.2.2.2.2.2.2.2 x.1 x.2 (j : Int) fc (okB_h hx.1 hx.2.1 ho (j : Int) (by omega) (by omega)).2) 24 (Nat.le_refl _)

set_option maxRecDepth 100000 in
set_option maxHeartbeats 4000000 in
theorem iYearLight_yes (n : Int) (wd gp : Nat) (t : Int) (sh : Nat) (T0 : -32768 ≤ t) (T1 : t ≤ 32767) (sv : Value) (ws : List Su) (hwf : ∀ x ∈ ws, SuWf x) (bw : BlWf n wd gp t sh) (fc : Int) (fv : Bool) (hf : inF fc = true) (hc : codeY (okBl n wd gp t sh) ws fv = 0) (w : World) (hz : SunsAt w sv ws) :
    Calls Tryd.prog 41 #[.agg (blindC n wd gp t sh), sv, .int .i64 fc] w (RetF6 (ws.map (dyL wd gp t sh fc)) 0 w) := by
  obtain ⟨hk, ha, ⟨l1, l12⟩, hff⟩ := codeY_ok hc
  have OK := blok_of bw hk
  have HC := Lib.hid (fun w hz => checkYear_any n wd gp t sh T0 T1 sv ws hwf fv w hz)
  have h00 : rfV (yrRf 0) = .nilIface := rfl
  rw [hc, h00] at HC
  clear h00
  subst hff
  have hok : ∀ x ∈ ws, okSu x = true := List.all_eq_true.1 ha
  have hn := fun w => run_neq_nil_nil (P := Tryd.prog) (w := w) 86 (by kernel_rfl)
  have HZ := Lib.hid hz
  have HL := Lib.hid (fun w hz => yearLight_any n wd gp t sh OK sv ws hwf hok l12 fc hf w hz)
  have HFc := Lib.hid hf
  obtain ⟨a, cap, rfl, -⟩ := hz
  generalize ws.map (dyL wd gp t sh fc) = zs at *
  clear OK hwf hok hc hk ha bw hf T0 T1 l1 l12
  go_enter Tryd.func41, Tryd.ntmps41
  go_upto_region 1 with (fail)
  refine abs_world (fun W => Below w.heap.size w W ∧ W.heap[w.heap.size]? = some (.cells (blindC n wd gp t sh) 59 (0, 0))) ⟨(Below.refl _ _).alloc (Nat.le_refl _) _, heap_alloc_new _ _⟩ ?_
  rintro W ⟨hb, h0⟩
  have H0 := Lib.hid h0
  clear h0
  refine wp_region_held_drew (S := (fun V => Below W.heap.size W V)) (by kernel_rfl) (Below.refl _ _).drew (fun hHeld => ?_)
  refine take_op (i := 0) (d := 9) (v := .agg (blindC n wd gp t sh)) rfl rfl (by kernel_rfl) (by kernel_rfl) (by kernel_rfl) (fun _ _ _ h => h) (yields_row (by rfl) 59 (.tmp 3) (by rfl) w.heap.size 0 5 (by rfl) 59 (blindC n wd gp t sh) (0, 0) _ (fun _ h => below_row h H0.out) Tryd.underlying59 rfl info_blind (blind_fits _ _ _ _ _) (blindC n wd gp t sh) (blind_all _ _ _ _ _)) hHeld ?_
  simp only [List.setIfInBounds_toArray, List.set_cons_zero, List.set_cons_succ]
  refine take_op (i := 1) (d := 10) (v := ?_) rfl rfl (by kernel_rfl) (by kernel_rfl) (by kernel_rfl) (fun _ _ _ h => h) (Or.inl ⟨by rfl, ?hy1u21⟩) hHeld ?rest1u21
  case hy1u21 =>
    intro w' hS'
    go_simp
    try with_reducible rfl
  simp only [List.setIfInBounds_toArray, List.set_cons_zero, List.set_cons_succ]
  refine take_op (i := 2) (d := 11) (v := ?_) rfl rfl (by kernel_rfl) (by kernel_rfl) (by kernel_rfl) (fun _ _ _ h => h) (Or.inl ⟨by rfl, ?hy2u22⟩) hHeld ?rest2u22
  case hy2u22 =>
    intro w' hS'
    go_simp
    try with_reducible rfl
  simp only [List.setIfInBounds_toArray, List.set_cons_zero, List.set_cons_succ]
  refine wpAnyH_ready (rs := [3]) (by kernel_rfl) (by simp) ?_
  refine AllReadyH.cons rfl (fun K hK => ?_) AllReadyH.nil
  go_simp
  refine (isFacing_is fc true HFc.out _).mono ?_
  rintro e w' ⟨rfl, rfl⟩
  refine hK.out _ _ (hHeld) (fun hHeld2 => ?_)
  clear hK K
  replace hHeld := hHeld2
  clear hHeld2
  refine wpAnyH_ready (rs := [4]) (by kernel_rfl) (by simp) ?_
  refine AllReadyH.cons rfl (fun K hK => ?_) AllReadyH.nil
  go_simp
  refine (HC.out _ (suns_below HZ.out (hb.trans (hHeld.mono hb.size)))).mono ?_
  rintro e W1 ⟨rfl, hb1⟩
  refine hK.out _ _ (hHeld.trans (hb1.mono hHeld.size)) (fun hHeld2 => ?_)
  clear hK K
  replace hHeld := hHeld2
  clear hHeld2
  clear hb1
  refine take_op (i := 5) (d := 8) (v := ?_) rfl rfl (by kernel_rfl) (by kernel_rfl) (by kernel_rfl) (fun _ _ _ h => h) (Or.inl ⟨by rfl, ?hy5u23⟩) hHeld ?rest5u23
  case hy5u23 =>
    intro w' hS'
    go_simp
    try with_reducible rfl
  simp only [List.setIfInBounds_toArray, List.set_cons_zero, List.set_cons_succ]
  refine wpAnyH_done (by kernel_rfl) ?_ _
  replace H0 := Lib.hid (below_row hHeld H0.out)
  replace hb := hb.trans (hHeld.mono hb.size)
  clear hHeld
  go_wp2_with (first | (refine wpList_load_part rfl 59 _ rfl w.heap.size 0 5 rfl 59 (blindC n wd gp t sh) (0, 0) _ H0.out Tryd.underlying59 rfl info_blind (blind_fits _ _ _ _ _) _ (blind_all _ _ _ _ _) ?_) | (go_at_call 93; refine (HL.out _ (suns_below HZ.out hb)).mono ?_; rintro e W3 ⟨⟨v, rfl, hv⟩, hb3⟩; have HV := Lib.hid hv; clear hv; have hws := hb.size; replace hb := hb.trans (hb3.mono hb.size); clear hb3))
  go_ret2
  exact ⟨⟨_, rfl, own_below HV.out (Below.refl _ _) hws⟩, hb⟩

set_option maxRecDepth 100000 in
set_option maxHeartbeats 4000000 in
theorem iBestMonth_yes (n : Int) (wd gp : Nat) (t : Int) (sh : Nat) (T0 : -32768 ≤ t) (T1 : t ≤ 32767) (sv : Value) (ws : List Su) (hwf : ∀ x ∈ ws, SuWf x) (bw : BlWf n wd gp t sh) (fc : Int) (fv : Bool) (hf : inF fc = true) (hc : codeY (okBl n wd gp t sh) ws fv = 0) (w : World) (hz : SunsAt w sv ws) :
    Calls Tryd.prog 48 #[.agg (blindC n wd gp t sh), sv, .int .i64 fc] w fun e w' => e = .returned (.tuple #[.int .i64 (bstI (ws.map (dyL wd gp t sh fc)) ws.length : Int), .float .f32 ((ws.map (dyL wd gp t sh fc)).getD (bstI (ws.map (dyL wd gp t sh fc)) ws.length) 0), .int .i64 0]) ∧ Below w.heap.size w w' := by
  obtain ⟨hk, ha, ⟨l1, l12⟩, hff⟩ := codeY_ok hc
  have OK := blok_of bw hk
  have HC := Lib.hid (fun w hz => checkYear_any n wd gp t sh T0 T1 sv ws hwf fv w hz)
  have h00 : rfV (yrRf 0) = .nilIface := rfl
  rw [hc, h00] at HC
  clear h00
  subst hff
  have hok : ∀ x ∈ ws, okSu x = true := List.all_eq_true.1 ha
  have hn := fun w => run_neq_nil_nil (P := Tryd.prog) (w := w) 86 (by kernel_rfl)
  have HZ := Lib.hid hz
  have HPO : Hid (∀ z ∈ ws.map (dyL wd gp t sh fc), pos32 z = true) := by
    intro z hz
    obtain ⟨x, hx, rfl⟩ := List.mem_map.1 hz
    exact dyL_pos n wd gp t sh OK fc x (hwf x hx) (hok x hx)
  have HL := Lib.hid (fun w hz => yearLight_any n wd gp t sh OK sv ws hwf hok l12 fc hf w hz)
  have HFc := Lib.hid hf
  have HG := Lib.hid (fun v w hv => greatestOf_any v (ws.map (dyL wd gp t sh fc)) (fun z hz => pos_fin (HPO.out z hz)) (by rw [List.length_map]; exact l1) w hv)
  rw [List.length_map] at HG
  obtain ⟨a, cap, rfl, -⟩ := hz
  generalize ws.map (dyL wd gp t sh fc) = zs at *
  clear OK hwf hok hc hk ha bw hf T0 T1 l1 l12 HPO
  go_enter Tryd.func48, Tryd.ntmps48
  go_upto_region 1 with (fail)
  refine abs_world (fun W => Below w.heap.size w W ∧ W.heap[w.heap.size]? = some (.cells (blindC n wd gp t sh) 59 (0, 0))) ⟨(Below.refl _ _).alloc (Nat.le_refl _) _, heap_alloc_new _ _⟩ ?_
  rintro W ⟨hb, h0⟩
  have H0 := Lib.hid h0
  clear h0
  refine wp_region_held_drew (S := (fun V => Below W.heap.size W V)) (by kernel_rfl) (Below.refl _ _).drew (fun hHeld => ?_)
  refine take_op (i := 0) (d := 12) (v := .agg (blindC n wd gp t sh)) rfl rfl (by kernel_rfl) (by kernel_rfl) (by kernel_rfl) (fun _ _ _ h => h) (yields_row (by rfl) 59 (.tmp 3) (by rfl) w.heap.size 0 5 (by rfl) 59 (blindC n wd gp t sh) (0, 0) _ (fun _ h => below_row h H0.out) Tryd.underlying59 rfl info_blind (blind_fits _ _ _ _ _) (blindC n wd gp t sh) (blind_all _ _ _ _ _)) hHeld ?_
  simp only [List.setIfInBounds_toArray, List.set_cons_zero, List.set_cons_succ]
  refine take_op (i := 1) (d := 13) (v := ?_) rfl rfl (by kernel_rfl) (by kernel_rfl) (by kernel_rfl) (fun _ _ _ h => h) (Or.inl ⟨by rfl, ?hy1u24⟩) hHeld ?rest1u24
  case hy1u24 =>
    intro w' hS'
    go_simp
    try with_reducible rfl
  simp only [List.setIfInBounds_toArray, List.set_cons_zero, List.set_cons_succ]
  refine take_op (i := 2) (d := 14) (v := ?_) rfl rfl (by kernel_rfl) (by kernel_rfl) (by kernel_rfl) (fun _ _ _ h => h) (Or.inl ⟨by rfl, ?hy2u25⟩) hHeld ?rest2u25
  case hy2u25 =>
    intro w' hS'
    go_simp
    try with_reducible rfl
  simp only [List.setIfInBounds_toArray, List.set_cons_zero, List.set_cons_succ]
  refine wpAnyH_ready (rs := [3]) (by kernel_rfl) (by simp) ?_
  refine AllReadyH.cons rfl (fun K hK => ?_) AllReadyH.nil
  go_simp
  refine (isFacing_is fc true HFc.out _).mono ?_
  rintro e w' ⟨rfl, rfl⟩
  refine hK.out _ _ (hHeld) (fun hHeld2 => ?_)
  clear hK K
  replace hHeld := hHeld2
  clear hHeld2
  refine wpAnyH_ready (rs := [4]) (by kernel_rfl) (by simp) ?_
  refine AllReadyH.cons rfl (fun K hK => ?_) AllReadyH.nil
  go_simp
  refine (HC.out _ (suns_below HZ.out (hb.trans (hHeld.mono hb.size)))).mono ?_
  rintro e W1 ⟨rfl, hb1⟩
  refine hK.out _ _ (hHeld.trans (hb1.mono hHeld.size)) (fun hHeld2 => ?_)
  clear hK K
  replace hHeld := hHeld2
  clear hHeld2
  clear hb1
  refine take_op (i := 5) (d := 9) (v := ?_) rfl rfl (by kernel_rfl) (by kernel_rfl) (by kernel_rfl) (fun _ _ _ h => h) (Or.inl ⟨by rfl, ?hy5u26⟩) hHeld ?rest5u26
  case hy5u26 =>
    intro w' hS'
    go_simp
    try with_reducible rfl
  simp only [List.setIfInBounds_toArray, List.set_cons_zero, List.set_cons_succ]
  refine wpAnyH_done (by kernel_rfl) ?_ _
  replace H0 := Lib.hid (below_row hHeld H0.out)
  replace hb := hb.trans (hHeld.mono hb.size)
  clear hHeld
  go_wp2_with (first | (refine wpList_load_part rfl 59 _ rfl w.heap.size 0 5 rfl 59 (blindC n wd gp t sh) (0, 0) _ H0.out Tryd.underlying59 rfl info_blind (blind_fits _ _ _ _ _) _ (blind_all _ _ _ _ _) ?_) | (go_at_call 93; refine (HL.out _ (suns_below HZ.out hb)).mono ?_; rintro e W3 ⟨⟨v, rfl, hv⟩, hb3⟩; have HV := Lib.hid hv; clear hv; have hws := hb.size; replace hb := hb.trans (hb3.mono hb.size); clear hb3) | (go_at_call 95; refine (HG.out _ _ (own_floats HV.out)).mono ?_; rintro e W4 ⟨rfl, hb4⟩; replace hb := hb.trans (hb4.mono hb.size); clear hb4))
  go_ret3
  exact ⟨rfl, hb⟩

end Go.Proofs.YtmniodfdoidffaaDoor

namespace Go.Proofs.YtmniodfdoidffaaDoor
open Go.ChangeShapes Go.WideShapes Go.ChangeAt Go.RowKit Go.Deep Go.Joins

attribute [local go_sem] run_store_f

theorem Value_float {a b : Nat} (h : a = b) : Value.float .f32 a = .float .f32 b := by rw [h]

theorem map_getD {ws : List Su} {d : Su → Nat} {k : Nat} {x : Su} (h : ws[k]? = some x) : (ws.map d).getD k 0 = d x := by rw [List.getD, List.getElem?_map, h]; rfl

set_option maxRecDepth 100000 in
set_option maxHeartbeats 4000000 in
theorem sBestMonth_yes (n : Int) (wd gp : Nat) (t : Int) (sh : Nat) (T0 : -32768 ≤ t) (T1 : t ≤ 32767) (N0 : -128 ≤ n) (N1 : n ≤ 127) (sv : Value) (ws : List Su) (hwf : ∀ x ∈ ws, SuWf x) (bw : BlWf n wd gp t sh) (fc : Int) (fv : Bool) (hf : inF fc = true) (hc : codeY (okBl n wd gp t sh) ws fv = 0) (w : World) (hz : SunsAt w sv ws) :
    Calls Tryd.prog 47 #[.agg (blindC n wd gp t sh), sv, .int .i64 fc] w fun e w' => e = .returned (.tuple #[.int .i64 (bstI (ws.map (dyL wd gp t sh fc)) ws.length : Int), .float .f32 ((ws.map (dyL wd gp t sh fc)).getD (bstI (ws.map (dyL wd gp t sh fc)) ws.length) 0), .int .i64 0]) ∧ Below w.heap.size w w' := by
  obtain ⟨hk, ha, ⟨l1, l12⟩, hff⟩ := codeY_ok hc
  have OK := blok_of bw hk
  have HY := Lib.hid (fun g1 w c1 hz => l07Year_any n wd gp t sh T0 T1 N0 N1 sv ws hwf fv 0 hc g1 w c1 hz)
  subst hff
  have hok : ∀ x ∈ ws, okSu x = true := List.all_eq_true.1 ha
  have HD : Hid (∀ x ∈ ws, ∀ (g1 g2 o : Nat) (W : World), W.heap[g1]? = some (.cells (blindC n wd gp t sh) 59 (0, 0)) → SunAt W g2 o x.1 x.2 → Calls Tryd.prog 89 #[.pointer (some ⟨g1, 0, none⟩), .pointer (some ⟨g2, o, none⟩), .int .i64 fc] W fun e w' => e = .returned (.float .f32 (dyL wd gp t sh fc x)) ∧ Below W.heap.size W w') := fun x hx g1 g2 o W c1 c2 => l07Day_any n wd gp t sh OK fc x (hwf x hx) (hok x hx) hf g1 g2 o W c1 c2
  have HPO : Hid (∀ z ∈ ws.map (dyL wd gp t sh fc), pos32 z = true) := by
    intro z hz
    obtain ⟨x, hx, rfl⟩ := List.mem_map.1 hz
    exact dyL_pos n wd gp t sh OK fc x (hwf x hx) (hok x hx)
  have HZ := Lib.hid hz
  have HFc := Lib.hid hf
  obtain ⟨a, cap, rfl, hl1, hl2, _⟩ := hz
  unfold maxLen at hl2
  have HMG := Lib.hid (fun k x (h : ws[k]? = some x) => map_getD (d := dyL wd gp t sh fc) h)
  have HB := Lib.hid (fun k (hk : k ≤ ws.length) => bstI_lt (ws.map (dyL wd gp t sh fc)) (n := ws.length) (by omega) k hk)
  have HLN : Hid ((ws.map (dyL wd gp t sh fc)).length = ws.length) := List.length_map _
  generalize hn : ws.length = n' at *
  have HN := Lib.hid hn
  generalize hzs : (ws.map (dyL wd gp t sh fc)) = zs at *
  generalize hd : dyL wd gp t sh fc = d at *
  clear hn hzs hd OK hwf hok hc hk ha bw hf T0 T1 N0 N1
  go_enter Tryd.func47, Tryd.ntmps47
  go_upto_region 1 with (fail)
  refine abs_world (fun W => Below w.heap.size w W ∧ W.heap[w.heap.size]? = some (.cells (blindC n wd gp t sh) 59 (0, 0))) ⟨(Below.refl _ _).alloc (Nat.le_refl _) _, heap_alloc_new _ _⟩ ?_
  rintro W ⟨hb, h0⟩
  have H0 := Lib.hid h0
  clear h0
  go_upto_region 5 with (first | (go_at_call 88; refine (l01Faced_is fc true HFc.out _).mono ?_; rintro e w' ⟨rfl, rfl⟩) | (go_at_call 87; refine (HY.out _ _ H0.out (suns_below HZ.out hb)).mono ?_; rintro e w' ⟨rfl, rfl⟩))
  have hbw : Below W.heap.size W W := Below.refl _ _
  have hx0 : ws[0]? = some (ws[0]'(by rw [HN.out]; omega)) := List.getElem?_eq_getElem _
  obtain ⟨g, o, rfl, hcx⟩ := sun_at (suns_below HZ.out hb) hx0
  generalize (ws[0]'(by rw [HN.out]; omega)) = x0 at *
  have HDX := Lib.hid (HD.out x0 (List.mem_of_getElem? hx0))
  rw [Nat.zero_mul, Nat.add_zero] at hcx
  have HCX : Hid (SunAt W g o x0.1 x0.2) := Lib.hid hcx
  have HX0 := Lib.hid (HMG.out 0 x0 hx0)
  have y0 : (0 : Int) < (n' : Int) := by omega
  clear hx0 hcx
  go_upto_region 6 with (go_at_call 89; refine (HDX.out _ _ _ _ (below_row hbw H0.out) HCX.out).mono ?_; rintro e W3 ⟨rfl, hb3⟩; replace hbw := hbw.trans (hb3.mono hbw.size); clear hb3)
  go_wp2
  go_loopw [10, 11, 12] (fun b m i wr => ∃ k : Nat, 1 ≤ k ∧ k ≤ n' ∧ i = .int .i64 (k : Int) ∧ b = .int .i64 (bstI zs k : Int) ∧ m = .float .f32 (zs.getD (bstI zs k) 0) ∧ Below W.heap.size W wr) (fun _ _ i _ => n' - (intOf i).toNat)
  case atStart => exact ⟨1, Nat.le_refl _, by omega, rfl, by rw [bstI_one]; rfl, by rw [bstI_one]; exact Value_float HX0.out.symm, hbw⟩
  case round =>
    clear HDX HCX HX0 hbw
    obtain ⟨k, hk1, hkn, rfl, rfl, rfl, hbw⟩ := hrel
    by_cases hlt : k < n'
    · have z0 : (0 : Int) ≤ (k : Int) := by omega
      have z1 : (k : Int) < (n' : Int) := by omega
      have hbl := HB.out k (by omega)
      have hx : ws[k]? = some (ws[k]'(by rw [HN.out]; exact hlt)) := List.getElem?_eq_getElem _
      obtain ⟨g2, o2, e2, hcx⟩ := sun_at (suns_below HZ.out (hb.trans (hbw.mono hb.size))) hx
      generalize hxe : (ws[k]'(by rw [HN.out]; exact hlt)) = x at *
      have HX := Lib.hid hx
      have HDX := Lib.hid (HD.out x (List.mem_of_getElem? hx))
      have HCX : Hid (SunAt _ g2 (o2 + k * 48) x.1 x.2) := Lib.hid hcx
      injection e2 with e2
      injection e2 with e2 e3
      subst e2 e3
      have HXV := Lib.hid (HMG.out k x hx)
      have hfx : fin32 (zs.getD k 0) = true := pos_fin (HPO.out _ (by
        have e : zs[k]? = some (zs.getD k 0) := by rw [List.getD]; rw [List.getElem?_eq_getElem (by rw [HLN.out]; omega)]; rfl
        exact List.mem_of_getElem? e))
      have hfy : fin32 (zs.getD (bstI zs k) 0) = true := pos_fin (HPO.out _ (by
        have e : zs[bstI zs k]? = some (zs.getD (bstI zs k) 0) := by rw [List.getD]; rw [List.getElem?_eq_getElem (by rw [HLN.out]; omega)]; rfl
        exact List.mem_of_getElem? e))
      obtain ⟨od, ho⟩ := order_some hfx hfy
      have hg : gtY (zs.getD k 0) (zs.getD (bstI zs k) 0) = (od == .gt) := by
        unfold gtY
        rw [ho]
        rfl
      rw [HXV.out] at ho
      have HG := Lib.hid hg
      have HSU := Lib.hid (fun h => bstI_up (zs := zs) (k := k) h)
      have HSS := Lib.hid (fun h => bstI_stay (zs := zs) (k := k) h)
      obtain ⟨yv, hyv⟩ : ∃ yv, zs.getD (bstI zs k) 0 = yv := ⟨_, rfl⟩
      rw [hyv] at ho ⊢
      have HYV := Lib.hid hyv
      clear hx hcx hg hfx hfy hxe hbl hyv
      cases od with
      | gt =>
        have HE := Lib.hid (HSU.out HG.out)
        clear HSU HSS
        go_wp2_with (go_at_call 89; refine (HDX.out _ _ _ _ (below_row hbw H0.out) HCX.out).mono ?_; rintro e W3 ⟨rfl, hb3⟩; replace hbw := hbw.trans (hb3.mono hbw.size); clear hb3)
        go_roundw
        case rel => exact ⟨k + 1, by omega, by omega, by first | (simp; done) | (simp; omega), by rw [HE.out], by rw [HE.out]; exact Value_float HXV.out.symm, hbw⟩
        case measure => simp [intOf]; omega
      | lt =>
        have HE := Lib.hid (HSS.out HG.out)
        clear HSU HSS
        go_wp2_with (go_at_call 89; refine (HDX.out _ _ _ _ (below_row hbw H0.out) HCX.out).mono ?_; rintro e W3 ⟨rfl, hb3⟩; replace hbw := hbw.trans (hb3.mono hbw.size); clear hb3)
        go_roundw
        case rel => exact ⟨k + 1, by omega, by omega, by first | (simp; done) | (simp; omega), by rw [HE.out], by rw [HE.out]; exact Value_float HYV.out.symm, hbw⟩
        case measure => simp [intOf]; omega
      | eq =>
        have HE := Lib.hid (HSS.out HG.out)
        clear HSU HSS
        go_wp2_with (go_at_call 89; refine (HDX.out _ _ _ _ (below_row hbw H0.out) HCX.out).mono ?_; rintro e W3 ⟨rfl, hb3⟩; replace hbw := hbw.trans (hb3.mono hbw.size); clear hb3)
        go_roundw
        case rel => exact ⟨k + 1, by omega, by omega, by first | (simp; done) | (simp; omega), by rw [HE.out], by rw [HE.out]; exact Value_float HYV.out.symm, hbw⟩
        case measure => simp [intOf]; omega
    · obtain rfl : k = n' := by omega
      go_wp2
      go_ret3
      exact ⟨rfl, hb.trans (hbw.mono hb.size)⟩

end Go.Proofs.YtmniodfdoidffaaDoor

namespace Go.Proofs.YtmniodfdoidffaaDoor
open Go.ChangeShapes Go.WideShapes Go.ChangeAt Go.RowKit Go.Deep Go.Joins

attribute [local go_sem] run_store_f

def MkS (w : World) (b g n : Nat) (wr : World) : Prop := Below b w wr ∧ (∀ j o, w.heap[j]? = some o → j ≠ g → wr.heap[j]? = some o) ∧ ∃ cur : Array Value, wr.heap[g]? = some (.cells cur 126 (0, 0)) ∧ cur.size = n * 48

set_option maxRecDepth 100000 in
set_option maxHeartbeats 4000000 in
theorem markSunS_any (b g n : Nat) (hn : n ≤ 1048576) (cur0 : Array Value) (w : World) (hg : w.heap[g]? = some (.cells cur0 126 (0, 0))) (hs : cur0.size = n * 48) (hbg : b ≤ g) :
    Calls Tryd.prog 44 #[.slice (some ⟨g, 0, none⟩) n n, .int .i64 1] w fun e w' => e = .returned (.int .i64 (1 + 48 * (n : Int))) ∧ MkS w b g n w' := by
  have HM : Hid (MkS w b g n w) := ⟨Below.refl _ _, fun j o h _ => h, cur0, hg, hs⟩
  clear hg hs
  go_enter Tryd.func44, Tryd.ntmps44
  go_wp2
  go_loopw [1, 5] (fun q i wr => ∃ k : Nat, k ≤ n ∧ i = .int .i64 k ∧ q = .int .i64 (1 + 48 * (k : Int)) ∧ MkS w b g n wr) (fun _ i _ => n - (intOf i).toNat)
  case atStart => exact ⟨0, Nat.zero_le _, rfl, rfl, HM.out⟩
  case round =>
    clear HM
    obtain ⟨k, hk, rfl, rfl, hmk0⟩ := hrel
    have HM := Lib.hid hmk0
    clear hmk0
    by_cases hlt : k < n
    · have z0 : (0 : Int) ≤ (k : Int) := by omega
      have z1 : (k : Int) < (n : Int) := by omega
      obtain ⟨wo6, rfl⟩ : ∃ wo : World, wo = wr := ⟨_, rfl⟩
      go_wp2
      go_loopw [1, 6] (fun q i wr => ∃ m : Nat, m ≤ 24 ∧ i = .int .i64 m ∧ q = .int .i64 (1 + 48 * (k : Int) + (m : Int)) ∧ MkS w b g n wr) (fun _ i _ => 24 - (intOf i).toNat)
      case atStart => exact ⟨0, Nat.zero_le _, rfl, by simp, HM.out⟩
      case round =>
        clear HM
        obtain ⟨m, hm, rfl, rfl, hmk⟩ := hrel
        obtain ⟨hbw, hot, cur, hg, hsz⟩ := hmk
        have Hot := Lib.hid hot
        have HG := Lib.hid hg
        by_cases hlm : m < 24
        · have hin : k * 48 + m < cur.size := by omega
          have q1 : wr.cell? ⟨g, k * 48 + m, none⟩ = some (cur[k * 48 + m]'hin) := cell_k hg (Array.getElem?_eq_getElem hin)
          have q2 := frozen_of_row wr g (k * 48 + m) _ _ hg
          have y0 : (0 : Int) ≤ (m : Int) := by omega
          have y1 : (m : Int) < 24 := by omega
          clear hot hg
          go_wp2
          go_roundw
          case rel => exact ⟨m + 1, by omega, by go_num, by first | (congr 1; omega) | (simp; omega), hbw.setCell (p := ⟨g, k * 48 + m, none⟩) hbg _, fun j o h hne => by rw [heap_setCell_other _ _ _ _ (by simpa using hne)]; exact Hot.out j o h hne, _, heap_setCell_same _ _ _ _ _ _ HG.out, by simpa using hsz⟩
          case measure => simp [intOf]; omega
        · obtain rfl : m = 24 := by omega
          have HM : Hid (MkS w b g n wr) := ⟨hbw, hot, cur, hg, hsz⟩
          clear hot hg Hot HG hsz hbw
          obtain ⟨wo7, rfl⟩ : ∃ wo : World, wo = wr := ⟨_, rfl⟩
          go_wp2
          go_loopw [1, 7] (fun q i wr => ∃ m : Nat, m ≤ 24 ∧ i = .int .i64 m ∧ q = .int .i64 (1 + 48 * (k : Int) + 24 + (m : Int)) ∧ MkS w b g n wr) (fun _ i _ => 24 - (intOf i).toNat)
          case atStart => exact ⟨0, Nat.zero_le _, rfl, by simp, HM.out⟩
          case round =>
            clear HM
            obtain ⟨m, hm, rfl, rfl, hmk⟩ := hrel
            obtain ⟨hbw, hot, cur, hg, hsz⟩ := hmk
            have Hot := Lib.hid hot
            have HG := Lib.hid hg
            by_cases hlm : m < 24
            · have hin : k * 48 + 24 + m < cur.size := by omega
              have q1 : wr.cell? ⟨g, k * 48 + 24 + m, none⟩ = some (cur[k * 48 + 24 + m]'hin) := cell_k hg (Array.getElem?_eq_getElem hin)
              have q2 := frozen_of_row wr g (k * 48 + 24 + m) _ _ hg
              have y0 : (0 : Int) ≤ (m : Int) := by omega
              have y1 : (m : Int) < 24 := by omega
              clear hot hg
              go_wp2
              go_roundw
              case rel => exact ⟨m + 1, by omega, by go_num, by first | (congr 1; omega) | (simp; omega), hbw.setCell (p := ⟨g, k * 48 + 24 + m, none⟩) hbg _, fun j o h hne => by rw [heap_setCell_other _ _ _ _ (by simpa using hne)]; exact Hot.out j o h hne, _, heap_setCell_same _ _ _ _ _ _ HG.out, by simpa using hsz⟩
              case measure => simp [intOf]; omega
            · obtain rfl : m = 24 := by omega
              have HM : Hid (MkS w b g n wr) := ⟨hbw, hot, cur, hg, hsz⟩
              clear hot hg Hot HG hsz hbw
              go_wp2
              go_roundw
              case rel => exact ⟨k + 1, by omega, by go_num, by first | (congr 1; omega) | (simp; omega), HM.out⟩
              case measure => simp [intOf]; omega
    · obtain rfl : k = n := by omega
      go_wp2
      go_ret
      exact ⟨rfl, HM.out⟩

end Go.Proofs.YtmniodfdoidffaaDoor

namespace Go.Proofs.YtmniodfdoidffaaDoor
open Go.ChangeShapes Go.WideShapes Go.ChangeAt Go.RowKit Go.Deep Go.Joins

attribute [local go_sem] run_store_f

set_option maxRecDepth 100000 in
set_option maxHeartbeats 8000000 in
theorem FnExactBestMonth_core (n : Int) (wd gp : Nat) (t : Int) (sh : Nat) (sv : Value) (ws : List Su) (hwf : ∀ x ∈ ws, SuWf x) (fc : Int) (v0 : Int) (v1 : Nat) (v2 : Int) (hv1 : fin32 v1 = true) (w : World) (hE : ErrT w) (hz : SunsAt w sv ws)
    (hspec : ∀ w u, SunsAt w u ws → Calls Tryd.prog 47 #[.agg (blindC n wd gp t sh), u, .int .i64 fc] w fun e w' => e = .returned (.tuple #[.int .i64 v0, .float .f32 v1, .int .i64 v2]) ∧ Below w.heap.size w w')
    (himpl : ∀ w u, ErrT w → SunsAt w u ws → Calls Tryd.prog 48 #[.agg (blindC n wd gp t sh), u, .int .i64 fc] w fun e w' => e = .returned (.tuple #[.int .i64 v0, .float .f32 v1, .int .i64 v2]) ∧ Below w.heap.size w w') :
    Calls Tryd.prog 8 #[.agg (blindC n wd gp t sh), sv, .int .i64 fc] w fun e w' => e = .returned (.bool true) ∧ Below w.heap.size w w' := by
  have HS := Lib.hid hspec
  have HI := Lib.hid himpl
  have HZ := Lib.hid hz
  have HWF := Lib.hid hwf
  have HEE := Lib.hid hE
  clear hspec himpl hwf hE
  obtain ⟨a, cap, rfl, hl1, hl2, _⟩ := hz
  unfold maxLen at hl2
  have HSZ := Lib.hid (fun w => szSunS_any a ws.length cap 1048576 (by omega) (by decide) (by decide) w)
  by_cases hlen : ws.length ≤ 1048576
  · have hle : leftI ws.length 1048576 = 1048576 - (ws.length : Int) := if_neg (by omega)
    rw [hle] at HSZ
    have zl : decide (1048576 - (ws.length : Int) < 0) = false := by apply decide_eq_false; omega
    have zl2 : ¬ 1048576 - (ws.length : Int) < 0 := by omega
    clear hle
    have hw1 := run_wide _ hv1
    have Hv1 := Lib.hid hv1
    clear hv1
    go_enter Tryd.func8, Tryd.ntmps8
    go_upto_region 1 with (fail)
    refine abs_world (fun W => Below w.heap.size w W ∧ W.heap[w.heap.size]? = some (.cells (blindC n wd gp t sh) 54 (0, 0))) ⟨(Below.refl _ _).alloc (Nat.le_refl _) _, heap_alloc_new _ _⟩ ?_
    rintro W ⟨hb, h0⟩
    have H0 := Lib.hid h0
    clear h0
    go_upto_region 5 with (first | (go_at_call 38; refine (HSZ.out _).mono ?_; rintro e w' ⟨rfl, rfl⟩))
    go_upto_region 6 with (first | (refine wpList_load_part rfl 54 _ rfl w.heap.size 0 5 rfl 54 (blindC n wd gp t sh) (0, 0) _ H0.out Tryd.underlying54 rfl info_blindL (blind_fits _ _ _ _ _) _ (blind_all _ _ _ _ _) ?_) | (go_at_call 35; refine (toBlind_any _ _ _ _ _ _).mono ?_; rintro e W1 ⟨rfl, hb1⟩; replace H0 := Lib.hid (below_row hb1 H0.out); replace hb := hb.trans (hb1.mono hb.size); clear hb1) | (go_at_call 40; refine (toSunS_own _ ws hlen HWF.out _ (suns_below HZ.out hb)).mono ?_; rintro e V1 ⟨⟨vHY, rfl, hv⟩, hb1⟩; have HY := Lib.hid hv; clear hv; replace H0 := Lib.hid (below_row hb1 H0.out); replace hb := hb.trans (hb1.mono hb.size); clear hb1) | (go_at_call 47; refine (HS.out _ _ (sunsOwn_at HY.out)).mono ?_; rintro e V2 ⟨rfl, hb1⟩; replace H0 := Lib.hid (below_row hb1 H0.out); replace hb := hb.trans (hb1.mono hb.size); clear hb1))
    clear HS HY
    go_upto_region 7 with (go_at_call 40; refine (toSunS_own _ ws hlen HWF.out _ (suns_below HZ.out hb)).mono ?_; rintro e V3 ⟨⟨vHX, rfl, hv⟩, hb1⟩; have HX := Lib.hid hv; clear hv; replace H0 := Lib.hid (below_row hb1 H0.out); replace hb := hb.trans (hb1.mono hb.size); clear hb1)
    go_upto_region 8 with (first | (refine wpList_load_part rfl 54 _ rfl w.heap.size 0 5 rfl 54 (blindC n wd gp t sh) (0, 0) _ H0.out Tryd.underlying54 rfl info_blindL (blind_fits _ _ _ _ _) _ (blind_all _ _ _ _ _) ?_) | (go_at_call 35; refine (toBlind_any _ _ _ _ _ _).mono ?_; rintro e W1 ⟨rfl, hb1⟩; replace H0 := Lib.hid (below_row hb1 H0.out); replace HX := Lib.hid (sunsOwn_below HX.out hb1); replace hb := hb.trans (hb1.mono hb.size); clear hb1) | (go_at_call 48; refine (HI.out _ _ (errT_below HEE.out hb) (sunsOwn_at HX.out)).mono ?_; rintro e V4 ⟨rfl, hb1⟩; replace H0 := Lib.hid (below_row hb1 H0.out); replace HX := Lib.hid (sunsOwn_below HX.out hb1); replace hb := hb.trans (hb1.mono hb.size); clear hb1))
    go_upto_region 10 with (go_at_call 33; refine (same_wide _ Hv1.out _).mono ?_; rintro e w1 ⟨rfl, rfl⟩)
    go_wp2_with (first | (go_at_call 40; refine (toSunS_own _ ws hlen HWF.out _ (suns_below HZ.out hb)).mono ?_; rintro e V5 ⟨⟨vHQ, rfl, hv⟩, hb1⟩; have HQ := Lib.hid hv; clear hv; replace HX := Lib.hid (sunsOwn_below HX.out hb1); replace hb := hb.trans (hb1.mono hb.size); clear hb1) | (go_at_call 43; refine (eqSunS_any _ _ ws HWF.out _ (sunsOwn_at HX.out) (sunsOwn_at HQ.out)).mono ?_; rintro e V6 ⟨rfl, hb1⟩; replace hb := hb.trans (hb1.mono hb.size); clear hb1))
    go_ret
    exact ⟨rfl, hb⟩
  · have hle : leftI ws.length 1048576 = -1 := if_pos (by omega)
    rw [hle] at HSZ
    clear HS HI HZ
    go_enter Tryd.func8, Tryd.ntmps8
    go_upto_region 1 with (fail)
    refine abs_world (fun W => Below w.heap.size w W ∧ W.heap[w.heap.size]? = some (.cells (blindC n wd gp t sh) 54 (0, 0))) ⟨(Below.refl _ _).alloc (Nat.le_refl _) _, heap_alloc_new _ _⟩ ?_
    rintro W ⟨hb, h0⟩
    have H0 := Lib.hid h0
    clear h0
    go_wp2_with (first | (go_at_call 38; refine (HSZ.out _).mono ?_; rintro e w' ⟨rfl, rfl⟩))
    go_ret
    exact ⟨rfl, hb⟩

set_option maxRecDepth 100000 in
set_option maxHeartbeats 8000000 in
theorem FnExactYearFacing_core (n : Int) (wd gp : Nat) (t : Int) (sh : Nat) (sv : Value) (ws : List Su) (hwf : ∀ x ∈ ws, SuWf x) (fc : Int) (v0 : Int) (v1 : Nat) (v2 : Int) (hv1 : fin32 v1 = true) (w : World) (hE : ErrT w) (hz : SunsAt w sv ws)
    (hspec : ∀ w u, SunsAt w u ws → Calls Tryd.prog 49 #[.agg (blindC n wd gp t sh), u, .int .i64 fc] w fun e w' => e = .returned (.tuple #[.int .i64 v0, .float .f32 v1, .int .i64 v2]) ∧ Below w.heap.size w w')
    (himpl : ∀ w u, ErrT w → SunsAt w u ws → Calls Tryd.prog 50 #[.agg (blindC n wd gp t sh), u, .int .i64 fc] w fun e w' => e = .returned (.tuple #[.int .i64 v0, .float .f32 v1, .int .i64 v2]) ∧ Below w.heap.size w w') :
    Calls Tryd.prog 9 #[.agg (blindC n wd gp t sh), sv, .int .i64 fc] w fun e w' => e = .returned (.bool true) ∧ Below w.heap.size w w' := by
  have HS := Lib.hid hspec
  have HI := Lib.hid himpl
  have HZ := Lib.hid hz
  have HWF := Lib.hid hwf
  have HEE := Lib.hid hE
  clear hspec himpl hwf hE
  obtain ⟨a, cap, rfl, hl1, hl2, _⟩ := hz
  unfold maxLen at hl2
  have HSZ := Lib.hid (fun w => szSunS_any a ws.length cap 1048576 (by omega) (by decide) (by decide) w)
  by_cases hlen : ws.length ≤ 1048576
  · have hle : leftI ws.length 1048576 = 1048576 - (ws.length : Int) := if_neg (by omega)
    rw [hle] at HSZ
    have zl : decide (1048576 - (ws.length : Int) < 0) = false := by apply decide_eq_false; omega
    have zl2 : ¬ 1048576 - (ws.length : Int) < 0 := by omega
    clear hle
    have hw1 := run_wide _ hv1
    have Hv1 := Lib.hid hv1
    clear hv1
    go_enter Tryd.func9, Tryd.ntmps9
    go_upto_region 1 with (fail)
    refine abs_world (fun W => Below w.heap.size w W ∧ W.heap[w.heap.size]? = some (.cells (blindC n wd gp t sh) 54 (0, 0))) ⟨(Below.refl _ _).alloc (Nat.le_refl _) _, heap_alloc_new _ _⟩ ?_
    rintro W ⟨hb, h0⟩
    have H0 := Lib.hid h0
    clear h0
    go_upto_region 5 with (first | (go_at_call 38; refine (HSZ.out _).mono ?_; rintro e w' ⟨rfl, rfl⟩))
    go_upto_region 6 with (first | (refine wpList_load_part rfl 54 _ rfl w.heap.size 0 5 rfl 54 (blindC n wd gp t sh) (0, 0) _ H0.out Tryd.underlying54 rfl info_blindL (blind_fits _ _ _ _ _) _ (blind_all _ _ _ _ _) ?_) | (go_at_call 35; refine (toBlind_any _ _ _ _ _ _).mono ?_; rintro e W1 ⟨rfl, hb1⟩; replace H0 := Lib.hid (below_row hb1 H0.out); replace hb := hb.trans (hb1.mono hb.size); clear hb1) | (go_at_call 40; refine (toSunS_own _ ws hlen HWF.out _ (suns_below HZ.out hb)).mono ?_; rintro e V1 ⟨⟨vHY, rfl, hv⟩, hb1⟩; have HY := Lib.hid hv; clear hv; replace H0 := Lib.hid (below_row hb1 H0.out); replace hb := hb.trans (hb1.mono hb.size); clear hb1) | (go_at_call 49; refine (HS.out _ _ (sunsOwn_at HY.out)).mono ?_; rintro e V2 ⟨rfl, hb1⟩; replace H0 := Lib.hid (below_row hb1 H0.out); replace hb := hb.trans (hb1.mono hb.size); clear hb1))
    clear HS HY
    go_upto_region 7 with (go_at_call 40; refine (toSunS_own _ ws hlen HWF.out _ (suns_below HZ.out hb)).mono ?_; rintro e V3 ⟨⟨vHX, rfl, hv⟩, hb1⟩; have HX := Lib.hid hv; clear hv; replace H0 := Lib.hid (below_row hb1 H0.out); replace hb := hb.trans (hb1.mono hb.size); clear hb1)
    go_upto_region 8 with (first | (refine wpList_load_part rfl 54 _ rfl w.heap.size 0 5 rfl 54 (blindC n wd gp t sh) (0, 0) _ H0.out Tryd.underlying54 rfl info_blindL (blind_fits _ _ _ _ _) _ (blind_all _ _ _ _ _) ?_) | (go_at_call 35; refine (toBlind_any _ _ _ _ _ _).mono ?_; rintro e W1 ⟨rfl, hb1⟩; replace H0 := Lib.hid (below_row hb1 H0.out); replace HX := Lib.hid (sunsOwn_below HX.out hb1); replace hb := hb.trans (hb1.mono hb.size); clear hb1) | (go_at_call 50; refine (HI.out _ _ (errT_below HEE.out hb) (sunsOwn_at HX.out)).mono ?_; rintro e V4 ⟨rfl, hb1⟩; replace H0 := Lib.hid (below_row hb1 H0.out); replace HX := Lib.hid (sunsOwn_below HX.out hb1); replace hb := hb.trans (hb1.mono hb.size); clear hb1))
    go_upto_region 10 with (go_at_call 33; refine (same_wide _ Hv1.out _).mono ?_; rintro e w1 ⟨rfl, rfl⟩)
    go_wp2_with (first | (go_at_call 40; refine (toSunS_own _ ws hlen HWF.out _ (suns_below HZ.out hb)).mono ?_; rintro e V5 ⟨⟨vHQ, rfl, hv⟩, hb1⟩; have HQ := Lib.hid hv; clear hv; replace HX := Lib.hid (sunsOwn_below HX.out hb1); replace hb := hb.trans (hb1.mono hb.size); clear hb1) | (go_at_call 43; refine (eqSunS_any _ _ ws HWF.out _ (sunsOwn_at HX.out) (sunsOwn_at HQ.out)).mono ?_; rintro e V6 ⟨rfl, hb1⟩; replace hb := hb.trans (hb1.mono hb.size); clear hb1))
    go_ret
    exact ⟨rfl, hb⟩
  · have hle : leftI ws.length 1048576 = -1 := if_pos (by omega)
    rw [hle] at HSZ
    clear HS HI HZ
    go_enter Tryd.func9, Tryd.ntmps9
    go_upto_region 1 with (fail)
    refine abs_world (fun W => Below w.heap.size w W ∧ W.heap[w.heap.size]? = some (.cells (blindC n wd gp t sh) 54 (0, 0))) ⟨(Below.refl _ _).alloc (Nat.le_refl _) _, heap_alloc_new _ _⟩ ?_
    rintro W ⟨hb, h0⟩
    have H0 := Lib.hid h0
    clear h0
    go_wp2_with (first | (go_at_call 38; refine (HSZ.out _).mono ?_; rintro e w' ⟨rfl, rfl⟩))
    go_ret
    exact ⟨rfl, hb⟩

theorem own_mkS {w w' : World} {b b' g n : Nat} {v : Value} {xs : List Nat} {cur0 : Array Value} (h : Own w b 25 (Value.float .f32) v xs) (hg : w.heap[g]? = some (.cells cur0 126 (0, 0))) (hm : MkS w b' g n w') : Own w' b 25 (Value.float .f32) v xs := by
  obtain ⟨a, c, rfl, h2, h3, h4⟩ := h
  refine ⟨a, c, rfl, h2, h3, h4.imp id ?_⟩
  rintro ⟨g', cur, rfl, hg', hc, hk⟩
  refine ⟨g', cur, rfl, hg', hm.2.1 g' _ hc ?_, hk⟩
  intro e
  rw [e, hg] at hc
  injection hc with e1
  injection e1 with _ e2 _
  revert e2
  decide

set_option maxRecDepth 100000 in
set_option maxHeartbeats 16000000 in
theorem FnExactYearLight_core (n : Int) (wd gp : Nat) (t : Int) (sh : Nat) (sv : Value) (ws : List Su) (hwf : ∀ x ∈ ws, SuWf x) (fc : Int) (xs : List Nat) (c : Int) (hn : xs.length ≤ 1000) (hfin : ∀ x ∈ xs, fin32 x = true) (w : World) (hE : ErrT w) (hz : SunsAt w sv ws)
    (hspec : ∀ w u, SunsAt w u ws → Calls Tryd.prog 39 #[.agg (blindC n wd gp t sh), u, .int .i64 fc] w (RetF6 xs c w))
    (himpl : ∀ w u, ErrT w → SunsAt w u ws → Calls Tryd.prog 41 #[.agg (blindC n wd gp t sh), u, .int .i64 fc] w (RetF6 xs c w)) :
    Calls Tryd.prog 7 #[.agg (blindC n wd gp t sh), sv, .int .i64 fc] w fun e w' => e = .returned (.bool true) ∧ Below w.heap.size w w' := by
  have HS := Lib.hid hspec
  have HI := Lib.hid himpl
  have HZ := Lib.hid hz
  have HWF := Lib.hid hwf
  have HEE := Lib.hid hE
  clear hspec himpl hwf hE
  have HFI := Lib.hid hfin
  clear hfin
  obtain ⟨a, cap, rfl, hl1, hl2, _⟩ := hz
  unfold maxLen at hl2
  have HSZ := Lib.hid (fun w => szSunS_any a ws.length cap 1048576 (by omega) (by decide) (by decide) w)
  by_cases hlen : ws.length ≤ 1048576
  · have hle : leftI ws.length 1048576 = 1048576 - (ws.length : Int) := if_neg (by omega)
    rw [hle] at HSZ
    have zl : decide (1048576 - (ws.length : Int) < 0) = false := by apply decide_eq_false; omega
    have zl2 : ¬ 1048576 - (ws.length : Int) < 0 := by omega
    clear hle
    have z0 : decide ((1 : Int) + (xs.length : Int) < 0) = false := by apply decide_eq_false; omega
    have z0' : decide ((1 : Int) + 48 * (ws.length : Int) < 0) = false := by apply decide_eq_false; omega
    have zc : (c != c) = false := by simp
    have zn : ((1 : Int) + (xs.length : Int) != 1 + (xs.length : Int)) = false := by simp
    go_enter Tryd.func7, Tryd.ntmps7
    go_upto_region 1 with (fail)
    refine abs_world (fun W => Below w.heap.size w W ∧ W.heap[w.heap.size]? = some (.cells (blindC n wd gp t sh) 54 (0, 0))) ⟨(Below.refl _ _).alloc (Nat.le_refl _) _, heap_alloc_new _ _⟩ ?_
    rintro W ⟨hb, h0⟩
    have H0 := Lib.hid h0
    clear h0
    go_upto_region 5 with (first | (go_at_call 38; refine (HSZ.out _).mono ?_; rintro e w' ⟨rfl, rfl⟩))
    go_upto_region 6 with (first | (refine wpList_load_part rfl 54 _ rfl w.heap.size 0 5 rfl 54 (blindC n wd gp t sh) (0, 0) _ H0.out Tryd.underlying54 rfl info_blindL (blind_fits _ _ _ _ _) _ (blind_all _ _ _ _ _) ?_) | (go_at_call 35; refine (toBlind_any _ _ _ _ _ _).mono ?_; rintro e W1 ⟨rfl, hb1⟩; replace H0 := Lib.hid (below_row hb1 H0.out); replace hb := hb.trans (hb1.mono hb.size); clear hb1) | (go_at_call 40; refine (toSunS_own _ ws hlen HWF.out _ (suns_below HZ.out hb)).mono ?_; rintro e V1 ⟨⟨vHY, rfl, hv⟩, hb1⟩; have HY := Lib.hid hv; clear hv; replace H0 := Lib.hid (below_row hb1 H0.out); replace hb := hb.trans (hb1.mono hb.size); clear hb1) | (go_at_call 39; refine (HS.out _ _ (sunsOwn_at HY.out)).mono ?_; rintro e V2 ⟨⟨fv0, rfl, hv⟩, hb1⟩; have HF0 := Lib.hid hv; clear hv; replace H0 := Lib.hid (below_row hb1 H0.out); replace hb := hb.trans (hb1.mono hb.size); clear hb1))
    clear HS HY
    have hv2s := row_lt H0.out
    go_upto_region 7 with (go_at_call 40; refine (toSunS_own _ ws hlen HWF.out _ (suns_below HZ.out hb)).mono ?_; rintro e V3 ⟨⟨vHX, rfl, hv⟩, hb1⟩; have HX := Lib.hid hv; clear hv; replace H0 := Lib.hid (below_row hb1 H0.out); replace HF0 := Lib.hid (own_below HF0.out hb1 (Nat.le_refl _)); replace hb := hb.trans (hb1.mono hb.size); clear hb1)
    obtain ⟨B2, hB2⟩ : ∃ B2, B2 = V3.heap.size := ⟨_, rfl⟩
    have hB2w : w.heap.size < B2 := by rw [hB2]; exact row_lt H0.out
    have HB2 : Hid (B2 ≤ V3.heap.size) := Lib.hid (by rw [hB2]; exact Nat.le_refl _)
    have hu0 : Under fv0 B2 := by rw [hB2]; exact under_of HF0.out
    clear hB2
    go_upto_region 8 with (first | (refine wpList_load_part rfl 54 _ rfl w.heap.size 0 5 rfl 54 (blindC n wd gp t sh) (0, 0) _ H0.out Tryd.underlying54 rfl info_blindL (blind_fits _ _ _ _ _) _ (blind_all _ _ _ _ _) ?_) | (go_at_call 35; refine (toBlind_any _ _ _ _ _ _).mono ?_; rintro e W1 ⟨rfl, hb1⟩; have hq1 := hb1.size; replace H0 := Lib.hid (below_row hb1 H0.out); replace HX := Lib.hid (sunsOwn_below HX.out hb1); replace HF0 := Lib.hid (own_below HF0.out hb1 (Nat.le_refl _)); replace hb := hb.trans (hb1.mono hb.size); clear hb1) | (go_at_call 41; refine (HI.out _ _ (errT_below HEE.out hb) (sunsOwn_at HX.out)).mono ?_; rintro e V4 ⟨⟨fv2, rfl, hv⟩, hb1⟩; have HF2 := Lib.hid (own_below hv (Below.refl _ _) (Nat.le_trans HB2.out hq1)); clear hv; replace H0 := Lib.hid (below_row hb1 H0.out); replace HX := Lib.hid (sunsOwn_below HX.out hb1); replace HF0 := Lib.hid (own_below HF0.out hb1 (Nat.le_refl _)); replace hb := hb.trans (hb1.mono hb.size); clear hb1))
    go_upto_region 10 with (go_at_call 42; refine (eqF_same xs HFI.out fv2 fv0 _ _ _ HF2.out HF0.out).mono ?_; rintro e V9 ⟨rfl, hb1⟩; replace H0 := Lib.hid (below_row hb1 H0.out); replace HX := Lib.hid (sunsOwn_below HX.out hb1); replace HF0 := Lib.hid (own_below HF0.out hb1 (Nat.le_refl _)); replace HF2 := Lib.hid (own_below HF2.out hb1 (Nat.le_refl _)); replace hb := hb.trans (hb1.mono hb.size); clear hb1)
    go_upto_region 12 with (first | (go_at_call 40; refine (toSunS_own _ ws hlen HWF.out _ (suns_below HZ.out hb)).mono ?_; rintro e V5 ⟨⟨vHQ, rfl, hv⟩, hb1⟩; have HQ := Lib.hid hv; clear hv; replace H0 := Lib.hid (below_row hb1 H0.out); replace HX := Lib.hid (sunsOwn_below HX.out hb1); replace HF0 := Lib.hid (own_below HF0.out hb1 (Nat.le_refl _)); replace HF2 := Lib.hid (own_below HF2.out hb1 (Nat.le_refl _)); replace hb := hb.trans (hb1.mono hb.size); clear hb1) | (go_at_call 43; refine (eqSunS_any _ _ ws HWF.out _ (sunsOwn_at HX.out) (sunsOwn_at HQ.out)).mono ?_; rintro e V6 ⟨rfl, hb1⟩; replace H0 := Lib.hid (below_row hb1 H0.out); replace HX := Lib.hid (sunsOwn_below HX.out hb1); replace HF0 := Lib.hid (own_below HF0.out hb1 (Nat.le_refl _)); replace HF2 := Lib.hid (own_below HF2.out hb1 (Nat.le_refl _)); replace hb := hb.trans (hb1.mono hb.size); clear hb1))
    clear HQ
    obtain ⟨gx, curx, evx, hlx, hbx, hgx, hsx, -⟩ := HX.out
    subst evx
    clear HX
    have HGX := Lib.hid hgx
    clear hgx
    go_upto_region 14 with (go_at_call 44; refine (markSunS_any w.heap.size gx ws.length hlx curx _ HGX.out hsx (by omega)).mono ?_; rintro e V8 ⟨rfl, hm⟩; replace HF0 := Lib.hid (own_mkS HF0.out HGX.out hm); replace HF2 := Lib.hid (own_mkS HF2.out HGX.out hm); replace H0 := Lib.hid (hm.2.1 _ _ H0.out (by omega)); replace hb := hb.trans hm.1; clear hm HGX)
    go_upto_region 16 with (go_at_call 42; refine (eqF_same xs HFI.out fv2 fv0 _ _ _ HF2.out HF0.out).mono ?_; rintro e V9 ⟨rfl, hb1⟩; replace H0 := Lib.hid (below_row hb1 H0.out); replace HF0 := Lib.hid (own_below HF0.out hb1 (Nat.le_refl _)); replace HF2 := Lib.hid (own_below HF2.out hb1 (Nat.le_refl _)); replace hb := hb.trans (hb1.mono hb.size); clear hb1)
    go_upto_region 18 with (go_at_call 45; refine (markF_any 1 xs fv2 B2 _ (by decide) (by decide) (by omega) HF2.out).mono ?_; intro e V10 hm; have hA := above_of HF2.out; replace HF0 := Lib.hid (own_markedF HF0.out hu0 hA hm); replace H0 := Lib.hid (hm.2.2.2 _ _ H0.out (fun g n c e => by have := hA g n c e; omega)); replace hb := hb.trans (hm.2.2.1.mono (by omega)); replace HF2 := Lib.hid hm.2.1; obtain rfl := hm.1; clear hm hA)
    go_upto_region 20 with (go_at_call 46; refine (heldF_same 1 xs.length fv2 _ _ (by decide) (by decide) (by omega) HF2.out).mono ?_; rintro e V11 ⟨rfl, hb1⟩; replace H0 := Lib.hid (below_row hb1 H0.out); replace HF0 := Lib.hid (own_below HF0.out hb1 (Nat.le_refl _)); replace HF2 := Lib.hid (own_below HF2.out hb1 (Nat.le_refl _)); replace hb := hb.trans (hb1.mono hb.size); clear hb1)
    go_upto_region 24 with (fail)
    go_upto_region 25 with (first | (refine wpList_load_part rfl 54 _ rfl w.heap.size 0 5 rfl 54 (blindC n wd gp t sh) (0, 0) _ H0.out Tryd.underlying54 rfl info_blindL (blind_fits _ _ _ _ _) _ (blind_all _ _ _ _ _) ?_) | (go_at_call 35; refine (toBlind_any _ _ _ _ _ _).mono ?_; rintro e W1 ⟨rfl, hb1⟩; replace H0 := Lib.hid (below_row hb1 H0.out); replace HF0 := Lib.hid (own_below HF0.out hb1 (Nat.le_refl _)); replace HF2 := Lib.hid (own_below HF2.out hb1 (Nat.le_refl _)); replace hb := hb.trans (hb1.mono hb.size); clear hb1) | (go_at_call 40; refine (toSunS_own _ ws hlen HWF.out _ (suns_below HZ.out hb)).mono ?_; rintro e V12 ⟨⟨vHY, rfl, hv⟩, hb1⟩; have HY := Lib.hid hv; clear hv; replace HF0 := Lib.hid (own_below HF0.out hb1 (Nat.le_refl _)); replace HF2 := Lib.hid (own_below HF2.out hb1 (Nat.le_refl _)); replace hb := hb.trans (hb1.mono hb.size); clear hb1) | (go_at_call 41; refine (HI.out _ _ (errT_below HEE.out hb) (sunsOwn_at HY.out)).mono ?_; rintro e V4 ⟨⟨fv4, rfl, hv⟩, hb1⟩; have HF4 := Lib.hid (hv); clear hv; replace HF0 := Lib.hid (own_below HF0.out hb1 (Nat.le_refl _)); replace HF2 := Lib.hid (own_below HF2.out hb1 (Nat.le_refl _)); replace hb := hb.trans (hb1.mono hb.size); clear hb1))
    clear HI HY
    go_upto_region 27 with (go_at_call 42; refine (eqF_same xs HFI.out fv4 fv0 _ _ _ HF4.out HF0.out).mono ?_; rintro e V9 ⟨rfl, hb1⟩; replace HF0 := Lib.hid (own_below HF0.out hb1 (Nat.le_refl _)); replace HF2 := Lib.hid (own_below HF2.out hb1 (Nat.le_refl _)); replace hb := hb.trans (hb1.mono hb.size); clear hb1)
    clear HF4 HF0
    go_wp2_with (go_at_call 46; refine (heldF_same 1 xs.length fv2 _ _ (by decide) (by decide) (by omega) HF2.out).mono ?_; rintro e V15 ⟨rfl, hb1⟩; replace HF2 := Lib.hid (own_below HF2.out hb1 (Nat.le_refl _)); replace hb := hb.trans (hb1.mono hb.size); clear hb1)
    go_ret
    exact ⟨rfl, hb⟩
  · have hle : leftI ws.length 1048576 = -1 := if_pos (by omega)
    rw [hle] at HSZ
    clear HS HI HZ
    go_enter Tryd.func7, Tryd.ntmps7
    go_upto_region 1 with (fail)
    refine abs_world (fun W => Below w.heap.size w W ∧ W.heap[w.heap.size]? = some (.cells (blindC n wd gp t sh) 54 (0, 0))) ⟨(Below.refl _ _).alloc (Nat.le_refl _) _, heap_alloc_new _ _⟩ ?_
    rintro W ⟨hb, h0⟩
    have H0 := Lib.hid h0
    clear h0
    go_wp2_with (first | (go_at_call 38; refine (HSZ.out _).mono ?_; rintro e w' ⟨rfl, rfl⟩))
    go_ret
    exact ⟨rfl, hb⟩

end Go.Proofs.YtmniodfdoidffaaDoor

namespace Go.Proofs.YtmniodfdoidffaaDoor
open Go

/-- The number without its sign. -/
def mag (x : Nat) : Nat := if x < 2147483648 then x else x - 2147483648
theorem mag_num {x : Nat} (h : isNum x) : (sv x).natAbs = rv (mag x) ∧ mag x < 2139095040 := by
  unfold mag
  rcases h with h | ⟨h1, h2⟩
  · rw [if_pos (by omega), sv_pos (by omega), Int.natAbs_natCast]; exact ⟨rfl, h⟩
  · obtain ⟨r, rfl⟩ : ∃ r, x = 2147483648 + r := ⟨x - 2147483648, by omega⟩
    rw [if_neg (by omega), sv_neg, Int.natAbs_neg, Int.natAbs_natCast, Nat.add_sub_cancel_left]
    exact ⟨rfl, by omega⟩
theorem mag_pos {x : Nat} (h : x < 2147483648) : mag x = x := if_pos h
theorem mag_sign (s : Bool) {r C : Nat} (hC : C < 2139095040) (h : r ≤ C) : isNum (if s then 2147483648 + r else r) ∧ mag (if s then 2147483648 + r else r) = r := by
  unfold mag
  cases s
  · rw [if_neg (by simp), if_pos (by omega)]; exact ⟨.inl (by omega), rfl⟩
  · rw [if_pos rfl, if_neg (by omega), Nat.add_sub_cancel_left]; exact ⟨.inr ⟨by omega, by omega⟩, rfl⟩

/-- What a sum of signed numbers rounds to. -/
theorem sum_core {A B : Nat} (hA : A < 2139095040) (hB : B < 2139095040) (hC : fadd A B < 2139095040) (T : Int) (p : Nat) (sg : Bool) (h : T.natAbs * 2 ^ p ≤ rv A + rv B) :
    isNum (Ieee.single.nearest sg T.natAbs (-149 + (p : Int))) ∧ mag (Ieee.single.nearest sg T.natAbs (-149 + (p : Int))) ≤ fadd A B := by
  have hR := nearest_rnd T.natAbs (-149 + (p : Int)) p 0 (by omega)
  have hC2 := (add_rnd hA hB).2
  have hle := rnd_mono hR hC2 (by decide) (by decide) (by simpa using h)
  rw [nearest_sign]
  obtain ⟨a, b⟩ := mag_sign sg hC hle
  exact ⟨a, by rw [b]; exact hle⟩

theorem add_mag {x y A B : Nat} (hx : isNum x) (hy : isNum y) (hxA : mag x ≤ A) (hyB : mag y ≤ B) (hA : A < 2139095040) (hB : B < 2139095040) (hC : fadd A B < 2139095040) :
    floatBits .add .f32 x y = some (fadd x y) ∧ isNum (fadd x y) ∧ mag (fadd x y) ≤ fadd A B := by
  have hX := (mag_num hx).1
  have hY := (mag_num hy).1
  have hXA := rv_le hxA
  have hYB := rv_le hyB
  obtain ⟨s, m, i, hr, hm⟩ := read_num32 hx
  obtain ⟨t, n, j, hq, hn⟩ := read_num32 hy
  rw [← signed_scale s m i (min i j) (Nat.min_le_left _ _)] at hm
  rw [← signed_scale t n j (min i j) (Nat.min_le_right _ _)] at hn
  have h : Ieee.single.add x y = some (Ieee.single.nearest (if Ieee.signed s m (i - min i j) + Ieee.signed t n (j - min i j) = 0 then (s && t) else decide (Ieee.signed s m (i - min i j) + Ieee.signed t n (j - min i j) < 0)) (Ieee.signed s m (i - min i j) + Ieee.signed t n (j - min i j)).natAbs (-149 + ((min i j : Nat) : Int))) := by
    unfold Ieee.Format.add
    rw [hr, hq]
    have e0 : min (-149 + (i : Int)) (-149 + (j : Int)) = -149 + ((min i j : Nat) : Int) := by omega
    have e1 : (-149 + (i : Int) - (-149 + ((min i j : Nat) : Int))).toNat = i - min i j := by omega
    have e2 : (-149 + (j : Int) - (-149 + ((min i j : Nat) : Int))).toNat = j - min i j := by omega
    simp only [Ieee.Datum.sum, Option.map_some, Ieee.Format.write, e0, e1, e2]
  have e1 : fadd x y = (Ieee.single.add x y).getD 0 := rfl
  refine ⟨by rw [e1, h]; exact h, ?_⟩
  rw [h, Option.getD_some] at e1
  generalize hT : Ieee.signed s m (i - min i j) + Ieee.signed t n (j - min i j) = T at *
  have hsv : T * ((2 ^ min i j : Nat) : Int) = sv x + sv y := by rw [← hT, Int.add_mul, hm, hn]
  have habs : T.natAbs * 2 ^ min i j ≤ rv A + rv B := by
    have h1 : (T * ((2 ^ min i j : Nat) : Int)).natAbs = T.natAbs * 2 ^ min i j := by rw [Int.natAbs_mul, Int.natAbs_natCast]
    rw [← h1, hsv]
    omega
  rw [e1]
  exact sum_core hA hB hC T _ _ habs

theorem sub_mag {x y A B : Nat} (hx : isNum x) (hy : isNum y) (hxA : mag x ≤ A) (hyB : mag y ≤ B) (hA : A < 2139095040) (hB : B < 2139095040) (hC : fadd A B < 2139095040) :
    floatBits .sub .f32 x y = some (fsub x y) ∧ isNum (fsub x y) ∧ mag (fsub x y) ≤ fadd A B := by
  have hX := (mag_num hx).1
  have hY := (mag_num hy).1
  have hXA := rv_le hxA
  have hYB := rv_le hyB
  obtain ⟨s, m, i, hr, hm⟩ := read_num32 hx
  obtain ⟨t, n, j, hq, hn⟩ := read_num32 hy
  rw [← signed_scale s m i (min i j) (Nat.min_le_left _ _)] at hm
  rw [← signed_scale t n j (min i j) (Nat.min_le_right _ _)] at hn
  have h : Ieee.single.sub x y = some (Ieee.single.nearest (if Ieee.signed s m (i - min i j) - Ieee.signed t n (j - min i j) = 0 then (s && !t) else decide (Ieee.signed s m (i - min i j) - Ieee.signed t n (j - min i j) < 0)) (Ieee.signed s m (i - min i j) - Ieee.signed t n (j - min i j)).natAbs (-149 + ((min i j : Nat) : Int))) := by
    unfold Ieee.Format.sub
    rw [hr, hq]
    have e0 : min (-149 + (i : Int)) (-149 + (j : Int)) = -149 + ((min i j : Nat) : Int) := by omega
    have e1 : (-149 + (i : Int) - (-149 + ((min i j : Nat) : Int))).toNat = i - min i j := by omega
    have e2 : (-149 + (j : Int) - (-149 + ((min i j : Nat) : Int))).toNat = j - min i j := by omega
    simp only [Ieee.Datum.opposite, Ieee.Datum.sum, Option.map_some, Ieee.Format.write, e0, e1, e2, signed_not, ← Int.sub_eq_add_neg]
  have e1 : fsub x y = (Ieee.single.sub x y).getD 0 := rfl
  refine ⟨by rw [e1, h]; exact h, ?_⟩
  rw [h, Option.getD_some] at e1
  generalize hT : Ieee.signed s m (i - min i j) - Ieee.signed t n (j - min i j) = T at *
  have hsv : T * ((2 ^ min i j : Nat) : Int) = sv x - sv y := by rw [← hT, Int.sub_mul, hm, hn]
  have habs : T.natAbs * 2 ^ min i j ≤ rv A + rv B := by
    have h1 : (T * ((2 ^ min i j : Nat) : Int)).natAbs = T.natAbs * 2 ^ min i j := by rw [Int.natAbs_mul, Int.natAbs_natCast]
    rw [← h1, hsv]
    omega
  rw [e1]
  exact sum_core hA hB hC T _ _ habs

theorem read_mag {x : Nat} (h : isNum x) : ∃ (s : Bool) (m i : Nat), Ieee.single.read x = .number s m (-149 + (i : Int)) ∧ m * 2 ^ i = rv (mag x) := by
  unfold mag
  rcases h with h | ⟨h1, h2⟩
  · obtain ⟨m, i, hr, hm⟩ := read_pos h
    exact ⟨false, m, i, hr, by rw [if_pos (by omega)]; exact hm⟩
  · obtain ⟨r, rfl⟩ : ∃ r, x = 2147483648 + r := ⟨x - 2147483648, by omega⟩
    obtain ⟨m, i, hr, hm⟩ := read_neg (r := r) (by omega)
    exact ⟨true, m, i, hr, by rw [if_neg (by omega), Nat.add_sub_cancel_left]; exact hm⟩

theorem mul_mag {x y A B : Nat} (hx : isNum x) (hy : isNum y) (hxA : mag x ≤ A) (hyB : mag y ≤ B) (hA : A < 2139095040) (hB : B < 2139095040) (hC : fmul A B < 2139095040) :
    floatBits .mul .f32 x y = some (fmul x y) ∧ isNum (fmul x y) ∧ mag (fmul x y) ≤ fmul A B := by
  obtain ⟨s, m, i, hr, hm⟩ := read_mag hx
  obtain ⟨t, n, j, hq, hn⟩ := read_mag hy
  have h : Ieee.single.mul x y = some (Ieee.single.nearest (s ^^ t) (m * n) ((-149 + (i : Int)) + (-149 + (j : Int)))) := by
    unfold Ieee.Format.mul
    rw [hr, hq]
    first | rfl | (cases s <;> cases t <;> rfl)
  have e1 : fmul x y = (Ieee.single.mul x y).getD 0 := rfl
  refine ⟨by rw [e1, h]; exact h, ?_⟩
  rw [h, Option.getD_some] at e1
  have hR := nearest_rnd (m * n) ((-149 + (i : Int)) + (-149 + (j : Int))) (i + j) 149 (by omega)
  have e2 : m * n * 2 ^ (i + j) = rv (mag x) * rv (mag y) := by rw [← hm, ← hn, Nat.pow_add, Nat.mul_mul_mul_comm]
  rw [e2] at hR
  have hle := rnd_mono hR (mul_rnd hA hB).2 (Nat.two_pow_pos _) (Nat.two_pow_pos _) (Nat.mul_le_mul_right _ (Nat.mul_le_mul (rv_le hxA) (rv_le hyB)))
  rw [e1, nearest_sign]
  obtain ⟨a, b⟩ := mag_sign (s ^^ t) hC hle
  exact ⟨a, by rw [b]; exact hle⟩

/-- A number divided by one that is greater than 0. -/
theorem div_mag {x y A B : Nat} (hx : isNum x) (hxA : mag x ≤ A) (hA : A < 2139095040) (hy : y < 2139095040) (hB : 0 < B) (hBy : B ≤ y) (hC : fdiv A B < 2139095040) :
    floatBits .quo .f32 x y = some (fdiv x y) ∧ isNum (fdiv x y) ∧ mag (fdiv x y) ≤ fdiv A B := by
  have hmx := (mag_num hx).2
  obtain ⟨h0, hR⟩ := div_rnd (x := mag x) hmx hy (by omega)
  have hle : fdiv (mag x) y ≤ fdiv A B := div_mono hA hy hB hxA hBy
  have key : ∃ sg : Bool, floatBits .quo .f32 x y = some (if sg then 2147483648 + fdiv (mag x) y else fdiv (mag x) y) := by
    rcases hx with hx | ⟨h1, h2⟩
    · refine ⟨false, ?_⟩
      rw [if_neg (by simp), mag_pos (by omega)]
      rw [mag_pos (by omega)] at h0
      exact h0
    · obtain ⟨r, rfl⟩ : ∃ r, x = 2147483648 + r := ⟨x - 2147483648, by omega⟩
      have em : mag (2147483648 + r) = r := by unfold mag; rw [if_neg (by omega), Nat.add_sub_cancel_left]
      rw [em] at h0 ⊢
      refine ⟨true, ?_⟩
      rw [if_pos rfl]
      obtain ⟨m, i, hr, hm⟩ := read_neg (r := r) (by omega)
      obtain ⟨m', i', hr', hm'⟩ := read_pos (x := r) (by omega)
      obtain ⟨n, j, hq, hn⟩ := read_pos hy
      have hn0 : n ≠ 0 := by
        intro h; rw [h, Nat.zero_mul] at hn; have := rv_pos (r := y) (by omega); omega
      have hneg : Ieee.single.read (2147483648 + r) = .number true m' (-149 + (i' : Int)) := by
        have hb : Ieee.single.binade = 8388608 := by decide
        have hi : Ieee.single.infRung = 2139095040 := by decide
        have hl : Ieee.single.leastPlace = -149 := by decide
        have hw : Ieee.single.signWeight = 2147483648 := by decide
        unfold Ieee.Format.read at hr' ⊢
        simp only [hb, hi, hl, hw] at hr' ⊢
        rw [Nat.mod_eq_of_lt (show r < 2147483648 by omega), Nat.div_eq_of_lt (show r < 2147483648 by omega)] at hr'
        rw [show (2147483648 + r) % 2147483648 = r by omega, show (2147483648 + r) / 2147483648 = 1 by omega]
        by_cases c : r < 8388608
        · rw [if_pos c] at hr' ⊢
          simpa using hr'
        · rw [if_neg c, if_pos (by omega)] at hr' ⊢
          simpa using hr'
      show Ieee.single.div (2147483648 + r) y = _
      have h0' : Ieee.single.div r y = some (fdiv r y) := h0
      unfold Ieee.Format.div at h0' ⊢
      rw [hr', hq] at h0'
      rw [hneg, hq]
      simp only [Ieee.Datum.quotient, if_neg hn0, Option.map_some, Ieee.Format.write, Option.some.injEq] at h0' ⊢
      have hs1 : (true ^^ false) = true := rfl
      have hs2 : (false ^^ false) = false := rfl
      simp only [hs1, hs2] at h0' ⊢
      rw [nearest_sign, if_pos rfl, h0']
  obtain ⟨sg, key⟩ := key
  have e1 : fdiv x y = (floatBits .quo .f32 x y).getD 0 := rfl
  refine ⟨by rw [e1, key]; rfl, ?_⟩
  rw [key, Option.getD_some] at e1
  rw [e1]
  obtain ⟨a, b⟩ := mag_sign sg hC hle
  exact ⟨a, by rw [b]; exact hle⟩

/-- A number that is not NaN, and a finite one: their sum is not NaN. -/
theorem add_fin {x y : Nat} (hx : fin32 x = true) (hy : num32 y = true) : floatBits .add .f32 x y = some (fadd x y) ∧ fin32 (fadd x y) = true := by
  suffices h : ∃ d, (Ieee.single.read x).sum (Ieee.single.read y) = some d ∧ fin32 (Ieee.single.write d) = true by
    obtain ⟨d, h1, h2⟩ := h
    have h3 : Ieee.single.add x y = some (Ieee.single.write d) := by unfold Ieee.Format.add; rw [h1]; rfl
    have e1 : fadd x y = Ieee.single.write d := by unfold fadd; rw [h3]; rfl
    rw [e1]; exact ⟨h3, h2⟩
  obtain ⟨t, n, f, hq⟩ := num32_get hy
  rw [hq]
  unfold fin32 at hx
  cases hr : Ieee.single.read x with
  | nan s g => rw [hr] at hx; cases hx
  | infinity s => exact ⟨_, rfl, write_fin _ rfl⟩
  | number s m e => exact ⟨_, rfl, write_fin _ rfl⟩

end Go.Proofs.YtmniodfdoidffaaDoor

namespace Go.Proofs.YtmniodfdoidffaaDoor
open Go

/-- A finite number whose size is at most 1048576. -/
def PlnOk (x : Nat) : Prop := isNum x ∧ mag x ≤ 1233125376
theorem zero_num : isNum 0 := .inl (by decide)
theorem mag_zero : mag 0 = 0 := rfl

theorem snoc_ind {α : Type} {Pr : List α → Prop} (h0 : Pr []) (hs : ∀ l x, Pr l → Pr (l ++ [x])) : ∀ l, Pr l := by
  intro l
  have h : ∀ n (l : List α), l.length = n → Pr l := by
    intro n
    induction n with
    | zero => intro l hl; rw [List.eq_nil_of_length_eq_zero hl]; exact h0
    | succ n ih =>
      intro l hl
      rcases List.eq_nil_or_concat l with rfl | ⟨l', x, rfl⟩
      · exact h0
      · rw [List.concat_eq_append] at hl ⊢
        exact hs l' x (ih l' (by simp at hl; omega))
  exact h _ l rfl

/-- The bound of a sum of so many plain numbers. -/
def capS : Nat → Nat
  | 0 => 0
  | k + 1 => fadd (capS k) 1233125376
theorem capS_lt : ∀ k : Nat, k < 49 → capS k < 2139095040 := by decide +kernel

/-- The sum from the first number on, beginning with 0. -/
def leftS (zs : List Nat) : Nat := zs.foldl fadd 0
theorem leftS_nil : leftS [] = 0 := rfl
theorem leftS_snoc (zs : List Nat) (q : Nat) : leftS (zs ++ [q]) = fadd (leftS zs) q := by simp [leftS]
theorem leftS_ok : ∀ zs : List Nat, (∀ z ∈ zs, PlnOk z) → zs.length ≤ 48 → isNum (leftS zs) ∧ mag (leftS zs) ≤ capS zs.length := by
  refine snoc_ind (fun _ _ => ⟨zero_num, Nat.le_refl _⟩) (fun l x ih hq hl => ?_)
  simp only [List.length_append, List.length_cons, List.length_nil] at hl ⊢
  obtain ⟨h1, h2⟩ := ih (fun q hm => hq q (by simp [hm])) (by omega)
  obtain ⟨p1, p2⟩ := hq x (by simp)
  rw [leftS_snoc]
  exact (add_mag h1 p1 h2 p2 (capS_lt _ (by omega)) (by decide) (capS_lt (l.length + 1) (by omega))).2
theorem leftS_step {l : List Nat} {q : Nat} (hq : ∀ z ∈ l, PlnOk z) (h : PlnOk q) (hl : l.length ≤ 47) : floatBits .add .f32 (leftS l) q = some (leftS (l ++ [q])) := by
  obtain ⟨h1, h2⟩ := leftS_ok l hq (by omega)
  rw [leftS_snoc]
  exact (add_mag h1 h.1 h2 h.2 (capS_lt _ (by omega)) (by decide) (capS_lt (l.length + 1) (by omega))).1
theorem take_snoc {α : Type} {zs : List α} {k : Nat} {x : α} (h : zs[k]? = some x) : zs.take (k + 1) = zs.take k ++ [x] := by
  obtain ⟨hk, rfl⟩ := List.getElem?_eq_some_iff.1 h
  exact List.take_succ_eq_append_getElem hk
theorem leftS_take {zs : List Nat} (hq : ∀ z ∈ zs, PlnOk z) (hl : zs.length ≤ 48) {k x : Nat} (h : zs[k]? = some x) : floatBits .add .f32 (leftS (zs.take k)) x = some (leftS (zs.take (k + 1))) := by
  have hk := (List.getElem?_eq_some_iff.1 h).1
  rw [take_snoc h]
  exact leftS_step (fun z hz => hq z (List.mem_of_mem_take hz)) (hq x (List.mem_of_getElem? h)) (by rw [List.length_take]; omega)

/-! ### The mean -/
theorem cnt_facts : ∀ n : Nat, n < 49 → floatOfInt .f32 (n : Int) < 2139095040 ∧ (0 < n → 1065353216 ≤ floatOfInt .f32 (n : Int)) := by decide +kernel
theorem capS_one : ∀ n : Nat, n < 49 → fdiv (capS n) 1065353216 ≤ 1283457024 := by decide +kernel
def meanS (zs : List Nat) : Nat := fdiv (leftS zs) (floatOfInt .f32 (zs.length : Int))
theorem mean_ok {zs : List Nat} (hq : ∀ z ∈ zs, PlnOk z) (h1 : 1 ≤ zs.length) (hl : zs.length ≤ 48) :
    floatBits .quo .f32 (leftS zs) (floatOfInt .f32 (zs.length : Int)) = some (meanS zs) ∧ isNum (meanS zs) ∧ mag (meanS zs) ≤ 1283457024 := by
  obtain ⟨a, b⟩ := leftS_ok zs hq hl
  obtain ⟨c, d⟩ := cnt_facts zs.length (by omega)
  have e := capS_one zs.length (by omega)
  obtain ⟨f, g, h⟩ := div_mag (B := 1065353216) a b (capS_lt _ (by omega)) c (by decide) (d (by omega)) (by omega)
  exact ⟨f, g, Nat.le_trans h e⟩

/-! ### Sums of products -/
def capD (D : Nat) : Nat → Nat
  | 0 => 0
  | k + 1 => fadd (capD D k) (fmul D D)
def dotK (xs ys : List Nat) : Nat → Nat
  | 0 => 0
  | k + 1 => fadd (dotK xs ys k) (fmul (xs.getD k 0) (ys.getD k 0))
def MagLe (D x : Nat) : Prop := isNum x ∧ mag x ≤ D
theorem dot_ok {D : Nat} (hD : D < 2139095040) (hM : fmul D D < 2139095040) (hc : ∀ k : Nat, k < 49 → capD D k < 2139095040) {xs ys : List Nat} (hx : ∀ x ∈ xs, MagLe D x) (hy : ∀ y ∈ ys, MagLe D y) (hl : xs.length ≤ 48) (he : ys.length = xs.length) :
    ∀ k, k ≤ xs.length → isNum (dotK xs ys k) ∧ mag (dotK xs ys k) ≤ capD D k
  | 0, _ => ⟨zero_num, Nat.le_refl _⟩
  | k + 1, hk => by
    obtain ⟨h1, h2⟩ := dot_ok hD hM hc hx hy hl he k (by omega)
    have a := hx (xs.getD k 0) (List.mem_of_getElem? (i := k) (by rw [List.getElem?_eq_getElem (by omega)]; simp [List.getD, show k < xs.length by omega]))
    have b := hy (ys.getD k 0) (List.mem_of_getElem? (i := k) (by rw [List.getElem?_eq_getElem (by omega)]; simp [List.getD, show k < ys.length by omega]))
    obtain ⟨_, m2, m3⟩ := mul_mag a.1 b.1 a.2 b.2 hD hD hM
    exact (add_mag h1 m2 h2 m3 (hc k (by omega)) hM (hc (k + 1) (by omega))).2
theorem dot_step {D : Nat} (hD : D < 2139095040) (hM : fmul D D < 2139095040) (hc : ∀ k : Nat, k < 49 → capD D k < 2139095040) {xs ys : List Nat} (hx : ∀ x ∈ xs, MagLe D x) (hy : ∀ y ∈ ys, MagLe D y) (hl : xs.length ≤ 48) (he : ys.length = xs.length) {k x y : Nat} (ex : xs[k]? = some x) (ey : ys[k]? = some y) :
    floatBits .mul .f32 x y = some (fmul x y) ∧ floatBits .add .f32 (dotK xs ys k) (fmul x y) = some (dotK xs ys (k + 1)) := by
  have hk := (List.getElem?_eq_some_iff.1 ex).1
  obtain ⟨h1, h2⟩ := dot_ok hD hM hc hx hy hl he k (by omega)
  have a := hx x (List.mem_of_getElem? ex)
  have b := hy y (List.mem_of_getElem? ey)
  obtain ⟨m1, m2, m3⟩ := mul_mag a.1 b.1 a.2 b.2 hD hD hM
  have e1 : xs.getD k 0 = x := by simp [List.getD, ex]
  have e2 : ys.getD k 0 = y := by simp [List.getD, ey]
  refine ⟨m1, ?_⟩
  rw [dotK, e1, e2]
  exact (add_mag h1 m2 h2 m3 (hc k (by omega)) hM (hc (k + 1) (by omega))).1
theorem capD_plain : ∀ k : Nat, k < 49 → capD 1233125376 k < 2139095040 := by decide +kernel
/-- Differences to a mean. -/
def offD : Nat := 1291845632
theorem offD_get : fadd 1233125376 1283457024 ≤ offD := by decide +kernel
theorem capD_off : ∀ k : Nat, k < 49 → capD offD k < 2139095040 := by decide +kernel
theorem off_ok {x m : Nat} (hx : PlnOk x) (hm : isNum m ∧ mag m ≤ 1283457024) : floatBits .sub .f32 x m = some (fsub x m) ∧ MagLe offD (fsub x m) := by
  have hlt : fadd 1233125376 1283457024 < 2139095040 := by decide +kernel
  obtain ⟨a, b, c⟩ := sub_mag hx.1 hm.1 hx.2 hm.2 (by decide) (by decide) hlt
  exact ⟨a, b, Nat.le_trans c offD_get⟩
theorem capD_one : ∀ n : Nat, n < 49 → fdiv (capD offD n) 1065353216 < 2139095040 := by decide +kernel
def offS (zs : List Nat) : List Nat := zs.map fun x => fsub x (meanS zs)
def sqoS (zs : List Nat) : Nat := fdiv (dotK (offS zs) (offS zs) zs.length) (floatOfInt .f32 (zs.length : Int))
theorem offS_ok {zs : List Nat} (hq : ∀ z ∈ zs, PlnOk z) (h1 : 1 ≤ zs.length) (hl : zs.length ≤ 48) : ∀ x ∈ offS zs, MagLe offD x := by
  intro x hx
  obtain ⟨z, hz, rfl⟩ := List.mem_map.1 hx
  exact (off_ok (hq z hz) (mean_ok hq h1 hl).2).2
theorem sqo_ok {zs : List Nat} (hq : ∀ z ∈ zs, PlnOk z) (h1 : 1 ≤ zs.length) (hl : zs.length ≤ 48) :
    floatBits .quo .f32 (dotK (offS zs) (offS zs) zs.length) (floatOfInt .f32 (zs.length : Int)) = some (sqoS zs) ∧ fin32 (sqoS zs) = true := by
  have el : (offS zs).length = zs.length := by simp [offS]
  have ho := offS_ok hq h1 hl
  obtain ⟨a, b⟩ := dot_ok (D := offD) (by decide) (by decide +kernel) capD_off ho ho (by omega) rfl zs.length (by omega)
  obtain ⟨c, d⟩ := cnt_facts zs.length (by omega)
  obtain ⟨f, g, _⟩ := div_mag (B := 1065353216) a b (capD_off _ (by omega)) c (by decide) (d (by omega)) (capD_one _ (by omega))
  exact ⟨f, num_fin (num_of_isNum g)⟩

/-! ### Halves -/
def pairsF : Nat → List Nat → Nat
  | 0, _ => 0
  | d + 1, zs => if zs.length = 0 then 0 else if zs.length = 1 then zs.getD 0 0 else fadd (pairsF d (zs.take (zs.length / 2))) (pairsF d (zs.drop (zs.length / 2)))
theorem pairsF_two (d : Nat) (zs : List Nat) (h : 2 ≤ zs.length) : pairsF (d + 1) zs = fadd (pairsF d (zs.take (zs.length / 2))) (pairsF d (zs.drop (zs.length / 2))) := by
  rw [pairsF, if_neg (by omega), if_neg (by omega)]
def capP (d : Nat) : Nat := 1233125376 + d * 8388608
theorem capP_add : ∀ d : Nat, d < 7 → fadd (capP d) (capP d) = capP (d + 1) ∧ capP d < 2139095040 := by decide +kernel
theorem pairsF_ok : ∀ (d : Nat) (zs : List Nat), d ≤ 6 → zs.length ≤ 2 ^ d → (∀ z ∈ zs, PlnOk z) → isNum (pairsF (d + 1) zs) ∧ mag (pairsF (d + 1) zs) ≤ capP d := by
  intro d
  induction d with
  | zero =>
    intro zs _ hl hq
    unfold pairsF
    split
    · exact ⟨zero_num, Nat.zero_le _⟩
    · rename_i h0
      have h1 : zs.length = 1 := by simp at hl; omega
      rw [if_pos h1]
      obtain ⟨a, b⟩ := hq (zs.getD 0 0) (List.mem_of_getElem? (i := 0) (by rw [List.getElem?_eq_getElem (by omega)]; simp [List.getD, h1]))
      exact ⟨a, by unfold capP; omega⟩
  | succ d ih =>
    intro zs hd hl hq
    unfold pairsF
    split
    · exact ⟨zero_num, Nat.zero_le _⟩
    · split
      · rename_i h0 h1
        obtain ⟨a, b⟩ := hq (zs.getD 0 0) (List.mem_of_getElem? (i := 0) (by rw [List.getElem?_eq_getElem (by omega)]; simp [List.getD, h1]))
        exact ⟨a, by unfold capP; omega⟩
      · rw [Nat.pow_succ] at hl
        obtain ⟨a1, a2⟩ := ih (zs.take (zs.length / 2)) (by omega) (by rw [List.length_take]; omega) (fun z hz => hq z (List.mem_of_mem_take hz))
        obtain ⟨b1, b2⟩ := ih (zs.drop (zs.length / 2)) (by omega) (by rw [List.length_drop]; omega) (fun z hz => hq z (List.mem_of_mem_drop hz))
        obtain ⟨c1, c2⟩ := capP_add d (by omega)
        have c3 : capP (d + 1) < 2139095040 := by unfold capP; omega
        have := (add_mag a1 b1 a2 b2 c2 c2 (by rw [c1]; exact c3)).2
        rw [c1] at this
        exact this
theorem pairsF_step (d : Nat) (zs : List Nat) (hd : d ≤ 5) (h2 : 2 ≤ zs.length) (hl : zs.length ≤ 2 ^ (d + 1)) (hq : ∀ z ∈ zs, PlnOk z) :
    floatBits .add .f32 (pairsF (d + 1) (zs.take (zs.length / 2))) (pairsF (d + 1) (zs.drop (zs.length / 2))) = some (pairsF (d + 2) zs) := by
  rw [Nat.pow_succ] at hl
  obtain ⟨a1, a2⟩ := pairsF_ok d (zs.take (zs.length / 2)) (by omega) (by rw [List.length_take]; omega) (fun z hz => hq z (List.mem_of_mem_take hz))
  obtain ⟨b1, b2⟩ := pairsF_ok d (zs.drop (zs.length / 2)) (by omega) (by rw [List.length_drop]; omega) (fun z hz => hq z (List.mem_of_mem_drop hz))
  obtain ⟨c1, c2⟩ := capP_add d (by omega)
  have c3 : capP (d + 1) < 2139095040 := by unfold capP; omega
  have := (add_mag a1 b1 a2 b2 c2 c2 (by rw [c1]; exact c3)).1
  rw [pairsF_two (d + 1) zs h2]
  exact this

/-! ### A sum with a rest -/
def keptY (s : Nat × Nat) (q : Nat) : Nat := fsub q s.2
def keptN (s : Nat × Nat) (q : Nat) : Nat × Nat := (fadd s.1 (keptY s q), fsub (fsub (fadd s.1 (keptY s q)) s.1) (keptY s q))
def keptS (zs : List Nat) : Nat × Nat := zs.foldl keptN (0, 0)
theorem keptS_snoc (zs : List Nat) (q : Nat) : keptS (zs ++ [q]) = keptN (keptS zs) q := by simp [keptS]
def capY (c : Nat × Nat) : Nat := fadd 1233125376 c.2
def capN (c : Nat × Nat) : Nat × Nat := (fadd c.1 (capY c), fadd (fadd (fadd c.1 (capY c)) c.1) (capY c))
def capR (c : Nat × Nat) : Nat → Nat × Nat
  | 0 => c
  | k + 1 => capN (capR c k)
def capG (c : Nat × Nat) : Bool := decide (c.1 < 2139095040) && decide (c.2 < 2139095040) && decide (capY c < 2139095040) && decide (fadd c.1 (capY c) < 2139095040) && decide (fadd (fadd c.1 (capY c)) c.1 < 2139095040) && decide (fadd (fadd (fadd c.1 (capY c)) c.1) (capY c) < 2139095040)
def capAll (c : Nat × Nat) : Nat → Bool
  | 0 => capG c
  | k + 1 => capG c && capAll (capN c) k
theorem capAll_get : ∀ (n : Nat) (c : Nat × Nat), capAll c n = true → ∀ k, k ≤ n → capG (capR c k) = true := by
  intro n
  induction n with
  | zero => intro c h k hk; obtain rfl : k = 0 := by omega
            exact h
  | succ n ih =>
    intro c h k hk
    simp only [capAll, Bool.and_eq_true] at h
    have sh : ∀ k, capR (capN c) k = capR c (k + 1) := by
      intro k
      induction k with
      | zero => rfl
      | succ k ik => rw [capR, ik]; rfl
    cases k with
    | zero => exact h.1
    | succ k => rw [← sh k]; exact ih (capN c) h.2 k (by omega)
theorem cap48 : capAll (0, 0) 47 = true := by decide +kernel
def KeptLe (s c : Nat × Nat) : Prop := isNum s.1 ∧ isNum s.2 ∧ mag s.1 ≤ c.1 ∧ mag s.2 ≤ c.2
theorem kept_facts {s c : Nat × Nat} {q : Nat} (hs : KeptLe s c) (hq : PlnOk q) (hc : capG c = true) :
    floatBits .sub .f32 q s.2 = some (keptY s q) ∧ floatBits .add .f32 s.1 (keptY s q) = some (keptN s q).1 ∧ floatBits .sub .f32 (keptN s q).1 s.1 = some (fsub (keptN s q).1 s.1) ∧ floatBits .sub .f32 (fsub (keptN s q).1 s.1) (keptY s q) = some (keptN s q).2 ∧ KeptLe (keptN s q) (capN c) := by
  simp only [capG, Bool.and_eq_true, decide_eq_true_eq] at hc
  obtain ⟨⟨⟨⟨⟨c1, c2⟩, c3⟩, c4⟩, c5⟩, c6⟩ := hc
  obtain ⟨s1, s2, m1, m2⟩ := hs
  obtain ⟨a1, a2, a3⟩ := sub_mag hq.1 s2 hq.2 m2 (by decide) c2 c3
  obtain ⟨b1, b2, b3⟩ := add_mag s1 a2 m1 a3 c1 c3 c4
  obtain ⟨d1, d2, d3⟩ := sub_mag b2 s1 b3 m1 c4 c1 c5
  obtain ⟨e1, e2, e3⟩ := sub_mag d2 a2 d3 a3 c5 c3 c6
  exact ⟨a1, b1, d1, e1, b2, e2, b3, e3⟩
theorem keptS_ok : ∀ zs : List Nat, (∀ z ∈ zs, PlnOk z) → zs.length ≤ 48 → KeptLe (keptS zs) (capR (0, 0) zs.length) := by
  refine snoc_ind (fun _ _ => ⟨zero_num, zero_num, Nat.le_refl _, Nat.le_refl _⟩) (fun l x ih hq hl => ?_)
  simp only [List.length_append, List.length_cons, List.length_nil] at hl ⊢
  have h1 := ih (fun q hm => hq q (by simp [hm])) (by omega)
  rw [keptS_snoc]
  exact (kept_facts h1 (hq x (by simp)) (capAll_get 47 _ cap48 _ (by omega))).2.2.2.2
theorem keptS_take {zs : List Nat} (hq : ∀ z ∈ zs, PlnOk z) (hl : zs.length ≤ 48) {k x : Nat} (h : zs[k]? = some x) :
    floatBits .sub .f32 x (keptS (zs.take k)).2 = some (keptY (keptS (zs.take k)) x) ∧ floatBits .add .f32 (keptS (zs.take k)).1 (keptY (keptS (zs.take k)) x) = some (keptS (zs.take (k + 1))).1 ∧ floatBits .sub .f32 (keptS (zs.take (k + 1))).1 (keptS (zs.take k)).1 = some (fsub (keptS (zs.take (k + 1))).1 (keptS (zs.take k)).1) ∧ floatBits .sub .f32 (fsub (keptS (zs.take (k + 1))).1 (keptS (zs.take k)).1) (keptY (keptS (zs.take k)) x) = some (keptS (zs.take (k + 1))).2 := by
  have hk := (List.getElem?_eq_some_iff.1 h).1
  have h1 := keptS_ok (zs.take k) (fun z hz => hq z (List.mem_of_mem_take hz)) (by rw [List.length_take]; omega)
  obtain ⟨a, b, c, d, _⟩ := kept_facts h1 (hq x (List.mem_of_getElem? h)) (capAll_get 47 _ cap48 _ (by rw [List.length_take]; omega))
  rw [take_snoc h, keptS_snoc]
  exact ⟨a, b, c, d⟩
theorem num_finN {x : Nat} (h : isNum x) : fin32 x = true := num_fin (num_of_isNum h)

end Go.Proofs.YtmniodfdoidffaaDoor
